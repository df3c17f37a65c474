/- Texts of this claim, joined (K1). -/
import Derived.Test.YtibegnjaphohaaaDoorZK0
import Derived.Lib.AppendZeros

section
namespace Go.Proofs.YtibegnjaphohaaaDoor.Sha
open Go Go.RowKit
open Rely Auto Own
set_option linter.unusedVariables false
set_option linter.unusedSimpArgs false
theorem Qim (n : Nat) (h0 : 0 < n) (hn : n < 32) : IntKind.u64.wrap (-(n : Int)) = 18446744073709551616 - (n : Int) := by
  have : IntKind.u64.wrap (-(n : Int)) = (-(n : Int)) % 2 ^ 64 := rfl
  rw [this]; omega
theorem Qlm : ∀ n : Nat, 0 < n → n < 32 → bits .and .u64 (18446744073709551616 - (n : Int)) 31 = ((32 - n : Nat) : Int) := by
  have h : ∀ n : Fin 32, 0 < n.1 → bits .and .u64 (18446744073709551616 - (n.1 : Int)) 31 = ((32 - n.1 : Nat) : Int) := by decide
  intro n h0 hn
  exact h ⟨n, hn⟩ h0
theorem Qkm (n : Nat) (hn : n < 32) : IntKind.u64.wrap (32 - ((32 - n : Nat) : Int)) = ((n : Nat) : Int) := by
  have : ∀ z : Int, IntKind.u64.wrap z = z % 2 ^ 64 := fun _ => rfl
  rw [this]; omega
set_option maxHeartbeats 4000000 in
theorem rotC (x : Wd) (n : Nat) (m : Int) (hm : m = -(n : Int)) (h0 : 0 < n) (hn : n < 32) (w : World) : Calls Tryd.prog 77 #[.int .u32 (wv x), .int .i64 m] w (Ret w (.int .u32 (wv (rr x n)))) := by
  refine enter 17 [(0, .int .u32 (wv x)), (1, .int .i64 m)] Tryd.func77 rfl rfl kj rfl ?_
  refine sgB kj ?_
  refine sgC fun K2 hK2 => ?_
  refine sg 1 kj ?_
  refine Qaa (.int .u64 (18446744073709551616 - (n : Int))) 7 rfl kj (Qag (u := .int .u64 (IntKind.u64.wrap (m))) kj (congrArg (Value.int .u64) (by rw [hm]; exact Qim n h0 hn))) ?_
  refine Qaa (.int .u64 (((32 - n : Nat) : Int))) 8 rfl kj (Qag (u := .int .u64 (bits .and .u64 ((18446744073709551616 - (n : Int))) (31))) kj (congrArg (Value.int .u64) (Qlm n h0 hn))) ?_
  refine sg 1 kj ?_
  refine sgN hK2 ?_
  refine sgC fun K3 hK3 => ?_
  refine sg 2 kj ?_
  refine Qaa (.int .u32 (wv (x <<< (32 - n)))) 11 rfl kj (Qay .shl _ _ _ _ .u32 .u64 _ _ _ rfl kj kj (Qf6 _ _ _ _ _ _ (by omega) (Qjw x _ (32 - n) rfl (by omega)))) ?_
  refine sg 2 kj ?_
  refine Qaa (.int .u64 (((n : Nat) : Int))) 14 rfl kj (Qag (u := .int .u64 (IntKind.u64.wrap (32 - ((32 - n : Nat) : Int)))) kj (congrArg (Value.int .u64) (Qkm n hn))) ?_
  refine Qaa (.int .u32 (wv (x >>> n))) 15 rfl kj (Qay .shr _ _ _ _ .u32 .u64 _ _ _ rfl kj kj (QaH _ _ _ _ _ _ (by omega) (QaP x _ n rfl (by omega)))) ?_
  refine Qaa (.int .u32 (wv (((x <<< (32 - n))) ||| ((x >>> n))))) 16 rfl kj (Qag (u := .int .u32 (bits .or .u32 (wv (x <<< (32 - n))) (wv (x >>> n)))) kj (congrArg (Value.int .u32) (w_or _ _))) ?_
  refine sg 1 kj ?_
  refine sgN hK3 ?_
  refine wp_ret ?_
  repeat (first | with_reducible refine goR1 ?_ | with_reducible refine goR2 ?_)
  exact (show bodyPost _ _ _ .ret _ _ from ret1 (.int .u32 (wv (((x <<< (32 - n))) ||| ((x >>> n))))) rfl (Qa7 kj) ⟨rfl, (Rely.Ext.refl w)⟩)
theorem Qjx (n : Nat) (hn : n < 32) : IntKind.u64.wrap (32 - ((n : Nat) : Int)) = ((32 - n : Nat) : Int) := by
  have : ∀ z : Int, IntKind.u64.wrap z = z % 2 ^ 64 := fun _ => rfl
  rw [this]; omega
set_option maxHeartbeats 4000000 in
theorem Qem (x : Wd) (n : Nat) (m : Int) (hm : m = (n : Int)) (h0 : 0 < n) (hn : n < 32) (w : World) : Calls Tryd.prog 65 #[.int .u32 (wv x), .int .u64 m] w (Ret w (.int .u32 (wv (rr x n)))) := by
  subst hm
  refine enter 13 [(0, .int .u32 (wv x)), (1, .int .u64 ((n : Nat) : Int))] Tryd.func65 rfl rfl kj rfl ?_
  refine sgB kj ?_
  refine sgC fun K2 hK2 => ?_
  refine sg 2 kj ?_
  refine Qaa (.int .u32 (wv (x >>> n))) 7 rfl kj (Qay .shr _ _ _ _ .u32 .u64 _ _ _ rfl kj kj (QaH _ _ _ _ _ _ (by omega) (QaP x _ n rfl (by omega)))) ?_
  refine sg 2 kj ?_
  refine Qaa (.int .u64 (((32 - n : Nat) : Int))) 10 rfl kj (Qag (u := .int .u64 (IntKind.u64.wrap (32 - ((n : Nat) : Int)))) kj (congrArg (Value.int .u64) (Qjx n hn))) ?_
  refine Qaa (.int .u32 (wv (x <<< (32 - n)))) 11 rfl kj (Qay .shl _ _ _ _ .u32 .u64 _ _ _ rfl kj kj (Qf6 _ _ _ _ _ _ (by omega) (Qjw x _ (32 - n) rfl (by omega)))) ?_
  refine Qaa (.int .u32 (wv (((x >>> n)) + ((x <<< (32 - n)))))) 12 rfl kj (Qag (u := .int .u32 (IntKind.u32.wrap (wv (x >>> n) + wv (x <<< (32 - n))))) kj (congrArg (Value.int .u32) (Qbu _ _))) ?_
  refine sg 1 kj ?_
  refine sgN hK2 ?_
  refine wp_ret ?_
  repeat (first | with_reducible refine goR1 ?_ | with_reducible refine goR2 ?_)
  exact (show bodyPost _ _ _ .ret _ _ from ret1 (.int .u32 (wv (((x >>> n)) + ((x <<< (32 - n)))))) rfl (Qa7 kj) ⟨congrArg (fun z => Ending.returned (.int .u32 (wv z))) (Qkj x n h0 hn), (Rely.Ext.refl w)⟩)
theorem Qc1 (ws : List Wd) (n : Nat) : (wmore ws n).length = ws.length + n := by
  induction n with
  | zero => rfl
  | succ n ih => simp [wmore, ih]; omega
theorem Qf9 (b : List Int) : (w16 b).length = 16 := by simp [w16]
theorem QbI (b : List Int) : (w64 b).length = 64 := by rw [w64, Qc1, Qf9]
theorem QdM (ws : List Wd) (n m j : Nat) (hj : j < ws.length + n) (hm : n ≤ m) : wget (wmore ws m) j = wget (wmore ws n) j := by
  induction m with
  | zero =>
    obtain rfl : n = 0 := by omega
    rfl
  | succ m ih =>
    rcases Nat.lt_or_ge m n with h | h
    · obtain rfl : n = m + 1 := by omega
      rfl
    · rw [← ih h]
      show wget (wmore ws m ++ _) j = _
      unfold wget
      rw [List.getD_eq_getElem?_getD, List.getElem?_append_left (by rw [Qc1]; omega), ← List.getD_eq_getElem?_getD]
theorem Qg7 (ws : List Wd) (n : Nat) : wget (wmore ws (n + 1)) (ws.length + n) = wnext (wmore ws n) := by
  show wget (wmore ws n ++ [_]) _ = _
  unfold wget
  rw [List.getD_eq_getElem?_getD, List.getElem?_append_right (by rw [Qc1]; omega), Qc1, Nat.sub_self]
  rfl
theorem QfU (b : List Int) (i : Nat) (h : 16 ≤ i) (hi : i < 64) : wget (w64 b) i = sig1 (wget (w64 b) (i - 2)) + wget (w64 b) (i - 7) + sig0 (wget (w64 b) (i - 15)) + wget (w64 b) (i - 16) := by
  obtain ⟨n, rfl⟩ : ∃ n, i = 16 + n := ⟨i - 16, by omega⟩
  have hl := Qf9 b
  have g : ∀ j, j < 16 + n → wget (w64 b) j = wget (wmore (w16 b) n) j := fun j hj => QdM (w16 b) n 48 j (by omega) (by omega)
  have g1 : wget (w64 b) (16 + n) = wget (wmore (w16 b) (n + 1)) (16 + n) := QdM (w16 b) (n + 1) 48 _ (by omega) (by omega)
  rw [g1, g _ (by omega), g _ (by omega), g _ (by omega), g _ (by omega)]
  have h2 := Qg7 (w16 b) n
  rw [hl] at h2
  rw [h2]
  unfold wnext
  rw [Qc1, hl]
theorem Qhf (b : List Int) (i : Nat) (hi : i < 16) : wget (w64 b) i = be4 (nth b (4 * i)) (nth b (4 * i + 1)) (nth b (4 * i + 2)) (nth b (4 * i + 3)) := by
  have g1 : wget (w64 b) i = wget (w16 b) i := QdM (w16 b) 0 48 i (by rw [Qf9]; omega) (by omega)
  rw [g1]
  unfold wget w16
  rw [List.getD_eq_getElem?_getD, List.getElem?_map, List.getElem?_range hi]
  rfl
def hor (b : List Int) (i : Nat) : Nat → Wd
  | 0 => 0
  | j + 1 => hor b i j <<< 8 ||| BitVec.ofInt 32 (nth b (4 * i + j))
theorem QiN {b : List Int} (hb : Qao b) (i j : Nat) : hor b i j <<< 8 ||| BitVec.ofInt 32 (nth b (4 * i + j)) = hor b i (j + 1) := rfl
theorem QeL (x : Wd) (n : Int) (h : 0 ≤ n ∧ n ≤ 255) : x <<< 8 ||| BitVec.ofInt 32 n = BitVec.ofInt 32 (wv x * 256 + n) := by
  have e : x <<< 8 ||| BitVec.ofInt 32 n = x <<< 8 + BitVec.ofInt 32 n := by
    refine (BitVec.add_eq_or_of_and_eq_zero _ _ ?_).symm
    apply BitVec.eq_of_getLsbD_eq
    intro i hi
    simp only [BitVec.getLsbD_and, BitVec.getLsbD_shiftLeft, BitVec.getLsbD_zero]
    rcases Nat.lt_or_ge i 8 with h1 | h1
    · simp [h1]
    · have : (BitVec.ofInt 32 n).getLsbD i = false := by
        have hn : (BitVec.ofInt 32 n).toNat < 2 ^ i := by
          have e : (BitVec.ofInt 32 n).toNat = n.toNat := by rw [BitVec.toNat_ofInt]; omega
          rw [e]
          have : 2 ^ 8 ≤ 2 ^ i := Nat.pow_le_pow_right (by decide) h1
          omega
        exact BitVec.testBit_toNat _ ▸ Nat.testBit_lt_two_pow hn
      rw [this, Bool.and_false]
  rw [e]
  apply BitVec.eq_of_toNat_eq
  rw [BitVec.toNat_add, BitVec.toNat_shiftLeft, Nat.shiftLeft_eq, BitVec.toNat_ofInt, BitVec.toNat_ofInt]
  unfold wv
  have := x.isLt
  omega
theorem hor4 {b : List Int} (hb : Qao b) (i : Nat) : hor b i 4 = be4 (nth b (4 * i)) (nth b (4 * i + 1)) (nth b (4 * i + 2)) (nth b (4 * i + 3)) := by
  have h0 := hb.nth (4 * i)
  have h1 := hb.nth (4 * i + 1)
  have h2 := hb.nth (4 * i + 2)
  have h3 := hb.nth (4 * i + 3)
  show ((((0 : Wd) <<< 8 ||| BitVec.ofInt 32 (nth b (4 * i + 0))) <<< 8 ||| BitVec.ofInt 32 (nth b (4 * i + 1))) <<< 8 ||| BitVec.ofInt 32 (nth b (4 * i + 2))) <<< 8 ||| BitVec.ofInt 32 (nth b (4 * i + 3)) = _
  rw [Nat.add_zero, QeL _ _ h3, QeL _ _ h2, QeL _ _ h1, QeL _ _ h0]
  unfold be4
  apply BitVec.eq_of_toNat_eq
  rw [BitVec.toNat_ofInt, BitVec.toNat_ofInt]
  simp only [Qe7]
  have : wv 0 = 0 := rfl
  rw [this]
  omega
theorem Qll {b : List Int} (hb : Qao b) (i : Nat) : IntKind.u32.wrap (nth b i) = wv (BitVec.ofInt 32 (nth b i)) := by rw [QdK, Qe7]
theorem QhY {b : List Int} {i : Nat} (h : ((w64 b).map wv).length = 64) (hi : i < 64) : fill ((w64 b).map wv) 64 i = (fill ((w64 b).map wv) 64 i).set i (wv (hor b i 0)) := by
  have e : nth (fill ((w64 b).map wv) 64 i) i = 0 := QhW h (Nat.le_refl _)
  have h0 : wv (hor b i 0) = nth (fill ((w64 b).map wv) 64 i) i := by rw [e]; rfl
  rw [h0]
  have hl : i < (fill ((w64 b).map wv) 64 i).length := by rw [QbE h (by omega)]; exact hi
  rw [show nth (fill ((w64 b).map wv) 64 i) i = (fill ((w64 b).map wv) 64 i)[i] by simp [nth, hl], List.set_getElem_self]
theorem QhX {b : List Int} {i : Nat} (h : ((w64 b).map wv).length = 64) (hi : i < 16) (hb : Qao b) : (fill ((w64 b).map wv) 64 i).set i (wv (hor b i 4)) = fill ((w64 b).map wv) 64 (i + 1) := by
  rw [← QdI h (by omega), Qcr, hor4 hb, Qhf b i hi]
set_option maxHeartbeats 4000000 in
theorem Qj1 (b : List Int) (hbl : b.length = 64) (hbb : Qao b) (w : World) : Calls Tryd.prog 76 #[.agg (ints .u8 b)] w (Ret w (.agg (ints .u32 ((w64 b).map wv)))) := by
 refine enter 81 [(0, .agg (ints .u8 (b)))] Tryd.func76 rfl rfl kj rfl ?_
 refine sgC fun K1 hK1 => ?_
 refine Qar (ints .u8 (b)) 107 1 rfl kj kj fun g2 W1 l2 e1 r2_1 => ?_
 have x1 := Ext.tr (Rely.Ext.refl w) e1
 have b2 := Nat.le_trans (Rely.Ext.refl w).size l2
 refine Qar (ints .u32 (List.replicate 64 0)) 132 2 rfl kj kj fun g3 W2 l3 e2 r3_2 => ?_
 have x2 := Ext.tr x1 e2
 refine sgN hK1 ?_
 refine sgC fun K4 hK4 => ?_
 refine Qar (ints .u32 (List.replicate 64 0)) 132 3 rfl kj kj fun g5 W3 l5 e3 r5_3 => ?_
 have b5 := Nat.le_trans x2.size l5
 refine sgN hK4 ?_
 refine wp_seq_k fun K6 hK6 => ?_
 refine sgB kj ?_
 refine wp_block ?_
 have hl64 : ((w64 b).map wv).length = 64 := by rw [List.length_map, QbI]
 refine Qa9 (fun (s1 : Nat) => [(12, .int .i64 ((s1 : Nat) : Int)), (1, .pointer (some ⟨g2, 0, none⟩)), (2, .pointer (some ⟨g3, 0, none⟩)), (3, .pointer (some ⟨g5, 0, none⟩))]) (fun (s1 : Nat) W => (s1 ≤ 16) ∧ (W.heap[g5]? = some (.cells (ints .u32 (fill ((w64 b).map wv) 64 s1)) 132)) ∧ (Qal [g5] W3 W) ∧ (Ext w W)) (fun (s1 : Nat) => 16 - s1) 0 ⟨kj, kj, kj, kj, trivial⟩ ⟨(Nat.zero_le _), (QaV r5_3 (Qec _ 64).symm), (Qal.refl [g5] W3), (Ext.tr x2 e3)⟩ fun s1 X1 V1 hI1 => ?_
 obtain ⟨i, hs1⟩ : ∃ z, z = s1 := ⟨_, rfl⟩
 subst hs1
 obtain ⟨hi, q5_1, kk1, xx1⟩ := hI1
 replace hi : i ≤ 16 := hi
 replace q5_1 : V1.heap[g5]? = some (.cells (ints .u32 (fill ((w64 b).map wv) 64 i)) 132) := q5_1
 replace kk1 : Qal [g5] W3 V1 := kk1
 replace xx1 : Ext w V1 := xx1
 have q4 := kk1
 refine sgB kj ?_
 refine wp_seq_k fun K9 hK9 => ?_
 refine Qa5 (t := decide (((i : Nat) : Int) < 16)) kj (fun c10 => ?_) (fun c10 => ?_)
 ·skip
  have hlt13 : i < 16 := by have := of_decide_eq_true c10; omega
  refine wp_skip ?_
  refine hK9 _ _ ?_
  refine wp_seq_k fun K11 hK11 => ?_
  refine wp_block ?_
  refine sgB kj ?_
  refine sgC fun K13 hK13 => ?_
  refine sg 1 kj ?_
  refine Qaa (.int .i64 ((4 * i : Nat) : Int)) 16 rfl kj (Qag (u := .int .i64 (IntKind.i64.wrap (4 * ((i : Nat) : Int)))) kj (congrArg (Value.int .i64) (i64n _ _ (by omega) (by omega)))) ?_
  refine sg 1 kj ?_
  refine Qaa (.int .i64 ((4 * i : Nat) : Int)) 18 rfl kj (Qag (u := .int .i64 (IntKind.i64.wrap (4 * ((i : Nat) : Int)))) kj (congrArg (Value.int .i64) (i64n _ _ (by omega) (by omega)))) ?_
  refine Qaa (.int .i64 (((4 * i) + 4 : Nat) : Int)) 19 rfl kj (Qag (u := .int .i64 (IntKind.i64.wrap (((4 * i : Nat) : Int) + 4))) kj (congrArg (Value.int .i64) (i64n _ _ (by omega) (by omega)))) ?_
  refine Qaa (.slice (some ⟨g2, 0 + (4 * i), none⟩) (((4 * i) + 4) - (4 * i)) (64 - (4 * i))) 20 rfl kj (QcD 107 _ _ _ (4 * i) ((4 * i) + 4) 64 g2 0 5 rfl kj kj kj ⟨.i64, by kernel_rfl⟩ ⟨.i64, by kernel_rfl⟩ (by omega) (by omega) (by omega)) ?_
  refine sg 2 kj ?_
  refine sgN hK13 ?_
  refine wp_block ?_
  refine Qa9 (fun (s2 : Nat) => [(4, .int .i64 ((i : Nat) : Int)), (12, .int .i64 ((i : Nat) : Int)), (20, .slice (some ⟨g2, 0 + (4 * i), none⟩) (((4 * i) + 4) - (4 * i)) (64 - (4 * i))), (21, .int .i64 ((((4 * i) + 4) - (4 * i) : Nat) : Int)), (22, .int .i64 ((s2 : Nat) : Int)), (1, .pointer (some ⟨g2, 0, none⟩)), (2, .pointer (some ⟨g3, 0, none⟩)), (3, .pointer (some ⟨g5, 0, none⟩))]) (fun (s2 : Nat) W => (s2 ≤ 4) ∧ (W.heap[g5]? = some (.cells (ints .u32 ((fill ((w64 b).map wv) 64 i).set i (wv (hor b i s2)))) 132)) ∧ (Qal [g5] V1 W) ∧ (Ext w W)) (fun (s2 : Nat) => 4 - s2) 0 ⟨kj, kj, kj, kj, kj, kj, kj, kj, trivial⟩ ⟨(Nat.zero_le _), (QaV q5_1 (QhY hl64 (by omega))), (Qal.refl [g5] V1), xx1⟩ fun s2 X2 V2 hI2 => ?_
  obtain ⟨j, hs2⟩ : ∃ z, z = s2 := ⟨_, rfl⟩
  subst hs2
  obtain ⟨hj, q5_2, kk2, xx2⟩ := hI2
  replace hj : j ≤ 4 := hj
  replace q5_2 : V2.heap[g5]? = some (.cells (ints .u32 ((fill ((w64 b).map wv) 64 i).set i (wv (hor b i j)))) 132) := q5_2
  replace kk2 : Qal [g5] V1 V2 := kk2
  replace xx2 : Ext w V2 := xx2
  have q5 := kk2
  refine sgB kj ?_
  refine wp_seq_k fun K15 hK15 => ?_
  refine Qa5 (t := decide (((j : Nat) : Int) < ((((4 * i) + 4) - (4 * i) : Nat) : Int))) kj (fun c16 => ?_) (fun c16 => ?_)
  ·skip
   have hlt23 : j < 4 := by have := of_decide_eq_true c16; omega
   refine wp_skip ?_
   refine hK15 _ _ ?_
   refine wp_seq_k fun K17 hK17 => ?_
   refine wp_block ?_
   refine sgC fun K18 hK18 => ?_
   refine Qaa (.pointer (some ⟨g2, 0 + (4 * i) + j, none⟩)) 24 rfl kj (QcE 38 _ _ .i64 j g2 (0 + (4 * i)) (((4 * i) + 4) - (4 * i)) (64 - (4 * i)) 5 rfl kj kj kj kj (by omega)) ?_
   have r2_2 := (Qab r2_1 e2)
   refine Qaa (.int .u8 (nth b (4 * i + j))) 25 rfl kj (Qah 5 _ g2 (0 + (4 * i) + j) 107 _ (.int .u8 (nth b (4 * i + j))) _ (Qal.row q5 (Qal.row q4 (Qab r2_2 e3) (Qau (Qaf r2_2 l5) QaG)) (Qau (Qaf r2_2 l5) QaG)) rfl kj ((QaY _ _ _ (Nat.lt_of_lt_of_eq (by omega) hbl.symm)).trans (congrArg (fun z => some (Value.int .u8 z)) (by rw [Nat.zero_add]))) kj) ?_
   refine sg 1 kj ?_
   refine sgN hK18 ?_
   refine Qad ?_
   refine sg 2 kj ?_
   refine Qaa (.pointer (some ⟨g5, i, none⟩)) 28 rfl kj (Qbc _ _ _ .i64 (i) _ 64 113 rfl kj kj kj kj (by omega)) ?_
   refine Qaa (.int .u32 (wv (hor b i j))) 29 rfl kj (Qah 113 _ g5 i 132 _ (.int .u32 (wv (hor b i j))) _ q5_2 rfl kj ((QaY _ _ _ (Nat.lt_of_lt_of_eq (by omega) ((List.length_set ..).trans (QbE hl64 (by omega))).symm)).trans (congrArg (fun z => some (Value.int .u32 z)) (Qfs (by rw [QbE hl64 (by omega)]; omega)))) kj) ?_
   refine Qaa (.int .u32 (wv (hor b i j <<< 8))) 30 rfl kj (Qay .shl _ _ _ _ .u32 .u64 _ _ _ rfl kj kj (Qf6 _ _ _ _ _ _ (by decide) (Qjw _ _ 8 rfl (by decide)))) ?_
   refine sg 1 kj ?_
   refine Qaa (.int .u32 (wv (BitVec.ofInt 32 (nth b (4 * i + j))))) 32 rfl kj (Qag (u := .int .u32 (IntKind.u32.wrap (nth b (4 * i + j)))) kj (congrArg (Value.int .u32) (Qll hbb _))) ?_
   refine Qaa (.int .u32 (wv (((hor b i j <<< 8)) ||| ((BitVec.ofInt 32 (nth b (4 * i + j))))))) 33 rfl kj (Qag (u := .int .u32 (bits .or .u32 (wv (hor b i j <<< 8)) (wv (BitVec.ofInt 32 (nth b (4 * i + j)))))) kj (congrArg (Value.int .u32) (w_or _ _))) ?_
   refine Qaa (.pointer (some ⟨g5, i, none⟩)) 34 rfl kj (Qbc _ _ _ .i64 (i) _ 64 113 rfl kj kj kj kj (by omega)) ?_
   refine Qai g5 _ (ints .u32 (((fill ((w64 b).map wv) 64 i).set i (wv (hor b i j))).set i (wv (((hor b i j <<< 8)) ||| ((BitVec.ofInt 32 (nth b (4 * i + j)))))))) 132 q5_2 rfl kj (Qam 113 _ _ g5 i 132 _ _ q5_2 rfl kj kj kj (Nat.lt_of_lt_of_eq (by omega) ((List.length_set ..).trans (QbE hl64 (by omega))).symm)) fun W6 p6 r5_6 => ?_
   have x6 := Puts.ext p6 xx2 b5
   refine Qaj ?_
   refine hK17 _ _ ?_
   refine Qad ?_
   refine Qaa (.int .i64 ((j + 1 : Nat) : Int)) 35 rfl kj (Qag (u := .int .i64 (IntKind.i64.wrap (((j : Nat) : Int) + 1))) kj (congrArg (Value.int .i64) (i64n _ _ (by omega) (by omega)))) ?_
   refine sg 1 kj ?_
   refine Qaj ?_
   repeat (first | with_reducible refine goX1 ?_ | with_reducible refine goX2 ?_ | with_reducible refine goX3 ?_)
   exact Qa4 (j + 1) ⟨kj, kj, kj, kj, kj, kj, kj, kj, trivial⟩ ⟨(by omega), (QaV r5_6 (by rw [List.set_set]; exact congrArg (fun z => (fill ((w64 b).map wv) 64 i).set i (wv z)) (QiN hbb i j))), (Qal.puts q5 p6 (.inl (by simp))), x6⟩ (by omega)
  ·skip
   have heq23 : j = 4 := by have := of_decide_eq_false c16; omega
   refine wp_exit ?_
   refine hK11 _ _ ?_
   refine Qad ?_
   refine Qaa (.int .i64 ((i + 1 : Nat) : Int)) 36 rfl kj (Qag (u := .int .i64 (IntKind.i64.wrap (((i : Nat) : Int) + 1))) kj (congrArg (Value.int .i64) (i64n _ _ (by omega) (by omega)))) ?_
   refine sg 1 kj ?_
   refine Qaj ?_
   repeat (first | with_reducible refine goX1 ?_ | with_reducible refine goX2 ?_ | with_reducible refine goX3 ?_)
   exact Qa4 (i + 1) ⟨kj, kj, kj, kj, trivial⟩ ⟨(by omega), (QaV q5_2 (by rw [heq23]; exact QhX hl64 hlt13 hbb)), (Qal.keeps q4 q5 (QhA (.inl (by simp)) Qjm)), xx2⟩ (by omega)
 ·skip
  have heq13 : i = 16 := by have := of_decide_eq_false c10; omega
  refine wp_exit ?_
  refine hK6 _ _ ?_
  refine wp_seq_k fun K19 hK19 => ?_
  refine sgB kj ?_
  refine wp_block ?_
  refine Qa9 (fun (s3 : Nat) => [(7, .int .i64 ((s3 : Nat) : Int)), (1, .pointer (some ⟨g2, 0, none⟩)), (2, .pointer (some ⟨g3, 0, none⟩)), (3, .pointer (some ⟨g5, 0, none⟩))]) (fun (s3 : Nat) W => (16 ≤ s3) ∧ (s3 ≤ 64) ∧ (W.heap[g5]? = some (.cells (ints .u32 (fill ((w64 b).map wv) 64 s3)) 132)) ∧ (Qal [g5] V1 W) ∧ (Ext w W)) (fun (s3 : Nat) => 64 - s3) 16 ⟨kj, kj, kj, kj, trivial⟩ ⟨(Nat.le_refl _), (by omega), (QaV q5_1 (by rw [heq13])), (Qal.refl [g5] V1), xx1⟩ fun s3 X3 V3 hI3 => ?_
  obtain ⟨i, hs3⟩ : ∃ z, z = s3 := ⟨_, rfl⟩
  subst hs3
  obtain ⟨h16, hi, q5_3, kk3, xx3⟩ := hI3
  replace h16 : 16 ≤ i := h16
  replace hi : i ≤ 64 := hi
  replace q5_3 : V3.heap[g5]? = some (.cells (ints .u32 (fill ((w64 b).map wv) 64 i)) 132) := q5_3
  replace kk3 : Qal [g5] V1 V3 := kk3
  replace xx3 : Ext w V3 := xx3
  have q5 := kk3
  refine wp_seq_k fun K21 hK21 => ?_
  refine sgB kj ?_
  refine Qa5 (t := decide (((i : Nat) : Int) < 64)) kj (fun c23 => ?_) (fun c23 => ?_)
  ·skip
   have hlt38 : i < 64 := by have := of_decide_eq_true c23; omega
   refine wp_skip ?_
   refine hK21 _ _ ?_
   refine wp_seq_k fun K24 hK24 => ?_
   refine wp_block ?_
   refine wp_seq_k fun K25 hK25 => ?_
   refine Qbf 9 [⟨none, [(7, none)]⟩, ⟨none, [(41, some 0)]⟩, ⟨none, [(3, none), (42, some 1)]⟩, ⟨none, [(43, some 2)]⟩, ⟨none, [(7, none)]⟩, ⟨none, [(45, some 4)]⟩, ⟨none, [(3, none), (46, some 5)]⟩, ⟨none, [(47, some 6)]⟩, ⟨none, [(44, some 3)]⟩] kj kj fun F hF => ?_
   refine Qap (.int .i64 ((i : Nat) : Int)) kj kj (fun W => by kernel_rfl) ?_
   refine Qap (.int .i64 ((i - 2 : Nat) : Int)) kj kj (fun W => (Qag (u := .int .i64 (IntKind.i64.wrap (((i : Nat) : Int) - 2))) kj (congrArg (Value.int .i64) (i64n _ _ (by omega) (by omega))))) ?_
   refine Qap (.pointer (some ⟨g5, i - 2, none⟩)) kj kj (fun W => (Qbc _ _ _ .i64 (i - 2) _ 64 113 rfl kj kj kj kj (by omega))) ?_
   refine Qba (.int .u32 (wv (wget (w64 b) (i - 2)))) kj kj (fun W hR => (Qah 113 _ g5 (i - 2) 132 _ (.int .u32 (wv (wget (w64 b) (i - 2)))) _ (Qab (Qab q5_3 (Qas _)) hR) rfl kj ((QaY _ _ _ (Nat.lt_of_lt_of_eq (by omega) (QbE (show ((w64 b).map wv).length = 64 by rw [List.length_map, QbI]) (by omega)).symm)).trans (congrArg (fun z => some (Value.int .u32 z)) ((QdJ hl64 (by omega) (by omega)).trans (Qcr _ _)))) kj)) ?_
   refine Qap (.int .i64 ((i : Nat) : Int)) kj kj (fun W => by kernel_rfl) ?_
   refine Qap (.int .i64 ((i - 15 : Nat) : Int)) kj kj (fun W => (Qag (u := .int .i64 (IntKind.i64.wrap (((i : Nat) : Int) - 15))) kj (congrArg (Value.int .i64) (i64n _ _ (by omega) (by omega))))) ?_
   refine Qap (.pointer (some ⟨g5, i - 15, none⟩)) kj kj (fun W => (Qbc _ _ _ .i64 (i - 15) _ 64 113 rfl kj kj kj kj (by omega))) ?_
   refine Qba (.int .u32 (wv (wget (w64 b) (i - 15)))) kj kj (fun W hR => (Qah 113 _ g5 (i - 15) 132 _ (.int .u32 (wv (wget (w64 b) (i - 15)))) _ (Qab (Qab q5_3 (Qas _)) hR) rfl kj ((QaY _ _ _ (Nat.lt_of_lt_of_eq (by omega) (QbE (show ((w64 b).map wv).length = 64 by rw [List.length_map, QbI]) (by omega)).symm)).trans (congrArg (fun z => some (Value.int .u32 z)) ((QdJ hl64 (by omega) (by omega)).trans (Qcr _ _)))) kj)) ?_
   refine Qap (.int .u32 (wv (wget (w64 b) (i - 2)))) kj kj (fun W => by kernel_rfl) ?_
   refine Qbo (hF _ kj fun W6 e6 => ?_)
   simp only [ups, up, Kn.val, List.take_succ_cons, List.take_zero, List.drop_succ_cons, List.drop_zero, List.nil_append, List.cons_append]
   clear hF
   have x6 := Ext.tr xx3 e6
   refine sg 1 kj ?_
   refine sgN hK25 ?_
   refine sgC fun K26 hK26 => ?_
   refine sg 1 kj ?_
   refine Qax (.int .u32 (wv (rr (wget (w64 b) (i - 2)) 17))) 77 #[.int .u32 (wv (wget (w64 b) (i - 2))), .int .i64 (-17)] 50 rfl kj kj ((rotC (wget (w64 b) (i - 2)) 17 (-17) (by decide) (by decide) (by decide)) _) fun W7 e7 => ?_
   refine sg 1 kj ?_
   refine Qax (.int .u32 (wv (rr (wget (w64 b) (i - 2)) 19))) 77 #[.int .u32 (wv (wget (w64 b) (i - 2))), .int .i64 (-19)] 52 rfl kj kj ((rotC (wget (w64 b) (i - 2)) 19 (-19) (by decide) (by decide) (by decide)) _) fun W8 e8 => ?_
   refine Qaa (.int .u32 (wv (((rr (wget (w64 b) (i - 2)) 17)) ^^^ ((rr (wget (w64 b) (i - 2)) 19))))) 53 rfl kj (Qag (u := .int .u32 (bits .xor .u32 (wv (rr (wget (w64 b) (i - 2)) 17)) (wv (rr (wget (w64 b) (i - 2)) 19)))) kj (congrArg (Value.int .u32) (w_xor _ _))) ?_
   refine sg 1 kj ?_
   refine Qaa (.int .u32 (wv (((wget (w64 b) (i - 2))) >>> 10))) 55 rfl kj (Qay .shr _ _ _ _ .u32 .u64 _ _ _ rfl kj kj (QaH _ _ _ _ _ _ (by decide) (QaP _ _ 10 rfl (by decide)))) ?_
   refine Qaa (.int .u32 (wv (((((rr (wget (w64 b) (i - 2)) 17)) ^^^ ((rr (wget (w64 b) (i - 2)) 19)))) ^^^ ((((wget (w64 b) (i - 2))) >>> 10))))) 56 rfl kj (Qag (u := .int .u32 (bits .xor .u32 (wv (((rr (wget (w64 b) (i - 2)) 17)) ^^^ ((rr (wget (w64 b) (i - 2)) 19)))) (wv (((wget (w64 b) (i - 2))) >>> 10)))) kj (congrArg (Value.int .u32) (w_xor _ _))) ?_
   refine sg 1 kj ?_
   refine sgN hK26 ?_
   refine sgC fun K27 hK27 => ?_
   refine sg 1 kj ?_
   refine Qax (.int .u32 (wv (rr (wget (w64 b) (i - 15)) 7))) 77 #[.int .u32 (wv (wget (w64 b) (i - 15))), .int .i64 (-7)] 58 rfl kj kj ((rotC (wget (w64 b) (i - 15)) 7 (-7) (by decide) (by decide) (by decide)) _) fun W9 e9 => ?_
   refine sg 1 kj ?_
   refine Qax (.int .u32 (wv (rr (wget (w64 b) (i - 15)) 18))) 77 #[.int .u32 (wv (wget (w64 b) (i - 15))), .int .i64 (-18)] 60 rfl kj kj ((rotC (wget (w64 b) (i - 15)) 18 (-18) (by decide) (by decide) (by decide)) _) fun W10 e10 => ?_
   refine Qaa (.int .u32 (wv (((rr (wget (w64 b) (i - 15)) 7)) ^^^ ((rr (wget (w64 b) (i - 15)) 18))))) 61 rfl kj (Qag (u := .int .u32 (bits .xor .u32 (wv (rr (wget (w64 b) (i - 15)) 7)) (wv (rr (wget (w64 b) (i - 15)) 18)))) kj (congrArg (Value.int .u32) (w_xor _ _))) ?_
   refine sg 1 kj ?_
   refine Qaa (.int .u32 (wv (((wget (w64 b) (i - 15))) >>> 3))) 63 rfl kj (Qay .shr _ _ _ _ .u32 .u64 _ _ _ rfl kj kj (QaH _ _ _ _ _ _ (by decide) (QaP _ _ 3 rfl (by decide)))) ?_
   refine Qaa (.int .u32 (wv (((((rr (wget (w64 b) (i - 15)) 7)) ^^^ ((rr (wget (w64 b) (i - 15)) 18)))) ^^^ ((((wget (w64 b) (i - 15))) >>> 3))))) 64 rfl kj (Qag (u := .int .u32 (bits .xor .u32 (wv (((rr (wget (w64 b) (i - 15)) 7)) ^^^ ((rr (wget (w64 b) (i - 15)) 18)))) (wv (((wget (w64 b) (i - 15))) >>> 3)))) kj (congrArg (Value.int .u32) (w_xor _ _))) ?_
   refine sg 1 kj ?_
   refine sgN hK27 ?_
   refine Qbf 15 [⟨none, [(7, none)]⟩, ⟨none, [(10, none)]⟩, ⟨none, [(7, none)]⟩, ⟨none, [(67, some 2)]⟩, ⟨none, [(3, none), (68, some 3)]⟩, ⟨none, [(69, some 4)]⟩, ⟨none, [(66, some 1), (70, some 5)]⟩, ⟨none, [(11, none)]⟩, ⟨none, [(71, some 6), (72, some 7)]⟩, ⟨none, [(7, none)]⟩, ⟨none, [(74, some 9)]⟩, ⟨none, [(3, none), (75, some 10)]⟩, ⟨none, [(76, some 11)]⟩, ⟨none, [(73, some 8), (77, some 12)]⟩, ⟨none, [(3, none), (65, some 0)]⟩] kj kj fun F hF => ?_
   refine Qap (.int .i64 ((i : Nat) : Int)) kj kj (fun W => by kernel_rfl) ?_
   refine Qap (.int .u32 (wv (((((rr (wget (w64 b) (i - 2)) 17)) ^^^ ((rr (wget (w64 b) (i - 2)) 19)))) ^^^ ((((wget (w64 b) (i - 2))) >>> 10))))) kj kj (fun W => by kernel_rfl) ?_
   refine Qap (.int .i64 ((i : Nat) : Int)) kj kj (fun W => by kernel_rfl) ?_
   refine Qap (.int .i64 ((i - 7 : Nat) : Int)) kj kj (fun W => (Qag (u := .int .i64 (IntKind.i64.wrap (((i : Nat) : Int) - 7))) kj (congrArg (Value.int .i64) (i64n _ _ (by omega) (by omega))))) ?_
   refine Qap (.pointer (some ⟨g5, i - 7, none⟩)) kj kj (fun W => (Qbc _ _ _ .i64 (i - 7) _ 64 113 rfl kj kj kj kj (by omega))) ?_
   have r5_6 := (Qab q5_3 e6)
   have r5_10 := (Qab (Qab (Qab (Qab r5_6 e7) e8) e9) e10)
   refine Qba (.int .u32 (wv (wget (w64 b) (i - 7)))) kj kj (fun W hR => (Qah 113 _ g5 (i - 7) 132 _ (.int .u32 (wv (wget (w64 b) (i - 7)))) _ (Qab (Qab r5_10 (Qas _)) hR) rfl kj ((QaY _ _ _ (Nat.lt_of_lt_of_eq (by omega) (QbE (show ((w64 b).map wv).length = 64 by rw [List.length_map, QbI]) (by omega)).symm)).trans (congrArg (fun z => some (Value.int .u32 z)) ((QdJ hl64 (by omega) (by omega)).trans (Qcr _ _)))) kj)) ?_
   refine Qap (.int .u32 (wv (((((((rr (wget (w64 b) (i - 2)) 17)) ^^^ ((rr (wget (w64 b) (i - 2)) 19)))) ^^^ ((((wget (w64 b) (i - 2))) >>> 10)))) + ((wget (w64 b) (i - 7)))))) kj kj (fun W => (Qag (u := .int .u32 (IntKind.u32.wrap (wv (((((rr (wget (w64 b) (i - 2)) 17)) ^^^ ((rr (wget (w64 b) (i - 2)) 19)))) ^^^ ((((wget (w64 b) (i - 2))) >>> 10))) + wv (wget (w64 b) (i - 7))))) kj (congrArg (Value.int .u32) (Qbu _ _)))) ?_
   refine Qap (.int .u32 (wv (((((rr (wget (w64 b) (i - 15)) 7)) ^^^ ((rr (wget (w64 b) (i - 15)) 18)))) ^^^ ((((wget (w64 b) (i - 15))) >>> 3))))) kj kj (fun W => by kernel_rfl) ?_
   refine Qap (.int .u32 (wv (((((((((rr (wget (w64 b) (i - 2)) 17)) ^^^ ((rr (wget (w64 b) (i - 2)) 19)))) ^^^ ((((wget (w64 b) (i - 2))) >>> 10)))) + ((wget (w64 b) (i - 7))))) + ((((((rr (wget (w64 b) (i - 15)) 7)) ^^^ ((rr (wget (w64 b) (i - 15)) 18)))) ^^^ ((((wget (w64 b) (i - 15))) >>> 3))))))) kj kj (fun W => (Qag (u := .int .u32 (IntKind.u32.wrap (wv (((((((rr (wget (w64 b) (i - 2)) 17)) ^^^ ((rr (wget (w64 b) (i - 2)) 19)))) ^^^ ((((wget (w64 b) (i - 2))) >>> 10)))) + ((wget (w64 b) (i - 7)))) + wv (((((rr (wget (w64 b) (i - 15)) 7)) ^^^ ((rr (wget (w64 b) (i - 15)) 18)))) ^^^ ((((wget (w64 b) (i - 15))) >>> 3)))))) kj (congrArg (Value.int .u32) (Qbu _ _)))) ?_
   refine Qap (.int .i64 ((i : Nat) : Int)) kj kj (fun W => by kernel_rfl) ?_
   refine Qap (.int .i64 ((i - 16 : Nat) : Int)) kj kj (fun W => (Qag (u := .int .i64 (IntKind.i64.wrap (((i : Nat) : Int) - 16))) kj (congrArg (Value.int .i64) (i64n _ _ (by omega) (by omega))))) ?_
   refine Qap (.pointer (some ⟨g5, i - 16, none⟩)) kj kj (fun W => (Qbc _ _ _ .i64 (i - 16) _ 64 113 rfl kj kj kj kj (by omega))) ?_
   refine Qba (.int .u32 (wv (wget (w64 b) (i - 16)))) kj kj (fun W hR => (Qah 113 _ g5 (i - 16) 132 _ (.int .u32 (wv (wget (w64 b) (i - 16)))) _ (Qab (Qab r5_10 (Qas _)) hR) rfl kj ((QaY _ _ _ (Nat.lt_of_lt_of_eq (by omega) (QbE (show ((w64 b).map wv).length = 64 by rw [List.length_map, QbI]) (by omega)).symm)).trans (congrArg (fun z => some (Value.int .u32 z)) ((QdJ hl64 (by omega) (by omega)).trans (Qcr _ _)))) kj)) ?_
   refine Qap (.int .u32 (wv (((((((((((rr (wget (w64 b) (i - 2)) 17)) ^^^ ((rr (wget (w64 b) (i - 2)) 19)))) ^^^ ((((wget (w64 b) (i - 2))) >>> 10)))) + ((wget (w64 b) (i - 7))))) + ((((((rr (wget (w64 b) (i - 15)) 7)) ^^^ ((rr (wget (w64 b) (i - 15)) 18)))) ^^^ ((((wget (w64 b) (i - 15))) >>> 3)))))) + ((wget (w64 b) (i - 16)))))) kj kj (fun W => (Qag (u := .int .u32 (IntKind.u32.wrap (wv (((((((((rr (wget (w64 b) (i - 2)) 17)) ^^^ ((rr (wget (w64 b) (i - 2)) 19)))) ^^^ ((((wget (w64 b) (i - 2))) >>> 10)))) + ((wget (w64 b) (i - 7))))) + ((((((rr (wget (w64 b) (i - 15)) 7)) ^^^ ((rr (wget (w64 b) (i - 15)) 18)))) ^^^ ((((wget (w64 b) (i - 15))) >>> 3))))) + wv (wget (w64 b) (i - 16))))) kj (congrArg (Value.int .u32) (Qbu _ _)))) ?_
   refine Qap (.pointer (some ⟨g5, i, none⟩)) kj kj (fun W => (Qbc _ _ _ .i64 (i) _ 64 113 rfl kj kj kj kj (by omega))) ?_
   refine Qbo (hF _ kj fun W11 e11 => ?_)
   simp only [ups, up, Kn.val, List.take_succ_cons, List.take_zero, List.drop_succ_cons, List.drop_zero, List.nil_append, List.cons_append]
   clear hF
   have r5_11 := (Qab r5_10 e11)
   refine Qai g5 _ (ints .u32 ((fill ((w64 b).map wv) 64 i).set i (wv (((((((((((rr (wget (w64 b) (i - 2)) 17)) ^^^ ((rr (wget (w64 b) (i - 2)) 19)))) ^^^ ((((wget (w64 b) (i - 2))) >>> 10)))) + ((wget (w64 b) (i - 7))))) + ((((((rr (wget (w64 b) (i - 15)) 7)) ^^^ ((rr (wget (w64 b) (i - 15)) 18)))) ^^^ ((((wget (w64 b) (i - 15))) >>> 3)))))) + ((wget (w64 b) (i - 16))))))) 132 r5_11 rfl kj (Qam 113 _ _ g5 i 132 _ _ r5_11 rfl kj kj kj (Nat.lt_of_lt_of_eq (by omega) (QbE (show ((w64 b).map wv).length = 64 by rw [List.length_map, QbI]) (by omega)).symm)) fun W12 p12 r5_12 => ?_
   refine Qaj ?_
   refine hK24 _ _ ?_
   refine Qad ?_
   refine sg 1 kj ?_
   refine Qaa (.int .i64 ((i + 1 : Nat) : Int)) 40 rfl kj (Qag (u := .int .i64 (IntKind.i64.wrap (((i : Nat) : Int) + 1))) kj (congrArg (Value.int .i64) (i64n _ _ (by omega) (by omega)))) ?_
   refine sg 1 kj ?_
   refine Qaj ?_
   repeat (first | with_reducible refine goX1 ?_ | with_reducible refine goX2 ?_ | with_reducible refine goX3 ?_)
   exact Qa4 (i + 1) ⟨kj, kj, kj, kj, trivial⟩ ⟨(by omega), (by omega), (QaV r5_12 (by rw [← QdI hl64 hlt38, Qcr, QfU b i h16 hlt38]; rfl)), (Qal.puts (Qal.step (Qal.step (Qal.step (Qal.step (Qal.step (Qal.step q5 e6) e7) e8) e9) e10) e11) p12 (.inl (by simp))), (Puts.ext p12 (Ext.tr (Ext.tr (Ext.tr (Ext.tr (Ext.tr x6 e7) e8) e9) e10) e11) b5)⟩ (by omega)
  ·skip
   have heq38 : i = 64 := by have := of_decide_eq_false c23; omega
   have r5_5_28 : V3.heap[g5]? = some (.cells (ints .u32 ((w64 b).map wv)) 132) := QaV q5_3 (by rw [heq38]; exact Qed hl64)
   refine wp_exit ?_
   refine hK19 _ _ ?_
   refine sgC fun K29 hK29 => ?_
   refine Qaa (.agg (ints .u32 ((w64 b).map wv))) 80 rfl kj (Qaw 132 _ g5 132 _ _ r5_5_28 rfl kj kj (isz (n := 64) kj ((Qac _ _).trans hl64))) ?_
   have r3_5 := (Qal.row q5 (Qal.row q4 (Qab r3_2 e3) (Qau (Qaf r3_2 l5) QaG)) (Qau (Qaf r3_2 l5) QaG))
   refine Qai g3 _ (ints .u32 ((w64 b).map wv)) 132 r3_5 rfl kj (Qaq 132 _ _ g3 132 _ _ r3_5 rfl kj kj (isz (n := 64) kj ((Qac _ _).trans hl64)) (eqsz (n := 64) ((Qac _ _).trans (List.length_replicate (n := 64))) ((Qac _ _).trans hl64)) (Qa2 _ _)) fun W6 p6 r3_6 => ?_
   have x6 := Puts.ext p6 xx3 (Nat.le_trans x1.size l3)
   refine sgN hK29 ?_
   refine wp_ret ?_
   repeat (first | with_reducible refine goR1 ?_ | with_reducible refine goR2 ?_)
   exact (show bodyPost _ _ _ .ret _ _ from ret1 (.agg (ints .u32 ((w64 b).map wv))) rfl (QaR g3 132 _ r3_6 kj kj (isz (n := 64) kj ((Qac _ _).trans hl64))) ⟨rfl, x6⟩)
end Go.Proofs.YtibegnjaphohaaaDoor.Sha
end
section
namespace Go.Proofs.YtibegnjaphohaaaDoor.Sha
open Go Go.RowKit
open Rely Auto Own
set_option linter.unusedVariables false
set_option linter.unusedSimpArgs false
def QaI : List Int := Qjr.map Int.ofNat
def Qak : List Int := [0x6a09e667f3bcc908, 0xbb67ae8584caa73b, 0x3c6ef372fe94f82b, 0xa54ff53a5f1d36f1, 0x510e527fade682d1, 0x9b05688c2b3e6c1f, 0x1f83d9abfb41bd6b, 0x5be0cd19137e2179]
theorem Qjs (i : Nat) (h : i < 64) : IntKind.u32.wrap (nth QaI i / 4294967296) = wv (wget KK i) := by
  have : ∀ i : Fin 64, IntKind.u32.wrap (nth QaI i.1 / 4294967296) = wv (wget KK i.1) := by decide +kernel
  exact this ⟨i, h⟩
theorem QeE (n : Int) : n.fdiv (2 ^ min (32 : Int).toNat IntKind.u64.bits) = n / 4294967296 := Int.fdiv_eq_ediv_of_nonneg n (by decide)
set_option maxHeartbeats 4000000 in
theorem QkQ (g : Nat) (s : S8) (b : List Int) (hbl : b.length = 64) (hbb : Qao b) (m : Int) (tc : TypeId) (w : World) (hc : w.heap[2]? = some (.cells (ints .u64 QaI) tc)) (hg : w.heap[g]? = some (.cells (cat [ints .u32 ([wv s.a, wv s.b, wv s.c, wv s.d, wv s.e, wv s.f, wv s.g, wv s.h]), ints .u8 (b), #[.int .i64 m]]) 129)) :
  Calls Tryd.prog 74 #[.pointer (some ⟨g, 0, none⟩)] w (fun e W => e = .returned (.tuple #[]) ∧ ExtB g w W ∧ W.heap[g]? = some (.cells (cat [ints .u32 ((blk s b).l.map wv), ints .u8 b, #[.int .i64 m]]) 129)) := by
 have hl64 : ((w64 b).map wv).length = 64 := by rw [List.length_map, QbI]
 refine enter 137 [(0, .pointer (some ⟨g, 0, none⟩))] Tryd.func74 rfl rfl kj rfl ?_
 refine sgC fun K3 hK3 => ?_
 refine sg 3 kj ?_
 refine Qaa (.agg (ints .u8 (b))) 23 rfl kj (QaE 107 _ g 8 129 _ _ _ hg rfl kj (Qa0 [ints .u32 ([wv s.a, wv s.b, wv s.c, wv s.d, wv s.e, wv s.f, wv s.g, wv s.h])] [ints .u8 (b)] [#[.int .i64 m]] 8 kj) kj (isz (n := 64) kj ((Qac _ _).trans hbl))) ?_
 refine Qax (.agg (ints .u32 ((w64 b).map wv))) 76 #[.agg (ints .u8 (b))] 24 rfl kj kj ((Qj1 b hbl hbb) _) fun W1 e1 => ?_
 have x1 := ExtB.ext (ExtB.refl g w) e1
 refine Qar (ints .u32 (List.replicate 64 0)) 132 2 rfl kj kj fun g4 W2 l4 e2 r4_2 => ?_
 refine Qai g4 _ (ints .u32 ((w64 b).map wv)) 132 r4_2 rfl kj (Qaq 132 _ _ g4 132 _ _ r4_2 rfl kj kj (isz (n := 64) kj ((Qac _ _).trans hl64)) (eqsz (n := 64) ((Qac _ _).trans (List.length_replicate (n := 64))) ((Qac _ _).trans hl64)) (Qa2 _ _)) fun W3 p3 r4_3 => ?_
 have x3 := ExtB.putsN (ExtB.ext x1 e2) p3 (Nat.le_trans x1.size l4)
 refine sgN hK3 ?_
 refine sgC fun K5 hK5 => ?_
 refine sg 3 kj ?_
 have r2_1 := (Qab hg e1)
 have r2_3 := (Puts.row p3 (Qab r2_1 e2) (Qaf r2_1 l4))
 refine Qaa (.agg (ints .u32 ([wv s.a, wv s.b, wv s.c, wv s.d, wv s.e, wv s.f, wv s.g, wv s.h]))) 28 rfl kj (QaE 114 _ g 0 129 _ _ _ r2_3 rfl kj (Qa0 [] [ints .u32 ([wv s.a, wv s.b, wv s.c, wv s.d, wv s.e, wv s.f, wv s.g, wv s.h])] [ints .u8 (b), #[.int .i64 m]] 0 kj) kj (isz (n := 8) kj kj)) ?_
 refine Qar (ints .u32 ([0, 0, 0, 0, 0, 0, 0, 0])) 114 3 rfl kj kj fun g6 W4 l6 e4 r6_4 => ?_
 refine Qai g6 _ (ints .u32 ([wv s.a, wv s.b, wv s.c, wv s.d, wv s.e, wv s.f, wv s.g, wv s.h])) 114 r6_4 rfl kj (Qaq 114 _ _ g6 114 _ _ r6_4 rfl kj kj (isz (n := 8) kj kj) (eqsz (n := 8) kj kj) (Qa2 _ _)) fun W5 p5 r6_5 => ?_
 refine sgN hK5 ?_
 refine wp_seq_k fun K7 hK7 => ?_
 refine Qbf 23 [⟨none, [(3, none)]⟩, ⟨none, [(29, some 0)]⟩, ⟨none, [(3, none)]⟩, ⟨none, [(31, some 2)]⟩, ⟨none, [(3, none)]⟩, ⟨none, [(33, some 4)]⟩, ⟨none, [(3, none)]⟩, ⟨none, [(35, some 6)]⟩, ⟨none, [(3, none)]⟩, ⟨none, [(37, some 8)]⟩, ⟨none, [(3, none)]⟩, ⟨none, [(39, some 10)]⟩, ⟨none, [(3, none)]⟩, ⟨none, [(41, some 12)]⟩, ⟨none, [(3, none)]⟩, ⟨none, [(43, some 14)]⟩, ⟨none, [(30, some 1)]⟩, ⟨none, [(32, some 3)]⟩, ⟨none, [(34, some 5)]⟩, ⟨none, [(36, some 7)]⟩, ⟨none, [(38, some 9)]⟩, ⟨none, [(40, some 11)]⟩, ⟨none, [(42, some 13)]⟩] kj kj fun F hF => ?_
 refine Qap (.pointer (some ⟨g6, 0, none⟩)) kj kj (fun W => by kernel_rfl) ?_
 refine Qba (.int .u32 (wv s.a)) kj kj (fun W hR => (Qah 113 _ g6 0 114 _ (.int .u32 (wv s.a)) _ (Qab (Qab r6_5 (Qas _)) hR) rfl kj kj kj)) ?_
 refine Qap (.pointer (some ⟨g6, 1, none⟩)) kj kj (fun W => by kernel_rfl) ?_
 refine Qba (.int .u32 (wv s.b)) kj kj (fun W hR => (Qah 113 _ g6 1 114 _ (.int .u32 (wv s.b)) _ (Qab (Qab r6_5 (Qas _)) hR) rfl kj kj kj)) ?_
 refine Qap (.pointer (some ⟨g6, 2, none⟩)) kj kj (fun W => by kernel_rfl) ?_
 refine Qba (.int .u32 (wv s.c)) kj kj (fun W hR => (Qah 113 _ g6 2 114 _ (.int .u32 (wv s.c)) _ (Qab (Qab r6_5 (Qas _)) hR) rfl kj kj kj)) ?_
 refine Qap (.pointer (some ⟨g6, 3, none⟩)) kj kj (fun W => by kernel_rfl) ?_
 refine Qba (.int .u32 (wv s.d)) kj kj (fun W hR => (Qah 113 _ g6 3 114 _ (.int .u32 (wv s.d)) _ (Qab (Qab r6_5 (Qas _)) hR) rfl kj kj kj)) ?_
 refine Qap (.pointer (some ⟨g6, 4, none⟩)) kj kj (fun W => by kernel_rfl) ?_
 refine Qba (.int .u32 (wv s.e)) kj kj (fun W hR => (Qah 113 _ g6 4 114 _ (.int .u32 (wv s.e)) _ (Qab (Qab r6_5 (Qas _)) hR) rfl kj kj kj)) ?_
 refine Qap (.pointer (some ⟨g6, 5, none⟩)) kj kj (fun W => by kernel_rfl) ?_
 refine Qba (.int .u32 (wv s.f)) kj kj (fun W hR => (Qah 113 _ g6 5 114 _ (.int .u32 (wv s.f)) _ (Qab (Qab r6_5 (Qas _)) hR) rfl kj kj kj)) ?_
 refine Qap (.pointer (some ⟨g6, 6, none⟩)) kj kj (fun W => by kernel_rfl) ?_
 refine Qba (.int .u32 (wv s.g)) kj kj (fun W hR => (Qah 113 _ g6 6 114 _ (.int .u32 (wv s.g)) _ (Qab (Qab r6_5 (Qas _)) hR) rfl kj kj kj)) ?_
 refine Qap (.pointer (some ⟨g6, 7, none⟩)) kj kj (fun W => by kernel_rfl) ?_
 refine Qba (.int .u32 (wv s.h)) kj kj (fun W hR => (Qah 113 _ g6 7 114 _ (.int .u32 (wv s.h)) _ (Qab (Qab r6_5 (Qas _)) hR) rfl kj kj kj)) ?_
 refine Qap (.int .u32 (wv s.a)) kj kj (fun W => by kernel_rfl) ?_
 refine Qap (.int .u32 (wv s.b)) kj kj (fun W => by kernel_rfl) ?_
 refine Qap (.int .u32 (wv s.c)) kj kj (fun W => by kernel_rfl) ?_
 refine Qap (.int .u32 (wv s.d)) kj kj (fun W => by kernel_rfl) ?_
 refine Qap (.int .u32 (wv s.e)) kj kj (fun W => by kernel_rfl) ?_
 refine Qap (.int .u32 (wv s.f)) kj kj (fun W => by kernel_rfl) ?_
 refine Qap (.int .u32 (wv s.g)) kj kj (fun W => by kernel_rfl) ?_
 refine Qbo (hF _ kj fun W6 e6 => ?_)
 simp only [ups, up, Kn.val, List.take_succ_cons, List.take_zero, List.drop_succ_cons, List.drop_zero, List.nil_append, List.cons_append]
 clear hF
 refine sg 1 kj ?_
 refine sgN hK7 ?_
 refine wp_seq_k fun K8 hK8 => ?_
 refine sgC fun K9 hK9 => ?_
 refine Qaa (.agg (ints .u32 ((w64 b).map wv))) 45 rfl kj (Qaw 132 _ g4 132 _ _ (Qab (Puts.row p5 (Qab r4_3 e4) (Qaf r4_3 l6)) e6) rfl kj kj (isz (n := 64) kj ((Qac _ _).trans hl64))) ?_
 refine sg 1 kj ?_
 refine sgN hK9 ?_
 refine wp_block ?_
 refine Qa9 (fun (s1 : Nat) => [(0, .pointer (some ⟨g, 0, none⟩)), (45, .agg (ints .u32 ((w64 b).map wv))), (46, .int .i64 ((s1 : Nat) : Int)), (4, .int .u32 (wv ((rnds KK (w64 b) s s1).a))), (5, .int .u32 (wv ((rnds KK (w64 b) s s1).b))), (6, .int .u32 (wv ((rnds KK (w64 b) s s1).c))), (7, .int .u32 (wv ((rnds KK (w64 b) s s1).d))), (8, .int .u32 (wv ((rnds KK (w64 b) s s1).e))), (9, .int .u32 (wv ((rnds KK (w64 b) s s1).f))), (10, .int .u32 (wv ((rnds KK (w64 b) s s1).g))), (11, .int .u32 (wv ((rnds KK (w64 b) s s1).h)))]) (fun (s1 : Nat) W => (s1 ≤ 64) ∧ (Ext W6 W) ∧ (ExtB g w W)) (fun (s1 : Nat) => 64 - s1) 0 ⟨kj, kj, kj, kj, kj, kj, kj, kj, kj, kj, kj, trivial⟩ ⟨(Nat.zero_le _), (Rely.Ext.refl W6), (ExtB.ext (ExtB.putsN (ExtB.ext x3 e4) p5 (Nat.le_trans x3.size l6)) e6)⟩ fun s1 X1 V1 hI1 => ?_
 obtain ⟨i, hs1⟩ : ∃ z, z = s1 := ⟨_, rfl⟩
 subst hs1
 obtain ⟨hi, kk1, xx1⟩ := hI1
 replace hi : i ≤ 64 := hi
 replace kk1 : Ext W6 V1 := kk1
 replace xx1 : ExtB g w V1 := xx1
 have e7 := kk1
 refine sgB kj ?_
 refine wp_seq_k fun K11 hK11 => ?_
 refine Qa5 (t := decide (((i : Nat) : Int) < 64)) kj (fun c12 => ?_) (fun c12 => ?_)
 ·skip
  have hlt47 : i < 64 := by have := of_decide_eq_true c12; omega
  refine wp_skip ?_
  refine hK11 _ _ ?_
  refine wp_seq_k fun K13 hK13 => ?_
  refine wp_block ?_
  refine sgC fun K14 hK14 => ?_
  refine sg 1 kj ?_
  refine Qaa (.int .u32 (wv (wget (w64 b) i))) 49 rfl kj (Qa6 132 _ _ .i64 .u32 ((w64 b).map wv) i 64 113 (wv (wget (w64 b) i)) rfl kj kj kj kj kj hl64 (by omega) (Qcr _ _)) ?_
  refine sg 2 kj ?_
  refine sgN hK14 ?_
  refine sgC fun K15 hK15 => ?_
  refine sg 1 kj ?_
  refine Qax (.int .u32 (wv (rr ((rnds KK (w64 b) s i).e) 6))) 77 #[.int .u32 (wv ((rnds KK (w64 b) s i).e)), .int .i64 (-6)] 51 rfl kj kj ((rotC ((rnds KK (w64 b) s i).e) 6 (-6) (by decide) (by decide) (by decide)) _) fun W8 e8 => ?_
  have x8 := ExtB.ext xx1 e8
  refine sg 1 kj ?_
  refine Qax (.int .u32 (wv (rr ((rnds KK (w64 b) s i).e) 11))) 77 #[.int .u32 (wv ((rnds KK (w64 b) s i).e)), .int .i64 (-11)] 53 rfl kj kj ((rotC ((rnds KK (w64 b) s i).e) 11 (-11) (by decide) (by decide) (by decide)) _) fun W9 e9 => ?_
  have x9 := ExtB.ext x8 e9
  refine Qaa (.int .u32 (wv (((rr ((rnds KK (w64 b) s i).e) 6)) ^^^ ((rr ((rnds KK (w64 b) s i).e) 11))))) 54 rfl kj (Qag (u := .int .u32 (bits .xor .u32 (wv (rr ((rnds KK (w64 b) s i).e) 6)) (wv (rr ((rnds KK (w64 b) s i).e) 11)))) kj (congrArg (Value.int .u32) (w_xor _ _))) ?_
  refine sg 1 kj ?_
  refine Qax (.int .u32 (wv (rr ((rnds KK (w64 b) s i).e) 25))) 77 #[.int .u32 (wv ((rnds KK (w64 b) s i).e)), .int .i64 (-25)] 56 rfl kj kj ((rotC ((rnds KK (w64 b) s i).e) 25 (-25) (by decide) (by decide) (by decide)) _) fun W10 e10 => ?_
  have x10 := ExtB.ext x9 e10
  refine Qaa (.int .u32 (wv (((((rr ((rnds KK (w64 b) s i).e) 6)) ^^^ ((rr ((rnds KK (w64 b) s i).e) 11)))) ^^^ ((rr ((rnds KK (w64 b) s i).e) 25))))) 57 rfl kj (Qag (u := .int .u32 (bits .xor .u32 (wv (((rr ((rnds KK (w64 b) s i).e) 6)) ^^^ ((rr ((rnds KK (w64 b) s i).e) 11)))) (wv (rr ((rnds KK (w64 b) s i).e) 25)))) kj (congrArg (Value.int .u32) (w_xor _ _))) ?_
  refine sg 1 kj ?_
  refine sgN hK15 ?_
  refine sgC fun K16 hK16 => ?_
  refine sg 1 kj ?_
  refine Qax (.int .u32 (wv (rr ((rnds KK (w64 b) s i).a) 2))) 77 #[.int .u32 (wv ((rnds KK (w64 b) s i).a)), .int .i64 (-2)] 59 rfl kj kj ((rotC ((rnds KK (w64 b) s i).a) 2 (-2) (by decide) (by decide) (by decide)) _) fun W11 e11 => ?_
  have x11 := ExtB.ext x10 e11
  refine sg 1 kj ?_
  refine Qax (.int .u32 (wv (rr ((rnds KK (w64 b) s i).a) 13))) 77 #[.int .u32 (wv ((rnds KK (w64 b) s i).a)), .int .i64 (-13)] 61 rfl kj kj ((rotC ((rnds KK (w64 b) s i).a) 13 (-13) (by decide) (by decide) (by decide)) _) fun W12 e12 => ?_
  have x12 := ExtB.ext x11 e12
  refine Qaa (.int .u32 (wv (((rr ((rnds KK (w64 b) s i).a) 2)) ^^^ ((rr ((rnds KK (w64 b) s i).a) 13))))) 62 rfl kj (Qag (u := .int .u32 (bits .xor .u32 (wv (rr ((rnds KK (w64 b) s i).a) 2)) (wv (rr ((rnds KK (w64 b) s i).a) 13)))) kj (congrArg (Value.int .u32) (w_xor _ _))) ?_
  refine sg 1 kj ?_
  refine Qax (.int .u32 (wv (rr ((rnds KK (w64 b) s i).a) 22))) 77 #[.int .u32 (wv ((rnds KK (w64 b) s i).a)), .int .i64 (-22)] 64 rfl kj kj ((rotC ((rnds KK (w64 b) s i).a) 22 (-22) (by decide) (by decide) (by decide)) _) fun W13 e13 => ?_
  have x13 := ExtB.ext x12 e13
  refine Qaa (.int .u32 (wv (((((rr ((rnds KK (w64 b) s i).a) 2)) ^^^ ((rr ((rnds KK (w64 b) s i).a) 13)))) ^^^ ((rr ((rnds KK (w64 b) s i).a) 22))))) 65 rfl kj (Qag (u := .int .u32 (bits .xor .u32 (wv (((rr ((rnds KK (w64 b) s i).a) 2)) ^^^ ((rr ((rnds KK (w64 b) s i).a) 13)))) (wv (rr ((rnds KK (w64 b) s i).a) 22)))) kj (congrArg (Value.int .u32) (w_xor _ _))) ?_
  refine sg 1 kj ?_
  refine sgN hK16 ?_
  refine sgC fun K17 hK17 => ?_
  refine sg 2 kj ?_
  refine Qaa (.int .u32 (wv ((((rnds KK (w64 b) s i).h)) + ((((((rr ((rnds KK (w64 b) s i).e) 6)) ^^^ ((rr ((rnds KK (w64 b) s i).e) 11)))) ^^^ ((rr ((rnds KK (w64 b) s i).e) 25))))))) 68 rfl kj (Qag (u := .int .u32 (IntKind.u32.wrap (wv ((rnds KK (w64 b) s i).h) + wv (((((rr ((rnds KK (w64 b) s i).e) 6)) ^^^ ((rr ((rnds KK (w64 b) s i).e) 11)))) ^^^ ((rr ((rnds KK (w64 b) s i).e) 25)))))) kj (congrArg (Value.int .u32) (Qbu _ _))) ?_
  refine sg 2 kj ?_
  refine Qaa (.int .u32 (wv ((((rnds KK (w64 b) s i).e)) &&& (((rnds KK (w64 b) s i).f))))) 71 rfl kj (Qag (u := .int .u32 (bits .and .u32 (wv ((rnds KK (w64 b) s i).e)) (wv ((rnds KK (w64 b) s i).f)))) kj (congrArg (Value.int .u32) (Qel _ _))) ?_
  refine sg 1 kj ?_
  refine Qaa (.int .u32 (wv (~~~(((rnds KK (w64 b) s i).e))))) 73 rfl kj (Qag (u := .int .u32 (bits .xor .u32 4294967295 (wv ((rnds KK (w64 b) s i).e)))) kj (congrArg (Value.int .u32) (QkO _))) ?_
  refine sg 1 kj ?_
  refine Qaa (.int .u32 (wv (((~~~(((rnds KK (w64 b) s i).e)))) &&& (((rnds KK (w64 b) s i).g))))) 75 rfl kj (Qag (u := .int .u32 (bits .and .u32 (wv (~~~(((rnds KK (w64 b) s i).e)))) (wv ((rnds KK (w64 b) s i).g)))) kj (congrArg (Value.int .u32) (Qel _ _))) ?_
  refine Qaa (.int .u32 (wv ((((((rnds KK (w64 b) s i).e)) &&& (((rnds KK (w64 b) s i).f)))) ^^^ ((((~~~(((rnds KK (w64 b) s i).e)))) &&& (((rnds KK (w64 b) s i).g))))))) 76 rfl kj (Qag (u := .int .u32 (bits .xor .u32 (wv ((((rnds KK (w64 b) s i).e)) &&& (((rnds KK (w64 b) s i).f)))) (wv (((~~~(((rnds KK (w64 b) s i).e)))) &&& (((rnds KK (w64 b) s i).g)))))) kj (congrArg (Value.int .u32) (w_xor _ _))) ?_
  refine Qaa (.int .u32 (wv ((((((rnds KK (w64 b) s i).h)) + ((((((rr ((rnds KK (w64 b) s i).e) 6)) ^^^ ((rr ((rnds KK (w64 b) s i).e) 11)))) ^^^ ((rr ((rnds KK (w64 b) s i).e) 25)))))) + (((((((rnds KK (w64 b) s i).e)) &&& (((rnds KK (w64 b) s i).f)))) ^^^ ((((~~~(((rnds KK (w64 b) s i).e)))) &&& (((rnds KK (w64 b) s i).g))))))))) 77 rfl kj (Qag (u := .int .u32 (IntKind.u32.wrap (wv ((((rnds KK (w64 b) s i).h)) + ((((((rr ((rnds KK (w64 b) s i).e) 6)) ^^^ ((rr ((rnds KK (w64 b) s i).e) 11)))) ^^^ ((rr ((rnds KK (w64 b) s i).e) 25))))) + wv ((((((rnds KK (w64 b) s i).e)) &&& (((rnds KK (w64 b) s i).f)))) ^^^ ((((~~~(((rnds KK (w64 b) s i).e)))) &&& (((rnds KK (w64 b) s i).g)))))))) kj (congrArg (Value.int .u32) (Qbu _ _))) ?_
  refine sg 1 kj ?_
  refine Qaa (.pointer (some ⟨2, i, none⟩)) 79 rfl kj (Qbc _ _ _ .i64 (i) _ 80 77 rfl kj kj kj kj (by omega)) ?_
  have r1_1 := (Qab hc e1)
  have r1_3 := (Puts.row p3 (Qab r1_1 e2) (Qaf r1_1 l4))
  refine Qaa (.int .u64 (nth (QaI) i)) 80 rfl kj (Qah 77 _ 2 i tc _ (.int .u64 (nth (QaI) i)) _ (Qab (Qab (Qab (Qab (Qab (Qab (Qab (Qab (Puts.row p5 (Qab r1_3 e4) (Qaf r1_3 l6)) e6) e7) e8) e9) e10) e11) e12) e13) rfl kj (QaY _ _ _ (Nat.lt_of_lt_of_eq (by omega) (show QaI.length = 80 from rfl).symm)) kj) ?_
  refine Qaa (.int .u64 (nth QaI i / 4294967296)) 81 rfl kj (Qay .shr _ _ _ _ .u64 .u64 _ _ _ rfl kj kj (QaH _ _ _ _ _ _ (by decide) (QeE _))) ?_
  refine Qaa (.int .u32 (wv (wget KK i))) 82 rfl kj (Qag (u := .int .u32 (IntKind.u32.wrap (nth QaI i / 4294967296))) kj (congrArg (Value.int .u32) (Qjs i hlt47))) ?_
  refine Qaa (.int .u32 (wv ((((((((rnds KK (w64 b) s i).h)) + ((((((rr ((rnds KK (w64 b) s i).e) 6)) ^^^ ((rr ((rnds KK (w64 b) s i).e) 11)))) ^^^ ((rr ((rnds KK (w64 b) s i).e) 25)))))) + (((((((rnds KK (w64 b) s i).e)) &&& (((rnds KK (w64 b) s i).f)))) ^^^ ((((~~~(((rnds KK (w64 b) s i).e)))) &&& (((rnds KK (w64 b) s i).g)))))))) + ((wget KK i))))) 83 rfl kj (Qag (u := .int .u32 (IntKind.u32.wrap (wv ((((((rnds KK (w64 b) s i).h)) + ((((((rr ((rnds KK (w64 b) s i).e) 6)) ^^^ ((rr ((rnds KK (w64 b) s i).e) 11)))) ^^^ ((rr ((rnds KK (w64 b) s i).e) 25)))))) + (((((((rnds KK (w64 b) s i).e)) &&& (((rnds KK (w64 b) s i).f)))) ^^^ ((((~~~(((rnds KK (w64 b) s i).e)))) &&& (((rnds KK (w64 b) s i).g))))))) + wv (wget KK i)))) kj (congrArg (Value.int .u32) (Qbu _ _))) ?_
  refine sg 1 kj ?_
  refine Qaa (.int .u32 (wv ((((((((((rnds KK (w64 b) s i).h)) + ((((((rr ((rnds KK (w64 b) s i).e) 6)) ^^^ ((rr ((rnds KK (w64 b) s i).e) 11)))) ^^^ ((rr ((rnds KK (w64 b) s i).e) 25)))))) + (((((((rnds KK (w64 b) s i).e)) &&& (((rnds KK (w64 b) s i).f)))) ^^^ ((((~~~(((rnds KK (w64 b) s i).e)))) &&& (((rnds KK (w64 b) s i).g)))))))) + ((wget KK i)))) + ((wget (w64 b) i))))) 85 rfl kj (Qag (u := .int .u32 (IntKind.u32.wrap (wv ((((((((rnds KK (w64 b) s i).h)) + ((((((rr ((rnds KK (w64 b) s i).e) 6)) ^^^ ((rr ((rnds KK (w64 b) s i).e) 11)))) ^^^ ((rr ((rnds KK (w64 b) s i).e) 25)))))) + (((((((rnds KK (w64 b) s i).e)) &&& (((rnds KK (w64 b) s i).f)))) ^^^ ((((~~~(((rnds KK (w64 b) s i).e)))) &&& (((rnds KK (w64 b) s i).g)))))))) + ((wget KK i))) + wv (wget (w64 b) i)))) kj (congrArg (Value.int .u32) (Qbu _ _))) ?_
  refine sg 1 kj ?_
  refine sgN hK17 ?_
  refine sgC fun K18 hK18 => ?_
  refine sg 3 kj ?_
  refine Qaa (.int .u32 (wv ((((rnds KK (w64 b) s i).a)) &&& (((rnds KK (w64 b) s i).b))))) 89 rfl kj (Qag (u := .int .u32 (bits .and .u32 (wv ((rnds KK (w64 b) s i).a)) (wv ((rnds KK (w64 b) s i).b)))) kj (congrArg (Value.int .u32) (Qel _ _))) ?_
  refine sg 2 kj ?_
  refine Qaa (.int .u32 (wv ((((rnds KK (w64 b) s i).a)) &&& (((rnds KK (w64 b) s i).c))))) 92 rfl kj (Qag (u := .int .u32 (bits .and .u32 (wv ((rnds KK (w64 b) s i).a)) (wv ((rnds KK (w64 b) s i).c)))) kj (congrArg (Value.int .u32) (Qel _ _))) ?_
  refine Qaa (.int .u32 (wv ((((((rnds KK (w64 b) s i).a)) &&& (((rnds KK (w64 b) s i).b)))) ^^^ (((((rnds KK (w64 b) s i).a)) &&& (((rnds KK (w64 b) s i).c))))))) 93 rfl kj (Qag (u := .int .u32 (bits .xor .u32 (wv ((((rnds KK (w64 b) s i).a)) &&& (((rnds KK (w64 b) s i).b)))) (wv ((((rnds KK (w64 b) s i).a)) &&& (((rnds KK (w64 b) s i).c)))))) kj (congrArg (Value.int .u32) (w_xor _ _))) ?_
  refine sg 2 kj ?_
  refine Qaa (.int .u32 (wv ((((rnds KK (w64 b) s i).b)) &&& (((rnds KK (w64 b) s i).c))))) 96 rfl kj (Qag (u := .int .u32 (bits .and .u32 (wv ((rnds KK (w64 b) s i).b)) (wv ((rnds KK (w64 b) s i).c)))) kj (congrArg (Value.int .u32) (Qel _ _))) ?_
  refine Qaa (.int .u32 (wv ((((((((rnds KK (w64 b) s i).a)) &&& (((rnds KK (w64 b) s i).b)))) ^^^ (((((rnds KK (w64 b) s i).a)) &&& (((rnds KK (w64 b) s i).c)))))) ^^^ (((((rnds KK (w64 b) s i).b)) &&& (((rnds KK (w64 b) s i).c))))))) 97 rfl kj (Qag (u := .int .u32 (bits .xor .u32 (wv ((((((rnds KK (w64 b) s i).a)) &&& (((rnds KK (w64 b) s i).b)))) ^^^ (((((rnds KK (w64 b) s i).a)) &&& (((rnds KK (w64 b) s i).c)))))) (wv ((((rnds KK (w64 b) s i).b)) &&& (((rnds KK (w64 b) s i).c)))))) kj (congrArg (Value.int .u32) (w_xor _ _))) ?_
  refine Qaa (.int .u32 (wv (((((((rr ((rnds KK (w64 b) s i).a) 2)) ^^^ ((rr ((rnds KK (w64 b) s i).a) 13)))) ^^^ ((rr ((rnds KK (w64 b) s i).a) 22)))) + (((((((((rnds KK (w64 b) s i).a)) &&& (((rnds KK (w64 b) s i).b)))) ^^^ (((((rnds KK (w64 b) s i).a)) &&& (((rnds KK (w64 b) s i).c)))))) ^^^ (((((rnds KK (w64 b) s i).b)) &&& (((rnds KK (w64 b) s i).c))))))))) 98 rfl kj (Qag (u := .int .u32 (IntKind.u32.wrap (wv (((((rr ((rnds KK (w64 b) s i).a) 2)) ^^^ ((rr ((rnds KK (w64 b) s i).a) 13)))) ^^^ ((rr ((rnds KK (w64 b) s i).a) 22))) + wv ((((((((rnds KK (w64 b) s i).a)) &&& (((rnds KK (w64 b) s i).b)))) ^^^ (((((rnds KK (w64 b) s i).a)) &&& (((rnds KK (w64 b) s i).c)))))) ^^^ (((((rnds KK (w64 b) s i).b)) &&& (((rnds KK (w64 b) s i).c)))))))) kj (congrArg (Value.int .u32) (Qbu _ _))) ?_
  refine sg 1 kj ?_
  refine sgN hK18 ?_
  refine Qad ?_
  refine sg 5 kj ?_
  refine Qaa (.int .u32 (wv ((((rnds KK (w64 b) s i).d)) + (((((((((((rnds KK (w64 b) s i).h)) + ((((((rr ((rnds KK (w64 b) s i).e) 6)) ^^^ ((rr ((rnds KK (w64 b) s i).e) 11)))) ^^^ ((rr ((rnds KK (w64 b) s i).e) 25)))))) + (((((((rnds KK (w64 b) s i).e)) &&& (((rnds KK (w64 b) s i).f)))) ^^^ ((((~~~(((rnds KK (w64 b) s i).e)))) &&& (((rnds KK (w64 b) s i).g)))))))) + ((wget KK i)))) + ((wget (w64 b) i))))))) 104 rfl kj (Qag (u := .int .u32 (IntKind.u32.wrap (wv ((rnds KK (w64 b) s i).d) + wv ((((((((((rnds KK (w64 b) s i).h)) + ((((((rr ((rnds KK (w64 b) s i).e) 6)) ^^^ ((rr ((rnds KK (w64 b) s i).e) 11)))) ^^^ ((rr ((rnds KK (w64 b) s i).e) 25)))))) + (((((((rnds KK (w64 b) s i).e)) &&& (((rnds KK (w64 b) s i).f)))) ^^^ ((((~~~(((rnds KK (w64 b) s i).e)))) &&& (((rnds KK (w64 b) s i).g)))))))) + ((wget KK i)))) + ((wget (w64 b) i)))))) kj (congrArg (Value.int .u32) (Qbu _ _))) ?_
  refine sg 5 kj ?_
  refine Qaa (.int .u32 (wv ((((((((((((rnds KK (w64 b) s i).h)) + ((((((rr ((rnds KK (w64 b) s i).e) 6)) ^^^ ((rr ((rnds KK (w64 b) s i).e) 11)))) ^^^ ((rr ((rnds KK (w64 b) s i).e) 25)))))) + (((((((rnds KK (w64 b) s i).e)) &&& (((rnds KK (w64 b) s i).f)))) ^^^ ((((~~~(((rnds KK (w64 b) s i).e)))) &&& (((rnds KK (w64 b) s i).g)))))))) + ((wget KK i)))) + ((wget (w64 b) i)))) + ((((((((rr ((rnds KK (w64 b) s i).a) 2)) ^^^ ((rr ((rnds KK (w64 b) s i).a) 13)))) ^^^ ((rr ((rnds KK (w64 b) s i).a) 22)))) + (((((((((rnds KK (w64 b) s i).a)) &&& (((rnds KK (w64 b) s i).b)))) ^^^ (((((rnds KK (w64 b) s i).a)) &&& (((rnds KK (w64 b) s i).c)))))) ^^^ (((((rnds KK (w64 b) s i).b)) &&& (((rnds KK (w64 b) s i).c))))))))))) 110 rfl kj (Qag (u := .int .u32 (IntKind.u32.wrap (wv ((((((((((rnds KK (w64 b) s i).h)) + ((((((rr ((rnds KK (w64 b) s i).e) 6)) ^^^ ((rr ((rnds KK (w64 b) s i).e) 11)))) ^^^ ((rr ((rnds KK (w64 b) s i).e) 25)))))) + (((((((rnds KK (w64 b) s i).e)) &&& (((rnds KK (w64 b) s i).f)))) ^^^ ((((~~~(((rnds KK (w64 b) s i).e)))) &&& (((rnds KK (w64 b) s i).g)))))))) + ((wget KK i)))) + ((wget (w64 b) i))) + wv (((((((rr ((rnds KK (w64 b) s i).a) 2)) ^^^ ((rr ((rnds KK (w64 b) s i).a) 13)))) ^^^ ((rr ((rnds KK (w64 b) s i).a) 22)))) + (((((((((rnds KK (w64 b) s i).a)) &&& (((rnds KK (w64 b) s i).b)))) ^^^ (((((rnds KK (w64 b) s i).a)) &&& (((rnds KK (w64 b) s i).c)))))) ^^^ (((((rnds KK (w64 b) s i).b)) &&& (((rnds KK (w64 b) s i).c)))))))))) kj (congrArg (Value.int .u32) (Qbu _ _))) ?_
  refine sg 8 kj ?_
  refine Qaj ?_
  refine hK13 _ _ ?_
  refine Qad ?_
  refine Qaa (.int .i64 ((i + 1 : Nat) : Int)) 111 rfl kj (Qag (u := .int .i64 (IntKind.i64.wrap (((i : Nat) : Int) + 1))) kj (congrArg (Value.int .i64) (i64n _ _ (by omega) (by omega)))) ?_
  refine sg 1 kj ?_
  refine Qaj ?_
  repeat (first | with_reducible refine goX1 ?_ | with_reducible refine goX2 ?_ | with_reducible refine goX3 ?_)
  exact Qa4 (i + 1) ⟨kj, kj, kj, kj, kj, kj, kj, kj, kj, kj, kj, trivial⟩ ⟨(by omega), (Rely.Ext.trans (Rely.Ext.trans (Rely.Ext.trans (Rely.Ext.trans (Rely.Ext.trans (Rely.Ext.trans e7 e8) e9) e10) e11) e12) e13), x13⟩ (by omega)
 ·skip
  have heq47 : i = 64 := by have := of_decide_eq_false c12; omega
  refine wp_exit ?_
  refine hK8 _ _ ?_
  refine sgB kj ?_
  refine wp_block ?_
  refine wp_loop_rounds 9 ?_
  show Code.wp _ _ (Exit.then (Code.rounds _ _ _ 8) _) _ _
  refine sgB kj ?_
  refine sgT kj ?_
  refine wp_seq_k fun K22 hK22 => ?_
  refine wp_block ?_
  refine sgC fun K23 hK23 => ?_
  refine sg 1 kj ?_
  refine Qaa (.int .u32 (wv (rnds KK (w64 b) s i).a)) 124 rfl kj (Qa6 114 _ _ .i64 .u32 ([wv (rnds KK (w64 b) s i).a, wv (rnds KK (w64 b) s i).b, wv (rnds KK (w64 b) s i).c, wv (rnds KK (w64 b) s i).d, wv (rnds KK (w64 b) s i).e, wv (rnds KK (w64 b) s i).f, wv (rnds KK (w64 b) s i).g, wv (rnds KK (w64 b) s i).h]) 0 8 113 (wv (rnds KK (w64 b) s i).a) rfl kj kj kj kj kj rfl (by decide) rfl) ?_
  refine sg 2 kj ?_
  refine sgN hK23 ?_
  refine Qbf 11 [⟨none, [(0, none)]⟩, ⟨none, [(18, none)]⟩, ⟨none, [(125, some 0)]⟩, ⟨none, [(127, some 2)]⟩, ⟨none, [(128, some 3), (126, some 1)]⟩, ⟨none, [(129, some 4)]⟩, ⟨none, [(19, none)]⟩, ⟨none, [(130, some 5), (131, some 6)]⟩, ⟨none, [(125, some 0)]⟩, ⟨none, [(133, some 8)]⟩, ⟨none, [(134, some 9), (126, some 1)]⟩] kj kj fun F hF => ?_
  refine Qap (.pointer (some ⟨g, 0, none⟩)) kj kj (fun W => by kernel_rfl) ?_
  refine Qap (.int .i64 0) kj kj (fun W => by kernel_rfl) ?_
  refine Qap (.pointer (some ⟨g, 0, none⟩)) kj kj (fun W => by kernel_rfl) ?_
  refine Qap (.pointer (some ⟨g, 0, none⟩)) kj kj (fun W => by kernel_rfl) ?_
  refine Qap (.pointer (some ⟨g, 0, none⟩)) kj kj (fun W => by kernel_rfl) ?_
  have r2_7 := (Qab (Qab (Puts.row p5 (Qab r2_3 e4) (Qaf r2_3 l6)) e6) e7)
  refine Qba (.int .u32 (wv s.a)) kj kj (fun W hR => (Qah 113 _ g 0 129 _ (.int .u32 (wv s.a)) _ (Qab (Qab r2_7 (Qas _)) hR) rfl kj (QbS [] [ints .u8 (b), #[.int .i64 m]] ([wv s.a, wv s.b, wv s.c, wv s.d, wv s.e, wv s.f, wv s.g, wv s.h]) 0 0 0 kj rfl (Nat.lt_of_lt_of_eq (show 0 < 8 by decide) rfl.symm)) kj)) ?_
  refine Qap (.int .u32 (wv (rnds KK (w64 b) s i).a)) kj kj (fun W => by kernel_rfl) ?_
  refine Qap (.int .u32 (wv ((s.a) + ((rnds KK (w64 b) s i).a)))) kj kj (fun W => (Qag (u := .int .u32 (IntKind.u32.wrap (wv s.a + wv ((rnds KK (w64 b) s i).a)))) kj (congrArg (Value.int .u32) (Qbu _ _)))) ?_
  refine Qap (.pointer (some ⟨g, 0, none⟩)) kj kj (fun W => by kernel_rfl) ?_
  refine Qap (.pointer (some ⟨g, 0, none⟩)) kj kj (fun W => by kernel_rfl) ?_
  refine Qap (.pointer (some ⟨g, 0, none⟩)) kj kj (fun W => by kernel_rfl) ?_
  refine Qbo (hF _ kj fun W8 e8 => ?_)
  simp only [ups, up, Kn.val, List.take_succ_cons, List.take_zero, List.drop_succ_cons, List.drop_zero, List.nil_append, List.cons_append]
  clear hF
  have x8 := ExtB.ext xx1 e8
  have r2_8 := (Qab r2_7 e8)
  refine Qai g _ (cat [ints .u32 ([(wv ((s.a) + ((rnds KK (w64 b) s i).a))), wv s.b, wv s.c, wv s.d, wv s.e, wv s.f, wv s.g, wv s.h]), ints .u8 (b), #[.int .i64 m]]) 129 r2_8 rfl kj (QaZ 113 _ _ g 0 129 [] [ints .u8 (b), #[.int .i64 m]] ([wv s.a, wv s.b, wv s.c, wv s.d, wv s.e, wv s.f, wv s.g, wv s.h]) 0 0 _ r2_8 rfl kj kj kj kj rfl (Nat.lt_of_lt_of_eq (show 0 < 8 by decide) rfl.symm)) fun W9 p9 r2_9 => ?_
  have x9 := ExtB.puts x8 p9
  refine Qaj ?_
  refine hK22 _ _ ?_
  refine sgA kj ?_
  show Code.rounds _ _ _ 8 _ _
  show Code.wp _ _ (Exit.then (Code.rounds _ _ _ 7) _) _ _
  refine sgB kj ?_
  refine sgT kj ?_
  refine wp_seq_k fun K26 hK26 => ?_
  refine wp_block ?_
  refine sgC fun K27 hK27 => ?_
  refine sg 1 kj ?_
  refine Qaa (.int .u32 (wv (rnds KK (w64 b) s i).b)) 124 rfl kj (Qa6 114 _ _ .i64 .u32 ([wv (rnds KK (w64 b) s i).a, wv (rnds KK (w64 b) s i).b, wv (rnds KK (w64 b) s i).c, wv (rnds KK (w64 b) s i).d, wv (rnds KK (w64 b) s i).e, wv (rnds KK (w64 b) s i).f, wv (rnds KK (w64 b) s i).g, wv (rnds KK (w64 b) s i).h]) 1 8 113 (wv (rnds KK (w64 b) s i).b) rfl kj kj kj kj kj rfl (by decide) rfl) ?_
  refine sg 2 kj ?_
  refine sgN hK27 ?_
  refine Qbf 11 [⟨none, [(0, none)]⟩, ⟨none, [(18, none)]⟩, ⟨none, [(125, some 0)]⟩, ⟨none, [(127, some 2)]⟩, ⟨none, [(128, some 3), (126, some 1)]⟩, ⟨none, [(129, some 4)]⟩, ⟨none, [(19, none)]⟩, ⟨none, [(130, some 5), (131, some 6)]⟩, ⟨none, [(125, some 0)]⟩, ⟨none, [(133, some 8)]⟩, ⟨none, [(134, some 9), (126, some 1)]⟩] kj kj fun F hF => ?_
  refine Qap (.pointer (some ⟨g, 0, none⟩)) kj kj (fun W => by kernel_rfl) ?_
  refine Qap (.int .i64 1) kj kj (fun W => by kernel_rfl) ?_
  refine Qap (.pointer (some ⟨g, 0, none⟩)) kj kj (fun W => by kernel_rfl) ?_
  refine Qap (.pointer (some ⟨g, 0, none⟩)) kj kj (fun W => by kernel_rfl) ?_
  refine Qap (.pointer (some ⟨g, 1, none⟩)) kj kj (fun W => by kernel_rfl) ?_
  refine Qba (.int .u32 (wv s.b)) kj kj (fun W hR => (Qah 113 _ g 1 129 _ (.int .u32 (wv s.b)) _ (Qab (Qab r2_9 (Qas _)) hR) rfl kj (QbS [] [ints .u8 (b), #[.int .i64 m]] ([(wv ((s.a) + ((rnds KK (w64 b) s i).a))), wv s.b, wv s.c, wv s.d, wv s.e, wv s.f, wv s.g, wv s.h]) 0 1 1 kj rfl (Nat.lt_of_lt_of_eq (show 1 < 8 by decide) rfl.symm)) kj)) ?_
  refine Qap (.int .u32 (wv (rnds KK (w64 b) s i).b)) kj kj (fun W => by kernel_rfl) ?_
  refine Qap (.int .u32 (wv ((s.b) + ((rnds KK (w64 b) s i).b)))) kj kj (fun W => (Qag (u := .int .u32 (IntKind.u32.wrap (wv s.b + wv ((rnds KK (w64 b) s i).b)))) kj (congrArg (Value.int .u32) (Qbu _ _)))) ?_
  refine Qap (.pointer (some ⟨g, 0, none⟩)) kj kj (fun W => by kernel_rfl) ?_
  refine Qap (.pointer (some ⟨g, 0, none⟩)) kj kj (fun W => by kernel_rfl) ?_
  refine Qap (.pointer (some ⟨g, 1, none⟩)) kj kj (fun W => by kernel_rfl) ?_
  refine Qbo (hF _ kj fun W10 e10 => ?_)
  simp only [ups, up, Kn.val, List.take_succ_cons, List.take_zero, List.drop_succ_cons, List.drop_zero, List.nil_append, List.cons_append]
  clear hF
  have x10 := ExtB.ext x9 e10
  have r2_10 := (Qab r2_9 e10)
  refine Qai g _ (cat [ints .u32 ([(wv ((s.a) + ((rnds KK (w64 b) s i).a))), (wv ((s.b) + ((rnds KK (w64 b) s i).b))), wv s.c, wv s.d, wv s.e, wv s.f, wv s.g, wv s.h]), ints .u8 (b), #[.int .i64 m]]) 129 r2_10 rfl kj (QaZ 113 _ _ g 1 129 [] [ints .u8 (b), #[.int .i64 m]] ([(wv ((s.a) + ((rnds KK (w64 b) s i).a))), wv s.b, wv s.c, wv s.d, wv s.e, wv s.f, wv s.g, wv s.h]) 0 1 _ r2_10 rfl kj kj kj kj rfl (Nat.lt_of_lt_of_eq (show 1 < 8 by decide) rfl.symm)) fun W11 p11 r2_11 => ?_
  have x11 := ExtB.puts x10 p11
  refine Qaj ?_
  refine hK26 _ _ ?_
  refine sgA kj ?_
  show Code.rounds _ _ _ 7 _ _
  show Code.wp _ _ (Exit.then (Code.rounds _ _ _ 6) _) _ _
  refine sgB kj ?_
  refine sgT kj ?_
  refine wp_seq_k fun K30 hK30 => ?_
  refine wp_block ?_
  refine sgC fun K31 hK31 => ?_
  refine sg 1 kj ?_
  refine Qaa (.int .u32 (wv (rnds KK (w64 b) s i).c)) 124 rfl kj (Qa6 114 _ _ .i64 .u32 ([wv (rnds KK (w64 b) s i).a, wv (rnds KK (w64 b) s i).b, wv (rnds KK (w64 b) s i).c, wv (rnds KK (w64 b) s i).d, wv (rnds KK (w64 b) s i).e, wv (rnds KK (w64 b) s i).f, wv (rnds KK (w64 b) s i).g, wv (rnds KK (w64 b) s i).h]) 2 8 113 (wv (rnds KK (w64 b) s i).c) rfl kj kj kj kj kj rfl (by decide) rfl) ?_
  refine sg 2 kj ?_
  refine sgN hK31 ?_
  refine Qbf 11 [⟨none, [(0, none)]⟩, ⟨none, [(18, none)]⟩, ⟨none, [(125, some 0)]⟩, ⟨none, [(127, some 2)]⟩, ⟨none, [(128, some 3), (126, some 1)]⟩, ⟨none, [(129, some 4)]⟩, ⟨none, [(19, none)]⟩, ⟨none, [(130, some 5), (131, some 6)]⟩, ⟨none, [(125, some 0)]⟩, ⟨none, [(133, some 8)]⟩, ⟨none, [(134, some 9), (126, some 1)]⟩] kj kj fun F hF => ?_
  refine Qap (.pointer (some ⟨g, 0, none⟩)) kj kj (fun W => by kernel_rfl) ?_
  refine Qap (.int .i64 2) kj kj (fun W => by kernel_rfl) ?_
  refine Qap (.pointer (some ⟨g, 0, none⟩)) kj kj (fun W => by kernel_rfl) ?_
  refine Qap (.pointer (some ⟨g, 0, none⟩)) kj kj (fun W => by kernel_rfl) ?_
  refine Qap (.pointer (some ⟨g, 2, none⟩)) kj kj (fun W => by kernel_rfl) ?_
  refine Qba (.int .u32 (wv s.c)) kj kj (fun W hR => (Qah 113 _ g 2 129 _ (.int .u32 (wv s.c)) _ (Qab (Qab r2_11 (Qas _)) hR) rfl kj (QbS [] [ints .u8 (b), #[.int .i64 m]] ([(wv ((s.a) + ((rnds KK (w64 b) s i).a))), (wv ((s.b) + ((rnds KK (w64 b) s i).b))), wv s.c, wv s.d, wv s.e, wv s.f, wv s.g, wv s.h]) 0 2 2 kj rfl (Nat.lt_of_lt_of_eq (show 2 < 8 by decide) rfl.symm)) kj)) ?_
  refine Qap (.int .u32 (wv (rnds KK (w64 b) s i).c)) kj kj (fun W => by kernel_rfl) ?_
  refine Qap (.int .u32 (wv ((s.c) + ((rnds KK (w64 b) s i).c)))) kj kj (fun W => (Qag (u := .int .u32 (IntKind.u32.wrap (wv s.c + wv ((rnds KK (w64 b) s i).c)))) kj (congrArg (Value.int .u32) (Qbu _ _)))) ?_
  refine Qap (.pointer (some ⟨g, 0, none⟩)) kj kj (fun W => by kernel_rfl) ?_
  refine Qap (.pointer (some ⟨g, 0, none⟩)) kj kj (fun W => by kernel_rfl) ?_
  refine Qap (.pointer (some ⟨g, 2, none⟩)) kj kj (fun W => by kernel_rfl) ?_
  refine Qbo (hF _ kj fun W12 e12 => ?_)
  simp only [ups, up, Kn.val, List.take_succ_cons, List.take_zero, List.drop_succ_cons, List.drop_zero, List.nil_append, List.cons_append]
  clear hF
  have x12 := ExtB.ext x11 e12
  have r2_12 := (Qab r2_11 e12)
  refine Qai g _ (cat [ints .u32 ([(wv ((s.a) + ((rnds KK (w64 b) s i).a))), (wv ((s.b) + ((rnds KK (w64 b) s i).b))), (wv ((s.c) + ((rnds KK (w64 b) s i).c))), wv s.d, wv s.e, wv s.f, wv s.g, wv s.h]), ints .u8 (b), #[.int .i64 m]]) 129 r2_12 rfl kj (QaZ 113 _ _ g 2 129 [] [ints .u8 (b), #[.int .i64 m]] ([(wv ((s.a) + ((rnds KK (w64 b) s i).a))), (wv ((s.b) + ((rnds KK (w64 b) s i).b))), wv s.c, wv s.d, wv s.e, wv s.f, wv s.g, wv s.h]) 0 2 _ r2_12 rfl kj kj kj kj rfl (Nat.lt_of_lt_of_eq (show 2 < 8 by decide) rfl.symm)) fun W13 p13 r2_13 => ?_
  have x13 := ExtB.puts x12 p13
  refine Qaj ?_
  refine hK30 _ _ ?_
  refine sgA kj ?_
  show Code.rounds _ _ _ 6 _ _
  show Code.wp _ _ (Exit.then (Code.rounds _ _ _ 5) _) _ _
  refine sgB kj ?_
  refine sgT kj ?_
  refine wp_seq_k fun K34 hK34 => ?_
  refine wp_block ?_
  refine sgC fun K35 hK35 => ?_
  refine sg 1 kj ?_
  refine Qaa (.int .u32 (wv (rnds KK (w64 b) s i).d)) 124 rfl kj (Qa6 114 _ _ .i64 .u32 ([wv (rnds KK (w64 b) s i).a, wv (rnds KK (w64 b) s i).b, wv (rnds KK (w64 b) s i).c, wv (rnds KK (w64 b) s i).d, wv (rnds KK (w64 b) s i).e, wv (rnds KK (w64 b) s i).f, wv (rnds KK (w64 b) s i).g, wv (rnds KK (w64 b) s i).h]) 3 8 113 (wv (rnds KK (w64 b) s i).d) rfl kj kj kj kj kj rfl (by decide) rfl) ?_
  refine sg 2 kj ?_
  refine sgN hK35 ?_
  refine Qbf 11 [⟨none, [(0, none)]⟩, ⟨none, [(18, none)]⟩, ⟨none, [(125, some 0)]⟩, ⟨none, [(127, some 2)]⟩, ⟨none, [(128, some 3), (126, some 1)]⟩, ⟨none, [(129, some 4)]⟩, ⟨none, [(19, none)]⟩, ⟨none, [(130, some 5), (131, some 6)]⟩, ⟨none, [(125, some 0)]⟩, ⟨none, [(133, some 8)]⟩, ⟨none, [(134, some 9), (126, some 1)]⟩] kj kj fun F hF => ?_
  refine Qap (.pointer (some ⟨g, 0, none⟩)) kj kj (fun W => by kernel_rfl) ?_
  refine Qap (.int .i64 3) kj kj (fun W => by kernel_rfl) ?_
  refine Qap (.pointer (some ⟨g, 0, none⟩)) kj kj (fun W => by kernel_rfl) ?_
  refine Qap (.pointer (some ⟨g, 0, none⟩)) kj kj (fun W => by kernel_rfl) ?_
  refine Qap (.pointer (some ⟨g, 3, none⟩)) kj kj (fun W => by kernel_rfl) ?_
  refine Qba (.int .u32 (wv s.d)) kj kj (fun W hR => (Qah 113 _ g 3 129 _ (.int .u32 (wv s.d)) _ (Qab (Qab r2_13 (Qas _)) hR) rfl kj (QbS [] [ints .u8 (b), #[.int .i64 m]] ([(wv ((s.a) + ((rnds KK (w64 b) s i).a))), (wv ((s.b) + ((rnds KK (w64 b) s i).b))), (wv ((s.c) + ((rnds KK (w64 b) s i).c))), wv s.d, wv s.e, wv s.f, wv s.g, wv s.h]) 0 3 3 kj rfl (Nat.lt_of_lt_of_eq (show 3 < 8 by decide) rfl.symm)) kj)) ?_
  refine Qap (.int .u32 (wv (rnds KK (w64 b) s i).d)) kj kj (fun W => by kernel_rfl) ?_
  refine Qap (.int .u32 (wv ((s.d) + ((rnds KK (w64 b) s i).d)))) kj kj (fun W => (Qag (u := .int .u32 (IntKind.u32.wrap (wv s.d + wv ((rnds KK (w64 b) s i).d)))) kj (congrArg (Value.int .u32) (Qbu _ _)))) ?_
  refine Qap (.pointer (some ⟨g, 0, none⟩)) kj kj (fun W => by kernel_rfl) ?_
  refine Qap (.pointer (some ⟨g, 0, none⟩)) kj kj (fun W => by kernel_rfl) ?_
  refine Qap (.pointer (some ⟨g, 3, none⟩)) kj kj (fun W => by kernel_rfl) ?_
  refine Qbo (hF _ kj fun W14 e14 => ?_)
  simp only [ups, up, Kn.val, List.take_succ_cons, List.take_zero, List.drop_succ_cons, List.drop_zero, List.nil_append, List.cons_append]
  clear hF
  have r2_14 := (Qab r2_13 e14)
  refine Qai g _ (cat [ints .u32 ([(wv ((s.a) + ((rnds KK (w64 b) s i).a))), (wv ((s.b) + ((rnds KK (w64 b) s i).b))), (wv ((s.c) + ((rnds KK (w64 b) s i).c))), (wv ((s.d) + ((rnds KK (w64 b) s i).d))), wv s.e, wv s.f, wv s.g, wv s.h]), ints .u8 (b), #[.int .i64 m]]) 129 r2_14 rfl kj (QaZ 113 _ _ g 3 129 [] [ints .u8 (b), #[.int .i64 m]] ([(wv ((s.a) + ((rnds KK (w64 b) s i).a))), (wv ((s.b) + ((rnds KK (w64 b) s i).b))), (wv ((s.c) + ((rnds KK (w64 b) s i).c))), wv s.d, wv s.e, wv s.f, wv s.g, wv s.h]) 0 3 _ r2_14 rfl kj kj kj kj rfl (Nat.lt_of_lt_of_eq (show 3 < 8 by decide) rfl.symm)) fun W15 p15 r2_15 => ?_
  refine Qaj ?_
  refine hK34 _ _ ?_
  refine sgA kj ?_
  show Code.rounds _ _ _ 5 _ _
  show Code.wp _ _ (Exit.then (Code.rounds _ _ _ 4) _) _ _
  refine sgB kj ?_
  refine sgT kj ?_
  refine wp_seq_k fun K38 hK38 => ?_
  refine wp_block ?_
  refine sgC fun K39 hK39 => ?_
  refine sg 1 kj ?_
  refine Qaa (.int .u32 (wv (rnds KK (w64 b) s i).e)) 124 rfl kj (Qa6 114 _ _ .i64 .u32 ([wv (rnds KK (w64 b) s i).a, wv (rnds KK (w64 b) s i).b, wv (rnds KK (w64 b) s i).c, wv (rnds KK (w64 b) s i).d, wv (rnds KK (w64 b) s i).e, wv (rnds KK (w64 b) s i).f, wv (rnds KK (w64 b) s i).g, wv (rnds KK (w64 b) s i).h]) 4 8 113 (wv (rnds KK (w64 b) s i).e) rfl kj kj kj kj kj rfl (by decide) rfl) ?_
  refine sg 2 kj ?_
  refine sgN hK39 ?_
  refine Qbf 11 [⟨none, [(0, none)]⟩, ⟨none, [(18, none)]⟩, ⟨none, [(125, some 0)]⟩, ⟨none, [(127, some 2)]⟩, ⟨none, [(128, some 3), (126, some 1)]⟩, ⟨none, [(129, some 4)]⟩, ⟨none, [(19, none)]⟩, ⟨none, [(130, some 5), (131, some 6)]⟩, ⟨none, [(125, some 0)]⟩, ⟨none, [(133, some 8)]⟩, ⟨none, [(134, some 9), (126, some 1)]⟩] kj kj fun F hF => ?_
  refine Qap (.pointer (some ⟨g, 0, none⟩)) kj kj (fun W => by kernel_rfl) ?_
  refine Qap (.int .i64 4) kj kj (fun W => by kernel_rfl) ?_
  refine Qap (.pointer (some ⟨g, 0, none⟩)) kj kj (fun W => by kernel_rfl) ?_
  refine Qap (.pointer (some ⟨g, 0, none⟩)) kj kj (fun W => by kernel_rfl) ?_
  refine Qap (.pointer (some ⟨g, 4, none⟩)) kj kj (fun W => by kernel_rfl) ?_
  refine Qba (.int .u32 (wv s.e)) kj kj (fun W hR => (Qah 113 _ g 4 129 _ (.int .u32 (wv s.e)) _ (Qab (Qab r2_15 (Qas _)) hR) rfl kj (QbS [] [ints .u8 (b), #[.int .i64 m]] ([(wv ((s.a) + ((rnds KK (w64 b) s i).a))), (wv ((s.b) + ((rnds KK (w64 b) s i).b))), (wv ((s.c) + ((rnds KK (w64 b) s i).c))), (wv ((s.d) + ((rnds KK (w64 b) s i).d))), wv s.e, wv s.f, wv s.g, wv s.h]) 0 4 4 kj rfl (Nat.lt_of_lt_of_eq (show 4 < 8 by decide) rfl.symm)) kj)) ?_
  refine Qap (.int .u32 (wv (rnds KK (w64 b) s i).e)) kj kj (fun W => by kernel_rfl) ?_
  refine Qap (.int .u32 (wv ((s.e) + ((rnds KK (w64 b) s i).e)))) kj kj (fun W => (Qag (u := .int .u32 (IntKind.u32.wrap (wv s.e + wv ((rnds KK (w64 b) s i).e)))) kj (congrArg (Value.int .u32) (Qbu _ _)))) ?_
  refine Qap (.pointer (some ⟨g, 0, none⟩)) kj kj (fun W => by kernel_rfl) ?_
  refine Qap (.pointer (some ⟨g, 0, none⟩)) kj kj (fun W => by kernel_rfl) ?_
  refine Qap (.pointer (some ⟨g, 4, none⟩)) kj kj (fun W => by kernel_rfl) ?_
  refine Qbo (hF _ kj fun W16 e16 => ?_)
  simp only [ups, up, Kn.val, List.take_succ_cons, List.take_zero, List.drop_succ_cons, List.drop_zero, List.nil_append, List.cons_append]
  clear hF
  have r2_16 := (Qab r2_15 e16)
  refine Qai g _ (cat [ints .u32 ([(wv ((s.a) + ((rnds KK (w64 b) s i).a))), (wv ((s.b) + ((rnds KK (w64 b) s i).b))), (wv ((s.c) + ((rnds KK (w64 b) s i).c))), (wv ((s.d) + ((rnds KK (w64 b) s i).d))), (wv ((s.e) + ((rnds KK (w64 b) s i).e))), wv s.f, wv s.g, wv s.h]), ints .u8 (b), #[.int .i64 m]]) 129 r2_16 rfl kj (QaZ 113 _ _ g 4 129 [] [ints .u8 (b), #[.int .i64 m]] ([(wv ((s.a) + ((rnds KK (w64 b) s i).a))), (wv ((s.b) + ((rnds KK (w64 b) s i).b))), (wv ((s.c) + ((rnds KK (w64 b) s i).c))), (wv ((s.d) + ((rnds KK (w64 b) s i).d))), wv s.e, wv s.f, wv s.g, wv s.h]) 0 4 _ r2_16 rfl kj kj kj kj rfl (Nat.lt_of_lt_of_eq (show 4 < 8 by decide) rfl.symm)) fun W17 p17 r2_17 => ?_
  refine Qaj ?_
  refine hK38 _ _ ?_
  refine sgA kj ?_
  show Code.rounds _ _ _ 4 _ _
  show Code.wp _ _ (Exit.then (Code.rounds _ _ _ 3) _) _ _
  refine sgB kj ?_
  refine sgT kj ?_
  refine wp_seq_k fun K42 hK42 => ?_
  refine wp_block ?_
  refine sgC fun K43 hK43 => ?_
  refine sg 1 kj ?_
  refine Qaa (.int .u32 (wv (rnds KK (w64 b) s i).f)) 124 rfl kj (Qa6 114 _ _ .i64 .u32 ([wv (rnds KK (w64 b) s i).a, wv (rnds KK (w64 b) s i).b, wv (rnds KK (w64 b) s i).c, wv (rnds KK (w64 b) s i).d, wv (rnds KK (w64 b) s i).e, wv (rnds KK (w64 b) s i).f, wv (rnds KK (w64 b) s i).g, wv (rnds KK (w64 b) s i).h]) 5 8 113 (wv (rnds KK (w64 b) s i).f) rfl kj kj kj kj kj rfl (by decide) rfl) ?_
  refine sg 2 kj ?_
  refine sgN hK43 ?_
  refine Qbf 11 [⟨none, [(0, none)]⟩, ⟨none, [(18, none)]⟩, ⟨none, [(125, some 0)]⟩, ⟨none, [(127, some 2)]⟩, ⟨none, [(128, some 3), (126, some 1)]⟩, ⟨none, [(129, some 4)]⟩, ⟨none, [(19, none)]⟩, ⟨none, [(130, some 5), (131, some 6)]⟩, ⟨none, [(125, some 0)]⟩, ⟨none, [(133, some 8)]⟩, ⟨none, [(134, some 9), (126, some 1)]⟩] kj kj fun F hF => ?_
  refine Qap (.pointer (some ⟨g, 0, none⟩)) kj kj (fun W => by kernel_rfl) ?_
  refine Qap (.int .i64 5) kj kj (fun W => by kernel_rfl) ?_
  refine Qap (.pointer (some ⟨g, 0, none⟩)) kj kj (fun W => by kernel_rfl) ?_
  refine Qap (.pointer (some ⟨g, 0, none⟩)) kj kj (fun W => by kernel_rfl) ?_
  refine Qap (.pointer (some ⟨g, 5, none⟩)) kj kj (fun W => by kernel_rfl) ?_
  refine Qba (.int .u32 (wv s.f)) kj kj (fun W hR => (Qah 113 _ g 5 129 _ (.int .u32 (wv s.f)) _ (Qab (Qab r2_17 (Qas _)) hR) rfl kj (QbS [] [ints .u8 (b), #[.int .i64 m]] ([(wv ((s.a) + ((rnds KK (w64 b) s i).a))), (wv ((s.b) + ((rnds KK (w64 b) s i).b))), (wv ((s.c) + ((rnds KK (w64 b) s i).c))), (wv ((s.d) + ((rnds KK (w64 b) s i).d))), (wv ((s.e) + ((rnds KK (w64 b) s i).e))), wv s.f, wv s.g, wv s.h]) 0 5 5 kj rfl (Nat.lt_of_lt_of_eq (show 5 < 8 by decide) rfl.symm)) kj)) ?_
  refine Qap (.int .u32 (wv (rnds KK (w64 b) s i).f)) kj kj (fun W => by kernel_rfl) ?_
  refine Qap (.int .u32 (wv ((s.f) + ((rnds KK (w64 b) s i).f)))) kj kj (fun W => (Qag (u := .int .u32 (IntKind.u32.wrap (wv s.f + wv ((rnds KK (w64 b) s i).f)))) kj (congrArg (Value.int .u32) (Qbu _ _)))) ?_
  refine Qap (.pointer (some ⟨g, 0, none⟩)) kj kj (fun W => by kernel_rfl) ?_
  refine Qap (.pointer (some ⟨g, 0, none⟩)) kj kj (fun W => by kernel_rfl) ?_
  refine Qap (.pointer (some ⟨g, 5, none⟩)) kj kj (fun W => by kernel_rfl) ?_
  refine Qbo (hF _ kj fun W18 e18 => ?_)
  simp only [ups, up, Kn.val, List.take_succ_cons, List.take_zero, List.drop_succ_cons, List.drop_zero, List.nil_append, List.cons_append]
  clear hF
  have r2_18 := (Qab r2_17 e18)
  refine Qai g _ (cat [ints .u32 ([(wv ((s.a) + ((rnds KK (w64 b) s i).a))), (wv ((s.b) + ((rnds KK (w64 b) s i).b))), (wv ((s.c) + ((rnds KK (w64 b) s i).c))), (wv ((s.d) + ((rnds KK (w64 b) s i).d))), (wv ((s.e) + ((rnds KK (w64 b) s i).e))), (wv ((s.f) + ((rnds KK (w64 b) s i).f))), wv s.g, wv s.h]), ints .u8 (b), #[.int .i64 m]]) 129 r2_18 rfl kj (QaZ 113 _ _ g 5 129 [] [ints .u8 (b), #[.int .i64 m]] ([(wv ((s.a) + ((rnds KK (w64 b) s i).a))), (wv ((s.b) + ((rnds KK (w64 b) s i).b))), (wv ((s.c) + ((rnds KK (w64 b) s i).c))), (wv ((s.d) + ((rnds KK (w64 b) s i).d))), (wv ((s.e) + ((rnds KK (w64 b) s i).e))), wv s.f, wv s.g, wv s.h]) 0 5 _ r2_18 rfl kj kj kj kj rfl (Nat.lt_of_lt_of_eq (show 5 < 8 by decide) rfl.symm)) fun W19 p19 r2_19 => ?_
  refine Qaj ?_
  refine hK42 _ _ ?_
  refine sgA kj ?_
  show Code.rounds _ _ _ 3 _ _
  show Code.wp _ _ (Exit.then (Code.rounds _ _ _ 2) _) _ _
  refine sgB kj ?_
  refine sgT kj ?_
  refine wp_seq_k fun K46 hK46 => ?_
  refine wp_block ?_
  refine sgC fun K47 hK47 => ?_
  refine sg 1 kj ?_
  refine Qaa (.int .u32 (wv (rnds KK (w64 b) s i).g)) 124 rfl kj (Qa6 114 _ _ .i64 .u32 ([wv (rnds KK (w64 b) s i).a, wv (rnds KK (w64 b) s i).b, wv (rnds KK (w64 b) s i).c, wv (rnds KK (w64 b) s i).d, wv (rnds KK (w64 b) s i).e, wv (rnds KK (w64 b) s i).f, wv (rnds KK (w64 b) s i).g, wv (rnds KK (w64 b) s i).h]) 6 8 113 (wv (rnds KK (w64 b) s i).g) rfl kj kj kj kj kj rfl (by decide) rfl) ?_
  refine sg 2 kj ?_
  refine sgN hK47 ?_
  refine Qbf 11 [⟨none, [(0, none)]⟩, ⟨none, [(18, none)]⟩, ⟨none, [(125, some 0)]⟩, ⟨none, [(127, some 2)]⟩, ⟨none, [(128, some 3), (126, some 1)]⟩, ⟨none, [(129, some 4)]⟩, ⟨none, [(19, none)]⟩, ⟨none, [(130, some 5), (131, some 6)]⟩, ⟨none, [(125, some 0)]⟩, ⟨none, [(133, some 8)]⟩, ⟨none, [(134, some 9), (126, some 1)]⟩] kj kj fun F hF => ?_
  refine Qap (.pointer (some ⟨g, 0, none⟩)) kj kj (fun W => by kernel_rfl) ?_
  refine Qap (.int .i64 6) kj kj (fun W => by kernel_rfl) ?_
  refine Qap (.pointer (some ⟨g, 0, none⟩)) kj kj (fun W => by kernel_rfl) ?_
  refine Qap (.pointer (some ⟨g, 0, none⟩)) kj kj (fun W => by kernel_rfl) ?_
  refine Qap (.pointer (some ⟨g, 6, none⟩)) kj kj (fun W => by kernel_rfl) ?_
  refine Qba (.int .u32 (wv s.g)) kj kj (fun W hR => (Qah 113 _ g 6 129 _ (.int .u32 (wv s.g)) _ (Qab (Qab r2_19 (Qas _)) hR) rfl kj (QbS [] [ints .u8 (b), #[.int .i64 m]] ([(wv ((s.a) + ((rnds KK (w64 b) s i).a))), (wv ((s.b) + ((rnds KK (w64 b) s i).b))), (wv ((s.c) + ((rnds KK (w64 b) s i).c))), (wv ((s.d) + ((rnds KK (w64 b) s i).d))), (wv ((s.e) + ((rnds KK (w64 b) s i).e))), (wv ((s.f) + ((rnds KK (w64 b) s i).f))), wv s.g, wv s.h]) 0 6 6 kj rfl (Nat.lt_of_lt_of_eq (show 6 < 8 by decide) rfl.symm)) kj)) ?_
  refine Qap (.int .u32 (wv (rnds KK (w64 b) s i).g)) kj kj (fun W => by kernel_rfl) ?_
  refine Qap (.int .u32 (wv ((s.g) + ((rnds KK (w64 b) s i).g)))) kj kj (fun W => (Qag (u := .int .u32 (IntKind.u32.wrap (wv s.g + wv ((rnds KK (w64 b) s i).g)))) kj (congrArg (Value.int .u32) (Qbu _ _)))) ?_
  refine Qap (.pointer (some ⟨g, 0, none⟩)) kj kj (fun W => by kernel_rfl) ?_
  refine Qap (.pointer (some ⟨g, 0, none⟩)) kj kj (fun W => by kernel_rfl) ?_
  refine Qap (.pointer (some ⟨g, 6, none⟩)) kj kj (fun W => by kernel_rfl) ?_
  refine Qbo (hF _ kj fun W20 e20 => ?_)
  simp only [ups, up, Kn.val, List.take_succ_cons, List.take_zero, List.drop_succ_cons, List.drop_zero, List.nil_append, List.cons_append]
  clear hF
  have r2_20 := (Qab r2_19 e20)
  refine Qai g _ (cat [ints .u32 ([(wv ((s.a) + ((rnds KK (w64 b) s i).a))), (wv ((s.b) + ((rnds KK (w64 b) s i).b))), (wv ((s.c) + ((rnds KK (w64 b) s i).c))), (wv ((s.d) + ((rnds KK (w64 b) s i).d))), (wv ((s.e) + ((rnds KK (w64 b) s i).e))), (wv ((s.f) + ((rnds KK (w64 b) s i).f))), (wv ((s.g) + ((rnds KK (w64 b) s i).g))), wv s.h]), ints .u8 (b), #[.int .i64 m]]) 129 r2_20 rfl kj (QaZ 113 _ _ g 6 129 [] [ints .u8 (b), #[.int .i64 m]] ([(wv ((s.a) + ((rnds KK (w64 b) s i).a))), (wv ((s.b) + ((rnds KK (w64 b) s i).b))), (wv ((s.c) + ((rnds KK (w64 b) s i).c))), (wv ((s.d) + ((rnds KK (w64 b) s i).d))), (wv ((s.e) + ((rnds KK (w64 b) s i).e))), (wv ((s.f) + ((rnds KK (w64 b) s i).f))), wv s.g, wv s.h]) 0 6 _ r2_20 rfl kj kj kj kj rfl (Nat.lt_of_lt_of_eq (show 6 < 8 by decide) rfl.symm)) fun W21 p21 r2_21 => ?_
  refine Qaj ?_
  refine hK46 _ _ ?_
  refine sgA kj ?_
  show Code.rounds _ _ _ 2 _ _
  show Code.wp _ _ (Exit.then (Code.rounds _ _ _ 1) _) _ _
  refine sgB kj ?_
  refine sgT kj ?_
  refine wp_seq_k fun K50 hK50 => ?_
  refine wp_block ?_
  refine sgC fun K51 hK51 => ?_
  refine sg 1 kj ?_
  refine Qaa (.int .u32 (wv (rnds KK (w64 b) s i).h)) 124 rfl kj (Qa6 114 _ _ .i64 .u32 ([wv (rnds KK (w64 b) s i).a, wv (rnds KK (w64 b) s i).b, wv (rnds KK (w64 b) s i).c, wv (rnds KK (w64 b) s i).d, wv (rnds KK (w64 b) s i).e, wv (rnds KK (w64 b) s i).f, wv (rnds KK (w64 b) s i).g, wv (rnds KK (w64 b) s i).h]) 7 8 113 (wv (rnds KK (w64 b) s i).h) rfl kj kj kj kj kj rfl (by decide) rfl) ?_
  refine sg 2 kj ?_
  refine sgN hK51 ?_
  refine Qbf 11 [⟨none, [(0, none)]⟩, ⟨none, [(18, none)]⟩, ⟨none, [(125, some 0)]⟩, ⟨none, [(127, some 2)]⟩, ⟨none, [(128, some 3), (126, some 1)]⟩, ⟨none, [(129, some 4)]⟩, ⟨none, [(19, none)]⟩, ⟨none, [(130, some 5), (131, some 6)]⟩, ⟨none, [(125, some 0)]⟩, ⟨none, [(133, some 8)]⟩, ⟨none, [(134, some 9), (126, some 1)]⟩] kj kj fun F hF => ?_
  refine Qap (.pointer (some ⟨g, 0, none⟩)) kj kj (fun W => by kernel_rfl) ?_
  refine Qap (.int .i64 7) kj kj (fun W => by kernel_rfl) ?_
  refine Qap (.pointer (some ⟨g, 0, none⟩)) kj kj (fun W => by kernel_rfl) ?_
  refine Qap (.pointer (some ⟨g, 0, none⟩)) kj kj (fun W => by kernel_rfl) ?_
  refine Qap (.pointer (some ⟨g, 7, none⟩)) kj kj (fun W => by kernel_rfl) ?_
  refine Qba (.int .u32 (wv s.h)) kj kj (fun W hR => (Qah 113 _ g 7 129 _ (.int .u32 (wv s.h)) _ (Qab (Qab r2_21 (Qas _)) hR) rfl kj (QbS [] [ints .u8 (b), #[.int .i64 m]] ([(wv ((s.a) + ((rnds KK (w64 b) s i).a))), (wv ((s.b) + ((rnds KK (w64 b) s i).b))), (wv ((s.c) + ((rnds KK (w64 b) s i).c))), (wv ((s.d) + ((rnds KK (w64 b) s i).d))), (wv ((s.e) + ((rnds KK (w64 b) s i).e))), (wv ((s.f) + ((rnds KK (w64 b) s i).f))), (wv ((s.g) + ((rnds KK (w64 b) s i).g))), wv s.h]) 0 7 7 kj rfl (Nat.lt_of_lt_of_eq (show 7 < 8 by decide) rfl.symm)) kj)) ?_
  refine Qap (.int .u32 (wv (rnds KK (w64 b) s i).h)) kj kj (fun W => by kernel_rfl) ?_
  refine Qap (.int .u32 (wv ((s.h) + ((rnds KK (w64 b) s i).h)))) kj kj (fun W => (Qag (u := .int .u32 (IntKind.u32.wrap (wv s.h + wv ((rnds KK (w64 b) s i).h)))) kj (congrArg (Value.int .u32) (Qbu _ _)))) ?_
  refine Qap (.pointer (some ⟨g, 0, none⟩)) kj kj (fun W => by kernel_rfl) ?_
  refine Qap (.pointer (some ⟨g, 0, none⟩)) kj kj (fun W => by kernel_rfl) ?_
  refine Qap (.pointer (some ⟨g, 7, none⟩)) kj kj (fun W => by kernel_rfl) ?_
  refine Qbo (hF _ kj fun W22 e22 => ?_)
  simp only [ups, up, Kn.val, List.take_succ_cons, List.take_zero, List.drop_succ_cons, List.drop_zero, List.nil_append, List.cons_append]
  clear hF
  have r2_22 := (Qab r2_21 e22)
  refine Qai g _ (cat [ints .u32 ([(wv ((s.a) + ((rnds KK (w64 b) s i).a))), (wv ((s.b) + ((rnds KK (w64 b) s i).b))), (wv ((s.c) + ((rnds KK (w64 b) s i).c))), (wv ((s.d) + ((rnds KK (w64 b) s i).d))), (wv ((s.e) + ((rnds KK (w64 b) s i).e))), (wv ((s.f) + ((rnds KK (w64 b) s i).f))), (wv ((s.g) + ((rnds KK (w64 b) s i).g))), (wv ((s.h) + ((rnds KK (w64 b) s i).h)))]), ints .u8 (b), #[.int .i64 m]]) 129 r2_22 rfl kj (QaZ 113 _ _ g 7 129 [] [ints .u8 (b), #[.int .i64 m]] ([(wv ((s.a) + ((rnds KK (w64 b) s i).a))), (wv ((s.b) + ((rnds KK (w64 b) s i).b))), (wv ((s.c) + ((rnds KK (w64 b) s i).c))), (wv ((s.d) + ((rnds KK (w64 b) s i).d))), (wv ((s.e) + ((rnds KK (w64 b) s i).e))), (wv ((s.f) + ((rnds KK (w64 b) s i).f))), (wv ((s.g) + ((rnds KK (w64 b) s i).g))), wv s.h]) 0 7 _ r2_22 rfl kj kj kj kj rfl (Nat.lt_of_lt_of_eq (show 7 < 8 by decide) rfl.symm)) fun W23 p23 r2_23 => ?_
  refine Qaj ?_
  refine hK50 _ _ ?_
  refine sgA kj ?_
  show Code.rounds _ _ _ 1 _ _
  show Code.wp _ _ (Exit.then (Code.rounds _ _ _ 0) _) _ _
  refine sgB kj ?_
  refine wp_seq_k fun K53 hK53 => ?_
  refine cond_false kj ?_
  refine wp_exit ?_
  repeat (first | with_reducible refine goX1 ?_ | with_reducible refine goX2 ?_ | with_reducible refine goX3 ?_)
  exact (show bodyPost _ _ _ .normal _ _ from end0 rfl ⟨rfl, (ExtB.puts (ExtB.ext (ExtB.puts (ExtB.ext (ExtB.puts (ExtB.ext (ExtB.puts (ExtB.ext (ExtB.puts (ExtB.ext x13 e14) p15) e16) p17) e18) p19) e20) p21) e22) p23), by rw [heq47] at *; exact r2_23⟩)
end Go.Proofs.YtibegnjaphohaaaDoor.Sha
end
section
namespace Go.Proofs.YtibegnjaphohaaaDoor.Sha
open Go Go.RowKit
open Rely Auto Own
set_option linter.unusedVariables false
theorem QcU (s : S8) (t u : List Int) : ∀ n : Nat, 64 * n ≤ t.length → absorb s (t ++ u) n = absorb s t n
  | 0, _ => rfl
  | n + 1, h => by
    show blk (absorb s (t ++ u) n) _ = blk (absorb s t n) _
    rw [QcU s t u n (by omega)]
    congr 1
    rw [List.drop_append_of_le_length (by omega), List.take_append_of_le_length (by rw [List.length_drop]; omega)]
def HasD (g : Nat) (t : List Int) (W : World) : Prop := ∃ b : List Int, b.length = 64 ∧ Qao b ∧ b.take (t.length % 64) = t.drop (64 * (t.length / 64)) ∧ t.length ≤ 1000000000 ∧
  W.heap[g]? = some (.cells (cat [ints .u32 ((absorb S0 t (t.length / 64)).l.map wv), ints .u8 b, #[.int .i64 ((t.length : Nat) : Int)]]) 129)
theorem HasD.row {g : Nat} {t : List Int} {W W' : World} (h : HasD g t W) (e : W'.heap[g]? = W.heap[g]?) : HasD g t W' := by
  obtain ⟨b, h1, h2, h3, h4, h5⟩ := h
  exact ⟨b, h1, h2, h3, h4, e.trans h5⟩
theorem HasD.lt {g : Nat} {t : List Int} {W : World} (h : HasD g t W) : g < W.heap.size := by
  obtain ⟨b, h1, h2, h3, h4, h5⟩ := h
  exact Qat h5
theorem HasD.ext {g : Nat} {t : List Int} {W W' : World} (h : HasD g t W) (e : Ext W W') : HasD g t W' := h.row (e.block g h.lt)
theorem HasD.stable (g : Nat) (t : List Int) : Qbp Ext (fun _ => HasD g t) := fun _ _ _ hR h => h.ext hR
def into (b z : List Int) (q n : Nat) : List Int := b.take q ++ z.take n ++ b.drop (q + n)
theorem Qgt {b z : List Int} {q n : Nat} (hb : b.length = 64) (hz : n ≤ z.length) (hq : q + n ≤ 64) : (into b z q n).length = 64 := by
  simp only [into, List.length_append, List.length_take, List.length_drop]; omega
theorem Qdw {b z : List Int} {q n : Nat} (hb : Qao b) (hz : Qao z) : Qao (into b z q n) := fun x hx => by
  rcases List.mem_append.1 hx with hx | hx
  · rcases List.mem_append.1 hx with hx | hx
    · exact hb x (List.mem_of_mem_take hx)
    · exact hz x (List.mem_of_mem_take hx)
  · exact hb x (List.mem_of_mem_drop hx)
theorem Qfz {b z t : List Int} {n : Nat} (hb : b.length = 64) (hz : n ≤ z.length) (hp : b.take (t.length % 64) = t.drop (64 * (t.length / 64))) : (into b z (t.length % 64) n).take (t.length % 64 + n) = (t ++ z.take n).drop (64 * (t.length / 64)) := by
  have e1 : (b.take (t.length % 64) ++ z.take n).length = t.length % 64 + n := by
    rw [List.length_append, List.length_take, List.length_take]; omega
  unfold into
  rw [← e1, List.take_left, hp, List.drop_append_of_le_length (by omega)]
theorem QhN {b z t : List Int} {n : Nat} (hb : b.length = 64) (hz : n ≤ z.length) (hp : b.take (t.length % 64) = t.drop (64 * (t.length / 64))) (hn : t.length % 64 + n < 64) :
    (into b z (t.length % 64) n).take ((t ++ z.take n).length % 64) = (t ++ z.take n).drop (64 * ((t ++ z.take n).length / 64)) := by
  have hl : (t ++ z.take n).length = t.length + n := by rw [List.length_append, List.length_take]; omega
  rw [hl, show (t.length + n) % 64 = t.length % 64 + n by omega, show (t.length + n) / 64 = t.length / 64 by omega]
  exact Qfz hb hz hp
theorem QhM {b z t : List Int} {n : Nat} (hb : b.length = 64) (hz : n ≤ z.length) (hp : b.take (t.length % 64) = t.drop (64 * (t.length / 64))) (hn : t.length % 64 + n = 64) :
    blk (absorb S0 t (t.length / 64)) (into b z (t.length % 64) n) = absorb S0 (t ++ z.take n) ((t ++ z.take n).length / 64) := by
  have hl : (t ++ z.take n).length = t.length + n := by rw [List.length_append, List.length_take]; omega
  rw [hl, show (t.length + n) / 64 = t.length / 64 + 1 by omega]
  show _ = blk (absorb S0 (t ++ z.take n) (t.length / 64)) _
  rw [QcU S0 t _ _ (by omega)]
  have h1 := Qfz hb hz hp
  rw [hn, List.take_of_length_le (by rw [Qgt hb hz (by omega)]; omega)] at h1
  rw [h1, List.take_of_length_le (l := (t ++ z.take n).drop (64 * (t.length / 64))) (by rw [List.length_drop, hl]; omega)]
theorem QgD {z t : List Int} {n : Nat} (hz : n ≤ z.length) (hn : t.length % 64 + n < 64) : absorb S0 (t ++ z.take n) ((t ++ z.take n).length / 64) = absorb S0 t (t.length / 64) := by
  have hl : (t ++ z.take n).length = t.length + n := by rw [List.length_append, List.length_take]; omega
  rw [hl, show (t.length + n) / 64 = t.length / 64 by omega, QcU S0 t _ _ (by omega)]
section
variable {ds : List Deferred} {ops : Array Oper} {Q : Exit → Act → World → Prop} {rest : List Oper} {o : Oper} {N : Nat} {L : Env} {W : World}
theorem cat3 (a b c : Array Value) : (cat [a, b, c]).toList = a.toList ++ (b.toList ++ c.toList) := by
  show (a ++ (b ++ c)).toList = _
  simp
theorem QiU {st b z : List Int} {u : Value} {q n : Nat} (hst : st.length = 8) (hb : b.length = 64) (hz : n ≤ z.length) (hq : q + n ≤ 64) :
    ((cat [ints .u32 st, ints .u8 b, #[u]]).toList.take (8 + q) ++ (z.take n).map (Value.int .u8) ++ (cat [ints .u32 st, ints .u8 b, #[u]]).toList.drop (8 + q + n)).toArray = cat [ints .u32 st, ints .u8 (into b z q n), #[u]] := by
  apply Array.ext'
  rw [cat3, cat3]
  have e1 : (ints .u32 st).toList = st.map (Value.int .u32) := rfl
  have e2 : ∀ b, (ints .u8 b).toList = b.map (Value.int .u8) := fun _ => rfl
  rw [e1, e2, e2]
  have l1 : (st.map (Value.int .u32)).length = 8 := by simpa using hst
  have l2 : (b.map (Value.int .u8)).length = 64 := by simpa using hb
  show (st.map (Value.int .u32) ++ (b.map (Value.int .u8) ++ [u])).take (8 + q) ++ (z.take n).map (Value.int .u8) ++ (st.map (Value.int .u32) ++ (b.map (Value.int .u8) ++ [u])).drop (8 + q + n) = _
  rw [show 8 + q + n = 8 + (q + n) by omega]
  rw [← l1, List.take_length_add_append, List.drop_length_add_append, List.take_append_of_le_length (by omega)]
  rw [List.drop_append_of_le_length (by omega)]
  unfold into
  simp only [List.map_append, List.map_take, List.map_drop, List.append_assoc]
theorem Qhr (x y : Operand) (tx ty : TypeId) (d : Nat) (ho : o.op = .call { callee := .builtin .copy, args := #[x, y], argTypes := #[tx, ty] }) (hu : Tryd.prog.underlying tx = some (.slice 5)) (hd : o.dst = some d) (hgd : Qbq ops o N L = some true)
    {g q n B : Nat} {st b z : List Int} {u v : Value} {T : TypeId} (hst : st.length = 8) (hb : b.length = 64) (hx : Rely.look (envN N L) x = .slice (some ⟨g, 8 + q, none⟩) (64 - q) (64 - q)) (hy : Rely.look (envN N L) y = v) (hr : RdK .u8 B z v W)
    (hg : W.heap[g]? = some (.cells (cat [ints .u32 st, ints .u8 b, #[u]]) T)) (hq : q < 64) (hn : n = min z.length (64 - q)) (h0 : 0 < z.length)
    (k : ∀ W' : World, Puts W g W' → W'.heap[g]? = some (.cells (cat [ints .u32 st, ints .u8 (into b z q n), #[u]]) T) → WL Tryd.prog ops Q rest (Qav ds N ((d, .int .i64 ((n : Nat) : Int)) :: L)) W') : WL Tryd.prog ops Q (o :: rest) (Qav ds N L) W := by
  obtain ⟨a, cap, rfl, y2, y3, y4, y5⟩ := hr
  obtain ⟨gz, oz, rfl, z2, z3, z4⟩ := y5.resolve_left (fun e => by rw [e] at h0; simp at h0)
  have hlen : ((z.take n).map (Value.int .u8)).length = n := by simp; omega
  have hsz : (cat [ints .u32 st, ints .u8 b, #[u]]).size = 73 := by
    rw [← Array.length_toList, cat3]; simp [ints]; omega
  have h := run_copy_row (P := Tryd.prog) W tx ty o.type 5 g (8 + q) (64 - q) (64 - q) ⟨gz, oz, none⟩ z.length cap (cat [ints .u32 st, ints .u8 b, #[u]]) T ((z.take n).map (Value.int .u8)) hu kj hg (by rw [hlen]; exact hn)
    (QhB (k := .u8) (ys := z.take n) fun i hi => by
      rw [List.length_take] at hi
      rw [z4 i (by omega)]
      simp [nth, show i < n by omega]) (by rw [hlen, hsz]; omega) (Qh9 .u8 _)
  rw [hlen, QiU hst hb (by omega) (by omega)] at h
  refine Qbr (.int .i64 ((n : Nat) : Int)) _ d hd hgd ?_ (k _ (Qbl _ _ _) (setRow_heap _ _ _ _ _ _ hg))
  unfold execOp
  simp only [ho, resolve, invoke, builtin, Sem.run_bind, Sem.run_pure, Result.andThen_ok, List.map_toArray, List.map_cons, List.map_nil, hx, hy, h, goInt]
theorem QgG {P : Program} {ρ : Operand → Value} {k : IntKind} {B : Nat} {ys : List Int} {v : Value} (t : TypeId) (x z : Operand) (l n : Nat) (e : TypeId) (ho : o.op = .slice t x (some z) none none) (hx : ρ x = v) (hv : RdK k B ys v W)
    (hu : P.underlying t = some (.slice e)) (hs : (P.info? e).map (·.size) = some 1) (kz : IntKind) (hz : ρ z = .int kz (l : Int)) (h1 : l ≤ ys.length) (hn : ys.length - l = n) :
    ∃ a c, (execOp ρ o).run P W = .ok (.value (.slice a n c)) W ∧ RdK k B (ys.drop l) (.slice a n c) W ∧ (Value.slice a n c).ownBlock = v.ownBlock := by
  obtain ⟨u, h2, h3, h5⟩ := QeG t x z l e ho hx hv hu hs kz hz h1
  obtain ⟨a, c, rfl, h4⟩ := id h3
  rw [List.length_drop, hn] at h2 h3 h5
  exact ⟨a, c, h2, h3, h5⟩
end
section
variable {ds : List Deferred} {ops : Array Oper} {Q : Exit → Act → World → Prop} {rest : List Oper} {o : Oper} {N : Nat} {L : Env} {W : World}
theorem QeF {P : Program} {k : IntKind} {B : Nat} {ys : List Int} {v : Value} (t : TypeId) (x z : Operand) (l n : Nat) (e : TypeId) (d : Nat) (ho : o.op = .slice t x (some z) none none) (hd : o.dst = some d) (hg : Qbq ops o N L = some true) (hx : Rely.look (envN N L) x = v) (hv : RdK k B ys v W)
    (hu : P.underlying t = some (.slice e)) (hs : (P.info? e).map (·.size) = some 1) (kz : IntKind) (hz : Rely.look (envN N L) z = .int kz (l : Int)) (h1 : l ≤ ys.length) (hn : ys.length - l = n)
    (kk : ∀ a c, RdK k B (ys.drop l) (.slice a n c) W → (Value.slice a n c).ownBlock = v.ownBlock → WL P ops Q rest (Qav ds N ((d, .slice a n c) :: L)) W) : WL P ops Q (o :: rest) (Qav ds N L) W := by
  obtain ⟨a, c, h2, h3, h4⟩ := QgG (ρ := Rely.look (envN N L)) t x z l n e ho hx hv hu hs kz hz h1 hn
  exact Qbr _ _ d hd hg h2 (kk a c h3 h4)
end
theorem Qbt {P : Program} {ρ : Operand → Value} {o : Oper} {w : World} (ty : TypeId) (x y : Operand) (g off : Nat) (t : TypeId) (pre post : List (Array Value)) (u v : Value) (hg : w.heap[g]? = some (.cells (cat (pre ++ ([#[u]] ++ post))) t))
    (ho : o.op = .store ty x y) (hx : ρ x = .pointer (some ⟨g, off, none⟩)) (hy : ρ y = v) (hi : (P.info? ty).map (·.size) = some 1) (hp : (cat pre).size = off) (h1 : v.oneCell' = true) (hcs : v.cells = #[v]) :
    (execOp ρ o).run P w = .ok .skip (w.setRow g (cat (pre ++ ([#[v]] ++ post)))) := by
  subst hp
  have hs : Nat.blt (cat pre).size (cat (pre ++ ([#[u]] ++ post))).size = true := by
    have : (cat pre).size < (cat (pre ++ ([#[u]] ++ post))).size := by
      rw [QaJ, QaJ, Array.size_append, Array.size_append]
      have e1 : (cat [#[u]]).size = 1 := rfl
      omega
    simpa using this
  have e : (cat (pre ++ ([#[u]] ++ post))).setIfInBounds (cat pre).size v = cat (pre ++ ([#[v]] ++ post)) := by
    rw [QaJ, QaJ, QaJ, QaJ]
    have e1 : ∀ z, cat [#[z]] = #[z] := fun z => rfl
    rw [e1, e1, Array.setIfInBounds_append_right (Nat.le_refl _), Nat.sub_self, Array.setIfInBounds_append_left (by simp)]
    rfl
  rw [← e]
  exact Qb6 ty x y g _ t _ v hg ho hx hy hi hs h1 hcs
end Go.Proofs.YtibegnjaphohaaaDoor.Sha
end
section
namespace Go.Proofs.YtibegnjaphohaaaDoor.Sha
open Go Go.RowKit
open Rely Auto Own
set_option linter.unusedVariables false
set_option linter.unusedSimpArgs false
set_option maxHeartbeats 4000000 in
theorem addC (g B : Nat) (t ys : List Int) (v : Value) (tc : TypeId) (w : World) (hc : w.heap[2]? = some (.cells (ints .u64 QaI) tc)) (hcg : 2 ≠ g) (hB : ys = [] ∨ v.ownBlock ≠ some g) (hyb : Qao ys) (hlen : t.length + ys.length ≤ 1000000000) (hd : HasD g t w) (hy : RdK .u8 B ys v w) :
  Calls Tryd.prog 71 #[.pointer (some ⟨g, 0, none⟩), v] w (fun e W => e = .returned (.tuple #[]) ∧ ExtB g w W ∧ HasD g (t ++ ys) W) := by
 obtain ⟨a0, c0, rfl, -⟩ := id hy
 refine enter 40 [(0, .pointer (some ⟨g, 0, none⟩)), (1, .slice a0 ys.length c0)] Tryd.func71 rfl rfl kj rfl ?_
 refine wp_seq_k fun K3 hK3 => ?_
 refine sgB kj ?_
 refine cond_false kj ?_
 refine wp_skip ?_
 refine hK3 _ _ ?_
 refine wp_block ?_
 have hyb2 : ∀ {k : Nat}, Qao (ys.drop k) := fun x hx => hyb x (List.mem_of_mem_drop hx)
 refine Qa9 (fun (s1 : Nat × Option Addr × Nat) => [(0, .pointer (some ⟨g, 0, none⟩)), (1, .slice s1.2.1 (ys.length - s1.1) s1.2.2)]) (fun (s1 : Nat × Option Addr × Nat) W => (s1.1 ≤ ys.length) ∧ (RdK .u8 B (ys.drop s1.1) (.slice s1.2.1 (ys.length - s1.1) s1.2.2) W) ∧ (s1.1 < ys.length → (Value.slice s1.2.1 (ys.length - s1.1) s1.2.2).ownBlock ≠ some g) ∧ (HasD g (t ++ ys.take s1.1) W) ∧ (ExtB g w W)) (fun (s1 : Nat × Option Addr × Nat) => ys.length - s1.1) (0, a0, c0) ⟨kj, kj, trivial⟩ ⟨(Nat.zero_le _), hy, (fun h => hB.resolve_left (fun e => by rw [e] at h; exact absurd h (Nat.lt_irrefl _))), (by simpa using hd), (ExtB.refl g w)⟩ fun s1 X1 V1 hI1 => ?_
 obtain ⟨k, a, c⟩ := s1
 obtain ⟨hk, hr, hnb, hD, xx1⟩ := hI1
 replace hk : k ≤ ys.length := hk
 replace hr : RdK .u8 B (ys.drop k) (.slice a (ys.length - k) c) V1 := hr
 replace hnb : k < ys.length → (Value.slice a (ys.length - k) c).ownBlock ≠ some g := hnb
 replace hD : HasD g (t ++ ys.take k) V1 := hD
 replace xx1 : ExtB g w V1 := xx1
 refine wp_seq_k fun K5 hK5 => ?_
 refine sgB kj ?_
 refine Qa5 (t := decide (((ys.length - k : Nat) : Int) > 0)) kj (fun c7 => ?_) (fun c7 => ?_)
 ·skip
  have hk2 : k < ys.length := by have := of_decide_eq_true c7; omega
  obtain ⟨b, hbl, hbb, hbp, hmany, hrow⟩ := hD
  obtain ⟨t1, ht1⟩ : ∃ z, z = t ++ ys.take k := ⟨_, rfl⟩
  rw [← ht1] at hbp hmany hrow
  have hlt1 : t1.length = t.length + k := by rw [ht1, List.length_append, List.length_take]; omega
  obtain ⟨m, hm⟩ : ∃ z, z = t1.length := ⟨_, rfl⟩
  obtain ⟨s, hs⟩ : ∃ z, z = absorb S0 t1 (t1.length / 64) := ⟨_, rfl⟩
  obtain ⟨n, hn⟩ : ∃ z, z = min (ys.drop k).length (64 - m % 64) := ⟨_, rfl⟩
  have hn0 : 0 < n := by rw [hn, List.length_drop]; omega
  have hn1 : n ≤ ys.length - k := by rw [hn, List.length_drop]; omega
  have hn2 : n ≤ 64 - m % 64 := by rw [hn]; omega
  rw [← hs, ← hm] at hrow
  replace hrow : V1.heap[g]? = some (.cells (cat [ints .u32 ([wv s.a, wv s.b, wv s.c, wv s.d, wv s.e, wv s.f, wv s.g, wv s.h]), ints .u8 (b), #[.int .i64 ((m : Nat) : Int)]]) 129) := hrow
  refine wp_skip ?_
  refine hK5 _ _ ?_
  refine wp_block ?_
  refine wp_seq_k fun K8 hK8 => ?_
  refine QaQ 10 [⟨none, [(0, none)]⟩, ⟨none, [(10, some 0)]⟩, ⟨none, [(11, some 1)]⟩, ⟨none, [(0, none)]⟩, ⟨none, [(13, some 3)]⟩, ⟨none, [(14, some 4)]⟩, ⟨none, [(15, some 5)]⟩, ⟨none, [(16, some 6)]⟩, ⟨none, [(12, some 2), (17, some 7)]⟩, ⟨none, [(1, none)]⟩] kj kj fun F hF => ?_
  refine Qa1 (Qan _) (.pointer (some ⟨g, 0, none⟩)) kj kj (fun W => by kernel_rfl) ?_
  refine Qa1 (Qan _) (.pointer (some ⟨g, 0, none⟩)) kj kj (fun W => by kernel_rfl) ?_
  refine Qa1 (Qan _) (.pointer (some ⟨g, 8, none⟩)) kj kj (fun W => by kernel_rfl) ?_
  refine Qa1 (Qan _) (.pointer (some ⟨g, 0, none⟩)) kj kj (fun W => by kernel_rfl) ?_
  refine Qa1 (Qan _) (.pointer (some ⟨g, 0, none⟩)) kj kj (fun W => by kernel_rfl) ?_
  refine Qa1 (Qan _) (.pointer (some ⟨g, 72, none⟩)) kj kj (fun W => by kernel_rfl) ?_
  refine QaT (Qan _) (.int .i64 ((m : Nat) : Int)) kj kj (fun W hR => (Qah 3 _ g 72 129 _ (.int .i64 ((m : Nat) : Int)) _ (Qab (Qab hrow (Qas _)) hR) rfl kj (Qa0 [ints .u32 ([wv s.a, wv s.b, wv s.c, wv s.d, wv s.e, wv s.f, wv s.g, wv s.h]), ints .u8 (b)] [#[.int .i64 ((m : Nat) : Int)]] [] 72 (by rw [Qae, Qae]; simp only [Array.size_append, cat, ((Qac _ _).trans hbl)]; rfl) 0 _ rfl) kj)) ?_
  refine Qa1 (Qan _) (.int .i64 ((m % 64 : Nat) : Int)) kj kj (fun W => (Qag (u := .int .i64 (Int.tmod (((m : Nat) : Int)) (64))) kj (congrArg (Value.int .i64) (QbY _ 64)))) ?_
  refine Qa1 (Qan _) (.slice (some ⟨g, 8 + (m % 64), none⟩) (64 - (m % 64)) (64 - (m % 64))) kj kj (fun W => (QcD 107 _ _ _ (m % 64) 64 64 g 8 5 rfl kj kj kj ⟨.i64, by kernel_rfl⟩ rfl (by omega) (by omega) (by omega))) ?_
  refine Qa1 (Qan _) (.slice a (ys.length - k) c) kj kj (fun W => by kernel_rfl) ?_
  refine Qcz (hF _ fun W2 e2 => ?_)
  simp only [List.nil_append, List.cons_append, List.take_succ_cons, List.take_zero, List.drop_succ_cons, List.drop_zero, finE, up]
  clear hF
  have f9_2 := (hr.ext e2)
  have hbl2 : (into b (ys.drop k) (m % 64) n).length = 64 := Qgt hbl (by rw [List.length_drop]; omega) (by omega)
  refine Qhr (.tmp 18) (.tmp 19) 38 38 20 rfl kj rfl kj (q := m % 64) (n := n) (b := b) rfl hbl kj kj f9_2 (Qab hrow e2) (by omega) hn (by rw [List.length_drop]; omega) fun W3 p3 r2_3 => ?_
  refine sg 1 kj ?_
  refine sgN hK8 ?_
  refine sgC fun K10 hK10 => ?_
  refine sg 2 kj ?_
  refine QeF 38 (.tmp 21) (.tmp 22) n (ys.length - k - n) 5 23 rfl rfl kj kj (f9_2.putsN p3 (hnb hk2)) kj kj .i64 kj (by rw [List.length_drop]; omega) (by rw [List.length_drop]) fun a2 c2 hr2 hob => ?_
  have hnb2 : (Value.slice a2 (ys.length - k - n) c2).ownBlock ≠ some g := by rw [hob]; exact hnb hk2
  refine sg 1 kj ?_
  refine sgN hK10 ?_
  refine sgC fun K12 hK12 => ?_
  refine sg 3 kj ?_
  refine Qaa (.int .i64 ((m : Nat) : Int)) 27 rfl kj (Qah 3 _ g 72 129 _ (.int .i64 ((m : Nat) : Int)) _ r2_3 rfl kj (Qa0 [ints .u32 ([wv s.a, wv s.b, wv s.c, wv s.d, wv s.e, wv s.f, wv s.g, wv s.h]), ints .u8 (into b (ys.drop k) (m % 64) n)] [#[.int .i64 ((m : Nat) : Int)]] [] 72 (by rw [Qae, Qae]; simp only [Array.size_append, cat, ((Qac _ _).trans hbl2)]; rfl) 0 _ rfl) kj) ?_
  refine sg 1 kj ?_
  refine Qaa (.int .i64 ((m + n : Nat) : Int)) 29 rfl kj (Qag (u := .int .i64 (IntKind.i64.wrap (((m : Nat) : Int) + ((n : Nat) : Int)))) kj (congrArg (Value.int .i64) (i64n _ _ (by omega) (by omega)))) ?_
  refine sg 2 kj ?_
  refine Qai g _ (cat [ints .u32 ([wv s.a, wv s.b, wv s.c, wv s.d, wv s.e, wv s.f, wv s.g, wv s.h]), ints .u8 (into b (ys.drop k) (m % 64) n), #[.int .i64 ((m + n : Nat) : Int)]]) 129 r2_3 rfl kj (Qbt 3 _ _ g 72 129 [ints .u32 ([wv s.a, wv s.b, wv s.c, wv s.d, wv s.e, wv s.f, wv s.g, wv s.h]), ints .u8 (into b (ys.drop k) (m % 64) n)] [] _ (.int .i64 ((m + n : Nat) : Int)) r2_3 rfl kj kj kj (by rw [Qae, Qae]; simp only [Array.size_append, cat, ((Qac _ _).trans hbl2)]; rfl) rfl rfl) fun W4 p4 r2_4 => ?_
  have x4 := ExtB.puts (ExtB.puts (ExtB.ext xx1 e2) p3) p4
  refine sgN hK12 ?_
  refine sgC fun K13 hK13 => ?_
  refine sg 3 kj ?_
  refine Qaa (.int .i64 ((m + n : Nat) : Int)) 35 rfl kj (Qah 3 _ g 72 129 _ (.int .i64 ((m + n : Nat) : Int)) _ r2_4 rfl kj (Qa0 [ints .u32 ([wv s.a, wv s.b, wv s.c, wv s.d, wv s.e, wv s.f, wv s.g, wv s.h]), ints .u8 (into b (ys.drop k) (m % 64) n)] [#[.int .i64 ((m + n : Nat) : Int)]] [] 72 (by rw [Qae, Qae]; simp only [Array.size_append, cat, ((Qac _ _).trans hbl2)]; rfl) 0 _ rfl) kj) ?_
  refine Qaa (.int .i64 (((m + n) % 64 : Nat) : Int)) 36 rfl kj (Qag (u := .int .i64 (Int.tmod (((m + n : Nat) : Int)) (64))) kj (congrArg (Value.int .i64) (QbY _ 64))) ?_
  refine sg 1 kj ?_
  refine sgN hK13 ?_
  refine Qa5 (t := ((((m + n) % 64 : Nat) : Int) == 0)) kj (fun c14 => ?_) (fun c14 => ?_)
  ·skip
   have hmod : (m + n) % 64 = 0 := by have := c14; have h2 := eq_of_beq this; omega
   refine Qad ?_
   refine sg 1 kj ?_
   refine Qa8 (fun v W' => v = .tuple #[] ∧ ExtB g W4 W' ∧ W'.heap[g]? = some (.cells (cat [ints .u32 ((blk s (into b (ys.drop k) (m % 64) n)).l.map wv), ints .u8 (into b (ys.drop k) (m % 64) n), #[.int .i64 ((m + n : Nat) : Int)]]) 129)) 74 #[.pointer (some ⟨g, 0, none⟩)] 39 rfl kj kj ((QkQ g s _ hbl2 (Qdw hbb hyb2) _ tc _ (Puts.row p4 (Puts.row p3 (Qab (ExtB.row xx1 hc hcg) e2) hcg) hcg) r2_4).mono fun e w' h => ⟨_, h.1, rfl, h.2⟩) fun v W5 h => ?_
   obtain ⟨rfl, q5, r2_5⟩ := h
   refine Qaj ?_
   have hr3 : RdK .u8 B (ys.drop (k + n)) (.slice a2 (ys.length - (k + n)) c2) W5 := by
    have h := ((hr2.putsN p4 hnb2).extN q5 hnb2)
    rw [List.drop_drop, show ys.length - k - n = ys.length - (k + n) by omega] at h
    exact h
   have hlen3 : (t1 ++ (ys.drop k).take n).length = m + n := by rw [List.length_append, List.length_take, List.length_drop]; omega
   have hnb3 : (Value.slice a2 (ys.length - (k + n)) c2).ownBlock ≠ some g := by rw [show ys.length - (k + n) = ys.length - k - n by omega]; exact hnb2
   have hT : t ++ ys.take (k + n) = t1 ++ (ys.drop k).take n := by rw [ht1, List.append_assoc, List.take_add]
   have hzn : n ≤ (ys.drop k).length := by rw [List.length_drop]; omega
   have hb0 : (into b (ys.drop k) (m % 64) n).take ((t ++ ys.take (k + n)).length % 64) = (t ++ ys.take (k + n)).drop (64 * ((t ++ ys.take (k + n)).length / 64)) := by
    rw [hT, hlen3, hmod, List.take_zero, List.drop_of_length_le (by omega)]
   have hst : blk s (into b (ys.drop k) (m % 64) n) = absorb S0 (t ++ ys.take (k + n)) ((t ++ ys.take (k + n)).length / 64) := by rw [hT, hs, hm]; exact QhM hbl hzn hbp (by omega)
   have hD2 : HasD g (t ++ ys.take (k + n)) W5 := ⟨_, hbl2, Qdw hbb hyb2, hb0, by rw [hT, hlen3]; omega, by rw [← hst, hT, hlen3]; exact r2_5⟩
   repeat (first | with_reducible refine goX1 ?_ | with_reducible refine goX2 ?_ | with_reducible refine goX3 ?_)
   exact Qa4 (k + n, a2, c2) ⟨kj, (congrArg (fun z => Value.slice a2 z c2) (by omega)), trivial⟩ ⟨(by omega), hr3, (fun _ => hnb3), hD2, (ExtB.trans x4 q5)⟩ (by show ys.length - (k + n) < ys.length - k; omega)
  ·skip
   have hmod : ¬ (m + n) % 64 = 0 := by have := c14; intro h0; rw [h0] at this; exact absurd this (by decide)
   refine wp_skip ?_
   have hr3 : RdK .u8 B (ys.drop (k + n)) (.slice a2 (ys.length - (k + n)) c2) W4 := by
    have h := (hr2.putsN p4 hnb2)
    rw [List.drop_drop, show ys.length - k - n = ys.length - (k + n) by omega] at h
    exact h
   have hlen3 : (t1 ++ (ys.drop k).take n).length = m + n := by rw [List.length_append, List.length_take, List.length_drop]; omega
   have hnb3 : (Value.slice a2 (ys.length - (k + n)) c2).ownBlock ≠ some g := by rw [show ys.length - (k + n) = ys.length - k - n by omega]; exact hnb2
   have hT : t ++ ys.take (k + n) = t1 ++ (ys.drop k).take n := by rw [ht1, List.append_assoc, List.take_add]
   have hzn : n ≤ (ys.drop k).length := by rw [List.length_drop]; omega
   have hb0 : (into b (ys.drop k) (m % 64) n).take ((t ++ ys.take (k + n)).length % 64) = (t ++ ys.take (k + n)).drop (64 * ((t ++ ys.take (k + n)).length / 64)) := by
    rw [hT, hm]; exact QhN hbl hzn hbp (by omega)
   have hst : s = absorb S0 (t ++ ys.take (k + n)) ((t ++ ys.take (k + n)).length / 64) := by rw [hT, hs]; exact (QgD hzn (by omega)).symm
   have hD2 : HasD g (t ++ ys.take (k + n)) W4 := ⟨_, hbl2, Qdw hbb hyb2, hb0, by rw [hT, hlen3]; omega, by rw [← hst, hT, hlen3]; exact r2_4⟩
   repeat (first | with_reducible refine goX1 ?_ | with_reducible refine goX2 ?_ | with_reducible refine goX3 ?_)
   exact Qa4 (k + n, a2, c2) ⟨kj, (congrArg (fun z => Value.slice a2 z c2) (by omega)), trivial⟩ ⟨(by omega), hr3, (fun _ => hnb3), hD2, x4⟩ (by show ys.length - (k + n) < ys.length - k; omega)
 ·skip
  have hk2 : k = ys.length := by have := of_decide_eq_false c7; omega
  refine wp_exit ?_
  repeat (first | with_reducible refine goX1 ?_ | with_reducible refine goX2 ?_ | with_reducible refine goX3 ?_)
  exact (show bodyPost _ _ _ .normal _ _ from end0 rfl ⟨rfl, xx1, by rw [hk2, List.take_length] at hD; exact hD⟩)
end Go.Proofs.YtibegnjaphohaaaDoor.Sha
end
section
namespace Go.Proofs.YtibegnjaphohaaaDoor.Sha
open Go Go.RowKit
open Rely Auto Own
set_option linter.unusedVariables false
set_option linter.unusedSimpArgs false
theorem Qeh (n : Nat) : Qao (List.replicate n 0) := fun x hx => by
  have := List.eq_of_mem_replicate hx
  subst this; decide
theorem QjO (n : Nat) : (64 - (n + 1 + 8) % 64) % 64 = QaO n := by unfold QaO; omega
theorem Qkk (n : Nat) (h : n ≤ 1000000000) : IntKind.u64.wrap ((n : Nat) : Int) = ((n : Nat) : Int) := by
  have : ∀ z : Int, IntKind.u64.wrap z = z % 2 ^ 64 := fun _ => rfl
  rw [this]; omega
theorem QkP (n : Nat) (h : n ≤ 1000000000) : IntKind.u64.wrap (((n : Nat) : Int) * 2 ^ min (3 : Int).toNat IntKind.u64.bits) = ((8 * n : Nat) : Int) := by
  have : ∀ z : Int, IntKind.u64.wrap z = z % 2 ^ 64 := fun _ => rfl
  rw [this, show ((2 : Int) ^ min (3 : Int).toNat IntKind.u64.bits) = 8 from rfl]; omega
theorem Qkl (n : Nat) (h : n ≤ 1000000000) : ((n : Nat) : Int).fdiv (2 ^ min (61 : Int).toNat IntKind.u64.bits) = 0 := by
  rw [Int.fdiv_eq_ediv_of_nonneg _ (by decide), show ((2 : Int) ^ min (61 : Int).toNat IntKind.u64.bits) = 2305843009213693952 from rfl]; omega
theorem Qih (m : Nat) : IntKind.u8.wrap ((m : Nat) : Int) = ((m % 256 : Nat) : Int) := by
  have : ∀ z : Int, IntKind.u8.wrap z = z % 2 ^ 8 := fun _ => rfl
  rw [this]; omega
theorem QkU (n i : Nat) : ((8 * n / 256 ^ i : Nat) : Int).fdiv (2 ^ min (8 : Int).toNat IntKind.u64.bits) = ((8 * n / 256 ^ (i + 1) : Nat) : Int) := by
  rw [Int.fdiv_eq_ediv_of_nonneg _ (by decide), show ((2 : Int) ^ min (8 : Int).toNat IntKind.u64.bits) = 256 from rfl, Nat.pow_succ, ← Nat.div_div_eq_div_mul]; omega
theorem lowlt (n i : Nat) (h : n ≤ 1000000000) : 8 * n / 256 ^ (i + 1) < 18446744073709551616 := Nat.lt_of_le_of_lt (Nat.div_le_self _ _) (by omega)
theorem or0 (m : Nat) (h : m < 18446744073709551616) : bits .or .u64 ((m : Nat) : Int) 0 = ((m : Nat) : Int) := by
  have := bits_or_u64_nat m 0 h (by decide)
  rw [Nat.or_zero] at this
  exact this
def padL (n i : Nat) : List Int := 128 :: (List.replicate (QaO n) 0 ++ (List.replicate (8 - i) 0 ++ (be8 (8 * n)).drop (8 - i)))
theorem Qi5 (n : Nat) {i : Nat} (h : i ≤ 8) : (padL n i).length = 1 + QaO n + 8 := by
  have : (be8 (8 * n)).length = 8 := rfl
  simp [padL, this]; omega
theorem QcW (n : Nat) : (QdA n).length = 1 + QaO n + 8 := by
  have : (be8 (8 * n)).length = 8 := rfl
  simp [QdA, this]; omega
theorem Qkw (n : Nat) : (List.replicate (1 + QaO n + 8) (0 : Int)).set 0 128 = padL n 0 := by
  rw [show 1 + QaO n + 8 = (QaO n + 8) + 1 by omega, List.replicate_succ, List.set_cons_zero, ← List.replicate_append_replicate]
  rfl
theorem Qi4 (n i : Nat) (h : i < 8) : (padL n i).set (1 + QaO n + 8 - 1 - i) ((8 * n / 256 ^ i % 256 : Nat) : Int) = padL n (i + 1) := by
  unfold padL
  rw [show 1 + QaO n + 8 - 1 - i = (QaO n + (7 - i)) + 1 by omega, List.set_cons_succ, List.set_append_right _ _ (by simp), List.length_replicate, Nat.add_sub_cancel_left]
  congr 2
  match i, h with
  | 0, _ => rfl
  | 1, _ => rfl
  | 2, _ => rfl
  | 3, _ => rfl
  | 4, _ => rfl
  | 5, _ => rfl
  | 6, _ => rfl
  | 7, _ => rfl
set_option maxHeartbeats 4000000 in
theorem Qi2 (n : Nat) (hn : n ≤ 1000000000) (w : World) : Calls Tryd.prog 75 #[.int .i64 ((n : Nat) : Int), .int .i64 64, .int .i64 8] w (QbH w (OwnN .u8 5 w.heap.size (QdA n))) := by
 have hF : QaO n < 64 := by unfold QaO; omega
 refine enter 59 [(0, .int .i64 ((n : Nat) : Int)), (1, .int .i64 64), (2, .int .i64 8)] Tryd.func75 rfl rfl kj rfl ?_
 refine sgB kj ?_
 refine sgC fun K2 hK2 => ?_
 refine sg 2 kj ?_
 refine Qaa (.int .i64 ((n + 1 : Nat) : Int)) 15 rfl kj (Qag (u := .int .i64 (IntKind.i64.wrap (((n : Nat) : Int) + 1))) kj (congrArg (Value.int .i64) (i64n _ _ (by omega) (by omega)))) ?_
 refine sg 1 kj ?_
 refine Qaa (.int .i64 (((n + 1) + 8 : Nat) : Int)) 17 rfl kj (Qag (u := .int .i64 (IntKind.i64.wrap (((n + 1 : Nat) : Int) + 8))) kj (congrArg (Value.int .i64) (i64n _ _ (by omega) (by omega)))) ?_
 refine sg 1 kj ?_
 refine Qaa (.int .i64 ((((n + 1) + 8) % 64 : Nat) : Int)) 19 rfl kj (Qag (u := .int .i64 (Int.tmod ((((n + 1) + 8 : Nat) : Int)) (64))) kj (congrArg (Value.int .i64) (QbY _ 64))) ?_
 refine Qaa (.int .i64 ((64 - (((n + 1) + 8) % 64) : Nat) : Int)) 20 rfl kj (Qag (u := .int .i64 (IntKind.i64.wrap (64 - ((((n + 1) + 8) % 64 : Nat) : Int)))) kj (congrArg (Value.int .i64) (i64n _ _ (by omega) (by omega)))) ?_
 refine sg 1 kj ?_
 refine Qaa (.int .i64 (((QaO n : Nat) : Int))) 22 rfl kj (Qag (u := .int .i64 (Int.tmod (((64 - (((n + 1) + 8) % 64) : Nat) : Int)) (64))) kj (congrArg (Value.int .i64) ((QbY _ 64).trans (congrArg (fun z : Nat => (z : Int)) (QjO n))))) ?_
 refine sg 1 kj ?_
 refine sgN hK2 ?_
 refine sgC fun K3 hK3 => ?_
 refine sg 1 kj ?_
 refine Qaa (.int .i64 ((1 + (QaO n) : Nat) : Int)) 24 rfl kj (Qag (u := .int .i64 (IntKind.i64.wrap (1 + (((QaO n : Nat) : Int))))) kj (congrArg (Value.int .i64) (i64n _ _ (by omega) (by omega)))) ?_
 refine sg 1 kj ?_
 refine Qaa (.int .i64 (((1 + (QaO n)) + 8 : Nat) : Int)) 26 rfl kj (Qag (u := .int .i64 (IntKind.i64.wrap (((1 + (QaO n) : Nat) : Int) + 8))) kj (congrArg (Value.int .i64) (i64n _ _ (by omega) (by omega)))) ?_
 refine QaB (ints .u8 (List.replicate ((1 + (QaO n)) + 8) 0)) 5 ((1 + (QaO n)) + 8) 27 rfl kj (Qfh 38 _ _ .i64 .i64 ((1 + (QaO n)) + 8) 5 rfl kj kj kj (.inr kj) (by omega)) fun g4 W1 l4 e1 r4_1 => ?_
 have b4 := Nat.le_trans (Rely.Ext.refl w).size l4
 refine sg 1 kj ?_
 refine sgN hK3 ?_
 refine sgC fun K5 hK5 => ?_
 refine sg 1 kj ?_
 refine Qaa (.pointer (some ⟨g4, 0, none⟩)) 29 rfl kj (QaX 38 _ _ .i64 (0) g4 ((1 + (QaO n)) + 8) ((1 + (QaO n)) + 8) 5 rfl kj kj kj kj (by omega)) ?_
 refine Qai g4 _ (ints .u8 ((List.replicate ((1 + (QaO n)) + 8) 0).set 0 128)) 5 r4_1 rfl kj (Qam 5 _ _ g4 0 5 _ _ r4_1 rfl kj kj kj (Nat.lt_of_lt_of_eq (by omega) (List.length_replicate (n := ((1 + (QaO n)) + 8))).symm)) fun W2 p2 r4_2 => ?_
 refine sgN hK5 ?_
 refine sgC fun K6 hK6 => ?_
 refine sg 1 kj ?_
 refine Qaa (.int .u64 (((n : Nat) : Int))) 31 rfl kj (Qag (u := .int .u64 (IntKind.u64.wrap ((n : Nat) : Int))) kj (congrArg (Value.int .u64) (Qkk n (by omega)))) ?_
 refine Qaa (.int .u64 (((8 * n : Nat) : Int))) 32 rfl kj (Qay .shl _ _ _ _ .u64 .u64 _ _ _ rfl kj kj (Qf6 _ _ _ _ _ _ (by decide) (QkP n (by omega)))) ?_
 refine sg 1 kj ?_
 refine Qaa (.int .u64 (((n : Nat) : Int))) 34 rfl kj (Qag (u := .int .u64 (IntKind.u64.wrap ((n : Nat) : Int))) kj (congrArg (Value.int .u64) (Qkk n (by omega)))) ?_
 refine Qaa (.int .u64 (0)) 35 rfl kj (Qay .shr _ _ _ _ .u64 .u64 _ _ _ rfl kj kj (QaH _ _ _ _ _ _ (by decide) (Qkl n (by omega)))) ?_
 refine sg 2 kj ?_
 refine sgN hK6 ?_
 refine wp_seq_k fun K7 hK7 => ?_
 refine sgB kj ?_
 refine wp_block ?_
 refine Qa9 (fun (s1 : Nat) => [(8, .slice (some ⟨g4, 0, none⟩) ((1 + (QaO n)) + 8) ((1 + (QaO n)) + 8)), (9, .int .u64 ((8 * n / 256 ^ s1 : Nat) : Int)), (10, .int .u64 0), (36, .int .i64 8), (37, .int .i64 ((s1 : Nat) : Int))]) (fun (s1 : Nat) W => (s1 ≤ 8) ∧ (W.heap[g4]? = some (.cells (ints .u8 (padL n s1)) 5)) ∧ (Qal [g4] W2 W) ∧ (Ext w W)) (fun (s1 : Nat) => 8 - s1) 0 ⟨kj, (congrArg (fun z : Nat => Value.int .u64 (z : Int)) (Nat.div_one _).symm), kj, kj, kj, trivial⟩ ⟨(Nat.zero_le _), (QaV r4_2 (Qkw n)), (Qal.refl [g4] W2), (Puts.ext p2 (Ext.tr (Rely.Ext.refl w) e1) b4)⟩ fun s1 X1 V1 hI1 => ?_
 obtain ⟨i, hs1⟩ : ∃ z, z = s1 := ⟨_, rfl⟩
 subst hs1
 obtain ⟨hi, q4_1, kk1, xx1⟩ := hI1
 replace hi : i ≤ 8 := hi
 replace q4_1 : V1.heap[g4]? = some (.cells (ints .u8 (padL n i)) 5) := q4_1
 replace kk1 : Qal [g4] W2 V1 := kk1
 replace xx1 : Ext w V1 := xx1
 have q3 := kk1
 refine sgB kj ?_
 refine wp_seq_k fun K10 hK10 => ?_
 refine Qa5 (t := decide (((i : Nat) : Int) < 8)) kj (fun c11 => ?_) (fun c11 => ?_)
 ·skip
  have hlt38 : i < 8 := by have := of_decide_eq_true c11; omega
  refine wp_skip ?_
  refine hK10 _ _ ?_
  refine wp_seq_k fun K12 hK12 => ?_
  refine wp_block ?_
  refine sgB kj ?_
  refine sgC fun K14 hK14 => ?_
  refine sg 1 kj ?_
  refine Qaa (.int .u8 (((8 * n / 256 ^ i % 256 : Nat) : Int))) 41 rfl kj (Qag (u := .int .u8 (IntKind.u8.wrap ((8 * n / 256 ^ i : Nat) : Int))) kj (congrArg (Value.int .u8) (Qih _))) ?_
  refine sg 1 kj ?_
  refine sgN hK14 ?_
  refine sgC fun K15 hK15 => ?_
  refine sg 3 kj ?_
  refine Qaa (.int .i64 ((((1 + (QaO n)) + 8) - 1 : Nat) : Int)) 45 rfl kj (Qag (u := .int .i64 (IntKind.i64.wrap ((((1 + (QaO n)) + 8 : Nat) : Int) - 1))) kj (congrArg (Value.int .i64) (i64n _ _ (by omega) (by omega)))) ?_
  refine sg 1 kj ?_
  refine Qaa (.int .i64 (((((1 + (QaO n)) + 8) - 1) - i : Nat) : Int)) 47 rfl kj (Qag (u := .int .i64 (IntKind.i64.wrap (((((1 + (QaO n)) + 8) - 1 : Nat) : Int) - ((i : Nat) : Int)))) kj (congrArg (Value.int .i64) (i64n _ _ (by omega) (by omega)))) ?_
  refine sg 1 kj ?_
  refine Qaa (.pointer (some ⟨g4, ((((1 + (QaO n)) + 8) - 1) - i), none⟩)) 49 rfl kj (QaX 38 _ _ .i64 ((((1 + (QaO n)) + 8) - 1) - i) g4 ((1 + (QaO n)) + 8) ((1 + (QaO n)) + 8) 5 rfl kj kj kj kj (by omega)) ?_
  refine Qai g4 _ (ints .u8 ((padL n i).set ((((1 + (QaO n)) + 8) - 1) - i) (((8 * n / 256 ^ i % 256 : Nat) : Int)))) 5 q4_1 rfl kj (Qam 5 _ _ g4 ((((1 + (QaO n)) + 8) - 1) - i) 5 _ _ q4_1 rfl kj kj kj (Nat.lt_of_lt_of_eq (by omega) (Qi5 n (by omega)).symm)) fun W4 p4 r4_4 => ?_
  refine sgN hK15 ?_
  refine sgC fun K16 hK16 => ?_
  refine sg 1 kj ?_
  refine Qaa (.int .u64 (((8 * n / 256 ^ (i + 1) : Nat) : Int))) 51 rfl kj (Qay .shr _ _ _ _ .u64 .u64 _ _ _ rfl kj kj (QaH _ _ _ _ _ _ (by decide) (QkU n i))) ?_
  refine sg 1 kj ?_
  refine Qaa (.int .u64 (0)) 53 rfl kj (Qay .shl _ _ _ _ .u64 .u64 _ _ _ rfl kj kj (Qf6 _ _ _ _ _ _ (by decide) (show IntKind.u64.wrap (0 * 2 ^ min (56 : Int).toNat IntKind.u64.bits) = 0 from rfl))) ?_
  refine Qaa (.int .u64 (((8 * n / 256 ^ (i + 1) : Nat) : Int))) 54 rfl kj (Qag (u := .int .u64 (bits .or .u64 (((8 * n / 256 ^ (i + 1) : Nat) : Int)) (0))) kj (congrArg (Value.int .u64) (or0 _ (lowlt n i (by omega))))) ?_
  refine sg 1 kj ?_
  refine sgN hK16 ?_
  refine Qad ?_
  refine sg 1 kj ?_
  refine Qaa (.int .u64 (0)) 56 rfl kj (Qay .shr _ _ _ _ .u64 .u64 _ _ _ rfl kj kj (QaH _ _ _ _ _ _ (by decide) (show Int.fdiv 0 (2 ^ min (8 : Int).toNat IntKind.u64.bits) = 0 from rfl))) ?_
  refine sg 1 kj ?_
  refine Qaj ?_
  refine hK12 _ _ ?_
  refine Qad ?_
  refine Qaa (.int .i64 ((i + 1 : Nat) : Int)) 57 rfl kj (Qag (u := .int .i64 (IntKind.i64.wrap (((i : Nat) : Int) + 1))) kj (congrArg (Value.int .i64) (i64n _ _ (by omega) (by omega)))) ?_
  refine sg 1 kj ?_
  refine Qaj ?_
  repeat (first | with_reducible refine goX1 ?_ | with_reducible refine goX2 ?_ | with_reducible refine goX3 ?_)
  exact Qa4 (i + 1) ⟨kj, kj, kj, kj, kj, trivial⟩ ⟨(by omega), (QaV r4_4 (Qi4 n i hlt38)), (Qal.puts q3 p4 (.inl (by simp))), (Puts.ext p4 xx1 b4)⟩ (by omega)
 ·skip
  have heq38 : i = 8 := by have := of_decide_eq_false c11; omega
  have r4_3_17 : V1.heap[g4]? = some (.cells (ints .u8 (QdA n)) 5) := QaV q4_1 (by rw [heq38]; rfl)
  refine wp_exit ?_
  refine hK7 _ _ ?_
  refine sgB kj ?_
  refine wp_ret ?_
  repeat (first | with_reducible refine goR1 ?_ | with_reducible refine goR2 ?_)
  exact (show bodyPost _ _ _ .ret _ _ from ret1 (.slice (some ⟨g4, 0, none⟩) ((1 + (QaO n)) + 8) ((1 + (QaO n)) + 8)) rfl (Qa7 kj) ⟨_, rfl, xx1, QbD (QcW n) b4 r4_3_17 (by simp only [maxLen]; omega)⟩)
set_option maxHeartbeats 4000000 in
theorem newC (tq : TypeId) (w : World) (hq : w.heap[1]? = some (.cells (ints .u64 Qak) tq)) : Calls Tryd.prog 70 #[] w (QbH w (fun v W => ∃ g, v = .pointer (some ⟨g, 0, none⟩) ∧ w.heap.size ≤ g ∧ HasD g [] W)) := by
  refine enter 21 [] Tryd.func70 rfl rfl kj rfl ?_
  refine sgB kj ?_
  refine sgC fun K3 hK3 => ?_
  refine sg 1 kj ?_
  refine Qar (cat [ints .u32 ([0, 0, 0, 0, 0, 0, 0, 0]), ints .u8 (List.replicate 64 0), #[.int .i64 0]]) 129 5 rfl kj kj fun g4 W1 l4 e1 r4_1 => ?_
  have b4 := Nat.le_trans (Rely.Ext.refl w).size l4
  refine sg 1 kj ?_
  refine sgN hK3 ?_
  refine wp_seq_k fun K5 hK5 => ?_
  refine sgC fun K6 hK6 => ?_
  refine Qaa (.agg (ints .u64 (Qak))) 6 rfl kj (Qaw 130 _ 1 tq _ _ (Qab hq e1) rfl kj kj (isz (n := 8) kj ((Qac _ _).trans (show Qak.length = 8 from rfl)))) ?_
  refine sg 1 kj ?_
  refine sgN hK6 ?_
  refine wp_block ?_
  refine wp_loop_rounds 9 ?_
  show Code.wp _ _ (Exit.then (Code.rounds _ _ _ 8) _) _ _
  refine sgB kj ?_
  refine sgT kj ?_
  refine wp_seq_k fun K9 hK9 => ?_
  refine wp_block ?_
  refine sgC fun K10 hK10 => ?_
  refine sg 1 kj ?_
  refine Qaa (.int .u64 (nth Qak 0)) 10 rfl kj (Qa6 130 _ _ .i64 .u64 (Qak) 0 8 77 (nth Qak 0) rfl kj kj kj kj kj (show Qak.length = 8 from rfl) (by decide) rfl) ?_
  refine sg 2 kj ?_
  refine sgN hK10 ?_
  refine Qad ?_
  refine sg 3 kj ?_
  refine Qaa (.int .u64 (nth Qak 0 / 4294967296)) 14 rfl kj (Qay .shr _ _ _ _ .u64 .u64 _ _ _ rfl kj kj (QaH _ _ _ _ _ _ (by decide) (QeE _))) ?_
  refine Qaa (.int .u32 (wv S0.a)) 15 rfl kj (Qag (u := .int .u32 (IntKind.u32.wrap (nth Qak 0 / 4294967296))) kj (congrArg (Value.int .u32) (show IntKind.u32.wrap (nth Qak 0 / 4294967296) = wv S0.a by decide +kernel))) ?_
  refine sg 3 kj ?_
  refine Qai g4 _ (cat [ints .u32 ([(wv S0.a), 0, 0, 0, 0, 0, 0, 0]), ints .u8 (List.replicate 64 0), #[.int .i64 0]]) 129 r4_1 rfl kj (QaZ 113 _ _ g4 0 129 [] [ints .u8 (List.replicate 64 0), #[.int .i64 0]] ([0, 0, 0, 0, 0, 0, 0, 0]) 0 0 _ r4_1 rfl kj kj kj kj rfl (Nat.lt_of_lt_of_eq (show 0 < 8 by decide) rfl.symm)) fun W2 p2 r4_2 => ?_
  refine Qaj ?_
  refine hK9 _ _ ?_
  refine sgA kj ?_
  show Code.rounds _ _ _ 8 _ _
  show Code.wp _ _ (Exit.then (Code.rounds _ _ _ 7) _) _ _
  refine sgB kj ?_
  refine sgT kj ?_
  refine wp_seq_k fun K13 hK13 => ?_
  refine wp_block ?_
  refine sgC fun K14 hK14 => ?_
  refine sg 1 kj ?_
  refine Qaa (.int .u64 (nth Qak 1)) 10 rfl kj (Qa6 130 _ _ .i64 .u64 (Qak) 1 8 77 (nth Qak 1) rfl kj kj kj kj kj (show Qak.length = 8 from rfl) (by decide) rfl) ?_
  refine sg 2 kj ?_
  refine sgN hK14 ?_
  refine Qad ?_
  refine sg 3 kj ?_
  refine Qaa (.int .u64 (nth Qak 1 / 4294967296)) 14 rfl kj (Qay .shr _ _ _ _ .u64 .u64 _ _ _ rfl kj kj (QaH _ _ _ _ _ _ (by decide) (QeE _))) ?_
  refine Qaa (.int .u32 (wv S0.b)) 15 rfl kj (Qag (u := .int .u32 (IntKind.u32.wrap (nth Qak 1 / 4294967296))) kj (congrArg (Value.int .u32) (show IntKind.u32.wrap (nth Qak 1 / 4294967296) = wv S0.b by decide +kernel))) ?_
  refine sg 3 kj ?_
  refine Qai g4 _ (cat [ints .u32 ([(wv S0.a), (wv S0.b), 0, 0, 0, 0, 0, 0]), ints .u8 (List.replicate 64 0), #[.int .i64 0]]) 129 r4_2 rfl kj (QaZ 113 _ _ g4 1 129 [] [ints .u8 (List.replicate 64 0), #[.int .i64 0]] ([(wv S0.a), 0, 0, 0, 0, 0, 0, 0]) 0 1 _ r4_2 rfl kj kj kj kj rfl (Nat.lt_of_lt_of_eq (show 1 < 8 by decide) rfl.symm)) fun W3 p3 r4_3 => ?_
  refine Qaj ?_
  refine hK13 _ _ ?_
  refine sgA kj ?_
  show Code.rounds _ _ _ 7 _ _
  show Code.wp _ _ (Exit.then (Code.rounds _ _ _ 6) _) _ _
  refine sgB kj ?_
  refine sgT kj ?_
  refine wp_seq_k fun K17 hK17 => ?_
  refine wp_block ?_
  refine sgC fun K18 hK18 => ?_
  refine sg 1 kj ?_
  refine Qaa (.int .u64 (nth Qak 2)) 10 rfl kj (Qa6 130 _ _ .i64 .u64 (Qak) 2 8 77 (nth Qak 2) rfl kj kj kj kj kj (show Qak.length = 8 from rfl) (by decide) rfl) ?_
  refine sg 2 kj ?_
  refine sgN hK18 ?_
  refine Qad ?_
  refine sg 3 kj ?_
  refine Qaa (.int .u64 (nth Qak 2 / 4294967296)) 14 rfl kj (Qay .shr _ _ _ _ .u64 .u64 _ _ _ rfl kj kj (QaH _ _ _ _ _ _ (by decide) (QeE _))) ?_
  refine Qaa (.int .u32 (wv S0.c)) 15 rfl kj (Qag (u := .int .u32 (IntKind.u32.wrap (nth Qak 2 / 4294967296))) kj (congrArg (Value.int .u32) (show IntKind.u32.wrap (nth Qak 2 / 4294967296) = wv S0.c by decide +kernel))) ?_
  refine sg 3 kj ?_
  refine Qai g4 _ (cat [ints .u32 ([(wv S0.a), (wv S0.b), (wv S0.c), 0, 0, 0, 0, 0]), ints .u8 (List.replicate 64 0), #[.int .i64 0]]) 129 r4_3 rfl kj (QaZ 113 _ _ g4 2 129 [] [ints .u8 (List.replicate 64 0), #[.int .i64 0]] ([(wv S0.a), (wv S0.b), 0, 0, 0, 0, 0, 0]) 0 2 _ r4_3 rfl kj kj kj kj rfl (Nat.lt_of_lt_of_eq (show 2 < 8 by decide) rfl.symm)) fun W4 p4 r4_4 => ?_
  refine Qaj ?_
  refine hK17 _ _ ?_
  refine sgA kj ?_
  show Code.rounds _ _ _ 6 _ _
  show Code.wp _ _ (Exit.then (Code.rounds _ _ _ 5) _) _ _
  refine sgB kj ?_
  refine sgT kj ?_
  refine wp_seq_k fun K21 hK21 => ?_
  refine wp_block ?_
  refine sgC fun K22 hK22 => ?_
  refine sg 1 kj ?_
  refine Qaa (.int .u64 (nth Qak 3)) 10 rfl kj (Qa6 130 _ _ .i64 .u64 (Qak) 3 8 77 (nth Qak 3) rfl kj kj kj kj kj (show Qak.length = 8 from rfl) (by decide) rfl) ?_
  refine sg 2 kj ?_
  refine sgN hK22 ?_
  refine Qad ?_
  refine sg 3 kj ?_
  refine Qaa (.int .u64 (nth Qak 3 / 4294967296)) 14 rfl kj (Qay .shr _ _ _ _ .u64 .u64 _ _ _ rfl kj kj (QaH _ _ _ _ _ _ (by decide) (QeE _))) ?_
  refine Qaa (.int .u32 (wv S0.d)) 15 rfl kj (Qag (u := .int .u32 (IntKind.u32.wrap (nth Qak 3 / 4294967296))) kj (congrArg (Value.int .u32) (show IntKind.u32.wrap (nth Qak 3 / 4294967296) = wv S0.d by decide +kernel))) ?_
  refine sg 3 kj ?_
  refine Qai g4 _ (cat [ints .u32 ([(wv S0.a), (wv S0.b), (wv S0.c), (wv S0.d), 0, 0, 0, 0]), ints .u8 (List.replicate 64 0), #[.int .i64 0]]) 129 r4_4 rfl kj (QaZ 113 _ _ g4 3 129 [] [ints .u8 (List.replicate 64 0), #[.int .i64 0]] ([(wv S0.a), (wv S0.b), (wv S0.c), 0, 0, 0, 0, 0]) 0 3 _ r4_4 rfl kj kj kj kj rfl (Nat.lt_of_lt_of_eq (show 3 < 8 by decide) rfl.symm)) fun W5 p5 r4_5 => ?_
  refine Qaj ?_
  refine hK21 _ _ ?_
  refine sgA kj ?_
  show Code.rounds _ _ _ 5 _ _
  show Code.wp _ _ (Exit.then (Code.rounds _ _ _ 4) _) _ _
  refine sgB kj ?_
  refine sgT kj ?_
  refine wp_seq_k fun K25 hK25 => ?_
  refine wp_block ?_
  refine sgC fun K26 hK26 => ?_
  refine sg 1 kj ?_
  refine Qaa (.int .u64 (nth Qak 4)) 10 rfl kj (Qa6 130 _ _ .i64 .u64 (Qak) 4 8 77 (nth Qak 4) rfl kj kj kj kj kj (show Qak.length = 8 from rfl) (by decide) rfl) ?_
  refine sg 2 kj ?_
  refine sgN hK26 ?_
  refine Qad ?_
  refine sg 3 kj ?_
  refine Qaa (.int .u64 (nth Qak 4 / 4294967296)) 14 rfl kj (Qay .shr _ _ _ _ .u64 .u64 _ _ _ rfl kj kj (QaH _ _ _ _ _ _ (by decide) (QeE _))) ?_
  refine Qaa (.int .u32 (wv S0.e)) 15 rfl kj (Qag (u := .int .u32 (IntKind.u32.wrap (nth Qak 4 / 4294967296))) kj (congrArg (Value.int .u32) (show IntKind.u32.wrap (nth Qak 4 / 4294967296) = wv S0.e by decide +kernel))) ?_
  refine sg 3 kj ?_
  refine Qai g4 _ (cat [ints .u32 ([(wv S0.a), (wv S0.b), (wv S0.c), (wv S0.d), (wv S0.e), 0, 0, 0]), ints .u8 (List.replicate 64 0), #[.int .i64 0]]) 129 r4_5 rfl kj (QaZ 113 _ _ g4 4 129 [] [ints .u8 (List.replicate 64 0), #[.int .i64 0]] ([(wv S0.a), (wv S0.b), (wv S0.c), (wv S0.d), 0, 0, 0, 0]) 0 4 _ r4_5 rfl kj kj kj kj rfl (Nat.lt_of_lt_of_eq (show 4 < 8 by decide) rfl.symm)) fun W6 p6 r4_6 => ?_
  refine Qaj ?_
  refine hK25 _ _ ?_
  refine sgA kj ?_
  show Code.rounds _ _ _ 4 _ _
  show Code.wp _ _ (Exit.then (Code.rounds _ _ _ 3) _) _ _
  refine sgB kj ?_
  refine sgT kj ?_
  refine wp_seq_k fun K29 hK29 => ?_
  refine wp_block ?_
  refine sgC fun K30 hK30 => ?_
  refine sg 1 kj ?_
  refine Qaa (.int .u64 (nth Qak 5)) 10 rfl kj (Qa6 130 _ _ .i64 .u64 (Qak) 5 8 77 (nth Qak 5) rfl kj kj kj kj kj (show Qak.length = 8 from rfl) (by decide) rfl) ?_
  refine sg 2 kj ?_
  refine sgN hK30 ?_
  refine Qad ?_
  refine sg 3 kj ?_
  refine Qaa (.int .u64 (nth Qak 5 / 4294967296)) 14 rfl kj (Qay .shr _ _ _ _ .u64 .u64 _ _ _ rfl kj kj (QaH _ _ _ _ _ _ (by decide) (QeE _))) ?_
  refine Qaa (.int .u32 (wv S0.f)) 15 rfl kj (Qag (u := .int .u32 (IntKind.u32.wrap (nth Qak 5 / 4294967296))) kj (congrArg (Value.int .u32) (show IntKind.u32.wrap (nth Qak 5 / 4294967296) = wv S0.f by decide +kernel))) ?_
  refine sg 3 kj ?_
  refine Qai g4 _ (cat [ints .u32 ([(wv S0.a), (wv S0.b), (wv S0.c), (wv S0.d), (wv S0.e), (wv S0.f), 0, 0]), ints .u8 (List.replicate 64 0), #[.int .i64 0]]) 129 r4_6 rfl kj (QaZ 113 _ _ g4 5 129 [] [ints .u8 (List.replicate 64 0), #[.int .i64 0]] ([(wv S0.a), (wv S0.b), (wv S0.c), (wv S0.d), (wv S0.e), 0, 0, 0]) 0 5 _ r4_6 rfl kj kj kj kj rfl (Nat.lt_of_lt_of_eq (show 5 < 8 by decide) rfl.symm)) fun W7 p7 r4_7 => ?_
  refine Qaj ?_
  refine hK29 _ _ ?_
  refine sgA kj ?_
  show Code.rounds _ _ _ 3 _ _
  show Code.wp _ _ (Exit.then (Code.rounds _ _ _ 2) _) _ _
  refine sgB kj ?_
  refine sgT kj ?_
  refine wp_seq_k fun K33 hK33 => ?_
  refine wp_block ?_
  refine sgC fun K34 hK34 => ?_
  refine sg 1 kj ?_
  refine Qaa (.int .u64 (nth Qak 6)) 10 rfl kj (Qa6 130 _ _ .i64 .u64 (Qak) 6 8 77 (nth Qak 6) rfl kj kj kj kj kj (show Qak.length = 8 from rfl) (by decide) rfl) ?_
  refine sg 2 kj ?_
  refine sgN hK34 ?_
  refine Qad ?_
  refine sg 3 kj ?_
  refine Qaa (.int .u64 (nth Qak 6 / 4294967296)) 14 rfl kj (Qay .shr _ _ _ _ .u64 .u64 _ _ _ rfl kj kj (QaH _ _ _ _ _ _ (by decide) (QeE _))) ?_
  refine Qaa (.int .u32 (wv S0.g)) 15 rfl kj (Qag (u := .int .u32 (IntKind.u32.wrap (nth Qak 6 / 4294967296))) kj (congrArg (Value.int .u32) (show IntKind.u32.wrap (nth Qak 6 / 4294967296) = wv S0.g by decide +kernel))) ?_
  refine sg 3 kj ?_
  refine Qai g4 _ (cat [ints .u32 ([(wv S0.a), (wv S0.b), (wv S0.c), (wv S0.d), (wv S0.e), (wv S0.f), (wv S0.g), 0]), ints .u8 (List.replicate 64 0), #[.int .i64 0]]) 129 r4_7 rfl kj (QaZ 113 _ _ g4 6 129 [] [ints .u8 (List.replicate 64 0), #[.int .i64 0]] ([(wv S0.a), (wv S0.b), (wv S0.c), (wv S0.d), (wv S0.e), (wv S0.f), 0, 0]) 0 6 _ r4_7 rfl kj kj kj kj rfl (Nat.lt_of_lt_of_eq (show 6 < 8 by decide) rfl.symm)) fun W8 p8 r4_8 => ?_
  refine Qaj ?_
  refine hK33 _ _ ?_
  refine sgA kj ?_
  show Code.rounds _ _ _ 2 _ _
  show Code.wp _ _ (Exit.then (Code.rounds _ _ _ 1) _) _ _
  refine sgB kj ?_
  refine sgT kj ?_
  refine wp_seq_k fun K37 hK37 => ?_
  refine wp_block ?_
  refine sgC fun K38 hK38 => ?_
  refine sg 1 kj ?_
  refine Qaa (.int .u64 (nth Qak 7)) 10 rfl kj (Qa6 130 _ _ .i64 .u64 (Qak) 7 8 77 (nth Qak 7) rfl kj kj kj kj kj (show Qak.length = 8 from rfl) (by decide) rfl) ?_
  refine sg 2 kj ?_
  refine sgN hK38 ?_
  refine Qad ?_
  refine sg 3 kj ?_
  refine Qaa (.int .u64 (nth Qak 7 / 4294967296)) 14 rfl kj (Qay .shr _ _ _ _ .u64 .u64 _ _ _ rfl kj kj (QaH _ _ _ _ _ _ (by decide) (QeE _))) ?_
  refine Qaa (.int .u32 (wv S0.h)) 15 rfl kj (Qag (u := .int .u32 (IntKind.u32.wrap (nth Qak 7 / 4294967296))) kj (congrArg (Value.int .u32) (show IntKind.u32.wrap (nth Qak 7 / 4294967296) = wv S0.h by decide +kernel))) ?_
  refine sg 3 kj ?_
  refine Qai g4 _ (cat [ints .u32 ([(wv S0.a), (wv S0.b), (wv S0.c), (wv S0.d), (wv S0.e), (wv S0.f), (wv S0.g), (wv S0.h)]), ints .u8 (List.replicate 64 0), #[.int .i64 0]]) 129 r4_8 rfl kj (QaZ 113 _ _ g4 7 129 [] [ints .u8 (List.replicate 64 0), #[.int .i64 0]] ([(wv S0.a), (wv S0.b), (wv S0.c), (wv S0.d), (wv S0.e), (wv S0.f), (wv S0.g), 0]) 0 7 _ r4_8 rfl kj kj kj kj rfl (Nat.lt_of_lt_of_eq (show 7 < 8 by decide) rfl.symm)) fun W9 p9 r4_9 => ?_
  refine Qaj ?_
  refine hK37 _ _ ?_
  refine sgA kj ?_
  show Code.rounds _ _ _ 1 _ _
  show Code.wp _ _ (Exit.then (Code.rounds _ _ _ 0) _) _ _
  refine sgB kj ?_
  refine wp_seq_k fun K40 hK40 => ?_
  refine cond_false kj ?_
  refine wp_exit ?_
  refine hK5 _ _ ?_
  refine sgB kj ?_
  refine wp_ret ?_
  repeat (first | with_reducible refine goR1 ?_ | with_reducible refine goR2 ?_)
  exact (show bodyPost _ _ _ .ret _ _ from ret1 (.pointer (some ⟨g4, 0, none⟩)) rfl (Qa7 kj) ⟨_, rfl, (Puts.ext p9 (Puts.ext p8 (Puts.ext p7 (Puts.ext p6 (Puts.ext p5 (Puts.ext p4 (Puts.ext p3 (Puts.ext p2 (Ext.tr (Rely.Ext.refl w) e1) b4) b4) b4) b4) b4) b4) b4) b4), _, rfl, b4, List.replicate 64 0, List.length_replicate, Qeh 64, rfl, Nat.zero_le _, r4_9⟩)
end Go.Proofs.YtibegnjaphohaaaDoor.Sha
end
section
namespace Go.Proofs.YtibegnjaphohaaaDoor.Sha
open Go Go.RowKit
open Rely Auto Own
set_option linter.unusedVariables false
set_option linter.unusedSimpArgs false
theorem Qki (x : Int) : IntKind.u8.wrap x = x % 256 := by
  have : IntKind.u8.wrap x = x % 2 ^ 8 := rfl
  rw [this]; rfl
theorem QaD (x : Wd) (n d : Nat) (h : 2 ^ n = d) : IntKind.u8.wrap (wv (x >>> n)) = ((x.toNat / d % 256 : Nat) : Int) := by
  subst h
  rw [Qki]; unfold wv; rw [BitVec.toNat_ushiftRight, Nat.shiftRight_eq_div_pow]; omega
theorem QdN (n : Nat) : Qao (QdA n) := fun x hx => by
  unfold QdA at hx
  rcases List.mem_cons.1 hx with h | h
  · omega
  · rcases List.mem_append.1 h with h | h
    · exact Qeh _ x h
    · simp only [be8, List.mem_cons, List.not_mem_nil, or_false] at h
      rcases h with h | h | h | h | h | h | h | h <;> omega
set_option maxHeartbeats 8000000 in
theorem sumC (g : Nat) (t : List Int) (tc : TypeId) (w : World) (hc : w.heap[2]? = some (.cells (ints .u64 QaI) tc)) (hlen : t.length ≤ 900000000) (hd : HasD g t w) : Calls Tryd.prog 72 #[.pointer (some ⟨g, 0, none⟩)] w (Ret w (.agg (ints .u8 (dig t)))) := by
  obtain ⟨b, hbl, hbb, hbp, hmany, hrow⟩ := hd
  obtain ⟨s, hs⟩ : ∃ z, z = absorb S0 t (t.length / 64) := ⟨_, rfl⟩
  rw [← hs] at hrow
  replace hrow : w.heap[g]? = some (.cells (cat [ints .u32 ([wv s.a, wv s.b, wv s.c, wv s.d, wv s.e, wv s.f, wv s.g, wv s.h]), ints .u8 (b), #[.int .i64 ((t.length : Nat) : Int)]]) 129) := hrow
  refine enter 43 [(0, .pointer (some ⟨g, 0, none⟩))] Tryd.func72 rfl rfl kj rfl ?_
  refine sgC fun K3 hK3 => ?_
  refine Qar (ints .u8 ([0, 0, 0, 0, 0, 0, 0, 0, 0, 0, 0, 0, 0, 0, 0, 0, 0, 0, 0, 0, 0, 0, 0, 0, 0, 0, 0, 0, 0, 0, 0, 0])) 23 2 rfl kj kj fun g4 W1 l4 e1 r4_1 => ?_
  have x1 := Ext.tr (Rely.Ext.refl w) e1
  refine sgN hK3 ?_
  refine sgC fun K5 hK5 => ?_
  refine Qar (ints .u8 ([0, 0, 0, 0, 0, 0, 0, 0, 0, 0, 0, 0, 0, 0, 0, 0, 0, 0, 0, 0, 0, 0, 0, 0, 0, 0, 0, 0, 0, 0, 0, 0])) 23 3 rfl kj kj fun g6 W2 l6 e2 r6_2 => ?_
  have x2 := Ext.tr x1 e2
  have b6 := Nat.le_trans x1.size l6
  refine sgN hK5 ?_
  refine wp_seq_k fun K7 hK7 => ?_
  refine sgB kj ?_
  refine cond_false kj ?_
  refine wp_skip ?_
  refine hK7 _ _ ?_
  refine sgC fun K9 hK9 => ?_
  refine sg 2 kj ?_
  have r2_2 := (Qab (Qab hrow e1) e2)
  refine Qaa (.agg (cat [ints .u32 ([wv s.a, wv s.b, wv s.c, wv s.d, wv s.e, wv s.f, wv s.g, wv s.h]), ints .u8 (b), #[.int .i64 ((t.length : Nat) : Int)]])) 13 rfl kj (Qaw 129 _ g 129 _ _ r2_2 rfl kj kj (isz (n := 73) kj (by rw [Qae, Qae, Qae]; simp only [Array.size_append, cat, ((Qac _ _).trans hbl)]; rfl))) ?_
  refine Qar (cat [ints .u32 ([0, 0, 0, 0, 0, 0, 0, 0]), ints .u8 (List.replicate 64 0), #[.int .i64 0]]) 129 4 rfl kj kj fun g10 W3 l10 e3 r10_3 => ?_
  have b10 := Nat.le_trans x2.size l10
  refine Qai g10 _ (cat [ints .u32 ([wv s.a, wv s.b, wv s.c, wv s.d, wv s.e, wv s.f, wv s.g, wv s.h]), ints .u8 (b), #[.int .i64 ((t.length : Nat) : Int)]]) 129 r10_3 rfl kj (Qaq 129 _ _ g10 129 _ _ r10_3 rfl kj kj (isz (n := 73) kj (by rw [Qae, Qae, Qae]; simp only [Array.size_append, cat, ((Qac _ _).trans hbl)]; rfl)) (eqsz (n := 73) (by rw [Qae, Qae, Qae]; simp only [Array.size_append, cat, ((Qac _ _).trans (List.length_replicate (n := 64)))]; rfl) (by rw [Qae, Qae, Qae]; simp only [Array.size_append, cat, ((Qac _ _).trans hbl)]; rfl)) (QbG _ (by intro a ha; simp only [List.mem_cons, List.not_mem_nil, or_false] at ha; rcases ha with rfl | rfl | rfl; exact (Qa2 _ _); exact (Qa2 _ _); exact (QaU _ rfl)))) fun W4 p4 r10_4 => ?_
  refine sgN hK9 ?_
  refine sgC fun K11 hK11 => ?_
  refine sg 3 kj ?_
  refine Qaa (.int .i64 ((t.length : Nat) : Int)) 17 rfl kj (Qah 3 _ g 72 129 _ (.int .i64 ((t.length : Nat) : Int)) _ (Puts.row p4 (Qab r2_2 e3) (Qaf r2_2 l10)) rfl kj (Qa0 [ints .u32 ([wv s.a, wv s.b, wv s.c, wv s.d, wv s.e, wv s.f, wv s.g, wv s.h]), ints .u8 (b)] [#[.int .i64 ((t.length : Nat) : Int)]] [] 72 (by rw [Qae, Qae]; simp only [Array.size_append, cat, ((Qac _ _).trans hbl)]; rfl) 0 _ rfl) kj) ?_
  refine Qa8 (fun v W' => (OwnN .u8 5 W4.heap.size (QdA t.length)) v W' ∧ Ext W4 W') 75 #[.int .i64 ((t.length : Nat) : Int), .int .i64 64, .int .i64 8] 18 rfl kj kj ((Qi2 t.length (by omega) _).mono (by rintro e w' ⟨v, rfl, e1, hv⟩; exact ⟨v, rfl, hv, e1⟩)) fun vv12 W5 hh12 => ?_
  obtain ⟨hv12, e5⟩ := hh12
  have r1_2 := (Qab (Qab hc e1) e2)
  have hd4 : HasD g10 t W5 := ⟨b, hbl, hbb, hbp, hmany, by rw [← hs]; exact (Qab r10_4 e5)⟩
  have hp4 := hv12
  have hfl : QaO t.length < 64 := by unfold QaO; omega
  have hpl : t.length + (QdA t.length).length ≤ 1000000000 := by rw [QcW]; omega
  refine Qa8 (fun v W' => v = .tuple #[] ∧ ExtB g10 W5 W' ∧ HasD g10 (t ++ QdA t.length) W') 71 #[.pointer (some ⟨g10, 0, none⟩), vv12] 19 rfl kj kj ((addC g10 _ t (QdA t.length) _ tc _ (Qab (Puts.row p4 (Qab r1_2 e3) (Qaf r1_2 l10)) e5) (Qaf r1_2 l10) (.inr (hp4.nb (Qat r10_4))) (QdN _) hpl hd4 (OwnN.rd hp4)).mono fun e w' h => ⟨_, h.1, rfl, h.2⟩) fun v W6 h => ?_
  obtain ⟨rfl, q6, hD5⟩ := h
  obtain ⟨b5, hbl5, hbb5, -, -, hrow5⟩ := hD5
  obtain ⟨s5, hs5⟩ : ∃ z, z = absorb S0 (padT t) ((padT t).length / 64) := ⟨_, rfl⟩
  rw [show t ++ QdA t.length = padT t from rfl, ← hs5] at hrow5
  replace hrow5 : W6.heap[g10]? = some (.cells (cat [ints .u32 ([wv s5.a, wv s5.b, wv s5.c, wv s5.d, wv s5.e, wv s5.f, wv s5.g, wv s5.h]), ints .u8 (b5), #[.int .i64 (((padT t).length : Nat) : Int)]]) 129) := hrow5
  refine sgN hK11 ?_
  refine wp_seq_k fun K13 hK13 => ?_
  refine sgC fun K14 hK14 => ?_
  refine sg 1 kj ?_
  refine Qaa (.agg (ints .u32 ([wv s5.a, wv s5.b, wv s5.c, wv s5.d, wv s5.e, wv s5.f, wv s5.g, wv s5.h]))) 21 rfl kj (QaE 114 _ g10 0 129 _ _ _ hrow5 rfl kj (Qa0 [] [ints .u32 ([wv s5.a, wv s5.b, wv s5.c, wv s5.d, wv s5.e, wv s5.f, wv s5.g, wv s5.h])] [ints .u8 (b5), #[.int .i64 (((padT t).length : Nat) : Int)]] 0 kj) kj (isz (n := 8) kj kj)) ?_
  refine sg 1 kj ?_
  refine sgN hK14 ?_
  refine wp_block ?_
  refine wp_loop_rounds 9 ?_
  show Code.wp _ _ (Exit.then (Code.rounds _ _ _ 8) _) _ _
  refine sgB kj ?_
  refine sgT kj ?_
  refine wp_seq_k fun K17 hK17 => ?_
  refine wp_block ?_
  refine sgC fun K18 hK18 => ?_
  refine sg 1 kj ?_
  refine Qaa (.int .u32 (wv s5.a)) 25 rfl kj (Qa6 114 _ _ .i64 .u32 ([wv s5.a, wv s5.b, wv s5.c, wv s5.d, wv s5.e, wv s5.f, wv s5.g, wv s5.h]) 0 8 113 (wv s5.a) rfl kj kj kj kj kj rfl (by decide) rfl) ?_
  refine sg 2 kj ?_
  refine sgN hK18 ?_
  refine sgB kj ?_
  refine wp_block ?_
  refine wp_loop_rounds 5 ?_
  show Code.wp _ _ (Exit.then (Code.rounds _ _ _ 4) _) _ _
  refine sgB kj ?_
  refine sgT kj ?_
  refine wp_seq_k fun K22 hK22 => ?_
  refine wp_block ?_
  refine sgB kj ?_
  refine Qad ?_
  refine sg 8 kj ?_
  refine Qaa (.int .u32 (wv ((s5.a) >>> 24))) 37 rfl kj (Qay .shr _ _ _ _ .u32 .i64 _ _ _ rfl kj kj (QaH _ _ _ _ _ _ (by decide) (QaP _ _ 24 rfl (by decide)))) ?_
  refine Qaa (.int .u8 (((s5.a.toNat / 16777216 % 256 : Nat) : Int))) 38 rfl kj (Qag (u := .int .u8 (IntKind.u8.wrap (wv ((s5.a) >>> 24)))) kj (congrArg (Value.int .u8) (QaD s5.a 24 16777216 (by decide)))) ?_
  refine sg 1 kj ?_
  have r6_6 := (ExtB.row q6 (Qab (Puts.row p4 (Qab r6_2 e3) (Qaf r6_2 l10)) e5) (Qaf r6_2 l10))
  refine Qai g6 _ (ints .u8 ([(((s5.a.toNat / 16777216 % 256 : Nat) : Int)), 0, 0, 0, 0, 0, 0, 0, 0, 0, 0, 0, 0, 0, 0, 0, 0, 0, 0, 0, 0, 0, 0, 0, 0, 0, 0, 0, 0, 0, 0, 0])) 23 r6_6 rfl kj (Qam 5 _ _ g6 0 23 _ _ r6_6 rfl kj kj kj (show 0 < 32 by decide)) fun W7 p7 r6_7 => ?_
  refine Qaj ?_
  refine hK22 _ _ ?_
  refine sgA kj ?_
  show Code.rounds _ _ _ 4 _ _
  show Code.wp _ _ (Exit.then (Code.rounds _ _ _ 3) _) _ _
  refine sgB kj ?_
  refine sgT kj ?_
  refine wp_seq_k fun K26 hK26 => ?_
  refine wp_block ?_
  refine sgB kj ?_
  refine Qad ?_
  refine sg 8 kj ?_
  refine Qaa (.int .u32 (wv ((s5.a) >>> 16))) 37 rfl kj (Qay .shr _ _ _ _ .u32 .i64 _ _ _ rfl kj kj (QaH _ _ _ _ _ _ (by decide) (QaP _ _ 16 rfl (by decide)))) ?_
  refine Qaa (.int .u8 (((s5.a.toNat / 65536 % 256 : Nat) : Int))) 38 rfl kj (Qag (u := .int .u8 (IntKind.u8.wrap (wv ((s5.a) >>> 16)))) kj (congrArg (Value.int .u8) (QaD s5.a 16 65536 (by decide)))) ?_
  refine sg 1 kj ?_
  refine Qai g6 _ (ints .u8 ([(((s5.a.toNat / 16777216 % 256 : Nat) : Int)), (((s5.a.toNat / 65536 % 256 : Nat) : Int)), 0, 0, 0, 0, 0, 0, 0, 0, 0, 0, 0, 0, 0, 0, 0, 0, 0, 0, 0, 0, 0, 0, 0, 0, 0, 0, 0, 0, 0, 0])) 23 r6_7 rfl kj (Qam 5 _ _ g6 1 23 _ _ r6_7 rfl kj kj kj (show 1 < 32 by decide)) fun W8 p8 r6_8 => ?_
  refine Qaj ?_
  refine hK26 _ _ ?_
  refine sgA kj ?_
  show Code.rounds _ _ _ 3 _ _
  show Code.wp _ _ (Exit.then (Code.rounds _ _ _ 2) _) _ _
  refine sgB kj ?_
  refine sgT kj ?_
  refine wp_seq_k fun K30 hK30 => ?_
  refine wp_block ?_
  refine sgB kj ?_
  refine Qad ?_
  refine sg 8 kj ?_
  refine Qaa (.int .u32 (wv ((s5.a) >>> 8))) 37 rfl kj (Qay .shr _ _ _ _ .u32 .i64 _ _ _ rfl kj kj (QaH _ _ _ _ _ _ (by decide) (QaP _ _ 8 rfl (by decide)))) ?_
  refine Qaa (.int .u8 (((s5.a.toNat / 256 % 256 : Nat) : Int))) 38 rfl kj (Qag (u := .int .u8 (IntKind.u8.wrap (wv ((s5.a) >>> 8)))) kj (congrArg (Value.int .u8) (QaD s5.a 8 256 (by decide)))) ?_
  refine sg 1 kj ?_
  refine Qai g6 _ (ints .u8 ([(((s5.a.toNat / 16777216 % 256 : Nat) : Int)), (((s5.a.toNat / 65536 % 256 : Nat) : Int)), (((s5.a.toNat / 256 % 256 : Nat) : Int)), 0, 0, 0, 0, 0, 0, 0, 0, 0, 0, 0, 0, 0, 0, 0, 0, 0, 0, 0, 0, 0, 0, 0, 0, 0, 0, 0, 0, 0])) 23 r6_8 rfl kj (Qam 5 _ _ g6 2 23 _ _ r6_8 rfl kj kj kj (show 2 < 32 by decide)) fun W9 p9 r6_9 => ?_
  refine Qaj ?_
  refine hK30 _ _ ?_
  refine sgA kj ?_
  show Code.rounds _ _ _ 2 _ _
  show Code.wp _ _ (Exit.then (Code.rounds _ _ _ 1) _) _ _
  refine sgB kj ?_
  refine sgT kj ?_
  refine wp_seq_k fun K34 hK34 => ?_
  refine wp_block ?_
  refine sgB kj ?_
  refine Qad ?_
  refine sg 8 kj ?_
  refine Qaa (.int .u32 (wv ((s5.a) >>> 0))) 37 rfl kj (Qay .shr _ _ _ _ .u32 .i64 _ _ _ rfl kj kj (QaH _ _ _ _ _ _ (by decide) (QaP _ _ 0 rfl (by decide)))) ?_
  refine Qaa (.int .u8 (((s5.a.toNat / 1 % 256 : Nat) : Int))) 38 rfl kj (Qag (u := .int .u8 (IntKind.u8.wrap (wv ((s5.a) >>> 0)))) kj (congrArg (Value.int .u8) (QaD s5.a 0 1 (by decide)))) ?_
  refine sg 1 kj ?_
  refine Qai g6 _ (ints .u8 ([(((s5.a.toNat / 16777216 % 256 : Nat) : Int)), (((s5.a.toNat / 65536 % 256 : Nat) : Int)), (((s5.a.toNat / 256 % 256 : Nat) : Int)), (((s5.a.toNat / 1 % 256 : Nat) : Int)), 0, 0, 0, 0, 0, 0, 0, 0, 0, 0, 0, 0, 0, 0, 0, 0, 0, 0, 0, 0, 0, 0, 0, 0, 0, 0, 0, 0])) 23 r6_9 rfl kj (Qam 5 _ _ g6 3 23 _ _ r6_9 rfl kj kj kj (show 3 < 32 by decide)) fun W10 p10 r6_10 => ?_
  refine Qaj ?_
  refine hK34 _ _ ?_
  refine sgA kj ?_
  show Code.rounds _ _ _ 1 _ _
  show Code.wp _ _ (Exit.then (Code.rounds _ _ _ 0) _) _ _
  refine sgB kj ?_
  refine wp_seq_k fun K37 hK37 => ?_
  refine cond_false kj ?_
  refine wp_exit ?_
  refine hK17 _ _ ?_
  refine sgA kj ?_
  show Code.rounds _ _ _ 8 _ _
  show Code.wp _ _ (Exit.then (Code.rounds _ _ _ 7) _) _ _
  refine sgB kj ?_
  refine sgT kj ?_
  refine wp_seq_k fun K40 hK40 => ?_
  refine wp_block ?_
  refine sgC fun K41 hK41 => ?_
  refine sg 1 kj ?_
  refine Qaa (.int .u32 (wv s5.b)) 25 rfl kj (Qa6 114 _ _ .i64 .u32 ([wv s5.a, wv s5.b, wv s5.c, wv s5.d, wv s5.e, wv s5.f, wv s5.g, wv s5.h]) 1 8 113 (wv s5.b) rfl kj kj kj kj kj rfl (by decide) rfl) ?_
  refine sg 2 kj ?_
  refine sgN hK41 ?_
  refine sgB kj ?_
  refine wp_block ?_
  refine wp_loop_rounds 5 ?_
  show Code.wp _ _ (Exit.then (Code.rounds _ _ _ 4) _) _ _
  refine sgB kj ?_
  refine sgT kj ?_
  refine wp_seq_k fun K45 hK45 => ?_
  refine wp_block ?_
  refine sgB kj ?_
  refine Qad ?_
  refine sg 8 kj ?_
  refine Qaa (.int .u32 (wv ((s5.b) >>> 24))) 37 rfl kj (Qay .shr _ _ _ _ .u32 .i64 _ _ _ rfl kj kj (QaH _ _ _ _ _ _ (by decide) (QaP _ _ 24 rfl (by decide)))) ?_
  refine Qaa (.int .u8 (((s5.b.toNat / 16777216 % 256 : Nat) : Int))) 38 rfl kj (Qag (u := .int .u8 (IntKind.u8.wrap (wv ((s5.b) >>> 24)))) kj (congrArg (Value.int .u8) (QaD s5.b 24 16777216 (by decide)))) ?_
  refine sg 1 kj ?_
  refine Qai g6 _ (ints .u8 ([(((s5.a.toNat / 16777216 % 256 : Nat) : Int)), (((s5.a.toNat / 65536 % 256 : Nat) : Int)), (((s5.a.toNat / 256 % 256 : Nat) : Int)), (((s5.a.toNat / 1 % 256 : Nat) : Int)), (((s5.b.toNat / 16777216 % 256 : Nat) : Int)), 0, 0, 0, 0, 0, 0, 0, 0, 0, 0, 0, 0, 0, 0, 0, 0, 0, 0, 0, 0, 0, 0, 0, 0, 0, 0, 0])) 23 r6_10 rfl kj (Qam 5 _ _ g6 4 23 _ _ r6_10 rfl kj kj kj (show 4 < 32 by decide)) fun W11 p11 r6_11 => ?_
  refine Qaj ?_
  refine hK45 _ _ ?_
  refine sgA kj ?_
  show Code.rounds _ _ _ 4 _ _
  show Code.wp _ _ (Exit.then (Code.rounds _ _ _ 3) _) _ _
  refine sgB kj ?_
  refine sgT kj ?_
  refine wp_seq_k fun K49 hK49 => ?_
  refine wp_block ?_
  refine sgB kj ?_
  refine Qad ?_
  refine sg 8 kj ?_
  refine Qaa (.int .u32 (wv ((s5.b) >>> 16))) 37 rfl kj (Qay .shr _ _ _ _ .u32 .i64 _ _ _ rfl kj kj (QaH _ _ _ _ _ _ (by decide) (QaP _ _ 16 rfl (by decide)))) ?_
  refine Qaa (.int .u8 (((s5.b.toNat / 65536 % 256 : Nat) : Int))) 38 rfl kj (Qag (u := .int .u8 (IntKind.u8.wrap (wv ((s5.b) >>> 16)))) kj (congrArg (Value.int .u8) (QaD s5.b 16 65536 (by decide)))) ?_
  refine sg 1 kj ?_
  refine Qai g6 _ (ints .u8 ([(((s5.a.toNat / 16777216 % 256 : Nat) : Int)), (((s5.a.toNat / 65536 % 256 : Nat) : Int)), (((s5.a.toNat / 256 % 256 : Nat) : Int)), (((s5.a.toNat / 1 % 256 : Nat) : Int)), (((s5.b.toNat / 16777216 % 256 : Nat) : Int)), (((s5.b.toNat / 65536 % 256 : Nat) : Int)), 0, 0, 0, 0, 0, 0, 0, 0, 0, 0, 0, 0, 0, 0, 0, 0, 0, 0, 0, 0, 0, 0, 0, 0, 0, 0])) 23 r6_11 rfl kj (Qam 5 _ _ g6 5 23 _ _ r6_11 rfl kj kj kj (show 5 < 32 by decide)) fun W12 p12 r6_12 => ?_
  refine Qaj ?_
  refine hK49 _ _ ?_
  refine sgA kj ?_
  show Code.rounds _ _ _ 3 _ _
  show Code.wp _ _ (Exit.then (Code.rounds _ _ _ 2) _) _ _
  refine sgB kj ?_
  refine sgT kj ?_
  refine wp_seq_k fun K53 hK53 => ?_
  refine wp_block ?_
  refine sgB kj ?_
  refine Qad ?_
  refine sg 8 kj ?_
  refine Qaa (.int .u32 (wv ((s5.b) >>> 8))) 37 rfl kj (Qay .shr _ _ _ _ .u32 .i64 _ _ _ rfl kj kj (QaH _ _ _ _ _ _ (by decide) (QaP _ _ 8 rfl (by decide)))) ?_
  refine Qaa (.int .u8 (((s5.b.toNat / 256 % 256 : Nat) : Int))) 38 rfl kj (Qag (u := .int .u8 (IntKind.u8.wrap (wv ((s5.b) >>> 8)))) kj (congrArg (Value.int .u8) (QaD s5.b 8 256 (by decide)))) ?_
  refine sg 1 kj ?_
  refine Qai g6 _ (ints .u8 ([(((s5.a.toNat / 16777216 % 256 : Nat) : Int)), (((s5.a.toNat / 65536 % 256 : Nat) : Int)), (((s5.a.toNat / 256 % 256 : Nat) : Int)), (((s5.a.toNat / 1 % 256 : Nat) : Int)), (((s5.b.toNat / 16777216 % 256 : Nat) : Int)), (((s5.b.toNat / 65536 % 256 : Nat) : Int)), (((s5.b.toNat / 256 % 256 : Nat) : Int)), 0, 0, 0, 0, 0, 0, 0, 0, 0, 0, 0, 0, 0, 0, 0, 0, 0, 0, 0, 0, 0, 0, 0, 0, 0])) 23 r6_12 rfl kj (Qam 5 _ _ g6 6 23 _ _ r6_12 rfl kj kj kj (show 6 < 32 by decide)) fun W13 p13 r6_13 => ?_
  refine Qaj ?_
  refine hK53 _ _ ?_
  refine sgA kj ?_
  show Code.rounds _ _ _ 2 _ _
  show Code.wp _ _ (Exit.then (Code.rounds _ _ _ 1) _) _ _
  refine sgB kj ?_
  refine sgT kj ?_
  refine wp_seq_k fun K57 hK57 => ?_
  refine wp_block ?_
  refine sgB kj ?_
  refine Qad ?_
  refine sg 8 kj ?_
  refine Qaa (.int .u32 (wv ((s5.b) >>> 0))) 37 rfl kj (Qay .shr _ _ _ _ .u32 .i64 _ _ _ rfl kj kj (QaH _ _ _ _ _ _ (by decide) (QaP _ _ 0 rfl (by decide)))) ?_
  refine Qaa (.int .u8 (((s5.b.toNat / 1 % 256 : Nat) : Int))) 38 rfl kj (Qag (u := .int .u8 (IntKind.u8.wrap (wv ((s5.b) >>> 0)))) kj (congrArg (Value.int .u8) (QaD s5.b 0 1 (by decide)))) ?_
  refine sg 1 kj ?_
  refine Qai g6 _ (ints .u8 ([(((s5.a.toNat / 16777216 % 256 : Nat) : Int)), (((s5.a.toNat / 65536 % 256 : Nat) : Int)), (((s5.a.toNat / 256 % 256 : Nat) : Int)), (((s5.a.toNat / 1 % 256 : Nat) : Int)), (((s5.b.toNat / 16777216 % 256 : Nat) : Int)), (((s5.b.toNat / 65536 % 256 : Nat) : Int)), (((s5.b.toNat / 256 % 256 : Nat) : Int)), (((s5.b.toNat / 1 % 256 : Nat) : Int)), 0, 0, 0, 0, 0, 0, 0, 0, 0, 0, 0, 0, 0, 0, 0, 0, 0, 0, 0, 0, 0, 0, 0, 0])) 23 r6_13 rfl kj (Qam 5 _ _ g6 7 23 _ _ r6_13 rfl kj kj kj (show 7 < 32 by decide)) fun W14 p14 r6_14 => ?_
  refine Qaj ?_
  refine hK57 _ _ ?_
  refine sgA kj ?_
  show Code.rounds _ _ _ 1 _ _
  show Code.wp _ _ (Exit.then (Code.rounds _ _ _ 0) _) _ _
  refine sgB kj ?_
  refine wp_seq_k fun K60 hK60 => ?_
  refine cond_false kj ?_
  refine wp_exit ?_
  refine hK40 _ _ ?_
  refine sgA kj ?_
  show Code.rounds _ _ _ 7 _ _
  show Code.wp _ _ (Exit.then (Code.rounds _ _ _ 6) _) _ _
  refine sgB kj ?_
  refine sgT kj ?_
  refine wp_seq_k fun K63 hK63 => ?_
  refine wp_block ?_
  refine sgC fun K64 hK64 => ?_
  refine sg 1 kj ?_
  refine Qaa (.int .u32 (wv s5.c)) 25 rfl kj (Qa6 114 _ _ .i64 .u32 ([wv s5.a, wv s5.b, wv s5.c, wv s5.d, wv s5.e, wv s5.f, wv s5.g, wv s5.h]) 2 8 113 (wv s5.c) rfl kj kj kj kj kj rfl (by decide) rfl) ?_
  refine sg 2 kj ?_
  refine sgN hK64 ?_
  refine sgB kj ?_
  refine wp_block ?_
  refine wp_loop_rounds 5 ?_
  show Code.wp _ _ (Exit.then (Code.rounds _ _ _ 4) _) _ _
  refine sgB kj ?_
  refine sgT kj ?_
  refine wp_seq_k fun K68 hK68 => ?_
  refine wp_block ?_
  refine sgB kj ?_
  refine Qad ?_
  refine sg 8 kj ?_
  refine Qaa (.int .u32 (wv ((s5.c) >>> 24))) 37 rfl kj (Qay .shr _ _ _ _ .u32 .i64 _ _ _ rfl kj kj (QaH _ _ _ _ _ _ (by decide) (QaP _ _ 24 rfl (by decide)))) ?_
  refine Qaa (.int .u8 (((s5.c.toNat / 16777216 % 256 : Nat) : Int))) 38 rfl kj (Qag (u := .int .u8 (IntKind.u8.wrap (wv ((s5.c) >>> 24)))) kj (congrArg (Value.int .u8) (QaD s5.c 24 16777216 (by decide)))) ?_
  refine sg 1 kj ?_
  refine Qai g6 _ (ints .u8 ([(((s5.a.toNat / 16777216 % 256 : Nat) : Int)), (((s5.a.toNat / 65536 % 256 : Nat) : Int)), (((s5.a.toNat / 256 % 256 : Nat) : Int)), (((s5.a.toNat / 1 % 256 : Nat) : Int)), (((s5.b.toNat / 16777216 % 256 : Nat) : Int)), (((s5.b.toNat / 65536 % 256 : Nat) : Int)), (((s5.b.toNat / 256 % 256 : Nat) : Int)), (((s5.b.toNat / 1 % 256 : Nat) : Int)), (((s5.c.toNat / 16777216 % 256 : Nat) : Int)), 0, 0, 0, 0, 0, 0, 0, 0, 0, 0, 0, 0, 0, 0, 0, 0, 0, 0, 0, 0, 0, 0, 0])) 23 r6_14 rfl kj (Qam 5 _ _ g6 8 23 _ _ r6_14 rfl kj kj kj (show 8 < 32 by decide)) fun W15 p15 r6_15 => ?_
  refine Qaj ?_
  refine hK68 _ _ ?_
  refine sgA kj ?_
  show Code.rounds _ _ _ 4 _ _
  show Code.wp _ _ (Exit.then (Code.rounds _ _ _ 3) _) _ _
  refine sgB kj ?_
  refine sgT kj ?_
  refine wp_seq_k fun K72 hK72 => ?_
  refine wp_block ?_
  refine sgB kj ?_
  refine Qad ?_
  refine sg 8 kj ?_
  refine Qaa (.int .u32 (wv ((s5.c) >>> 16))) 37 rfl kj (Qay .shr _ _ _ _ .u32 .i64 _ _ _ rfl kj kj (QaH _ _ _ _ _ _ (by decide) (QaP _ _ 16 rfl (by decide)))) ?_
  refine Qaa (.int .u8 (((s5.c.toNat / 65536 % 256 : Nat) : Int))) 38 rfl kj (Qag (u := .int .u8 (IntKind.u8.wrap (wv ((s5.c) >>> 16)))) kj (congrArg (Value.int .u8) (QaD s5.c 16 65536 (by decide)))) ?_
  refine sg 1 kj ?_
  refine Qai g6 _ (ints .u8 ([(((s5.a.toNat / 16777216 % 256 : Nat) : Int)), (((s5.a.toNat / 65536 % 256 : Nat) : Int)), (((s5.a.toNat / 256 % 256 : Nat) : Int)), (((s5.a.toNat / 1 % 256 : Nat) : Int)), (((s5.b.toNat / 16777216 % 256 : Nat) : Int)), (((s5.b.toNat / 65536 % 256 : Nat) : Int)), (((s5.b.toNat / 256 % 256 : Nat) : Int)), (((s5.b.toNat / 1 % 256 : Nat) : Int)), (((s5.c.toNat / 16777216 % 256 : Nat) : Int)), (((s5.c.toNat / 65536 % 256 : Nat) : Int)), 0, 0, 0, 0, 0, 0, 0, 0, 0, 0, 0, 0, 0, 0, 0, 0, 0, 0, 0, 0, 0, 0])) 23 r6_15 rfl kj (Qam 5 _ _ g6 9 23 _ _ r6_15 rfl kj kj kj (show 9 < 32 by decide)) fun W16 p16 r6_16 => ?_
  refine Qaj ?_
  refine hK72 _ _ ?_
  refine sgA kj ?_
  show Code.rounds _ _ _ 3 _ _
  show Code.wp _ _ (Exit.then (Code.rounds _ _ _ 2) _) _ _
  refine sgB kj ?_
  refine sgT kj ?_
  refine wp_seq_k fun K76 hK76 => ?_
  refine wp_block ?_
  refine sgB kj ?_
  refine Qad ?_
  refine sg 8 kj ?_
  refine Qaa (.int .u32 (wv ((s5.c) >>> 8))) 37 rfl kj (Qay .shr _ _ _ _ .u32 .i64 _ _ _ rfl kj kj (QaH _ _ _ _ _ _ (by decide) (QaP _ _ 8 rfl (by decide)))) ?_
  refine Qaa (.int .u8 (((s5.c.toNat / 256 % 256 : Nat) : Int))) 38 rfl kj (Qag (u := .int .u8 (IntKind.u8.wrap (wv ((s5.c) >>> 8)))) kj (congrArg (Value.int .u8) (QaD s5.c 8 256 (by decide)))) ?_
  refine sg 1 kj ?_
  refine Qai g6 _ (ints .u8 ([(((s5.a.toNat / 16777216 % 256 : Nat) : Int)), (((s5.a.toNat / 65536 % 256 : Nat) : Int)), (((s5.a.toNat / 256 % 256 : Nat) : Int)), (((s5.a.toNat / 1 % 256 : Nat) : Int)), (((s5.b.toNat / 16777216 % 256 : Nat) : Int)), (((s5.b.toNat / 65536 % 256 : Nat) : Int)), (((s5.b.toNat / 256 % 256 : Nat) : Int)), (((s5.b.toNat / 1 % 256 : Nat) : Int)), (((s5.c.toNat / 16777216 % 256 : Nat) : Int)), (((s5.c.toNat / 65536 % 256 : Nat) : Int)), (((s5.c.toNat / 256 % 256 : Nat) : Int)), 0, 0, 0, 0, 0, 0, 0, 0, 0, 0, 0, 0, 0, 0, 0, 0, 0, 0, 0, 0, 0])) 23 r6_16 rfl kj (Qam 5 _ _ g6 10 23 _ _ r6_16 rfl kj kj kj (show 10 < 32 by decide)) fun W17 p17 r6_17 => ?_
  refine Qaj ?_
  refine hK76 _ _ ?_
  refine sgA kj ?_
  show Code.rounds _ _ _ 2 _ _
  show Code.wp _ _ (Exit.then (Code.rounds _ _ _ 1) _) _ _
  refine sgB kj ?_
  refine sgT kj ?_
  refine wp_seq_k fun K80 hK80 => ?_
  refine wp_block ?_
  refine sgB kj ?_
  refine Qad ?_
  refine sg 8 kj ?_
  refine Qaa (.int .u32 (wv ((s5.c) >>> 0))) 37 rfl kj (Qay .shr _ _ _ _ .u32 .i64 _ _ _ rfl kj kj (QaH _ _ _ _ _ _ (by decide) (QaP _ _ 0 rfl (by decide)))) ?_
  refine Qaa (.int .u8 (((s5.c.toNat / 1 % 256 : Nat) : Int))) 38 rfl kj (Qag (u := .int .u8 (IntKind.u8.wrap (wv ((s5.c) >>> 0)))) kj (congrArg (Value.int .u8) (QaD s5.c 0 1 (by decide)))) ?_
  refine sg 1 kj ?_
  refine Qai g6 _ (ints .u8 ([(((s5.a.toNat / 16777216 % 256 : Nat) : Int)), (((s5.a.toNat / 65536 % 256 : Nat) : Int)), (((s5.a.toNat / 256 % 256 : Nat) : Int)), (((s5.a.toNat / 1 % 256 : Nat) : Int)), (((s5.b.toNat / 16777216 % 256 : Nat) : Int)), (((s5.b.toNat / 65536 % 256 : Nat) : Int)), (((s5.b.toNat / 256 % 256 : Nat) : Int)), (((s5.b.toNat / 1 % 256 : Nat) : Int)), (((s5.c.toNat / 16777216 % 256 : Nat) : Int)), (((s5.c.toNat / 65536 % 256 : Nat) : Int)), (((s5.c.toNat / 256 % 256 : Nat) : Int)), (((s5.c.toNat / 1 % 256 : Nat) : Int)), 0, 0, 0, 0, 0, 0, 0, 0, 0, 0, 0, 0, 0, 0, 0, 0, 0, 0, 0, 0])) 23 r6_17 rfl kj (Qam 5 _ _ g6 11 23 _ _ r6_17 rfl kj kj kj (show 11 < 32 by decide)) fun W18 p18 r6_18 => ?_
  refine Qaj ?_
  refine hK80 _ _ ?_
  refine sgA kj ?_
  show Code.rounds _ _ _ 1 _ _
  show Code.wp _ _ (Exit.then (Code.rounds _ _ _ 0) _) _ _
  refine sgB kj ?_
  refine wp_seq_k fun K83 hK83 => ?_
  refine cond_false kj ?_
  refine wp_exit ?_
  refine hK63 _ _ ?_
  refine sgA kj ?_
  show Code.rounds _ _ _ 6 _ _
  show Code.wp _ _ (Exit.then (Code.rounds _ _ _ 5) _) _ _
  refine sgB kj ?_
  refine sgT kj ?_
  refine wp_seq_k fun K86 hK86 => ?_
  refine wp_block ?_
  refine sgC fun K87 hK87 => ?_
  refine sg 1 kj ?_
  refine Qaa (.int .u32 (wv s5.d)) 25 rfl kj (Qa6 114 _ _ .i64 .u32 ([wv s5.a, wv s5.b, wv s5.c, wv s5.d, wv s5.e, wv s5.f, wv s5.g, wv s5.h]) 3 8 113 (wv s5.d) rfl kj kj kj kj kj rfl (by decide) rfl) ?_
  refine sg 2 kj ?_
  refine sgN hK87 ?_
  refine sgB kj ?_
  refine wp_block ?_
  refine wp_loop_rounds 5 ?_
  show Code.wp _ _ (Exit.then (Code.rounds _ _ _ 4) _) _ _
  refine sgB kj ?_
  refine sgT kj ?_
  refine wp_seq_k fun K91 hK91 => ?_
  refine wp_block ?_
  refine sgB kj ?_
  refine Qad ?_
  refine sg 8 kj ?_
  refine Qaa (.int .u32 (wv ((s5.d) >>> 24))) 37 rfl kj (Qay .shr _ _ _ _ .u32 .i64 _ _ _ rfl kj kj (QaH _ _ _ _ _ _ (by decide) (QaP _ _ 24 rfl (by decide)))) ?_
  refine Qaa (.int .u8 (((s5.d.toNat / 16777216 % 256 : Nat) : Int))) 38 rfl kj (Qag (u := .int .u8 (IntKind.u8.wrap (wv ((s5.d) >>> 24)))) kj (congrArg (Value.int .u8) (QaD s5.d 24 16777216 (by decide)))) ?_
  refine sg 1 kj ?_
  refine Qai g6 _ (ints .u8 ([(((s5.a.toNat / 16777216 % 256 : Nat) : Int)), (((s5.a.toNat / 65536 % 256 : Nat) : Int)), (((s5.a.toNat / 256 % 256 : Nat) : Int)), (((s5.a.toNat / 1 % 256 : Nat) : Int)), (((s5.b.toNat / 16777216 % 256 : Nat) : Int)), (((s5.b.toNat / 65536 % 256 : Nat) : Int)), (((s5.b.toNat / 256 % 256 : Nat) : Int)), (((s5.b.toNat / 1 % 256 : Nat) : Int)), (((s5.c.toNat / 16777216 % 256 : Nat) : Int)), (((s5.c.toNat / 65536 % 256 : Nat) : Int)), (((s5.c.toNat / 256 % 256 : Nat) : Int)), (((s5.c.toNat / 1 % 256 : Nat) : Int)), (((s5.d.toNat / 16777216 % 256 : Nat) : Int)), 0, 0, 0, 0, 0, 0, 0, 0, 0, 0, 0, 0, 0, 0, 0, 0, 0, 0, 0])) 23 r6_18 rfl kj (Qam 5 _ _ g6 12 23 _ _ r6_18 rfl kj kj kj (show 12 < 32 by decide)) fun W19 p19 r6_19 => ?_
  refine Qaj ?_
  refine hK91 _ _ ?_
  refine sgA kj ?_
  show Code.rounds _ _ _ 4 _ _
  show Code.wp _ _ (Exit.then (Code.rounds _ _ _ 3) _) _ _
  refine sgB kj ?_
  refine sgT kj ?_
  refine wp_seq_k fun K95 hK95 => ?_
  refine wp_block ?_
  refine sgB kj ?_
  refine Qad ?_
  refine sg 8 kj ?_
  refine Qaa (.int .u32 (wv ((s5.d) >>> 16))) 37 rfl kj (Qay .shr _ _ _ _ .u32 .i64 _ _ _ rfl kj kj (QaH _ _ _ _ _ _ (by decide) (QaP _ _ 16 rfl (by decide)))) ?_
  refine Qaa (.int .u8 (((s5.d.toNat / 65536 % 256 : Nat) : Int))) 38 rfl kj (Qag (u := .int .u8 (IntKind.u8.wrap (wv ((s5.d) >>> 16)))) kj (congrArg (Value.int .u8) (QaD s5.d 16 65536 (by decide)))) ?_
  refine sg 1 kj ?_
  refine Qai g6 _ (ints .u8 ([(((s5.a.toNat / 16777216 % 256 : Nat) : Int)), (((s5.a.toNat / 65536 % 256 : Nat) : Int)), (((s5.a.toNat / 256 % 256 : Nat) : Int)), (((s5.a.toNat / 1 % 256 : Nat) : Int)), (((s5.b.toNat / 16777216 % 256 : Nat) : Int)), (((s5.b.toNat / 65536 % 256 : Nat) : Int)), (((s5.b.toNat / 256 % 256 : Nat) : Int)), (((s5.b.toNat / 1 % 256 : Nat) : Int)), (((s5.c.toNat / 16777216 % 256 : Nat) : Int)), (((s5.c.toNat / 65536 % 256 : Nat) : Int)), (((s5.c.toNat / 256 % 256 : Nat) : Int)), (((s5.c.toNat / 1 % 256 : Nat) : Int)), (((s5.d.toNat / 16777216 % 256 : Nat) : Int)), (((s5.d.toNat / 65536 % 256 : Nat) : Int)), 0, 0, 0, 0, 0, 0, 0, 0, 0, 0, 0, 0, 0, 0, 0, 0, 0, 0])) 23 r6_19 rfl kj (Qam 5 _ _ g6 13 23 _ _ r6_19 rfl kj kj kj (show 13 < 32 by decide)) fun W20 p20 r6_20 => ?_
  refine Qaj ?_
  refine hK95 _ _ ?_
  refine sgA kj ?_
  show Code.rounds _ _ _ 3 _ _
  show Code.wp _ _ (Exit.then (Code.rounds _ _ _ 2) _) _ _
  refine sgB kj ?_
  refine sgT kj ?_
  refine wp_seq_k fun K99 hK99 => ?_
  refine wp_block ?_
  refine sgB kj ?_
  refine Qad ?_
  refine sg 8 kj ?_
  refine Qaa (.int .u32 (wv ((s5.d) >>> 8))) 37 rfl kj (Qay .shr _ _ _ _ .u32 .i64 _ _ _ rfl kj kj (QaH _ _ _ _ _ _ (by decide) (QaP _ _ 8 rfl (by decide)))) ?_
  refine Qaa (.int .u8 (((s5.d.toNat / 256 % 256 : Nat) : Int))) 38 rfl kj (Qag (u := .int .u8 (IntKind.u8.wrap (wv ((s5.d) >>> 8)))) kj (congrArg (Value.int .u8) (QaD s5.d 8 256 (by decide)))) ?_
  refine sg 1 kj ?_
  refine Qai g6 _ (ints .u8 ([(((s5.a.toNat / 16777216 % 256 : Nat) : Int)), (((s5.a.toNat / 65536 % 256 : Nat) : Int)), (((s5.a.toNat / 256 % 256 : Nat) : Int)), (((s5.a.toNat / 1 % 256 : Nat) : Int)), (((s5.b.toNat / 16777216 % 256 : Nat) : Int)), (((s5.b.toNat / 65536 % 256 : Nat) : Int)), (((s5.b.toNat / 256 % 256 : Nat) : Int)), (((s5.b.toNat / 1 % 256 : Nat) : Int)), (((s5.c.toNat / 16777216 % 256 : Nat) : Int)), (((s5.c.toNat / 65536 % 256 : Nat) : Int)), (((s5.c.toNat / 256 % 256 : Nat) : Int)), (((s5.c.toNat / 1 % 256 : Nat) : Int)), (((s5.d.toNat / 16777216 % 256 : Nat) : Int)), (((s5.d.toNat / 65536 % 256 : Nat) : Int)), (((s5.d.toNat / 256 % 256 : Nat) : Int)), 0, 0, 0, 0, 0, 0, 0, 0, 0, 0, 0, 0, 0, 0, 0, 0, 0])) 23 r6_20 rfl kj (Qam 5 _ _ g6 14 23 _ _ r6_20 rfl kj kj kj (show 14 < 32 by decide)) fun W21 p21 r6_21 => ?_
  refine Qaj ?_
  refine hK99 _ _ ?_
  refine sgA kj ?_
  show Code.rounds _ _ _ 2 _ _
  show Code.wp _ _ (Exit.then (Code.rounds _ _ _ 1) _) _ _
  refine sgB kj ?_
  refine sgT kj ?_
  refine wp_seq_k fun K103 hK103 => ?_
  refine wp_block ?_
  refine sgB kj ?_
  refine Qad ?_
  refine sg 8 kj ?_
  refine Qaa (.int .u32 (wv ((s5.d) >>> 0))) 37 rfl kj (Qay .shr _ _ _ _ .u32 .i64 _ _ _ rfl kj kj (QaH _ _ _ _ _ _ (by decide) (QaP _ _ 0 rfl (by decide)))) ?_
  refine Qaa (.int .u8 (((s5.d.toNat / 1 % 256 : Nat) : Int))) 38 rfl kj (Qag (u := .int .u8 (IntKind.u8.wrap (wv ((s5.d) >>> 0)))) kj (congrArg (Value.int .u8) (QaD s5.d 0 1 (by decide)))) ?_
  refine sg 1 kj ?_
  refine Qai g6 _ (ints .u8 ([(((s5.a.toNat / 16777216 % 256 : Nat) : Int)), (((s5.a.toNat / 65536 % 256 : Nat) : Int)), (((s5.a.toNat / 256 % 256 : Nat) : Int)), (((s5.a.toNat / 1 % 256 : Nat) : Int)), (((s5.b.toNat / 16777216 % 256 : Nat) : Int)), (((s5.b.toNat / 65536 % 256 : Nat) : Int)), (((s5.b.toNat / 256 % 256 : Nat) : Int)), (((s5.b.toNat / 1 % 256 : Nat) : Int)), (((s5.c.toNat / 16777216 % 256 : Nat) : Int)), (((s5.c.toNat / 65536 % 256 : Nat) : Int)), (((s5.c.toNat / 256 % 256 : Nat) : Int)), (((s5.c.toNat / 1 % 256 : Nat) : Int)), (((s5.d.toNat / 16777216 % 256 : Nat) : Int)), (((s5.d.toNat / 65536 % 256 : Nat) : Int)), (((s5.d.toNat / 256 % 256 : Nat) : Int)), (((s5.d.toNat / 1 % 256 : Nat) : Int)), 0, 0, 0, 0, 0, 0, 0, 0, 0, 0, 0, 0, 0, 0, 0, 0])) 23 r6_21 rfl kj (Qam 5 _ _ g6 15 23 _ _ r6_21 rfl kj kj kj (show 15 < 32 by decide)) fun W22 p22 r6_22 => ?_
  refine Qaj ?_
  refine hK103 _ _ ?_
  refine sgA kj ?_
  show Code.rounds _ _ _ 1 _ _
  show Code.wp _ _ (Exit.then (Code.rounds _ _ _ 0) _) _ _
  refine sgB kj ?_
  refine wp_seq_k fun K106 hK106 => ?_
  refine cond_false kj ?_
  refine wp_exit ?_
  refine hK86 _ _ ?_
  refine sgA kj ?_
  show Code.rounds _ _ _ 5 _ _
  show Code.wp _ _ (Exit.then (Code.rounds _ _ _ 4) _) _ _
  refine sgB kj ?_
  refine sgT kj ?_
  refine wp_seq_k fun K109 hK109 => ?_
  refine wp_block ?_
  refine sgC fun K110 hK110 => ?_
  refine sg 1 kj ?_
  refine Qaa (.int .u32 (wv s5.e)) 25 rfl kj (Qa6 114 _ _ .i64 .u32 ([wv s5.a, wv s5.b, wv s5.c, wv s5.d, wv s5.e, wv s5.f, wv s5.g, wv s5.h]) 4 8 113 (wv s5.e) rfl kj kj kj kj kj rfl (by decide) rfl) ?_
  refine sg 2 kj ?_
  refine sgN hK110 ?_
  refine sgB kj ?_
  refine wp_block ?_
  refine wp_loop_rounds 5 ?_
  show Code.wp _ _ (Exit.then (Code.rounds _ _ _ 4) _) _ _
  refine sgB kj ?_
  refine sgT kj ?_
  refine wp_seq_k fun K114 hK114 => ?_
  refine wp_block ?_
  refine sgB kj ?_
  refine Qad ?_
  refine sg 8 kj ?_
  refine Qaa (.int .u32 (wv ((s5.e) >>> 24))) 37 rfl kj (Qay .shr _ _ _ _ .u32 .i64 _ _ _ rfl kj kj (QaH _ _ _ _ _ _ (by decide) (QaP _ _ 24 rfl (by decide)))) ?_
  refine Qaa (.int .u8 (((s5.e.toNat / 16777216 % 256 : Nat) : Int))) 38 rfl kj (Qag (u := .int .u8 (IntKind.u8.wrap (wv ((s5.e) >>> 24)))) kj (congrArg (Value.int .u8) (QaD s5.e 24 16777216 (by decide)))) ?_
  refine sg 1 kj ?_
  refine Qai g6 _ (ints .u8 ([(((s5.a.toNat / 16777216 % 256 : Nat) : Int)), (((s5.a.toNat / 65536 % 256 : Nat) : Int)), (((s5.a.toNat / 256 % 256 : Nat) : Int)), (((s5.a.toNat / 1 % 256 : Nat) : Int)), (((s5.b.toNat / 16777216 % 256 : Nat) : Int)), (((s5.b.toNat / 65536 % 256 : Nat) : Int)), (((s5.b.toNat / 256 % 256 : Nat) : Int)), (((s5.b.toNat / 1 % 256 : Nat) : Int)), (((s5.c.toNat / 16777216 % 256 : Nat) : Int)), (((s5.c.toNat / 65536 % 256 : Nat) : Int)), (((s5.c.toNat / 256 % 256 : Nat) : Int)), (((s5.c.toNat / 1 % 256 : Nat) : Int)), (((s5.d.toNat / 16777216 % 256 : Nat) : Int)), (((s5.d.toNat / 65536 % 256 : Nat) : Int)), (((s5.d.toNat / 256 % 256 : Nat) : Int)), (((s5.d.toNat / 1 % 256 : Nat) : Int)), (((s5.e.toNat / 16777216 % 256 : Nat) : Int)), 0, 0, 0, 0, 0, 0, 0, 0, 0, 0, 0, 0, 0, 0, 0])) 23 r6_22 rfl kj (Qam 5 _ _ g6 16 23 _ _ r6_22 rfl kj kj kj (show 16 < 32 by decide)) fun W23 p23 r6_23 => ?_
  refine Qaj ?_
  refine hK114 _ _ ?_
  refine sgA kj ?_
  show Code.rounds _ _ _ 4 _ _
  show Code.wp _ _ (Exit.then (Code.rounds _ _ _ 3) _) _ _
  refine sgB kj ?_
  refine sgT kj ?_
  refine wp_seq_k fun K118 hK118 => ?_
  refine wp_block ?_
  refine sgB kj ?_
  refine Qad ?_
  refine sg 8 kj ?_
  refine Qaa (.int .u32 (wv ((s5.e) >>> 16))) 37 rfl kj (Qay .shr _ _ _ _ .u32 .i64 _ _ _ rfl kj kj (QaH _ _ _ _ _ _ (by decide) (QaP _ _ 16 rfl (by decide)))) ?_
  refine Qaa (.int .u8 (((s5.e.toNat / 65536 % 256 : Nat) : Int))) 38 rfl kj (Qag (u := .int .u8 (IntKind.u8.wrap (wv ((s5.e) >>> 16)))) kj (congrArg (Value.int .u8) (QaD s5.e 16 65536 (by decide)))) ?_
  refine sg 1 kj ?_
  refine Qai g6 _ (ints .u8 ([(((s5.a.toNat / 16777216 % 256 : Nat) : Int)), (((s5.a.toNat / 65536 % 256 : Nat) : Int)), (((s5.a.toNat / 256 % 256 : Nat) : Int)), (((s5.a.toNat / 1 % 256 : Nat) : Int)), (((s5.b.toNat / 16777216 % 256 : Nat) : Int)), (((s5.b.toNat / 65536 % 256 : Nat) : Int)), (((s5.b.toNat / 256 % 256 : Nat) : Int)), (((s5.b.toNat / 1 % 256 : Nat) : Int)), (((s5.c.toNat / 16777216 % 256 : Nat) : Int)), (((s5.c.toNat / 65536 % 256 : Nat) : Int)), (((s5.c.toNat / 256 % 256 : Nat) : Int)), (((s5.c.toNat / 1 % 256 : Nat) : Int)), (((s5.d.toNat / 16777216 % 256 : Nat) : Int)), (((s5.d.toNat / 65536 % 256 : Nat) : Int)), (((s5.d.toNat / 256 % 256 : Nat) : Int)), (((s5.d.toNat / 1 % 256 : Nat) : Int)), (((s5.e.toNat / 16777216 % 256 : Nat) : Int)), (((s5.e.toNat / 65536 % 256 : Nat) : Int)), 0, 0, 0, 0, 0, 0, 0, 0, 0, 0, 0, 0, 0, 0])) 23 r6_23 rfl kj (Qam 5 _ _ g6 17 23 _ _ r6_23 rfl kj kj kj (show 17 < 32 by decide)) fun W24 p24 r6_24 => ?_
  refine Qaj ?_
  refine hK118 _ _ ?_
  refine sgA kj ?_
  show Code.rounds _ _ _ 3 _ _
  show Code.wp _ _ (Exit.then (Code.rounds _ _ _ 2) _) _ _
  refine sgB kj ?_
  refine sgT kj ?_
  refine wp_seq_k fun K122 hK122 => ?_
  refine wp_block ?_
  refine sgB kj ?_
  refine Qad ?_
  refine sg 8 kj ?_
  refine Qaa (.int .u32 (wv ((s5.e) >>> 8))) 37 rfl kj (Qay .shr _ _ _ _ .u32 .i64 _ _ _ rfl kj kj (QaH _ _ _ _ _ _ (by decide) (QaP _ _ 8 rfl (by decide)))) ?_
  refine Qaa (.int .u8 (((s5.e.toNat / 256 % 256 : Nat) : Int))) 38 rfl kj (Qag (u := .int .u8 (IntKind.u8.wrap (wv ((s5.e) >>> 8)))) kj (congrArg (Value.int .u8) (QaD s5.e 8 256 (by decide)))) ?_
  refine sg 1 kj ?_
  refine Qai g6 _ (ints .u8 ([(((s5.a.toNat / 16777216 % 256 : Nat) : Int)), (((s5.a.toNat / 65536 % 256 : Nat) : Int)), (((s5.a.toNat / 256 % 256 : Nat) : Int)), (((s5.a.toNat / 1 % 256 : Nat) : Int)), (((s5.b.toNat / 16777216 % 256 : Nat) : Int)), (((s5.b.toNat / 65536 % 256 : Nat) : Int)), (((s5.b.toNat / 256 % 256 : Nat) : Int)), (((s5.b.toNat / 1 % 256 : Nat) : Int)), (((s5.c.toNat / 16777216 % 256 : Nat) : Int)), (((s5.c.toNat / 65536 % 256 : Nat) : Int)), (((s5.c.toNat / 256 % 256 : Nat) : Int)), (((s5.c.toNat / 1 % 256 : Nat) : Int)), (((s5.d.toNat / 16777216 % 256 : Nat) : Int)), (((s5.d.toNat / 65536 % 256 : Nat) : Int)), (((s5.d.toNat / 256 % 256 : Nat) : Int)), (((s5.d.toNat / 1 % 256 : Nat) : Int)), (((s5.e.toNat / 16777216 % 256 : Nat) : Int)), (((s5.e.toNat / 65536 % 256 : Nat) : Int)), (((s5.e.toNat / 256 % 256 : Nat) : Int)), 0, 0, 0, 0, 0, 0, 0, 0, 0, 0, 0, 0, 0])) 23 r6_24 rfl kj (Qam 5 _ _ g6 18 23 _ _ r6_24 rfl kj kj kj (show 18 < 32 by decide)) fun W25 p25 r6_25 => ?_
  refine Qaj ?_
  refine hK122 _ _ ?_
  refine sgA kj ?_
  show Code.rounds _ _ _ 2 _ _
  show Code.wp _ _ (Exit.then (Code.rounds _ _ _ 1) _) _ _
  refine sgB kj ?_
  refine sgT kj ?_
  refine wp_seq_k fun K126 hK126 => ?_
  refine wp_block ?_
  refine sgB kj ?_
  refine Qad ?_
  refine sg 8 kj ?_
  refine Qaa (.int .u32 (wv ((s5.e) >>> 0))) 37 rfl kj (Qay .shr _ _ _ _ .u32 .i64 _ _ _ rfl kj kj (QaH _ _ _ _ _ _ (by decide) (QaP _ _ 0 rfl (by decide)))) ?_
  refine Qaa (.int .u8 (((s5.e.toNat / 1 % 256 : Nat) : Int))) 38 rfl kj (Qag (u := .int .u8 (IntKind.u8.wrap (wv ((s5.e) >>> 0)))) kj (congrArg (Value.int .u8) (QaD s5.e 0 1 (by decide)))) ?_
  refine sg 1 kj ?_
  refine Qai g6 _ (ints .u8 ([(((s5.a.toNat / 16777216 % 256 : Nat) : Int)), (((s5.a.toNat / 65536 % 256 : Nat) : Int)), (((s5.a.toNat / 256 % 256 : Nat) : Int)), (((s5.a.toNat / 1 % 256 : Nat) : Int)), (((s5.b.toNat / 16777216 % 256 : Nat) : Int)), (((s5.b.toNat / 65536 % 256 : Nat) : Int)), (((s5.b.toNat / 256 % 256 : Nat) : Int)), (((s5.b.toNat / 1 % 256 : Nat) : Int)), (((s5.c.toNat / 16777216 % 256 : Nat) : Int)), (((s5.c.toNat / 65536 % 256 : Nat) : Int)), (((s5.c.toNat / 256 % 256 : Nat) : Int)), (((s5.c.toNat / 1 % 256 : Nat) : Int)), (((s5.d.toNat / 16777216 % 256 : Nat) : Int)), (((s5.d.toNat / 65536 % 256 : Nat) : Int)), (((s5.d.toNat / 256 % 256 : Nat) : Int)), (((s5.d.toNat / 1 % 256 : Nat) : Int)), (((s5.e.toNat / 16777216 % 256 : Nat) : Int)), (((s5.e.toNat / 65536 % 256 : Nat) : Int)), (((s5.e.toNat / 256 % 256 : Nat) : Int)), (((s5.e.toNat / 1 % 256 : Nat) : Int)), 0, 0, 0, 0, 0, 0, 0, 0, 0, 0, 0, 0])) 23 r6_25 rfl kj (Qam 5 _ _ g6 19 23 _ _ r6_25 rfl kj kj kj (show 19 < 32 by decide)) fun W26 p26 r6_26 => ?_
  refine Qaj ?_
  refine hK126 _ _ ?_
  refine sgA kj ?_
  show Code.rounds _ _ _ 1 _ _
  show Code.wp _ _ (Exit.then (Code.rounds _ _ _ 0) _) _ _
  refine sgB kj ?_
  refine wp_seq_k fun K129 hK129 => ?_
  refine cond_false kj ?_
  refine wp_exit ?_
  refine hK109 _ _ ?_
  refine sgA kj ?_
  show Code.rounds _ _ _ 4 _ _
  show Code.wp _ _ (Exit.then (Code.rounds _ _ _ 3) _) _ _
  refine sgB kj ?_
  refine sgT kj ?_
  refine wp_seq_k fun K132 hK132 => ?_
  refine wp_block ?_
  refine sgC fun K133 hK133 => ?_
  refine sg 1 kj ?_
  refine Qaa (.int .u32 (wv s5.f)) 25 rfl kj (Qa6 114 _ _ .i64 .u32 ([wv s5.a, wv s5.b, wv s5.c, wv s5.d, wv s5.e, wv s5.f, wv s5.g, wv s5.h]) 5 8 113 (wv s5.f) rfl kj kj kj kj kj rfl (by decide) rfl) ?_
  refine sg 2 kj ?_
  refine sgN hK133 ?_
  refine sgB kj ?_
  refine wp_block ?_
  refine wp_loop_rounds 5 ?_
  show Code.wp _ _ (Exit.then (Code.rounds _ _ _ 4) _) _ _
  refine sgB kj ?_
  refine sgT kj ?_
  refine wp_seq_k fun K137 hK137 => ?_
  refine wp_block ?_
  refine sgB kj ?_
  refine Qad ?_
  refine sg 8 kj ?_
  refine Qaa (.int .u32 (wv ((s5.f) >>> 24))) 37 rfl kj (Qay .shr _ _ _ _ .u32 .i64 _ _ _ rfl kj kj (QaH _ _ _ _ _ _ (by decide) (QaP _ _ 24 rfl (by decide)))) ?_
  refine Qaa (.int .u8 (((s5.f.toNat / 16777216 % 256 : Nat) : Int))) 38 rfl kj (Qag (u := .int .u8 (IntKind.u8.wrap (wv ((s5.f) >>> 24)))) kj (congrArg (Value.int .u8) (QaD s5.f 24 16777216 (by decide)))) ?_
  refine sg 1 kj ?_
  refine Qai g6 _ (ints .u8 ([(((s5.a.toNat / 16777216 % 256 : Nat) : Int)), (((s5.a.toNat / 65536 % 256 : Nat) : Int)), (((s5.a.toNat / 256 % 256 : Nat) : Int)), (((s5.a.toNat / 1 % 256 : Nat) : Int)), (((s5.b.toNat / 16777216 % 256 : Nat) : Int)), (((s5.b.toNat / 65536 % 256 : Nat) : Int)), (((s5.b.toNat / 256 % 256 : Nat) : Int)), (((s5.b.toNat / 1 % 256 : Nat) : Int)), (((s5.c.toNat / 16777216 % 256 : Nat) : Int)), (((s5.c.toNat / 65536 % 256 : Nat) : Int)), (((s5.c.toNat / 256 % 256 : Nat) : Int)), (((s5.c.toNat / 1 % 256 : Nat) : Int)), (((s5.d.toNat / 16777216 % 256 : Nat) : Int)), (((s5.d.toNat / 65536 % 256 : Nat) : Int)), (((s5.d.toNat / 256 % 256 : Nat) : Int)), (((s5.d.toNat / 1 % 256 : Nat) : Int)), (((s5.e.toNat / 16777216 % 256 : Nat) : Int)), (((s5.e.toNat / 65536 % 256 : Nat) : Int)), (((s5.e.toNat / 256 % 256 : Nat) : Int)), (((s5.e.toNat / 1 % 256 : Nat) : Int)), (((s5.f.toNat / 16777216 % 256 : Nat) : Int)), 0, 0, 0, 0, 0, 0, 0, 0, 0, 0, 0])) 23 r6_26 rfl kj (Qam 5 _ _ g6 20 23 _ _ r6_26 rfl kj kj kj (show 20 < 32 by decide)) fun W27 p27 r6_27 => ?_
  refine Qaj ?_
  refine hK137 _ _ ?_
  refine sgA kj ?_
  show Code.rounds _ _ _ 4 _ _
  show Code.wp _ _ (Exit.then (Code.rounds _ _ _ 3) _) _ _
  refine sgB kj ?_
  refine sgT kj ?_
  refine wp_seq_k fun K141 hK141 => ?_
  refine wp_block ?_
  refine sgB kj ?_
  refine Qad ?_
  refine sg 8 kj ?_
  refine Qaa (.int .u32 (wv ((s5.f) >>> 16))) 37 rfl kj (Qay .shr _ _ _ _ .u32 .i64 _ _ _ rfl kj kj (QaH _ _ _ _ _ _ (by decide) (QaP _ _ 16 rfl (by decide)))) ?_
  refine Qaa (.int .u8 (((s5.f.toNat / 65536 % 256 : Nat) : Int))) 38 rfl kj (Qag (u := .int .u8 (IntKind.u8.wrap (wv ((s5.f) >>> 16)))) kj (congrArg (Value.int .u8) (QaD s5.f 16 65536 (by decide)))) ?_
  refine sg 1 kj ?_
  refine Qai g6 _ (ints .u8 ([(((s5.a.toNat / 16777216 % 256 : Nat) : Int)), (((s5.a.toNat / 65536 % 256 : Nat) : Int)), (((s5.a.toNat / 256 % 256 : Nat) : Int)), (((s5.a.toNat / 1 % 256 : Nat) : Int)), (((s5.b.toNat / 16777216 % 256 : Nat) : Int)), (((s5.b.toNat / 65536 % 256 : Nat) : Int)), (((s5.b.toNat / 256 % 256 : Nat) : Int)), (((s5.b.toNat / 1 % 256 : Nat) : Int)), (((s5.c.toNat / 16777216 % 256 : Nat) : Int)), (((s5.c.toNat / 65536 % 256 : Nat) : Int)), (((s5.c.toNat / 256 % 256 : Nat) : Int)), (((s5.c.toNat / 1 % 256 : Nat) : Int)), (((s5.d.toNat / 16777216 % 256 : Nat) : Int)), (((s5.d.toNat / 65536 % 256 : Nat) : Int)), (((s5.d.toNat / 256 % 256 : Nat) : Int)), (((s5.d.toNat / 1 % 256 : Nat) : Int)), (((s5.e.toNat / 16777216 % 256 : Nat) : Int)), (((s5.e.toNat / 65536 % 256 : Nat) : Int)), (((s5.e.toNat / 256 % 256 : Nat) : Int)), (((s5.e.toNat / 1 % 256 : Nat) : Int)), (((s5.f.toNat / 16777216 % 256 : Nat) : Int)), (((s5.f.toNat / 65536 % 256 : Nat) : Int)), 0, 0, 0, 0, 0, 0, 0, 0, 0, 0])) 23 r6_27 rfl kj (Qam 5 _ _ g6 21 23 _ _ r6_27 rfl kj kj kj (show 21 < 32 by decide)) fun W28 p28 r6_28 => ?_
  refine Qaj ?_
  refine hK141 _ _ ?_
  refine sgA kj ?_
  show Code.rounds _ _ _ 3 _ _
  show Code.wp _ _ (Exit.then (Code.rounds _ _ _ 2) _) _ _
  refine sgB kj ?_
  refine sgT kj ?_
  refine wp_seq_k fun K145 hK145 => ?_
  refine wp_block ?_
  refine sgB kj ?_
  refine Qad ?_
  refine sg 8 kj ?_
  refine Qaa (.int .u32 (wv ((s5.f) >>> 8))) 37 rfl kj (Qay .shr _ _ _ _ .u32 .i64 _ _ _ rfl kj kj (QaH _ _ _ _ _ _ (by decide) (QaP _ _ 8 rfl (by decide)))) ?_
  refine Qaa (.int .u8 (((s5.f.toNat / 256 % 256 : Nat) : Int))) 38 rfl kj (Qag (u := .int .u8 (IntKind.u8.wrap (wv ((s5.f) >>> 8)))) kj (congrArg (Value.int .u8) (QaD s5.f 8 256 (by decide)))) ?_
  refine sg 1 kj ?_
  refine Qai g6 _ (ints .u8 ([(((s5.a.toNat / 16777216 % 256 : Nat) : Int)), (((s5.a.toNat / 65536 % 256 : Nat) : Int)), (((s5.a.toNat / 256 % 256 : Nat) : Int)), (((s5.a.toNat / 1 % 256 : Nat) : Int)), (((s5.b.toNat / 16777216 % 256 : Nat) : Int)), (((s5.b.toNat / 65536 % 256 : Nat) : Int)), (((s5.b.toNat / 256 % 256 : Nat) : Int)), (((s5.b.toNat / 1 % 256 : Nat) : Int)), (((s5.c.toNat / 16777216 % 256 : Nat) : Int)), (((s5.c.toNat / 65536 % 256 : Nat) : Int)), (((s5.c.toNat / 256 % 256 : Nat) : Int)), (((s5.c.toNat / 1 % 256 : Nat) : Int)), (((s5.d.toNat / 16777216 % 256 : Nat) : Int)), (((s5.d.toNat / 65536 % 256 : Nat) : Int)), (((s5.d.toNat / 256 % 256 : Nat) : Int)), (((s5.d.toNat / 1 % 256 : Nat) : Int)), (((s5.e.toNat / 16777216 % 256 : Nat) : Int)), (((s5.e.toNat / 65536 % 256 : Nat) : Int)), (((s5.e.toNat / 256 % 256 : Nat) : Int)), (((s5.e.toNat / 1 % 256 : Nat) : Int)), (((s5.f.toNat / 16777216 % 256 : Nat) : Int)), (((s5.f.toNat / 65536 % 256 : Nat) : Int)), (((s5.f.toNat / 256 % 256 : Nat) : Int)), 0, 0, 0, 0, 0, 0, 0, 0, 0])) 23 r6_28 rfl kj (Qam 5 _ _ g6 22 23 _ _ r6_28 rfl kj kj kj (show 22 < 32 by decide)) fun W29 p29 r6_29 => ?_
  refine Qaj ?_
  refine hK145 _ _ ?_
  refine sgA kj ?_
  show Code.rounds _ _ _ 2 _ _
  show Code.wp _ _ (Exit.then (Code.rounds _ _ _ 1) _) _ _
  refine sgB kj ?_
  refine sgT kj ?_
  refine wp_seq_k fun K149 hK149 => ?_
  refine wp_block ?_
  refine sgB kj ?_
  refine Qad ?_
  refine sg 8 kj ?_
  refine Qaa (.int .u32 (wv ((s5.f) >>> 0))) 37 rfl kj (Qay .shr _ _ _ _ .u32 .i64 _ _ _ rfl kj kj (QaH _ _ _ _ _ _ (by decide) (QaP _ _ 0 rfl (by decide)))) ?_
  refine Qaa (.int .u8 (((s5.f.toNat / 1 % 256 : Nat) : Int))) 38 rfl kj (Qag (u := .int .u8 (IntKind.u8.wrap (wv ((s5.f) >>> 0)))) kj (congrArg (Value.int .u8) (QaD s5.f 0 1 (by decide)))) ?_
  refine sg 1 kj ?_
  refine Qai g6 _ (ints .u8 ([(((s5.a.toNat / 16777216 % 256 : Nat) : Int)), (((s5.a.toNat / 65536 % 256 : Nat) : Int)), (((s5.a.toNat / 256 % 256 : Nat) : Int)), (((s5.a.toNat / 1 % 256 : Nat) : Int)), (((s5.b.toNat / 16777216 % 256 : Nat) : Int)), (((s5.b.toNat / 65536 % 256 : Nat) : Int)), (((s5.b.toNat / 256 % 256 : Nat) : Int)), (((s5.b.toNat / 1 % 256 : Nat) : Int)), (((s5.c.toNat / 16777216 % 256 : Nat) : Int)), (((s5.c.toNat / 65536 % 256 : Nat) : Int)), (((s5.c.toNat / 256 % 256 : Nat) : Int)), (((s5.c.toNat / 1 % 256 : Nat) : Int)), (((s5.d.toNat / 16777216 % 256 : Nat) : Int)), (((s5.d.toNat / 65536 % 256 : Nat) : Int)), (((s5.d.toNat / 256 % 256 : Nat) : Int)), (((s5.d.toNat / 1 % 256 : Nat) : Int)), (((s5.e.toNat / 16777216 % 256 : Nat) : Int)), (((s5.e.toNat / 65536 % 256 : Nat) : Int)), (((s5.e.toNat / 256 % 256 : Nat) : Int)), (((s5.e.toNat / 1 % 256 : Nat) : Int)), (((s5.f.toNat / 16777216 % 256 : Nat) : Int)), (((s5.f.toNat / 65536 % 256 : Nat) : Int)), (((s5.f.toNat / 256 % 256 : Nat) : Int)), (((s5.f.toNat / 1 % 256 : Nat) : Int)), 0, 0, 0, 0, 0, 0, 0, 0])) 23 r6_29 rfl kj (Qam 5 _ _ g6 23 23 _ _ r6_29 rfl kj kj kj (show 23 < 32 by decide)) fun W30 p30 r6_30 => ?_
  refine Qaj ?_
  refine hK149 _ _ ?_
  refine sgA kj ?_
  show Code.rounds _ _ _ 1 _ _
  show Code.wp _ _ (Exit.then (Code.rounds _ _ _ 0) _) _ _
  refine sgB kj ?_
  refine wp_seq_k fun K152 hK152 => ?_
  refine cond_false kj ?_
  refine wp_exit ?_
  refine hK132 _ _ ?_
  refine sgA kj ?_
  show Code.rounds _ _ _ 3 _ _
  show Code.wp _ _ (Exit.then (Code.rounds _ _ _ 2) _) _ _
  refine sgB kj ?_
  refine sgT kj ?_
  refine wp_seq_k fun K155 hK155 => ?_
  refine wp_block ?_
  refine sgC fun K156 hK156 => ?_
  refine sg 1 kj ?_
  refine Qaa (.int .u32 (wv s5.g)) 25 rfl kj (Qa6 114 _ _ .i64 .u32 ([wv s5.a, wv s5.b, wv s5.c, wv s5.d, wv s5.e, wv s5.f, wv s5.g, wv s5.h]) 6 8 113 (wv s5.g) rfl kj kj kj kj kj rfl (by decide) rfl) ?_
  refine sg 2 kj ?_
  refine sgN hK156 ?_
  refine sgB kj ?_
  refine wp_block ?_
  refine wp_loop_rounds 5 ?_
  show Code.wp _ _ (Exit.then (Code.rounds _ _ _ 4) _) _ _
  refine sgB kj ?_
  refine sgT kj ?_
  refine wp_seq_k fun K160 hK160 => ?_
  refine wp_block ?_
  refine sgB kj ?_
  refine Qad ?_
  refine sg 8 kj ?_
  refine Qaa (.int .u32 (wv ((s5.g) >>> 24))) 37 rfl kj (Qay .shr _ _ _ _ .u32 .i64 _ _ _ rfl kj kj (QaH _ _ _ _ _ _ (by decide) (QaP _ _ 24 rfl (by decide)))) ?_
  refine Qaa (.int .u8 (((s5.g.toNat / 16777216 % 256 : Nat) : Int))) 38 rfl kj (Qag (u := .int .u8 (IntKind.u8.wrap (wv ((s5.g) >>> 24)))) kj (congrArg (Value.int .u8) (QaD s5.g 24 16777216 (by decide)))) ?_
  refine sg 1 kj ?_
  refine Qai g6 _ (ints .u8 ([(((s5.a.toNat / 16777216 % 256 : Nat) : Int)), (((s5.a.toNat / 65536 % 256 : Nat) : Int)), (((s5.a.toNat / 256 % 256 : Nat) : Int)), (((s5.a.toNat / 1 % 256 : Nat) : Int)), (((s5.b.toNat / 16777216 % 256 : Nat) : Int)), (((s5.b.toNat / 65536 % 256 : Nat) : Int)), (((s5.b.toNat / 256 % 256 : Nat) : Int)), (((s5.b.toNat / 1 % 256 : Nat) : Int)), (((s5.c.toNat / 16777216 % 256 : Nat) : Int)), (((s5.c.toNat / 65536 % 256 : Nat) : Int)), (((s5.c.toNat / 256 % 256 : Nat) : Int)), (((s5.c.toNat / 1 % 256 : Nat) : Int)), (((s5.d.toNat / 16777216 % 256 : Nat) : Int)), (((s5.d.toNat / 65536 % 256 : Nat) : Int)), (((s5.d.toNat / 256 % 256 : Nat) : Int)), (((s5.d.toNat / 1 % 256 : Nat) : Int)), (((s5.e.toNat / 16777216 % 256 : Nat) : Int)), (((s5.e.toNat / 65536 % 256 : Nat) : Int)), (((s5.e.toNat / 256 % 256 : Nat) : Int)), (((s5.e.toNat / 1 % 256 : Nat) : Int)), (((s5.f.toNat / 16777216 % 256 : Nat) : Int)), (((s5.f.toNat / 65536 % 256 : Nat) : Int)), (((s5.f.toNat / 256 % 256 : Nat) : Int)), (((s5.f.toNat / 1 % 256 : Nat) : Int)), (((s5.g.toNat / 16777216 % 256 : Nat) : Int)), 0, 0, 0, 0, 0, 0, 0])) 23 r6_30 rfl kj (Qam 5 _ _ g6 24 23 _ _ r6_30 rfl kj kj kj (show 24 < 32 by decide)) fun W31 p31 r6_31 => ?_
  refine Qaj ?_
  refine hK160 _ _ ?_
  refine sgA kj ?_
  show Code.rounds _ _ _ 4 _ _
  show Code.wp _ _ (Exit.then (Code.rounds _ _ _ 3) _) _ _
  refine sgB kj ?_
  refine sgT kj ?_
  refine wp_seq_k fun K164 hK164 => ?_
  refine wp_block ?_
  refine sgB kj ?_
  refine Qad ?_
  refine sg 8 kj ?_
  refine Qaa (.int .u32 (wv ((s5.g) >>> 16))) 37 rfl kj (Qay .shr _ _ _ _ .u32 .i64 _ _ _ rfl kj kj (QaH _ _ _ _ _ _ (by decide) (QaP _ _ 16 rfl (by decide)))) ?_
  refine Qaa (.int .u8 (((s5.g.toNat / 65536 % 256 : Nat) : Int))) 38 rfl kj (Qag (u := .int .u8 (IntKind.u8.wrap (wv ((s5.g) >>> 16)))) kj (congrArg (Value.int .u8) (QaD s5.g 16 65536 (by decide)))) ?_
  refine sg 1 kj ?_
  refine Qai g6 _ (ints .u8 ([(((s5.a.toNat / 16777216 % 256 : Nat) : Int)), (((s5.a.toNat / 65536 % 256 : Nat) : Int)), (((s5.a.toNat / 256 % 256 : Nat) : Int)), (((s5.a.toNat / 1 % 256 : Nat) : Int)), (((s5.b.toNat / 16777216 % 256 : Nat) : Int)), (((s5.b.toNat / 65536 % 256 : Nat) : Int)), (((s5.b.toNat / 256 % 256 : Nat) : Int)), (((s5.b.toNat / 1 % 256 : Nat) : Int)), (((s5.c.toNat / 16777216 % 256 : Nat) : Int)), (((s5.c.toNat / 65536 % 256 : Nat) : Int)), (((s5.c.toNat / 256 % 256 : Nat) : Int)), (((s5.c.toNat / 1 % 256 : Nat) : Int)), (((s5.d.toNat / 16777216 % 256 : Nat) : Int)), (((s5.d.toNat / 65536 % 256 : Nat) : Int)), (((s5.d.toNat / 256 % 256 : Nat) : Int)), (((s5.d.toNat / 1 % 256 : Nat) : Int)), (((s5.e.toNat / 16777216 % 256 : Nat) : Int)), (((s5.e.toNat / 65536 % 256 : Nat) : Int)), (((s5.e.toNat / 256 % 256 : Nat) : Int)), (((s5.e.toNat / 1 % 256 : Nat) : Int)), (((s5.f.toNat / 16777216 % 256 : Nat) : Int)), (((s5.f.toNat / 65536 % 256 : Nat) : Int)), (((s5.f.toNat / 256 % 256 : Nat) : Int)), (((s5.f.toNat / 1 % 256 : Nat) : Int)), (((s5.g.toNat / 16777216 % 256 : Nat) : Int)), (((s5.g.toNat / 65536 % 256 : Nat) : Int)), 0, 0, 0, 0, 0, 0])) 23 r6_31 rfl kj (Qam 5 _ _ g6 25 23 _ _ r6_31 rfl kj kj kj (show 25 < 32 by decide)) fun W32 p32 r6_32 => ?_
  refine Qaj ?_
  refine hK164 _ _ ?_
  refine sgA kj ?_
  show Code.rounds _ _ _ 3 _ _
  show Code.wp _ _ (Exit.then (Code.rounds _ _ _ 2) _) _ _
  refine sgB kj ?_
  refine sgT kj ?_
  refine wp_seq_k fun K168 hK168 => ?_
  refine wp_block ?_
  refine sgB kj ?_
  refine Qad ?_
  refine sg 8 kj ?_
  refine Qaa (.int .u32 (wv ((s5.g) >>> 8))) 37 rfl kj (Qay .shr _ _ _ _ .u32 .i64 _ _ _ rfl kj kj (QaH _ _ _ _ _ _ (by decide) (QaP _ _ 8 rfl (by decide)))) ?_
  refine Qaa (.int .u8 (((s5.g.toNat / 256 % 256 : Nat) : Int))) 38 rfl kj (Qag (u := .int .u8 (IntKind.u8.wrap (wv ((s5.g) >>> 8)))) kj (congrArg (Value.int .u8) (QaD s5.g 8 256 (by decide)))) ?_
  refine sg 1 kj ?_
  refine Qai g6 _ (ints .u8 ([(((s5.a.toNat / 16777216 % 256 : Nat) : Int)), (((s5.a.toNat / 65536 % 256 : Nat) : Int)), (((s5.a.toNat / 256 % 256 : Nat) : Int)), (((s5.a.toNat / 1 % 256 : Nat) : Int)), (((s5.b.toNat / 16777216 % 256 : Nat) : Int)), (((s5.b.toNat / 65536 % 256 : Nat) : Int)), (((s5.b.toNat / 256 % 256 : Nat) : Int)), (((s5.b.toNat / 1 % 256 : Nat) : Int)), (((s5.c.toNat / 16777216 % 256 : Nat) : Int)), (((s5.c.toNat / 65536 % 256 : Nat) : Int)), (((s5.c.toNat / 256 % 256 : Nat) : Int)), (((s5.c.toNat / 1 % 256 : Nat) : Int)), (((s5.d.toNat / 16777216 % 256 : Nat) : Int)), (((s5.d.toNat / 65536 % 256 : Nat) : Int)), (((s5.d.toNat / 256 % 256 : Nat) : Int)), (((s5.d.toNat / 1 % 256 : Nat) : Int)), (((s5.e.toNat / 16777216 % 256 : Nat) : Int)), (((s5.e.toNat / 65536 % 256 : Nat) : Int)), (((s5.e.toNat / 256 % 256 : Nat) : Int)), (((s5.e.toNat / 1 % 256 : Nat) : Int)), (((s5.f.toNat / 16777216 % 256 : Nat) : Int)), (((s5.f.toNat / 65536 % 256 : Nat) : Int)), (((s5.f.toNat / 256 % 256 : Nat) : Int)), (((s5.f.toNat / 1 % 256 : Nat) : Int)), (((s5.g.toNat / 16777216 % 256 : Nat) : Int)), (((s5.g.toNat / 65536 % 256 : Nat) : Int)), (((s5.g.toNat / 256 % 256 : Nat) : Int)), 0, 0, 0, 0, 0])) 23 r6_32 rfl kj (Qam 5 _ _ g6 26 23 _ _ r6_32 rfl kj kj kj (show 26 < 32 by decide)) fun W33 p33 r6_33 => ?_
  refine Qaj ?_
  refine hK168 _ _ ?_
  refine sgA kj ?_
  show Code.rounds _ _ _ 2 _ _
  show Code.wp _ _ (Exit.then (Code.rounds _ _ _ 1) _) _ _
  refine sgB kj ?_
  refine sgT kj ?_
  refine wp_seq_k fun K172 hK172 => ?_
  refine wp_block ?_
  refine sgB kj ?_
  refine Qad ?_
  refine sg 8 kj ?_
  refine Qaa (.int .u32 (wv ((s5.g) >>> 0))) 37 rfl kj (Qay .shr _ _ _ _ .u32 .i64 _ _ _ rfl kj kj (QaH _ _ _ _ _ _ (by decide) (QaP _ _ 0 rfl (by decide)))) ?_
  refine Qaa (.int .u8 (((s5.g.toNat / 1 % 256 : Nat) : Int))) 38 rfl kj (Qag (u := .int .u8 (IntKind.u8.wrap (wv ((s5.g) >>> 0)))) kj (congrArg (Value.int .u8) (QaD s5.g 0 1 (by decide)))) ?_
  refine sg 1 kj ?_
  refine Qai g6 _ (ints .u8 ([(((s5.a.toNat / 16777216 % 256 : Nat) : Int)), (((s5.a.toNat / 65536 % 256 : Nat) : Int)), (((s5.a.toNat / 256 % 256 : Nat) : Int)), (((s5.a.toNat / 1 % 256 : Nat) : Int)), (((s5.b.toNat / 16777216 % 256 : Nat) : Int)), (((s5.b.toNat / 65536 % 256 : Nat) : Int)), (((s5.b.toNat / 256 % 256 : Nat) : Int)), (((s5.b.toNat / 1 % 256 : Nat) : Int)), (((s5.c.toNat / 16777216 % 256 : Nat) : Int)), (((s5.c.toNat / 65536 % 256 : Nat) : Int)), (((s5.c.toNat / 256 % 256 : Nat) : Int)), (((s5.c.toNat / 1 % 256 : Nat) : Int)), (((s5.d.toNat / 16777216 % 256 : Nat) : Int)), (((s5.d.toNat / 65536 % 256 : Nat) : Int)), (((s5.d.toNat / 256 % 256 : Nat) : Int)), (((s5.d.toNat / 1 % 256 : Nat) : Int)), (((s5.e.toNat / 16777216 % 256 : Nat) : Int)), (((s5.e.toNat / 65536 % 256 : Nat) : Int)), (((s5.e.toNat / 256 % 256 : Nat) : Int)), (((s5.e.toNat / 1 % 256 : Nat) : Int)), (((s5.f.toNat / 16777216 % 256 : Nat) : Int)), (((s5.f.toNat / 65536 % 256 : Nat) : Int)), (((s5.f.toNat / 256 % 256 : Nat) : Int)), (((s5.f.toNat / 1 % 256 : Nat) : Int)), (((s5.g.toNat / 16777216 % 256 : Nat) : Int)), (((s5.g.toNat / 65536 % 256 : Nat) : Int)), (((s5.g.toNat / 256 % 256 : Nat) : Int)), (((s5.g.toNat / 1 % 256 : Nat) : Int)), 0, 0, 0, 0])) 23 r6_33 rfl kj (Qam 5 _ _ g6 27 23 _ _ r6_33 rfl kj kj kj (show 27 < 32 by decide)) fun W34 p34 r6_34 => ?_
  refine Qaj ?_
  refine hK172 _ _ ?_
  refine sgA kj ?_
  show Code.rounds _ _ _ 1 _ _
  show Code.wp _ _ (Exit.then (Code.rounds _ _ _ 0) _) _ _
  refine sgB kj ?_
  refine wp_seq_k fun K175 hK175 => ?_
  refine cond_false kj ?_
  refine wp_exit ?_
  refine hK155 _ _ ?_
  refine sgA kj ?_
  show Code.rounds _ _ _ 2 _ _
  show Code.wp _ _ (Exit.then (Code.rounds _ _ _ 1) _) _ _
  refine sgB kj ?_
  refine sgT kj ?_
  refine wp_seq_k fun K178 hK178 => ?_
  refine wp_block ?_
  refine sgC fun K179 hK179 => ?_
  refine sg 1 kj ?_
  refine Qaa (.int .u32 (wv s5.h)) 25 rfl kj (Qa6 114 _ _ .i64 .u32 ([wv s5.a, wv s5.b, wv s5.c, wv s5.d, wv s5.e, wv s5.f, wv s5.g, wv s5.h]) 7 8 113 (wv s5.h) rfl kj kj kj kj kj rfl (by decide) rfl) ?_
  refine sg 2 kj ?_
  refine sgN hK179 ?_
  refine sgB kj ?_
  refine wp_block ?_
  refine wp_loop_rounds 5 ?_
  show Code.wp _ _ (Exit.then (Code.rounds _ _ _ 4) _) _ _
  refine sgB kj ?_
  refine sgT kj ?_
  refine wp_seq_k fun K183 hK183 => ?_
  refine wp_block ?_
  refine sgB kj ?_
  refine Qad ?_
  refine sg 8 kj ?_
  refine Qaa (.int .u32 (wv ((s5.h) >>> 24))) 37 rfl kj (Qay .shr _ _ _ _ .u32 .i64 _ _ _ rfl kj kj (QaH _ _ _ _ _ _ (by decide) (QaP _ _ 24 rfl (by decide)))) ?_
  refine Qaa (.int .u8 (((s5.h.toNat / 16777216 % 256 : Nat) : Int))) 38 rfl kj (Qag (u := .int .u8 (IntKind.u8.wrap (wv ((s5.h) >>> 24)))) kj (congrArg (Value.int .u8) (QaD s5.h 24 16777216 (by decide)))) ?_
  refine sg 1 kj ?_
  refine Qai g6 _ (ints .u8 ([(((s5.a.toNat / 16777216 % 256 : Nat) : Int)), (((s5.a.toNat / 65536 % 256 : Nat) : Int)), (((s5.a.toNat / 256 % 256 : Nat) : Int)), (((s5.a.toNat / 1 % 256 : Nat) : Int)), (((s5.b.toNat / 16777216 % 256 : Nat) : Int)), (((s5.b.toNat / 65536 % 256 : Nat) : Int)), (((s5.b.toNat / 256 % 256 : Nat) : Int)), (((s5.b.toNat / 1 % 256 : Nat) : Int)), (((s5.c.toNat / 16777216 % 256 : Nat) : Int)), (((s5.c.toNat / 65536 % 256 : Nat) : Int)), (((s5.c.toNat / 256 % 256 : Nat) : Int)), (((s5.c.toNat / 1 % 256 : Nat) : Int)), (((s5.d.toNat / 16777216 % 256 : Nat) : Int)), (((s5.d.toNat / 65536 % 256 : Nat) : Int)), (((s5.d.toNat / 256 % 256 : Nat) : Int)), (((s5.d.toNat / 1 % 256 : Nat) : Int)), (((s5.e.toNat / 16777216 % 256 : Nat) : Int)), (((s5.e.toNat / 65536 % 256 : Nat) : Int)), (((s5.e.toNat / 256 % 256 : Nat) : Int)), (((s5.e.toNat / 1 % 256 : Nat) : Int)), (((s5.f.toNat / 16777216 % 256 : Nat) : Int)), (((s5.f.toNat / 65536 % 256 : Nat) : Int)), (((s5.f.toNat / 256 % 256 : Nat) : Int)), (((s5.f.toNat / 1 % 256 : Nat) : Int)), (((s5.g.toNat / 16777216 % 256 : Nat) : Int)), (((s5.g.toNat / 65536 % 256 : Nat) : Int)), (((s5.g.toNat / 256 % 256 : Nat) : Int)), (((s5.g.toNat / 1 % 256 : Nat) : Int)), (((s5.h.toNat / 16777216 % 256 : Nat) : Int)), 0, 0, 0])) 23 r6_34 rfl kj (Qam 5 _ _ g6 28 23 _ _ r6_34 rfl kj kj kj (show 28 < 32 by decide)) fun W35 p35 r6_35 => ?_
  refine Qaj ?_
  refine hK183 _ _ ?_
  refine sgA kj ?_
  show Code.rounds _ _ _ 4 _ _
  show Code.wp _ _ (Exit.then (Code.rounds _ _ _ 3) _) _ _
  refine sgB kj ?_
  refine sgT kj ?_
  refine wp_seq_k fun K187 hK187 => ?_
  refine wp_block ?_
  refine sgB kj ?_
  refine Qad ?_
  refine sg 8 kj ?_
  refine Qaa (.int .u32 (wv ((s5.h) >>> 16))) 37 rfl kj (Qay .shr _ _ _ _ .u32 .i64 _ _ _ rfl kj kj (QaH _ _ _ _ _ _ (by decide) (QaP _ _ 16 rfl (by decide)))) ?_
  refine Qaa (.int .u8 (((s5.h.toNat / 65536 % 256 : Nat) : Int))) 38 rfl kj (Qag (u := .int .u8 (IntKind.u8.wrap (wv ((s5.h) >>> 16)))) kj (congrArg (Value.int .u8) (QaD s5.h 16 65536 (by decide)))) ?_
  refine sg 1 kj ?_
  refine Qai g6 _ (ints .u8 ([(((s5.a.toNat / 16777216 % 256 : Nat) : Int)), (((s5.a.toNat / 65536 % 256 : Nat) : Int)), (((s5.a.toNat / 256 % 256 : Nat) : Int)), (((s5.a.toNat / 1 % 256 : Nat) : Int)), (((s5.b.toNat / 16777216 % 256 : Nat) : Int)), (((s5.b.toNat / 65536 % 256 : Nat) : Int)), (((s5.b.toNat / 256 % 256 : Nat) : Int)), (((s5.b.toNat / 1 % 256 : Nat) : Int)), (((s5.c.toNat / 16777216 % 256 : Nat) : Int)), (((s5.c.toNat / 65536 % 256 : Nat) : Int)), (((s5.c.toNat / 256 % 256 : Nat) : Int)), (((s5.c.toNat / 1 % 256 : Nat) : Int)), (((s5.d.toNat / 16777216 % 256 : Nat) : Int)), (((s5.d.toNat / 65536 % 256 : Nat) : Int)), (((s5.d.toNat / 256 % 256 : Nat) : Int)), (((s5.d.toNat / 1 % 256 : Nat) : Int)), (((s5.e.toNat / 16777216 % 256 : Nat) : Int)), (((s5.e.toNat / 65536 % 256 : Nat) : Int)), (((s5.e.toNat / 256 % 256 : Nat) : Int)), (((s5.e.toNat / 1 % 256 : Nat) : Int)), (((s5.f.toNat / 16777216 % 256 : Nat) : Int)), (((s5.f.toNat / 65536 % 256 : Nat) : Int)), (((s5.f.toNat / 256 % 256 : Nat) : Int)), (((s5.f.toNat / 1 % 256 : Nat) : Int)), (((s5.g.toNat / 16777216 % 256 : Nat) : Int)), (((s5.g.toNat / 65536 % 256 : Nat) : Int)), (((s5.g.toNat / 256 % 256 : Nat) : Int)), (((s5.g.toNat / 1 % 256 : Nat) : Int)), (((s5.h.toNat / 16777216 % 256 : Nat) : Int)), (((s5.h.toNat / 65536 % 256 : Nat) : Int)), 0, 0])) 23 r6_35 rfl kj (Qam 5 _ _ g6 29 23 _ _ r6_35 rfl kj kj kj (show 29 < 32 by decide)) fun W36 p36 r6_36 => ?_
  refine Qaj ?_
  refine hK187 _ _ ?_
  refine sgA kj ?_
  show Code.rounds _ _ _ 3 _ _
  show Code.wp _ _ (Exit.then (Code.rounds _ _ _ 2) _) _ _
  refine sgB kj ?_
  refine sgT kj ?_
  refine wp_seq_k fun K191 hK191 => ?_
  refine wp_block ?_
  refine sgB kj ?_
  refine Qad ?_
  refine sg 8 kj ?_
  refine Qaa (.int .u32 (wv ((s5.h) >>> 8))) 37 rfl kj (Qay .shr _ _ _ _ .u32 .i64 _ _ _ rfl kj kj (QaH _ _ _ _ _ _ (by decide) (QaP _ _ 8 rfl (by decide)))) ?_
  refine Qaa (.int .u8 (((s5.h.toNat / 256 % 256 : Nat) : Int))) 38 rfl kj (Qag (u := .int .u8 (IntKind.u8.wrap (wv ((s5.h) >>> 8)))) kj (congrArg (Value.int .u8) (QaD s5.h 8 256 (by decide)))) ?_
  refine sg 1 kj ?_
  refine Qai g6 _ (ints .u8 ([(((s5.a.toNat / 16777216 % 256 : Nat) : Int)), (((s5.a.toNat / 65536 % 256 : Nat) : Int)), (((s5.a.toNat / 256 % 256 : Nat) : Int)), (((s5.a.toNat / 1 % 256 : Nat) : Int)), (((s5.b.toNat / 16777216 % 256 : Nat) : Int)), (((s5.b.toNat / 65536 % 256 : Nat) : Int)), (((s5.b.toNat / 256 % 256 : Nat) : Int)), (((s5.b.toNat / 1 % 256 : Nat) : Int)), (((s5.c.toNat / 16777216 % 256 : Nat) : Int)), (((s5.c.toNat / 65536 % 256 : Nat) : Int)), (((s5.c.toNat / 256 % 256 : Nat) : Int)), (((s5.c.toNat / 1 % 256 : Nat) : Int)), (((s5.d.toNat / 16777216 % 256 : Nat) : Int)), (((s5.d.toNat / 65536 % 256 : Nat) : Int)), (((s5.d.toNat / 256 % 256 : Nat) : Int)), (((s5.d.toNat / 1 % 256 : Nat) : Int)), (((s5.e.toNat / 16777216 % 256 : Nat) : Int)), (((s5.e.toNat / 65536 % 256 : Nat) : Int)), (((s5.e.toNat / 256 % 256 : Nat) : Int)), (((s5.e.toNat / 1 % 256 : Nat) : Int)), (((s5.f.toNat / 16777216 % 256 : Nat) : Int)), (((s5.f.toNat / 65536 % 256 : Nat) : Int)), (((s5.f.toNat / 256 % 256 : Nat) : Int)), (((s5.f.toNat / 1 % 256 : Nat) : Int)), (((s5.g.toNat / 16777216 % 256 : Nat) : Int)), (((s5.g.toNat / 65536 % 256 : Nat) : Int)), (((s5.g.toNat / 256 % 256 : Nat) : Int)), (((s5.g.toNat / 1 % 256 : Nat) : Int)), (((s5.h.toNat / 16777216 % 256 : Nat) : Int)), (((s5.h.toNat / 65536 % 256 : Nat) : Int)), (((s5.h.toNat / 256 % 256 : Nat) : Int)), 0])) 23 r6_36 rfl kj (Qam 5 _ _ g6 30 23 _ _ r6_36 rfl kj kj kj (show 30 < 32 by decide)) fun W37 p37 r6_37 => ?_
  refine Qaj ?_
  refine hK191 _ _ ?_
  refine sgA kj ?_
  show Code.rounds _ _ _ 2 _ _
  show Code.wp _ _ (Exit.then (Code.rounds _ _ _ 1) _) _ _
  refine sgB kj ?_
  refine sgT kj ?_
  refine wp_seq_k fun K195 hK195 => ?_
  refine wp_block ?_
  refine sgB kj ?_
  refine Qad ?_
  refine sg 8 kj ?_
  refine Qaa (.int .u32 (wv ((s5.h) >>> 0))) 37 rfl kj (Qay .shr _ _ _ _ .u32 .i64 _ _ _ rfl kj kj (QaH _ _ _ _ _ _ (by decide) (QaP _ _ 0 rfl (by decide)))) ?_
  refine Qaa (.int .u8 (((s5.h.toNat / 1 % 256 : Nat) : Int))) 38 rfl kj (Qag (u := .int .u8 (IntKind.u8.wrap (wv ((s5.h) >>> 0)))) kj (congrArg (Value.int .u8) (QaD s5.h 0 1 (by decide)))) ?_
  refine sg 1 kj ?_
  refine Qai g6 _ (ints .u8 ([(((s5.a.toNat / 16777216 % 256 : Nat) : Int)), (((s5.a.toNat / 65536 % 256 : Nat) : Int)), (((s5.a.toNat / 256 % 256 : Nat) : Int)), (((s5.a.toNat / 1 % 256 : Nat) : Int)), (((s5.b.toNat / 16777216 % 256 : Nat) : Int)), (((s5.b.toNat / 65536 % 256 : Nat) : Int)), (((s5.b.toNat / 256 % 256 : Nat) : Int)), (((s5.b.toNat / 1 % 256 : Nat) : Int)), (((s5.c.toNat / 16777216 % 256 : Nat) : Int)), (((s5.c.toNat / 65536 % 256 : Nat) : Int)), (((s5.c.toNat / 256 % 256 : Nat) : Int)), (((s5.c.toNat / 1 % 256 : Nat) : Int)), (((s5.d.toNat / 16777216 % 256 : Nat) : Int)), (((s5.d.toNat / 65536 % 256 : Nat) : Int)), (((s5.d.toNat / 256 % 256 : Nat) : Int)), (((s5.d.toNat / 1 % 256 : Nat) : Int)), (((s5.e.toNat / 16777216 % 256 : Nat) : Int)), (((s5.e.toNat / 65536 % 256 : Nat) : Int)), (((s5.e.toNat / 256 % 256 : Nat) : Int)), (((s5.e.toNat / 1 % 256 : Nat) : Int)), (((s5.f.toNat / 16777216 % 256 : Nat) : Int)), (((s5.f.toNat / 65536 % 256 : Nat) : Int)), (((s5.f.toNat / 256 % 256 : Nat) : Int)), (((s5.f.toNat / 1 % 256 : Nat) : Int)), (((s5.g.toNat / 16777216 % 256 : Nat) : Int)), (((s5.g.toNat / 65536 % 256 : Nat) : Int)), (((s5.g.toNat / 256 % 256 : Nat) : Int)), (((s5.g.toNat / 1 % 256 : Nat) : Int)), (((s5.h.toNat / 16777216 % 256 : Nat) : Int)), (((s5.h.toNat / 65536 % 256 : Nat) : Int)), (((s5.h.toNat / 256 % 256 : Nat) : Int)), (((s5.h.toNat / 1 % 256 : Nat) : Int))])) 23 r6_37 rfl kj (Qam 5 _ _ g6 31 23 _ _ r6_37 rfl kj kj kj (show 31 < 32 by decide)) fun W38 p38 r6_38 => ?_
  refine Qaj ?_
  refine hK195 _ _ ?_
  refine sgA kj ?_
  show Code.rounds _ _ _ 1 _ _
  show Code.wp _ _ (Exit.then (Code.rounds _ _ _ 0) _) _ _
  refine sgB kj ?_
  refine wp_seq_k fun K198 hK198 => ?_
  refine cond_false kj ?_
  refine wp_exit ?_
  refine hK178 _ _ ?_
  refine sgA kj ?_
  show Code.rounds _ _ _ 1 _ _
  show Code.wp _ _ (Exit.then (Code.rounds _ _ _ 0) _) _ _
  refine sgB kj ?_
  refine wp_seq_k fun K200 hK200 => ?_
  refine cond_false kj ?_
  refine wp_exit ?_
  refine hK13 _ _ ?_
  refine sgC fun K201 hK201 => ?_
  refine Qaa (.agg (ints .u8 ([(((s5.a.toNat / 16777216 % 256 : Nat) : Int)), (((s5.a.toNat / 65536 % 256 : Nat) : Int)), (((s5.a.toNat / 256 % 256 : Nat) : Int)), (((s5.a.toNat / 1 % 256 : Nat) : Int)), (((s5.b.toNat / 16777216 % 256 : Nat) : Int)), (((s5.b.toNat / 65536 % 256 : Nat) : Int)), (((s5.b.toNat / 256 % 256 : Nat) : Int)), (((s5.b.toNat / 1 % 256 : Nat) : Int)), (((s5.c.toNat / 16777216 % 256 : Nat) : Int)), (((s5.c.toNat / 65536 % 256 : Nat) : Int)), (((s5.c.toNat / 256 % 256 : Nat) : Int)), (((s5.c.toNat / 1 % 256 : Nat) : Int)), (((s5.d.toNat / 16777216 % 256 : Nat) : Int)), (((s5.d.toNat / 65536 % 256 : Nat) : Int)), (((s5.d.toNat / 256 % 256 : Nat) : Int)), (((s5.d.toNat / 1 % 256 : Nat) : Int)), (((s5.e.toNat / 16777216 % 256 : Nat) : Int)), (((s5.e.toNat / 65536 % 256 : Nat) : Int)), (((s5.e.toNat / 256 % 256 : Nat) : Int)), (((s5.e.toNat / 1 % 256 : Nat) : Int)), (((s5.f.toNat / 16777216 % 256 : Nat) : Int)), (((s5.f.toNat / 65536 % 256 : Nat) : Int)), (((s5.f.toNat / 256 % 256 : Nat) : Int)), (((s5.f.toNat / 1 % 256 : Nat) : Int)), (((s5.g.toNat / 16777216 % 256 : Nat) : Int)), (((s5.g.toNat / 65536 % 256 : Nat) : Int)), (((s5.g.toNat / 256 % 256 : Nat) : Int)), (((s5.g.toNat / 1 % 256 : Nat) : Int)), (((s5.h.toNat / 16777216 % 256 : Nat) : Int)), (((s5.h.toNat / 65536 % 256 : Nat) : Int)), (((s5.h.toNat / 256 % 256 : Nat) : Int)), (((s5.h.toNat / 1 % 256 : Nat) : Int))]))) 42 rfl kj (Qaw 23 _ g6 23 _ _ r6_38 rfl kj kj (isz (n := 32) kj kj)) ?_
  have r4_2 := (Qab r4_1 e2)
  have r4_38 := (Puts.row p38 (Puts.row p37 (Puts.row p36 (Puts.row p35 (Puts.row p34 (Puts.row p33 (Puts.row p32 (Puts.row p31 (Puts.row p30 (Puts.row p29 (Puts.row p28 (Puts.row p27 (Puts.row p26 (Puts.row p25 (Puts.row p24 (Puts.row p23 (Puts.row p22 (Puts.row p21 (Puts.row p20 (Puts.row p19 (Puts.row p18 (Puts.row p17 (Puts.row p16 (Puts.row p15 (Puts.row p14 (Puts.row p13 (Puts.row p12 (Puts.row p11 (Puts.row p10 (Puts.row p9 (Puts.row p8 (Puts.row p7 (ExtB.row q6 (Qab (Puts.row p4 (Qab r4_2 e3) (Qaf r4_2 l10)) e5) (Qaf r4_2 l10)) (Qaf r4_1 l6)) (Qaf r4_1 l6)) (Qaf r4_1 l6)) (Qaf r4_1 l6)) (Qaf r4_1 l6)) (Qaf r4_1 l6)) (Qaf r4_1 l6)) (Qaf r4_1 l6)) (Qaf r4_1 l6)) (Qaf r4_1 l6)) (Qaf r4_1 l6)) (Qaf r4_1 l6)) (Qaf r4_1 l6)) (Qaf r4_1 l6)) (Qaf r4_1 l6)) (Qaf r4_1 l6)) (Qaf r4_1 l6)) (Qaf r4_1 l6)) (Qaf r4_1 l6)) (Qaf r4_1 l6)) (Qaf r4_1 l6)) (Qaf r4_1 l6)) (Qaf r4_1 l6)) (Qaf r4_1 l6)) (Qaf r4_1 l6)) (Qaf r4_1 l6)) (Qaf r4_1 l6)) (Qaf r4_1 l6)) (Qaf r4_1 l6)) (Qaf r4_1 l6)) (Qaf r4_1 l6)) (Qaf r4_1 l6))
  refine Qai g4 _ (ints .u8 ([(((s5.a.toNat / 16777216 % 256 : Nat) : Int)), (((s5.a.toNat / 65536 % 256 : Nat) : Int)), (((s5.a.toNat / 256 % 256 : Nat) : Int)), (((s5.a.toNat / 1 % 256 : Nat) : Int)), (((s5.b.toNat / 16777216 % 256 : Nat) : Int)), (((s5.b.toNat / 65536 % 256 : Nat) : Int)), (((s5.b.toNat / 256 % 256 : Nat) : Int)), (((s5.b.toNat / 1 % 256 : Nat) : Int)), (((s5.c.toNat / 16777216 % 256 : Nat) : Int)), (((s5.c.toNat / 65536 % 256 : Nat) : Int)), (((s5.c.toNat / 256 % 256 : Nat) : Int)), (((s5.c.toNat / 1 % 256 : Nat) : Int)), (((s5.d.toNat / 16777216 % 256 : Nat) : Int)), (((s5.d.toNat / 65536 % 256 : Nat) : Int)), (((s5.d.toNat / 256 % 256 : Nat) : Int)), (((s5.d.toNat / 1 % 256 : Nat) : Int)), (((s5.e.toNat / 16777216 % 256 : Nat) : Int)), (((s5.e.toNat / 65536 % 256 : Nat) : Int)), (((s5.e.toNat / 256 % 256 : Nat) : Int)), (((s5.e.toNat / 1 % 256 : Nat) : Int)), (((s5.f.toNat / 16777216 % 256 : Nat) : Int)), (((s5.f.toNat / 65536 % 256 : Nat) : Int)), (((s5.f.toNat / 256 % 256 : Nat) : Int)), (((s5.f.toNat / 1 % 256 : Nat) : Int)), (((s5.g.toNat / 16777216 % 256 : Nat) : Int)), (((s5.g.toNat / 65536 % 256 : Nat) : Int)), (((s5.g.toNat / 256 % 256 : Nat) : Int)), (((s5.g.toNat / 1 % 256 : Nat) : Int)), (((s5.h.toNat / 16777216 % 256 : Nat) : Int)), (((s5.h.toNat / 65536 % 256 : Nat) : Int)), (((s5.h.toNat / 256 % 256 : Nat) : Int)), (((s5.h.toNat / 1 % 256 : Nat) : Int))])) 23 r4_38 rfl kj (Qaq 23 _ _ g4 23 _ _ r4_38 rfl kj kj (isz (n := 32) kj kj) (eqsz (n := 32) kj kj) (Qa2 _ _)) fun W39 p39 r4_39 => ?_
  refine sgN hK201 ?_
  refine wp_ret ?_
  repeat (first | with_reducible refine goR1 ?_ | with_reducible refine goR2 ?_)
  exact (show bodyPost _ _ _ .ret _ _ from ret1 (.agg (ints .u8 ([(((s5.a.toNat / 16777216 % 256 : Nat) : Int)), (((s5.a.toNat / 65536 % 256 : Nat) : Int)), (((s5.a.toNat / 256 % 256 : Nat) : Int)), (((s5.a.toNat / 1 % 256 : Nat) : Int)), (((s5.b.toNat / 16777216 % 256 : Nat) : Int)), (((s5.b.toNat / 65536 % 256 : Nat) : Int)), (((s5.b.toNat / 256 % 256 : Nat) : Int)), (((s5.b.toNat / 1 % 256 : Nat) : Int)), (((s5.c.toNat / 16777216 % 256 : Nat) : Int)), (((s5.c.toNat / 65536 % 256 : Nat) : Int)), (((s5.c.toNat / 256 % 256 : Nat) : Int)), (((s5.c.toNat / 1 % 256 : Nat) : Int)), (((s5.d.toNat / 16777216 % 256 : Nat) : Int)), (((s5.d.toNat / 65536 % 256 : Nat) : Int)), (((s5.d.toNat / 256 % 256 : Nat) : Int)), (((s5.d.toNat / 1 % 256 : Nat) : Int)), (((s5.e.toNat / 16777216 % 256 : Nat) : Int)), (((s5.e.toNat / 65536 % 256 : Nat) : Int)), (((s5.e.toNat / 256 % 256 : Nat) : Int)), (((s5.e.toNat / 1 % 256 : Nat) : Int)), (((s5.f.toNat / 16777216 % 256 : Nat) : Int)), (((s5.f.toNat / 65536 % 256 : Nat) : Int)), (((s5.f.toNat / 256 % 256 : Nat) : Int)), (((s5.f.toNat / 1 % 256 : Nat) : Int)), (((s5.g.toNat / 16777216 % 256 : Nat) : Int)), (((s5.g.toNat / 65536 % 256 : Nat) : Int)), (((s5.g.toNat / 256 % 256 : Nat) : Int)), (((s5.g.toNat / 1 % 256 : Nat) : Int)), (((s5.h.toNat / 16777216 % 256 : Nat) : Int)), (((s5.h.toNat / 65536 % 256 : Nat) : Int)), (((s5.h.toNat / 256 % 256 : Nat) : Int)), (((s5.h.toNat / 1 % 256 : Nat) : Int))]))) rfl (QaR g4 23 _ r4_39 kj kj (isz (n := 32) kj kj)) ⟨by rw [show dig t = s5.out by rw [hs5]; rfl]; rfl, (Puts.ext p39 (Puts.ext p38 (Puts.ext p37 (Puts.ext p36 (Puts.ext p35 (Puts.ext p34 (Puts.ext p33 (Puts.ext p32 (Puts.ext p31 (Puts.ext p30 (Puts.ext p29 (Puts.ext p28 (Puts.ext p27 (Puts.ext p26 (Puts.ext p25 (Puts.ext p24 (Puts.ext p23 (Puts.ext p22 (Puts.ext p21 (Puts.ext p20 (Puts.ext p19 (Puts.ext p18 (Puts.ext p17 (Puts.ext p16 (Puts.ext p15 (Puts.ext p14 (Puts.ext p13 (Puts.ext p12 (Puts.ext p11 (Puts.ext p10 (Puts.ext p9 (Puts.ext p8 (Puts.ext p7 (ExtB.up (Ext.tr (Puts.ext p4 (Ext.tr x2 e3) b10) e5) q6 b10) b6) b6) b6) b6) b6) b6) b6) b6) b6) b6) b6) b6) b6) b6) b6) b6) b6) b6) b6) b6) b6) b6) b6) b6) b6) b6) b6) b6) b6) b6) b6) b6) (Nat.le_trans (Rely.Ext.refl w).size l4))⟩)
end Go.Proofs.YtibegnjaphohaaaDoor.Sha
end
section
namespace Go.Proofs.YtibegnjaphohaaaDoor.Sha
open Go Go.RowKit
open Rely Auto Own
set_option linter.unusedVariables false
set_option linter.unusedSimpArgs false
def pat (ps : List (Value × List Int)) (i : Nat) : Value × List Int := ps.getD i (undef, [])
def flat (ps : List (Value × List Int)) (i : Nat) : List Int := ((ps.take i).map Prod.snd).flatten
theorem Qh5 {ps : List (Value × List Int)} {i : Nat} (h : i < ps.length) : pat ps i = ps[i] := by simp [pat, h]
theorem QeJ {ps : List (Value × List Int)} {i : Nat} (h : i < ps.length) : pat ps i ∈ ps := by rw [Qh5 h]; exact List.getElem_mem h
theorem Qjj {ps : List (Value × List Int)} {i : Nat} (h : i < ps.length) : (ps.map Prod.fst).toArray[i]? = some (pat ps i).1 := by
  rw [Qh5 h]; simp [h]
theorem QdZ {ps : List (Value × List Int)} {i : Nat} (h : i < ps.length) : flat ps (i + 1) = flat ps i ++ (pat ps i).2 := by
  unfold flat
  rw [List.take_add_one, List.getElem?_eq_getElem h, Qh5 h, List.map_append, List.flatten_append]
  show _ ++ [ps[i].2].flatten = _
  rw [List.flatten_singleton]
theorem Qde {ps : List (Value × List Int)} {n : Nat} (h : ps.length = n) : flat ps n = (ps.map Prod.snd).flatten := by
  subst h; simp [flat]
theorem QhS {ps : List (Value × List Int)} {i : Nat} (h : i < ps.length) : (flat ps i).length + (pat ps i).2.length ≤ ((ps.map Prod.snd).flatten).length := by
  have e : (flat ps (i + 1)).length = (flat ps i).length + (pat ps i).2.length := by rw [QdZ h, List.length_append]
  rw [← e]
  have : (ps.map Prod.snd).flatten = flat ps (i + 1) ++ ((ps.drop (i + 1)).map Prod.snd).flatten := by
    unfold flat
    rw [← List.flatten_append, ← List.map_append, List.take_append_drop]
  rw [this, List.length_append]; omega
theorem Qj9 (s : S8) : s.out.length = 32 := rfl
theorem QaM (t : List Int) : (dig t).length = 32 := Qj9 _
set_option maxHeartbeats 4000000 in
theorem Qjh (gp n : Nat) (Tp : TypeId) (ps : List (Value × List Int)) (hn : ps.length = n) (hn9 : n ≤ 1000000) (tc tq : TypeId) (w : World) (hc : w.heap[2]? = some (.cells (ints .u64 QaI) tc)) (hq : w.heap[1]? = some (.cells (ints .u64 Qak) tq)) (hrow : w.heap[gp]? = some (.cells (ps.map Prod.fst).toArray Tp)) (hps : ∀ p ∈ ps, RdK .u8 w.heap.size p.2 p.1 w ∧ Qao p.2) (hlen : ((ps.map Prod.snd).flatten).length ≤ 900000000) : Calls Tryd.prog 73 #[.slice (some ⟨gp, 0, none⟩) n n] w (Ret w (.agg (ints .u8 (dig ((ps.map Prod.snd).flatten))))) := by
 refine enter 19 [(0, .slice (some ⟨gp, 0, none⟩) n n)] Tryd.func73 rfl rfl kj rfl ?_
 refine sgC fun K4 hK4 => ?_
 refine Qar (ints .u8 (List.replicate 32 0)) 23 2 rfl kj kj fun g5 W1 l5 e1 r5_1 => ?_
 have x1 := Ext.tr (Rely.Ext.refl w) e1
 refine sgN hK4 ?_
 refine sgC fun K6 hK6 => ?_
 refine Qa8 (fun v W' => (fun v W => ∃ g, v = .pointer (some ⟨g, 0, none⟩) ∧ W1.heap.size ≤ g ∧ HasD g [] W) v W' ∧ Ext W1 W') 70 #[] 6 rfl kj kj ((newC tq _ (Qab hq e1)).mono (by rintro e w' ⟨v, rfl, e1, hv⟩; exact ⟨v, rfl, hv, e1⟩)) fun vv7 W2 hh7 => ?_
 obtain ⟨hv7, e2⟩ := hh7
 obtain ⟨gd8, rfl, ld8, hD8⟩ := hv7
 have b8 := Nat.le_trans x1.size ld8
 refine sg 1 kj ?_
 refine sgN hK6 ?_
 refine wp_seq_k fun K9 hK9 => ?_
 refine sgB kj ?_
 refine wp_block ?_
 refine Qa9 (fun (s1 : Nat) => [(7, .slice (some ⟨gp, 0, none⟩) n n), (8, .int .i64 ((n : Nat) : Int)), (9, .int .i64 ((s1 : Nat) : Int)), (3, .pointer (some ⟨gd8, 0, none⟩)), (2, .pointer (some ⟨g5, 0, none⟩))]) (fun (s1 : Nat) W => (s1 ≤ n) ∧ (HasD gd8 (flat ps s1) W) ∧ (Qal [gd8] W2 W) ∧ (Ext w W)) (fun (s1 : Nat) => n - s1) 0 ⟨kj, kj, kj, kj, kj, trivial⟩ ⟨(Nat.zero_le _), (show HasD _ (flat ps 0) _ from hD8), (Qal.refl [gd8] W2), (Ext.tr x1 e2)⟩ fun s1 X1 V1 hI1 => ?_
 obtain ⟨i, hs1⟩ : ∃ z, z = s1 := ⟨_, rfl⟩
 subst hs1
 obtain ⟨hi, hDi, kk1, xx1⟩ := hI1
 replace hi : i ≤ n := hi
 replace hDi : HasD gd8 (flat ps i) V1 := hDi
 replace kk1 : Qal [gd8] W2 V1 := kk1
 replace xx1 : Ext w V1 := xx1
 have q3 := kk1
 refine sgB kj ?_
 refine wp_seq_k fun K12 hK12 => ?_
 refine Qa5 (t := decide (((i : Nat) : Int) < ((n : Nat) : Int))) kj (fun c13 => ?_) (fun c13 => ?_)
 ·skip
  have hlt10 : i < n := by have := of_decide_eq_true c13; omega
  refine wp_skip ?_
  refine hK12 _ _ ?_
  refine wp_seq_k fun K14 hK14 => ?_
  refine wp_block ?_
  refine sgC fun K15 hK15 => ?_
  have hi2 : i < ps.length := by omega
  refine Qaa (.pointer (some ⟨gp, i, none⟩)) 11 rfl kj (QaX 121 _ _ .i64 i gp n n 38 rfl kj kj kj kj hlt10) ?_
  have r3_1 := (Qab hrow e1)
  refine Qaa ((pat ps i).1) 12 rfl kj (QaA 38 _ _ ((pat ps i).1) (Qcp (Qal.row q3 (Qab r3_1 e2) (Qau (Qaf r3_1 ld8) QaG)) (Qjj hi2)) rfl kj kj) ?_
  refine sg 1 kj ?_
  refine sgN hK15 ?_
  refine Qad ?_
  refine sg 2 kj ?_
  have r1_1 := (Qab hc e1)
  have r1_2 := (Qab r1_1 e2)
  have r1_3 := (Qal.row q3 r1_2 (Qau (Qaf r1_1 ld8) QaG))
  have hp6 := (hps _ (QeJ hi2)).1.ext xx1
  have hl6 := QhS hi2
  refine Qa8 (fun v W' => v = .tuple #[] ∧ ExtB gd8 V1 W' ∧ HasD gd8 ((flat ps i) ++ (pat ps i).2) W') 71 #[.pointer (some ⟨gd8, 0, none⟩), (pat ps i).1] 15 rfl kj kj ((addC gd8 _ _ _ _ tc _ r1_3 (Nat.ne_of_lt (Nat.lt_of_lt_of_le (Qat hc) b8)) (hp6.nb b8) (hps _ (QeJ hi2)).2 (by omega) hDi hp6).mono fun e w' h => ⟨_, h.1, rfl, h.2⟩) fun v W4 h => ?_
  obtain ⟨rfl, q4, hDn⟩ := h
  have x4 := ExtB.up xx1 q4 b8
  refine Qaj ?_
  refine hK14 _ _ ?_
  refine Qad ?_
  refine Qaa (.int .i64 ((i + 1 : Nat) : Int)) 16 rfl kj (Qag (u := .int .i64 (IntKind.i64.wrap (((i : Nat) : Int) + 1))) kj (congrArg (Value.int .i64) (i64n _ _ (by omega) (by omega)))) ?_
  refine sg 1 kj ?_
  refine Qaj ?_
  repeat (first | with_reducible refine goX1 ?_ | with_reducible refine goX2 ?_ | with_reducible refine goX3 ?_)
  exact Qa4 (i + 1) ⟨kj, kj, kj, kj, kj, trivial⟩ ⟨(by omega), (by rw [QdZ hi2]; exact hDn), (Qal.but q3 q4 (.inl (by simp))), x4⟩ (by omega)
 ·skip
  have heq10 : i = n := by have := of_decide_eq_false c13; omega
  refine wp_exit ?_
  refine hK9 _ _ ?_
  refine sgC fun K16 hK16 => ?_
  refine sg 1 kj ?_
  have r1_1 := (Qab hc e1)
  have r1_2 := (Qab r1_1 e2)
  have r1_3 := (Qal.row q3 r1_2 (Qau (Qaf r1_1 ld8) QaG))
  refine Qax (.agg (ints .u8 (dig (flat ps i)))) 72 #[.pointer (some ⟨gd8, 0, none⟩)] 18 rfl kj kj (sumC gd8 _ tc _ r1_3 (by rw [heq10, Qde hn]; exact hlen) hDi) fun W4 e4 => ?_
  have x4 := Ext.tr xx1 e4
  have r5_4 := (Qab (Qal.row q3 (Qab r5_1 e2) (Qau (Qaf r5_1 ld8) QaG)) e4)
  refine Qai g5 _ (ints .u8 (dig (flat ps i))) 23 r5_4 rfl kj (Qaq 23 _ _ g5 23 _ _ r5_4 rfl kj kj (isz (n := 32) kj ((Qac _ _).trans (QaM _))) (eqsz (n := 32) ((Qac _ _).trans (List.length_replicate (n := 32))) ((Qac _ _).trans (QaM _))) (Qa2 _ _)) fun W5 p5 r5_5 => ?_
  refine sgN hK16 ?_
  refine wp_ret ?_
  repeat (first | with_reducible refine goR1 ?_ | with_reducible refine goR2 ?_)
  exact (show bodyPost _ _ _ .ret _ _ from ret1 (.agg (ints .u8 (dig (flat ps i)))) rfl (QaR g5 23 _ r5_5 kj kj (isz (n := 32) kj ((Qac _ _).trans (QaM _)))) ⟨by rw [heq10, Qde hn], (Puts.ext p5 x4 (Nat.le_trans (Rely.Ext.refl w).size l5))⟩)
end Go.Proofs.YtibegnjaphohaaaDoor.Sha
end
section
namespace Go.Proofs.YtibegnjaphohaaaDoor.Sha
open Go Go.RowKit
open Rely Auto Own
set_option linter.unusedVariables false
theorem Qhd (x : Wd) : Qao (wby x) := fun y hy => by
  simp only [wby, List.mem_cons, List.not_mem_nil, or_false] at hy
  rcases hy with h | h | h | h <;> omega
theorem Qdi (t : List Int) : Qao (dig t) := fun y hy => by
  unfold dig S8.out at hy
  obtain ⟨x, _, h⟩ := List.mem_flatMap.1 hy
  exact Qhd x y h
def xorb (c x : Int) : Int := bits .xor .u8 x c
theorem Qhc (c x : Int) : 0 ≤ xorb c x ∧ xorb c x ≤ 255 := by
  unfold xorb bits
  have : ∀ z : Int, IntKind.u8.wrap z = z % 2 ^ 8 := fun _ => rfl
  rw [this]; omega
def keyL (key : List Int) : List Int := if 64 < key.length then dig key else key
def keyB (key : List Int) : List Int := keyL key ++ List.replicate (64 - (keyL key).length) 0
def padX (c : Int) (key : List Int) : List Int := (keyB key).map (xorb c)
def hmac (key t : List Int) : List Int := dig (padX 92 key ++ dig (padX 54 key ++ t))
theorem QeR (key : List Int) : (keyL key).length ≤ 64 := by
  unfold keyL
  split
  · rw [QaM]; decide
  · omega
theorem Qbn (key : List Int) : (keyB key).length = 64 := by
  have := QeR key
  simp [keyB]; omega
theorem Qa3 (c : Int) (key : List Int) : (padX c key).length = 64 := by rw [padX, List.length_map, Qbn]
theorem QbU (c : Int) (key : List Int) : Qao (padX c key) := fun y hy => by
  obtain ⟨x, _, rfl⟩ := List.mem_map.1 hy
  exact Qhc c x
theorem Qcd (c : Int) (key : List Int) {i : Nat} (h : i < 64) : nth (padX c key) i = bits .xor .u8 (nth (keyB key) i) c := by
  have hl := Qbn key
  show nth ((keyB key).map (xorb c)) i = xorb c (nth (keyB key) i)
  simp [nth, List.getD_eq_getElem?_getD, show i < (keyB key).length by omega]
theorem Qbs (key t : List Int) : (hmac key t).length = 32 := QaM _
theorem QgV (key t : List Int) : Qao (hmac key t) := Qdi _
def puts (xs ys : List Int) (m : Nat) : List Int := xs.take m ++ ys.drop m
theorem Qgf {xs ys : List Int} {n m : Nat} (hx : xs.length = n) (hy : ys.length = n) (hm : m ≤ n) : (puts xs ys m).length = n := by simp [puts]; omega
theorem Qfl (xs ys : List Int) : puts xs ys 0 = ys := by simp [puts]
theorem Qfm {xs ys : List Int} {n : Nat} (hx : xs.length = n) (hy : ys.length = n) : puts xs ys n = xs := by
  unfold puts
  rw [List.take_of_length_le (by omega), List.drop_of_length_le (by omega), List.append_nil]
theorem Qge {xs ys : List Int} {n m : Nat} (hx : xs.length = n) (hy : ys.length = n) (hm : m < n) : (puts xs ys m).set m (nth xs m) = puts xs ys (m + 1) := by
  unfold puts
  have hl : (xs.take m).length = m := by rw [List.length_take]; omega
  rw [List.set_append_right _ _ (by omega), hl, Nat.sub_self, List.drop_eq_getElem_cons (by omega), List.set_cons_zero, List.take_add_one, List.getElem?_eq_getElem (by omega), List.append_assoc]
  simp [nth, show m < xs.length by omega]
section
variable {ds : List Deferred} {P : Program} {ops : Array Oper} {Q : Exit → Act → World → Prop} {rest : List Oper} {o : Oper} {N : Nat} {L : Env} {W : World}
theorem Qfd {k : IntKind} {e : TypeId} (x y : Operand) (tx ty : TypeId) (d : Nat) (ho : o.op = .call { callee := .builtin .copy, args := #[x, y], argTypes := #[tx, ty] }) (hu : P.underlying tx = some (.slice e)) (hsz : (P.info? e).map (·.size) = some 1) (hd : o.dst = some d) (hgd : Qbq ops o N L = some true)
    {g off dl dc n B : Nat} {xs z : List Int} {v : Value} {T : TypeId} (hx : Rely.look (envN N L) x = .slice (some ⟨g, off, none⟩) dl dc) (hy : Rely.look (envN N L) y = v) (hr : RdK k B z v W)
    (hg : W.heap[g]? = some (.cells (ints k xs) T)) (hq : off + dl ≤ xs.length) (hn : n = min z.length dl)
    (kk : ∀ W' : World, Puts W g W' → W'.heap[g]? = some (.cells (ints k (xs.take off ++ z.take n ++ xs.drop (off + n))) T) → WL P ops Q rest (Qav ds N ((d, .int .i64 ((n : Nat) : Int)) :: L)) W') : WL P ops Q (o :: rest) (Qav ds N L) W := by
  obtain ⟨a, cap, rfl, y2, y3, y4, y5⟩ := hr
  have hgo : ∀ W', (Builtin.copy_ #[tx, ty] o.type #[.slice (some ⟨g, off, none⟩) dl dc, .slice a z.length cap]).run P W = .ok (goInt n) W' → (execOp (Rely.look (envN N L)) o).run P W = .ok (.value (.int .i64 ((n : Nat) : Int))) W' := fun W' h => by
    unfold execOp
    simp only [ho, resolve, invoke, builtin, Sem.run_bind, Sem.run_pure, Result.andThen_ok, List.map_toArray, List.map_cons, List.map_nil, hx, hy, h, goInt]
  rcases Nat.eq_zero_or_pos n with h0 | h0
  · refine Qbr _ _ d hd hgd (hgo W ?_) (kk W ⟨rfl, rfl, rfl, rfl, fun _ _ => rfl⟩ ?_)
    · rw [h0]; exact run_copy_none W tx ty o.type e _ _ _ _ _ _ hu hsz (hn.symm.trans h0)
    · rw [h0, List.take_zero, List.append_nil, Nat.add_zero, List.take_append_drop]; exact hg
  · obtain ⟨gz, oz, rfl, z2, z3, z4⟩ := y5.resolve_left (fun e => by rw [e] at hn; simp at hn; omega)
    have hlen : ((z.take n).map (Value.int k)).length = n := by simp; omega
    have h := run_copy_row (P := P) W tx ty o.type e g off dl dc ⟨gz, oz, none⟩ z.length cap (ints k xs) T ((z.take n).map (Value.int k)) hu hsz hg (by rw [hlen]; exact hn)
      (QhB (k := k) (ys := z.take n) fun i hi => by
        rw [List.length_take] at hi
        rw [z4 i (by omega)]
        simp [nth, show i < n by omega]) (by rw [hlen, Qac]; omega) (Qh9 k _)
    rw [hlen] at h
    have e1 : ((ints k xs).toList.take off ++ (z.take n).map (Value.int k) ++ (ints k xs).toList.drop (off + n)).toArray = ints k (xs.take off ++ z.take n ++ xs.drop (off + n)) := by
      apply Array.ext'
      show (xs.map (Value.int k)).take off ++ (z.take n).map (Value.int k) ++ (xs.map (Value.int k)).drop (off + n) = (xs.take off ++ z.take n ++ xs.drop (off + n)).map (Value.int k)
      simp only [List.map_append, List.map_take, List.map_drop]
    rw [e1] at h
    exact Qbr _ _ d hd hgd (hgo _ h) (kk _ (Qbl _ _ _) (setRow_heap _ _ _ _ _ _ hg))
end
theorem QhI {key : List Int} (h : 64 < key.length) : (List.replicate 64 (0 : Int)).take 0 ++ (dig key).take 32 ++ (List.replicate 64 (0 : Int)).drop (0 + 32) = keyB key := by
  have hd := QaM key
  unfold keyB keyL
  rw [if_pos h, hd, List.take_zero, List.nil_append, List.take_of_length_le (by omega), List.drop_replicate]
theorem QgS {key : List Int} (h : ¬ 64 < key.length) (n : Nat) (hn : n = min key.length 64) : (List.replicate 64 (0 : Int)).take 0 ++ key.take n ++ (List.replicate 64 (0 : Int)).drop (0 + n) = keyB key := by
  unfold keyB keyL
  rw [if_neg h, List.take_zero, List.nil_append, List.take_of_length_le (by omega), List.drop_replicate, show 64 - (0 + n) = 64 - key.length by omega]
end Go.Proofs.YtibegnjaphohaaaDoor.Sha
end
section
namespace Go.Proofs.YtibegnjaphohaaaDoor.Sha
open Go Go.RowKit
open Rely Auto Own
set_option linter.unusedVariables false
set_option linter.unusedSimpArgs false
set_option maxHeartbeats 4000000 in
theorem Qlc (key : List Int) (v : Value) (B : Nat) (tc tq : TypeId) (w : World) (hc : w.heap[2]? = some (.cells (ints .u64 QaI) tc)) (hq : w.heap[1]? = some (.cells (ints .u64 Qak) tq)) (hkb : Qao key) (hkl : key.length ≤ 800000000) (hk : RdK .u8 B key v w) :
  Calls Tryd.prog 69 #[v] w (Ret w (.tuple #[.agg (ints .u8 (padX 54 key)), .agg (ints .u8 (padX 92 key))])) := by
 obtain ⟨a_key, c_key, rfl, -⟩ := id hk
 refine enter 35 [(0, .slice a_key key.length c_key)] Tryd.func69 rfl rfl kj rfl ?_
 refine sgC fun K3 hK3 => ?_
 refine Qar (ints .u8 (List.replicate 64 0)) 107 2 rfl kj kj fun g4 W1 l4 e1 r4_1 => ?_
 have x1 := Ext.tr (Rely.Ext.refl w) e1
 have b4 := Nat.le_trans (Rely.Ext.refl w).size l4
 refine Qar (ints .u8 (List.replicate 64 0)) 107 3 rfl kj kj fun g5 W2 l5 e2 r5_2 => ?_
 have x2 := Ext.tr x1 e2
 have b5 := Nat.le_trans x1.size l5
 refine sgN hK3 ?_
 refine wp_seq_k fun K6 hK6 => ?_
 refine sgB kj ?_
 refine Qa5 (t := decide (((key.length : Nat) : Int) > 64)) kj (fun c8 => ?_) (fun c8 => ?_)
 ·skip
  have hlong : 64 < key.length := by have := of_decide_eq_true c8; omega
  refine sgC fun K9 hK9 => ?_
  refine sg 1 kj ?_
  refine QaB (#[.slice a_key key.length c_key]) 38 1 11 rfl kj kj fun g10 W3 l10 e3 r10_3 => ?_
  have x3 := Ext.tr x2 e3
  have b10 := Nat.le_trans x2.size l10
  have hps11 : ∀ p ∈ ([(.slice a_key key.length c_key, key)] : List (Value × List Int)), RdK .u8 W3.heap.size p.2 p.1 W3 ∧ Qao p.2 := by
   intro p hp
   simp only [List.mem_cons, List.not_mem_nil, or_false] at hp
   rcases hp with rfl
   ·exact ⟨RdK.here (RdK.ext hk x3), hkb⟩
  have hsh11 := Qjh g10 1 _ ([(.slice a_key key.length c_key, key)] : List (Value × List Int)) rfl (by decide) tc tq W3 (Qab (Qab (Qab hc e1) e2) e3) (Qab (Qab (Qab hq e1) e2) e3) r10_3 hps11 (by simp only [List.map_cons, List.map_nil, List.flatten_cons, List.flatten_nil, List.append_nil, List.length_append]; omega)
  rw [show ((List.map Prod.snd ([(.slice a_key key.length c_key, key)] : List (Value × List Int))).flatten) = key by simp only [List.map_cons, List.map_nil, List.flatten_cons, List.flatten_nil, List.append_nil]] at hsh11
  refine Qax (.agg (ints .u8 (dig (key)))) 73 #[.slice (some ⟨g10, 0, none⟩) 1 1] 12 rfl kj kj hsh11 fun W4 e4 => ?_
  have x4 := Ext.tr x3 e4
  refine Qar (ints .u8 (List.replicate 32 0)) 23 4 rfl kj kj fun g12 W5 l12 e5 r12_5 => ?_
  have x5 := Ext.tr x4 e5
  refine Qai g12 _ (ints .u8 (dig (key))) 23 r12_5 rfl kj (Qaq 23 _ _ g12 23 _ _ r12_5 rfl kj kj (isz (n := 32) kj ((Qac _ _).trans (QaM _))) (eqsz (n := 32) ((Qac _ _).trans (List.length_replicate (n := 32))) ((Qac _ _).trans (QaM _))) (Qa2 _ _)) fun W6 p6 r12_6 => ?_
  have x6 := Puts.ext p6 x5 (Nat.le_trans x4.size l12)
  refine sgN hK9 ?_
  refine QaQ 2 [⟨none, [(2, none)]⟩, ⟨none, [(4, none)]⟩] kj kj fun F hF => ?_
  refine Qa1 (Qan _) (.slice (some ⟨g4, 0, none⟩) 64 64) kj kj (fun W => by kernel_rfl) ?_
  refine Qa1 (Qan _) (.slice (some ⟨g12, 0, none⟩) 32 32) kj kj (fun W => by kernel_rfl) ?_
  refine Qcz (hF _ fun W7 e7 => ?_)
  simp only [List.nil_append, List.cons_append, List.take_succ_cons, List.take_zero, List.drop_succ_cons, List.drop_zero, finE, up]
  clear hF
  have x7 := Ext.tr x6 e7
  have r4_2 := (Qab r4_1 e2)
  have r4_3 := (Qab r4_2 e3)
  have r4_4 := (Qab r4_3 e4)
  have r4_5 := (Qab r4_4 e5)
  have r4_6 := (Puts.row p6 r4_5 (Qaf r4_4 l12))
  have r4_7 := (Qab r4_6 e7)
  have r12_7 := (Qab r12_6 e7)
  refine Qfd (k := .u8) (e := 5) (z := dig (key)) (.tmp 13) (.tmp 14) 38 38 15 rfl kj kj rfl kj (off := 0) (dl := 64) (dc := 64) (n := 32) (xs := List.replicate 64 0) kj kj (QaK (xs := dig (key)) (n := 32) (QaM _) r12_7 (Qat r12_7) (show 32 ≤ maxLen from by decide)) r4_7 (Nat.le_trans (show 0 + (64) ≤ 64 from (by omega)) (Nat.le_of_eq (List.length_replicate (n := 64)).symm)) (by rw [QaM]; rfl) fun W8 p8 r4_8 => ?_
  refine Qaj ?_
  refine hK6 _ _ ?_
  refine wp_seq_k fun K13 hK13 => ?_
  refine sgC fun K14 hK14 => ?_
  have r4_8_15 : W8.heap[g4]? = some (.cells (ints .u8 (keyB key)) 107) := QaV r4_8 (QhI hlong)
  refine Qaa (.agg (ints .u8 (keyB key))) 19 rfl kj (Qaw 107 _ g4 107 _ _ r4_8_15 rfl kj kj (isz (n := 64) kj ((Qac _ _).trans (Qbn key)))) ?_
  refine sg 1 kj ?_
  refine sgN hK14 ?_
  refine wp_block ?_
  have n_4_5 : g4 ≠ g5 := (Qaf r4_1 l5)
  have n_5_4 : g5 ≠ g4 := (Qbe r4_1 l5)
  have r5_3 := (Qab r5_2 e3)
  have r5_4 := (Qab r5_3 e4)
  have r5_5 := (Qab r5_4 e5)
  have r5_6 := (Puts.row p6 r5_5 (Qaf r5_4 l12))
  have r5_7 := (Qab r5_6 e7)
  refine Qa9 (fun (s1 : Nat) => [(2, .pointer (some ⟨g4, 0, none⟩)), (3, .pointer (some ⟨g5, 0, none⟩)), (19, .agg (ints .u8 (keyB key))), (20, .int .i64 ((s1 : Nat) : Int))]) (fun (s1 : Nat) W => (s1 ≤ 64) ∧ (W.heap[g4]? = some (.cells (ints .u8 (puts (padX 54 key) (keyB key) s1)) 107)) ∧ (W.heap[g5]? = some (.cells (ints .u8 (fill (padX 92 key) 64 s1)) 107)) ∧ (Qal [g4, g5] W8 W) ∧ (Ext w W)) (fun (s1 : Nat) => 64 - s1) 0 ⟨kj, kj, kj, kj, trivial⟩ ⟨(Nat.zero_le _), (QaV r4_8_15 (Qfl _ _).symm), (QaV (Puts.row p8 r5_7 n_5_4) (Qec _ 64).symm), (Qal.refl [g4, g5] W8), (Puts.ext p8 x7 b4)⟩ fun s1 X1 V1 hI1 => ?_
  obtain ⟨i, hs1⟩ : ∃ z, z = s1 := ⟨_, rfl⟩
  subst hs1
  obtain ⟨hi, q4_1, q5_1, kk1, xx1⟩ := hI1
  replace hi : i ≤ 64 := hi
  replace q4_1 : V1.heap[g4]? = some (.cells (ints .u8 (puts (padX 54 key) (keyB key) i)) 107) := q4_1
  replace q5_1 : V1.heap[g5]? = some (.cells (ints .u8 (fill (padX 92 key) 64 i)) 107) := q5_1
  replace kk1 : Qal [g4, g5] W8 V1 := kk1
  replace xx1 : Ext w V1 := xx1
  have q9 := kk1
  refine sgB kj ?_
  refine wp_seq_k fun K17 hK17 => ?_
  refine Qa5 (t := decide (((i : Nat) : Int) < 64)) kj (fun c18 => ?_) (fun c18 => ?_)
  ·skip
   have hlt21 : i < 64 := by have := of_decide_eq_true c18; omega
   refine wp_skip ?_
   refine hK17 _ _ ?_
   refine wp_seq_k fun K19 hK19 => ?_
   refine wp_block ?_
   refine sgC fun K20 hK20 => ?_
   refine sg 1 kj ?_
   refine Qaa (.int .u8 (nth (keyB key) i)) 23 rfl kj (Qa6 107 _ _ .i64 .u8 (keyB key) i 64 5 (nth (keyB key) i) rfl kj kj kj kj kj (Qbn key) (by omega) rfl) ?_
   refine sg 2 kj ?_
   refine sgN hK20 ?_
   refine Qad ?_
   refine sg 3 kj ?_
   refine Qaa (.int .u8 (nth (padX 54 key) i)) 27 rfl kj (Qag (u := .int .u8 (bits .xor .u8 ((nth (keyB key) i)) (54))) kj (congrArg (Value.int .u8) (Qcd 54 key hlt21).symm)) ?_
   refine sg 1 kj ?_
   refine Qaa (.int .u8 (nth (padX 92 key) i)) 29 rfl kj (Qag (u := .int .u8 (bits .xor .u8 ((nth (keyB key) i)) (92))) kj (congrArg (Value.int .u8) (Qcd 92 key hlt21).symm)) ?_
   refine Qaa (.pointer (some ⟨g4, i, none⟩)) 30 rfl kj (Qbc _ _ _ .i64 (i) _ 64 5 rfl kj kj kj kj (by omega)) ?_
   refine Qai g4 _ (ints .u8 ((puts (padX 54 key) (keyB key) i).set i (nth (padX 54 key) i))) 107 q4_1 rfl kj (Qam 5 _ _ g4 i 107 _ _ q4_1 rfl kj kj kj (Nat.lt_of_lt_of_eq (by omega) (Qgf (Qa3 54 key) (Qbn key) (by omega)).symm)) fun W10 p10 r4_10 => ?_
   have x10 := Puts.ext p10 xx1 b4
   refine Qaa (.pointer (some ⟨g5, i, none⟩)) 31 rfl kj (Qbc _ _ _ .i64 (i) _ 64 5 rfl kj kj kj kj (by omega)) ?_
   have r5_10 := (Puts.row p10 q5_1 n_5_4)
   refine Qai g5 _ (ints .u8 ((fill (padX 92 key) 64 i).set i (nth (padX 92 key) i))) 107 r5_10 rfl kj (Qam 5 _ _ g5 i 107 _ _ r5_10 rfl kj kj kj (Nat.lt_of_lt_of_eq (by omega) (QbE (Qa3 92 key) (by omega)).symm)) fun W11 p11 r5_11 => ?_
   have x11 := Puts.ext p11 x10 b5
   refine Qaj ?_
   refine hK19 _ _ ?_
   refine Qad ?_
   refine Qaa (.int .i64 ((i + 1 : Nat) : Int)) 32 rfl kj (Qag (u := .int .i64 (IntKind.i64.wrap (((i : Nat) : Int) + 1))) kj (congrArg (Value.int .i64) (i64n _ _ (by omega) (by omega)))) ?_
   refine sg 1 kj ?_
   refine Qaj ?_
   have r4_11 := (Puts.row p11 r4_10 n_4_5)
   repeat (first | with_reducible refine goX1 ?_ | with_reducible refine goX2 ?_ | with_reducible refine goX3 ?_)
   exact Qa4 (i + 1) ⟨kj, kj, kj, kj, trivial⟩ ⟨(by omega), (QaV r4_11 (Qge (Qa3 54 key) (Qbn key) hlt21)), (QaV r5_11 (QdI (Qa3 92 key) hlt21)), (Qal.puts (Qal.puts q9 p10 (.inl (by simp))) p11 (.inl (by simp))), x11⟩ (by omega)
  ·skip
   have heq21 : i = 64 := by have := of_decide_eq_false c18; omega
   have r4_9_21 : V1.heap[g4]? = some (.cells (ints .u8 (padX 54 key)) 107) := QaV q4_1 (by rw [heq21]; exact Qfm (Qa3 54 key) (Qbn key))
   have r5_9_22 : V1.heap[g5]? = some (.cells (ints .u8 (padX 92 key)) 107) := QaV q5_1 (by rw [heq21]; exact Qed (Qa3 92 key))
   refine wp_exit ?_
   refine hK13 _ _ ?_
   refine wp_seq_k fun K23 hK23 => ?_
   refine Qei (fun W => W.heap[g5]? = some (.cells (ints .u8 (padX 92 key)) 107)) [⟨none, [(2, none)]⟩, ⟨none, [(3, none)]⟩, ⟨none, [(2, none), (33, some 0)]⟩, ⟨none, [(3, none), (34, some 1)]⟩] [] [1] kj kj kj (fun W hR => Qab r5_9_22 hR) fun F hF => ?_
   refine Qjg (.agg (ints .u8 (padX 54 key))) kj kj kj rfl (fun W hR => (Qaw 107 _ g4 107 _ _ (Qab (Qab r4_9_21 (Qas _)) hR) rfl kj kj (isz (n := 64) kj ((Qac _ _).trans (Qa3 54 key))))) ?_
   refine Qhm (.agg (ints .u8 (padX 92 key))) kj kj kj rfl (fun W hW => (Qaw 107 _ g5 107 _ _ hW rfl kj kj (isz (n := 64) kj ((Qac _ _).trans (Qa3 92 key))))) ?_
   refine QeB rfl ?_
   refine QeB rfl ?_
   refine Qkq (hF _ kj fun W10 e10 => ?_)
   simp only [List.nil_append, List.cons_append, fins, up]
   clear hF
   have x10 := Ext.tr xx1 e10
   have r4_10 := (Qab r4_9_21 e10)
   have r5_10 := (Qab r5_9_22 e10)
   refine QfV _ g4 _ (ints .u8 (padX 54 key)) 107 r4_10 rfl (Qaq 107 _ _ g4 107 _ _ r4_10 rfl kj kj (isz (n := 64) kj ((Qac _ _).trans (Qa3 54 key))) (eqsz (n := 64) ((Qac _ _).trans (Qa3 54 key)) ((Qac _ _).trans (Qa3 54 key))) (Qa2 _ _)) (fun W hp => Puts.row hp r5_10 n_5_4) fun W11 p11 r4_11 => ?_
   have x11 := Puts.ext p11 x10 b4
   have r5_11 := (Puts.row p11 r5_10 n_5_4)
   refine QeZ _ g5 _ (ints .u8 (padX 92 key)) 107 r5_11 rfl (Qaq 107 _ _ g5 107 _ _ r5_11 rfl kj kj (isz (n := 64) kj ((Qac _ _).trans (Qa3 92 key))) (eqsz (n := 64) ((Qac _ _).trans (Qa3 92 key)) ((Qac _ _).trans (Qa3 92 key))) (Qa2 _ _)) (fun W hp hrw => hrw) fun W12 p12 r5_12 => ?_
   refine Qjd ?_
   refine hK23 _ _ ?_
   refine wp_ret ?_
   repeat (first | with_reducible refine goR1 ?_ | with_reducible refine goR2 ?_)
   exact (show bodyPost _ _ _ .ret _ _ from ret2 (.agg (ints .u8 (padX 54 key))) (.agg (ints .u8 (padX 92 key))) rfl (QaR g4 107 _ (Puts.row p12 r4_11 n_4_5) kj kj (isz (n := 64) kj ((Qac _ _).trans (Qa3 54 key)))) (QaR g5 107 _ r5_12 kj kj (isz (n := 64) kj ((Qac _ _).trans (Qa3 92 key)))) ⟨rfl, (Puts.ext p12 x11 b5)⟩)
 ·skip
  have hlong : ¬ 64 < key.length := by have := of_decide_eq_false c8; omega
  refine Qad ?_
  refine sg 2 kj ?_
  have r4_2 := (Qab r4_1 e2)
  refine Qfd (k := .u8) (e := 5) (z := key) (.tmp 16) (.tmp 17) 38 38 18 rfl kj kj rfl kj (off := 0) (dl := 64) (dc := 64) (n := (min key.length 64)) (xs := List.replicate 64 0) kj kj (RdK.ext hk x2) r4_2 (Nat.le_trans (show 0 + (64) ≤ 64 from (by omega)) (Nat.le_of_eq (List.length_replicate (n := 64)).symm)) rfl fun W3 p3 r4_3 => ?_
  have x3 := Puts.ext p3 x2 b4
  refine Qaj ?_
  refine hK6 _ _ ?_
  refine wp_seq_k fun K24 hK24 => ?_
  refine sgC fun K25 hK25 => ?_
  have r4_3_26 : W3.heap[g4]? = some (.cells (ints .u8 (keyB key)) 107) := QaV r4_3 (QgS hlong _ rfl)
  refine Qaa (.agg (ints .u8 (keyB key))) 19 rfl kj (Qaw 107 _ g4 107 _ _ r4_3_26 rfl kj kj (isz (n := 64) kj ((Qac _ _).trans (Qbn key)))) ?_
  refine sg 1 kj ?_
  refine sgN hK25 ?_
  refine wp_block ?_
  have n_4_5 : g4 ≠ g5 := (Qaf r4_1 l5)
  have n_5_4 : g5 ≠ g4 := (Qbe r4_1 l5)
  have r5_3 := (Puts.row p3 r5_2 n_5_4)
  refine Qa9 (fun (s2 : Nat) => [(2, .pointer (some ⟨g4, 0, none⟩)), (3, .pointer (some ⟨g5, 0, none⟩)), (19, .agg (ints .u8 (keyB key))), (20, .int .i64 ((s2 : Nat) : Int))]) (fun (s2 : Nat) W => (s2 ≤ 64) ∧ (W.heap[g4]? = some (.cells (ints .u8 (puts (padX 54 key) (keyB key) s2)) 107)) ∧ (W.heap[g5]? = some (.cells (ints .u8 (fill (padX 92 key) 64 s2)) 107)) ∧ (Qal [g4, g5] W3 W) ∧ (Ext w W)) (fun (s2 : Nat) => 64 - s2) 0 ⟨kj, kj, kj, kj, trivial⟩ ⟨(Nat.zero_le _), (QaV r4_3_26 (Qfl _ _).symm), (QaV r5_3 (Qec _ 64).symm), (Qal.refl [g4, g5] W3), x3⟩ fun s2 X2 V2 hI2 => ?_
  obtain ⟨i, hs2⟩ : ∃ z, z = s2 := ⟨_, rfl⟩
  subst hs2
  obtain ⟨hi, q4_2, q5_2, kk2, xx2⟩ := hI2
  replace hi : i ≤ 64 := hi
  replace q4_2 : V2.heap[g4]? = some (.cells (ints .u8 (puts (padX 54 key) (keyB key) i)) 107) := q4_2
  replace q5_2 : V2.heap[g5]? = some (.cells (ints .u8 (fill (padX 92 key) 64 i)) 107) := q5_2
  replace kk2 : Qal [g4, g5] W3 V2 := kk2
  replace xx2 : Ext w V2 := xx2
  have q4 := kk2
  refine sgB kj ?_
  refine wp_seq_k fun K28 hK28 => ?_
  refine Qa5 (t := decide (((i : Nat) : Int) < 64)) kj (fun c29 => ?_) (fun c29 => ?_)
  ·skip
   have hlt21 : i < 64 := by have := of_decide_eq_true c29; omega
   refine wp_skip ?_
   refine hK28 _ _ ?_
   refine wp_seq_k fun K30 hK30 => ?_
   refine wp_block ?_
   refine sgC fun K31 hK31 => ?_
   refine sg 1 kj ?_
   refine Qaa (.int .u8 (nth (keyB key) i)) 23 rfl kj (Qa6 107 _ _ .i64 .u8 (keyB key) i 64 5 (nth (keyB key) i) rfl kj kj kj kj kj (Qbn key) (by omega) rfl) ?_
   refine sg 2 kj ?_
   refine sgN hK31 ?_
   refine Qad ?_
   refine sg 3 kj ?_
   refine Qaa (.int .u8 (nth (padX 54 key) i)) 27 rfl kj (Qag (u := .int .u8 (bits .xor .u8 ((nth (keyB key) i)) (54))) kj (congrArg (Value.int .u8) (Qcd 54 key hlt21).symm)) ?_
   refine sg 1 kj ?_
   refine Qaa (.int .u8 (nth (padX 92 key) i)) 29 rfl kj (Qag (u := .int .u8 (bits .xor .u8 ((nth (keyB key) i)) (92))) kj (congrArg (Value.int .u8) (Qcd 92 key hlt21).symm)) ?_
   refine Qaa (.pointer (some ⟨g4, i, none⟩)) 30 rfl kj (Qbc _ _ _ .i64 (i) _ 64 5 rfl kj kj kj kj (by omega)) ?_
   refine Qai g4 _ (ints .u8 ((puts (padX 54 key) (keyB key) i).set i (nth (padX 54 key) i))) 107 q4_2 rfl kj (Qam 5 _ _ g4 i 107 _ _ q4_2 rfl kj kj kj (Nat.lt_of_lt_of_eq (by omega) (Qgf (Qa3 54 key) (Qbn key) (by omega)).symm)) fun W5 p5 r4_5 => ?_
   have x5 := Puts.ext p5 xx2 b4
   refine Qaa (.pointer (some ⟨g5, i, none⟩)) 31 rfl kj (Qbc _ _ _ .i64 (i) _ 64 5 rfl kj kj kj kj (by omega)) ?_
   have r5_5 := (Puts.row p5 q5_2 n_5_4)
   refine Qai g5 _ (ints .u8 ((fill (padX 92 key) 64 i).set i (nth (padX 92 key) i))) 107 r5_5 rfl kj (Qam 5 _ _ g5 i 107 _ _ r5_5 rfl kj kj kj (Nat.lt_of_lt_of_eq (by omega) (QbE (Qa3 92 key) (by omega)).symm)) fun W6 p6 r5_6 => ?_
   have x6 := Puts.ext p6 x5 b5
   refine Qaj ?_
   refine hK30 _ _ ?_
   refine Qad ?_
   refine Qaa (.int .i64 ((i + 1 : Nat) : Int)) 32 rfl kj (Qag (u := .int .i64 (IntKind.i64.wrap (((i : Nat) : Int) + 1))) kj (congrArg (Value.int .i64) (i64n _ _ (by omega) (by omega)))) ?_
   refine sg 1 kj ?_
   refine Qaj ?_
   have r4_6 := (Puts.row p6 r4_5 n_4_5)
   repeat (first | with_reducible refine goX1 ?_ | with_reducible refine goX2 ?_ | with_reducible refine goX3 ?_)
   exact Qa4 (i + 1) ⟨kj, kj, kj, kj, trivial⟩ ⟨(by omega), (QaV r4_6 (Qge (Qa3 54 key) (Qbn key) hlt21)), (QaV r5_6 (QdI (Qa3 92 key) hlt21)), (Qal.puts (Qal.puts q4 p5 (.inl (by simp))) p6 (.inl (by simp))), x6⟩ (by omega)
  ·skip
   have heq21 : i = 64 := by have := of_decide_eq_false c29; omega
   have r4_4_32 : V2.heap[g4]? = some (.cells (ints .u8 (padX 54 key)) 107) := QaV q4_2 (by rw [heq21]; exact Qfm (Qa3 54 key) (Qbn key))
   have r5_4_33 : V2.heap[g5]? = some (.cells (ints .u8 (padX 92 key)) 107) := QaV q5_2 (by rw [heq21]; exact Qed (Qa3 92 key))
   refine wp_exit ?_
   refine hK24 _ _ ?_
   refine wp_seq_k fun K34 hK34 => ?_
   refine Qei (fun W => W.heap[g5]? = some (.cells (ints .u8 (padX 92 key)) 107)) [⟨none, [(2, none)]⟩, ⟨none, [(3, none)]⟩, ⟨none, [(2, none), (33, some 0)]⟩, ⟨none, [(3, none), (34, some 1)]⟩] [] [1] kj kj kj (fun W hR => Qab r5_4_33 hR) fun F hF => ?_
   refine Qjg (.agg (ints .u8 (padX 54 key))) kj kj kj rfl (fun W hR => (Qaw 107 _ g4 107 _ _ (Qab (Qab r4_4_32 (Qas _)) hR) rfl kj kj (isz (n := 64) kj ((Qac _ _).trans (Qa3 54 key))))) ?_
   refine Qhm (.agg (ints .u8 (padX 92 key))) kj kj kj rfl (fun W hW => (Qaw 107 _ g5 107 _ _ hW rfl kj kj (isz (n := 64) kj ((Qac _ _).trans (Qa3 92 key))))) ?_
   refine QeB rfl ?_
   refine QeB rfl ?_
   refine Qkq (hF _ kj fun W5 e5 => ?_)
   simp only [List.nil_append, List.cons_append, fins, up]
   clear hF
   have x5 := Ext.tr xx2 e5
   have r4_5 := (Qab r4_4_32 e5)
   have r5_5 := (Qab r5_4_33 e5)
   refine QfV _ g4 _ (ints .u8 (padX 54 key)) 107 r4_5 rfl (Qaq 107 _ _ g4 107 _ _ r4_5 rfl kj kj (isz (n := 64) kj ((Qac _ _).trans (Qa3 54 key))) (eqsz (n := 64) ((Qac _ _).trans (Qa3 54 key)) ((Qac _ _).trans (Qa3 54 key))) (Qa2 _ _)) (fun W hp => Puts.row hp r5_5 n_5_4) fun W6 p6 r4_6 => ?_
   have x6 := Puts.ext p6 x5 b4
   have r5_6 := (Puts.row p6 r5_5 n_5_4)
   refine QeZ _ g5 _ (ints .u8 (padX 92 key)) 107 r5_6 rfl (Qaq 107 _ _ g5 107 _ _ r5_6 rfl kj kj (isz (n := 64) kj ((Qac _ _).trans (Qa3 92 key))) (eqsz (n := 64) ((Qac _ _).trans (Qa3 92 key)) ((Qac _ _).trans (Qa3 92 key))) (Qa2 _ _)) (fun W hp hrw => hrw) fun W7 p7 r5_7 => ?_
   have x7 := Puts.ext p7 x6 b5
   refine Qjd ?_
   refine hK34 _ _ ?_
   refine wp_ret ?_
   repeat (first | with_reducible refine goR1 ?_ | with_reducible refine goR2 ?_)
   have r4_7 := (Puts.row p7 r4_6 n_4_5)
   exact (show bodyPost _ _ _ .ret _ _ from ret2 (.agg (ints .u8 (padX 54 key))) (.agg (ints .u8 (padX 92 key))) rfl (QaR g4 107 _ r4_7 kj kj (isz (n := 64) kj ((Qac _ _).trans (Qa3 54 key)))) (QaR g5 107 _ r5_7 kj kj (isz (n := 64) kj ((Qac _ _).trans (Qa3 92 key)))) ⟨rfl, x7⟩)
end Go.Proofs.YtibegnjaphohaaaDoor.Sha
end
section
namespace Go.Proofs.YtibegnjaphohaaaDoor.Sha
open Go Go.RowKit
open Rely Auto Own
set_option linter.unusedVariables false
set_option linter.unusedSimpArgs false
set_option maxHeartbeats 4000000 in
theorem tagC (key : List Int) (v : Value) (B : Nat) (gp n : Nat) (Tp : TypeId) (ps : List (Value × List Int)) (hn : ps.length = n) (hn9 : n ≤ 1000000) (tc tq : TypeId) (w : World) (hc : w.heap[2]? = some (.cells (ints .u64 QaI) tc)) (hq : w.heap[1]? = some (.cells (ints .u64 Qak) tq)) (hkb : Qao key) (hkl : key.length ≤ 800000000) (hk : RdK .u8 B key v w) (hrow : w.heap[gp]? = some (.cells (ps.map Prod.fst).toArray Tp)) (hps : ∀ p ∈ ps, RdK .u8 w.heap.size p.2 p.1 w ∧ Qao p.2) (hlen : ((ps.map Prod.snd).flatten).length ≤ 800000000) :
  Calls Tryd.prog 67 #[v, .slice (some ⟨gp, 0, none⟩) n n] w (Ret w (.agg (ints .u8 (hmac key ((ps.map Prod.snd).flatten))))) := by
 obtain ⟨a_key, c_key, rfl, -⟩ := id hk
 refine enter 36 [(0, .slice a_key key.length c_key), (1, .slice (some ⟨gp, 0, none⟩) n n)] Tryd.func67 rfl rfl kj rfl ?_
 refine sgC fun K4 hK4 => ?_
 refine Qar (ints .u8 (List.replicate 32 0)) 23 4 rfl kj kj fun g5 W1 l5 e1 r5_1 => ?_
 have x1 := Ext.tr (Rely.Ext.refl w) e1
 refine sgN hK4 ?_
 refine sgC fun K6 hK6 => ?_
 refine sg 1 kj ?_
 have r1_1 := (Qab hc e1)
 have r2_1 := (Qab hq e1)
 refine Qax (.tuple #[.agg (ints .u8 (padX 54 key)), .agg (ints .u8 (padX 92 key))]) 69 #[.slice a_key key.length c_key] 13 rfl kj kj (Qlc key _ B tc tq _ r1_1 r2_1 hkb (by omega) (RdK.ext hk x1)) fun W2 e2 => ?_
 have x2 := Ext.tr x1 e2
 refine sg 3 kj ?_
 refine Qar (ints .u8 (List.replicate 64 0)) 107 5 rfl kj kj fun g7 W3 l7 e3 r7_3 => ?_
 have x3 := Ext.tr x2 e3
 refine Qar (ints .u8 (List.replicate 64 0)) 107 6 rfl kj kj fun g8 W4 l8 e4 r8_4 => ?_
 have r7_4 := (Qab r7_3 e4)
 refine Qai g7 _ (ints .u8 (padX 54 key)) 107 r7_4 rfl kj (Qaq 107 _ _ g7 107 _ _ r7_4 rfl kj kj (isz (n := 64) kj ((Qac _ _).trans (Qa3 54 key))) (eqsz (n := 64) ((Qac _ _).trans (List.length_replicate (n := 64))) ((Qac _ _).trans (Qa3 54 key))) (Qa2 _ _)) fun W5 p5 r7_5 => ?_
 have r8_5 := (Puts.row p5 r8_4 (Qbe r7_3 l8))
 refine Qai g8 _ (ints .u8 (padX 92 key)) 107 r8_5 rfl kj (Qaq 107 _ _ g8 107 _ _ r8_5 rfl kj kj (isz (n := 64) kj ((Qac _ _).trans (Qa3 92 key))) (eqsz (n := 64) ((Qac _ _).trans (List.length_replicate (n := 64))) ((Qac _ _).trans (Qa3 92 key))) (Qa2 _ _)) fun W6 p6 r8_6 => ?_
 have x6 := Puts.ext p6 (Puts.ext p5 (Ext.tr x3 e4) (Nat.le_trans x2.size l7)) (Nat.le_trans x3.size l8)
 refine sgN hK6 ?_
 refine sgC fun K9 hK9 => ?_
 have r2_2 := (Qab r2_1 e2)
 have r2_3 := (Qab r2_2 e3)
 have r2_6 := (Puts.row p6 (Puts.row p5 (Qab r2_3 e4) (Qaf r2_2 l7)) (Qaf r2_3 l8))
 refine Qa8 (fun v W' => (fun v W => ∃ g, v = .pointer (some ⟨g, 0, none⟩) ∧ W6.heap.size ≤ g ∧ HasD g [] W) v W' ∧ Ext W6 W') 70 #[] 16 rfl kj kj ((newC tq _ r2_6).mono (by rintro e w' ⟨v, rfl, e1, hv⟩; exact ⟨v, rfl, hv, e1⟩)) fun vv10 W7 hh10 => ?_
 obtain ⟨hv10, e7⟩ := hh10
 obtain ⟨gd11, rfl, ld11, hD11⟩ := hv10
 have b11 := Nat.le_trans x6.size ld11
 refine sg 1 kj ?_
 refine sgN hK9 ?_
 refine sgC fun K12 hK12 => ?_
 refine sg 2 kj ?_
 have r1_2 := (Qab r1_1 e2)
 have r1_3 := (Qab r1_2 e3)
 have r1_6 := (Puts.row p6 (Puts.row p5 (Qab r1_3 e4) (Qaf r1_2 l7)) (Qaf r1_3 l8))
 have r1_7 := (Qab r1_6 e7)
 have r7_6 := (Puts.row p6 r7_5 (Qaf r7_3 l8))
 have r7_7 := (Qab r7_6 e7)
 refine Qa8 (fun v W' => v = .tuple #[] ∧ ExtB gd11 W7 W' ∧ HasD gd11 (padX 54 key) W') 71 #[.pointer (some ⟨gd11, 0, none⟩), .slice (some ⟨g7, 0, none⟩) 64 64] 19 rfl kj kj ((addC gd11 _ [] (padX 54 key) (.slice (some ⟨g7, 0, none⟩) 64 64) tc _ r1_7 (Nat.ne_of_lt (Nat.lt_of_lt_of_le (Qat hc) b11)) (.inr (fun e => (Qaf r7_6 ld11) (Option.some.inj e))) (QbU _ _) (by rw [Qa3]; decide) (hD11) (QaK (xs := padX 54 key) (n := 64) (Qa3 54 key) r7_7 (Qat r7_7) (show 64 ≤ maxLen from by decide))).mono fun e w' h => ⟨_, h.1, rfl, h.2⟩) fun v W8 h => ?_
 obtain ⟨rfl, q8, hDp⟩ := h
 refine sgN hK12 ?_
 refine wp_seq_k fun K13 hK13 => ?_
 refine sgB kj ?_
 refine wp_block ?_
 refine Qa9 (fun (s1 : Nat) => [(20, .slice (some ⟨gp, 0, none⟩) n n), (21, .int .i64 ((n : Nat) : Int)), (22, .int .i64 ((s1 : Nat) : Int)), (7, .pointer (some ⟨gd11, 0, none⟩)), (4, .pointer (some ⟨g5, 0, none⟩)), (6, .pointer (some ⟨g8, 0, none⟩))]) (fun (s1 : Nat) W => (s1 ≤ n) ∧ (HasD gd11 (padX 54 key ++ flat ps s1) W) ∧ (Qal [gd11] W8 W) ∧ (Ext w W)) (fun (s1 : Nat) => n - s1) 0 ⟨kj, kj, kj, kj, kj, kj, trivial⟩ ⟨(Nat.zero_le _), (show HasD _ (padX 54 key ++ flat ps 0) _ from (List.append_nil (padX 54 key)).symm ▸ hDp), (Qal.refl [gd11] W8), (ExtB.up (Ext.tr x6 e7) q8 b11)⟩ fun s1 X1 V1 hI1 => ?_
 obtain ⟨i, hs1⟩ : ∃ z, z = s1 := ⟨_, rfl⟩
 subst hs1
 obtain ⟨hi, hDi, kk1, xx1⟩ := hI1
 replace hi : i ≤ n := hi
 replace hDi : HasD gd11 (padX 54 key ++ flat ps i) V1 := hDi
 replace kk1 : Qal [gd11] W8 V1 := kk1
 replace xx1 : Ext w V1 := xx1
 have q9 := kk1
 refine sgB kj ?_
 refine wp_seq_k fun K16 hK16 => ?_
 refine Qa5 (t := decide (((i : Nat) : Int) < ((n : Nat) : Int))) kj (fun c17 => ?_) (fun c17 => ?_)
 ·skip
  have hlt23 : i < n := by have := of_decide_eq_true c17; omega
  refine wp_skip ?_
  refine hK16 _ _ ?_
  refine wp_seq_k fun K18 hK18 => ?_
  refine wp_block ?_
  refine sgC fun K19 hK19 => ?_
  have hi2 : i < ps.length := by omega
  refine Qaa (.pointer (some ⟨gp, i, none⟩)) 24 rfl kj (QaX 121 _ _ .i64 i gp n n 38 rfl kj kj kj kj hlt23) ?_
  have r3_2 := (Qab (Qab hrow e1) e2)
  have r3_3 := (Qab r3_2 e3)
  have r3_6 := (Puts.row p6 (Puts.row p5 (Qab r3_3 e4) (Qaf r3_2 l7)) (Qaf r3_3 l8))
  refine Qaa ((pat ps i).1) 25 rfl kj (QaA 38 _ _ ((pat ps i).1) (Qcp (Qal.row q9 (ExtB.row q8 (Qab r3_6 e7) (Qaf r3_6 ld11)) (Qau (Qaf r3_6 ld11) QaG)) (Qjj hi2)) rfl kj kj) ?_
  refine sg 1 kj ?_
  refine sgN hK19 ?_
  refine Qad ?_
  refine sg 2 kj ?_
  have r1_8 := (ExtB.row q8 r1_7 (Qaf r1_6 ld11))
  have r1_9 := (Qal.row q9 r1_8 (Qau (Qaf r1_6 ld11) QaG))
  have hp6 := (hps _ (QeJ hi2)).1.ext xx1
  have hl6 := QhS hi2
  refine Qa8 (fun v W' => v = .tuple #[] ∧ ExtB gd11 V1 W' ∧ HasD gd11 ((padX 54 key ++ flat ps i) ++ (pat ps i).2) W') 71 #[.pointer (some ⟨gd11, 0, none⟩), (pat ps i).1] 28 rfl kj kj ((addC gd11 _ _ _ _ tc _ r1_9 (Nat.ne_of_lt (Nat.lt_of_lt_of_le (Qat hc) b11)) (hp6.nb b11) (hps _ (QeJ hi2)).2 (by rw [List.length_append, Qa3]; omega) hDi hp6).mono fun e w' h => ⟨_, h.1, rfl, h.2⟩) fun v W10 h => ?_
  obtain ⟨rfl, q10, hDn⟩ := h
  have x10 := ExtB.up xx1 q10 b11
  refine Qaj ?_
  refine hK18 _ _ ?_
  refine Qad ?_
  refine Qaa (.int .i64 ((i + 1 : Nat) : Int)) 29 rfl kj (Qag (u := .int .i64 (IntKind.i64.wrap (((i : Nat) : Int) + 1))) kj (congrArg (Value.int .i64) (i64n _ _ (by omega) (by omega)))) ?_
  refine sg 1 kj ?_
  refine Qaj ?_
  repeat (first | with_reducible refine goX1 ?_ | with_reducible refine goX2 ?_ | with_reducible refine goX3 ?_)
  exact Qa4 (i + 1) ⟨kj, kj, kj, kj, kj, kj, trivial⟩ ⟨(by omega), (by rw [QdZ hi2, ← List.append_assoc]; exact hDn), (Qal.but q9 q10 (.inl (by simp))), x10⟩ (by omega)
 ·skip
  have heq23 : i = n := by have := of_decide_eq_false c17; omega
  refine wp_exit ?_
  refine hK13 _ _ ?_
  refine sgC fun K20 hK20 => ?_
  refine sg 1 kj ?_
  have r1_8 := (ExtB.row q8 r1_7 (Qaf r1_6 ld11))
  have r1_9 := (Qal.row q9 r1_8 (Qau (Qaf r1_6 ld11) QaG))
  refine Qax (.agg (ints .u8 (dig (padX 54 key ++ flat ps i)))) 72 #[.pointer (some ⟨gd11, 0, none⟩)] 31 rfl kj kj (sumC gd11 _ tc _ r1_9 (by rw [heq23, Qde hn, List.length_append, Qa3]; omega) hDi) fun W10 e10 => ?_
  have x10 := Ext.tr xx1 e10
  refine Qar (ints .u8 (List.replicate 32 0)) 23 10 rfl kj kj fun g21 W11 l21 e11 r21_11 => ?_
  refine Qai g21 _ (ints .u8 (dig (padX 54 key ++ flat ps i))) 23 r21_11 rfl kj (Qaq 23 _ _ g21 23 _ _ r21_11 rfl kj kj (isz (n := 32) kj ((Qac _ _).trans (QaM _))) (eqsz (n := 32) ((Qac _ _).trans (List.length_replicate (n := 32))) ((Qac _ _).trans (QaM _))) (Qa2 _ _)) fun W12 p12 r21_12 => ?_
  refine sgN hK20 ?_
  refine wp_seq_k fun K22 hK22 => ?_
  refine QaQ 2 [⟨none, [(6, none)]⟩, ⟨none, [(10, none)]⟩] kj kj fun F hF => ?_
  refine Qa1 (Qan _) (.slice (some ⟨g8, 0, none⟩) 64 64) kj kj (fun W => by kernel_rfl) ?_
  refine Qa1 (Qan _) (.slice (some ⟨g21, 0, none⟩) 32 32) kj kj (fun W => by kernel_rfl) ?_
  refine Qcz (hF _ fun W13 e13 => ?_)
  simp only [List.nil_append, List.cons_append, List.take_succ_cons, List.take_zero, List.drop_succ_cons, List.drop_zero, finE, up]
  clear hF
  have x13 := Ext.tr (Puts.ext p12 (Ext.tr x10 e11) (Nat.le_trans x10.size l21)) e13
  refine QaB (#[.slice (some ⟨g8, 0, none⟩) 64 64, .slice (some ⟨g21, 0, none⟩) 32 32]) 38 2 34 rfl kj kj fun g23 W14 l23 e14 r23_14 => ?_
  have b23 := Nat.le_trans x13.size l23
  have r8_10 := (Qab (Qal.row q9 (ExtB.row q8 (Qab r8_6 e7) (Qaf r8_6 ld11)) (Qau (Qaf r8_6 ld11) QaG)) e10)
  have r8_14 := (Qab (Qab (Puts.row p12 (Qab r8_10 e11) (Qaf r8_10 l21)) e13) e14)
  have r21_14 := (Qab (Qab r21_12 e13) e14)
  have r1_10 := (Qab r1_9 e10)
  have r2_10 := (Qab (Qal.row q9 (ExtB.row q8 (Qab r2_6 e7) (Qaf r2_6 ld11)) (Qau (Qaf r2_6 ld11) QaG)) e10)
  have hps24 : ∀ p ∈ ([(.slice (some ⟨g8, 0, none⟩) 64 64, padX 92 key), (.slice (some ⟨g21, 0, none⟩) 32 32, dig (padX 54 key ++ flat ps i))] : List (Value × List Int)), RdK .u8 W14.heap.size p.2 p.1 W14 ∧ Qao p.2 := by
   intro p hp
   simp only [List.mem_cons, List.not_mem_nil, or_false] at hp
   rcases hp with rfl | rfl
   ·exact ⟨RdK.here (QaK (xs := padX 92 key) (n := 64) (Qa3 92 key) r8_14 (Qat r8_14) (show 64 ≤ maxLen from by decide)), (QbU _ _)⟩
   ·exact ⟨RdK.here (QaK (xs := dig (padX 54 key ++ flat ps i)) (n := 32) (QaM _) r21_14 (Qat r21_14) (show 32 ≤ maxLen from by decide)), (Qdi _)⟩
  have hsh24 := Qjh g23 2 _ ([(.slice (some ⟨g8, 0, none⟩) 64 64, padX 92 key), (.slice (some ⟨g21, 0, none⟩) 32 32, dig (padX 54 key ++ flat ps i))] : List (Value × List Int)) rfl (by decide) tc tq W14 (Qab (Qab (Puts.row p12 (Qab r1_10 e11) (Qaf r1_10 l21)) e13) e14) (Qab (Qab (Puts.row p12 (Qab r2_10 e11) (Qaf r2_10 l21)) e13) e14) r23_14 hps24 (by simp only [List.map_cons, List.map_nil, List.flatten_cons, List.flatten_nil, List.append_nil, List.length_append, (QaM _), (Qa3 92 key)]; omega)
  rw [show ((List.map Prod.snd ([(.slice (some ⟨g8, 0, none⟩) 64 64, padX 92 key), (.slice (some ⟨g21, 0, none⟩) 32 32, dig (padX 54 key ++ flat ps i))] : List (Value × List Int))).flatten) = (padX 92 key) ++ (dig (padX 54 key ++ flat ps i)) by simp only [List.map_cons, List.map_nil, List.flatten_cons, List.flatten_nil, List.append_nil]] at hsh24
  refine Qax (.agg (ints .u8 (dig ((padX 92 key) ++ (dig (padX 54 key ++ flat ps i)))))) 73 #[.slice (some ⟨g23, 0, none⟩) 2 2] 35 rfl kj kj hsh24 fun W15 e15 => ?_
  have r5_2 := (Qab r5_1 e2)
  have r5_3 := (Qab r5_2 e3)
  have r5_6 := (Puts.row p6 (Puts.row p5 (Qab r5_3 e4) (Qaf r5_2 l7)) (Qaf r5_3 l8))
  have r5_10 := (Qab (Qal.row q9 (ExtB.row q8 (Qab r5_6 e7) (Qaf r5_6 ld11)) (Qau (Qaf r5_6 ld11) QaG)) e10)
  have r5_15 := (Qab (Qab (Qab (Puts.row p12 (Qab r5_10 e11) (Qaf r5_10 l21)) e13) e14) e15)
  refine Qai g5 _ (ints .u8 (dig ((padX 92 key) ++ (dig (padX 54 key ++ flat ps i))))) 23 r5_15 rfl kj (Qaq 23 _ _ g5 23 _ _ r5_15 rfl kj kj (isz (n := 32) kj ((Qac _ _).trans (QaM _))) (eqsz (n := 32) ((Qac _ _).trans (List.length_replicate (n := 32))) ((Qac _ _).trans (QaM _))) (Qa2 _ _)) fun W16 p16 r5_16 => ?_
  refine sgN hK22 ?_
  refine wp_ret ?_
  repeat (first | with_reducible refine goR1 ?_ | with_reducible refine goR2 ?_)
  exact (show bodyPost _ _ _ .ret _ _ from ret1 (.agg (ints .u8 (dig ((padX 92 key) ++ (dig (padX 54 key ++ flat ps i)))))) rfl (QaR g5 23 _ r5_16 kj kj (isz (n := 32) kj ((Qac _ _).trans (QaM _)))) ⟨by unfold hmac; rw [heq23, Qde hn], (Puts.ext p16 (Ext.tr (Ext.tr x13 e14) e15) (Nat.le_trans (Rely.Ext.refl w).size l5))⟩)
end Go.Proofs.YtibegnjaphohaaaDoor.Sha
end
section
namespace Go.Proofs.YtibegnjaphohaaaDoor.Auto
open Go Go.RowKit
open Rely Own
set_option linter.unusedVariables false
set_option linter.unusedSimpArgs false
section
variable {P : Program} {w : World} {k kn : IntKind} {T : TypeId} {t tn ty : TypeId}
end
end Go.Proofs.YtibegnjaphohaaaDoor.Auto
end
section
namespace Go.Proofs.YtibegnjaphohaaaDoor.Sha
open Go Go.RowKit
open Rely Auto Own
set_option linter.unusedVariables false
set_option linter.unusedSimpArgs false
theorem Qb4 {a b : List Int} (ha : Qao a) (hb : Qao b) : Qao (a ++ b) := fun x hx => by
  rcases List.mem_append.1 hx with h | h
  · exact ha x h
  · exact hb x h
section
variable {ds : List Deferred} {P : Program} {ops : Array Oper} {Q : Exit → Act → World → Prop} {rest : List Oper} {o : Oper} {N : Nat} {L : Env} {W : World}
end
end Go.Proofs.YtibegnjaphohaaaDoor.Sha
end
section
namespace Go.Proofs.YtibegnjaphohaaaDoor.Sha
open Go Go.RowKit
open Rely Auto Own
set_option linter.unusedVariables false
set_option linter.unusedSimpArgs false
def tg (key info : List Int) : Nat → List Int
  | 0 => []
  | i + 1 => hmac key ((tg key info i ++ info) ++ [((i + 1 : Nat) : Int)])
def okm (key info : List Int) : Nat → List Int
  | 0 => []
  | k + 1 => okm key info k ++ tg key info (k + 1)
theorem Qhj (key info : List Int) (i : Nat) : (tg key info i).length ≤ 32 := by
  cases i with
  | zero => exact Nat.zero_le _
  | succ i => exact Nat.le_of_eq (Qbs _ _)
theorem QeA (key info : List Int) (i : Nat) : Qao (tg key info i) := by
  cases i with
  | zero => intro x hx; cases hx
  | succ i => exact QgV _ _
theorem QcO (key info : List Int) (k : Nat) : (okm key info k).length = 32 * k := by
  induction k with
  | zero => rfl
  | succ k ih => rw [okm, List.length_append, ih, tg, Qbs]; omega
theorem QiP (key info : List Int) (k n : Nat) : decide ((((okm key info k).length : Nat) : Int) < ((n : Nat) : Int)) = decide (32 * k < n) := by
  rw [QcO]
  exact decide_eq_decide.2 (by omega)
theorem u8_n (k : Nat) (h : k + 1 ≤ 255) : IntKind.u8.wrap ((k + 1 : Nat) : Int) = ((k + 1 : Nat) : Int) := by rw [Qih]; omega
end Go.Proofs.YtibegnjaphohaaaDoor.Sha
end
section
namespace Go.Proofs.YtibegnjaphohaaaDoor.Sha
open Go Go.RowKit
open Rely Auto Own
set_option linter.unusedVariables false
set_option linter.unusedSimpArgs false
set_option maxHeartbeats 4000000 in
theorem QgB (m : Nat) (gs : List Nat) (g1 g2 B : Nat) (key info : List Int) (a_key a_info : Option Addr) (c_key c_info : Nat) (tc tq : TypeId) (w : World) (hkl : key.length ≤ 800000000) (hil : info.length ≤ 700000000) (hkb : Qao key) (hib : Qao info)
  (hBw : B ≤ w.heap.size) (hgs : ∀ c ∈ gs, B ≤ c) (hgl : ∀ c ∈ gs, c < w.heap.size) (hkw : RdK .u8 B key (.slice a_key key.length c_key) w) (hiw : RdK .u8 B info (.slice a_info info.length c_info) w)
  (hcw : w.heap[2]? = some (.cells (ints .u64 QaI) tc)) (hqw : w.heap[1]? = some (.cells (ints .u64 Qak) tq)) (r1w : w.heap[g1]? = some (.cells #[.slice a_key key.length c_key] 38)) (r2w : w.heap[g2]? = some (.cells #[.slice a_info info.length c_info] 38)) (n1 : g1 ∉ gs) (n2 : g2 ∉ gs) (nc : 2 ∉ gs) (nq : 1 ∉ gs) :
  SeqStopsK Fence.wide m Tryd.prog 66 #[.pointer (some ⟨g1, 0, none⟩), .pointer (some ⟨g2, 0, none⟩)] (fun i : Nat => #[Value.agg (ints .u8 (tg key info (i + 1)))]) (Qb7 gs) (fun ys => ys = List.range 255) (fun ys => ∃ k, ys = List.range k ∧ k ≤ 255) 256 w := fun l J Jx Wi hW hJ hJx hY h0 => by
 refine callsIn_wide.2 ?_
 have hwi := hW.size
 have hBi : B ≤ Wi.heap.size := Nat.le_trans hBw hwi
 have hk := hkw.ext hW
 have hi := hiw.ext hW
 have hc := Qab hcw hW
 have hq := Qab hqw hW
 refine enter 24 [(0, .func (.yield l) #[] #[]), (1, .pointer (some ⟨g1, 0, none⟩)), (2, .pointer (some ⟨g2, 0, none⟩))] Tryd.func66 rfl rfl kj rfl ?_
 refine sgB kj ?_
 refine sgB kj ?_
 refine wp_block ?_
 refine Qa9 (fun (s1 : Nat × Value) => [(0, .func (.yield l) #[] #[]), (1, .pointer (some ⟨g1, 0, none⟩)), (2, .pointer (some ⟨g2, 0, none⟩)), (4, s1.2), (5, .int .i64 ((s1.1 + 1 : Nat) : Int))]) (fun (s1 : Nat × Value) W => (s1.1 ≤ 255) ∧ (J (List.range s1.1) W) ∧ (W.heap[g1]? = some (.cells #[.slice a_key key.length c_key] 38)) ∧ (W.heap[g2]? = some (.cells #[.slice a_info info.length c_info] 38)) ∧ (W.heap[2]? = some (.cells (ints .u64 QaI) tc)) ∧ (W.heap[1]? = some (.cells (ints .u64 Qak) tq)) ∧ (RdK .u8 B key (.slice a_key key.length c_key) W) ∧ (RdK .u8 B info (.slice a_info info.length c_info) W) ∧ (OwnN .u8 23 Wi.heap.size (tg key info s1.1) s1.2 W) ∧ (Grew Wi W)) (fun (s1 : Nat × Value) => 255 - s1.1) (0, (.slice none 0 0)) ⟨kj, kj, kj, kj, kj, trivial⟩ ⟨(by decide), (show J (List.range 0) _ from h0), (Qab r1w hW), (Qab r2w hW), hc, hq, hk, hi, (Qbv _ _ _ _), (Grew.refl Wi)⟩ fun s1 X1 V1 hI1 => ?_
 obtain ⟨k, v⟩ := s1
 obtain ⟨hkl_, hJ1, rr1, rr2, rrc, rrq, hk1, hi1, hv, xx1⟩ := hI1
 replace hkl_ : k ≤ 255 := hkl_
 replace hJ1 : J (List.range k) V1 := hJ1
 replace rr1 : V1.heap[g1]? = some (.cells #[.slice a_key key.length c_key] 38) := rr1
 replace rr2 : V1.heap[g2]? = some (.cells #[.slice a_info info.length c_info] 38) := rr2
 replace rrc : V1.heap[2]? = some (.cells (ints .u64 QaI) tc) := rrc
 replace rrq : V1.heap[1]? = some (.cells (ints .u64 Qak) tq) := rrq
 replace hk1 : RdK .u8 B key (.slice a_key key.length c_key) V1 := hk1
 replace hi1 : RdK .u8 B info (.slice a_info info.length c_info) V1 := hi1
 replace hv : OwnN .u8 23 Wi.heap.size (tg key info k) v V1 := hv
 replace xx1 : Grew Wi V1 := xx1
 obtain ⟨a4, c4, rfl, -⟩ := id (OwnN.rd hv)
 refine wp_seq_k fun K7 hK7 => ?_
 refine sgB kj ?_
 refine Qa5 (t := decide (((k + 1 : Nat) : Int) ≤ 255)) kj (fun c9 => ?_) (fun c9 => ?_)
 ·skip
  have hlt : k + 1 ≤ 255 := by have := of_decide_eq_true c9; omega
  have htl := Qhj key info k
  have hl1 : [((k + 1 : Nat) : Int)].length = 1 := rfl
  refine wp_skip ?_
  refine hK7 _ _ ?_
  refine wp_seq_k fun K10 hK10 => ?_
  refine wp_block ?_
  refine sgC fun K11 hK11 => ?_
  refine Qaa (.slice a_key key.length c_key) 11 rfl kj (Qah 38 _ g1 0 38 _ (.slice a_key key.length c_key) _ rr1 rfl kj kj kj) ?_
  refine sg 1 kj ?_
  refine Qaa (.slice a_info info.length c_info) 13 rfl kj (Qah 38 _ g2 0 38 _ (.slice a_info info.length c_info) _ rr2 rfl kj kj kj) ?_
  refine sg 1 kj ?_
  refine Qaa (.int .u8 (((k + 1 : Nat) : Int))) 15 rfl kj (Qag (u := .int .u8 (IntKind.u8.wrap ((k + 1 : Nat) : Int))) kj (congrArg (Value.int .u8) (u8_n _ (by omega)))) ?_
  refine QaB (ints .u8 ([(((k + 1 : Nat) : Int))])) 5 1 16 rfl kj kj fun g12 W2 l12 e2 r12_2 => ?_
  have x2 := Grew.ext xx1 e2
  have b12 := Nat.le_trans xx1.size l12
  refine QaB (#[.slice a4 ((tg key info k).length) c4, .slice a_info info.length c_info, .slice (some ⟨g12, 0, none⟩) 1 1]) 38 3 17 rfl kj kj fun g13 W3 l13 e3 r13_3 => ?_
  have b13 := Nat.le_trans x2.size l13
  have f16_3 := ((hk1.ext e2).ext e3)
  have f20_3 := ((hi1.ext e2).ext e3)
  have r12_3 := (Qab r12_2 e3)
  have r1_3 := (Qab (Qab rrc e2) e3)
  have r2_3 := (Qab (Qab rrq e2) e3)
  have hps14 : ∀ p ∈ ([(.slice a4 ((tg key info k).length) c4, tg key info k), (.slice a_info info.length c_info, info), (.slice (some ⟨g12, 0, none⟩) 1 1, [(((k + 1 : Nat) : Int))])] : List (Value × List Int)), RdK .u8 W3.heap.size p.2 p.1 W3 ∧ Qao p.2 := by
   intro p hp
   simp only [List.mem_cons, List.not_mem_nil, or_false] at hp
   rcases hp with rfl | rfl | rfl
   ·exact ⟨RdK.here (OwnN.rd ((hv.ext e2).ext e3)), (QeA _ _ _)⟩
   ·exact ⟨RdK.here f20_3, hib⟩
   ·exact ⟨RdK.here (QaK (xs := [(((k + 1 : Nat) : Int))]) (n := 1) rfl r12_3 (Qat r12_3) (show 1 ≤ maxLen from by decide)), (fun x hx => by rw [List.mem_singleton] at hx; subst hx; omega)⟩
  have htg14 := tagC (key) (.slice a_key key.length c_key) _ g13 3 _ ([(.slice a4 ((tg key info k).length) c4, tg key info k), (.slice a_info info.length c_info, info), (.slice (some ⟨g12, 0, none⟩) 1 1, [(((k + 1 : Nat) : Int))])] : List (Value × List Int)) rfl (by decide) tc tq W3 r1_3 r2_3 hkb (by omega) f16_3 r13_3 hps14 (by simp only [List.map_cons, List.map_nil, List.flatten_cons, List.flatten_nil, List.append_nil, List.length_append]; omega)
  rw [show ((List.map Prod.snd ([(.slice a4 ((tg key info k).length) c4, tg key info k), (.slice a_info info.length c_info, info), (.slice (some ⟨g12, 0, none⟩) 1 1, [(((k + 1 : Nat) : Int))])] : List (Value × List Int))).flatten) = (tg key info k) ++ info ++ ([(((k + 1 : Nat) : Int))]) by simp only [List.map_cons, List.map_nil, List.flatten_cons, List.flatten_nil, List.append_nil, List.append_assoc]] at htg14
  refine Qax (.agg (ints .u8 (hmac (key) ((tg key info k) ++ info ++ ([(((k + 1 : Nat) : Int))]))))) 67 #[.slice a_key key.length c_key, .slice (some ⟨g13, 0, none⟩) 3 3] 18 rfl kj kj htg14 fun W4 e4 => ?_
  have x4 := Grew.ext (Grew.ext x2 e3) e4
  refine Qar (ints .u8 (List.replicate 32 0)) 23 6 rfl kj kj fun g21 W5 l21 e5 r21_5 => ?_
  have b21 := Nat.le_trans x4.size l21
  refine Qai g21 _ (ints .u8 (hmac (key) ((tg key info k) ++ info ++ ([(((k + 1 : Nat) : Int))])))) 23 r21_5 rfl kj (Qaq 23 _ _ g21 23 _ _ r21_5 rfl kj kj (isz (n := 32) kj ((Qac _ _).trans (Qbs _ _))) (eqsz (n := 32) ((Qac _ _).trans (List.length_replicate (n := 32))) ((Qac _ _).trans (Qbs _ _))) (Qa2 _ _)) fun W6 p6 r21_6 => ?_
  have r21_6_22 : W6.heap[g21]? = some (.cells (ints .u8 (tg key info (k + 1))) 23) := QaV r21_6 rfl
  refine sgN hK11 ?_
  refine wp_seq_k fun K23 hK23 => ?_
  refine wp_seq_k fun K24 hK24 => ?_
  refine (wpIn_wide (n := m)).1 ?_
  refine Qc5 ?_
  refine Qd6 (.func (.yield l) #[] #[]) 19 rfl (QbV _ _) rfl kj kj ?_
  refine Qd6 (.agg (ints .u8 (tg key info (k + 1)))) 20 rfl (QbV _ _) rfl kj (Qaw 23 _ g21 23 _ _ r21_6_22 rfl kj kj (isz (n := 32) kj ((Qac _ _).trans (Qbs _ _)))) ?_
  have y1_4 := (Rely.Ext.trans (Rely.Ext.trans (Rely.Ext.trans (Rely.Ext.refl V1) e2) e3) e4)
  refine QiJ (m := m) (l := l) (args := #[.agg (ints .u8 (tg key info (k + 1)))]) 21 rfl rfl kj kj (hY (List.range k) k W6 (Qha hJ hJ1 (Puts.ext p6 (Rely.Ext.trans y1_4 e5) (Nat.le_trans y1_4.size l21))) (by rw [List.length_range]; omega)) (fun W' hA => ?_) (fun W' hA => ?_)
  ·skip
   obtain ⟨W7, hW7⟩ : ∃ z, z = W' := ⟨_, rfl⟩
   rw [← hW7] at hA ⊢
   obtain ⟨hj25, hk25⟩ := hA
   refine Qd6 (.bool false) 22 rfl (QbV _ _) rfl kj kj ?_
   refine Qf1 ?_
   refine hK24 _ _ ?_
   refine cond_false kj ?_
   refine wp_skip ?_
   refine hK23 _ _ ?_
   refine sgA kj ?_
   refine hK10 _ _ ?_
   refine Qad ?_
   refine sg 1 kj ?_
   refine Qaa (.int .i64 (((k + 1) + 1 : Nat) : Int)) 10 rfl kj (Qag (u := .int .i64 (IntKind.i64.wrap (((k + 1 : Nat) : Int) + 1))) kj (congrArg (Value.int .i64) (i64n _ _ (by omega) (by omega)))) ?_
   refine sg 1 kj ?_
   refine Qaj ?_
   have r3_4 := (Qab (Qab (Qab rr1 e2) e3) e4)
   have r4_4 := (Qab (Qab (Qab rr2 e2) e3) e4)
   have r1_4 := (Qab r1_3 e4)
   have r2_4 := (Qab r2_3 e4)
   have r21_7 := (Qb7.row hk25 r21_6_22 (fun hm => by have h1 := hgl _ hm; have h2 := b21; omega))
   repeat (first | with_reducible refine goX1 ?_ | with_reducible refine goX2 ?_ | with_reducible refine goX3 ?_)
   exact Qa4 ((k + 1), .slice (some ⟨g21, 0, none⟩) 32 32) ⟨kj, kj, kj, kj, kj, trivial⟩ ⟨(by omega), (by rw [List.range_succ]; exact hj25), (Qb7.row hk25 (Puts.row p6 (Qab r3_4 e5) (Qaf r3_4 l21)) n1), (Qb7.row hk25 (Puts.row p6 (Qab r4_4 e5) (Qaf r4_4 l21)) n2), (Qb7.row hk25 (Puts.row p6 (Qab r1_4 e5) (Qaf r1_4 l21)) nc), (Qb7.row hk25 (Puts.row p6 (Qab r2_4 e5) (Qaf r2_4 l21)) nq), (RdK.keepC (((f16_3.ext e4).ext e5).puts p6 (Nat.le_trans hBi b21)) hk25 hgs), (RdK.keepC (((f20_3.ext e4).ext e5).puts p6 (Nat.le_trans hBi b21)) hk25 hgs), (QbD (xs := tg key info (k + 1)) (Qbs _ _) b21 r21_7 (by decide)), (Grew.keepC (Grew.puts (Grew.ext x4 e5) p6) hk25)⟩ (by show 255 - (k + 1) < 255 - k; omega)
  ·skip
   obtain ⟨W7, hW7⟩ : ∃ z, z = W' := ⟨_, rfl⟩
   rw [← hW7] at hA ⊢
   refine Qd6 (.bool true) 22 rfl (QbV _ _) rfl kj kj ?_
   refine Qf1 ?_
   refine hK24 _ _ ?_
   refine cond_true kj ?_
   refine wp_ret ?_
   repeat (first | with_reducible refine goR1 ?_ | with_reducible refine goR2 ?_)
   exact (show bodyPost _ _ _ .ret _ _ from ret0 rfl ⟨⟨_, rfl⟩, .inr ⟨_, ⟨k + 1, List.range_succ.symm, hlt⟩, hA⟩⟩)
 ·skip
  have hke : k = 255 := by have := of_decide_eq_false c9; omega
  refine wp_exit ?_
  repeat (first | with_reducible refine goX1 ?_ | with_reducible refine goX2 ?_ | with_reducible refine goX3 ?_)
  exact (show bodyPost _ _ _ .normal _ _ from end0 rfl ⟨⟨_, rfl⟩, .inl ⟨_, congrArg List.range hke, hJ1⟩⟩)
end Go.Proofs.YtibegnjaphohaaaDoor.Sha
end
