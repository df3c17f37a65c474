/- Texts of this claim, joined (O1). -/
import Derived.Test.YtibegnjaphohaaaDoorZO0

section
namespace Go.Proofs.YtibegnjaphohaaaDoor.Sha
open Go Go.RowKit
open Rely Auto Own
set_option linter.unusedVariables false
set_option linter.unusedSimpArgs false
theorem Qhq (n : Nat) (h0 : 0 < n) (hn : n < 32) : IntKind.u64.wrap (-(n : Int)) = 18446744073709551616 - (n : Int) := by
  have : IntKind.u64.wrap (-(n : Int)) = (-(n : Int)) % 2 ^ 64 := rfl
  rw [this]; omega
theorem Qka : ∀ n : Nat, 0 < n → n < 32 → bits .and .u64 (18446744073709551616 - (n : Int)) 31 = ((32 - n : Nat) : Int) := by
  have h : ∀ n : Fin 32, 0 < n.1 → bits .and .u64 (18446744073709551616 - (n.1 : Int)) 31 = ((32 - n.1 : Nat) : Int) := by decide
  intro n h0 hn
  exact h ⟨n, hn⟩ h0
theorem QiY (n : Nat) (hn : n < 32) : IntKind.u64.wrap (32 - ((32 - n : Nat) : Int)) = ((n : Nat) : Int) := by
  have : ∀ z : Int, IntKind.u64.wrap z = z % 2 ^ 64 := fun _ => rfl
  rw [this]; omega
set_option maxHeartbeats 4000000 in
theorem rotC (x : Wd) (n : Nat) (m : Int) (hm : m = -(n : Int)) (h0 : 0 < n) (hn : n < 32) (w : World) : Calls Tryd.prog 77 #[.int .u32 (wv x), .int .i64 m] w (Ret w (.int .u32 (wv (rr x n)))) := by
  refine enter 17 [(0, .int .u32 (wv x)), (1, .int .i64 m)] Tryd.func77 rfl rfl kj rfl ?_
  refine wp_seq_k fun K1 hK1 => ?_
  refine Qab ?_
  refine Qaa (.int .u32 0) 4 rfl kj kj ?_
  refine Qac ?_
  refine hK1 _ _ ?_
  refine wp_seq_k fun K2 hK2 => ?_
  refine Qab ?_
  refine Qaa (.int .i64 m) 6 rfl kj kj ?_
  refine Qaa (.int .u64 (18446744073709551616 - (n : Int))) 7 rfl kj (Qah (u := .int .u64 (IntKind.u64.wrap (m))) kj (congrArg (Value.int .u64) (by rw [hm]; exact Qhq n h0 hn))) ?_
  refine Qaa (.int .u64 (((32 - n : Nat) : Int))) 8 rfl kj (Qah (u := .int .u64 (bits .and .u64 ((18446744073709551616 - (n : Int))) (31))) kj (congrArg (Value.int .u64) (Qka n h0 hn))) ?_
  refine Qaa (.int .u64 (((32 - n : Nat) : Int))) 5 rfl kj kj ?_
  refine Qac ?_
  refine hK2 _ _ ?_
  refine wp_seq_k fun K3 hK3 => ?_
  refine Qab ?_
  refine Qaa (.int .u32 (wv x)) 9 rfl kj kj ?_
  refine Qaa (.int .u64 (((32 - n : Nat) : Int))) 10 rfl kj kj ?_
  refine Qaa (.int .u32 (wv (x <<< (32 - n)))) 11 rfl kj (Qa1 .shl _ _ _ _ .u32 .u64 _ _ _ rfl kj kj (Qfk _ _ _ _ _ _ (by omega) (QiV x _ (32 - n) rfl (by omega)))) ?_
  refine Qaa (.int .u32 (wv x)) 12 rfl kj kj ?_
  refine Qaa (.int .u64 (((32 - n : Nat) : Int))) 13 rfl kj kj ?_
  refine Qaa (.int .u64 (((n : Nat) : Int))) 14 rfl kj (Qah (u := .int .u64 (IntKind.u64.wrap (32 - ((32 - n : Nat) : Int)))) kj (congrArg (Value.int .u64) (QiY n hn))) ?_
  refine Qaa (.int .u32 (wv (x >>> n))) 15 rfl kj (Qa1 .shr _ _ _ _ .u32 .u64 _ _ _ rfl kj kj (QaO _ _ _ _ _ _ (by omega) (Qbc x _ n rfl (by omega)))) ?_
  refine Qaa (.int .u32 (wv (((x <<< (32 - n))) ||| ((x >>> n))))) 16 rfl kj (Qah (u := .int .u32 (bits .or .u32 (wv (x <<< (32 - n))) (wv (x >>> n)))) kj (congrArg (Value.int .u32) (w_or _ _))) ?_
  refine Qaa (.int .u32 (wv (((x <<< (32 - n))) ||| ((x >>> n))))) 4 rfl kj kj ?_
  refine Qac ?_
  refine hK3 _ _ ?_
  refine wp_ret ?_
  repeat (first | with_reducible refine goR1 ?_ | with_reducible refine goR2 ?_)
  exact (show bodyPost _ _ _ .ret _ _ from ret1 (.int .u32 (wv (((x <<< (32 - n))) ||| ((x >>> n))))) rfl (Qa9 kj) ⟨rfl, (Rely.Ext.refl w)⟩)
theorem Qcj (ws : List Wd) (n : Nat) : (wmore ws n).length = ws.length + n := by
  induction n with
  | zero => rfl
  | succ n ih => simp [wmore, ih]; omega
theorem QeT (b : List Int) : (w16 b).length = 16 := by simp [w16]
theorem Qc6 (b : List Int) : (w64 b).length = 64 := by rw [w64, Qcj, QeT]
theorem Qd0 (ws : List Wd) (n m j : Nat) (hj : j < ws.length + n) (hm : n ≤ m) : wget (wmore ws m) j = wget (wmore ws n) j := by
  induction m with
  | zero =>
    obtain rfl : n = 0 := by omega
    rfl
  | succ m ih =>
    rcases Nat.lt_or_ge m n with h | h
    · obtain rfl : n = m + 1 := by omega
      rfl
    · rw [← ih h]
      show wget (wmore ws m ++ _) j = _
      unfold wget
      rw [List.getD_eq_getElem?_getD, List.getElem?_append_left (by rw [Qcj]; omega), ← List.getD_eq_getElem?_getD]
theorem QfO (ws : List Wd) (n : Nat) : wget (wmore ws (n + 1)) (ws.length + n) = wnext (wmore ws n) := by
  show wget (wmore ws n ++ [_]) _ = _
  unfold wget
  rw [List.getD_eq_getElem?_getD, List.getElem?_append_right (by rw [Qcj]; omega), Qcj, Nat.sub_self]
  rfl
theorem Qhr (b : List Int) (i : Nat) (h : 16 ≤ i) (hi : i < 64) : wget (w64 b) i = sig1 (wget (w64 b) (i - 2)) + wget (w64 b) (i - 7) + sig0 (wget (w64 b) (i - 15)) + wget (w64 b) (i - 16) := by
  obtain ⟨n, rfl⟩ : ∃ n, i = 16 + n := ⟨i - 16, by omega⟩
  have hl := QeT b
  have g : ∀ j, j < 16 + n → wget (w64 b) j = wget (wmore (w16 b) n) j := fun j hj => Qd0 (w16 b) n 48 j (by omega) (by omega)
  have g1 : wget (w64 b) (16 + n) = wget (wmore (w16 b) (n + 1)) (16 + n) := Qd0 (w16 b) (n + 1) 48 _ (by omega) (by omega)
  rw [g1, g _ (by omega), g _ (by omega), g _ (by omega), g _ (by omega)]
  have h2 := QfO (w16 b) n
  rw [hl] at h2
  rw [h2]
  unfold wnext
  rw [Qcj, hl]
theorem Qis (b : List Int) (i : Nat) (hi : i < 16) : wget (w64 b) i = be4 (nth b (4 * i)) (nth b (4 * i + 1)) (nth b (4 * i + 2)) (nth b (4 * i + 3)) := by
  have g1 : wget (w64 b) i = wget (w16 b) i := Qd0 (w16 b) 0 48 i (by rw [QeT]; omega) (by omega)
  rw [g1]
  unfold wget w16
  rw [List.getD_eq_getElem?_getD, List.getElem?_map, List.getElem?_range hi]
  rfl
def hor (b : List Int) (i : Nat) : Nat → Wd
  | 0 => 0
  | j + 1 => hor b i j <<< 8 ||| BitVec.ofInt 32 (nth b (4 * i + j))
theorem QhP {b : List Int} (hb : Qao b) (i j : Nat) : hor b i j <<< 8 ||| BitVec.ofInt 32 (nth b (4 * i + j)) = hor b i (j + 1) := rfl
theorem Qel (x : Wd) (n : Int) (h : 0 ≤ n ∧ n ≤ 255) : x <<< 8 ||| BitVec.ofInt 32 n = BitVec.ofInt 32 (wv x * 256 + n) := by
  have e : x <<< 8 ||| BitVec.ofInt 32 n = x <<< 8 + BitVec.ofInt 32 n := by
    refine (BitVec.add_eq_or_of_and_eq_zero _ _ ?_).symm
    apply BitVec.eq_of_getLsbD_eq
    intro i hi
    simp only [BitVec.getLsbD_and, BitVec.getLsbD_shiftLeft, BitVec.getLsbD_zero]
    rcases Nat.lt_or_ge i 8 with h1 | h1
    · simp [h1]
    · have : (BitVec.ofInt 32 n).getLsbD i = false := by
        have hn : (BitVec.ofInt 32 n).toNat < 2 ^ i := by
          have e : (BitVec.ofInt 32 n).toNat = n.toNat := by rw [BitVec.toNat_ofInt]; omega
          rw [e]
          have : 2 ^ 8 ≤ 2 ^ i := Nat.pow_le_pow_right (by decide) h1
          omega
        exact BitVec.testBit_toNat _ ▸ Nat.testBit_lt_two_pow hn
      rw [this, Bool.and_false]
  rw [e]
  apply BitVec.eq_of_toNat_eq
  rw [BitVec.toNat_add, BitVec.toNat_shiftLeft, Nat.shiftLeft_eq, BitVec.toNat_ofInt, BitVec.toNat_ofInt]
  unfold wv
  have := x.isLt
  omega
theorem hor4 {b : List Int} (hb : Qao b) (i : Nat) : hor b i 4 = be4 (nth b (4 * i)) (nth b (4 * i + 1)) (nth b (4 * i + 2)) (nth b (4 * i + 3)) := by
  have h0 := hb.nth (4 * i)
  have h1 := hb.nth (4 * i + 1)
  have h2 := hb.nth (4 * i + 2)
  have h3 := hb.nth (4 * i + 3)
  show ((((0 : Wd) <<< 8 ||| BitVec.ofInt 32 (nth b (4 * i + 0))) <<< 8 ||| BitVec.ofInt 32 (nth b (4 * i + 1))) <<< 8 ||| BitVec.ofInt 32 (nth b (4 * i + 2))) <<< 8 ||| BitVec.ofInt 32 (nth b (4 * i + 3)) = _
  rw [Nat.add_zero, Qel _ _ h3, Qel _ _ h2, Qel _ _ h1, Qel _ _ h0]
  unfold be4
  apply BitVec.eq_of_toNat_eq
  rw [BitVec.toNat_ofInt, BitVec.toNat_ofInt]
  simp only [Qfm]
  have : wv 0 = 0 := rfl
  rw [this]
  omega
theorem QjZ {b : List Int} (hb : Qao b) (i : Nat) : IntKind.u32.wrap (nth b i) = wv (BitVec.ofInt 32 (nth b i)) := by rw [Qfn, Qfm]
theorem Qhf {b : List Int} {i : Nat} (h : ((w64 b).map wv).length = 64) (hi : i < 64) : fill ((w64 b).map wv) 64 i = (fill ((w64 b).map wv) 64 i).set i (wv (hor b i 0)) := by
  have e : nth (fill ((w64 b).map wv) 64 i) i = 0 := Qhd h (Nat.le_refl _)
  have h0 : wv (hor b i 0) = nth (fill ((w64 b).map wv) 64 i) i := by rw [e]; rfl
  rw [h0]
  have hl : i < (fill ((w64 b).map wv) 64 i).length := by rw [Qbt h (by omega)]; exact hi
  rw [show nth (fill ((w64 b).map wv) 64 i) i = (fill ((w64 b).map wv) 64 i)[i] by simp [nth, hl], List.set_getElem_self]
theorem Qhe {b : List Int} {i : Nat} (h : ((w64 b).map wv).length = 64) (hi : i < 16) (hb : Qao b) : (fill ((w64 b).map wv) 64 i).set i (wv (hor b i 4)) = fill ((w64 b).map wv) 64 (i + 1) := by
  rw [← Qdx h (by omega), Qc8, hor4 hb, Qis b i hi]
set_option maxHeartbeats 4000000 in
theorem Qiw (b : List Int) (hbl : b.length = 64) (hbb : Qao b) (w : World) : Calls Tryd.prog 76 #[.agg (ints .u8 b)] w (Ret w (.agg (ints .u32 ((w64 b).map wv)))) := by
 refine enter 81 [(0, .agg (ints .u8 (b)))] Tryd.func76 rfl rfl kj rfl ?_
 refine wp_seq_k fun K1 hK1 => ?_
 refine Qab ?_
 refine Qas (ints .u8 (b)) 107 1 rfl kj kj fun g2 W1 l2 e1 r2_1 => ?_
 have x1 : Ext w W1 := Ext.tr (Rely.Ext.refl w) e1
 have b2 : w.heap.size ≤ g2 := Nat.le_trans (Rely.Ext.refl w).size l2
 refine Qas (ints .u32 (List.replicate 64 0)) 132 2 rfl kj kj fun g3 W2 l3 e2 r3_2 => ?_
 have x2 : Ext w W2 := Ext.tr x1 e2
 have b3 : w.heap.size ≤ g3 := Nat.le_trans x1.size l3
 refine Qac ?_
 refine hK1 _ _ ?_
 refine wp_seq_k fun K4 hK4 => ?_
 refine Qab ?_
 refine Qas (ints .u32 (List.replicate 64 0)) 132 3 rfl kj kj fun g5 W3 l5 e3 r5_3 => ?_
 have x3 : Ext w W3 := Ext.tr x2 e3
 have b5 : w.heap.size ≤ g5 := Nat.le_trans x2.size l5
 refine Qac ?_
 refine hK4 _ _ ?_
 refine wp_seq_k fun K6 hK6 => ?_
 refine wp_seq_k fun K7 hK7 => ?_
 refine Qab ?_
 refine Qaa (.int .i64 0) 12 rfl kj kj ?_
 refine Qac ?_
 refine hK7 _ _ ?_
 refine wp_block ?_
 have hl64 : ((w64 b).map wv).length = 64 := by rw [List.length_map, Qc6]
 refine QaM (fun (s1 : Nat) => [(12, .int .i64 ((s1 : Nat) : Int)), (1, .pointer (some ⟨g2, 0, none⟩)), (2, .pointer (some ⟨g3, 0, none⟩)), (3, .pointer (some ⟨g5, 0, none⟩))]) (fun (s1 : Nat) W => (s1 ≤ 16) ∧ (W.heap[g5]? = some (.cells (ints .u32 (fill ((w64 b).map wv) 64 s1)) 132)) ∧ (Qai [g5] W3 W) ∧ (Ext w W)) (fun (s1 : Nat) => 16 - s1) 0 ⟨rfl, rfl, rfl, rfl, trivial⟩ ⟨(Nat.zero_le _), (QaX r5_3 (QdC _ 64).symm), (Qai.refl [g5] W3), x3⟩ fun s1 X1 V1 hI1 => ?_
 obtain ⟨i, hs1⟩ : ∃ z, z = s1 := ⟨_, rfl⟩
 subst hs1
 obtain ⟨hi, q5_1, kk1, xx1⟩ := hI1
 replace hi : i ≤ 16 := hi
 replace q5_1 : V1.heap[g5]? = some (.cells (ints .u32 (fill ((w64 b).map wv) 64 i)) 132) := q5_1
 replace kk1 : Qai [g5] W3 V1 := kk1
 replace xx1 : Ext w V1 := xx1
 have q4 := kk1
 refine wp_seq_k fun K8 hK8 => ?_
 refine Qab ?_
 refine Qaa (.bool (decide (((i : Nat) : Int) < 16))) 13 rfl kj kj ?_
 refine Qac ?_
 refine hK8 _ _ ?_
 refine wp_seq_k fun K9 hK9 => ?_
 refine QaE (t := decide (((i : Nat) : Int) < 16)) kj (fun c10 => ?_) (fun c10 => ?_)
 ·skip
  have hlt13 : i < 16 := by have := of_decide_eq_true c10; omega
  refine wp_skip ?_
  refine hK9 _ _ ?_
  refine wp_seq_k fun K11 hK11 => ?_
  refine wp_block ?_
  refine wp_seq_k fun K12 hK12 => ?_
  refine Qab ?_
  refine Qaa (.int .i64 ((i : Nat) : Int)) 14 rfl kj kj ?_
  refine Qaa (.int .i64 ((i : Nat) : Int)) 4 rfl kj kj ?_
  refine Qac ?_
  refine hK12 _ _ ?_
  refine wp_seq_k fun K13 hK13 => ?_
  refine Qab ?_
  refine Qaa (.int .i64 ((i : Nat) : Int)) 15 rfl kj kj ?_
  refine Qaa (.int .i64 ((4 * i : Nat) : Int)) 16 rfl kj (Qah (u := .int .i64 (IntKind.i64.wrap (4 * ((i : Nat) : Int)))) kj (congrArg (Value.int .i64) (i64n _ _ (by omega) (by omega)))) ?_
  refine Qaa (.int .i64 ((i : Nat) : Int)) 17 rfl kj kj ?_
  refine Qaa (.int .i64 ((4 * i : Nat) : Int)) 18 rfl kj (Qah (u := .int .i64 (IntKind.i64.wrap (4 * ((i : Nat) : Int)))) kj (congrArg (Value.int .i64) (i64n _ _ (by omega) (by omega)))) ?_
  refine Qaa (.int .i64 (((4 * i) + 4 : Nat) : Int)) 19 rfl kj (Qah (u := .int .i64 (IntKind.i64.wrap (((4 * i : Nat) : Int) + 4))) kj (congrArg (Value.int .i64) (i64n _ _ (by omega) (by omega)))) ?_
  refine Qaa (.slice (some ⟨g2, 0 + (4 * i), none⟩) (((4 * i) + 4) - (4 * i)) (64 - (4 * i))) 20 rfl kj (Qcy 107 _ _ _ (4 * i) ((4 * i) + 4) 64 g2 0 5 rfl kj kj kj ⟨.i64, by kernel_rfl⟩ ⟨.i64, by kernel_rfl⟩ (by omega) (by omega) (by omega)) ?_
  refine Qaa (.int .i64 ((((4 * i) + 4) - (4 * i) : Nat) : Int)) 21 rfl kj kj ?_
  refine Qaa (.int .i64 0) 22 rfl kj kj ?_
  refine Qac ?_
  refine hK13 _ _ ?_
  refine wp_block ?_
  refine QaM (fun (s2 : Nat) => [(4, .int .i64 ((i : Nat) : Int)), (12, .int .i64 ((i : Nat) : Int)), (20, .slice (some ⟨g2, 0 + (4 * i), none⟩) (((4 * i) + 4) - (4 * i)) (64 - (4 * i))), (21, .int .i64 ((((4 * i) + 4) - (4 * i) : Nat) : Int)), (22, .int .i64 ((s2 : Nat) : Int)), (1, .pointer (some ⟨g2, 0, none⟩)), (2, .pointer (some ⟨g3, 0, none⟩)), (3, .pointer (some ⟨g5, 0, none⟩))]) (fun (s2 : Nat) W => (s2 ≤ 4) ∧ (W.heap[g5]? = some (.cells (ints .u32 ((fill ((w64 b).map wv) 64 i).set i (wv (hor b i s2)))) 132)) ∧ (Qai [g5] V1 W) ∧ (Ext w W)) (fun (s2 : Nat) => 4 - s2) 0 ⟨rfl, rfl, rfl, rfl, rfl, rfl, rfl, rfl, trivial⟩ ⟨(Nat.zero_le _), (QaX q5_1 (Qhf hl64 (by omega))), (Qai.refl [g5] V1), xx1⟩ fun s2 X2 V2 hI2 => ?_
  obtain ⟨j, hs2⟩ : ∃ z, z = s2 := ⟨_, rfl⟩
  subst hs2
  obtain ⟨hj, q5_2, kk2, xx2⟩ := hI2
  replace hj : j ≤ 4 := hj
  replace q5_2 : V2.heap[g5]? = some (.cells (ints .u32 ((fill ((w64 b).map wv) 64 i).set i (wv (hor b i j)))) 132) := q5_2
  replace kk2 : Qai [g5] V1 V2 := kk2
  replace xx2 : Ext w V2 := xx2
  have q5 := kk2
  refine wp_seq_k fun K14 hK14 => ?_
  refine Qab ?_
  refine Qaa (.bool (decide (((j : Nat) : Int) < ((((4 * i) + 4) - (4 * i) : Nat) : Int)))) 23 rfl kj kj ?_
  refine Qac ?_
  refine hK14 _ _ ?_
  refine wp_seq_k fun K15 hK15 => ?_
  refine QaE (t := decide (((j : Nat) : Int) < ((((4 * i) + 4) - (4 * i) : Nat) : Int))) kj (fun c16 => ?_) (fun c16 => ?_)
  ·skip
   have hlt23 : j < 4 := by have := of_decide_eq_true c16; omega
   refine wp_skip ?_
   refine hK15 _ _ ?_
   refine wp_seq_k fun K17 hK17 => ?_
   refine wp_block ?_
   refine wp_seq_k fun K18 hK18 => ?_
   refine Qab ?_
   refine Qaa (.pointer (some ⟨g2, 0 + (4 * i) + j, none⟩)) 24 rfl kj (QcT 38 _ _ .i64 j g2 (0 + (4 * i)) (((4 * i) + 4) - (4 * i)) (64 - (4 * i)) 5 rfl kj kj kj kj (by omega)) ?_
   have r2_2 := (Qad r2_1 e2)
   have r2_3 := (Qad r2_2 e3)
   have r2_4 := (Qai.row q4 r2_3 (Qan (Qag r2_2 l5) Qa6))
   have r2_5 := (Qai.row q5 r2_4 (Qan (Qag r2_2 l5) Qa6))
   refine Qaa (.int .u8 (nth b (4 * i + j))) 25 rfl kj (Qal 5 _ g2 (0 + (4 * i) + j) 107 _ (.int .u8 (nth b (4 * i + j))) _ r2_5 rfl kj ((Qbb _ _ _ (Nat.lt_of_lt_of_eq (by omega) hbl.symm)).trans (congrArg (fun z => some (Value.int .u8 z)) (by rw [Nat.zero_add]))) kj) ?_
   refine Qaa (.int .u8 (nth b (4 * i + j))) 6 rfl kj kj ?_
   refine Qac ?_
   refine hK18 _ _ ?_
   refine Qab ?_
   refine Qaa (.int .i64 ((i : Nat) : Int)) 26 rfl kj kj ?_
   refine Qaa (.int .i64 ((i : Nat) : Int)) 27 rfl kj kj ?_
   refine Qaa (.pointer (some ⟨g5, i, none⟩)) 28 rfl kj (QaR _ _ _ .i64 (i) _ 64 113 rfl kj kj kj kj (by omega)) ?_
   refine Qaa (.int .u32 (wv (hor b i j))) 29 rfl kj (Qal 113 _ g5 i 132 _ (.int .u32 (wv (hor b i j))) _ q5_2 rfl kj ((Qbb _ _ _ (Nat.lt_of_lt_of_eq (by omega) ((List.length_set ..).trans (Qbt hl64 (by omega))).symm)).trans (congrArg (fun z => some (Value.int .u32 z)) (QeE (by rw [Qbt hl64 (by omega)]; omega)))) kj) ?_
   refine Qaa (.int .u32 (wv (hor b i j <<< 8))) 30 rfl kj (Qa1 .shl _ _ _ _ .u32 .u64 _ _ _ rfl kj kj (Qfk _ _ _ _ _ _ (by decide) (QiV _ _ 8 rfl (by decide)))) ?_
   refine Qaa (.int .u8 (nth b (4 * i + j))) 31 rfl kj kj ?_
   refine Qaa (.int .u32 (wv (BitVec.ofInt 32 (nth b (4 * i + j))))) 32 rfl kj (Qah (u := .int .u32 (IntKind.u32.wrap (nth b (4 * i + j)))) kj (congrArg (Value.int .u32) (QjZ hbb _))) ?_
   refine Qaa (.int .u32 (wv (((hor b i j <<< 8)) ||| ((BitVec.ofInt 32 (nth b (4 * i + j))))))) 33 rfl kj (Qah (u := .int .u32 (bits .or .u32 (wv (hor b i j <<< 8)) (wv (BitVec.ofInt 32 (nth b (4 * i + j)))))) kj (congrArg (Value.int .u32) (w_or _ _))) ?_
   refine Qaa (.pointer (some ⟨g5, i, none⟩)) 34 rfl kj (QaR _ _ _ .i64 (i) _ 64 113 rfl kj kj kj kj (by omega)) ?_
   refine Qaj g5 _ (ints .u32 (((fill ((w64 b).map wv) 64 i).set i (wv (hor b i j))).set i (wv (((hor b i j <<< 8)) ||| ((BitVec.ofInt 32 (nth b (4 * i + j)))))))) 132 q5_2 rfl kj (Qaw 113 _ _ g5 i 132 _ _ q5_2 rfl kj kj kj (Nat.lt_of_lt_of_eq (by omega) ((List.length_set ..).trans (Qbt hl64 (by omega))).symm)) fun W6 p6 r5_6 => ?_
   have x6 : Ext w W6 := Puts.ext p6 xx2 b5
   refine Qac ?_
   refine hK17 _ _ ?_
   refine Qab ?_
   refine Qaa (.int .i64 ((j + 1 : Nat) : Int)) 35 rfl kj (Qah (u := .int .i64 (IntKind.i64.wrap (((j : Nat) : Int) + 1))) kj (congrArg (Value.int .i64) (i64n _ _ (by omega) (by omega)))) ?_
   refine Qaa (.int .i64 ((j + 1 : Nat) : Int)) 22 rfl kj kj ?_
   refine Qac ?_
   repeat (first | with_reducible refine goX1 ?_ | with_reducible refine goX2 ?_ | with_reducible refine goX3 ?_)
   exact QaB (j + 1) ⟨rfl, rfl, rfl, rfl, rfl, rfl, rfl, rfl, trivial⟩ ⟨(by omega), (QaX r5_6 (by rw [List.set_set]; exact congrArg (fun z => (fill ((w64 b).map wv) 64 i).set i (wv z)) (QhP hbb i j))), (Qai.puts q5 p6 (.inl (by simp))), x6⟩ (by omega)
  ·skip
   have heq23 : j = 4 := by have := of_decide_eq_false c16; omega
   refine wp_exit ?_
   refine hK11 _ _ ?_
   refine Qab ?_
   refine Qaa (.int .i64 ((i + 1 : Nat) : Int)) 36 rfl kj (Qah (u := .int .i64 (IntKind.i64.wrap (((i : Nat) : Int) + 1))) kj (congrArg (Value.int .i64) (i64n _ _ (by omega) (by omega)))) ?_
   refine Qaa (.int .i64 ((i + 1 : Nat) : Int)) 12 rfl kj kj ?_
   refine Qac ?_
   repeat (first | with_reducible refine goX1 ?_ | with_reducible refine goX2 ?_ | with_reducible refine goX3 ?_)
   exact QaB (i + 1) ⟨rfl, rfl, rfl, rfl, trivial⟩ ⟨(by omega), (QaX q5_2 (by rw [heq23]; exact Qhe hl64 hlt13 hbb)), (Qai.keeps q4 q5 (Qi3 (.inl (by simp)) Qjk)), xx2⟩ (by omega)
 ·skip
  have heq13 : i = 16 := by have := of_decide_eq_false c10; omega
  refine wp_exit ?_
  refine hK6 _ _ ?_
  refine wp_seq_k fun K19 hK19 => ?_
  refine wp_seq_k fun K20 hK20 => ?_
  refine Qab ?_
  refine Qaa (.int .i64 16) 7 rfl kj kj ?_
  refine Qac ?_
  refine hK20 _ _ ?_
  refine wp_block ?_
  refine QaM (fun (s3 : Nat) => [(7, .int .i64 ((s3 : Nat) : Int)), (1, .pointer (some ⟨g2, 0, none⟩)), (2, .pointer (some ⟨g3, 0, none⟩)), (3, .pointer (some ⟨g5, 0, none⟩))]) (fun (s3 : Nat) W => (16 ≤ s3) ∧ (s3 ≤ 64) ∧ (W.heap[g5]? = some (.cells (ints .u32 (fill ((w64 b).map wv) 64 s3)) 132)) ∧ (Qai [g5] V1 W) ∧ (Ext w W)) (fun (s3 : Nat) => 64 - s3) 16 ⟨rfl, rfl, rfl, rfl, trivial⟩ ⟨(Nat.le_refl _), (by omega), (QaX q5_1 (by rw [heq13])), (Qai.refl [g5] V1), xx1⟩ fun s3 X3 V3 hI3 => ?_
  obtain ⟨i, hs3⟩ : ∃ z, z = s3 := ⟨_, rfl⟩
  subst hs3
  obtain ⟨h16, hi, q5_3, kk3, xx3⟩ := hI3
  replace h16 : 16 ≤ i := h16
  replace hi : i ≤ 64 := hi
  replace q5_3 : V3.heap[g5]? = some (.cells (ints .u32 (fill ((w64 b).map wv) 64 i)) 132) := q5_3
  replace kk3 : Qai [g5] V1 V3 := kk3
  replace xx3 : Ext w V3 := xx3
  have q5 := kk3
  refine wp_seq_k fun K21 hK21 => ?_
  refine wp_seq_k fun K22 hK22 => ?_
  refine Qab ?_
  refine Qaa (.int .i64 ((i : Nat) : Int)) 37 rfl kj kj ?_
  refine Qaa (.bool (decide (((i : Nat) : Int) < 64))) 38 rfl kj kj ?_
  refine Qac ?_
  refine hK22 _ _ ?_
  refine QaE (t := decide (((i : Nat) : Int) < 64)) kj (fun c23 => ?_) (fun c23 => ?_)
  ·skip
   have hlt38 : i < 64 := by have := of_decide_eq_true c23; omega
   refine wp_skip ?_
   refine hK21 _ _ ?_
   refine wp_seq_k fun K24 hK24 => ?_
   refine wp_block ?_
   refine wp_seq_k fun K25 hK25 => ?_
   refine QaN 9 [⟨none, [(7, none)]⟩, ⟨none, [(41, some 0)]⟩, ⟨none, [(3, none), (42, some 1)]⟩, ⟨none, [(43, some 2)]⟩, ⟨none, [(7, none)]⟩, ⟨none, [(45, some 4)]⟩, ⟨none, [(3, none), (46, some 5)]⟩, ⟨none, [(47, some 6)]⟩, ⟨none, [(44, some 3)]⟩] kj kj fun F hF => ?_
   refine Qak (.int .i64 ((i : Nat) : Int)) kj kj (fun W => by kernel_rfl) ?_
   refine Qak (.int .i64 ((i - 2 : Nat) : Int)) kj kj (fun W => (Qah (u := .int .i64 (IntKind.i64.wrap (((i : Nat) : Int) - 2))) kj (congrArg (Value.int .i64) (i64n _ _ (by omega) (by omega))))) ?_
   refine Qak (.pointer (some ⟨g5, i - 2, none⟩)) kj kj (fun W => (QaR _ _ _ .i64 (i - 2) _ 64 113 rfl kj kj kj kj (by omega))) ?_
   refine QaI (.int .u32 (wv (wget (w64 b) (i - 2)))) kj kj (fun W hR => (Qal 113 _ g5 (i - 2) 132 _ (.int .u32 (wv (wget (w64 b) (i - 2)))) _ (Qad (Qad q5_3 (Qa2 _)) hR) rfl kj ((Qbb _ _ _ (Nat.lt_of_lt_of_eq (by omega) (Qbt (show ((w64 b).map wv).length = 64 by rw [List.length_map, Qc6]) (by omega)).symm)).trans (congrArg (fun z => some (Value.int .u32 z)) ((Qdy hl64 (by omega) (by omega)).trans (Qc8 _ _)))) kj)) ?_
   refine Qak (.int .i64 ((i : Nat) : Int)) kj kj (fun W => by kernel_rfl) ?_
   refine Qak (.int .i64 ((i - 15 : Nat) : Int)) kj kj (fun W => (Qah (u := .int .i64 (IntKind.i64.wrap (((i : Nat) : Int) - 15))) kj (congrArg (Value.int .i64) (i64n _ _ (by omega) (by omega))))) ?_
   refine Qak (.pointer (some ⟨g5, i - 15, none⟩)) kj kj (fun W => (QaR _ _ _ .i64 (i - 15) _ 64 113 rfl kj kj kj kj (by omega))) ?_
   refine QaI (.int .u32 (wv (wget (w64 b) (i - 15)))) kj kj (fun W hR => (Qal 113 _ g5 (i - 15) 132 _ (.int .u32 (wv (wget (w64 b) (i - 15)))) _ (Qad (Qad q5_3 (Qa2 _)) hR) rfl kj ((Qbb _ _ _ (Nat.lt_of_lt_of_eq (by omega) (Qbt (show ((w64 b).map wv).length = 64 by rw [List.length_map, Qc6]) (by omega)).symm)).trans (congrArg (fun z => some (Value.int .u32 z)) ((Qdy hl64 (by omega) (by omega)).trans (Qc8 _ _)))) kj)) ?_
   refine Qak (.int .u32 (wv (wget (w64 b) (i - 2)))) kj kj (fun W => by kernel_rfl) ?_
   refine QaQ (hF _ kj fun W6 e6 => ?_)
   simp only [ups, up, Kn.val, List.take_succ_cons, List.take_zero, List.drop_succ_cons, List.drop_zero, List.nil_append, List.cons_append]
   clear hF
   have x6 : Ext w W6 := Ext.tr xx3 e6
   refine Qaa (.int .u32 (wv (wget (w64 b) (i - 15)))) 9 rfl kj kj ?_
   refine Qac ?_
   refine hK25 _ _ ?_
   refine wp_seq_k fun K26 hK26 => ?_
   refine Qab ?_
   refine Qaa (.int .u32 (wv (wget (w64 b) (i - 2)))) 49 rfl kj kj ?_
   refine Qau (.int .u32 (wv (rr (wget (w64 b) (i - 2)) 17))) 77 #[.int .u32 (wv (wget (w64 b) (i - 2))), .int .i64 (-17)] 50 rfl kj kj ((rotC (wget (w64 b) (i - 2)) 17 (-17) (by decide) (by decide) (by decide)) _) fun W7 e7 => ?_
   have x7 : Ext w W7 := Ext.tr x6 e7
   refine Qaa (.int .u32 (wv (wget (w64 b) (i - 2)))) 51 rfl kj kj ?_
   refine Qau (.int .u32 (wv (rr (wget (w64 b) (i - 2)) 19))) 77 #[.int .u32 (wv (wget (w64 b) (i - 2))), .int .i64 (-19)] 52 rfl kj kj ((rotC (wget (w64 b) (i - 2)) 19 (-19) (by decide) (by decide) (by decide)) _) fun W8 e8 => ?_
   have x8 : Ext w W8 := Ext.tr x7 e8
   refine Qaa (.int .u32 (wv (((rr (wget (w64 b) (i - 2)) 17)) ^^^ ((rr (wget (w64 b) (i - 2)) 19))))) 53 rfl kj (Qah (u := .int .u32 (bits .xor .u32 (wv (rr (wget (w64 b) (i - 2)) 17)) (wv (rr (wget (w64 b) (i - 2)) 19)))) kj (congrArg (Value.int .u32) (w_xor _ _))) ?_
   refine Qaa (.int .u32 (wv (wget (w64 b) (i - 2)))) 54 rfl kj kj ?_
   refine Qaa (.int .u32 (wv (((wget (w64 b) (i - 2))) >>> 10))) 55 rfl kj (Qa1 .shr _ _ _ _ .u32 .u64 _ _ _ rfl kj kj (QaO _ _ _ _ _ _ (by decide) (Qbc _ _ 10 rfl (by decide)))) ?_
   refine Qaa (.int .u32 (wv (((((rr (wget (w64 b) (i - 2)) 17)) ^^^ ((rr (wget (w64 b) (i - 2)) 19)))) ^^^ ((((wget (w64 b) (i - 2))) >>> 10))))) 56 rfl kj (Qah (u := .int .u32 (bits .xor .u32 (wv (((rr (wget (w64 b) (i - 2)) 17)) ^^^ ((rr (wget (w64 b) (i - 2)) 19)))) (wv (((wget (w64 b) (i - 2))) >>> 10)))) kj (congrArg (Value.int .u32) (w_xor _ _))) ?_
   refine Qaa (.int .u32 (wv (((((rr (wget (w64 b) (i - 2)) 17)) ^^^ ((rr (wget (w64 b) (i - 2)) 19)))) ^^^ ((((wget (w64 b) (i - 2))) >>> 10))))) 10 rfl kj kj ?_
   refine Qac ?_
   refine hK26 _ _ ?_
   refine wp_seq_k fun K27 hK27 => ?_
   refine Qab ?_
   refine Qaa (.int .u32 (wv (wget (w64 b) (i - 15)))) 57 rfl kj kj ?_
   refine Qau (.int .u32 (wv (rr (wget (w64 b) (i - 15)) 7))) 77 #[.int .u32 (wv (wget (w64 b) (i - 15))), .int .i64 (-7)] 58 rfl kj kj ((rotC (wget (w64 b) (i - 15)) 7 (-7) (by decide) (by decide) (by decide)) _) fun W9 e9 => ?_
   have x9 : Ext w W9 := Ext.tr x8 e9
   refine Qaa (.int .u32 (wv (wget (w64 b) (i - 15)))) 59 rfl kj kj ?_
   refine Qau (.int .u32 (wv (rr (wget (w64 b) (i - 15)) 18))) 77 #[.int .u32 (wv (wget (w64 b) (i - 15))), .int .i64 (-18)] 60 rfl kj kj ((rotC (wget (w64 b) (i - 15)) 18 (-18) (by decide) (by decide) (by decide)) _) fun W10 e10 => ?_
   have x10 : Ext w W10 := Ext.tr x9 e10
   refine Qaa (.int .u32 (wv (((rr (wget (w64 b) (i - 15)) 7)) ^^^ ((rr (wget (w64 b) (i - 15)) 18))))) 61 rfl kj (Qah (u := .int .u32 (bits .xor .u32 (wv (rr (wget (w64 b) (i - 15)) 7)) (wv (rr (wget (w64 b) (i - 15)) 18)))) kj (congrArg (Value.int .u32) (w_xor _ _))) ?_
   refine Qaa (.int .u32 (wv (wget (w64 b) (i - 15)))) 62 rfl kj kj ?_
   refine Qaa (.int .u32 (wv (((wget (w64 b) (i - 15))) >>> 3))) 63 rfl kj (Qa1 .shr _ _ _ _ .u32 .u64 _ _ _ rfl kj kj (QaO _ _ _ _ _ _ (by decide) (Qbc _ _ 3 rfl (by decide)))) ?_
   refine Qaa (.int .u32 (wv (((((rr (wget (w64 b) (i - 15)) 7)) ^^^ ((rr (wget (w64 b) (i - 15)) 18)))) ^^^ ((((wget (w64 b) (i - 15))) >>> 3))))) 64 rfl kj (Qah (u := .int .u32 (bits .xor .u32 (wv (((rr (wget (w64 b) (i - 15)) 7)) ^^^ ((rr (wget (w64 b) (i - 15)) 18)))) (wv (((wget (w64 b) (i - 15))) >>> 3)))) kj (congrArg (Value.int .u32) (w_xor _ _))) ?_
   refine Qaa (.int .u32 (wv (((((rr (wget (w64 b) (i - 15)) 7)) ^^^ ((rr (wget (w64 b) (i - 15)) 18)))) ^^^ ((((wget (w64 b) (i - 15))) >>> 3))))) 11 rfl kj kj ?_
   refine Qac ?_
   refine hK27 _ _ ?_
   refine QaN 15 [⟨none, [(7, none)]⟩, ⟨none, [(10, none)]⟩, ⟨none, [(7, none)]⟩, ⟨none, [(67, some 2)]⟩, ⟨none, [(3, none), (68, some 3)]⟩, ⟨none, [(69, some 4)]⟩, ⟨none, [(66, some 1), (70, some 5)]⟩, ⟨none, [(11, none)]⟩, ⟨none, [(71, some 6), (72, some 7)]⟩, ⟨none, [(7, none)]⟩, ⟨none, [(74, some 9)]⟩, ⟨none, [(3, none), (75, some 10)]⟩, ⟨none, [(76, some 11)]⟩, ⟨none, [(73, some 8), (77, some 12)]⟩, ⟨none, [(3, none), (65, some 0)]⟩] kj kj fun F hF => ?_
   refine Qak (.int .i64 ((i : Nat) : Int)) kj kj (fun W => by kernel_rfl) ?_
   refine Qak (.int .u32 (wv (((((rr (wget (w64 b) (i - 2)) 17)) ^^^ ((rr (wget (w64 b) (i - 2)) 19)))) ^^^ ((((wget (w64 b) (i - 2))) >>> 10))))) kj kj (fun W => by kernel_rfl) ?_
   refine Qak (.int .i64 ((i : Nat) : Int)) kj kj (fun W => by kernel_rfl) ?_
   refine Qak (.int .i64 ((i - 7 : Nat) : Int)) kj kj (fun W => (Qah (u := .int .i64 (IntKind.i64.wrap (((i : Nat) : Int) - 7))) kj (congrArg (Value.int .i64) (i64n _ _ (by omega) (by omega))))) ?_
   refine Qak (.pointer (some ⟨g5, i - 7, none⟩)) kj kj (fun W => (QaR _ _ _ .i64 (i - 7) _ 64 113 rfl kj kj kj kj (by omega))) ?_
   have r5_6 := (Qad q5_3 e6)
   have r5_7 := (Qad r5_6 e7)
   have r5_8 := (Qad r5_7 e8)
   have r5_9 := (Qad r5_8 e9)
   have r5_10 := (Qad r5_9 e10)
   refine QaI (.int .u32 (wv (wget (w64 b) (i - 7)))) kj kj (fun W hR => (Qal 113 _ g5 (i - 7) 132 _ (.int .u32 (wv (wget (w64 b) (i - 7)))) _ (Qad (Qad r5_10 (Qa2 _)) hR) rfl kj ((Qbb _ _ _ (Nat.lt_of_lt_of_eq (by omega) (Qbt (show ((w64 b).map wv).length = 64 by rw [List.length_map, Qc6]) (by omega)).symm)).trans (congrArg (fun z => some (Value.int .u32 z)) ((Qdy hl64 (by omega) (by omega)).trans (Qc8 _ _)))) kj)) ?_
   refine Qak (.int .u32 (wv (((((((rr (wget (w64 b) (i - 2)) 17)) ^^^ ((rr (wget (w64 b) (i - 2)) 19)))) ^^^ ((((wget (w64 b) (i - 2))) >>> 10)))) + ((wget (w64 b) (i - 7)))))) kj kj (fun W => (Qah (u := .int .u32 (IntKind.u32.wrap (wv (((((rr (wget (w64 b) (i - 2)) 17)) ^^^ ((rr (wget (w64 b) (i - 2)) 19)))) ^^^ ((((wget (w64 b) (i - 2))) >>> 10))) + wv (wget (w64 b) (i - 7))))) kj (congrArg (Value.int .u32) (Qch _ _)))) ?_
   refine Qak (.int .u32 (wv (((((rr (wget (w64 b) (i - 15)) 7)) ^^^ ((rr (wget (w64 b) (i - 15)) 18)))) ^^^ ((((wget (w64 b) (i - 15))) >>> 3))))) kj kj (fun W => by kernel_rfl) ?_
   refine Qak (.int .u32 (wv (((((((((rr (wget (w64 b) (i - 2)) 17)) ^^^ ((rr (wget (w64 b) (i - 2)) 19)))) ^^^ ((((wget (w64 b) (i - 2))) >>> 10)))) + ((wget (w64 b) (i - 7))))) + ((((((rr (wget (w64 b) (i - 15)) 7)) ^^^ ((rr (wget (w64 b) (i - 15)) 18)))) ^^^ ((((wget (w64 b) (i - 15))) >>> 3))))))) kj kj (fun W => (Qah (u := .int .u32 (IntKind.u32.wrap (wv (((((((rr (wget (w64 b) (i - 2)) 17)) ^^^ ((rr (wget (w64 b) (i - 2)) 19)))) ^^^ ((((wget (w64 b) (i - 2))) >>> 10)))) + ((wget (w64 b) (i - 7)))) + wv (((((rr (wget (w64 b) (i - 15)) 7)) ^^^ ((rr (wget (w64 b) (i - 15)) 18)))) ^^^ ((((wget (w64 b) (i - 15))) >>> 3)))))) kj (congrArg (Value.int .u32) (Qch _ _)))) ?_
   refine Qak (.int .i64 ((i : Nat) : Int)) kj kj (fun W => by kernel_rfl) ?_
   refine Qak (.int .i64 ((i - 16 : Nat) : Int)) kj kj (fun W => (Qah (u := .int .i64 (IntKind.i64.wrap (((i : Nat) : Int) - 16))) kj (congrArg (Value.int .i64) (i64n _ _ (by omega) (by omega))))) ?_
   refine Qak (.pointer (some ⟨g5, i - 16, none⟩)) kj kj (fun W => (QaR _ _ _ .i64 (i - 16) _ 64 113 rfl kj kj kj kj (by omega))) ?_
   refine QaI (.int .u32 (wv (wget (w64 b) (i - 16)))) kj kj (fun W hR => (Qal 113 _ g5 (i - 16) 132 _ (.int .u32 (wv (wget (w64 b) (i - 16)))) _ (Qad (Qad r5_10 (Qa2 _)) hR) rfl kj ((Qbb _ _ _ (Nat.lt_of_lt_of_eq (by omega) (Qbt (show ((w64 b).map wv).length = 64 by rw [List.length_map, Qc6]) (by omega)).symm)).trans (congrArg (fun z => some (Value.int .u32 z)) ((Qdy hl64 (by omega) (by omega)).trans (Qc8 _ _)))) kj)) ?_
   refine Qak (.int .u32 (wv (((((((((((rr (wget (w64 b) (i - 2)) 17)) ^^^ ((rr (wget (w64 b) (i - 2)) 19)))) ^^^ ((((wget (w64 b) (i - 2))) >>> 10)))) + ((wget (w64 b) (i - 7))))) + ((((((rr (wget (w64 b) (i - 15)) 7)) ^^^ ((rr (wget (w64 b) (i - 15)) 18)))) ^^^ ((((wget (w64 b) (i - 15))) >>> 3)))))) + ((wget (w64 b) (i - 16)))))) kj kj (fun W => (Qah (u := .int .u32 (IntKind.u32.wrap (wv (((((((((rr (wget (w64 b) (i - 2)) 17)) ^^^ ((rr (wget (w64 b) (i - 2)) 19)))) ^^^ ((((wget (w64 b) (i - 2))) >>> 10)))) + ((wget (w64 b) (i - 7))))) + ((((((rr (wget (w64 b) (i - 15)) 7)) ^^^ ((rr (wget (w64 b) (i - 15)) 18)))) ^^^ ((((wget (w64 b) (i - 15))) >>> 3))))) + wv (wget (w64 b) (i - 16))))) kj (congrArg (Value.int .u32) (Qch _ _)))) ?_
   refine Qak (.pointer (some ⟨g5, i, none⟩)) kj kj (fun W => (QaR _ _ _ .i64 (i) _ 64 113 rfl kj kj kj kj (by omega))) ?_
   refine QaQ (hF _ kj fun W11 e11 => ?_)
   simp only [ups, up, Kn.val, List.take_succ_cons, List.take_zero, List.drop_succ_cons, List.drop_zero, List.nil_append, List.cons_append]
   clear hF
   have x11 : Ext w W11 := Ext.tr x10 e11
   have r5_11 := (Qad r5_10 e11)
   refine Qaj g5 _ (ints .u32 ((fill ((w64 b).map wv) 64 i).set i (wv (((((((((((rr (wget (w64 b) (i - 2)) 17)) ^^^ ((rr (wget (w64 b) (i - 2)) 19)))) ^^^ ((((wget (w64 b) (i - 2))) >>> 10)))) + ((wget (w64 b) (i - 7))))) + ((((((rr (wget (w64 b) (i - 15)) 7)) ^^^ ((rr (wget (w64 b) (i - 15)) 18)))) ^^^ ((((wget (w64 b) (i - 15))) >>> 3)))))) + ((wget (w64 b) (i - 16))))))) 132 r5_11 rfl kj (Qaw 113 _ _ g5 i 132 _ _ r5_11 rfl kj kj kj (Nat.lt_of_lt_of_eq (by omega) (Qbt (show ((w64 b).map wv).length = 64 by rw [List.length_map, Qc6]) (by omega)).symm)) fun W12 p12 r5_12 => ?_
   have x12 : Ext w W12 := Puts.ext p12 x11 b5
   refine Qac ?_
   refine hK24 _ _ ?_
   refine Qab ?_
   refine Qaa (.int .i64 ((i : Nat) : Int)) 39 rfl kj kj ?_
   refine Qaa (.int .i64 ((i + 1 : Nat) : Int)) 40 rfl kj (Qah (u := .int .i64 (IntKind.i64.wrap (((i : Nat) : Int) + 1))) kj (congrArg (Value.int .i64) (i64n _ _ (by omega) (by omega)))) ?_
   refine Qaa (.int .i64 ((i + 1 : Nat) : Int)) 7 rfl kj kj ?_
   refine Qac ?_
   repeat (first | with_reducible refine goX1 ?_ | with_reducible refine goX2 ?_ | with_reducible refine goX3 ?_)
   exact QaB (i + 1) ⟨rfl, rfl, rfl, rfl, trivial⟩ ⟨(by omega), (by omega), (QaX r5_12 (by rw [← Qdx hl64 hlt38, Qc8, Qhr b i h16 hlt38]; rfl)), (Qai.puts (Qai.step (Qai.step (Qai.step (Qai.step (Qai.step (Qai.step q5 e6) e7) e8) e9) e10) e11) p12 (.inl (by simp))), x12⟩ (by omega)
  ·skip
   have heq38 : i = 64 := by have := of_decide_eq_false c23; omega
   have r5_5_28 : V3.heap[g5]? = some (.cells (ints .u32 ((w64 b).map wv)) 132) := QaX q5_3 (by rw [heq38]; exact QdD hl64)
   refine wp_exit ?_
   refine hK19 _ _ ?_
   refine wp_seq_k fun K29 hK29 => ?_
   refine Qab ?_
   refine Qaa (.agg (ints .u32 ((w64 b).map wv))) 80 rfl kj (Qay 132 _ g5 132 _ _ r5_5_28 rfl kj kj (isz (n := 64) kj ((Qaf _ _).trans hl64))) ?_
   have r3_3 := (Qad r3_2 e3)
   have r3_4 := (Qai.row q4 r3_3 (Qan (Qag r3_2 l5) Qa6))
   have r3_5 := (Qai.row q5 r3_4 (Qan (Qag r3_2 l5) Qa6))
   refine Qaj g3 _ (ints .u32 ((w64 b).map wv)) 132 r3_5 rfl kj (Qap 132 _ _ g3 132 _ _ r3_5 rfl kj kj (isz (n := 64) kj ((Qaf _ _).trans hl64)) (eqsz (n := 64) ((Qaf _ _).trans (List.length_replicate (n := 64))) ((Qaf _ _).trans hl64)) (Qa0 _ _)) fun W6 p6 r3_6 => ?_
   have x6 : Ext w W6 := Puts.ext p6 xx3 b3
   refine Qac ?_
   refine hK29 _ _ ?_
   refine wp_ret ?_
   repeat (first | with_reducible refine goR1 ?_ | with_reducible refine goR2 ?_)
   exact (show bodyPost _ _ _ .ret _ _ from ret1 (.agg (ints .u32 ((w64 b).map wv))) rfl (QaL g3 132 _ r3_6 kj kj (isz (n := 64) kj ((Qaf _ _).trans hl64))) ⟨rfl, x6⟩)
end Go.Proofs.YtibegnjaphohaaaDoor.Sha
end
section
namespace Go.Proofs.YtibegnjaphohaaaDoor.Sha
open Go Go.RowKit
open Rely Auto Own
set_option linter.unusedVariables false
set_option linter.unusedSimpArgs false
def QaD : List Int := Qio.map Int.ofNat
def Qam : List Int := [0x6a09e667f3bcc908, 0xbb67ae8584caa73b, 0x3c6ef372fe94f82b, 0xa54ff53a5f1d36f1, 0x510e527fade682d1, 0x9b05688c2b3e6c1f, 0x1f83d9abfb41bd6b, 0x5be0cd19137e2179]
theorem Qj2 (i : Nat) (h : i < 64) : IntKind.u32.wrap (nth QaD i / 4294967296) = wv (wget KK i) := by
  have : ∀ i : Fin 64, IntKind.u32.wrap (nth QaD i.1 / 4294967296) = wv (wget KK i.1) := by decide +kernel
  exact this ⟨i, h⟩
theorem Qee (n : Int) : n.fdiv (2 ^ min (32 : Int).toNat IntKind.u64.bits) = n / 4294967296 := Int.fdiv_eq_ediv_of_nonneg n (by decide)
set_option maxHeartbeats 4000000 in
theorem QjF (g : Nat) (s : S8) (b : List Int) (hbl : b.length = 64) (hbb : Qao b) (m : Int) (tc : TypeId) (w : World) (hc : w.heap[2]? = some (.cells (ints .u64 QaD) tc)) (hg : w.heap[g]? = some (.cells (cat [ints .u32 ([wv s.a, wv s.b, wv s.c, wv s.d, wv s.e, wv s.f, wv s.g, wv s.h]), ints .u8 (b), #[.int .i64 m]]) 129)) :
  Calls Tryd.prog 74 #[.pointer (some ⟨g, 0, none⟩)] w (fun e W => e = .returned (.tuple #[]) ∧ ExtB g w W ∧ W.heap[g]? = some (.cells (cat [ints .u32 ((blk s b).l.map wv), ints .u8 b, #[.int .i64 m]]) 129)) := by
 have hl64 : ((w64 b).map wv).length = 64 := by rw [List.length_map, Qc6]
 refine enter 137 [(0, .pointer (some ⟨g, 0, none⟩))] Tryd.func74 rfl rfl kj rfl ?_
 refine wp_seq_k fun K3 hK3 => ?_
 refine Qab ?_
 refine Qaa (.pointer (some ⟨g, 0, none⟩)) 20 rfl kj kj ?_
 refine Qaa (.pointer (some ⟨g, 0, none⟩)) 21 rfl kj kj ?_
 refine Qaa (.pointer (some ⟨g, 8, none⟩)) 22 rfl kj kj ?_
 refine Qaa (.agg (ints .u8 (b))) 23 rfl kj (Qa3 107 _ g 8 129 _ _ _ hg rfl kj (Qat [ints .u32 ([wv s.a, wv s.b, wv s.c, wv s.d, wv s.e, wv s.f, wv s.g, wv s.h])] [ints .u8 (b)] [#[.int .i64 m]] 8 kj) kj (isz (n := 64) kj ((Qaf _ _).trans hbl))) ?_
 refine Qau (.agg (ints .u32 ((w64 b).map wv))) 76 #[.agg (ints .u8 (b))] 24 rfl kj kj ((Qiw b hbl hbb) _) fun W1 e1 => ?_
 have x1 : ExtB g w W1 := ExtB.ext (ExtB.refl g w) e1
 refine Qas (ints .u32 (List.replicate 64 0)) 132 2 rfl kj kj fun g4 W2 l4 e2 r4_2 => ?_
 have x2 : ExtB g w W2 := ExtB.ext x1 e2
 have b4 : w.heap.size ≤ g4 := Nat.le_trans x1.size l4
 refine Qaj g4 _ (ints .u32 ((w64 b).map wv)) 132 r4_2 rfl kj (Qap 132 _ _ g4 132 _ _ r4_2 rfl kj kj (isz (n := 64) kj ((Qaf _ _).trans hl64)) (eqsz (n := 64) ((Qaf _ _).trans (List.length_replicate (n := 64))) ((Qaf _ _).trans hl64)) (Qa0 _ _)) fun W3 p3 r4_3 => ?_
 have x3 : ExtB g w W3 := ExtB.putsN x2 p3 b4
 refine Qac ?_
 refine hK3 _ _ ?_
 refine wp_seq_k fun K5 hK5 => ?_
 refine Qab ?_
 refine Qaa (.pointer (some ⟨g, 0, none⟩)) 25 rfl kj kj ?_
 refine Qaa (.pointer (some ⟨g, 0, none⟩)) 26 rfl kj kj ?_
 refine Qaa (.pointer (some ⟨g, 0, none⟩)) 27 rfl kj kj ?_
 have r2_1 := (Qad hg e1)
 have r2_2 := (Qad r2_1 e2)
 have r2_3 := (Puts.row p3 r2_2 (Qag r2_1 l4))
 refine Qaa (.agg (ints .u32 ([wv s.a, wv s.b, wv s.c, wv s.d, wv s.e, wv s.f, wv s.g, wv s.h]))) 28 rfl kj (Qa3 114 _ g 0 129 _ _ _ r2_3 rfl kj (Qat [] [ints .u32 ([wv s.a, wv s.b, wv s.c, wv s.d, wv s.e, wv s.f, wv s.g, wv s.h])] [ints .u8 (b), #[.int .i64 m]] 0 kj) kj (isz (n := 8) kj kj)) ?_
 refine Qas (ints .u32 ([0, 0, 0, 0, 0, 0, 0, 0])) 114 3 rfl kj kj fun g6 W4 l6 e4 r6_4 => ?_
 have x4 : ExtB g w W4 := ExtB.ext x3 e4
 have b6 : w.heap.size ≤ g6 := Nat.le_trans x3.size l6
 refine Qaj g6 _ (ints .u32 ([wv s.a, wv s.b, wv s.c, wv s.d, wv s.e, wv s.f, wv s.g, wv s.h])) 114 r6_4 rfl kj (Qap 114 _ _ g6 114 _ _ r6_4 rfl kj kj (isz (n := 8) kj kj) (eqsz (n := 8) kj kj) (Qa0 _ _)) fun W5 p5 r6_5 => ?_
 have x5 : ExtB g w W5 := ExtB.putsN x4 p5 b6
 refine Qac ?_
 refine hK5 _ _ ?_
 refine wp_seq_k fun K7 hK7 => ?_
 refine QaN 23 [⟨none, [(3, none)]⟩, ⟨none, [(29, some 0)]⟩, ⟨none, [(3, none)]⟩, ⟨none, [(31, some 2)]⟩, ⟨none, [(3, none)]⟩, ⟨none, [(33, some 4)]⟩, ⟨none, [(3, none)]⟩, ⟨none, [(35, some 6)]⟩, ⟨none, [(3, none)]⟩, ⟨none, [(37, some 8)]⟩, ⟨none, [(3, none)]⟩, ⟨none, [(39, some 10)]⟩, ⟨none, [(3, none)]⟩, ⟨none, [(41, some 12)]⟩, ⟨none, [(3, none)]⟩, ⟨none, [(43, some 14)]⟩, ⟨none, [(30, some 1)]⟩, ⟨none, [(32, some 3)]⟩, ⟨none, [(34, some 5)]⟩, ⟨none, [(36, some 7)]⟩, ⟨none, [(38, some 9)]⟩, ⟨none, [(40, some 11)]⟩, ⟨none, [(42, some 13)]⟩] kj kj fun F hF => ?_
 refine Qak (.pointer (some ⟨g6, 0, none⟩)) kj kj (fun W => by kernel_rfl) ?_
 refine QaI (.int .u32 (wv s.a)) kj kj (fun W hR => (Qal 113 _ g6 0 114 _ (.int .u32 (wv s.a)) _ (Qad (Qad r6_5 (Qa2 _)) hR) rfl kj kj kj)) ?_
 refine Qak (.pointer (some ⟨g6, 1, none⟩)) kj kj (fun W => by kernel_rfl) ?_
 refine QaI (.int .u32 (wv s.b)) kj kj (fun W hR => (Qal 113 _ g6 1 114 _ (.int .u32 (wv s.b)) _ (Qad (Qad r6_5 (Qa2 _)) hR) rfl kj kj kj)) ?_
 refine Qak (.pointer (some ⟨g6, 2, none⟩)) kj kj (fun W => by kernel_rfl) ?_
 refine QaI (.int .u32 (wv s.c)) kj kj (fun W hR => (Qal 113 _ g6 2 114 _ (.int .u32 (wv s.c)) _ (Qad (Qad r6_5 (Qa2 _)) hR) rfl kj kj kj)) ?_
 refine Qak (.pointer (some ⟨g6, 3, none⟩)) kj kj (fun W => by kernel_rfl) ?_
 refine QaI (.int .u32 (wv s.d)) kj kj (fun W hR => (Qal 113 _ g6 3 114 _ (.int .u32 (wv s.d)) _ (Qad (Qad r6_5 (Qa2 _)) hR) rfl kj kj kj)) ?_
 refine Qak (.pointer (some ⟨g6, 4, none⟩)) kj kj (fun W => by kernel_rfl) ?_
 refine QaI (.int .u32 (wv s.e)) kj kj (fun W hR => (Qal 113 _ g6 4 114 _ (.int .u32 (wv s.e)) _ (Qad (Qad r6_5 (Qa2 _)) hR) rfl kj kj kj)) ?_
 refine Qak (.pointer (some ⟨g6, 5, none⟩)) kj kj (fun W => by kernel_rfl) ?_
 refine QaI (.int .u32 (wv s.f)) kj kj (fun W hR => (Qal 113 _ g6 5 114 _ (.int .u32 (wv s.f)) _ (Qad (Qad r6_5 (Qa2 _)) hR) rfl kj kj kj)) ?_
 refine Qak (.pointer (some ⟨g6, 6, none⟩)) kj kj (fun W => by kernel_rfl) ?_
 refine QaI (.int .u32 (wv s.g)) kj kj (fun W hR => (Qal 113 _ g6 6 114 _ (.int .u32 (wv s.g)) _ (Qad (Qad r6_5 (Qa2 _)) hR) rfl kj kj kj)) ?_
 refine Qak (.pointer (some ⟨g6, 7, none⟩)) kj kj (fun W => by kernel_rfl) ?_
 refine QaI (.int .u32 (wv s.h)) kj kj (fun W hR => (Qal 113 _ g6 7 114 _ (.int .u32 (wv s.h)) _ (Qad (Qad r6_5 (Qa2 _)) hR) rfl kj kj kj)) ?_
 refine Qak (.int .u32 (wv s.a)) kj kj (fun W => by kernel_rfl) ?_
 refine Qak (.int .u32 (wv s.b)) kj kj (fun W => by kernel_rfl) ?_
 refine Qak (.int .u32 (wv s.c)) kj kj (fun W => by kernel_rfl) ?_
 refine Qak (.int .u32 (wv s.d)) kj kj (fun W => by kernel_rfl) ?_
 refine Qak (.int .u32 (wv s.e)) kj kj (fun W => by kernel_rfl) ?_
 refine Qak (.int .u32 (wv s.f)) kj kj (fun W => by kernel_rfl) ?_
 refine Qak (.int .u32 (wv s.g)) kj kj (fun W => by kernel_rfl) ?_
 refine QaQ (hF _ kj fun W6 e6 => ?_)
 simp only [ups, up, Kn.val, List.take_succ_cons, List.take_zero, List.drop_succ_cons, List.drop_zero, List.nil_append, List.cons_append]
 clear hF
 have x6 : ExtB g w W6 := ExtB.ext x5 e6
 refine Qaa (.int .u32 (wv s.h)) 11 rfl kj kj ?_
 refine Qac ?_
 refine hK7 _ _ ?_
 refine wp_seq_k fun K8 hK8 => ?_
 refine wp_seq_k fun K9 hK9 => ?_
 refine Qab ?_
 have r4_4 := (Qad r4_3 e4)
 have r4_5 := (Puts.row p5 r4_4 (Qag r4_3 l6))
 have r4_6 := (Qad r4_5 e6)
 refine Qaa (.agg (ints .u32 ((w64 b).map wv))) 45 rfl kj (Qay 132 _ g4 132 _ _ r4_6 rfl kj kj (isz (n := 64) kj ((Qaf _ _).trans hl64))) ?_
 refine Qaa (.int .i64 0) 46 rfl kj kj ?_
 refine Qac ?_
 refine hK9 _ _ ?_
 refine wp_block ?_
 refine QaM (fun (s1 : Nat) => [(0, .pointer (some ⟨g, 0, none⟩)), (45, .agg (ints .u32 ((w64 b).map wv))), (46, .int .i64 ((s1 : Nat) : Int)), (4, .int .u32 (wv ((rnds KK (w64 b) s s1).a))), (5, .int .u32 (wv ((rnds KK (w64 b) s s1).b))), (6, .int .u32 (wv ((rnds KK (w64 b) s s1).c))), (7, .int .u32 (wv ((rnds KK (w64 b) s s1).d))), (8, .int .u32 (wv ((rnds KK (w64 b) s s1).e))), (9, .int .u32 (wv ((rnds KK (w64 b) s s1).f))), (10, .int .u32 (wv ((rnds KK (w64 b) s s1).g))), (11, .int .u32 (wv ((rnds KK (w64 b) s s1).h)))]) (fun (s1 : Nat) W => (s1 ≤ 64) ∧ (Ext W6 W) ∧ (ExtB g w W)) (fun (s1 : Nat) => 64 - s1) 0 ⟨rfl, rfl, rfl, rfl, rfl, rfl, rfl, rfl, rfl, rfl, rfl, trivial⟩ ⟨(Nat.zero_le _), (Rely.Ext.refl W6), x6⟩ fun s1 X1 V1 hI1 => ?_
 obtain ⟨i, hs1⟩ : ∃ z, z = s1 := ⟨_, rfl⟩
 subst hs1
 obtain ⟨hi, kk1, xx1⟩ := hI1
 replace hi : i ≤ 64 := hi
 replace kk1 : Ext W6 V1 := kk1
 replace xx1 : ExtB g w V1 := xx1
 have e7 := kk1
 refine wp_seq_k fun K10 hK10 => ?_
 refine Qab ?_
 refine Qaa (.bool (decide (((i : Nat) : Int) < 64))) 47 rfl kj kj ?_
 refine Qac ?_
 refine hK10 _ _ ?_
 refine wp_seq_k fun K11 hK11 => ?_
 refine QaE (t := decide (((i : Nat) : Int) < 64)) kj (fun c12 => ?_) (fun c12 => ?_)
 ·skip
  have hlt47 : i < 64 := by have := of_decide_eq_true c12; omega
  refine wp_skip ?_
  refine hK11 _ _ ?_
  refine wp_seq_k fun K13 hK13 => ?_
  refine wp_block ?_
  refine wp_seq_k fun K14 hK14 => ?_
  refine Qab ?_
  refine Qaa (.int .i64 ((i : Nat) : Int)) 48 rfl kj kj ?_
  refine Qaa (.int .u32 (wv (wget (w64 b) i))) 49 rfl kj (Qaz 132 _ _ .i64 .u32 ((w64 b).map wv) i 64 113 (wv (wget (w64 b) i)) rfl kj kj kj kj kj hl64 (by omega) (Qc8 _ _)) ?_
  refine Qaa (.int .i64 ((i : Nat) : Int)) 12 rfl kj kj ?_
  refine Qaa (.int .u32 (wv (wget (w64 b) i))) 13 rfl kj kj ?_
  refine Qac ?_
  refine hK14 _ _ ?_
  refine wp_seq_k fun K15 hK15 => ?_
  refine Qab ?_
  refine Qaa (.int .u32 (wv ((rnds KK (w64 b) s i).e))) 50 rfl kj kj ?_
  refine Qau (.int .u32 (wv (rr ((rnds KK (w64 b) s i).e) 6))) 77 #[.int .u32 (wv ((rnds KK (w64 b) s i).e)), .int .i64 (-6)] 51 rfl kj kj ((rotC ((rnds KK (w64 b) s i).e) 6 (-6) (by decide) (by decide) (by decide)) _) fun W8 e8 => ?_
  have x8 : ExtB g w W8 := ExtB.ext xx1 e8
  refine Qaa (.int .u32 (wv ((rnds KK (w64 b) s i).e))) 52 rfl kj kj ?_
  refine Qau (.int .u32 (wv (rr ((rnds KK (w64 b) s i).e) 11))) 77 #[.int .u32 (wv ((rnds KK (w64 b) s i).e)), .int .i64 (-11)] 53 rfl kj kj ((rotC ((rnds KK (w64 b) s i).e) 11 (-11) (by decide) (by decide) (by decide)) _) fun W9 e9 => ?_
  have x9 : ExtB g w W9 := ExtB.ext x8 e9
  refine Qaa (.int .u32 (wv (((rr ((rnds KK (w64 b) s i).e) 6)) ^^^ ((rr ((rnds KK (w64 b) s i).e) 11))))) 54 rfl kj (Qah (u := .int .u32 (bits .xor .u32 (wv (rr ((rnds KK (w64 b) s i).e) 6)) (wv (rr ((rnds KK (w64 b) s i).e) 11)))) kj (congrArg (Value.int .u32) (w_xor _ _))) ?_
  refine Qaa (.int .u32 (wv ((rnds KK (w64 b) s i).e))) 55 rfl kj kj ?_
  refine Qau (.int .u32 (wv (rr ((rnds KK (w64 b) s i).e) 25))) 77 #[.int .u32 (wv ((rnds KK (w64 b) s i).e)), .int .i64 (-25)] 56 rfl kj kj ((rotC ((rnds KK (w64 b) s i).e) 25 (-25) (by decide) (by decide) (by decide)) _) fun W10 e10 => ?_
  have x10 : ExtB g w W10 := ExtB.ext x9 e10
  refine Qaa (.int .u32 (wv (((((rr ((rnds KK (w64 b) s i).e) 6)) ^^^ ((rr ((rnds KK (w64 b) s i).e) 11)))) ^^^ ((rr ((rnds KK (w64 b) s i).e) 25))))) 57 rfl kj (Qah (u := .int .u32 (bits .xor .u32 (wv (((rr ((rnds KK (w64 b) s i).e) 6)) ^^^ ((rr ((rnds KK (w64 b) s i).e) 11)))) (wv (rr ((rnds KK (w64 b) s i).e) 25)))) kj (congrArg (Value.int .u32) (w_xor _ _))) ?_
  refine Qaa (.int .u32 (wv (((((rr ((rnds KK (w64 b) s i).e) 6)) ^^^ ((rr ((rnds KK (w64 b) s i).e) 11)))) ^^^ ((rr ((rnds KK (w64 b) s i).e) 25))))) 14 rfl kj kj ?_
  refine Qac ?_
  refine hK15 _ _ ?_
  refine wp_seq_k fun K16 hK16 => ?_
  refine Qab ?_
  refine Qaa (.int .u32 (wv ((rnds KK (w64 b) s i).a))) 58 rfl kj kj ?_
  refine Qau (.int .u32 (wv (rr ((rnds KK (w64 b) s i).a) 2))) 77 #[.int .u32 (wv ((rnds KK (w64 b) s i).a)), .int .i64 (-2)] 59 rfl kj kj ((rotC ((rnds KK (w64 b) s i).a) 2 (-2) (by decide) (by decide) (by decide)) _) fun W11 e11 => ?_
  have x11 : ExtB g w W11 := ExtB.ext x10 e11
  refine Qaa (.int .u32 (wv ((rnds KK (w64 b) s i).a))) 60 rfl kj kj ?_
  refine Qau (.int .u32 (wv (rr ((rnds KK (w64 b) s i).a) 13))) 77 #[.int .u32 (wv ((rnds KK (w64 b) s i).a)), .int .i64 (-13)] 61 rfl kj kj ((rotC ((rnds KK (w64 b) s i).a) 13 (-13) (by decide) (by decide) (by decide)) _) fun W12 e12 => ?_
  have x12 : ExtB g w W12 := ExtB.ext x11 e12
  refine Qaa (.int .u32 (wv (((rr ((rnds KK (w64 b) s i).a) 2)) ^^^ ((rr ((rnds KK (w64 b) s i).a) 13))))) 62 rfl kj (Qah (u := .int .u32 (bits .xor .u32 (wv (rr ((rnds KK (w64 b) s i).a) 2)) (wv (rr ((rnds KK (w64 b) s i).a) 13)))) kj (congrArg (Value.int .u32) (w_xor _ _))) ?_
  refine Qaa (.int .u32 (wv ((rnds KK (w64 b) s i).a))) 63 rfl kj kj ?_
  refine Qau (.int .u32 (wv (rr ((rnds KK (w64 b) s i).a) 22))) 77 #[.int .u32 (wv ((rnds KK (w64 b) s i).a)), .int .i64 (-22)] 64 rfl kj kj ((rotC ((rnds KK (w64 b) s i).a) 22 (-22) (by decide) (by decide) (by decide)) _) fun W13 e13 => ?_
  have x13 : ExtB g w W13 := ExtB.ext x12 e13
  refine Qaa (.int .u32 (wv (((((rr ((rnds KK (w64 b) s i).a) 2)) ^^^ ((rr ((rnds KK (w64 b) s i).a) 13)))) ^^^ ((rr ((rnds KK (w64 b) s i).a) 22))))) 65 rfl kj (Qah (u := .int .u32 (bits .xor .u32 (wv (((rr ((rnds KK (w64 b) s i).a) 2)) ^^^ ((rr ((rnds KK (w64 b) s i).a) 13)))) (wv (rr ((rnds KK (w64 b) s i).a) 22)))) kj (congrArg (Value.int .u32) (w_xor _ _))) ?_
  refine Qaa (.int .u32 (wv (((((rr ((rnds KK (w64 b) s i).a) 2)) ^^^ ((rr ((rnds KK (w64 b) s i).a) 13)))) ^^^ ((rr ((rnds KK (w64 b) s i).a) 22))))) 15 rfl kj kj ?_
  refine Qac ?_
  refine hK16 _ _ ?_
  refine wp_seq_k fun K17 hK17 => ?_
  refine Qab ?_
  refine Qaa (.int .u32 (wv ((rnds KK (w64 b) s i).h))) 66 rfl kj kj ?_
  refine Qaa (.int .u32 (wv (((((rr ((rnds KK (w64 b) s i).e) 6)) ^^^ ((rr ((rnds KK (w64 b) s i).e) 11)))) ^^^ ((rr ((rnds KK (w64 b) s i).e) 25))))) 67 rfl kj kj ?_
  refine Qaa (.int .u32 (wv ((((rnds KK (w64 b) s i).h)) + ((((((rr ((rnds KK (w64 b) s i).e) 6)) ^^^ ((rr ((rnds KK (w64 b) s i).e) 11)))) ^^^ ((rr ((rnds KK (w64 b) s i).e) 25))))))) 68 rfl kj (Qah (u := .int .u32 (IntKind.u32.wrap (wv ((rnds KK (w64 b) s i).h) + wv (((((rr ((rnds KK (w64 b) s i).e) 6)) ^^^ ((rr ((rnds KK (w64 b) s i).e) 11)))) ^^^ ((rr ((rnds KK (w64 b) s i).e) 25)))))) kj (congrArg (Value.int .u32) (Qch _ _))) ?_
  refine Qaa (.int .u32 (wv ((rnds KK (w64 b) s i).e))) 69 rfl kj kj ?_
  refine Qaa (.int .u32 (wv ((rnds KK (w64 b) s i).f))) 70 rfl kj kj ?_
  refine Qaa (.int .u32 (wv ((((rnds KK (w64 b) s i).e)) &&& (((rnds KK (w64 b) s i).f))))) 71 rfl kj (Qah (u := .int .u32 (bits .and .u32 (wv ((rnds KK (w64 b) s i).e)) (wv ((rnds KK (w64 b) s i).f)))) kj (congrArg (Value.int .u32) (Qgy _ _))) ?_
  refine Qaa (.int .u32 (wv ((rnds KK (w64 b) s i).e))) 72 rfl kj kj ?_
  refine Qaa (.int .u32 (wv (~~~(((rnds KK (w64 b) s i).e))))) 73 rfl kj (Qah (u := .int .u32 (bits .xor .u32 4294967295 (wv ((rnds KK (w64 b) s i).e)))) kj (congrArg (Value.int .u32) (QjD _))) ?_
  refine Qaa (.int .u32 (wv ((rnds KK (w64 b) s i).g))) 74 rfl kj kj ?_
  refine Qaa (.int .u32 (wv (((~~~(((rnds KK (w64 b) s i).e)))) &&& (((rnds KK (w64 b) s i).g))))) 75 rfl kj (Qah (u := .int .u32 (bits .and .u32 (wv (~~~(((rnds KK (w64 b) s i).e)))) (wv ((rnds KK (w64 b) s i).g)))) kj (congrArg (Value.int .u32) (Qgy _ _))) ?_
  refine Qaa (.int .u32 (wv ((((((rnds KK (w64 b) s i).e)) &&& (((rnds KK (w64 b) s i).f)))) ^^^ ((((~~~(((rnds KK (w64 b) s i).e)))) &&& (((rnds KK (w64 b) s i).g))))))) 76 rfl kj (Qah (u := .int .u32 (bits .xor .u32 (wv ((((rnds KK (w64 b) s i).e)) &&& (((rnds KK (w64 b) s i).f)))) (wv (((~~~(((rnds KK (w64 b) s i).e)))) &&& (((rnds KK (w64 b) s i).g)))))) kj (congrArg (Value.int .u32) (w_xor _ _))) ?_
  refine Qaa (.int .u32 (wv ((((((rnds KK (w64 b) s i).h)) + ((((((rr ((rnds KK (w64 b) s i).e) 6)) ^^^ ((rr ((rnds KK (w64 b) s i).e) 11)))) ^^^ ((rr ((rnds KK (w64 b) s i).e) 25)))))) + (((((((rnds KK (w64 b) s i).e)) &&& (((rnds KK (w64 b) s i).f)))) ^^^ ((((~~~(((rnds KK (w64 b) s i).e)))) &&& (((rnds KK (w64 b) s i).g))))))))) 77 rfl kj (Qah (u := .int .u32 (IntKind.u32.wrap (wv ((((rnds KK (w64 b) s i).h)) + ((((((rr ((rnds KK (w64 b) s i).e) 6)) ^^^ ((rr ((rnds KK (w64 b) s i).e) 11)))) ^^^ ((rr ((rnds KK (w64 b) s i).e) 25))))) + wv ((((((rnds KK (w64 b) s i).e)) &&& (((rnds KK (w64 b) s i).f)))) ^^^ ((((~~~(((rnds KK (w64 b) s i).e)))) &&& (((rnds KK (w64 b) s i).g)))))))) kj (congrArg (Value.int .u32) (Qch _ _))) ?_
  refine Qaa (.int .i64 ((i : Nat) : Int)) 78 rfl kj kj ?_
  refine Qaa (.pointer (some ⟨2, i, none⟩)) 79 rfl kj (QaR _ _ _ .i64 (i) _ 80 77 rfl kj kj kj kj (by omega)) ?_
  have r1_1 := (Qad hc e1)
  have r1_2 := (Qad r1_1 e2)
  have r1_3 := (Puts.row p3 r1_2 (Qag r1_1 l4))
  have r1_4 := (Qad r1_3 e4)
  have r1_5 := (Puts.row p5 r1_4 (Qag r1_3 l6))
  have r1_6 := (Qad r1_5 e6)
  have r1_7 := (Qad r1_6 e7)
  have r1_8 := (Qad r1_7 e8)
  have r1_9 := (Qad r1_8 e9)
  have r1_10 := (Qad r1_9 e10)
  have r1_11 := (Qad r1_10 e11)
  have r1_12 := (Qad r1_11 e12)
  have r1_13 := (Qad r1_12 e13)
  refine Qaa (.int .u64 (nth (QaD) i)) 80 rfl kj (Qal 77 _ 2 i tc _ (.int .u64 (nth (QaD) i)) _ r1_13 rfl kj (Qbb _ _ _ (Nat.lt_of_lt_of_eq (by omega) (show QaD.length = 80 from rfl).symm)) kj) ?_
  refine Qaa (.int .u64 (nth QaD i / 4294967296)) 81 rfl kj (Qa1 .shr _ _ _ _ .u64 .u64 _ _ _ rfl kj kj (QaO _ _ _ _ _ _ (by decide) (Qee _))) ?_
  refine Qaa (.int .u32 (wv (wget KK i))) 82 rfl kj (Qah (u := .int .u32 (IntKind.u32.wrap (nth QaD i / 4294967296))) kj (congrArg (Value.int .u32) (Qj2 i hlt47))) ?_
  refine Qaa (.int .u32 (wv ((((((((rnds KK (w64 b) s i).h)) + ((((((rr ((rnds KK (w64 b) s i).e) 6)) ^^^ ((rr ((rnds KK (w64 b) s i).e) 11)))) ^^^ ((rr ((rnds KK (w64 b) s i).e) 25)))))) + (((((((rnds KK (w64 b) s i).e)) &&& (((rnds KK (w64 b) s i).f)))) ^^^ ((((~~~(((rnds KK (w64 b) s i).e)))) &&& (((rnds KK (w64 b) s i).g)))))))) + ((wget KK i))))) 83 rfl kj (Qah (u := .int .u32 (IntKind.u32.wrap (wv ((((((rnds KK (w64 b) s i).h)) + ((((((rr ((rnds KK (w64 b) s i).e) 6)) ^^^ ((rr ((rnds KK (w64 b) s i).e) 11)))) ^^^ ((rr ((rnds KK (w64 b) s i).e) 25)))))) + (((((((rnds KK (w64 b) s i).e)) &&& (((rnds KK (w64 b) s i).f)))) ^^^ ((((~~~(((rnds KK (w64 b) s i).e)))) &&& (((rnds KK (w64 b) s i).g))))))) + wv (wget KK i)))) kj (congrArg (Value.int .u32) (Qch _ _))) ?_
  refine Qaa (.int .u32 (wv (wget (w64 b) i))) 84 rfl kj kj ?_
  refine Qaa (.int .u32 (wv ((((((((((rnds KK (w64 b) s i).h)) + ((((((rr ((rnds KK (w64 b) s i).e) 6)) ^^^ ((rr ((rnds KK (w64 b) s i).e) 11)))) ^^^ ((rr ((rnds KK (w64 b) s i).e) 25)))))) + (((((((rnds KK (w64 b) s i).e)) &&& (((rnds KK (w64 b) s i).f)))) ^^^ ((((~~~(((rnds KK (w64 b) s i).e)))) &&& (((rnds KK (w64 b) s i).g)))))))) + ((wget KK i)))) + ((wget (w64 b) i))))) 85 rfl kj (Qah (u := .int .u32 (IntKind.u32.wrap (wv ((((((((rnds KK (w64 b) s i).h)) + ((((((rr ((rnds KK (w64 b) s i).e) 6)) ^^^ ((rr ((rnds KK (w64 b) s i).e) 11)))) ^^^ ((rr ((rnds KK (w64 b) s i).e) 25)))))) + (((((((rnds KK (w64 b) s i).e)) &&& (((rnds KK (w64 b) s i).f)))) ^^^ ((((~~~(((rnds KK (w64 b) s i).e)))) &&& (((rnds KK (w64 b) s i).g)))))))) + ((wget KK i))) + wv (wget (w64 b) i)))) kj (congrArg (Value.int .u32) (Qch _ _))) ?_
  refine Qaa (.int .u32 (wv ((((((((((rnds KK (w64 b) s i).h)) + ((((((rr ((rnds KK (w64 b) s i).e) 6)) ^^^ ((rr ((rnds KK (w64 b) s i).e) 11)))) ^^^ ((rr ((rnds KK (w64 b) s i).e) 25)))))) + (((((((rnds KK (w64 b) s i).e)) &&& (((rnds KK (w64 b) s i).f)))) ^^^ ((((~~~(((rnds KK (w64 b) s i).e)))) &&& (((rnds KK (w64 b) s i).g)))))))) + ((wget KK i)))) + ((wget (w64 b) i))))) 16 rfl kj kj ?_
  refine Qac ?_
  refine hK17 _ _ ?_
  refine wp_seq_k fun K18 hK18 => ?_
  refine Qab ?_
  refine Qaa (.int .u32 (wv (((((rr ((rnds KK (w64 b) s i).a) 2)) ^^^ ((rr ((rnds KK (w64 b) s i).a) 13)))) ^^^ ((rr ((rnds KK (w64 b) s i).a) 22))))) 86 rfl kj kj ?_
  refine Qaa (.int .u32 (wv ((rnds KK (w64 b) s i).a))) 87 rfl kj kj ?_
  refine Qaa (.int .u32 (wv ((rnds KK (w64 b) s i).b))) 88 rfl kj kj ?_
  refine Qaa (.int .u32 (wv ((((rnds KK (w64 b) s i).a)) &&& (((rnds KK (w64 b) s i).b))))) 89 rfl kj (Qah (u := .int .u32 (bits .and .u32 (wv ((rnds KK (w64 b) s i).a)) (wv ((rnds KK (w64 b) s i).b)))) kj (congrArg (Value.int .u32) (Qgy _ _))) ?_
  refine Qaa (.int .u32 (wv ((rnds KK (w64 b) s i).a))) 90 rfl kj kj ?_
  refine Qaa (.int .u32 (wv ((rnds KK (w64 b) s i).c))) 91 rfl kj kj ?_
  refine Qaa (.int .u32 (wv ((((rnds KK (w64 b) s i).a)) &&& (((rnds KK (w64 b) s i).c))))) 92 rfl kj (Qah (u := .int .u32 (bits .and .u32 (wv ((rnds KK (w64 b) s i).a)) (wv ((rnds KK (w64 b) s i).c)))) kj (congrArg (Value.int .u32) (Qgy _ _))) ?_
  refine Qaa (.int .u32 (wv ((((((rnds KK (w64 b) s i).a)) &&& (((rnds KK (w64 b) s i).b)))) ^^^ (((((rnds KK (w64 b) s i).a)) &&& (((rnds KK (w64 b) s i).c))))))) 93 rfl kj (Qah (u := .int .u32 (bits .xor .u32 (wv ((((rnds KK (w64 b) s i).a)) &&& (((rnds KK (w64 b) s i).b)))) (wv ((((rnds KK (w64 b) s i).a)) &&& (((rnds KK (w64 b) s i).c)))))) kj (congrArg (Value.int .u32) (w_xor _ _))) ?_
  refine Qaa (.int .u32 (wv ((rnds KK (w64 b) s i).b))) 94 rfl kj kj ?_
  refine Qaa (.int .u32 (wv ((rnds KK (w64 b) s i).c))) 95 rfl kj kj ?_
  refine Qaa (.int .u32 (wv ((((rnds KK (w64 b) s i).b)) &&& (((rnds KK (w64 b) s i).c))))) 96 rfl kj (Qah (u := .int .u32 (bits .and .u32 (wv ((rnds KK (w64 b) s i).b)) (wv ((rnds KK (w64 b) s i).c)))) kj (congrArg (Value.int .u32) (Qgy _ _))) ?_
  refine Qaa (.int .u32 (wv ((((((((rnds KK (w64 b) s i).a)) &&& (((rnds KK (w64 b) s i).b)))) ^^^ (((((rnds KK (w64 b) s i).a)) &&& (((rnds KK (w64 b) s i).c)))))) ^^^ (((((rnds KK (w64 b) s i).b)) &&& (((rnds KK (w64 b) s i).c))))))) 97 rfl kj (Qah (u := .int .u32 (bits .xor .u32 (wv ((((((rnds KK (w64 b) s i).a)) &&& (((rnds KK (w64 b) s i).b)))) ^^^ (((((rnds KK (w64 b) s i).a)) &&& (((rnds KK (w64 b) s i).c)))))) (wv ((((rnds KK (w64 b) s i).b)) &&& (((rnds KK (w64 b) s i).c)))))) kj (congrArg (Value.int .u32) (w_xor _ _))) ?_
  refine Qaa (.int .u32 (wv (((((((rr ((rnds KK (w64 b) s i).a) 2)) ^^^ ((rr ((rnds KK (w64 b) s i).a) 13)))) ^^^ ((rr ((rnds KK (w64 b) s i).a) 22)))) + (((((((((rnds KK (w64 b) s i).a)) &&& (((rnds KK (w64 b) s i).b)))) ^^^ (((((rnds KK (w64 b) s i).a)) &&& (((rnds KK (w64 b) s i).c)))))) ^^^ (((((rnds KK (w64 b) s i).b)) &&& (((rnds KK (w64 b) s i).c))))))))) 98 rfl kj (Qah (u := .int .u32 (IntKind.u32.wrap (wv (((((rr ((rnds KK (w64 b) s i).a) 2)) ^^^ ((rr ((rnds KK (w64 b) s i).a) 13)))) ^^^ ((rr ((rnds KK (w64 b) s i).a) 22))) + wv ((((((((rnds KK (w64 b) s i).a)) &&& (((rnds KK (w64 b) s i).b)))) ^^^ (((((rnds KK (w64 b) s i).a)) &&& (((rnds KK (w64 b) s i).c)))))) ^^^ (((((rnds KK (w64 b) s i).b)) &&& (((rnds KK (w64 b) s i).c)))))))) kj (congrArg (Value.int .u32) (Qch _ _))) ?_
  refine Qaa (.int .u32 (wv (((((((rr ((rnds KK (w64 b) s i).a) 2)) ^^^ ((rr ((rnds KK (w64 b) s i).a) 13)))) ^^^ ((rr ((rnds KK (w64 b) s i).a) 22)))) + (((((((((rnds KK (w64 b) s i).a)) &&& (((rnds KK (w64 b) s i).b)))) ^^^ (((((rnds KK (w64 b) s i).a)) &&& (((rnds KK (w64 b) s i).c)))))) ^^^ (((((rnds KK (w64 b) s i).b)) &&& (((rnds KK (w64 b) s i).c))))))))) 17 rfl kj kj ?_
  refine Qac ?_
  refine hK18 _ _ ?_
  refine Qab ?_
  refine Qaa (.int .u32 (wv ((rnds KK (w64 b) s i).g))) 99 rfl kj kj ?_
  refine Qaa (.int .u32 (wv ((rnds KK (w64 b) s i).f))) 100 rfl kj kj ?_
  refine Qaa (.int .u32 (wv ((rnds KK (w64 b) s i).e))) 101 rfl kj kj ?_
  refine Qaa (.int .u32 (wv ((rnds KK (w64 b) s i).d))) 102 rfl kj kj ?_
  refine Qaa (.int .u32 (wv ((((((((((rnds KK (w64 b) s i).h)) + ((((((rr ((rnds KK (w64 b) s i).e) 6)) ^^^ ((rr ((rnds KK (w64 b) s i).e) 11)))) ^^^ ((rr ((rnds KK (w64 b) s i).e) 25)))))) + (((((((rnds KK (w64 b) s i).e)) &&& (((rnds KK (w64 b) s i).f)))) ^^^ ((((~~~(((rnds KK (w64 b) s i).e)))) &&& (((rnds KK (w64 b) s i).g)))))))) + ((wget KK i)))) + ((wget (w64 b) i))))) 103 rfl kj kj ?_
  refine Qaa (.int .u32 (wv ((((rnds KK (w64 b) s i).d)) + (((((((((((rnds KK (w64 b) s i).h)) + ((((((rr ((rnds KK (w64 b) s i).e) 6)) ^^^ ((rr ((rnds KK (w64 b) s i).e) 11)))) ^^^ ((rr ((rnds KK (w64 b) s i).e) 25)))))) + (((((((rnds KK (w64 b) s i).e)) &&& (((rnds KK (w64 b) s i).f)))) ^^^ ((((~~~(((rnds KK (w64 b) s i).e)))) &&& (((rnds KK (w64 b) s i).g)))))))) + ((wget KK i)))) + ((wget (w64 b) i))))))) 104 rfl kj (Qah (u := .int .u32 (IntKind.u32.wrap (wv ((rnds KK (w64 b) s i).d) + wv ((((((((((rnds KK (w64 b) s i).h)) + ((((((rr ((rnds KK (w64 b) s i).e) 6)) ^^^ ((rr ((rnds KK (w64 b) s i).e) 11)))) ^^^ ((rr ((rnds KK (w64 b) s i).e) 25)))))) + (((((((rnds KK (w64 b) s i).e)) &&& (((rnds KK (w64 b) s i).f)))) ^^^ ((((~~~(((rnds KK (w64 b) s i).e)))) &&& (((rnds KK (w64 b) s i).g)))))))) + ((wget KK i)))) + ((wget (w64 b) i)))))) kj (congrArg (Value.int .u32) (Qch _ _))) ?_
  refine Qaa (.int .u32 (wv ((rnds KK (w64 b) s i).c))) 105 rfl kj kj ?_
  refine Qaa (.int .u32 (wv ((rnds KK (w64 b) s i).b))) 106 rfl kj kj ?_
  refine Qaa (.int .u32 (wv ((rnds KK (w64 b) s i).a))) 107 rfl kj kj ?_
  refine Qaa (.int .u32 (wv ((((((((((rnds KK (w64 b) s i).h)) + ((((((rr ((rnds KK (w64 b) s i).e) 6)) ^^^ ((rr ((rnds KK (w64 b) s i).e) 11)))) ^^^ ((rr ((rnds KK (w64 b) s i).e) 25)))))) + (((((((rnds KK (w64 b) s i).e)) &&& (((rnds KK (w64 b) s i).f)))) ^^^ ((((~~~(((rnds KK (w64 b) s i).e)))) &&& (((rnds KK (w64 b) s i).g)))))))) + ((wget KK i)))) + ((wget (w64 b) i))))) 108 rfl kj kj ?_
  refine Qaa (.int .u32 (wv (((((((rr ((rnds KK (w64 b) s i).a) 2)) ^^^ ((rr ((rnds KK (w64 b) s i).a) 13)))) ^^^ ((rr ((rnds KK (w64 b) s i).a) 22)))) + (((((((((rnds KK (w64 b) s i).a)) &&& (((rnds KK (w64 b) s i).b)))) ^^^ (((((rnds KK (w64 b) s i).a)) &&& (((rnds KK (w64 b) s i).c)))))) ^^^ (((((rnds KK (w64 b) s i).b)) &&& (((rnds KK (w64 b) s i).c))))))))) 109 rfl kj kj ?_
  refine Qaa (.int .u32 (wv ((((((((((((rnds KK (w64 b) s i).h)) + ((((((rr ((rnds KK (w64 b) s i).e) 6)) ^^^ ((rr ((rnds KK (w64 b) s i).e) 11)))) ^^^ ((rr ((rnds KK (w64 b) s i).e) 25)))))) + (((((((rnds KK (w64 b) s i).e)) &&& (((rnds KK (w64 b) s i).f)))) ^^^ ((((~~~(((rnds KK (w64 b) s i).e)))) &&& (((rnds KK (w64 b) s i).g)))))))) + ((wget KK i)))) + ((wget (w64 b) i)))) + ((((((((rr ((rnds KK (w64 b) s i).a) 2)) ^^^ ((rr ((rnds KK (w64 b) s i).a) 13)))) ^^^ ((rr ((rnds KK (w64 b) s i).a) 22)))) + (((((((((rnds KK (w64 b) s i).a)) &&& (((rnds KK (w64 b) s i).b)))) ^^^ (((((rnds KK (w64 b) s i).a)) &&& (((rnds KK (w64 b) s i).c)))))) ^^^ (((((rnds KK (w64 b) s i).b)) &&& (((rnds KK (w64 b) s i).c))))))))))) 110 rfl kj (Qah (u := .int .u32 (IntKind.u32.wrap (wv ((((((((((rnds KK (w64 b) s i).h)) + ((((((rr ((rnds KK (w64 b) s i).e) 6)) ^^^ ((rr ((rnds KK (w64 b) s i).e) 11)))) ^^^ ((rr ((rnds KK (w64 b) s i).e) 25)))))) + (((((((rnds KK (w64 b) s i).e)) &&& (((rnds KK (w64 b) s i).f)))) ^^^ ((((~~~(((rnds KK (w64 b) s i).e)))) &&& (((rnds KK (w64 b) s i).g)))))))) + ((wget KK i)))) + ((wget (w64 b) i))) + wv (((((((rr ((rnds KK (w64 b) s i).a) 2)) ^^^ ((rr ((rnds KK (w64 b) s i).a) 13)))) ^^^ ((rr ((rnds KK (w64 b) s i).a) 22)))) + (((((((((rnds KK (w64 b) s i).a)) &&& (((rnds KK (w64 b) s i).b)))) ^^^ (((((rnds KK (w64 b) s i).a)) &&& (((rnds KK (w64 b) s i).c)))))) ^^^ (((((rnds KK (w64 b) s i).b)) &&& (((rnds KK (w64 b) s i).c)))))))))) kj (congrArg (Value.int .u32) (Qch _ _))) ?_
  refine Qaa (.int .u32 (wv ((rnds KK (w64 b) s i).g))) 11 rfl kj kj ?_
  refine Qaa (.int .u32 (wv ((rnds KK (w64 b) s i).f))) 10 rfl kj kj ?_
  refine Qaa (.int .u32 (wv ((rnds KK (w64 b) s i).e))) 9 rfl kj kj ?_
  refine Qaa (.int .u32 (wv ((((rnds KK (w64 b) s i).d)) + (((((((((((rnds KK (w64 b) s i).h)) + ((((((rr ((rnds KK (w64 b) s i).e) 6)) ^^^ ((rr ((rnds KK (w64 b) s i).e) 11)))) ^^^ ((rr ((rnds KK (w64 b) s i).e) 25)))))) + (((((((rnds KK (w64 b) s i).e)) &&& (((rnds KK (w64 b) s i).f)))) ^^^ ((((~~~(((rnds KK (w64 b) s i).e)))) &&& (((rnds KK (w64 b) s i).g)))))))) + ((wget KK i)))) + ((wget (w64 b) i))))))) 8 rfl kj kj ?_
  refine Qaa (.int .u32 (wv ((rnds KK (w64 b) s i).c))) 7 rfl kj kj ?_
  refine Qaa (.int .u32 (wv ((rnds KK (w64 b) s i).b))) 6 rfl kj kj ?_
  refine Qaa (.int .u32 (wv ((rnds KK (w64 b) s i).a))) 5 rfl kj kj ?_
  refine Qaa (.int .u32 (wv ((((((((((((rnds KK (w64 b) s i).h)) + ((((((rr ((rnds KK (w64 b) s i).e) 6)) ^^^ ((rr ((rnds KK (w64 b) s i).e) 11)))) ^^^ ((rr ((rnds KK (w64 b) s i).e) 25)))))) + (((((((rnds KK (w64 b) s i).e)) &&& (((rnds KK (w64 b) s i).f)))) ^^^ ((((~~~(((rnds KK (w64 b) s i).e)))) &&& (((rnds KK (w64 b) s i).g)))))))) + ((wget KK i)))) + ((wget (w64 b) i)))) + ((((((((rr ((rnds KK (w64 b) s i).a) 2)) ^^^ ((rr ((rnds KK (w64 b) s i).a) 13)))) ^^^ ((rr ((rnds KK (w64 b) s i).a) 22)))) + (((((((((rnds KK (w64 b) s i).a)) &&& (((rnds KK (w64 b) s i).b)))) ^^^ (((((rnds KK (w64 b) s i).a)) &&& (((rnds KK (w64 b) s i).c)))))) ^^^ (((((rnds KK (w64 b) s i).b)) &&& (((rnds KK (w64 b) s i).c))))))))))) 4 rfl kj kj ?_
  refine Qac ?_
  refine hK13 _ _ ?_
  refine Qab ?_
  refine Qaa (.int .i64 ((i + 1 : Nat) : Int)) 111 rfl kj (Qah (u := .int .i64 (IntKind.i64.wrap (((i : Nat) : Int) + 1))) kj (congrArg (Value.int .i64) (i64n _ _ (by omega) (by omega)))) ?_
  refine Qaa (.int .i64 ((i + 1 : Nat) : Int)) 46 rfl kj kj ?_
  refine Qac ?_
  have y6_8 : Ext W6 W8 := (Rely.Ext.trans e7 e8)
  have y6_9 : Ext W6 W9 := (Rely.Ext.trans y6_8 e9)
  have y6_10 : Ext W6 W10 := (Rely.Ext.trans y6_9 e10)
  have y6_11 : Ext W6 W11 := (Rely.Ext.trans y6_10 e11)
  have y6_12 : Ext W6 W12 := (Rely.Ext.trans y6_11 e12)
  have y6_13 : Ext W6 W13 := (Rely.Ext.trans y6_12 e13)
  repeat (first | with_reducible refine goX1 ?_ | with_reducible refine goX2 ?_ | with_reducible refine goX3 ?_)
  exact QaB (i + 1) ⟨rfl, rfl, rfl, rfl, rfl, rfl, rfl, rfl, rfl, rfl, rfl, trivial⟩ ⟨(by omega), y6_13, x13⟩ (by omega)
 ·skip
  have heq47 : i = 64 := by have := of_decide_eq_false c12; omega
  refine wp_exit ?_
  refine hK8 _ _ ?_
  refine wp_seq_k fun K19 hK19 => ?_
  refine Qab ?_
  refine Qaa (.int .u32 (wv ((rnds KK (w64 b) s i).a))) 112 rfl kj kj ?_
  refine Qaa (.int .u32 (wv ((rnds KK (w64 b) s i).b))) 113 rfl kj kj ?_
  refine Qaa (.int .u32 (wv ((rnds KK (w64 b) s i).c))) 114 rfl kj kj ?_
  refine Qaa (.int .u32 (wv ((rnds KK (w64 b) s i).d))) 115 rfl kj kj ?_
  refine Qaa (.int .u32 (wv ((rnds KK (w64 b) s i).e))) 116 rfl kj kj ?_
  refine Qaa (.int .u32 (wv ((rnds KK (w64 b) s i).f))) 117 rfl kj kj ?_
  refine Qaa (.int .u32 (wv ((rnds KK (w64 b) s i).g))) 118 rfl kj kj ?_
  refine Qaa (.int .u32 (wv ((rnds KK (w64 b) s i).h))) 119 rfl kj kj ?_
  refine Qaa (.agg (ints .u32 ([wv (rnds KK (w64 b) s i).a, wv (rnds KK (w64 b) s i).b, wv (rnds KK (w64 b) s i).c, wv (rnds KK (w64 b) s i).d, wv (rnds KK (w64 b) s i).e, wv (rnds KK (w64 b) s i).f, wv (rnds KK (w64 b) s i).g, wv (rnds KK (w64 b) s i).h]))) 120 rfl kj kj ?_
  refine Qaa (.int .i64 0) 121 rfl kj kj ?_
  refine Qac ?_
  refine hK19 _ _ ?_
  refine wp_block ?_
  refine wp_loop_rounds 9 ?_
  show Code.wp _ _ (Exit.then (Code.rounds _ _ _ 8) _) _ _
  refine wp_seq_k fun K20 hK20 => ?_
  refine Qab ?_
  refine Qaa (.bool true) 122 rfl kj kj ?_
  refine Qac ?_
  refine hK20 _ _ ?_
  refine wp_seq_k fun K21 hK21 => ?_
  refine cond_true kj ?_
  refine wp_skip ?_
  refine hK21 _ _ ?_
  refine wp_seq_k fun K22 hK22 => ?_
  refine wp_block ?_
  refine wp_seq_k fun K23 hK23 => ?_
  refine Qab ?_
  refine Qaa (.int .i64 0) 123 rfl kj kj ?_
  refine Qaa (.int .u32 (wv (rnds KK (w64 b) s i).a)) 124 rfl kj (Qaz 114 _ _ .i64 .u32 ([wv (rnds KK (w64 b) s i).a, wv (rnds KK (w64 b) s i).b, wv (rnds KK (w64 b) s i).c, wv (rnds KK (w64 b) s i).d, wv (rnds KK (w64 b) s i).e, wv (rnds KK (w64 b) s i).f, wv (rnds KK (w64 b) s i).g, wv (rnds KK (w64 b) s i).h]) 0 8 113 (wv (rnds KK (w64 b) s i).a) rfl kj kj kj kj kj rfl (by decide) rfl) ?_
  refine Qaa (.int .i64 0) 18 rfl kj kj ?_
  refine Qaa (.int .u32 (wv (rnds KK (w64 b) s i).a)) 19 rfl kj kj ?_
  refine Qac ?_
  refine hK23 _ _ ?_
  refine QaN 11 [⟨none, [(0, none)]⟩, ⟨none, [(18, none)]⟩, ⟨none, [(125, some 0)]⟩, ⟨none, [(127, some 2)]⟩, ⟨none, [(128, some 3), (126, some 1)]⟩, ⟨none, [(129, some 4)]⟩, ⟨none, [(19, none)]⟩, ⟨none, [(130, some 5), (131, some 6)]⟩, ⟨none, [(125, some 0)]⟩, ⟨none, [(133, some 8)]⟩, ⟨none, [(134, some 9), (126, some 1)]⟩] kj kj fun F hF => ?_
  refine Qak (.pointer (some ⟨g, 0, none⟩)) kj kj (fun W => by kernel_rfl) ?_
  refine Qak (.int .i64 0) kj kj (fun W => by kernel_rfl) ?_
  refine Qak (.pointer (some ⟨g, 0, none⟩)) kj kj (fun W => by kernel_rfl) ?_
  refine Qak (.pointer (some ⟨g, 0, none⟩)) kj kj (fun W => by kernel_rfl) ?_
  refine Qak (.pointer (some ⟨g, 0, none⟩)) kj kj (fun W => by kernel_rfl) ?_
  have r2_4 := (Qad r2_3 e4)
  have r2_5 := (Puts.row p5 r2_4 (Qag r2_3 l6))
  have r2_6 := (Qad r2_5 e6)
  have r2_7 := (Qad r2_6 e7)
  refine QaI (.int .u32 (wv s.a)) kj kj (fun W hR => (Qal 113 _ g 0 129 _ (.int .u32 (wv s.a)) _ (Qad (Qad r2_7 (Qa2 _)) hR) rfl kj (Qb7 [] [ints .u8 (b), #[.int .i64 m]] ([wv s.a, wv s.b, wv s.c, wv s.d, wv s.e, wv s.f, wv s.g, wv s.h]) 0 0 0 kj rfl (Nat.lt_of_lt_of_eq (show 0 < 8 by decide) rfl.symm)) kj)) ?_
  refine Qak (.int .u32 (wv (rnds KK (w64 b) s i).a)) kj kj (fun W => by kernel_rfl) ?_
  refine Qak (.int .u32 (wv ((s.a) + ((rnds KK (w64 b) s i).a)))) kj kj (fun W => (Qah (u := .int .u32 (IntKind.u32.wrap (wv s.a + wv ((rnds KK (w64 b) s i).a)))) kj (congrArg (Value.int .u32) (Qch _ _)))) ?_
  refine Qak (.pointer (some ⟨g, 0, none⟩)) kj kj (fun W => by kernel_rfl) ?_
  refine Qak (.pointer (some ⟨g, 0, none⟩)) kj kj (fun W => by kernel_rfl) ?_
  refine Qak (.pointer (some ⟨g, 0, none⟩)) kj kj (fun W => by kernel_rfl) ?_
  refine QaQ (hF _ kj fun W8 e8 => ?_)
  simp only [ups, up, Kn.val, List.take_succ_cons, List.take_zero, List.drop_succ_cons, List.drop_zero, List.nil_append, List.cons_append]
  clear hF
  have x8 : ExtB g w W8 := ExtB.ext xx1 e8
  have r2_8 := (Qad r2_7 e8)
  refine Qaj g _ (cat [ints .u32 ([(wv ((s.a) + ((rnds KK (w64 b) s i).a))), wv s.b, wv s.c, wv s.d, wv s.e, wv s.f, wv s.g, wv s.h]), ints .u8 (b), #[.int .i64 m]]) 129 r2_8 rfl kj (QaJ 113 _ _ g 0 129 [] [ints .u8 (b), #[.int .i64 m]] ([wv s.a, wv s.b, wv s.c, wv s.d, wv s.e, wv s.f, wv s.g, wv s.h]) 0 0 _ r2_8 rfl kj kj kj kj rfl (Nat.lt_of_lt_of_eq (show 0 < 8 by decide) rfl.symm)) fun W9 p9 r2_9 => ?_
  have x9 : ExtB g w W9 := ExtB.puts x8 p9
  refine Qac ?_
  refine hK22 _ _ ?_
  refine Qab ?_
  refine Qaa (.int .i64 1) 136 rfl kj kj ?_
  refine Qaa (.int .i64 1) 121 rfl kj kj ?_
  refine Qac ?_
  show Code.rounds _ _ _ 8 _ _
  show Code.wp _ _ (Exit.then (Code.rounds _ _ _ 7) _) _ _
  refine wp_seq_k fun K24 hK24 => ?_
  refine Qab ?_
  refine Qaa (.bool true) 122 rfl kj kj ?_
  refine Qac ?_
  refine hK24 _ _ ?_
  refine wp_seq_k fun K25 hK25 => ?_
  refine cond_true kj ?_
  refine wp_skip ?_
  refine hK25 _ _ ?_
  refine wp_seq_k fun K26 hK26 => ?_
  refine wp_block ?_
  refine wp_seq_k fun K27 hK27 => ?_
  refine Qab ?_
  refine Qaa (.int .i64 1) 123 rfl kj kj ?_
  refine Qaa (.int .u32 (wv (rnds KK (w64 b) s i).b)) 124 rfl kj (Qaz 114 _ _ .i64 .u32 ([wv (rnds KK (w64 b) s i).a, wv (rnds KK (w64 b) s i).b, wv (rnds KK (w64 b) s i).c, wv (rnds KK (w64 b) s i).d, wv (rnds KK (w64 b) s i).e, wv (rnds KK (w64 b) s i).f, wv (rnds KK (w64 b) s i).g, wv (rnds KK (w64 b) s i).h]) 1 8 113 (wv (rnds KK (w64 b) s i).b) rfl kj kj kj kj kj rfl (by decide) rfl) ?_
  refine Qaa (.int .i64 1) 18 rfl kj kj ?_
  refine Qaa (.int .u32 (wv (rnds KK (w64 b) s i).b)) 19 rfl kj kj ?_
  refine Qac ?_
  refine hK27 _ _ ?_
  refine QaN 11 [⟨none, [(0, none)]⟩, ⟨none, [(18, none)]⟩, ⟨none, [(125, some 0)]⟩, ⟨none, [(127, some 2)]⟩, ⟨none, [(128, some 3), (126, some 1)]⟩, ⟨none, [(129, some 4)]⟩, ⟨none, [(19, none)]⟩, ⟨none, [(130, some 5), (131, some 6)]⟩, ⟨none, [(125, some 0)]⟩, ⟨none, [(133, some 8)]⟩, ⟨none, [(134, some 9), (126, some 1)]⟩] kj kj fun F hF => ?_
  refine Qak (.pointer (some ⟨g, 0, none⟩)) kj kj (fun W => by kernel_rfl) ?_
  refine Qak (.int .i64 1) kj kj (fun W => by kernel_rfl) ?_
  refine Qak (.pointer (some ⟨g, 0, none⟩)) kj kj (fun W => by kernel_rfl) ?_
  refine Qak (.pointer (some ⟨g, 0, none⟩)) kj kj (fun W => by kernel_rfl) ?_
  refine Qak (.pointer (some ⟨g, 1, none⟩)) kj kj (fun W => by kernel_rfl) ?_
  refine QaI (.int .u32 (wv s.b)) kj kj (fun W hR => (Qal 113 _ g 1 129 _ (.int .u32 (wv s.b)) _ (Qad (Qad r2_9 (Qa2 _)) hR) rfl kj (Qb7 [] [ints .u8 (b), #[.int .i64 m]] ([(wv ((s.a) + ((rnds KK (w64 b) s i).a))), wv s.b, wv s.c, wv s.d, wv s.e, wv s.f, wv s.g, wv s.h]) 0 1 1 kj rfl (Nat.lt_of_lt_of_eq (show 1 < 8 by decide) rfl.symm)) kj)) ?_
  refine Qak (.int .u32 (wv (rnds KK (w64 b) s i).b)) kj kj (fun W => by kernel_rfl) ?_
  refine Qak (.int .u32 (wv ((s.b) + ((rnds KK (w64 b) s i).b)))) kj kj (fun W => (Qah (u := .int .u32 (IntKind.u32.wrap (wv s.b + wv ((rnds KK (w64 b) s i).b)))) kj (congrArg (Value.int .u32) (Qch _ _)))) ?_
  refine Qak (.pointer (some ⟨g, 0, none⟩)) kj kj (fun W => by kernel_rfl) ?_
  refine Qak (.pointer (some ⟨g, 0, none⟩)) kj kj (fun W => by kernel_rfl) ?_
  refine Qak (.pointer (some ⟨g, 1, none⟩)) kj kj (fun W => by kernel_rfl) ?_
  refine QaQ (hF _ kj fun W10 e10 => ?_)
  simp only [ups, up, Kn.val, List.take_succ_cons, List.take_zero, List.drop_succ_cons, List.drop_zero, List.nil_append, List.cons_append]
  clear hF
  have x10 : ExtB g w W10 := ExtB.ext x9 e10
  have r2_10 := (Qad r2_9 e10)
  refine Qaj g _ (cat [ints .u32 ([(wv ((s.a) + ((rnds KK (w64 b) s i).a))), (wv ((s.b) + ((rnds KK (w64 b) s i).b))), wv s.c, wv s.d, wv s.e, wv s.f, wv s.g, wv s.h]), ints .u8 (b), #[.int .i64 m]]) 129 r2_10 rfl kj (QaJ 113 _ _ g 1 129 [] [ints .u8 (b), #[.int .i64 m]] ([(wv ((s.a) + ((rnds KK (w64 b) s i).a))), wv s.b, wv s.c, wv s.d, wv s.e, wv s.f, wv s.g, wv s.h]) 0 1 _ r2_10 rfl kj kj kj kj rfl (Nat.lt_of_lt_of_eq (show 1 < 8 by decide) rfl.symm)) fun W11 p11 r2_11 => ?_
  have x11 : ExtB g w W11 := ExtB.puts x10 p11
  refine Qac ?_
  refine hK26 _ _ ?_
  refine Qab ?_
  refine Qaa (.int .i64 2) 136 rfl kj kj ?_
  refine Qaa (.int .i64 2) 121 rfl kj kj ?_
  refine Qac ?_
  show Code.rounds _ _ _ 7 _ _
  show Code.wp _ _ (Exit.then (Code.rounds _ _ _ 6) _) _ _
  refine wp_seq_k fun K28 hK28 => ?_
  refine Qab ?_
  refine Qaa (.bool true) 122 rfl kj kj ?_
  refine Qac ?_
  refine hK28 _ _ ?_
  refine wp_seq_k fun K29 hK29 => ?_
  refine cond_true kj ?_
  refine wp_skip ?_
  refine hK29 _ _ ?_
  refine wp_seq_k fun K30 hK30 => ?_
  refine wp_block ?_
  refine wp_seq_k fun K31 hK31 => ?_
  refine Qab ?_
  refine Qaa (.int .i64 2) 123 rfl kj kj ?_
  refine Qaa (.int .u32 (wv (rnds KK (w64 b) s i).c)) 124 rfl kj (Qaz 114 _ _ .i64 .u32 ([wv (rnds KK (w64 b) s i).a, wv (rnds KK (w64 b) s i).b, wv (rnds KK (w64 b) s i).c, wv (rnds KK (w64 b) s i).d, wv (rnds KK (w64 b) s i).e, wv (rnds KK (w64 b) s i).f, wv (rnds KK (w64 b) s i).g, wv (rnds KK (w64 b) s i).h]) 2 8 113 (wv (rnds KK (w64 b) s i).c) rfl kj kj kj kj kj rfl (by decide) rfl) ?_
  refine Qaa (.int .i64 2) 18 rfl kj kj ?_
  refine Qaa (.int .u32 (wv (rnds KK (w64 b) s i).c)) 19 rfl kj kj ?_
  refine Qac ?_
  refine hK31 _ _ ?_
  refine QaN 11 [⟨none, [(0, none)]⟩, ⟨none, [(18, none)]⟩, ⟨none, [(125, some 0)]⟩, ⟨none, [(127, some 2)]⟩, ⟨none, [(128, some 3), (126, some 1)]⟩, ⟨none, [(129, some 4)]⟩, ⟨none, [(19, none)]⟩, ⟨none, [(130, some 5), (131, some 6)]⟩, ⟨none, [(125, some 0)]⟩, ⟨none, [(133, some 8)]⟩, ⟨none, [(134, some 9), (126, some 1)]⟩] kj kj fun F hF => ?_
  refine Qak (.pointer (some ⟨g, 0, none⟩)) kj kj (fun W => by kernel_rfl) ?_
  refine Qak (.int .i64 2) kj kj (fun W => by kernel_rfl) ?_
  refine Qak (.pointer (some ⟨g, 0, none⟩)) kj kj (fun W => by kernel_rfl) ?_
  refine Qak (.pointer (some ⟨g, 0, none⟩)) kj kj (fun W => by kernel_rfl) ?_
  refine Qak (.pointer (some ⟨g, 2, none⟩)) kj kj (fun W => by kernel_rfl) ?_
  refine QaI (.int .u32 (wv s.c)) kj kj (fun W hR => (Qal 113 _ g 2 129 _ (.int .u32 (wv s.c)) _ (Qad (Qad r2_11 (Qa2 _)) hR) rfl kj (Qb7 [] [ints .u8 (b), #[.int .i64 m]] ([(wv ((s.a) + ((rnds KK (w64 b) s i).a))), (wv ((s.b) + ((rnds KK (w64 b) s i).b))), wv s.c, wv s.d, wv s.e, wv s.f, wv s.g, wv s.h]) 0 2 2 kj rfl (Nat.lt_of_lt_of_eq (show 2 < 8 by decide) rfl.symm)) kj)) ?_
  refine Qak (.int .u32 (wv (rnds KK (w64 b) s i).c)) kj kj (fun W => by kernel_rfl) ?_
  refine Qak (.int .u32 (wv ((s.c) + ((rnds KK (w64 b) s i).c)))) kj kj (fun W => (Qah (u := .int .u32 (IntKind.u32.wrap (wv s.c + wv ((rnds KK (w64 b) s i).c)))) kj (congrArg (Value.int .u32) (Qch _ _)))) ?_
  refine Qak (.pointer (some ⟨g, 0, none⟩)) kj kj (fun W => by kernel_rfl) ?_
  refine Qak (.pointer (some ⟨g, 0, none⟩)) kj kj (fun W => by kernel_rfl) ?_
  refine Qak (.pointer (some ⟨g, 2, none⟩)) kj kj (fun W => by kernel_rfl) ?_
  refine QaQ (hF _ kj fun W12 e12 => ?_)
  simp only [ups, up, Kn.val, List.take_succ_cons, List.take_zero, List.drop_succ_cons, List.drop_zero, List.nil_append, List.cons_append]
  clear hF
  have x12 : ExtB g w W12 := ExtB.ext x11 e12
  have r2_12 := (Qad r2_11 e12)
  refine Qaj g _ (cat [ints .u32 ([(wv ((s.a) + ((rnds KK (w64 b) s i).a))), (wv ((s.b) + ((rnds KK (w64 b) s i).b))), (wv ((s.c) + ((rnds KK (w64 b) s i).c))), wv s.d, wv s.e, wv s.f, wv s.g, wv s.h]), ints .u8 (b), #[.int .i64 m]]) 129 r2_12 rfl kj (QaJ 113 _ _ g 2 129 [] [ints .u8 (b), #[.int .i64 m]] ([(wv ((s.a) + ((rnds KK (w64 b) s i).a))), (wv ((s.b) + ((rnds KK (w64 b) s i).b))), wv s.c, wv s.d, wv s.e, wv s.f, wv s.g, wv s.h]) 0 2 _ r2_12 rfl kj kj kj kj rfl (Nat.lt_of_lt_of_eq (show 2 < 8 by decide) rfl.symm)) fun W13 p13 r2_13 => ?_
  have x13 : ExtB g w W13 := ExtB.puts x12 p13
  refine Qac ?_
  refine hK30 _ _ ?_
  refine Qab ?_
  refine Qaa (.int .i64 3) 136 rfl kj kj ?_
  refine Qaa (.int .i64 3) 121 rfl kj kj ?_
  refine Qac ?_
  show Code.rounds _ _ _ 6 _ _
  show Code.wp _ _ (Exit.then (Code.rounds _ _ _ 5) _) _ _
  refine wp_seq_k fun K32 hK32 => ?_
  refine Qab ?_
  refine Qaa (.bool true) 122 rfl kj kj ?_
  refine Qac ?_
  refine hK32 _ _ ?_
  refine wp_seq_k fun K33 hK33 => ?_
  refine cond_true kj ?_
  refine wp_skip ?_
  refine hK33 _ _ ?_
  refine wp_seq_k fun K34 hK34 => ?_
  refine wp_block ?_
  refine wp_seq_k fun K35 hK35 => ?_
  refine Qab ?_
  refine Qaa (.int .i64 3) 123 rfl kj kj ?_
  refine Qaa (.int .u32 (wv (rnds KK (w64 b) s i).d)) 124 rfl kj (Qaz 114 _ _ .i64 .u32 ([wv (rnds KK (w64 b) s i).a, wv (rnds KK (w64 b) s i).b, wv (rnds KK (w64 b) s i).c, wv (rnds KK (w64 b) s i).d, wv (rnds KK (w64 b) s i).e, wv (rnds KK (w64 b) s i).f, wv (rnds KK (w64 b) s i).g, wv (rnds KK (w64 b) s i).h]) 3 8 113 (wv (rnds KK (w64 b) s i).d) rfl kj kj kj kj kj rfl (by decide) rfl) ?_
  refine Qaa (.int .i64 3) 18 rfl kj kj ?_
  refine Qaa (.int .u32 (wv (rnds KK (w64 b) s i).d)) 19 rfl kj kj ?_
  refine Qac ?_
  refine hK35 _ _ ?_
  refine QaN 11 [⟨none, [(0, none)]⟩, ⟨none, [(18, none)]⟩, ⟨none, [(125, some 0)]⟩, ⟨none, [(127, some 2)]⟩, ⟨none, [(128, some 3), (126, some 1)]⟩, ⟨none, [(129, some 4)]⟩, ⟨none, [(19, none)]⟩, ⟨none, [(130, some 5), (131, some 6)]⟩, ⟨none, [(125, some 0)]⟩, ⟨none, [(133, some 8)]⟩, ⟨none, [(134, some 9), (126, some 1)]⟩] kj kj fun F hF => ?_
  refine Qak (.pointer (some ⟨g, 0, none⟩)) kj kj (fun W => by kernel_rfl) ?_
  refine Qak (.int .i64 3) kj kj (fun W => by kernel_rfl) ?_
  refine Qak (.pointer (some ⟨g, 0, none⟩)) kj kj (fun W => by kernel_rfl) ?_
  refine Qak (.pointer (some ⟨g, 0, none⟩)) kj kj (fun W => by kernel_rfl) ?_
  refine Qak (.pointer (some ⟨g, 3, none⟩)) kj kj (fun W => by kernel_rfl) ?_
  refine QaI (.int .u32 (wv s.d)) kj kj (fun W hR => (Qal 113 _ g 3 129 _ (.int .u32 (wv s.d)) _ (Qad (Qad r2_13 (Qa2 _)) hR) rfl kj (Qb7 [] [ints .u8 (b), #[.int .i64 m]] ([(wv ((s.a) + ((rnds KK (w64 b) s i).a))), (wv ((s.b) + ((rnds KK (w64 b) s i).b))), (wv ((s.c) + ((rnds KK (w64 b) s i).c))), wv s.d, wv s.e, wv s.f, wv s.g, wv s.h]) 0 3 3 kj rfl (Nat.lt_of_lt_of_eq (show 3 < 8 by decide) rfl.symm)) kj)) ?_
  refine Qak (.int .u32 (wv (rnds KK (w64 b) s i).d)) kj kj (fun W => by kernel_rfl) ?_
  refine Qak (.int .u32 (wv ((s.d) + ((rnds KK (w64 b) s i).d)))) kj kj (fun W => (Qah (u := .int .u32 (IntKind.u32.wrap (wv s.d + wv ((rnds KK (w64 b) s i).d)))) kj (congrArg (Value.int .u32) (Qch _ _)))) ?_
  refine Qak (.pointer (some ⟨g, 0, none⟩)) kj kj (fun W => by kernel_rfl) ?_
  refine Qak (.pointer (some ⟨g, 0, none⟩)) kj kj (fun W => by kernel_rfl) ?_
  refine Qak (.pointer (some ⟨g, 3, none⟩)) kj kj (fun W => by kernel_rfl) ?_
  refine QaQ (hF _ kj fun W14 e14 => ?_)
  simp only [ups, up, Kn.val, List.take_succ_cons, List.take_zero, List.drop_succ_cons, List.drop_zero, List.nil_append, List.cons_append]
  clear hF
  have x14 : ExtB g w W14 := ExtB.ext x13 e14
  have r2_14 := (Qad r2_13 e14)
  refine Qaj g _ (cat [ints .u32 ([(wv ((s.a) + ((rnds KK (w64 b) s i).a))), (wv ((s.b) + ((rnds KK (w64 b) s i).b))), (wv ((s.c) + ((rnds KK (w64 b) s i).c))), (wv ((s.d) + ((rnds KK (w64 b) s i).d))), wv s.e, wv s.f, wv s.g, wv s.h]), ints .u8 (b), #[.int .i64 m]]) 129 r2_14 rfl kj (QaJ 113 _ _ g 3 129 [] [ints .u8 (b), #[.int .i64 m]] ([(wv ((s.a) + ((rnds KK (w64 b) s i).a))), (wv ((s.b) + ((rnds KK (w64 b) s i).b))), (wv ((s.c) + ((rnds KK (w64 b) s i).c))), wv s.d, wv s.e, wv s.f, wv s.g, wv s.h]) 0 3 _ r2_14 rfl kj kj kj kj rfl (Nat.lt_of_lt_of_eq (show 3 < 8 by decide) rfl.symm)) fun W15 p15 r2_15 => ?_
  have x15 : ExtB g w W15 := ExtB.puts x14 p15
  refine Qac ?_
  refine hK34 _ _ ?_
  refine Qab ?_
  refine Qaa (.int .i64 4) 136 rfl kj kj ?_
  refine Qaa (.int .i64 4) 121 rfl kj kj ?_
  refine Qac ?_
  show Code.rounds _ _ _ 5 _ _
  show Code.wp _ _ (Exit.then (Code.rounds _ _ _ 4) _) _ _
  refine wp_seq_k fun K36 hK36 => ?_
  refine Qab ?_
  refine Qaa (.bool true) 122 rfl kj kj ?_
  refine Qac ?_
  refine hK36 _ _ ?_
  refine wp_seq_k fun K37 hK37 => ?_
  refine cond_true kj ?_
  refine wp_skip ?_
  refine hK37 _ _ ?_
  refine wp_seq_k fun K38 hK38 => ?_
  refine wp_block ?_
  refine wp_seq_k fun K39 hK39 => ?_
  refine Qab ?_
  refine Qaa (.int .i64 4) 123 rfl kj kj ?_
  refine Qaa (.int .u32 (wv (rnds KK (w64 b) s i).e)) 124 rfl kj (Qaz 114 _ _ .i64 .u32 ([wv (rnds KK (w64 b) s i).a, wv (rnds KK (w64 b) s i).b, wv (rnds KK (w64 b) s i).c, wv (rnds KK (w64 b) s i).d, wv (rnds KK (w64 b) s i).e, wv (rnds KK (w64 b) s i).f, wv (rnds KK (w64 b) s i).g, wv (rnds KK (w64 b) s i).h]) 4 8 113 (wv (rnds KK (w64 b) s i).e) rfl kj kj kj kj kj rfl (by decide) rfl) ?_
  refine Qaa (.int .i64 4) 18 rfl kj kj ?_
  refine Qaa (.int .u32 (wv (rnds KK (w64 b) s i).e)) 19 rfl kj kj ?_
  refine Qac ?_
  refine hK39 _ _ ?_
  refine QaN 11 [⟨none, [(0, none)]⟩, ⟨none, [(18, none)]⟩, ⟨none, [(125, some 0)]⟩, ⟨none, [(127, some 2)]⟩, ⟨none, [(128, some 3), (126, some 1)]⟩, ⟨none, [(129, some 4)]⟩, ⟨none, [(19, none)]⟩, ⟨none, [(130, some 5), (131, some 6)]⟩, ⟨none, [(125, some 0)]⟩, ⟨none, [(133, some 8)]⟩, ⟨none, [(134, some 9), (126, some 1)]⟩] kj kj fun F hF => ?_
  refine Qak (.pointer (some ⟨g, 0, none⟩)) kj kj (fun W => by kernel_rfl) ?_
  refine Qak (.int .i64 4) kj kj (fun W => by kernel_rfl) ?_
  refine Qak (.pointer (some ⟨g, 0, none⟩)) kj kj (fun W => by kernel_rfl) ?_
  refine Qak (.pointer (some ⟨g, 0, none⟩)) kj kj (fun W => by kernel_rfl) ?_
  refine Qak (.pointer (some ⟨g, 4, none⟩)) kj kj (fun W => by kernel_rfl) ?_
  refine QaI (.int .u32 (wv s.e)) kj kj (fun W hR => (Qal 113 _ g 4 129 _ (.int .u32 (wv s.e)) _ (Qad (Qad r2_15 (Qa2 _)) hR) rfl kj (Qb7 [] [ints .u8 (b), #[.int .i64 m]] ([(wv ((s.a) + ((rnds KK (w64 b) s i).a))), (wv ((s.b) + ((rnds KK (w64 b) s i).b))), (wv ((s.c) + ((rnds KK (w64 b) s i).c))), (wv ((s.d) + ((rnds KK (w64 b) s i).d))), wv s.e, wv s.f, wv s.g, wv s.h]) 0 4 4 kj rfl (Nat.lt_of_lt_of_eq (show 4 < 8 by decide) rfl.symm)) kj)) ?_
  refine Qak (.int .u32 (wv (rnds KK (w64 b) s i).e)) kj kj (fun W => by kernel_rfl) ?_
  refine Qak (.int .u32 (wv ((s.e) + ((rnds KK (w64 b) s i).e)))) kj kj (fun W => (Qah (u := .int .u32 (IntKind.u32.wrap (wv s.e + wv ((rnds KK (w64 b) s i).e)))) kj (congrArg (Value.int .u32) (Qch _ _)))) ?_
  refine Qak (.pointer (some ⟨g, 0, none⟩)) kj kj (fun W => by kernel_rfl) ?_
  refine Qak (.pointer (some ⟨g, 0, none⟩)) kj kj (fun W => by kernel_rfl) ?_
  refine Qak (.pointer (some ⟨g, 4, none⟩)) kj kj (fun W => by kernel_rfl) ?_
  refine QaQ (hF _ kj fun W16 e16 => ?_)
  simp only [ups, up, Kn.val, List.take_succ_cons, List.take_zero, List.drop_succ_cons, List.drop_zero, List.nil_append, List.cons_append]
  clear hF
  have x16 : ExtB g w W16 := ExtB.ext x15 e16
  have r2_16 := (Qad r2_15 e16)
  refine Qaj g _ (cat [ints .u32 ([(wv ((s.a) + ((rnds KK (w64 b) s i).a))), (wv ((s.b) + ((rnds KK (w64 b) s i).b))), (wv ((s.c) + ((rnds KK (w64 b) s i).c))), (wv ((s.d) + ((rnds KK (w64 b) s i).d))), (wv ((s.e) + ((rnds KK (w64 b) s i).e))), wv s.f, wv s.g, wv s.h]), ints .u8 (b), #[.int .i64 m]]) 129 r2_16 rfl kj (QaJ 113 _ _ g 4 129 [] [ints .u8 (b), #[.int .i64 m]] ([(wv ((s.a) + ((rnds KK (w64 b) s i).a))), (wv ((s.b) + ((rnds KK (w64 b) s i).b))), (wv ((s.c) + ((rnds KK (w64 b) s i).c))), (wv ((s.d) + ((rnds KK (w64 b) s i).d))), wv s.e, wv s.f, wv s.g, wv s.h]) 0 4 _ r2_16 rfl kj kj kj kj rfl (Nat.lt_of_lt_of_eq (show 4 < 8 by decide) rfl.symm)) fun W17 p17 r2_17 => ?_
  have x17 : ExtB g w W17 := ExtB.puts x16 p17
  refine Qac ?_
  refine hK38 _ _ ?_
  refine Qab ?_
  refine Qaa (.int .i64 5) 136 rfl kj kj ?_
  refine Qaa (.int .i64 5) 121 rfl kj kj ?_
  refine Qac ?_
  show Code.rounds _ _ _ 4 _ _
  show Code.wp _ _ (Exit.then (Code.rounds _ _ _ 3) _) _ _
  refine wp_seq_k fun K40 hK40 => ?_
  refine Qab ?_
  refine Qaa (.bool true) 122 rfl kj kj ?_
  refine Qac ?_
  refine hK40 _ _ ?_
  refine wp_seq_k fun K41 hK41 => ?_
  refine cond_true kj ?_
  refine wp_skip ?_
  refine hK41 _ _ ?_
  refine wp_seq_k fun K42 hK42 => ?_
  refine wp_block ?_
  refine wp_seq_k fun K43 hK43 => ?_
  refine Qab ?_
  refine Qaa (.int .i64 5) 123 rfl kj kj ?_
  refine Qaa (.int .u32 (wv (rnds KK (w64 b) s i).f)) 124 rfl kj (Qaz 114 _ _ .i64 .u32 ([wv (rnds KK (w64 b) s i).a, wv (rnds KK (w64 b) s i).b, wv (rnds KK (w64 b) s i).c, wv (rnds KK (w64 b) s i).d, wv (rnds KK (w64 b) s i).e, wv (rnds KK (w64 b) s i).f, wv (rnds KK (w64 b) s i).g, wv (rnds KK (w64 b) s i).h]) 5 8 113 (wv (rnds KK (w64 b) s i).f) rfl kj kj kj kj kj rfl (by decide) rfl) ?_
  refine Qaa (.int .i64 5) 18 rfl kj kj ?_
  refine Qaa (.int .u32 (wv (rnds KK (w64 b) s i).f)) 19 rfl kj kj ?_
  refine Qac ?_
  refine hK43 _ _ ?_
  refine QaN 11 [⟨none, [(0, none)]⟩, ⟨none, [(18, none)]⟩, ⟨none, [(125, some 0)]⟩, ⟨none, [(127, some 2)]⟩, ⟨none, [(128, some 3), (126, some 1)]⟩, ⟨none, [(129, some 4)]⟩, ⟨none, [(19, none)]⟩, ⟨none, [(130, some 5), (131, some 6)]⟩, ⟨none, [(125, some 0)]⟩, ⟨none, [(133, some 8)]⟩, ⟨none, [(134, some 9), (126, some 1)]⟩] kj kj fun F hF => ?_
  refine Qak (.pointer (some ⟨g, 0, none⟩)) kj kj (fun W => by kernel_rfl) ?_
  refine Qak (.int .i64 5) kj kj (fun W => by kernel_rfl) ?_
  refine Qak (.pointer (some ⟨g, 0, none⟩)) kj kj (fun W => by kernel_rfl) ?_
  refine Qak (.pointer (some ⟨g, 0, none⟩)) kj kj (fun W => by kernel_rfl) ?_
  refine Qak (.pointer (some ⟨g, 5, none⟩)) kj kj (fun W => by kernel_rfl) ?_
  refine QaI (.int .u32 (wv s.f)) kj kj (fun W hR => (Qal 113 _ g 5 129 _ (.int .u32 (wv s.f)) _ (Qad (Qad r2_17 (Qa2 _)) hR) rfl kj (Qb7 [] [ints .u8 (b), #[.int .i64 m]] ([(wv ((s.a) + ((rnds KK (w64 b) s i).a))), (wv ((s.b) + ((rnds KK (w64 b) s i).b))), (wv ((s.c) + ((rnds KK (w64 b) s i).c))), (wv ((s.d) + ((rnds KK (w64 b) s i).d))), (wv ((s.e) + ((rnds KK (w64 b) s i).e))), wv s.f, wv s.g, wv s.h]) 0 5 5 kj rfl (Nat.lt_of_lt_of_eq (show 5 < 8 by decide) rfl.symm)) kj)) ?_
  refine Qak (.int .u32 (wv (rnds KK (w64 b) s i).f)) kj kj (fun W => by kernel_rfl) ?_
  refine Qak (.int .u32 (wv ((s.f) + ((rnds KK (w64 b) s i).f)))) kj kj (fun W => (Qah (u := .int .u32 (IntKind.u32.wrap (wv s.f + wv ((rnds KK (w64 b) s i).f)))) kj (congrArg (Value.int .u32) (Qch _ _)))) ?_
  refine Qak (.pointer (some ⟨g, 0, none⟩)) kj kj (fun W => by kernel_rfl) ?_
  refine Qak (.pointer (some ⟨g, 0, none⟩)) kj kj (fun W => by kernel_rfl) ?_
  refine Qak (.pointer (some ⟨g, 5, none⟩)) kj kj (fun W => by kernel_rfl) ?_
  refine QaQ (hF _ kj fun W18 e18 => ?_)
  simp only [ups, up, Kn.val, List.take_succ_cons, List.take_zero, List.drop_succ_cons, List.drop_zero, List.nil_append, List.cons_append]
  clear hF
  have x18 : ExtB g w W18 := ExtB.ext x17 e18
  have r2_18 := (Qad r2_17 e18)
  refine Qaj g _ (cat [ints .u32 ([(wv ((s.a) + ((rnds KK (w64 b) s i).a))), (wv ((s.b) + ((rnds KK (w64 b) s i).b))), (wv ((s.c) + ((rnds KK (w64 b) s i).c))), (wv ((s.d) + ((rnds KK (w64 b) s i).d))), (wv ((s.e) + ((rnds KK (w64 b) s i).e))), (wv ((s.f) + ((rnds KK (w64 b) s i).f))), wv s.g, wv s.h]), ints .u8 (b), #[.int .i64 m]]) 129 r2_18 rfl kj (QaJ 113 _ _ g 5 129 [] [ints .u8 (b), #[.int .i64 m]] ([(wv ((s.a) + ((rnds KK (w64 b) s i).a))), (wv ((s.b) + ((rnds KK (w64 b) s i).b))), (wv ((s.c) + ((rnds KK (w64 b) s i).c))), (wv ((s.d) + ((rnds KK (w64 b) s i).d))), (wv ((s.e) + ((rnds KK (w64 b) s i).e))), wv s.f, wv s.g, wv s.h]) 0 5 _ r2_18 rfl kj kj kj kj rfl (Nat.lt_of_lt_of_eq (show 5 < 8 by decide) rfl.symm)) fun W19 p19 r2_19 => ?_
  have x19 : ExtB g w W19 := ExtB.puts x18 p19
  refine Qac ?_
  refine hK42 _ _ ?_
  refine Qab ?_
  refine Qaa (.int .i64 6) 136 rfl kj kj ?_
  refine Qaa (.int .i64 6) 121 rfl kj kj ?_
  refine Qac ?_
  show Code.rounds _ _ _ 3 _ _
  show Code.wp _ _ (Exit.then (Code.rounds _ _ _ 2) _) _ _
  refine wp_seq_k fun K44 hK44 => ?_
  refine Qab ?_
  refine Qaa (.bool true) 122 rfl kj kj ?_
  refine Qac ?_
  refine hK44 _ _ ?_
  refine wp_seq_k fun K45 hK45 => ?_
  refine cond_true kj ?_
  refine wp_skip ?_
  refine hK45 _ _ ?_
  refine wp_seq_k fun K46 hK46 => ?_
  refine wp_block ?_
  refine wp_seq_k fun K47 hK47 => ?_
  refine Qab ?_
  refine Qaa (.int .i64 6) 123 rfl kj kj ?_
  refine Qaa (.int .u32 (wv (rnds KK (w64 b) s i).g)) 124 rfl kj (Qaz 114 _ _ .i64 .u32 ([wv (rnds KK (w64 b) s i).a, wv (rnds KK (w64 b) s i).b, wv (rnds KK (w64 b) s i).c, wv (rnds KK (w64 b) s i).d, wv (rnds KK (w64 b) s i).e, wv (rnds KK (w64 b) s i).f, wv (rnds KK (w64 b) s i).g, wv (rnds KK (w64 b) s i).h]) 6 8 113 (wv (rnds KK (w64 b) s i).g) rfl kj kj kj kj kj rfl (by decide) rfl) ?_
  refine Qaa (.int .i64 6) 18 rfl kj kj ?_
  refine Qaa (.int .u32 (wv (rnds KK (w64 b) s i).g)) 19 rfl kj kj ?_
  refine Qac ?_
  refine hK47 _ _ ?_
  refine QaN 11 [⟨none, [(0, none)]⟩, ⟨none, [(18, none)]⟩, ⟨none, [(125, some 0)]⟩, ⟨none, [(127, some 2)]⟩, ⟨none, [(128, some 3), (126, some 1)]⟩, ⟨none, [(129, some 4)]⟩, ⟨none, [(19, none)]⟩, ⟨none, [(130, some 5), (131, some 6)]⟩, ⟨none, [(125, some 0)]⟩, ⟨none, [(133, some 8)]⟩, ⟨none, [(134, some 9), (126, some 1)]⟩] kj kj fun F hF => ?_
  refine Qak (.pointer (some ⟨g, 0, none⟩)) kj kj (fun W => by kernel_rfl) ?_
  refine Qak (.int .i64 6) kj kj (fun W => by kernel_rfl) ?_
  refine Qak (.pointer (some ⟨g, 0, none⟩)) kj kj (fun W => by kernel_rfl) ?_
  refine Qak (.pointer (some ⟨g, 0, none⟩)) kj kj (fun W => by kernel_rfl) ?_
  refine Qak (.pointer (some ⟨g, 6, none⟩)) kj kj (fun W => by kernel_rfl) ?_
  refine QaI (.int .u32 (wv s.g)) kj kj (fun W hR => (Qal 113 _ g 6 129 _ (.int .u32 (wv s.g)) _ (Qad (Qad r2_19 (Qa2 _)) hR) rfl kj (Qb7 [] [ints .u8 (b), #[.int .i64 m]] ([(wv ((s.a) + ((rnds KK (w64 b) s i).a))), (wv ((s.b) + ((rnds KK (w64 b) s i).b))), (wv ((s.c) + ((rnds KK (w64 b) s i).c))), (wv ((s.d) + ((rnds KK (w64 b) s i).d))), (wv ((s.e) + ((rnds KK (w64 b) s i).e))), (wv ((s.f) + ((rnds KK (w64 b) s i).f))), wv s.g, wv s.h]) 0 6 6 kj rfl (Nat.lt_of_lt_of_eq (show 6 < 8 by decide) rfl.symm)) kj)) ?_
  refine Qak (.int .u32 (wv (rnds KK (w64 b) s i).g)) kj kj (fun W => by kernel_rfl) ?_
  refine Qak (.int .u32 (wv ((s.g) + ((rnds KK (w64 b) s i).g)))) kj kj (fun W => (Qah (u := .int .u32 (IntKind.u32.wrap (wv s.g + wv ((rnds KK (w64 b) s i).g)))) kj (congrArg (Value.int .u32) (Qch _ _)))) ?_
  refine Qak (.pointer (some ⟨g, 0, none⟩)) kj kj (fun W => by kernel_rfl) ?_
  refine Qak (.pointer (some ⟨g, 0, none⟩)) kj kj (fun W => by kernel_rfl) ?_
  refine Qak (.pointer (some ⟨g, 6, none⟩)) kj kj (fun W => by kernel_rfl) ?_
  refine QaQ (hF _ kj fun W20 e20 => ?_)
  simp only [ups, up, Kn.val, List.take_succ_cons, List.take_zero, List.drop_succ_cons, List.drop_zero, List.nil_append, List.cons_append]
  clear hF
  have x20 : ExtB g w W20 := ExtB.ext x19 e20
  have r2_20 := (Qad r2_19 e20)
  refine Qaj g _ (cat [ints .u32 ([(wv ((s.a) + ((rnds KK (w64 b) s i).a))), (wv ((s.b) + ((rnds KK (w64 b) s i).b))), (wv ((s.c) + ((rnds KK (w64 b) s i).c))), (wv ((s.d) + ((rnds KK (w64 b) s i).d))), (wv ((s.e) + ((rnds KK (w64 b) s i).e))), (wv ((s.f) + ((rnds KK (w64 b) s i).f))), (wv ((s.g) + ((rnds KK (w64 b) s i).g))), wv s.h]), ints .u8 (b), #[.int .i64 m]]) 129 r2_20 rfl kj (QaJ 113 _ _ g 6 129 [] [ints .u8 (b), #[.int .i64 m]] ([(wv ((s.a) + ((rnds KK (w64 b) s i).a))), (wv ((s.b) + ((rnds KK (w64 b) s i).b))), (wv ((s.c) + ((rnds KK (w64 b) s i).c))), (wv ((s.d) + ((rnds KK (w64 b) s i).d))), (wv ((s.e) + ((rnds KK (w64 b) s i).e))), (wv ((s.f) + ((rnds KK (w64 b) s i).f))), wv s.g, wv s.h]) 0 6 _ r2_20 rfl kj kj kj kj rfl (Nat.lt_of_lt_of_eq (show 6 < 8 by decide) rfl.symm)) fun W21 p21 r2_21 => ?_
  have x21 : ExtB g w W21 := ExtB.puts x20 p21
  refine Qac ?_
  refine hK46 _ _ ?_
  refine Qab ?_
  refine Qaa (.int .i64 7) 136 rfl kj kj ?_
  refine Qaa (.int .i64 7) 121 rfl kj kj ?_
  refine Qac ?_
  show Code.rounds _ _ _ 2 _ _
  show Code.wp _ _ (Exit.then (Code.rounds _ _ _ 1) _) _ _
  refine wp_seq_k fun K48 hK48 => ?_
  refine Qab ?_
  refine Qaa (.bool true) 122 rfl kj kj ?_
  refine Qac ?_
  refine hK48 _ _ ?_
  refine wp_seq_k fun K49 hK49 => ?_
  refine cond_true kj ?_
  refine wp_skip ?_
  refine hK49 _ _ ?_
  refine wp_seq_k fun K50 hK50 => ?_
  refine wp_block ?_
  refine wp_seq_k fun K51 hK51 => ?_
  refine Qab ?_
  refine Qaa (.int .i64 7) 123 rfl kj kj ?_
  refine Qaa (.int .u32 (wv (rnds KK (w64 b) s i).h)) 124 rfl kj (Qaz 114 _ _ .i64 .u32 ([wv (rnds KK (w64 b) s i).a, wv (rnds KK (w64 b) s i).b, wv (rnds KK (w64 b) s i).c, wv (rnds KK (w64 b) s i).d, wv (rnds KK (w64 b) s i).e, wv (rnds KK (w64 b) s i).f, wv (rnds KK (w64 b) s i).g, wv (rnds KK (w64 b) s i).h]) 7 8 113 (wv (rnds KK (w64 b) s i).h) rfl kj kj kj kj kj rfl (by decide) rfl) ?_
  refine Qaa (.int .i64 7) 18 rfl kj kj ?_
  refine Qaa (.int .u32 (wv (rnds KK (w64 b) s i).h)) 19 rfl kj kj ?_
  refine Qac ?_
  refine hK51 _ _ ?_
  refine QaN 11 [⟨none, [(0, none)]⟩, ⟨none, [(18, none)]⟩, ⟨none, [(125, some 0)]⟩, ⟨none, [(127, some 2)]⟩, ⟨none, [(128, some 3), (126, some 1)]⟩, ⟨none, [(129, some 4)]⟩, ⟨none, [(19, none)]⟩, ⟨none, [(130, some 5), (131, some 6)]⟩, ⟨none, [(125, some 0)]⟩, ⟨none, [(133, some 8)]⟩, ⟨none, [(134, some 9), (126, some 1)]⟩] kj kj fun F hF => ?_
  refine Qak (.pointer (some ⟨g, 0, none⟩)) kj kj (fun W => by kernel_rfl) ?_
  refine Qak (.int .i64 7) kj kj (fun W => by kernel_rfl) ?_
  refine Qak (.pointer (some ⟨g, 0, none⟩)) kj kj (fun W => by kernel_rfl) ?_
  refine Qak (.pointer (some ⟨g, 0, none⟩)) kj kj (fun W => by kernel_rfl) ?_
  refine Qak (.pointer (some ⟨g, 7, none⟩)) kj kj (fun W => by kernel_rfl) ?_
  refine QaI (.int .u32 (wv s.h)) kj kj (fun W hR => (Qal 113 _ g 7 129 _ (.int .u32 (wv s.h)) _ (Qad (Qad r2_21 (Qa2 _)) hR) rfl kj (Qb7 [] [ints .u8 (b), #[.int .i64 m]] ([(wv ((s.a) + ((rnds KK (w64 b) s i).a))), (wv ((s.b) + ((rnds KK (w64 b) s i).b))), (wv ((s.c) + ((rnds KK (w64 b) s i).c))), (wv ((s.d) + ((rnds KK (w64 b) s i).d))), (wv ((s.e) + ((rnds KK (w64 b) s i).e))), (wv ((s.f) + ((rnds KK (w64 b) s i).f))), (wv ((s.g) + ((rnds KK (w64 b) s i).g))), wv s.h]) 0 7 7 kj rfl (Nat.lt_of_lt_of_eq (show 7 < 8 by decide) rfl.symm)) kj)) ?_
  refine Qak (.int .u32 (wv (rnds KK (w64 b) s i).h)) kj kj (fun W => by kernel_rfl) ?_
  refine Qak (.int .u32 (wv ((s.h) + ((rnds KK (w64 b) s i).h)))) kj kj (fun W => (Qah (u := .int .u32 (IntKind.u32.wrap (wv s.h + wv ((rnds KK (w64 b) s i).h)))) kj (congrArg (Value.int .u32) (Qch _ _)))) ?_
  refine Qak (.pointer (some ⟨g, 0, none⟩)) kj kj (fun W => by kernel_rfl) ?_
  refine Qak (.pointer (some ⟨g, 0, none⟩)) kj kj (fun W => by kernel_rfl) ?_
  refine Qak (.pointer (some ⟨g, 7, none⟩)) kj kj (fun W => by kernel_rfl) ?_
  refine QaQ (hF _ kj fun W22 e22 => ?_)
  simp only [ups, up, Kn.val, List.take_succ_cons, List.take_zero, List.drop_succ_cons, List.drop_zero, List.nil_append, List.cons_append]
  clear hF
  have x22 : ExtB g w W22 := ExtB.ext x21 e22
  have r2_22 := (Qad r2_21 e22)
  refine Qaj g _ (cat [ints .u32 ([(wv ((s.a) + ((rnds KK (w64 b) s i).a))), (wv ((s.b) + ((rnds KK (w64 b) s i).b))), (wv ((s.c) + ((rnds KK (w64 b) s i).c))), (wv ((s.d) + ((rnds KK (w64 b) s i).d))), (wv ((s.e) + ((rnds KK (w64 b) s i).e))), (wv ((s.f) + ((rnds KK (w64 b) s i).f))), (wv ((s.g) + ((rnds KK (w64 b) s i).g))), (wv ((s.h) + ((rnds KK (w64 b) s i).h)))]), ints .u8 (b), #[.int .i64 m]]) 129 r2_22 rfl kj (QaJ 113 _ _ g 7 129 [] [ints .u8 (b), #[.int .i64 m]] ([(wv ((s.a) + ((rnds KK (w64 b) s i).a))), (wv ((s.b) + ((rnds KK (w64 b) s i).b))), (wv ((s.c) + ((rnds KK (w64 b) s i).c))), (wv ((s.d) + ((rnds KK (w64 b) s i).d))), (wv ((s.e) + ((rnds KK (w64 b) s i).e))), (wv ((s.f) + ((rnds KK (w64 b) s i).f))), (wv ((s.g) + ((rnds KK (w64 b) s i).g))), wv s.h]) 0 7 _ r2_22 rfl kj kj kj kj rfl (Nat.lt_of_lt_of_eq (show 7 < 8 by decide) rfl.symm)) fun W23 p23 r2_23 => ?_
  have x23 : ExtB g w W23 := ExtB.puts x22 p23
  refine Qac ?_
  refine hK50 _ _ ?_
  refine Qab ?_
  refine Qaa (.int .i64 8) 136 rfl kj kj ?_
  refine Qaa (.int .i64 8) 121 rfl kj kj ?_
  refine Qac ?_
  show Code.rounds _ _ _ 1 _ _
  show Code.wp _ _ (Exit.then (Code.rounds _ _ _ 0) _) _ _
  refine wp_seq_k fun K52 hK52 => ?_
  refine Qab ?_
  refine Qaa (.bool false) 122 rfl kj kj ?_
  refine Qac ?_
  refine hK52 _ _ ?_
  refine wp_seq_k fun K53 hK53 => ?_
  refine cond_false kj ?_
  refine wp_exit ?_
  repeat (first | with_reducible refine goX1 ?_ | with_reducible refine goX2 ?_ | with_reducible refine goX3 ?_)
  exact (show bodyPost _ _ _ .normal _ _ from end0 rfl ⟨rfl, x23, by rw [heq47] at *; exact r2_23⟩)
end Go.Proofs.YtibegnjaphohaaaDoor.Sha
end
section
namespace Go.Proofs.YtibegnjaphohaaaDoor.Sha
open Go Go.RowKit
open Rely Auto Own
set_option linter.unusedVariables false
theorem QcC (s : S8) (t u : List Int) : ∀ n : Nat, 64 * n ≤ t.length → absorb s (t ++ u) n = absorb s t n
  | 0, _ => rfl
  | n + 1, h => by
    show blk (absorb s (t ++ u) n) _ = blk (absorb s t n) _
    rw [QcC s t u n (by omega)]
    congr 1
    rw [List.drop_append_of_le_length (by omega), List.take_append_of_le_length (by rw [List.length_drop]; omega)]
def HasD (g : Nat) (t : List Int) (W : World) : Prop := ∃ b : List Int, b.length = 64 ∧ Qao b ∧ b.take (t.length % 64) = t.drop (64 * (t.length / 64)) ∧ t.length ≤ 1000000000 ∧
  W.heap[g]? = some (.cells (cat [ints .u32 ((absorb S0 t (t.length / 64)).l.map wv), ints .u8 b, #[.int .i64 ((t.length : Nat) : Int)]]) 129)
theorem HasD.row {g : Nat} {t : List Int} {W W' : World} (h : HasD g t W) (e : W'.heap[g]? = W.heap[g]?) : HasD g t W' := by
  obtain ⟨b, h1, h2, h3, h4, h5⟩ := h
  exact ⟨b, h1, h2, h3, h4, e.trans h5⟩
theorem HasD.lt {g : Nat} {t : List Int} {W : World} (h : HasD g t W) : g < W.heap.size := by
  obtain ⟨b, h1, h2, h3, h4, h5⟩ := h
  exact Qar h5
theorem HasD.ext {g : Nat} {t : List Int} {W W' : World} (h : HasD g t W) (e : Ext W W') : HasD g t W' := h.row (e.block g h.lt)
theorem HasD.stable (g : Nat) (t : List Int) : Qbw Ext (fun _ => HasD g t) := fun _ _ _ hR h => h.ext hR
def into (b z : List Int) (q n : Nat) : List Int := b.take q ++ z.take n ++ b.drop (q + n)
theorem Qf9 {b z : List Int} {q n : Nat} (hb : b.length = 64) (hz : n ≤ z.length) (hq : q + n ≤ 64) : (into b z q n).length = 64 := by
  simp only [into, List.length_append, List.length_take, List.length_drop]; omega
theorem Qda {b z : List Int} {q n : Nat} (hb : Qao b) (hz : Qao z) : Qao (into b z q n) := fun x hx => by
  rcases List.mem_append.1 hx with hx | hx
  · rcases List.mem_append.1 hx with hx | hx
    · exact hb x (List.mem_of_mem_take hx)
    · exact hz x (List.mem_of_mem_take hx)
  · exact hb x (List.mem_of_mem_drop hx)
theorem QeL {b z t : List Int} {n : Nat} (hb : b.length = 64) (hz : n ≤ z.length) (hp : b.take (t.length % 64) = t.drop (64 * (t.length / 64))) : (into b z (t.length % 64) n).take (t.length % 64 + n) = (t ++ z.take n).drop (64 * (t.length / 64)) := by
  have e1 : (b.take (t.length % 64) ++ z.take n).length = t.length % 64 + n := by
    rw [List.length_append, List.length_take, List.length_take]; omega
  unfold into
  rw [← e1, List.take_left, hp, List.drop_append_of_le_length (by omega)]
theorem QgU {b z t : List Int} {n : Nat} (hb : b.length = 64) (hz : n ≤ z.length) (hp : b.take (t.length % 64) = t.drop (64 * (t.length / 64))) (hn : t.length % 64 + n < 64) :
    (into b z (t.length % 64) n).take ((t ++ z.take n).length % 64) = (t ++ z.take n).drop (64 * ((t ++ z.take n).length / 64)) := by
  have hl : (t ++ z.take n).length = t.length + n := by rw [List.length_append, List.length_take]; omega
  rw [hl, show (t.length + n) % 64 = t.length % 64 + n by omega, show (t.length + n) / 64 = t.length / 64 by omega]
  exact QeL hb hz hp
theorem QgT {b z t : List Int} {n : Nat} (hb : b.length = 64) (hz : n ≤ z.length) (hp : b.take (t.length % 64) = t.drop (64 * (t.length / 64))) (hn : t.length % 64 + n = 64) :
    blk (absorb S0 t (t.length / 64)) (into b z (t.length % 64) n) = absorb S0 (t ++ z.take n) ((t ++ z.take n).length / 64) := by
  have hl : (t ++ z.take n).length = t.length + n := by rw [List.length_append, List.length_take]; omega
  rw [hl, show (t.length + n) / 64 = t.length / 64 + 1 by omega]
  show _ = blk (absorb S0 (t ++ z.take n) (t.length / 64)) _
  rw [QcC S0 t _ _ (by omega)]
  have h1 := QeL hb hz hp
  rw [hn, List.take_of_length_le (by rw [Qf9 hb hz (by omega)]; omega)] at h1
  rw [h1, List.take_of_length_le (l := (t ++ z.take n).drop (64 * (t.length / 64))) (by rw [List.length_drop, hl]; omega)]
theorem QfV {z t : List Int} {n : Nat} (hz : n ≤ z.length) (hn : t.length % 64 + n < 64) : absorb S0 (t ++ z.take n) ((t ++ z.take n).length / 64) = absorb S0 t (t.length / 64) := by
  have hl : (t ++ z.take n).length = t.length + n := by rw [List.length_append, List.length_take]; omega
  rw [hl, show (t.length + n) / 64 = t.length / 64 by omega, QcC S0 t _ _ (by omega)]
section
variable {ds : List Deferred} {ops : Array Oper} {Q : Exit → Act → World → Prop} {rest : List Oper} {o : Oper} {N : Nat} {L : Env} {W : World}
theorem cat3 (a b c : Array Value) : (cat [a, b, c]).toList = a.toList ++ (b.toList ++ c.toList) := by
  show (a ++ (b ++ c)).toList = _
  simp
theorem QhW {st b z : List Int} {u : Value} {q n : Nat} (hst : st.length = 8) (hb : b.length = 64) (hz : n ≤ z.length) (hq : q + n ≤ 64) :
    ((cat [ints .u32 st, ints .u8 b, #[u]]).toList.take (8 + q) ++ (z.take n).map (Value.int .u8) ++ (cat [ints .u32 st, ints .u8 b, #[u]]).toList.drop (8 + q + n)).toArray = cat [ints .u32 st, ints .u8 (into b z q n), #[u]] := by
  apply Array.ext'
  rw [cat3, cat3]
  have e1 : (ints .u32 st).toList = st.map (Value.int .u32) := rfl
  have e2 : ∀ b, (ints .u8 b).toList = b.map (Value.int .u8) := fun _ => rfl
  rw [e1, e2, e2]
  have l1 : (st.map (Value.int .u32)).length = 8 := by simpa using hst
  have l2 : (b.map (Value.int .u8)).length = 64 := by simpa using hb
  show (st.map (Value.int .u32) ++ (b.map (Value.int .u8) ++ [u])).take (8 + q) ++ (z.take n).map (Value.int .u8) ++ (st.map (Value.int .u32) ++ (b.map (Value.int .u8) ++ [u])).drop (8 + q + n) = _
  rw [show 8 + q + n = 8 + (q + n) by omega]
  rw [← l1, List.take_length_add_append, List.drop_length_add_append, List.take_append_of_le_length (by omega)]
  rw [List.drop_append_of_le_length (by omega)]
  unfold into
  simp only [List.map_append, List.map_take, List.map_drop, List.append_assoc]
theorem Qg9 (x y : Operand) (tx ty : TypeId) (d : Nat) (ho : o.op = .call { callee := .builtin .copy, args := #[x, y], argTypes := #[tx, ty] }) (hu : Tryd.prog.underlying tx = some (.slice 5)) (hd : o.dst = some d) (hgd : QaZ ops o N L = some true)
    {g q n B : Nat} {st b z : List Int} {u v : Value} {T : TypeId} (hst : st.length = 8) (hb : b.length = 64) (hx : Rely.look (envN N L) x = .slice (some ⟨g, 8 + q, none⟩) (64 - q) (64 - q)) (hy : Rely.look (envN N L) y = v) (hr : RdK .u8 B z v W)
    (hg : W.heap[g]? = some (.cells (cat [ints .u32 st, ints .u8 b, #[u]]) T)) (hq : q < 64) (hn : n = min z.length (64 - q)) (h0 : 0 < z.length)
    (k : ∀ W' : World, Puts W g W' → W'.heap[g]? = some (.cells (cat [ints .u32 st, ints .u8 (into b z q n), #[u]]) T) → WL Tryd.prog ops Q rest (Qaq ds N ((d, .int .i64 ((n : Nat) : Int)) :: L)) W') : WL Tryd.prog ops Q (o :: rest) (Qaq ds N L) W := by
  obtain ⟨a, cap, rfl, y2, y3, y4, y5⟩ := hr
  obtain ⟨gz, oz, rfl, z2, z3, z4⟩ := y5.resolve_left (fun e => by rw [e] at h0; simp at h0)
  have hlen : ((z.take n).map (Value.int .u8)).length = n := by simp; omega
  have hsz : (cat [ints .u32 st, ints .u8 b, #[u]]).size = 73 := by
    rw [← Array.length_toList, cat3]; simp [ints]; omega
  have h := run_copy_row (P := Tryd.prog) W tx ty o.type 5 g (8 + q) (64 - q) (64 - q) ⟨gz, oz, none⟩ z.length cap (cat [ints .u32 st, ints .u8 b, #[u]]) T ((z.take n).map (Value.int .u8)) hu kj hg (by rw [hlen]; exact hn)
    (QhD (k := .u8) (ys := z.take n) fun i hi => by
      rw [List.length_take] at hi
      rw [z4 i (by omega)]
      simp [nth, show i < n by omega]) (by rw [hlen, hsz]; omega) (QhB .u8 _)
  rw [hlen, QhW hst hb (by omega) (by omega)] at h
  refine Qbe (.int .i64 ((n : Nat) : Int)) _ d hd hgd ?_ (k _ (QaW _ _ _) (setRow_heap _ _ _ _ _ _ hg))
  unfold execOp
  simp only [ho, resolve, invoke, builtin, Sem.run_bind, Sem.run_pure, Result.andThen_ok, List.map_toArray, List.map_cons, List.map_nil, hx, hy, h, goInt]
theorem QfY {P : Program} {ρ : Operand → Value} {k : IntKind} {B : Nat} {ys : List Int} {v : Value} (t : TypeId) (x z : Operand) (l n : Nat) (e : TypeId) (ho : o.op = .slice t x (some z) none none) (hx : ρ x = v) (hv : RdK k B ys v W)
    (hu : P.underlying t = some (.slice e)) (hs : (P.info? e).map (·.size) = some 1) (kz : IntKind) (hz : ρ z = .int kz (l : Int)) (h1 : l ≤ ys.length) (hn : ys.length - l = n) :
    ∃ a c, (execOp ρ o).run P W = .ok (.value (.slice a n c)) W ∧ RdK k B (ys.drop l) (.slice a n c) W ∧ (Value.slice a n c).ownBlock = v.ownBlock := by
  obtain ⟨u, h2, h3, h5⟩ := Qeg t x z l e ho hx hv hu hs kz hz h1
  obtain ⟨a, c, rfl, h4⟩ := id h3
  rw [List.length_drop, hn] at h2 h3 h5
  exact ⟨a, c, h2, h3, h5⟩
end
section
variable {ds : List Deferred} {ops : Array Oper} {Q : Exit → Act → World → Prop} {rest : List Oper} {o : Oper} {N : Nat} {L : Env} {W : World}
theorem Qef {P : Program} {k : IntKind} {B : Nat} {ys : List Int} {v : Value} (t : TypeId) (x z : Operand) (l n : Nat) (e : TypeId) (d : Nat) (ho : o.op = .slice t x (some z) none none) (hd : o.dst = some d) (hg : QaZ ops o N L = some true) (hx : Rely.look (envN N L) x = v) (hv : RdK k B ys v W)
    (hu : P.underlying t = some (.slice e)) (hs : (P.info? e).map (·.size) = some 1) (kz : IntKind) (hz : Rely.look (envN N L) z = .int kz (l : Int)) (h1 : l ≤ ys.length) (hn : ys.length - l = n)
    (kk : ∀ a c, RdK k B (ys.drop l) (.slice a n c) W → (Value.slice a n c).ownBlock = v.ownBlock → WL P ops Q rest (Qaq ds N ((d, .slice a n c) :: L)) W) : WL P ops Q (o :: rest) (Qaq ds N L) W := by
  obtain ⟨a, c, h2, h3, h4⟩ := QfY (ρ := Rely.look (envN N L)) t x z l n e ho hx hv hu hs kz hz h1 hn
  exact Qbe _ _ d hd hg h2 (kk a c h3 h4)
end
theorem Qba {P : Program} {ρ : Operand → Value} {o : Oper} {w : World} (ty : TypeId) (x y : Operand) (g off : Nat) (t : TypeId) (pre post : List (Array Value)) (u v : Value) (hg : w.heap[g]? = some (.cells (cat (pre ++ ([#[u]] ++ post))) t))
    (ho : o.op = .store ty x y) (hx : ρ x = .pointer (some ⟨g, off, none⟩)) (hy : ρ y = v) (hi : (P.info? ty).map (·.size) = some 1) (hp : (cat pre).size = off) (h1 : v.oneCell' = true) (hcs : v.cells = #[v]) :
    (execOp ρ o).run P w = .ok .skip (w.setRow g (cat (pre ++ ([#[v]] ++ post)))) := by
  subst hp
  have hs : Nat.blt (cat pre).size (cat (pre ++ ([#[u]] ++ post))).size = true := by
    have : (cat pre).size < (cat (pre ++ ([#[u]] ++ post))).size := by
      rw [QaC, QaC, Array.size_append, Array.size_append]
      have e1 : (cat [#[u]]).size = 1 := rfl
      omega
    simpa using this
  have e : (cat (pre ++ ([#[u]] ++ post))).setIfInBounds (cat pre).size v = cat (pre ++ ([#[v]] ++ post)) := by
    rw [QaC, QaC, QaC, QaC]
    have e1 : ∀ z, cat [#[z]] = #[z] := fun z => rfl
    rw [e1, e1, Array.setIfInBounds_append_right (Nat.le_refl _), Nat.sub_self, Array.setIfInBounds_append_left (by simp)]
    rfl
  rw [← e]
  exact Qbk ty x y g _ t _ v hg ho hx hy hi hs h1 hcs
end Go.Proofs.YtibegnjaphohaaaDoor.Sha
end
section
namespace Go.Proofs.YtibegnjaphohaaaDoor.Sha
open Go Go.RowKit
open Rely Auto Own
set_option linter.unusedVariables false
set_option linter.unusedSimpArgs false
set_option maxHeartbeats 4000000 in
theorem addC (g B : Nat) (t ys : List Int) (v : Value) (tc : TypeId) (w : World) (hc : w.heap[2]? = some (.cells (ints .u64 QaD) tc)) (hcg : 2 ≠ g) (hB : ys = [] ∨ v.ownBlock ≠ some g) (hyb : Qao ys) (hlen : t.length + ys.length ≤ 1000000000) (hd : HasD g t w) (hy : RdK .u8 B ys v w) :
  Calls Tryd.prog 71 #[.pointer (some ⟨g, 0, none⟩), v] w (fun e W => e = .returned (.tuple #[]) ∧ ExtB g w W ∧ HasD g (t ++ ys) W) := by
 obtain ⟨a0, c0, rfl, -⟩ := id hy
 refine enter 40 [(0, .pointer (some ⟨g, 0, none⟩)), (1, .slice a0 ys.length c0)] Tryd.func71 rfl rfl kj rfl ?_
 refine wp_seq_k fun K3 hK3 => ?_
 refine wp_seq_k fun K4 hK4 => ?_
 refine Qab ?_
 refine Qaa (.pointer (some ⟨g, 0, none⟩)) 5 rfl kj kj ?_
 refine Qaa (.bool false) 6 rfl kj kj ?_
 refine Qac ?_
 refine hK4 _ _ ?_
 refine cond_false kj ?_
 refine wp_skip ?_
 refine hK3 _ _ ?_
 refine wp_block ?_
 have hyb2 : ∀ {k : Nat}, Qao (ys.drop k) := fun x hx => hyb x (List.mem_of_mem_drop hx)
 refine QaM (fun (s1 : Nat × Option Addr × Nat) => [(0, .pointer (some ⟨g, 0, none⟩)), (1, .slice s1.2.1 (ys.length - s1.1) s1.2.2)]) (fun (s1 : Nat × Option Addr × Nat) W => (s1.1 ≤ ys.length) ∧ (RdK .u8 B (ys.drop s1.1) (.slice s1.2.1 (ys.length - s1.1) s1.2.2) W) ∧ (s1.1 < ys.length → (Value.slice s1.2.1 (ys.length - s1.1) s1.2.2).ownBlock ≠ some g) ∧ (HasD g (t ++ ys.take s1.1) W) ∧ (ExtB g w W)) (fun (s1 : Nat × Option Addr × Nat) => ys.length - s1.1) (0, a0, c0) ⟨rfl, rfl, trivial⟩ ⟨(Nat.zero_le _), hy, (fun h => hB.resolve_left (fun e => by rw [e] at h; exact absurd h (Nat.lt_irrefl _))), (by simpa using hd), (ExtB.refl g w)⟩ fun s1 X1 V1 hI1 => ?_
 obtain ⟨k, a, c⟩ := s1
 obtain ⟨hk, hr, hnb, hD, xx1⟩ := hI1
 replace hk : k ≤ ys.length := hk
 replace hr : RdK .u8 B (ys.drop k) (.slice a (ys.length - k) c) V1 := hr
 replace hnb : k < ys.length → (Value.slice a (ys.length - k) c).ownBlock ≠ some g := hnb
 replace hD : HasD g (t ++ ys.take k) V1 := hD
 replace xx1 : ExtB g w V1 := xx1
 refine wp_seq_k fun K5 hK5 => ?_
 refine wp_seq_k fun K6 hK6 => ?_
 refine Qab ?_
 refine Qaa (.slice a (ys.length - k) c) 7 rfl kj kj ?_
 refine Qaa (.int .i64 ((ys.length - k : Nat) : Int)) 8 rfl kj kj ?_
 refine Qaa (.bool (decide (((ys.length - k : Nat) : Int) > 0))) 9 rfl kj kj ?_
 refine Qac ?_
 refine hK6 _ _ ?_
 refine QaE (t := decide (((ys.length - k : Nat) : Int) > 0)) kj (fun c7 => ?_) (fun c7 => ?_)
 ·skip
  have hk2 : k < ys.length := by have := of_decide_eq_true c7; omega
  obtain ⟨b, hbl, hbb, hbp, hmany, hrow⟩ := hD
  obtain ⟨t1, ht1⟩ : ∃ z, z = t ++ ys.take k := ⟨_, rfl⟩
  rw [← ht1] at hbp hmany hrow
  have hlt1 : t1.length = t.length + k := by rw [ht1, List.length_append, List.length_take]; omega
  obtain ⟨m, hm⟩ : ∃ z, z = t1.length := ⟨_, rfl⟩
  obtain ⟨s, hs⟩ : ∃ z, z = absorb S0 t1 (t1.length / 64) := ⟨_, rfl⟩
  obtain ⟨n, hn⟩ : ∃ z, z = min (ys.drop k).length (64 - m % 64) := ⟨_, rfl⟩
  have hn0 : 0 < n := by rw [hn, List.length_drop]; omega
  have hn1 : n ≤ ys.length - k := by rw [hn, List.length_drop]; omega
  have hn2 : n ≤ 64 - m % 64 := by rw [hn]; omega
  rw [← hs, ← hm] at hrow
  replace hrow : V1.heap[g]? = some (.cells (cat [ints .u32 ([wv s.a, wv s.b, wv s.c, wv s.d, wv s.e, wv s.f, wv s.g, wv s.h]), ints .u8 (b), #[.int .i64 ((m : Nat) : Int)]]) 129) := hrow
  refine wp_skip ?_
  refine hK5 _ _ ?_
  refine wp_block ?_
  refine wp_seq_k fun K8 hK8 => ?_
  refine QcB 10 [⟨none, [(0, none)]⟩, ⟨none, [(10, some 0)]⟩, ⟨none, [(11, some 1)]⟩, ⟨none, [(0, none)]⟩, ⟨none, [(13, some 3)]⟩, ⟨none, [(14, some 4)]⟩, ⟨none, [(15, some 5)]⟩, ⟨none, [(16, some 6)]⟩, ⟨none, [(12, some 2), (17, some 7)]⟩, ⟨none, [(1, none)]⟩] kj kj fun F hF => ?_
  refine Qdc (QbD _) (.pointer (some ⟨g, 0, none⟩)) kj kj (fun W => by kernel_rfl) ?_
  refine Qdc (QbD _) (.pointer (some ⟨g, 0, none⟩)) kj kj (fun W => by kernel_rfl) ?_
  refine Qdc (QbD _) (.pointer (some ⟨g, 8, none⟩)) kj kj (fun W => by kernel_rfl) ?_
  refine Qdc (QbD _) (.pointer (some ⟨g, 0, none⟩)) kj kj (fun W => by kernel_rfl) ?_
  refine Qdc (QbD _) (.pointer (some ⟨g, 0, none⟩)) kj kj (fun W => by kernel_rfl) ?_
  refine Qdc (QbD _) (.pointer (some ⟨g, 72, none⟩)) kj kj (fun W => by kernel_rfl) ?_
  refine Qj1 (QbD _) (.int .i64 ((m : Nat) : Int)) kj kj (fun W hR => (Qal 3 _ g 72 129 _ (.int .i64 ((m : Nat) : Int)) _ (Qad (Qad hrow (Qa2 _)) hR) rfl kj (Qat [ints .u32 ([wv s.a, wv s.b, wv s.c, wv s.d, wv s.e, wv s.f, wv s.g, wv s.h]), ints .u8 (b)] [#[.int .i64 ((m : Nat) : Int)]] [] 72 (by rw [Qae, Qae]; simp only [Array.size_append, cat, ((Qaf _ _).trans hbl)]; rfl) 0 _ rfl) kj)) ?_
  refine Qdc (QbD _) (.int .i64 ((m % 64 : Nat) : Int)) kj kj (fun W => (Qah (u := .int .i64 (Int.tmod (((m : Nat) : Int)) (64))) kj (congrArg (Value.int .i64) (Qem _ 64)))) ?_
  refine Qdc (QbD _) (.slice (some ⟨g, 8 + (m % 64), none⟩) (64 - (m % 64)) (64 - (m % 64))) kj kj (fun W => (Qcy 107 _ _ _ (m % 64) 64 64 g 8 5 rfl kj kj kj ⟨.i64, by kernel_rfl⟩ rfl (by omega) (by omega) (by omega))) ?_
  refine Qdc (QbD _) (.slice a (ys.length - k) c) kj kj (fun W => by kernel_rfl) ?_
  refine QhT (hF _ fun W2 e2 => ?_)
  simp only [List.nil_append, List.cons_append, List.take_succ_cons, List.take_zero, List.drop_succ_cons, List.drop_zero, finE, up]
  clear hF
  have x2 : ExtB g w W2 := ExtB.ext xx1 e2
  have r2_2 := (Qad hrow e2)
  have f9_2 := (hr.ext e2)
  have hbl2 : (into b (ys.drop k) (m % 64) n).length = 64 := Qf9 hbl (by rw [List.length_drop]; omega) (by omega)
  refine Qg9 (.tmp 18) (.tmp 19) 38 38 20 rfl kj rfl kj (q := m % 64) (n := n) (b := b) rfl hbl kj kj f9_2 r2_2 (by omega) hn (by rw [List.length_drop]; omega) fun W3 p3 r2_3 => ?_
  have x3 : ExtB g w W3 := ExtB.puts x2 p3
  refine Qaa (.int .i64 ((n : Nat) : Int)) 4 rfl kj kj ?_
  refine Qac ?_
  refine hK8 _ _ ?_
  refine wp_seq_k fun K10 hK10 => ?_
  refine Qab ?_
  refine Qaa (.slice a (ys.length - k) c) 21 rfl kj kj ?_
  refine Qaa (.int .i64 ((n : Nat) : Int)) 22 rfl kj kj ?_
  have f11_3 := (f9_2.putsN p3 (hnb hk2))
  refine Qef 38 (.tmp 21) (.tmp 22) n (ys.length - k - n) 5 23 rfl rfl kj kj f11_3 kj kj .i64 kj (by rw [List.length_drop]; omega) (by rw [List.length_drop]) fun a2 c2 hr2 hob => ?_
  have hnb2 : (Value.slice a2 (ys.length - k - n) c2).ownBlock ≠ some g := by rw [hob]; exact hnb hk2
  refine Qaa (.slice a2 (ys.length - k - n) c2) 1 rfl kj kj ?_
  refine Qac ?_
  refine hK10 _ _ ?_
  refine wp_seq_k fun K12 hK12 => ?_
  refine Qab ?_
  refine Qaa (.pointer (some ⟨g, 0, none⟩)) 24 rfl kj kj ?_
  refine Qaa (.pointer (some ⟨g, 0, none⟩)) 25 rfl kj kj ?_
  refine Qaa (.pointer (some ⟨g, 72, none⟩)) 26 rfl kj kj ?_
  refine Qaa (.int .i64 ((m : Nat) : Int)) 27 rfl kj (Qal 3 _ g 72 129 _ (.int .i64 ((m : Nat) : Int)) _ r2_3 rfl kj (Qat [ints .u32 ([wv s.a, wv s.b, wv s.c, wv s.d, wv s.e, wv s.f, wv s.g, wv s.h]), ints .u8 (into b (ys.drop k) (m % 64) n)] [#[.int .i64 ((m : Nat) : Int)]] [] 72 (by rw [Qae, Qae]; simp only [Array.size_append, cat, ((Qaf _ _).trans hbl2)]; rfl) 0 _ rfl) kj) ?_
  refine Qaa (.int .i64 ((n : Nat) : Int)) 28 rfl kj kj ?_
  refine Qaa (.int .i64 ((m + n : Nat) : Int)) 29 rfl kj (Qah (u := .int .i64 (IntKind.i64.wrap (((m : Nat) : Int) + ((n : Nat) : Int)))) kj (congrArg (Value.int .i64) (i64n _ _ (by omega) (by omega)))) ?_
  refine Qaa (.pointer (some ⟨g, 0, none⟩)) 30 rfl kj kj ?_
  refine Qaa (.pointer (some ⟨g, 72, none⟩)) 31 rfl kj kj ?_
  refine Qaj g _ (cat [ints .u32 ([wv s.a, wv s.b, wv s.c, wv s.d, wv s.e, wv s.f, wv s.g, wv s.h]), ints .u8 (into b (ys.drop k) (m % 64) n), #[.int .i64 ((m + n : Nat) : Int)]]) 129 r2_3 rfl kj (Qba 3 _ _ g 72 129 [ints .u32 ([wv s.a, wv s.b, wv s.c, wv s.d, wv s.e, wv s.f, wv s.g, wv s.h]), ints .u8 (into b (ys.drop k) (m % 64) n)] [] _ (.int .i64 ((m + n : Nat) : Int)) r2_3 rfl kj kj kj (by rw [Qae, Qae]; simp only [Array.size_append, cat, ((Qaf _ _).trans hbl2)]; rfl) rfl rfl) fun W4 p4 r2_4 => ?_
  have x4 : ExtB g w W4 := ExtB.puts x3 p4
  refine Qac ?_
  refine hK12 _ _ ?_
  refine wp_seq_k fun K13 hK13 => ?_
  refine Qab ?_
  refine Qaa (.pointer (some ⟨g, 0, none⟩)) 32 rfl kj kj ?_
  refine Qaa (.pointer (some ⟨g, 0, none⟩)) 33 rfl kj kj ?_
  refine Qaa (.pointer (some ⟨g, 72, none⟩)) 34 rfl kj kj ?_
  refine Qaa (.int .i64 ((m + n : Nat) : Int)) 35 rfl kj (Qal 3 _ g 72 129 _ (.int .i64 ((m + n : Nat) : Int)) _ r2_4 rfl kj (Qat [ints .u32 ([wv s.a, wv s.b, wv s.c, wv s.d, wv s.e, wv s.f, wv s.g, wv s.h]), ints .u8 (into b (ys.drop k) (m % 64) n)] [#[.int .i64 ((m + n : Nat) : Int)]] [] 72 (by rw [Qae, Qae]; simp only [Array.size_append, cat, ((Qaf _ _).trans hbl2)]; rfl) 0 _ rfl) kj) ?_
  refine Qaa (.int .i64 (((m + n) % 64 : Nat) : Int)) 36 rfl kj (Qah (u := .int .i64 (Int.tmod (((m + n : Nat) : Int)) (64))) kj (congrArg (Value.int .i64) (Qem _ 64))) ?_
  refine Qaa (.bool (((((m + n) % 64 : Nat) : Int) == 0))) 37 rfl kj kj ?_
  refine Qac ?_
  refine hK13 _ _ ?_
  refine QaE (t := ((((m + n) % 64 : Nat) : Int) == 0)) kj (fun c14 => ?_) (fun c14 => ?_)
  ·skip
   have hmod : (m + n) % 64 = 0 := by have := c14; have h2 := eq_of_beq this; omega
   refine Qab ?_
   refine Qaa (.pointer (some ⟨g, 0, none⟩)) 38 rfl kj kj ?_
   have r1_2 := (Qad (ExtB.row xx1 hc hcg) e2)
   have r1_3 := (Puts.row p3 r1_2 hcg)
   have r1_4 := (Puts.row p4 r1_3 hcg)
   refine Qa8 (fun v W' => v = .tuple #[] ∧ ExtB g W4 W' ∧ W'.heap[g]? = some (.cells (cat [ints .u32 ((blk s (into b (ys.drop k) (m % 64) n)).l.map wv), ints .u8 (into b (ys.drop k) (m % 64) n), #[.int .i64 ((m + n : Nat) : Int)]]) 129)) 74 #[.pointer (some ⟨g, 0, none⟩)] 39 rfl kj kj ((QjF g s _ hbl2 (Qda hbb hyb2) _ tc _ r1_4 r2_4).mono fun e w' h => ⟨_, h.1, rfl, h.2⟩) fun v W5 h => ?_
   obtain ⟨rfl, q5, r2_5⟩ := h
   have x5 : ExtB g w W5 := ExtB.trans x4 q5
   refine Qac ?_
   have f15_4 := (hr2.putsN p4 hnb2)
   have f16_5 := (f15_4.extN q5 hnb2)
   have hr3 : RdK .u8 B (ys.drop (k + n)) (.slice a2 (ys.length - (k + n)) c2) W5 := by
    have h := f16_5
    rw [List.drop_drop, show ys.length - k - n = ys.length - (k + n) by omega] at h
    exact h
   have hlen3 : (t1 ++ (ys.drop k).take n).length = m + n := by rw [List.length_append, List.length_take, List.length_drop]; omega
   have hnb3 : (Value.slice a2 (ys.length - (k + n)) c2).ownBlock ≠ some g := by rw [show ys.length - (k + n) = ys.length - k - n by omega]; exact hnb2
   have hT : t ++ ys.take (k + n) = t1 ++ (ys.drop k).take n := by rw [ht1, List.append_assoc, List.take_add]
   have hzn : n ≤ (ys.drop k).length := by rw [List.length_drop]; omega
   have hb0 : (into b (ys.drop k) (m % 64) n).take ((t ++ ys.take (k + n)).length % 64) = (t ++ ys.take (k + n)).drop (64 * ((t ++ ys.take (k + n)).length / 64)) := by
    rw [hT, hlen3, hmod, List.take_zero, List.drop_of_length_le (by omega)]
   have hst : blk s (into b (ys.drop k) (m % 64) n) = absorb S0 (t ++ ys.take (k + n)) ((t ++ ys.take (k + n)).length / 64) := by rw [hT, hs, hm]; exact QgT hbl hzn hbp (by omega)
   have hD2 : HasD g (t ++ ys.take (k + n)) W5 := ⟨_, hbl2, Qda hbb hyb2, hb0, by rw [hT, hlen3]; omega, by rw [← hst, hT, hlen3]; exact r2_5⟩
   repeat (first | with_reducible refine goX1 ?_ | with_reducible refine goX2 ?_ | with_reducible refine goX3 ?_)
   exact QaB (k + n, a2, c2) ⟨rfl, (congrArg (fun z => Value.slice a2 z c2) (by omega)), trivial⟩ ⟨(by omega), hr3, (fun _ => hnb3), hD2, x5⟩ (by show ys.length - (k + n) < ys.length - k; omega)
  ·skip
   have hmod : ¬ (m + n) % 64 = 0 := by have := c14; intro h0; rw [h0] at this; exact absurd this (by decide)
   refine wp_skip ?_
   have f17_4 := (hr2.putsN p4 hnb2)
   have hr3 : RdK .u8 B (ys.drop (k + n)) (.slice a2 (ys.length - (k + n)) c2) W4 := by
    have h := f17_4
    rw [List.drop_drop, show ys.length - k - n = ys.length - (k + n) by omega] at h
    exact h
   have hlen3 : (t1 ++ (ys.drop k).take n).length = m + n := by rw [List.length_append, List.length_take, List.length_drop]; omega
   have hnb3 : (Value.slice a2 (ys.length - (k + n)) c2).ownBlock ≠ some g := by rw [show ys.length - (k + n) = ys.length - k - n by omega]; exact hnb2
   have hT : t ++ ys.take (k + n) = t1 ++ (ys.drop k).take n := by rw [ht1, List.append_assoc, List.take_add]
   have hzn : n ≤ (ys.drop k).length := by rw [List.length_drop]; omega
   have hb0 : (into b (ys.drop k) (m % 64) n).take ((t ++ ys.take (k + n)).length % 64) = (t ++ ys.take (k + n)).drop (64 * ((t ++ ys.take (k + n)).length / 64)) := by
    rw [hT, hm]; exact QgU hbl hzn hbp (by omega)
   have hst : s = absorb S0 (t ++ ys.take (k + n)) ((t ++ ys.take (k + n)).length / 64) := by rw [hT, hs]; exact (QfV hzn (by omega)).symm
   have hD2 : HasD g (t ++ ys.take (k + n)) W4 := ⟨_, hbl2, Qda hbb hyb2, hb0, by rw [hT, hlen3]; omega, by rw [← hst, hT, hlen3]; exact r2_4⟩
   repeat (first | with_reducible refine goX1 ?_ | with_reducible refine goX2 ?_ | with_reducible refine goX3 ?_)
   exact QaB (k + n, a2, c2) ⟨rfl, (congrArg (fun z => Value.slice a2 z c2) (by omega)), trivial⟩ ⟨(by omega), hr3, (fun _ => hnb3), hD2, x4⟩ (by show ys.length - (k + n) < ys.length - k; omega)
 ·skip
  have hk2 : k = ys.length := by have := of_decide_eq_false c7; omega
  refine wp_exit ?_
  repeat (first | with_reducible refine goX1 ?_ | with_reducible refine goX2 ?_ | with_reducible refine goX3 ?_)
  exact (show bodyPost _ _ _ .normal _ _ from end0 rfl ⟨rfl, xx1, by rw [hk2, List.take_length] at hD; exact hD⟩)
end Go.Proofs.YtibegnjaphohaaaDoor.Sha
end
section
namespace Go.Proofs.YtibegnjaphohaaaDoor.Sha
open Go Go.RowKit
open Rely Auto Own
set_option linter.unusedVariables false
set_option linter.unusedSimpArgs false
theorem QdH (n : Nat) : Qao (List.replicate n 0) := fun x hx => by
  have := List.eq_of_mem_replicate hx
  subst this; decide
theorem QiC (n : Nat) : (64 - (n + 1 + 8) % 64) % 64 = QaK n := by unfold QaK; omega
theorem QiW (n : Nat) (h : n ≤ 1000000000) : IntKind.u64.wrap ((n : Nat) : Int) = ((n : Nat) : Int) := by
  have : ∀ z : Int, IntKind.u64.wrap z = z % 2 ^ 64 := fun _ => rfl
  rw [this]; omega
theorem QjE (n : Nat) (h : n ≤ 1000000000) : IntKind.u64.wrap (((n : Nat) : Int) * 2 ^ min (3 : Int).toNat IntKind.u64.bits) = ((8 * n : Nat) : Int) := by
  have : ∀ z : Int, IntKind.u64.wrap z = z % 2 ^ 64 := fun _ => rfl
  rw [this, show ((2 : Int) ^ min (3 : Int).toNat IntKind.u64.bits) = 8 from rfl]; omega
theorem QiX (n : Nat) (h : n ≤ 1000000000) : ((n : Nat) : Int).fdiv (2 ^ min (61 : Int).toNat IntKind.u64.bits) = 0 := by
  rw [Int.fdiv_eq_ediv_of_nonneg _ (by decide), show ((2 : Int) ^ min (61 : Int).toNat IntKind.u64.bits) = 2305843009213693952 from rfl]; omega
theorem QiP (m : Nat) : IntKind.u8.wrap ((m : Nat) : Int) = ((m % 256 : Nat) : Int) := by
  have : ∀ z : Int, IntKind.u8.wrap z = z % 2 ^ 8 := fun _ => rfl
  rw [this]; omega
theorem QjK (n i : Nat) : ((8 * n / 256 ^ i : Nat) : Int).fdiv (2 ^ min (8 : Int).toNat IntKind.u64.bits) = ((8 * n / 256 ^ (i + 1) : Nat) : Int) := by
  rw [Int.fdiv_eq_ediv_of_nonneg _ (by decide), show ((2 : Int) ^ min (8 : Int).toNat IntKind.u64.bits) = 256 from rfl, Nat.pow_succ, ← Nat.div_div_eq_div_mul]; omega
theorem lowlt (n i : Nat) (h : n ≤ 1000000000) : 8 * n / 256 ^ (i + 1) < 18446744073709551616 := Nat.lt_of_le_of_lt (Nat.div_le_self _ _) (by omega)
theorem or0 (m : Nat) (h : m < 18446744073709551616) : bits .or .u64 ((m : Nat) : Int) 0 = ((m : Nat) : Int) := by
  have := bits_or_u64_nat m 0 h (by decide)
  rw [Nat.or_zero] at this
  exact this
def padL (n i : Nat) : List Int := 128 :: (List.replicate (QaK n) 0 ++ (List.replicate (8 - i) 0 ++ (be8 (8 * n)).drop (8 - i)))
theorem Qh9 (n : Nat) {i : Nat} (h : i ≤ 8) : (padL n i).length = 1 + QaK n + 8 := by
  have : (be8 (8 * n)).length = 8 := rfl
  simp [padL, this]; omega
theorem Qex (n : Nat) : (Qdo n).length = 1 + QaK n + 8 := by
  have : (be8 (8 * n)).length = 8 := rfl
  simp [Qdo, this]; omega
theorem Qjg (n : Nat) : (List.replicate (1 + QaK n + 8) (0 : Int)).set 0 128 = padL n 0 := by
  rw [show 1 + QaK n + 8 = (QaK n + 8) + 1 by omega, List.replicate_succ, List.set_cons_zero, ← List.replicate_append_replicate]
  rfl
theorem Qh8 (n i : Nat) (h : i < 8) : (padL n i).set (1 + QaK n + 8 - 1 - i) ((8 * n / 256 ^ i % 256 : Nat) : Int) = padL n (i + 1) := by
  unfold padL
  rw [show 1 + QaK n + 8 - 1 - i = (QaK n + (7 - i)) + 1 by omega, List.set_cons_succ, List.set_append_right _ _ (by simp), List.length_replicate, Nat.add_sub_cancel_left]
  congr 2
  match i, h with
  | 0, _ => rfl
  | 1, _ => rfl
  | 2, _ => rfl
  | 3, _ => rfl
  | 4, _ => rfl
  | 5, _ => rfl
  | 6, _ => rfl
  | 7, _ => rfl
set_option maxHeartbeats 4000000 in
theorem Qh7 (n : Nat) (hn : n ≤ 1000000000) (w : World) : Calls Tryd.prog 75 #[.int .i64 ((n : Nat) : Int), .int .i64 64, .int .i64 8] w (Qce w (OwnN .u8 5 w.heap.size (Qdo n))) := by
 have hF : QaK n < 64 := by unfold QaK; omega
 refine enter 59 [(0, .int .i64 ((n : Nat) : Int)), (1, .int .i64 64), (2, .int .i64 8)] Tryd.func75 rfl rfl kj rfl ?_
 refine wp_seq_k fun K1 hK1 => ?_
 refine Qab ?_
 refine Qaa (.slice none 0 0) 6 rfl kj kj ?_
 refine Qac ?_
 refine hK1 _ _ ?_
 refine wp_seq_k fun K2 hK2 => ?_
 refine Qab ?_
 refine Qaa (.int .i64 64) 13 rfl kj kj ?_
 refine Qaa (.int .i64 ((n : Nat) : Int)) 14 rfl kj kj ?_
 refine Qaa (.int .i64 ((n + 1 : Nat) : Int)) 15 rfl kj (Qah (u := .int .i64 (IntKind.i64.wrap (((n : Nat) : Int) + 1))) kj (congrArg (Value.int .i64) (i64n _ _ (by omega) (by omega)))) ?_
 refine Qaa (.int .i64 8) 16 rfl kj kj ?_
 refine Qaa (.int .i64 (((n + 1) + 8 : Nat) : Int)) 17 rfl kj (Qah (u := .int .i64 (IntKind.i64.wrap (((n + 1 : Nat) : Int) + 8))) kj (congrArg (Value.int .i64) (i64n _ _ (by omega) (by omega)))) ?_
 refine Qaa (.int .i64 64) 18 rfl kj kj ?_
 refine Qaa (.int .i64 ((((n + 1) + 8) % 64 : Nat) : Int)) 19 rfl kj (Qah (u := .int .i64 (Int.tmod ((((n + 1) + 8 : Nat) : Int)) (64))) kj (congrArg (Value.int .i64) (Qem _ 64))) ?_
 refine Qaa (.int .i64 ((64 - (((n + 1) + 8) % 64) : Nat) : Int)) 20 rfl kj (Qah (u := .int .i64 (IntKind.i64.wrap (64 - ((((n + 1) + 8) % 64 : Nat) : Int)))) kj (congrArg (Value.int .i64) (i64n _ _ (by omega) (by omega)))) ?_
 refine Qaa (.int .i64 64) 21 rfl kj kj ?_
 refine Qaa (.int .i64 (((QaK n : Nat) : Int))) 22 rfl kj (Qah (u := .int .i64 (Int.tmod (((64 - (((n + 1) + 8) % 64) : Nat) : Int)) (64))) kj (congrArg (Value.int .i64) ((Qem _ 64).trans (congrArg (fun z : Nat => (z : Int)) (QiC n))))) ?_
 refine Qaa (.int .i64 (((QaK n : Nat) : Int))) 7 rfl kj kj ?_
 refine Qac ?_
 refine hK2 _ _ ?_
 refine wp_seq_k fun K3 hK3 => ?_
 refine Qab ?_
 refine Qaa (.int .i64 (((QaK n : Nat) : Int))) 23 rfl kj kj ?_
 refine Qaa (.int .i64 ((1 + (QaK n) : Nat) : Int)) 24 rfl kj (Qah (u := .int .i64 (IntKind.i64.wrap (1 + (((QaK n : Nat) : Int))))) kj (congrArg (Value.int .i64) (i64n _ _ (by omega) (by omega)))) ?_
 refine Qaa (.int .i64 8) 25 rfl kj kj ?_
 refine Qaa (.int .i64 (((1 + (QaK n)) + 8 : Nat) : Int)) 26 rfl kj (Qah (u := .int .i64 (IntKind.i64.wrap (((1 + (QaK n) : Nat) : Int) + 8))) kj (congrArg (Value.int .i64) (i64n _ _ (by omega) (by omega)))) ?_
 refine Qbp (ints .u8 (List.replicate ((1 + (QaK n)) + 8) 0)) 5 ((1 + (QaK n)) + 8) 27 rfl kj (Qe4 38 _ _ .i64 .i64 ((1 + (QaK n)) + 8) 5 rfl kj kj kj (.inr kj) (by omega)) fun g4 W1 l4 e1 r4_1 => ?_
 have x1 : Ext w W1 := Ext.tr (Rely.Ext.refl w) e1
 have b4 : w.heap.size ≤ g4 := Nat.le_trans (Rely.Ext.refl w).size l4
 refine Qaa (.slice (some ⟨g4, 0, none⟩) ((1 + (QaK n)) + 8) ((1 + (QaK n)) + 8)) 8 rfl kj kj ?_
 refine Qac ?_
 refine hK3 _ _ ?_
 refine wp_seq_k fun K5 hK5 => ?_
 refine Qab ?_
 refine Qaa (.slice (some ⟨g4, 0, none⟩) ((1 + (QaK n)) + 8) ((1 + (QaK n)) + 8)) 28 rfl kj kj ?_
 refine Qaa (.pointer (some ⟨g4, 0, none⟩)) 29 rfl kj (QbC 38 _ _ .i64 (0) g4 ((1 + (QaK n)) + 8) ((1 + (QaK n)) + 8) 5 rfl kj kj kj kj (by omega)) ?_
 refine Qaj g4 _ (ints .u8 ((List.replicate ((1 + (QaK n)) + 8) 0).set 0 128)) 5 r4_1 rfl kj (Qaw 5 _ _ g4 0 5 _ _ r4_1 rfl kj kj kj (Nat.lt_of_lt_of_eq (by omega) (List.length_replicate (n := ((1 + (QaK n)) + 8))).symm)) fun W2 p2 r4_2 => ?_
 have x2 : Ext w W2 := Puts.ext p2 x1 b4
 refine Qac ?_
 refine hK5 _ _ ?_
 refine wp_seq_k fun K6 hK6 => ?_
 refine Qab ?_
 refine Qaa (.int .i64 ((n : Nat) : Int)) 30 rfl kj kj ?_
 refine Qaa (.int .u64 (((n : Nat) : Int))) 31 rfl kj (Qah (u := .int .u64 (IntKind.u64.wrap ((n : Nat) : Int))) kj (congrArg (Value.int .u64) (QiW n (by omega)))) ?_
 refine Qaa (.int .u64 (((8 * n : Nat) : Int))) 32 rfl kj (Qa1 .shl _ _ _ _ .u64 .u64 _ _ _ rfl kj kj (Qfk _ _ _ _ _ _ (by decide) (QjE n (by omega)))) ?_
 refine Qaa (.int .i64 ((n : Nat) : Int)) 33 rfl kj kj ?_
 refine Qaa (.int .u64 (((n : Nat) : Int))) 34 rfl kj (Qah (u := .int .u64 (IntKind.u64.wrap ((n : Nat) : Int))) kj (congrArg (Value.int .u64) (QiW n (by omega)))) ?_
 refine Qaa (.int .u64 (0)) 35 rfl kj (Qa1 .shr _ _ _ _ .u64 .u64 _ _ _ rfl kj kj (QaO _ _ _ _ _ _ (by decide) (QiX n (by omega)))) ?_
 refine Qaa (.int .u64 (((8 * n : Nat) : Int))) 9 rfl kj kj ?_
 refine Qaa (.int .u64 (0)) 10 rfl kj kj ?_
 refine Qac ?_
 refine hK6 _ _ ?_
 refine wp_seq_k fun K7 hK7 => ?_
 refine wp_seq_k fun K8 hK8 => ?_
 refine Qab ?_
 refine Qaa (.int .i64 8) 36 rfl kj kj ?_
 refine Qaa (.int .i64 0) 37 rfl kj kj ?_
 refine Qac ?_
 refine hK8 _ _ ?_
 refine wp_block ?_
 refine QaM (fun (s1 : Nat) => [(8, .slice (some ⟨g4, 0, none⟩) ((1 + (QaK n)) + 8) ((1 + (QaK n)) + 8)), (9, .int .u64 ((8 * n / 256 ^ s1 : Nat) : Int)), (10, .int .u64 0), (36, .int .i64 8), (37, .int .i64 ((s1 : Nat) : Int))]) (fun (s1 : Nat) W => (s1 ≤ 8) ∧ (W.heap[g4]? = some (.cells (ints .u8 (padL n s1)) 5)) ∧ (Qai [g4] W2 W) ∧ (Ext w W)) (fun (s1 : Nat) => 8 - s1) 0 ⟨rfl, (congrArg (fun z : Nat => Value.int .u64 (z : Int)) (Nat.div_one _).symm), rfl, rfl, rfl, trivial⟩ ⟨(Nat.zero_le _), (QaX r4_2 (Qjg n)), (Qai.refl [g4] W2), x2⟩ fun s1 X1 V1 hI1 => ?_
 obtain ⟨i, hs1⟩ : ∃ z, z = s1 := ⟨_, rfl⟩
 subst hs1
 obtain ⟨hi, q4_1, kk1, xx1⟩ := hI1
 replace hi : i ≤ 8 := hi
 replace q4_1 : V1.heap[g4]? = some (.cells (ints .u8 (padL n i)) 5) := q4_1
 replace kk1 : Qai [g4] W2 V1 := kk1
 replace xx1 : Ext w V1 := xx1
 have q3 := kk1
 refine wp_seq_k fun K9 hK9 => ?_
 refine Qab ?_
 refine Qaa (.bool (decide (((i : Nat) : Int) < 8))) 38 rfl kj kj ?_
 refine Qac ?_
 refine hK9 _ _ ?_
 refine wp_seq_k fun K10 hK10 => ?_
 refine QaE (t := decide (((i : Nat) : Int) < 8)) kj (fun c11 => ?_) (fun c11 => ?_)
 ·skip
  have hlt38 : i < 8 := by have := of_decide_eq_true c11; omega
  refine wp_skip ?_
  refine hK10 _ _ ?_
  refine wp_seq_k fun K12 hK12 => ?_
  refine wp_block ?_
  refine wp_seq_k fun K13 hK13 => ?_
  refine Qab ?_
  refine Qaa (.int .i64 ((i : Nat) : Int)) 39 rfl kj kj ?_
  refine Qaa (.int .i64 ((i : Nat) : Int)) 11 rfl kj kj ?_
  refine Qac ?_
  refine hK13 _ _ ?_
  refine wp_seq_k fun K14 hK14 => ?_
  refine Qab ?_
  refine Qaa (.int .u64 ((8 * n / 256 ^ i : Nat) : Int)) 40 rfl kj kj ?_
  refine Qaa (.int .u8 (((8 * n / 256 ^ i % 256 : Nat) : Int))) 41 rfl kj (Qah (u := .int .u8 (IntKind.u8.wrap ((8 * n / 256 ^ i : Nat) : Int))) kj (congrArg (Value.int .u8) (QiP _))) ?_
  refine Qaa (.int .u8 (((8 * n / 256 ^ i % 256 : Nat) : Int))) 12 rfl kj kj ?_
  refine Qac ?_
  refine hK14 _ _ ?_
  refine wp_seq_k fun K15 hK15 => ?_
  refine Qab ?_
  refine Qaa (.slice (some ⟨g4, 0, none⟩) ((1 + (QaK n)) + 8) ((1 + (QaK n)) + 8)) 42 rfl kj kj ?_
  refine Qaa (.slice (some ⟨g4, 0, none⟩) ((1 + (QaK n)) + 8) ((1 + (QaK n)) + 8)) 43 rfl kj kj ?_
  refine Qaa (.int .i64 (((1 + (QaK n)) + 8 : Nat) : Int)) 44 rfl kj kj ?_
  refine Qaa (.int .i64 ((((1 + (QaK n)) + 8) - 1 : Nat) : Int)) 45 rfl kj (Qah (u := .int .i64 (IntKind.i64.wrap ((((1 + (QaK n)) + 8 : Nat) : Int) - 1))) kj (congrArg (Value.int .i64) (i64n _ _ (by omega) (by omega)))) ?_
  refine Qaa (.int .i64 ((i : Nat) : Int)) 46 rfl kj kj ?_
  refine Qaa (.int .i64 (((((1 + (QaK n)) + 8) - 1) - i : Nat) : Int)) 47 rfl kj (Qah (u := .int .i64 (IntKind.i64.wrap (((((1 + (QaK n)) + 8) - 1 : Nat) : Int) - ((i : Nat) : Int)))) kj (congrArg (Value.int .i64) (i64n _ _ (by omega) (by omega)))) ?_
  refine Qaa (.int .u8 (((8 * n / 256 ^ i % 256 : Nat) : Int))) 48 rfl kj kj ?_
  refine Qaa (.pointer (some ⟨g4, ((((1 + (QaK n)) + 8) - 1) - i), none⟩)) 49 rfl kj (QbC 38 _ _ .i64 ((((1 + (QaK n)) + 8) - 1) - i) g4 ((1 + (QaK n)) + 8) ((1 + (QaK n)) + 8) 5 rfl kj kj kj kj (by omega)) ?_
  refine Qaj g4 _ (ints .u8 ((padL n i).set ((((1 + (QaK n)) + 8) - 1) - i) (((8 * n / 256 ^ i % 256 : Nat) : Int)))) 5 q4_1 rfl kj (Qaw 5 _ _ g4 ((((1 + (QaK n)) + 8) - 1) - i) 5 _ _ q4_1 rfl kj kj kj (Nat.lt_of_lt_of_eq (by omega) (Qh9 n (by omega)).symm)) fun W4 p4 r4_4 => ?_
  have x4 : Ext w W4 := Puts.ext p4 xx1 b4
  refine Qac ?_
  refine hK15 _ _ ?_
  refine wp_seq_k fun K16 hK16 => ?_
  refine Qab ?_
  refine Qaa (.int .u64 ((8 * n / 256 ^ i : Nat) : Int)) 50 rfl kj kj ?_
  refine Qaa (.int .u64 (((8 * n / 256 ^ (i + 1) : Nat) : Int))) 51 rfl kj (Qa1 .shr _ _ _ _ .u64 .u64 _ _ _ rfl kj kj (QaO _ _ _ _ _ _ (by decide) (QjK n i))) ?_
  refine Qaa (.int .u64 0) 52 rfl kj kj ?_
  refine Qaa (.int .u64 (0)) 53 rfl kj (Qa1 .shl _ _ _ _ .u64 .u64 _ _ _ rfl kj kj (Qfk _ _ _ _ _ _ (by decide) (show IntKind.u64.wrap (0 * 2 ^ min (56 : Int).toNat IntKind.u64.bits) = 0 from rfl))) ?_
  refine Qaa (.int .u64 (((8 * n / 256 ^ (i + 1) : Nat) : Int))) 54 rfl kj (Qah (u := .int .u64 (bits .or .u64 (((8 * n / 256 ^ (i + 1) : Nat) : Int)) (0))) kj (congrArg (Value.int .u64) (or0 _ (lowlt n i (by omega))))) ?_
  refine Qaa (.int .u64 (((8 * n / 256 ^ (i + 1) : Nat) : Int))) 9 rfl kj kj ?_
  refine Qac ?_
  refine hK16 _ _ ?_
  refine Qab ?_
  refine Qaa (.int .u64 0) 55 rfl kj kj ?_
  refine Qaa (.int .u64 (0)) 56 rfl kj (Qa1 .shr _ _ _ _ .u64 .u64 _ _ _ rfl kj kj (QaO _ _ _ _ _ _ (by decide) (show Int.fdiv 0 (2 ^ min (8 : Int).toNat IntKind.u64.bits) = 0 from rfl))) ?_
  refine Qaa (.int .u64 (0)) 10 rfl kj kj ?_
  refine Qac ?_
  refine hK12 _ _ ?_
  refine Qab ?_
  refine Qaa (.int .i64 ((i + 1 : Nat) : Int)) 57 rfl kj (Qah (u := .int .i64 (IntKind.i64.wrap (((i : Nat) : Int) + 1))) kj (congrArg (Value.int .i64) (i64n _ _ (by omega) (by omega)))) ?_
  refine Qaa (.int .i64 ((i + 1 : Nat) : Int)) 37 rfl kj kj ?_
  refine Qac ?_
  repeat (first | with_reducible refine goX1 ?_ | with_reducible refine goX2 ?_ | with_reducible refine goX3 ?_)
  exact QaB (i + 1) ⟨rfl, rfl, rfl, rfl, rfl, trivial⟩ ⟨(by omega), (QaX r4_4 (Qh8 n i hlt38)), (Qai.puts q3 p4 (.inl (by simp))), x4⟩ (by omega)
 ·skip
  have heq38 : i = 8 := by have := of_decide_eq_false c11; omega
  have r4_3_17 : V1.heap[g4]? = some (.cells (ints .u8 (Qdo n)) 5) := QaX q4_1 (by rw [heq38]; rfl)
  refine wp_exit ?_
  refine hK7 _ _ ?_
  refine wp_seq_k fun K18 hK18 => ?_
  refine Qab ?_
  refine Qaa (.slice (some ⟨g4, 0, none⟩) ((1 + (QaK n)) + 8) ((1 + (QaK n)) + 8)) 58 rfl kj kj ?_
  refine Qaa (.slice (some ⟨g4, 0, none⟩) ((1 + (QaK n)) + 8) ((1 + (QaK n)) + 8)) 6 rfl kj kj ?_
  refine Qac ?_
  refine hK18 _ _ ?_
  refine wp_ret ?_
  repeat (first | with_reducible refine goR1 ?_ | with_reducible refine goR2 ?_)
  exact (show bodyPost _ _ _ .ret _ _ from ret1 (.slice (some ⟨g4, 0, none⟩) ((1 + (QaK n)) + 8) ((1 + (QaK n)) + 8)) rfl (Qa9 kj) ⟨_, rfl, xx1, Qdt (Qex n) b4 r4_3_17 (by simp only [maxLen]; omega)⟩)
set_option maxHeartbeats 4000000 in
theorem newC (tq : TypeId) (w : World) (hq : w.heap[1]? = some (.cells (ints .u64 Qam) tq)) : Calls Tryd.prog 70 #[] w (Qce w (fun v W => ∃ g, v = .pointer (some ⟨g, 0, none⟩) ∧ w.heap.size ≤ g ∧ HasD g [] W)) := by
  refine enter 21 [] Tryd.func70 rfl rfl kj rfl ?_
  refine wp_seq_k fun K2 hK2 => ?_
  refine Qab ?_
  refine Qaa (.pointer none) 0 rfl kj kj ?_
  refine Qac ?_
  refine hK2 _ _ ?_
  refine wp_seq_k fun K3 hK3 => ?_
  refine Qab ?_
  refine Qaa (.agg (cat [ints .u32 ([0, 0, 0, 0, 0, 0, 0, 0]), ints .u8 (List.replicate 64 0), #[.int .i64 0]])) 4 rfl kj kj ?_
  refine Qas (cat [ints .u32 ([0, 0, 0, 0, 0, 0, 0, 0]), ints .u8 (List.replicate 64 0), #[.int .i64 0]]) 129 5 rfl kj kj fun g4 W1 l4 e1 r4_1 => ?_
  have x1 : Ext w W1 := Ext.tr (Rely.Ext.refl w) e1
  have b4 : w.heap.size ≤ g4 := Nat.le_trans (Rely.Ext.refl w).size l4
  refine Qaa (.pointer (some ⟨g4, 0, none⟩)) 1 rfl kj kj ?_
  refine Qac ?_
  refine hK3 _ _ ?_
  refine wp_seq_k fun K5 hK5 => ?_
  refine wp_seq_k fun K6 hK6 => ?_
  refine Qab ?_
  have r1_1 := (Qad hq e1)
  refine Qaa (.agg (ints .u64 (Qam))) 6 rfl kj (Qay 130 _ 1 tq _ _ r1_1 rfl kj kj (isz (n := 8) kj ((Qaf _ _).trans (show Qam.length = 8 from rfl)))) ?_
  refine Qaa (.int .i64 0) 7 rfl kj kj ?_
  refine Qac ?_
  refine hK6 _ _ ?_
  refine wp_block ?_
  refine wp_loop_rounds 9 ?_
  show Code.wp _ _ (Exit.then (Code.rounds _ _ _ 8) _) _ _
  refine wp_seq_k fun K7 hK7 => ?_
  refine Qab ?_
  refine Qaa (.bool true) 8 rfl kj kj ?_
  refine Qac ?_
  refine hK7 _ _ ?_
  refine wp_seq_k fun K8 hK8 => ?_
  refine cond_true kj ?_
  refine wp_skip ?_
  refine hK8 _ _ ?_
  refine wp_seq_k fun K9 hK9 => ?_
  refine wp_block ?_
  refine wp_seq_k fun K10 hK10 => ?_
  refine Qab ?_
  refine Qaa (.int .i64 0) 9 rfl kj kj ?_
  refine Qaa (.int .u64 (nth Qam 0)) 10 rfl kj (Qaz 130 _ _ .i64 .u64 (Qam) 0 8 77 (nth Qam 0) rfl kj kj kj kj kj (show Qam.length = 8 from rfl) (by decide) rfl) ?_
  refine Qaa (.int .i64 0) 2 rfl kj kj ?_
  refine Qaa (.int .u64 (nth Qam 0)) 3 rfl kj kj ?_
  refine Qac ?_
  refine hK10 _ _ ?_
  refine Qab ?_
  refine Qaa (.pointer (some ⟨g4, 0, none⟩)) 11 rfl kj kj ?_
  refine Qaa (.int .i64 0) 12 rfl kj kj ?_
  refine Qaa (.int .u64 (nth Qam 0)) 13 rfl kj kj ?_
  refine Qaa (.int .u64 (nth Qam 0 / 4294967296)) 14 rfl kj (Qa1 .shr _ _ _ _ .u64 .u64 _ _ _ rfl kj kj (QaO _ _ _ _ _ _ (by decide) (Qee _))) ?_
  refine Qaa (.int .u32 (wv S0.a)) 15 rfl kj (Qah (u := .int .u32 (IntKind.u32.wrap (nth Qam 0 / 4294967296))) kj (congrArg (Value.int .u32) (show IntKind.u32.wrap (nth Qam 0 / 4294967296) = wv S0.a by decide +kernel))) ?_
  refine Qaa (.pointer (some ⟨g4, 0, none⟩)) 16 rfl kj kj ?_
  refine Qaa (.pointer (some ⟨g4, 0, none⟩)) 17 rfl kj kj ?_
  refine Qaa (.pointer (some ⟨g4, 0, none⟩)) 18 rfl kj kj ?_
  refine Qaj g4 _ (cat [ints .u32 ([(wv S0.a), 0, 0, 0, 0, 0, 0, 0]), ints .u8 (List.replicate 64 0), #[.int .i64 0]]) 129 r4_1 rfl kj (QaJ 113 _ _ g4 0 129 [] [ints .u8 (List.replicate 64 0), #[.int .i64 0]] ([0, 0, 0, 0, 0, 0, 0, 0]) 0 0 _ r4_1 rfl kj kj kj kj rfl (Nat.lt_of_lt_of_eq (show 0 < 8 by decide) rfl.symm)) fun W2 p2 r4_2 => ?_
  have x2 : Ext w W2 := Puts.ext p2 x1 b4
  refine Qac ?_
  refine hK9 _ _ ?_
  refine Qab ?_
  refine Qaa (.int .i64 1) 19 rfl kj kj ?_
  refine Qaa (.int .i64 1) 7 rfl kj kj ?_
  refine Qac ?_
  show Code.rounds _ _ _ 8 _ _
  show Code.wp _ _ (Exit.then (Code.rounds _ _ _ 7) _) _ _
  refine wp_seq_k fun K11 hK11 => ?_
  refine Qab ?_
  refine Qaa (.bool true) 8 rfl kj kj ?_
  refine Qac ?_
  refine hK11 _ _ ?_
  refine wp_seq_k fun K12 hK12 => ?_
  refine cond_true kj ?_
  refine wp_skip ?_
  refine hK12 _ _ ?_
  refine wp_seq_k fun K13 hK13 => ?_
  refine wp_block ?_
  refine wp_seq_k fun K14 hK14 => ?_
  refine Qab ?_
  refine Qaa (.int .i64 1) 9 rfl kj kj ?_
  refine Qaa (.int .u64 (nth Qam 1)) 10 rfl kj (Qaz 130 _ _ .i64 .u64 (Qam) 1 8 77 (nth Qam 1) rfl kj kj kj kj kj (show Qam.length = 8 from rfl) (by decide) rfl) ?_
  refine Qaa (.int .i64 1) 2 rfl kj kj ?_
  refine Qaa (.int .u64 (nth Qam 1)) 3 rfl kj kj ?_
  refine Qac ?_
  refine hK14 _ _ ?_
  refine Qab ?_
  refine Qaa (.pointer (some ⟨g4, 0, none⟩)) 11 rfl kj kj ?_
  refine Qaa (.int .i64 1) 12 rfl kj kj ?_
  refine Qaa (.int .u64 (nth Qam 1)) 13 rfl kj kj ?_
  refine Qaa (.int .u64 (nth Qam 1 / 4294967296)) 14 rfl kj (Qa1 .shr _ _ _ _ .u64 .u64 _ _ _ rfl kj kj (QaO _ _ _ _ _ _ (by decide) (Qee _))) ?_
  refine Qaa (.int .u32 (wv S0.b)) 15 rfl kj (Qah (u := .int .u32 (IntKind.u32.wrap (nth Qam 1 / 4294967296))) kj (congrArg (Value.int .u32) (show IntKind.u32.wrap (nth Qam 1 / 4294967296) = wv S0.b by decide +kernel))) ?_
  refine Qaa (.pointer (some ⟨g4, 0, none⟩)) 16 rfl kj kj ?_
  refine Qaa (.pointer (some ⟨g4, 0, none⟩)) 17 rfl kj kj ?_
  refine Qaa (.pointer (some ⟨g4, 1, none⟩)) 18 rfl kj kj ?_
  refine Qaj g4 _ (cat [ints .u32 ([(wv S0.a), (wv S0.b), 0, 0, 0, 0, 0, 0]), ints .u8 (List.replicate 64 0), #[.int .i64 0]]) 129 r4_2 rfl kj (QaJ 113 _ _ g4 1 129 [] [ints .u8 (List.replicate 64 0), #[.int .i64 0]] ([(wv S0.a), 0, 0, 0, 0, 0, 0, 0]) 0 1 _ r4_2 rfl kj kj kj kj rfl (Nat.lt_of_lt_of_eq (show 1 < 8 by decide) rfl.symm)) fun W3 p3 r4_3 => ?_
  have x3 : Ext w W3 := Puts.ext p3 x2 b4
  refine Qac ?_
  refine hK13 _ _ ?_
  refine Qab ?_
  refine Qaa (.int .i64 2) 19 rfl kj kj ?_
  refine Qaa (.int .i64 2) 7 rfl kj kj ?_
  refine Qac ?_
  show Code.rounds _ _ _ 7 _ _
  show Code.wp _ _ (Exit.then (Code.rounds _ _ _ 6) _) _ _
  refine wp_seq_k fun K15 hK15 => ?_
  refine Qab ?_
  refine Qaa (.bool true) 8 rfl kj kj ?_
  refine Qac ?_
  refine hK15 _ _ ?_
  refine wp_seq_k fun K16 hK16 => ?_
  refine cond_true kj ?_
  refine wp_skip ?_
  refine hK16 _ _ ?_
  refine wp_seq_k fun K17 hK17 => ?_
  refine wp_block ?_
  refine wp_seq_k fun K18 hK18 => ?_
  refine Qab ?_
  refine Qaa (.int .i64 2) 9 rfl kj kj ?_
  refine Qaa (.int .u64 (nth Qam 2)) 10 rfl kj (Qaz 130 _ _ .i64 .u64 (Qam) 2 8 77 (nth Qam 2) rfl kj kj kj kj kj (show Qam.length = 8 from rfl) (by decide) rfl) ?_
  refine Qaa (.int .i64 2) 2 rfl kj kj ?_
  refine Qaa (.int .u64 (nth Qam 2)) 3 rfl kj kj ?_
  refine Qac ?_
  refine hK18 _ _ ?_
  refine Qab ?_
  refine Qaa (.pointer (some ⟨g4, 0, none⟩)) 11 rfl kj kj ?_
  refine Qaa (.int .i64 2) 12 rfl kj kj ?_
  refine Qaa (.int .u64 (nth Qam 2)) 13 rfl kj kj ?_
  refine Qaa (.int .u64 (nth Qam 2 / 4294967296)) 14 rfl kj (Qa1 .shr _ _ _ _ .u64 .u64 _ _ _ rfl kj kj (QaO _ _ _ _ _ _ (by decide) (Qee _))) ?_
  refine Qaa (.int .u32 (wv S0.c)) 15 rfl kj (Qah (u := .int .u32 (IntKind.u32.wrap (nth Qam 2 / 4294967296))) kj (congrArg (Value.int .u32) (show IntKind.u32.wrap (nth Qam 2 / 4294967296) = wv S0.c by decide +kernel))) ?_
  refine Qaa (.pointer (some ⟨g4, 0, none⟩)) 16 rfl kj kj ?_
  refine Qaa (.pointer (some ⟨g4, 0, none⟩)) 17 rfl kj kj ?_
  refine Qaa (.pointer (some ⟨g4, 2, none⟩)) 18 rfl kj kj ?_
  refine Qaj g4 _ (cat [ints .u32 ([(wv S0.a), (wv S0.b), (wv S0.c), 0, 0, 0, 0, 0]), ints .u8 (List.replicate 64 0), #[.int .i64 0]]) 129 r4_3 rfl kj (QaJ 113 _ _ g4 2 129 [] [ints .u8 (List.replicate 64 0), #[.int .i64 0]] ([(wv S0.a), (wv S0.b), 0, 0, 0, 0, 0, 0]) 0 2 _ r4_3 rfl kj kj kj kj rfl (Nat.lt_of_lt_of_eq (show 2 < 8 by decide) rfl.symm)) fun W4 p4 r4_4 => ?_
  have x4 : Ext w W4 := Puts.ext p4 x3 b4
  refine Qac ?_
  refine hK17 _ _ ?_
  refine Qab ?_
  refine Qaa (.int .i64 3) 19 rfl kj kj ?_
  refine Qaa (.int .i64 3) 7 rfl kj kj ?_
  refine Qac ?_
  show Code.rounds _ _ _ 6 _ _
  show Code.wp _ _ (Exit.then (Code.rounds _ _ _ 5) _) _ _
  refine wp_seq_k fun K19 hK19 => ?_
  refine Qab ?_
  refine Qaa (.bool true) 8 rfl kj kj ?_
  refine Qac ?_
  refine hK19 _ _ ?_
  refine wp_seq_k fun K20 hK20 => ?_
  refine cond_true kj ?_
  refine wp_skip ?_
  refine hK20 _ _ ?_
  refine wp_seq_k fun K21 hK21 => ?_
  refine wp_block ?_
  refine wp_seq_k fun K22 hK22 => ?_
  refine Qab ?_
  refine Qaa (.int .i64 3) 9 rfl kj kj ?_
  refine Qaa (.int .u64 (nth Qam 3)) 10 rfl kj (Qaz 130 _ _ .i64 .u64 (Qam) 3 8 77 (nth Qam 3) rfl kj kj kj kj kj (show Qam.length = 8 from rfl) (by decide) rfl) ?_
  refine Qaa (.int .i64 3) 2 rfl kj kj ?_
  refine Qaa (.int .u64 (nth Qam 3)) 3 rfl kj kj ?_
  refine Qac ?_
  refine hK22 _ _ ?_
  refine Qab ?_
  refine Qaa (.pointer (some ⟨g4, 0, none⟩)) 11 rfl kj kj ?_
  refine Qaa (.int .i64 3) 12 rfl kj kj ?_
  refine Qaa (.int .u64 (nth Qam 3)) 13 rfl kj kj ?_
  refine Qaa (.int .u64 (nth Qam 3 / 4294967296)) 14 rfl kj (Qa1 .shr _ _ _ _ .u64 .u64 _ _ _ rfl kj kj (QaO _ _ _ _ _ _ (by decide) (Qee _))) ?_
  refine Qaa (.int .u32 (wv S0.d)) 15 rfl kj (Qah (u := .int .u32 (IntKind.u32.wrap (nth Qam 3 / 4294967296))) kj (congrArg (Value.int .u32) (show IntKind.u32.wrap (nth Qam 3 / 4294967296) = wv S0.d by decide +kernel))) ?_
  refine Qaa (.pointer (some ⟨g4, 0, none⟩)) 16 rfl kj kj ?_
  refine Qaa (.pointer (some ⟨g4, 0, none⟩)) 17 rfl kj kj ?_
  refine Qaa (.pointer (some ⟨g4, 3, none⟩)) 18 rfl kj kj ?_
  refine Qaj g4 _ (cat [ints .u32 ([(wv S0.a), (wv S0.b), (wv S0.c), (wv S0.d), 0, 0, 0, 0]), ints .u8 (List.replicate 64 0), #[.int .i64 0]]) 129 r4_4 rfl kj (QaJ 113 _ _ g4 3 129 [] [ints .u8 (List.replicate 64 0), #[.int .i64 0]] ([(wv S0.a), (wv S0.b), (wv S0.c), 0, 0, 0, 0, 0]) 0 3 _ r4_4 rfl kj kj kj kj rfl (Nat.lt_of_lt_of_eq (show 3 < 8 by decide) rfl.symm)) fun W5 p5 r4_5 => ?_
  have x5 : Ext w W5 := Puts.ext p5 x4 b4
  refine Qac ?_
  refine hK21 _ _ ?_
  refine Qab ?_
  refine Qaa (.int .i64 4) 19 rfl kj kj ?_
  refine Qaa (.int .i64 4) 7 rfl kj kj ?_
  refine Qac ?_
  show Code.rounds _ _ _ 5 _ _
  show Code.wp _ _ (Exit.then (Code.rounds _ _ _ 4) _) _ _
  refine wp_seq_k fun K23 hK23 => ?_
  refine Qab ?_
  refine Qaa (.bool true) 8 rfl kj kj ?_
  refine Qac ?_
  refine hK23 _ _ ?_
  refine wp_seq_k fun K24 hK24 => ?_
  refine cond_true kj ?_
  refine wp_skip ?_
  refine hK24 _ _ ?_
  refine wp_seq_k fun K25 hK25 => ?_
  refine wp_block ?_
  refine wp_seq_k fun K26 hK26 => ?_
  refine Qab ?_
  refine Qaa (.int .i64 4) 9 rfl kj kj ?_
  refine Qaa (.int .u64 (nth Qam 4)) 10 rfl kj (Qaz 130 _ _ .i64 .u64 (Qam) 4 8 77 (nth Qam 4) rfl kj kj kj kj kj (show Qam.length = 8 from rfl) (by decide) rfl) ?_
  refine Qaa (.int .i64 4) 2 rfl kj kj ?_
  refine Qaa (.int .u64 (nth Qam 4)) 3 rfl kj kj ?_
  refine Qac ?_
  refine hK26 _ _ ?_
  refine Qab ?_
  refine Qaa (.pointer (some ⟨g4, 0, none⟩)) 11 rfl kj kj ?_
  refine Qaa (.int .i64 4) 12 rfl kj kj ?_
  refine Qaa (.int .u64 (nth Qam 4)) 13 rfl kj kj ?_
  refine Qaa (.int .u64 (nth Qam 4 / 4294967296)) 14 rfl kj (Qa1 .shr _ _ _ _ .u64 .u64 _ _ _ rfl kj kj (QaO _ _ _ _ _ _ (by decide) (Qee _))) ?_
  refine Qaa (.int .u32 (wv S0.e)) 15 rfl kj (Qah (u := .int .u32 (IntKind.u32.wrap (nth Qam 4 / 4294967296))) kj (congrArg (Value.int .u32) (show IntKind.u32.wrap (nth Qam 4 / 4294967296) = wv S0.e by decide +kernel))) ?_
  refine Qaa (.pointer (some ⟨g4, 0, none⟩)) 16 rfl kj kj ?_
  refine Qaa (.pointer (some ⟨g4, 0, none⟩)) 17 rfl kj kj ?_
  refine Qaa (.pointer (some ⟨g4, 4, none⟩)) 18 rfl kj kj ?_
  refine Qaj g4 _ (cat [ints .u32 ([(wv S0.a), (wv S0.b), (wv S0.c), (wv S0.d), (wv S0.e), 0, 0, 0]), ints .u8 (List.replicate 64 0), #[.int .i64 0]]) 129 r4_5 rfl kj (QaJ 113 _ _ g4 4 129 [] [ints .u8 (List.replicate 64 0), #[.int .i64 0]] ([(wv S0.a), (wv S0.b), (wv S0.c), (wv S0.d), 0, 0, 0, 0]) 0 4 _ r4_5 rfl kj kj kj kj rfl (Nat.lt_of_lt_of_eq (show 4 < 8 by decide) rfl.symm)) fun W6 p6 r4_6 => ?_
  have x6 : Ext w W6 := Puts.ext p6 x5 b4
  refine Qac ?_
  refine hK25 _ _ ?_
  refine Qab ?_
  refine Qaa (.int .i64 5) 19 rfl kj kj ?_
  refine Qaa (.int .i64 5) 7 rfl kj kj ?_
  refine Qac ?_
  show Code.rounds _ _ _ 4 _ _
  show Code.wp _ _ (Exit.then (Code.rounds _ _ _ 3) _) _ _
  refine wp_seq_k fun K27 hK27 => ?_
  refine Qab ?_
  refine Qaa (.bool true) 8 rfl kj kj ?_
  refine Qac ?_
  refine hK27 _ _ ?_
  refine wp_seq_k fun K28 hK28 => ?_
  refine cond_true kj ?_
  refine wp_skip ?_
  refine hK28 _ _ ?_
  refine wp_seq_k fun K29 hK29 => ?_
  refine wp_block ?_
  refine wp_seq_k fun K30 hK30 => ?_
  refine Qab ?_
  refine Qaa (.int .i64 5) 9 rfl kj kj ?_
  refine Qaa (.int .u64 (nth Qam 5)) 10 rfl kj (Qaz 130 _ _ .i64 .u64 (Qam) 5 8 77 (nth Qam 5) rfl kj kj kj kj kj (show Qam.length = 8 from rfl) (by decide) rfl) ?_
  refine Qaa (.int .i64 5) 2 rfl kj kj ?_
  refine Qaa (.int .u64 (nth Qam 5)) 3 rfl kj kj ?_
  refine Qac ?_
  refine hK30 _ _ ?_
  refine Qab ?_
  refine Qaa (.pointer (some ⟨g4, 0, none⟩)) 11 rfl kj kj ?_
  refine Qaa (.int .i64 5) 12 rfl kj kj ?_
  refine Qaa (.int .u64 (nth Qam 5)) 13 rfl kj kj ?_
  refine Qaa (.int .u64 (nth Qam 5 / 4294967296)) 14 rfl kj (Qa1 .shr _ _ _ _ .u64 .u64 _ _ _ rfl kj kj (QaO _ _ _ _ _ _ (by decide) (Qee _))) ?_
  refine Qaa (.int .u32 (wv S0.f)) 15 rfl kj (Qah (u := .int .u32 (IntKind.u32.wrap (nth Qam 5 / 4294967296))) kj (congrArg (Value.int .u32) (show IntKind.u32.wrap (nth Qam 5 / 4294967296) = wv S0.f by decide +kernel))) ?_
  refine Qaa (.pointer (some ⟨g4, 0, none⟩)) 16 rfl kj kj ?_
  refine Qaa (.pointer (some ⟨g4, 0, none⟩)) 17 rfl kj kj ?_
  refine Qaa (.pointer (some ⟨g4, 5, none⟩)) 18 rfl kj kj ?_
  refine Qaj g4 _ (cat [ints .u32 ([(wv S0.a), (wv S0.b), (wv S0.c), (wv S0.d), (wv S0.e), (wv S0.f), 0, 0]), ints .u8 (List.replicate 64 0), #[.int .i64 0]]) 129 r4_6 rfl kj (QaJ 113 _ _ g4 5 129 [] [ints .u8 (List.replicate 64 0), #[.int .i64 0]] ([(wv S0.a), (wv S0.b), (wv S0.c), (wv S0.d), (wv S0.e), 0, 0, 0]) 0 5 _ r4_6 rfl kj kj kj kj rfl (Nat.lt_of_lt_of_eq (show 5 < 8 by decide) rfl.symm)) fun W7 p7 r4_7 => ?_
  have x7 : Ext w W7 := Puts.ext p7 x6 b4
  refine Qac ?_
  refine hK29 _ _ ?_
  refine Qab ?_
  refine Qaa (.int .i64 6) 19 rfl kj kj ?_
  refine Qaa (.int .i64 6) 7 rfl kj kj ?_
  refine Qac ?_
  show Code.rounds _ _ _ 3 _ _
  show Code.wp _ _ (Exit.then (Code.rounds _ _ _ 2) _) _ _
  refine wp_seq_k fun K31 hK31 => ?_
  refine Qab ?_
  refine Qaa (.bool true) 8 rfl kj kj ?_
  refine Qac ?_
  refine hK31 _ _ ?_
  refine wp_seq_k fun K32 hK32 => ?_
  refine cond_true kj ?_
  refine wp_skip ?_
  refine hK32 _ _ ?_
  refine wp_seq_k fun K33 hK33 => ?_
  refine wp_block ?_
  refine wp_seq_k fun K34 hK34 => ?_
  refine Qab ?_
  refine Qaa (.int .i64 6) 9 rfl kj kj ?_
  refine Qaa (.int .u64 (nth Qam 6)) 10 rfl kj (Qaz 130 _ _ .i64 .u64 (Qam) 6 8 77 (nth Qam 6) rfl kj kj kj kj kj (show Qam.length = 8 from rfl) (by decide) rfl) ?_
  refine Qaa (.int .i64 6) 2 rfl kj kj ?_
  refine Qaa (.int .u64 (nth Qam 6)) 3 rfl kj kj ?_
  refine Qac ?_
  refine hK34 _ _ ?_
  refine Qab ?_
  refine Qaa (.pointer (some ⟨g4, 0, none⟩)) 11 rfl kj kj ?_
  refine Qaa (.int .i64 6) 12 rfl kj kj ?_
  refine Qaa (.int .u64 (nth Qam 6)) 13 rfl kj kj ?_
  refine Qaa (.int .u64 (nth Qam 6 / 4294967296)) 14 rfl kj (Qa1 .shr _ _ _ _ .u64 .u64 _ _ _ rfl kj kj (QaO _ _ _ _ _ _ (by decide) (Qee _))) ?_
  refine Qaa (.int .u32 (wv S0.g)) 15 rfl kj (Qah (u := .int .u32 (IntKind.u32.wrap (nth Qam 6 / 4294967296))) kj (congrArg (Value.int .u32) (show IntKind.u32.wrap (nth Qam 6 / 4294967296) = wv S0.g by decide +kernel))) ?_
  refine Qaa (.pointer (some ⟨g4, 0, none⟩)) 16 rfl kj kj ?_
  refine Qaa (.pointer (some ⟨g4, 0, none⟩)) 17 rfl kj kj ?_
  refine Qaa (.pointer (some ⟨g4, 6, none⟩)) 18 rfl kj kj ?_
  refine Qaj g4 _ (cat [ints .u32 ([(wv S0.a), (wv S0.b), (wv S0.c), (wv S0.d), (wv S0.e), (wv S0.f), (wv S0.g), 0]), ints .u8 (List.replicate 64 0), #[.int .i64 0]]) 129 r4_7 rfl kj (QaJ 113 _ _ g4 6 129 [] [ints .u8 (List.replicate 64 0), #[.int .i64 0]] ([(wv S0.a), (wv S0.b), (wv S0.c), (wv S0.d), (wv S0.e), (wv S0.f), 0, 0]) 0 6 _ r4_7 rfl kj kj kj kj rfl (Nat.lt_of_lt_of_eq (show 6 < 8 by decide) rfl.symm)) fun W8 p8 r4_8 => ?_
  have x8 : Ext w W8 := Puts.ext p8 x7 b4
  refine Qac ?_
  refine hK33 _ _ ?_
  refine Qab ?_
  refine Qaa (.int .i64 7) 19 rfl kj kj ?_
  refine Qaa (.int .i64 7) 7 rfl kj kj ?_
  refine Qac ?_
  show Code.rounds _ _ _ 2 _ _
  show Code.wp _ _ (Exit.then (Code.rounds _ _ _ 1) _) _ _
  refine wp_seq_k fun K35 hK35 => ?_
  refine Qab ?_
  refine Qaa (.bool true) 8 rfl kj kj ?_
  refine Qac ?_
  refine hK35 _ _ ?_
  refine wp_seq_k fun K36 hK36 => ?_
  refine cond_true kj ?_
  refine wp_skip ?_
  refine hK36 _ _ ?_
  refine wp_seq_k fun K37 hK37 => ?_
  refine wp_block ?_
  refine wp_seq_k fun K38 hK38 => ?_
  refine Qab ?_
  refine Qaa (.int .i64 7) 9 rfl kj kj ?_
  refine Qaa (.int .u64 (nth Qam 7)) 10 rfl kj (Qaz 130 _ _ .i64 .u64 (Qam) 7 8 77 (nth Qam 7) rfl kj kj kj kj kj (show Qam.length = 8 from rfl) (by decide) rfl) ?_
  refine Qaa (.int .i64 7) 2 rfl kj kj ?_
  refine Qaa (.int .u64 (nth Qam 7)) 3 rfl kj kj ?_
  refine Qac ?_
  refine hK38 _ _ ?_
  refine Qab ?_
  refine Qaa (.pointer (some ⟨g4, 0, none⟩)) 11 rfl kj kj ?_
  refine Qaa (.int .i64 7) 12 rfl kj kj ?_
  refine Qaa (.int .u64 (nth Qam 7)) 13 rfl kj kj ?_
  refine Qaa (.int .u64 (nth Qam 7 / 4294967296)) 14 rfl kj (Qa1 .shr _ _ _ _ .u64 .u64 _ _ _ rfl kj kj (QaO _ _ _ _ _ _ (by decide) (Qee _))) ?_
  refine Qaa (.int .u32 (wv S0.h)) 15 rfl kj (Qah (u := .int .u32 (IntKind.u32.wrap (nth Qam 7 / 4294967296))) kj (congrArg (Value.int .u32) (show IntKind.u32.wrap (nth Qam 7 / 4294967296) = wv S0.h by decide +kernel))) ?_
  refine Qaa (.pointer (some ⟨g4, 0, none⟩)) 16 rfl kj kj ?_
  refine Qaa (.pointer (some ⟨g4, 0, none⟩)) 17 rfl kj kj ?_
  refine Qaa (.pointer (some ⟨g4, 7, none⟩)) 18 rfl kj kj ?_
  refine Qaj g4 _ (cat [ints .u32 ([(wv S0.a), (wv S0.b), (wv S0.c), (wv S0.d), (wv S0.e), (wv S0.f), (wv S0.g), (wv S0.h)]), ints .u8 (List.replicate 64 0), #[.int .i64 0]]) 129 r4_8 rfl kj (QaJ 113 _ _ g4 7 129 [] [ints .u8 (List.replicate 64 0), #[.int .i64 0]] ([(wv S0.a), (wv S0.b), (wv S0.c), (wv S0.d), (wv S0.e), (wv S0.f), (wv S0.g), 0]) 0 7 _ r4_8 rfl kj kj kj kj rfl (Nat.lt_of_lt_of_eq (show 7 < 8 by decide) rfl.symm)) fun W9 p9 r4_9 => ?_
  have x9 : Ext w W9 := Puts.ext p9 x8 b4
  refine Qac ?_
  refine hK37 _ _ ?_
  refine Qab ?_
  refine Qaa (.int .i64 8) 19 rfl kj kj ?_
  refine Qaa (.int .i64 8) 7 rfl kj kj ?_
  refine Qac ?_
  show Code.rounds _ _ _ 1 _ _
  show Code.wp _ _ (Exit.then (Code.rounds _ _ _ 0) _) _ _
  refine wp_seq_k fun K39 hK39 => ?_
  refine Qab ?_
  refine Qaa (.bool false) 8 rfl kj kj ?_
  refine Qac ?_
  refine hK39 _ _ ?_
  refine wp_seq_k fun K40 hK40 => ?_
  refine cond_false kj ?_
  refine wp_exit ?_
  refine hK5 _ _ ?_
  refine wp_seq_k fun K41 hK41 => ?_
  refine Qab ?_
  refine Qaa (.pointer (some ⟨g4, 0, none⟩)) 20 rfl kj kj ?_
  refine Qaa (.pointer (some ⟨g4, 0, none⟩)) 0 rfl kj kj ?_
  refine Qac ?_
  refine hK41 _ _ ?_
  refine wp_ret ?_
  repeat (first | with_reducible refine goR1 ?_ | with_reducible refine goR2 ?_)
  exact (show bodyPost _ _ _ .ret _ _ from ret1 (.pointer (some ⟨g4, 0, none⟩)) rfl (Qa9 kj) ⟨_, rfl, x9, _, rfl, b4, List.replicate 64 0, List.length_replicate, QdH 64, rfl, Nat.zero_le _, r4_9⟩)
end Go.Proofs.YtibegnjaphohaaaDoor.Sha
end
section
namespace Go.Proofs.YtibegnjaphohaaaDoor.Sha
open Go Go.RowKit
open Rely Auto Own
set_option linter.unusedVariables false
set_option linter.unusedSimpArgs false
theorem QiU (x : Int) : IntKind.u8.wrap x = x % 256 := by
  have : IntKind.u8.wrap x = x % 2 ^ 8 := rfl
  rw [this]; rfl
theorem QaP (x : Wd) (n d : Nat) (h : 2 ^ n = d) : IntKind.u8.wrap (wv (x >>> n)) = ((x.toNat / d % 256 : Nat) : Int) := by
  subst h
  rw [QiU]; unfold wv; rw [BitVec.toNat_ushiftRight, Nat.shiftRight_eq_div_pow]; omega
theorem QeU (n : Nat) : Qao (Qdo n) := fun x hx => by
  unfold Qdo at hx
  rcases List.mem_cons.1 hx with h | h
  · omega
  · rcases List.mem_append.1 h with h | h
    · exact QdH _ x h
    · simp only [be8, List.mem_cons, List.not_mem_nil, or_false] at h
      rcases h with h | h | h | h | h | h | h | h <;> omega
set_option maxHeartbeats 8000000 in
theorem sumC (g : Nat) (t : List Int) (tc : TypeId) (w : World) (hc : w.heap[2]? = some (.cells (ints .u64 QaD) tc)) (hlen : t.length ≤ 900000000) (hd : HasD g t w) : Calls Tryd.prog 72 #[.pointer (some ⟨g, 0, none⟩)] w (Ret w (.agg (ints .u8 (dig t)))) := by
  obtain ⟨b, hbl, hbb, hbp, hmany, hrow⟩ := hd
  obtain ⟨s, hs⟩ : ∃ z, z = absorb S0 t (t.length / 64) := ⟨_, rfl⟩
  rw [← hs] at hrow
  replace hrow : w.heap[g]? = some (.cells (cat [ints .u32 ([wv s.a, wv s.b, wv s.c, wv s.d, wv s.e, wv s.f, wv s.g, wv s.h]), ints .u8 (b), #[.int .i64 ((t.length : Nat) : Int)]]) 129) := hrow
  refine enter 43 [(0, .pointer (some ⟨g, 0, none⟩))] Tryd.func72 rfl rfl kj rfl ?_
  refine wp_seq_k fun K3 hK3 => ?_
  refine Qab ?_
  refine Qas (ints .u8 ([0, 0, 0, 0, 0, 0, 0, 0, 0, 0, 0, 0, 0, 0, 0, 0, 0, 0, 0, 0, 0, 0, 0, 0, 0, 0, 0, 0, 0, 0, 0, 0])) 23 2 rfl kj kj fun g4 W1 l4 e1 r4_1 => ?_
  have x1 : Ext w W1 := Ext.tr (Rely.Ext.refl w) e1
  have b4 : w.heap.size ≤ g4 := Nat.le_trans (Rely.Ext.refl w).size l4
  refine Qac ?_
  refine hK3 _ _ ?_
  refine wp_seq_k fun K5 hK5 => ?_
  refine Qab ?_
  refine Qas (ints .u8 ([0, 0, 0, 0, 0, 0, 0, 0, 0, 0, 0, 0, 0, 0, 0, 0, 0, 0, 0, 0, 0, 0, 0, 0, 0, 0, 0, 0, 0, 0, 0, 0])) 23 3 rfl kj kj fun g6 W2 l6 e2 r6_2 => ?_
  have x2 : Ext w W2 := Ext.tr x1 e2
  have b6 : w.heap.size ≤ g6 := Nat.le_trans x1.size l6
  refine Qac ?_
  refine hK5 _ _ ?_
  refine wp_seq_k fun K7 hK7 => ?_
  refine wp_seq_k fun K8 hK8 => ?_
  refine Qab ?_
  refine Qaa (.pointer (some ⟨g, 0, none⟩)) 8 rfl kj kj ?_
  refine Qaa (.bool false) 9 rfl kj kj ?_
  refine Qac ?_
  refine hK8 _ _ ?_
  refine cond_false kj ?_
  refine wp_skip ?_
  refine hK7 _ _ ?_
  refine wp_seq_k fun K9 hK9 => ?_
  refine Qab ?_
  refine Qaa (.pointer (some ⟨g, 0, none⟩)) 11 rfl kj kj ?_
  refine Qaa (.pointer (some ⟨g, 0, none⟩)) 12 rfl kj kj ?_
  have r2_1 := (Qad hrow e1)
  have r2_2 := (Qad r2_1 e2)
  refine Qaa (.agg (cat [ints .u32 ([wv s.a, wv s.b, wv s.c, wv s.d, wv s.e, wv s.f, wv s.g, wv s.h]), ints .u8 (b), #[.int .i64 ((t.length : Nat) : Int)]])) 13 rfl kj (Qay 129 _ g 129 _ _ r2_2 rfl kj kj (isz (n := 73) kj (by rw [Qae, Qae, Qae]; simp only [Array.size_append, cat, ((Qaf _ _).trans hbl)]; rfl))) ?_
  refine Qas (cat [ints .u32 ([0, 0, 0, 0, 0, 0, 0, 0]), ints .u8 (List.replicate 64 0), #[.int .i64 0]]) 129 4 rfl kj kj fun g10 W3 l10 e3 r10_3 => ?_
  have x3 : Ext w W3 := Ext.tr x2 e3
  have b10 : w.heap.size ≤ g10 := Nat.le_trans x2.size l10
  refine Qaj g10 _ (cat [ints .u32 ([wv s.a, wv s.b, wv s.c, wv s.d, wv s.e, wv s.f, wv s.g, wv s.h]), ints .u8 (b), #[.int .i64 ((t.length : Nat) : Int)]]) 129 r10_3 rfl kj (Qap 129 _ _ g10 129 _ _ r10_3 rfl kj kj (isz (n := 73) kj (by rw [Qae, Qae, Qae]; simp only [Array.size_append, cat, ((Qaf _ _).trans hbl)]; rfl)) (eqsz (n := 73) (by rw [Qae, Qae, Qae]; simp only [Array.size_append, cat, ((Qaf _ _).trans (List.length_replicate (n := 64)))]; rfl) (by rw [Qae, Qae, Qae]; simp only [Array.size_append, cat, ((Qaf _ _).trans hbl)]; rfl)) (QaY _ (by intro a ha; simp only [List.mem_cons, List.not_mem_nil, or_false] at ha; rcases ha with rfl | rfl | rfl; exact (Qa0 _ _); exact (Qa0 _ _); exact (QaA _ rfl)))) fun W4 p4 r10_4 => ?_
  have x4 : Ext w W4 := Puts.ext p4 x3 b10
  refine Qac ?_
  refine hK9 _ _ ?_
  refine wp_seq_k fun K11 hK11 => ?_
  refine Qab ?_
  refine Qaa (.pointer (some ⟨g, 0, none⟩)) 14 rfl kj kj ?_
  refine Qaa (.pointer (some ⟨g, 0, none⟩)) 15 rfl kj kj ?_
  refine Qaa (.pointer (some ⟨g, 72, none⟩)) 16 rfl kj kj ?_
  have r2_3 := (Qad r2_2 e3)
  have r2_4 := (Puts.row p4 r2_3 (Qag r2_2 l10))
  refine Qaa (.int .i64 ((t.length : Nat) : Int)) 17 rfl kj (Qal 3 _ g 72 129 _ (.int .i64 ((t.length : Nat) : Int)) _ r2_4 rfl kj (Qat [ints .u32 ([wv s.a, wv s.b, wv s.c, wv s.d, wv s.e, wv s.f, wv s.g, wv s.h]), ints .u8 (b)] [#[.int .i64 ((t.length : Nat) : Int)]] [] 72 (by rw [Qae, Qae]; simp only [Array.size_append, cat, ((Qaf _ _).trans hbl)]; rfl) 0 _ rfl) kj) ?_
  refine Qa8 (fun v W' => (OwnN .u8 5 W4.heap.size (Qdo t.length)) v W' ∧ Ext W4 W') 75 #[.int .i64 ((t.length : Nat) : Int), .int .i64 64, .int .i64 8] 18 rfl kj kj ((Qh7 t.length (by omega) _).mono (by rintro e w' ⟨v, rfl, e1, hv⟩; exact ⟨v, rfl, hv, e1⟩)) fun vv12 W5 hh12 => ?_
  obtain ⟨hv12, e5⟩ := hh12
  have x5 : Ext w W5 := Ext.tr x4 e5
  have r10_5 := (Qad r10_4 e5)
  have r1_1 := (Qad hc e1)
  have r1_2 := (Qad r1_1 e2)
  have r1_3 := (Qad r1_2 e3)
  have r1_4 := (Puts.row p4 r1_3 (Qag r1_2 l10))
  have r1_5 := (Qad r1_4 e5)
  have hd4 : HasD g10 t W5 := ⟨b, hbl, hbb, hbp, hmany, by rw [← hs]; exact r10_5⟩
  have hp4 := hv12
  have hfl : QaK t.length < 64 := by unfold QaK; omega
  have hpl : t.length + (Qdo t.length).length ≤ 1000000000 := by rw [Qex]; omega
  refine Qa8 (fun v W' => v = .tuple #[] ∧ ExtB g10 W5 W' ∧ HasD g10 (t ++ Qdo t.length) W') 71 #[.pointer (some ⟨g10, 0, none⟩), vv12] 19 rfl kj kj ((addC g10 _ t (Qdo t.length) _ tc _ r1_5 (Qag r1_2 l10) (.inr (hp4.nb (Qar r10_4))) (QeU _) hpl hd4 (OwnN.rd hp4)).mono fun e w' h => ⟨_, h.1, rfl, h.2⟩) fun v W6 h => ?_
  obtain ⟨rfl, q6, hD5⟩ := h
  have x6 : Ext w W6 := ExtB.up x5 q6 b10
  obtain ⟨b5, hbl5, hbb5, -, -, hrow5⟩ := hD5
  obtain ⟨s5, hs5⟩ : ∃ z, z = absorb S0 (padT t) ((padT t).length / 64) := ⟨_, rfl⟩
  rw [show t ++ Qdo t.length = padT t from rfl, ← hs5] at hrow5
  replace hrow5 : W6.heap[g10]? = some (.cells (cat [ints .u32 ([wv s5.a, wv s5.b, wv s5.c, wv s5.d, wv s5.e, wv s5.f, wv s5.g, wv s5.h]), ints .u8 (b5), #[.int .i64 (((padT t).length : Nat) : Int)]]) 129) := hrow5
  refine Qac ?_
  refine hK11 _ _ ?_
  refine wp_seq_k fun K13 hK13 => ?_
  refine wp_seq_k fun K14 hK14 => ?_
  refine Qab ?_
  refine Qaa (.pointer (some ⟨g10, 0, none⟩)) 20 rfl kj kj ?_
  refine Qaa (.agg (ints .u32 ([wv s5.a, wv s5.b, wv s5.c, wv s5.d, wv s5.e, wv s5.f, wv s5.g, wv s5.h]))) 21 rfl kj (Qa3 114 _ g10 0 129 _ _ _ hrow5 rfl kj (Qat [] [ints .u32 ([wv s5.a, wv s5.b, wv s5.c, wv s5.d, wv s5.e, wv s5.f, wv s5.g, wv s5.h])] [ints .u8 (b5), #[.int .i64 (((padT t).length : Nat) : Int)]] 0 kj) kj (isz (n := 8) kj kj)) ?_
  refine Qaa (.int .i64 0) 22 rfl kj kj ?_
  refine Qac ?_
  refine hK14 _ _ ?_
  refine wp_block ?_
  refine wp_loop_rounds 9 ?_
  show Code.wp _ _ (Exit.then (Code.rounds _ _ _ 8) _) _ _
  refine wp_seq_k fun K15 hK15 => ?_
  refine Qab ?_
  refine Qaa (.bool true) 23 rfl kj kj ?_
  refine Qac ?_
  refine hK15 _ _ ?_
  refine wp_seq_k fun K16 hK16 => ?_
  refine cond_true kj ?_
  refine wp_skip ?_
  refine hK16 _ _ ?_
  refine wp_seq_k fun K17 hK17 => ?_
  refine wp_block ?_
  refine wp_seq_k fun K18 hK18 => ?_
  refine Qab ?_
  refine Qaa (.int .i64 0) 24 rfl kj kj ?_
  refine Qaa (.int .u32 (wv s5.a)) 25 rfl kj (Qaz 114 _ _ .i64 .u32 ([wv s5.a, wv s5.b, wv s5.c, wv s5.d, wv s5.e, wv s5.f, wv s5.g, wv s5.h]) 0 8 113 (wv s5.a) rfl kj kj kj kj kj rfl (by decide) rfl) ?_
  refine Qaa (.int .i64 0) 5 rfl kj kj ?_
  refine Qaa (.int .u32 (wv s5.a)) 6 rfl kj kj ?_
  refine Qac ?_
  refine hK18 _ _ ?_
  refine wp_seq_k fun K19 hK19 => ?_
  refine Qab ?_
  refine Qaa (.int .i64 0) 26 rfl kj kj ?_
  refine Qac ?_
  refine hK19 _ _ ?_
  refine wp_block ?_
  refine wp_loop_rounds 5 ?_
  show Code.wp _ _ (Exit.then (Code.rounds _ _ _ 4) _) _ _
  refine wp_seq_k fun K20 hK20 => ?_
  refine Qab ?_
  refine Qaa (.bool true) 27 rfl kj kj ?_
  refine Qac ?_
  refine hK20 _ _ ?_
  refine wp_seq_k fun K21 hK21 => ?_
  refine cond_true kj ?_
  refine wp_skip ?_
  refine hK21 _ _ ?_
  refine wp_seq_k fun K22 hK22 => ?_
  refine wp_block ?_
  refine wp_seq_k fun K23 hK23 => ?_
  refine Qab ?_
  refine Qaa (.int .i64 0) 28 rfl kj kj ?_
  refine Qaa (.int .i64 0) 7 rfl kj kj ?_
  refine Qac ?_
  refine hK23 _ _ ?_
  refine Qab ?_
  refine Qaa (.int .i64 0) 29 rfl kj kj ?_
  refine Qaa (.int .i64 0) 30 rfl kj kj ?_
  refine Qaa (.int .i64 0) 31 rfl kj kj ?_
  refine Qaa (.int .i64 0) 32 rfl kj kj ?_
  refine Qaa (.int .u32 (wv s5.a)) 33 rfl kj kj ?_
  refine Qaa (.int .i64 0) 34 rfl kj kj ?_
  refine Qaa (.int .i64 0) 35 rfl kj kj ?_
  refine Qaa (.int .i64 24) 36 rfl kj kj ?_
  refine Qaa (.int .u32 (wv ((s5.a) >>> 24))) 37 rfl kj (Qa1 .shr _ _ _ _ .u32 .i64 _ _ _ rfl kj kj (QaO _ _ _ _ _ _ (by decide) (Qbc _ _ 24 rfl (by decide)))) ?_
  refine Qaa (.int .u8 (((s5.a.toNat / 16777216 % 256 : Nat) : Int))) 38 rfl kj (Qah (u := .int .u8 (IntKind.u8.wrap (wv ((s5.a) >>> 24)))) kj (congrArg (Value.int .u8) (QaP s5.a 24 16777216 (by decide)))) ?_
  refine Qaa (.pointer (some ⟨g6, 0, none⟩)) 39 rfl kj kj ?_
  have r6_3 := (Qad r6_2 e3)
  have r6_4 := (Puts.row p4 r6_3 (Qag r6_2 l10))
  have r6_5 := (Qad r6_4 e5)
  have r6_6 := (ExtB.row q6 r6_5 (Qag r6_2 l10))
  refine Qaj g6 _ (ints .u8 ([(((s5.a.toNat / 16777216 % 256 : Nat) : Int)), 0, 0, 0, 0, 0, 0, 0, 0, 0, 0, 0, 0, 0, 0, 0, 0, 0, 0, 0, 0, 0, 0, 0, 0, 0, 0, 0, 0, 0, 0, 0])) 23 r6_6 rfl kj (Qaw 5 _ _ g6 0 23 _ _ r6_6 rfl kj kj kj (show 0 < 32 by decide)) fun W7 p7 r6_7 => ?_
  have x7 : Ext w W7 := Puts.ext p7 x6 b6
  refine Qac ?_
  refine hK22 _ _ ?_
  refine Qab ?_
  refine Qaa (.int .i64 1) 40 rfl kj kj ?_
  refine Qaa (.int .i64 1) 26 rfl kj kj ?_
  refine Qac ?_
  show Code.rounds _ _ _ 4 _ _
  show Code.wp _ _ (Exit.then (Code.rounds _ _ _ 3) _) _ _
  refine wp_seq_k fun K24 hK24 => ?_
  refine Qab ?_
  refine Qaa (.bool true) 27 rfl kj kj ?_
  refine Qac ?_
  refine hK24 _ _ ?_
  refine wp_seq_k fun K25 hK25 => ?_
  refine cond_true kj ?_
  refine wp_skip ?_
  refine hK25 _ _ ?_
  refine wp_seq_k fun K26 hK26 => ?_
  refine wp_block ?_
  refine wp_seq_k fun K27 hK27 => ?_
  refine Qab ?_
  refine Qaa (.int .i64 1) 28 rfl kj kj ?_
  refine Qaa (.int .i64 1) 7 rfl kj kj ?_
  refine Qac ?_
  refine hK27 _ _ ?_
  refine Qab ?_
  refine Qaa (.int .i64 0) 29 rfl kj kj ?_
  refine Qaa (.int .i64 0) 30 rfl kj kj ?_
  refine Qaa (.int .i64 1) 31 rfl kj kj ?_
  refine Qaa (.int .i64 1) 32 rfl kj kj ?_
  refine Qaa (.int .u32 (wv s5.a)) 33 rfl kj kj ?_
  refine Qaa (.int .i64 1) 34 rfl kj kj ?_
  refine Qaa (.int .i64 8) 35 rfl kj kj ?_
  refine Qaa (.int .i64 16) 36 rfl kj kj ?_
  refine Qaa (.int .u32 (wv ((s5.a) >>> 16))) 37 rfl kj (Qa1 .shr _ _ _ _ .u32 .i64 _ _ _ rfl kj kj (QaO _ _ _ _ _ _ (by decide) (Qbc _ _ 16 rfl (by decide)))) ?_
  refine Qaa (.int .u8 (((s5.a.toNat / 65536 % 256 : Nat) : Int))) 38 rfl kj (Qah (u := .int .u8 (IntKind.u8.wrap (wv ((s5.a) >>> 16)))) kj (congrArg (Value.int .u8) (QaP s5.a 16 65536 (by decide)))) ?_
  refine Qaa (.pointer (some ⟨g6, 1, none⟩)) 39 rfl kj kj ?_
  refine Qaj g6 _ (ints .u8 ([(((s5.a.toNat / 16777216 % 256 : Nat) : Int)), (((s5.a.toNat / 65536 % 256 : Nat) : Int)), 0, 0, 0, 0, 0, 0, 0, 0, 0, 0, 0, 0, 0, 0, 0, 0, 0, 0, 0, 0, 0, 0, 0, 0, 0, 0, 0, 0, 0, 0])) 23 r6_7 rfl kj (Qaw 5 _ _ g6 1 23 _ _ r6_7 rfl kj kj kj (show 1 < 32 by decide)) fun W8 p8 r6_8 => ?_
  have x8 : Ext w W8 := Puts.ext p8 x7 b6
  refine Qac ?_
  refine hK26 _ _ ?_
  refine Qab ?_
  refine Qaa (.int .i64 2) 40 rfl kj kj ?_
  refine Qaa (.int .i64 2) 26 rfl kj kj ?_
  refine Qac ?_
  show Code.rounds _ _ _ 3 _ _
  show Code.wp _ _ (Exit.then (Code.rounds _ _ _ 2) _) _ _
  refine wp_seq_k fun K28 hK28 => ?_
  refine Qab ?_
  refine Qaa (.bool true) 27 rfl kj kj ?_
  refine Qac ?_
  refine hK28 _ _ ?_
  refine wp_seq_k fun K29 hK29 => ?_
  refine cond_true kj ?_
  refine wp_skip ?_
  refine hK29 _ _ ?_
  refine wp_seq_k fun K30 hK30 => ?_
  refine wp_block ?_
  refine wp_seq_k fun K31 hK31 => ?_
  refine Qab ?_
  refine Qaa (.int .i64 2) 28 rfl kj kj ?_
  refine Qaa (.int .i64 2) 7 rfl kj kj ?_
  refine Qac ?_
  refine hK31 _ _ ?_
  refine Qab ?_
  refine Qaa (.int .i64 0) 29 rfl kj kj ?_
  refine Qaa (.int .i64 0) 30 rfl kj kj ?_
  refine Qaa (.int .i64 2) 31 rfl kj kj ?_
  refine Qaa (.int .i64 2) 32 rfl kj kj ?_
  refine Qaa (.int .u32 (wv s5.a)) 33 rfl kj kj ?_
  refine Qaa (.int .i64 2) 34 rfl kj kj ?_
  refine Qaa (.int .i64 16) 35 rfl kj kj ?_
  refine Qaa (.int .i64 8) 36 rfl kj kj ?_
  refine Qaa (.int .u32 (wv ((s5.a) >>> 8))) 37 rfl kj (Qa1 .shr _ _ _ _ .u32 .i64 _ _ _ rfl kj kj (QaO _ _ _ _ _ _ (by decide) (Qbc _ _ 8 rfl (by decide)))) ?_
  refine Qaa (.int .u8 (((s5.a.toNat / 256 % 256 : Nat) : Int))) 38 rfl kj (Qah (u := .int .u8 (IntKind.u8.wrap (wv ((s5.a) >>> 8)))) kj (congrArg (Value.int .u8) (QaP s5.a 8 256 (by decide)))) ?_
  refine Qaa (.pointer (some ⟨g6, 2, none⟩)) 39 rfl kj kj ?_
  refine Qaj g6 _ (ints .u8 ([(((s5.a.toNat / 16777216 % 256 : Nat) : Int)), (((s5.a.toNat / 65536 % 256 : Nat) : Int)), (((s5.a.toNat / 256 % 256 : Nat) : Int)), 0, 0, 0, 0, 0, 0, 0, 0, 0, 0, 0, 0, 0, 0, 0, 0, 0, 0, 0, 0, 0, 0, 0, 0, 0, 0, 0, 0, 0])) 23 r6_8 rfl kj (Qaw 5 _ _ g6 2 23 _ _ r6_8 rfl kj kj kj (show 2 < 32 by decide)) fun W9 p9 r6_9 => ?_
  have x9 : Ext w W9 := Puts.ext p9 x8 b6
  refine Qac ?_
  refine hK30 _ _ ?_
  refine Qab ?_
  refine Qaa (.int .i64 3) 40 rfl kj kj ?_
  refine Qaa (.int .i64 3) 26 rfl kj kj ?_
  refine Qac ?_
  show Code.rounds _ _ _ 2 _ _
  show Code.wp _ _ (Exit.then (Code.rounds _ _ _ 1) _) _ _
  refine wp_seq_k fun K32 hK32 => ?_
  refine Qab ?_
  refine Qaa (.bool true) 27 rfl kj kj ?_
  refine Qac ?_
  refine hK32 _ _ ?_
  refine wp_seq_k fun K33 hK33 => ?_
  refine cond_true kj ?_
  refine wp_skip ?_
  refine hK33 _ _ ?_
  refine wp_seq_k fun K34 hK34 => ?_
  refine wp_block ?_
  refine wp_seq_k fun K35 hK35 => ?_
  refine Qab ?_
  refine Qaa (.int .i64 3) 28 rfl kj kj ?_
  refine Qaa (.int .i64 3) 7 rfl kj kj ?_
  refine Qac ?_
  refine hK35 _ _ ?_
  refine Qab ?_
  refine Qaa (.int .i64 0) 29 rfl kj kj ?_
  refine Qaa (.int .i64 0) 30 rfl kj kj ?_
  refine Qaa (.int .i64 3) 31 rfl kj kj ?_
  refine Qaa (.int .i64 3) 32 rfl kj kj ?_
  refine Qaa (.int .u32 (wv s5.a)) 33 rfl kj kj ?_
  refine Qaa (.int .i64 3) 34 rfl kj kj ?_
  refine Qaa (.int .i64 24) 35 rfl kj kj ?_
  refine Qaa (.int .i64 0) 36 rfl kj kj ?_
  refine Qaa (.int .u32 (wv ((s5.a) >>> 0))) 37 rfl kj (Qa1 .shr _ _ _ _ .u32 .i64 _ _ _ rfl kj kj (QaO _ _ _ _ _ _ (by decide) (Qbc _ _ 0 rfl (by decide)))) ?_
  refine Qaa (.int .u8 (((s5.a.toNat / 1 % 256 : Nat) : Int))) 38 rfl kj (Qah (u := .int .u8 (IntKind.u8.wrap (wv ((s5.a) >>> 0)))) kj (congrArg (Value.int .u8) (QaP s5.a 0 1 (by decide)))) ?_
  refine Qaa (.pointer (some ⟨g6, 3, none⟩)) 39 rfl kj kj ?_
  refine Qaj g6 _ (ints .u8 ([(((s5.a.toNat / 16777216 % 256 : Nat) : Int)), (((s5.a.toNat / 65536 % 256 : Nat) : Int)), (((s5.a.toNat / 256 % 256 : Nat) : Int)), (((s5.a.toNat / 1 % 256 : Nat) : Int)), 0, 0, 0, 0, 0, 0, 0, 0, 0, 0, 0, 0, 0, 0, 0, 0, 0, 0, 0, 0, 0, 0, 0, 0, 0, 0, 0, 0])) 23 r6_9 rfl kj (Qaw 5 _ _ g6 3 23 _ _ r6_9 rfl kj kj kj (show 3 < 32 by decide)) fun W10 p10 r6_10 => ?_
  have x10 : Ext w W10 := Puts.ext p10 x9 b6
  refine Qac ?_
  refine hK34 _ _ ?_
  refine Qab ?_
  refine Qaa (.int .i64 4) 40 rfl kj kj ?_
  refine Qaa (.int .i64 4) 26 rfl kj kj ?_
  refine Qac ?_
  show Code.rounds _ _ _ 1 _ _
  show Code.wp _ _ (Exit.then (Code.rounds _ _ _ 0) _) _ _
  refine wp_seq_k fun K36 hK36 => ?_
  refine Qab ?_
  refine Qaa (.bool false) 27 rfl kj kj ?_
  refine Qac ?_
  refine hK36 _ _ ?_
  refine wp_seq_k fun K37 hK37 => ?_
  refine cond_false kj ?_
  refine wp_exit ?_
  refine hK17 _ _ ?_
  refine Qab ?_
  refine Qaa (.int .i64 1) 41 rfl kj kj ?_
  refine Qaa (.int .i64 1) 22 rfl kj kj ?_
  refine Qac ?_
  show Code.rounds _ _ _ 8 _ _
  show Code.wp _ _ (Exit.then (Code.rounds _ _ _ 7) _) _ _
  refine wp_seq_k fun K38 hK38 => ?_
  refine Qab ?_
  refine Qaa (.bool true) 23 rfl kj kj ?_
  refine Qac ?_
  refine hK38 _ _ ?_
  refine wp_seq_k fun K39 hK39 => ?_
  refine cond_true kj ?_
  refine wp_skip ?_
  refine hK39 _ _ ?_
  refine wp_seq_k fun K40 hK40 => ?_
  refine wp_block ?_
  refine wp_seq_k fun K41 hK41 => ?_
  refine Qab ?_
  refine Qaa (.int .i64 1) 24 rfl kj kj ?_
  refine Qaa (.int .u32 (wv s5.b)) 25 rfl kj (Qaz 114 _ _ .i64 .u32 ([wv s5.a, wv s5.b, wv s5.c, wv s5.d, wv s5.e, wv s5.f, wv s5.g, wv s5.h]) 1 8 113 (wv s5.b) rfl kj kj kj kj kj rfl (by decide) rfl) ?_
  refine Qaa (.int .i64 1) 5 rfl kj kj ?_
  refine Qaa (.int .u32 (wv s5.b)) 6 rfl kj kj ?_
  refine Qac ?_
  refine hK41 _ _ ?_
  refine wp_seq_k fun K42 hK42 => ?_
  refine Qab ?_
  refine Qaa (.int .i64 0) 26 rfl kj kj ?_
  refine Qac ?_
  refine hK42 _ _ ?_
  refine wp_block ?_
  refine wp_loop_rounds 5 ?_
  show Code.wp _ _ (Exit.then (Code.rounds _ _ _ 4) _) _ _
  refine wp_seq_k fun K43 hK43 => ?_
  refine Qab ?_
  refine Qaa (.bool true) 27 rfl kj kj ?_
  refine Qac ?_
  refine hK43 _ _ ?_
  refine wp_seq_k fun K44 hK44 => ?_
  refine cond_true kj ?_
  refine wp_skip ?_
  refine hK44 _ _ ?_
  refine wp_seq_k fun K45 hK45 => ?_
  refine wp_block ?_
  refine wp_seq_k fun K46 hK46 => ?_
  refine Qab ?_
  refine Qaa (.int .i64 0) 28 rfl kj kj ?_
  refine Qaa (.int .i64 0) 7 rfl kj kj ?_
  refine Qac ?_
  refine hK46 _ _ ?_
  refine Qab ?_
  refine Qaa (.int .i64 1) 29 rfl kj kj ?_
  refine Qaa (.int .i64 4) 30 rfl kj kj ?_
  refine Qaa (.int .i64 0) 31 rfl kj kj ?_
  refine Qaa (.int .i64 4) 32 rfl kj kj ?_
  refine Qaa (.int .u32 (wv s5.b)) 33 rfl kj kj ?_
  refine Qaa (.int .i64 0) 34 rfl kj kj ?_
  refine Qaa (.int .i64 0) 35 rfl kj kj ?_
  refine Qaa (.int .i64 24) 36 rfl kj kj ?_
  refine Qaa (.int .u32 (wv ((s5.b) >>> 24))) 37 rfl kj (Qa1 .shr _ _ _ _ .u32 .i64 _ _ _ rfl kj kj (QaO _ _ _ _ _ _ (by decide) (Qbc _ _ 24 rfl (by decide)))) ?_
  refine Qaa (.int .u8 (((s5.b.toNat / 16777216 % 256 : Nat) : Int))) 38 rfl kj (Qah (u := .int .u8 (IntKind.u8.wrap (wv ((s5.b) >>> 24)))) kj (congrArg (Value.int .u8) (QaP s5.b 24 16777216 (by decide)))) ?_
  refine Qaa (.pointer (some ⟨g6, 4, none⟩)) 39 rfl kj kj ?_
  refine Qaj g6 _ (ints .u8 ([(((s5.a.toNat / 16777216 % 256 : Nat) : Int)), (((s5.a.toNat / 65536 % 256 : Nat) : Int)), (((s5.a.toNat / 256 % 256 : Nat) : Int)), (((s5.a.toNat / 1 % 256 : Nat) : Int)), (((s5.b.toNat / 16777216 % 256 : Nat) : Int)), 0, 0, 0, 0, 0, 0, 0, 0, 0, 0, 0, 0, 0, 0, 0, 0, 0, 0, 0, 0, 0, 0, 0, 0, 0, 0, 0])) 23 r6_10 rfl kj (Qaw 5 _ _ g6 4 23 _ _ r6_10 rfl kj kj kj (show 4 < 32 by decide)) fun W11 p11 r6_11 => ?_
  have x11 : Ext w W11 := Puts.ext p11 x10 b6
  refine Qac ?_
  refine hK45 _ _ ?_
  refine Qab ?_
  refine Qaa (.int .i64 1) 40 rfl kj kj ?_
  refine Qaa (.int .i64 1) 26 rfl kj kj ?_
  refine Qac ?_
  show Code.rounds _ _ _ 4 _ _
  show Code.wp _ _ (Exit.then (Code.rounds _ _ _ 3) _) _ _
  refine wp_seq_k fun K47 hK47 => ?_
  refine Qab ?_
  refine Qaa (.bool true) 27 rfl kj kj ?_
  refine Qac ?_
  refine hK47 _ _ ?_
  refine wp_seq_k fun K48 hK48 => ?_
  refine cond_true kj ?_
  refine wp_skip ?_
  refine hK48 _ _ ?_
  refine wp_seq_k fun K49 hK49 => ?_
  refine wp_block ?_
  refine wp_seq_k fun K50 hK50 => ?_
  refine Qab ?_
  refine Qaa (.int .i64 1) 28 rfl kj kj ?_
  refine Qaa (.int .i64 1) 7 rfl kj kj ?_
  refine Qac ?_
  refine hK50 _ _ ?_
  refine Qab ?_
  refine Qaa (.int .i64 1) 29 rfl kj kj ?_
  refine Qaa (.int .i64 4) 30 rfl kj kj ?_
  refine Qaa (.int .i64 1) 31 rfl kj kj ?_
  refine Qaa (.int .i64 5) 32 rfl kj kj ?_
  refine Qaa (.int .u32 (wv s5.b)) 33 rfl kj kj ?_
  refine Qaa (.int .i64 1) 34 rfl kj kj ?_
  refine Qaa (.int .i64 8) 35 rfl kj kj ?_
  refine Qaa (.int .i64 16) 36 rfl kj kj ?_
  refine Qaa (.int .u32 (wv ((s5.b) >>> 16))) 37 rfl kj (Qa1 .shr _ _ _ _ .u32 .i64 _ _ _ rfl kj kj (QaO _ _ _ _ _ _ (by decide) (Qbc _ _ 16 rfl (by decide)))) ?_
  refine Qaa (.int .u8 (((s5.b.toNat / 65536 % 256 : Nat) : Int))) 38 rfl kj (Qah (u := .int .u8 (IntKind.u8.wrap (wv ((s5.b) >>> 16)))) kj (congrArg (Value.int .u8) (QaP s5.b 16 65536 (by decide)))) ?_
  refine Qaa (.pointer (some ⟨g6, 5, none⟩)) 39 rfl kj kj ?_
  refine Qaj g6 _ (ints .u8 ([(((s5.a.toNat / 16777216 % 256 : Nat) : Int)), (((s5.a.toNat / 65536 % 256 : Nat) : Int)), (((s5.a.toNat / 256 % 256 : Nat) : Int)), (((s5.a.toNat / 1 % 256 : Nat) : Int)), (((s5.b.toNat / 16777216 % 256 : Nat) : Int)), (((s5.b.toNat / 65536 % 256 : Nat) : Int)), 0, 0, 0, 0, 0, 0, 0, 0, 0, 0, 0, 0, 0, 0, 0, 0, 0, 0, 0, 0, 0, 0, 0, 0, 0, 0])) 23 r6_11 rfl kj (Qaw 5 _ _ g6 5 23 _ _ r6_11 rfl kj kj kj (show 5 < 32 by decide)) fun W12 p12 r6_12 => ?_
  have x12 : Ext w W12 := Puts.ext p12 x11 b6
  refine Qac ?_
  refine hK49 _ _ ?_
  refine Qab ?_
  refine Qaa (.int .i64 2) 40 rfl kj kj ?_
  refine Qaa (.int .i64 2) 26 rfl kj kj ?_
  refine Qac ?_
  show Code.rounds _ _ _ 3 _ _
  show Code.wp _ _ (Exit.then (Code.rounds _ _ _ 2) _) _ _
  refine wp_seq_k fun K51 hK51 => ?_
  refine Qab ?_
  refine Qaa (.bool true) 27 rfl kj kj ?_
  refine Qac ?_
  refine hK51 _ _ ?_
  refine wp_seq_k fun K52 hK52 => ?_
  refine cond_true kj ?_
  refine wp_skip ?_
  refine hK52 _ _ ?_
  refine wp_seq_k fun K53 hK53 => ?_
  refine wp_block ?_
  refine wp_seq_k fun K54 hK54 => ?_
  refine Qab ?_
  refine Qaa (.int .i64 2) 28 rfl kj kj ?_
  refine Qaa (.int .i64 2) 7 rfl kj kj ?_
  refine Qac ?_
  refine hK54 _ _ ?_
  refine Qab ?_
  refine Qaa (.int .i64 1) 29 rfl kj kj ?_
  refine Qaa (.int .i64 4) 30 rfl kj kj ?_
  refine Qaa (.int .i64 2) 31 rfl kj kj ?_
  refine Qaa (.int .i64 6) 32 rfl kj kj ?_
  refine Qaa (.int .u32 (wv s5.b)) 33 rfl kj kj ?_
  refine Qaa (.int .i64 2) 34 rfl kj kj ?_
  refine Qaa (.int .i64 16) 35 rfl kj kj ?_
  refine Qaa (.int .i64 8) 36 rfl kj kj ?_
  refine Qaa (.int .u32 (wv ((s5.b) >>> 8))) 37 rfl kj (Qa1 .shr _ _ _ _ .u32 .i64 _ _ _ rfl kj kj (QaO _ _ _ _ _ _ (by decide) (Qbc _ _ 8 rfl (by decide)))) ?_
  refine Qaa (.int .u8 (((s5.b.toNat / 256 % 256 : Nat) : Int))) 38 rfl kj (Qah (u := .int .u8 (IntKind.u8.wrap (wv ((s5.b) >>> 8)))) kj (congrArg (Value.int .u8) (QaP s5.b 8 256 (by decide)))) ?_
  refine Qaa (.pointer (some ⟨g6, 6, none⟩)) 39 rfl kj kj ?_
  refine Qaj g6 _ (ints .u8 ([(((s5.a.toNat / 16777216 % 256 : Nat) : Int)), (((s5.a.toNat / 65536 % 256 : Nat) : Int)), (((s5.a.toNat / 256 % 256 : Nat) : Int)), (((s5.a.toNat / 1 % 256 : Nat) : Int)), (((s5.b.toNat / 16777216 % 256 : Nat) : Int)), (((s5.b.toNat / 65536 % 256 : Nat) : Int)), (((s5.b.toNat / 256 % 256 : Nat) : Int)), 0, 0, 0, 0, 0, 0, 0, 0, 0, 0, 0, 0, 0, 0, 0, 0, 0, 0, 0, 0, 0, 0, 0, 0, 0])) 23 r6_12 rfl kj (Qaw 5 _ _ g6 6 23 _ _ r6_12 rfl kj kj kj (show 6 < 32 by decide)) fun W13 p13 r6_13 => ?_
  have x13 : Ext w W13 := Puts.ext p13 x12 b6
  refine Qac ?_
  refine hK53 _ _ ?_
  refine Qab ?_
  refine Qaa (.int .i64 3) 40 rfl kj kj ?_
  refine Qaa (.int .i64 3) 26 rfl kj kj ?_
  refine Qac ?_
  show Code.rounds _ _ _ 2 _ _
  show Code.wp _ _ (Exit.then (Code.rounds _ _ _ 1) _) _ _
  refine wp_seq_k fun K55 hK55 => ?_
  refine Qab ?_
  refine Qaa (.bool true) 27 rfl kj kj ?_
  refine Qac ?_
  refine hK55 _ _ ?_
  refine wp_seq_k fun K56 hK56 => ?_
  refine cond_true kj ?_
  refine wp_skip ?_
  refine hK56 _ _ ?_
  refine wp_seq_k fun K57 hK57 => ?_
  refine wp_block ?_
  refine wp_seq_k fun K58 hK58 => ?_
  refine Qab ?_
  refine Qaa (.int .i64 3) 28 rfl kj kj ?_
  refine Qaa (.int .i64 3) 7 rfl kj kj ?_
  refine Qac ?_
  refine hK58 _ _ ?_
  refine Qab ?_
  refine Qaa (.int .i64 1) 29 rfl kj kj ?_
  refine Qaa (.int .i64 4) 30 rfl kj kj ?_
  refine Qaa (.int .i64 3) 31 rfl kj kj ?_
  refine Qaa (.int .i64 7) 32 rfl kj kj ?_
  refine Qaa (.int .u32 (wv s5.b)) 33 rfl kj kj ?_
  refine Qaa (.int .i64 3) 34 rfl kj kj ?_
  refine Qaa (.int .i64 24) 35 rfl kj kj ?_
  refine Qaa (.int .i64 0) 36 rfl kj kj ?_
  refine Qaa (.int .u32 (wv ((s5.b) >>> 0))) 37 rfl kj (Qa1 .shr _ _ _ _ .u32 .i64 _ _ _ rfl kj kj (QaO _ _ _ _ _ _ (by decide) (Qbc _ _ 0 rfl (by decide)))) ?_
  refine Qaa (.int .u8 (((s5.b.toNat / 1 % 256 : Nat) : Int))) 38 rfl kj (Qah (u := .int .u8 (IntKind.u8.wrap (wv ((s5.b) >>> 0)))) kj (congrArg (Value.int .u8) (QaP s5.b 0 1 (by decide)))) ?_
  refine Qaa (.pointer (some ⟨g6, 7, none⟩)) 39 rfl kj kj ?_
  refine Qaj g6 _ (ints .u8 ([(((s5.a.toNat / 16777216 % 256 : Nat) : Int)), (((s5.a.toNat / 65536 % 256 : Nat) : Int)), (((s5.a.toNat / 256 % 256 : Nat) : Int)), (((s5.a.toNat / 1 % 256 : Nat) : Int)), (((s5.b.toNat / 16777216 % 256 : Nat) : Int)), (((s5.b.toNat / 65536 % 256 : Nat) : Int)), (((s5.b.toNat / 256 % 256 : Nat) : Int)), (((s5.b.toNat / 1 % 256 : Nat) : Int)), 0, 0, 0, 0, 0, 0, 0, 0, 0, 0, 0, 0, 0, 0, 0, 0, 0, 0, 0, 0, 0, 0, 0, 0])) 23 r6_13 rfl kj (Qaw 5 _ _ g6 7 23 _ _ r6_13 rfl kj kj kj (show 7 < 32 by decide)) fun W14 p14 r6_14 => ?_
  have x14 : Ext w W14 := Puts.ext p14 x13 b6
  refine Qac ?_
  refine hK57 _ _ ?_
  refine Qab ?_
  refine Qaa (.int .i64 4) 40 rfl kj kj ?_
  refine Qaa (.int .i64 4) 26 rfl kj kj ?_
  refine Qac ?_
  show Code.rounds _ _ _ 1 _ _
  show Code.wp _ _ (Exit.then (Code.rounds _ _ _ 0) _) _ _
  refine wp_seq_k fun K59 hK59 => ?_
  refine Qab ?_
  refine Qaa (.bool false) 27 rfl kj kj ?_
  refine Qac ?_
  refine hK59 _ _ ?_
  refine wp_seq_k fun K60 hK60 => ?_
  refine cond_false kj ?_
  refine wp_exit ?_
  refine hK40 _ _ ?_
  refine Qab ?_
  refine Qaa (.int .i64 2) 41 rfl kj kj ?_
  refine Qaa (.int .i64 2) 22 rfl kj kj ?_
  refine Qac ?_
  show Code.rounds _ _ _ 7 _ _
  show Code.wp _ _ (Exit.then (Code.rounds _ _ _ 6) _) _ _
  refine wp_seq_k fun K61 hK61 => ?_
  refine Qab ?_
  refine Qaa (.bool true) 23 rfl kj kj ?_
  refine Qac ?_
  refine hK61 _ _ ?_
  refine wp_seq_k fun K62 hK62 => ?_
  refine cond_true kj ?_
  refine wp_skip ?_
  refine hK62 _ _ ?_
  refine wp_seq_k fun K63 hK63 => ?_
  refine wp_block ?_
  refine wp_seq_k fun K64 hK64 => ?_
  refine Qab ?_
  refine Qaa (.int .i64 2) 24 rfl kj kj ?_
  refine Qaa (.int .u32 (wv s5.c)) 25 rfl kj (Qaz 114 _ _ .i64 .u32 ([wv s5.a, wv s5.b, wv s5.c, wv s5.d, wv s5.e, wv s5.f, wv s5.g, wv s5.h]) 2 8 113 (wv s5.c) rfl kj kj kj kj kj rfl (by decide) rfl) ?_
  refine Qaa (.int .i64 2) 5 rfl kj kj ?_
  refine Qaa (.int .u32 (wv s5.c)) 6 rfl kj kj ?_
  refine Qac ?_
  refine hK64 _ _ ?_
  refine wp_seq_k fun K65 hK65 => ?_
  refine Qab ?_
  refine Qaa (.int .i64 0) 26 rfl kj kj ?_
  refine Qac ?_
  refine hK65 _ _ ?_
  refine wp_block ?_
  refine wp_loop_rounds 5 ?_
  show Code.wp _ _ (Exit.then (Code.rounds _ _ _ 4) _) _ _
  refine wp_seq_k fun K66 hK66 => ?_
  refine Qab ?_
  refine Qaa (.bool true) 27 rfl kj kj ?_
  refine Qac ?_
  refine hK66 _ _ ?_
  refine wp_seq_k fun K67 hK67 => ?_
  refine cond_true kj ?_
  refine wp_skip ?_
  refine hK67 _ _ ?_
  refine wp_seq_k fun K68 hK68 => ?_
  refine wp_block ?_
  refine wp_seq_k fun K69 hK69 => ?_
  refine Qab ?_
  refine Qaa (.int .i64 0) 28 rfl kj kj ?_
  refine Qaa (.int .i64 0) 7 rfl kj kj ?_
  refine Qac ?_
  refine hK69 _ _ ?_
  refine Qab ?_
  refine Qaa (.int .i64 2) 29 rfl kj kj ?_
  refine Qaa (.int .i64 8) 30 rfl kj kj ?_
  refine Qaa (.int .i64 0) 31 rfl kj kj ?_
  refine Qaa (.int .i64 8) 32 rfl kj kj ?_
  refine Qaa (.int .u32 (wv s5.c)) 33 rfl kj kj ?_
  refine Qaa (.int .i64 0) 34 rfl kj kj ?_
  refine Qaa (.int .i64 0) 35 rfl kj kj ?_
  refine Qaa (.int .i64 24) 36 rfl kj kj ?_
  refine Qaa (.int .u32 (wv ((s5.c) >>> 24))) 37 rfl kj (Qa1 .shr _ _ _ _ .u32 .i64 _ _ _ rfl kj kj (QaO _ _ _ _ _ _ (by decide) (Qbc _ _ 24 rfl (by decide)))) ?_
  refine Qaa (.int .u8 (((s5.c.toNat / 16777216 % 256 : Nat) : Int))) 38 rfl kj (Qah (u := .int .u8 (IntKind.u8.wrap (wv ((s5.c) >>> 24)))) kj (congrArg (Value.int .u8) (QaP s5.c 24 16777216 (by decide)))) ?_
  refine Qaa (.pointer (some ⟨g6, 8, none⟩)) 39 rfl kj kj ?_
  refine Qaj g6 _ (ints .u8 ([(((s5.a.toNat / 16777216 % 256 : Nat) : Int)), (((s5.a.toNat / 65536 % 256 : Nat) : Int)), (((s5.a.toNat / 256 % 256 : Nat) : Int)), (((s5.a.toNat / 1 % 256 : Nat) : Int)), (((s5.b.toNat / 16777216 % 256 : Nat) : Int)), (((s5.b.toNat / 65536 % 256 : Nat) : Int)), (((s5.b.toNat / 256 % 256 : Nat) : Int)), (((s5.b.toNat / 1 % 256 : Nat) : Int)), (((s5.c.toNat / 16777216 % 256 : Nat) : Int)), 0, 0, 0, 0, 0, 0, 0, 0, 0, 0, 0, 0, 0, 0, 0, 0, 0, 0, 0, 0, 0, 0, 0])) 23 r6_14 rfl kj (Qaw 5 _ _ g6 8 23 _ _ r6_14 rfl kj kj kj (show 8 < 32 by decide)) fun W15 p15 r6_15 => ?_
  have x15 : Ext w W15 := Puts.ext p15 x14 b6
  refine Qac ?_
  refine hK68 _ _ ?_
  refine Qab ?_
  refine Qaa (.int .i64 1) 40 rfl kj kj ?_
  refine Qaa (.int .i64 1) 26 rfl kj kj ?_
  refine Qac ?_
  show Code.rounds _ _ _ 4 _ _
  show Code.wp _ _ (Exit.then (Code.rounds _ _ _ 3) _) _ _
  refine wp_seq_k fun K70 hK70 => ?_
  refine Qab ?_
  refine Qaa (.bool true) 27 rfl kj kj ?_
  refine Qac ?_
  refine hK70 _ _ ?_
  refine wp_seq_k fun K71 hK71 => ?_
  refine cond_true kj ?_
  refine wp_skip ?_
  refine hK71 _ _ ?_
  refine wp_seq_k fun K72 hK72 => ?_
  refine wp_block ?_
  refine wp_seq_k fun K73 hK73 => ?_
  refine Qab ?_
  refine Qaa (.int .i64 1) 28 rfl kj kj ?_
  refine Qaa (.int .i64 1) 7 rfl kj kj ?_
  refine Qac ?_
  refine hK73 _ _ ?_
  refine Qab ?_
  refine Qaa (.int .i64 2) 29 rfl kj kj ?_
  refine Qaa (.int .i64 8) 30 rfl kj kj ?_
  refine Qaa (.int .i64 1) 31 rfl kj kj ?_
  refine Qaa (.int .i64 9) 32 rfl kj kj ?_
  refine Qaa (.int .u32 (wv s5.c)) 33 rfl kj kj ?_
  refine Qaa (.int .i64 1) 34 rfl kj kj ?_
  refine Qaa (.int .i64 8) 35 rfl kj kj ?_
  refine Qaa (.int .i64 16) 36 rfl kj kj ?_
  refine Qaa (.int .u32 (wv ((s5.c) >>> 16))) 37 rfl kj (Qa1 .shr _ _ _ _ .u32 .i64 _ _ _ rfl kj kj (QaO _ _ _ _ _ _ (by decide) (Qbc _ _ 16 rfl (by decide)))) ?_
  refine Qaa (.int .u8 (((s5.c.toNat / 65536 % 256 : Nat) : Int))) 38 rfl kj (Qah (u := .int .u8 (IntKind.u8.wrap (wv ((s5.c) >>> 16)))) kj (congrArg (Value.int .u8) (QaP s5.c 16 65536 (by decide)))) ?_
  refine Qaa (.pointer (some ⟨g6, 9, none⟩)) 39 rfl kj kj ?_
  refine Qaj g6 _ (ints .u8 ([(((s5.a.toNat / 16777216 % 256 : Nat) : Int)), (((s5.a.toNat / 65536 % 256 : Nat) : Int)), (((s5.a.toNat / 256 % 256 : Nat) : Int)), (((s5.a.toNat / 1 % 256 : Nat) : Int)), (((s5.b.toNat / 16777216 % 256 : Nat) : Int)), (((s5.b.toNat / 65536 % 256 : Nat) : Int)), (((s5.b.toNat / 256 % 256 : Nat) : Int)), (((s5.b.toNat / 1 % 256 : Nat) : Int)), (((s5.c.toNat / 16777216 % 256 : Nat) : Int)), (((s5.c.toNat / 65536 % 256 : Nat) : Int)), 0, 0, 0, 0, 0, 0, 0, 0, 0, 0, 0, 0, 0, 0, 0, 0, 0, 0, 0, 0, 0, 0])) 23 r6_15 rfl kj (Qaw 5 _ _ g6 9 23 _ _ r6_15 rfl kj kj kj (show 9 < 32 by decide)) fun W16 p16 r6_16 => ?_
  have x16 : Ext w W16 := Puts.ext p16 x15 b6
  refine Qac ?_
  refine hK72 _ _ ?_
  refine Qab ?_
  refine Qaa (.int .i64 2) 40 rfl kj kj ?_
  refine Qaa (.int .i64 2) 26 rfl kj kj ?_
  refine Qac ?_
  show Code.rounds _ _ _ 3 _ _
  show Code.wp _ _ (Exit.then (Code.rounds _ _ _ 2) _) _ _
  refine wp_seq_k fun K74 hK74 => ?_
  refine Qab ?_
  refine Qaa (.bool true) 27 rfl kj kj ?_
  refine Qac ?_
  refine hK74 _ _ ?_
  refine wp_seq_k fun K75 hK75 => ?_
  refine cond_true kj ?_
  refine wp_skip ?_
  refine hK75 _ _ ?_
  refine wp_seq_k fun K76 hK76 => ?_
  refine wp_block ?_
  refine wp_seq_k fun K77 hK77 => ?_
  refine Qab ?_
  refine Qaa (.int .i64 2) 28 rfl kj kj ?_
  refine Qaa (.int .i64 2) 7 rfl kj kj ?_
  refine Qac ?_
  refine hK77 _ _ ?_
  refine Qab ?_
  refine Qaa (.int .i64 2) 29 rfl kj kj ?_
  refine Qaa (.int .i64 8) 30 rfl kj kj ?_
  refine Qaa (.int .i64 2) 31 rfl kj kj ?_
  refine Qaa (.int .i64 10) 32 rfl kj kj ?_
  refine Qaa (.int .u32 (wv s5.c)) 33 rfl kj kj ?_
  refine Qaa (.int .i64 2) 34 rfl kj kj ?_
  refine Qaa (.int .i64 16) 35 rfl kj kj ?_
  refine Qaa (.int .i64 8) 36 rfl kj kj ?_
  refine Qaa (.int .u32 (wv ((s5.c) >>> 8))) 37 rfl kj (Qa1 .shr _ _ _ _ .u32 .i64 _ _ _ rfl kj kj (QaO _ _ _ _ _ _ (by decide) (Qbc _ _ 8 rfl (by decide)))) ?_
  refine Qaa (.int .u8 (((s5.c.toNat / 256 % 256 : Nat) : Int))) 38 rfl kj (Qah (u := .int .u8 (IntKind.u8.wrap (wv ((s5.c) >>> 8)))) kj (congrArg (Value.int .u8) (QaP s5.c 8 256 (by decide)))) ?_
  refine Qaa (.pointer (some ⟨g6, 10, none⟩)) 39 rfl kj kj ?_
  refine Qaj g6 _ (ints .u8 ([(((s5.a.toNat / 16777216 % 256 : Nat) : Int)), (((s5.a.toNat / 65536 % 256 : Nat) : Int)), (((s5.a.toNat / 256 % 256 : Nat) : Int)), (((s5.a.toNat / 1 % 256 : Nat) : Int)), (((s5.b.toNat / 16777216 % 256 : Nat) : Int)), (((s5.b.toNat / 65536 % 256 : Nat) : Int)), (((s5.b.toNat / 256 % 256 : Nat) : Int)), (((s5.b.toNat / 1 % 256 : Nat) : Int)), (((s5.c.toNat / 16777216 % 256 : Nat) : Int)), (((s5.c.toNat / 65536 % 256 : Nat) : Int)), (((s5.c.toNat / 256 % 256 : Nat) : Int)), 0, 0, 0, 0, 0, 0, 0, 0, 0, 0, 0, 0, 0, 0, 0, 0, 0, 0, 0, 0, 0])) 23 r6_16 rfl kj (Qaw 5 _ _ g6 10 23 _ _ r6_16 rfl kj kj kj (show 10 < 32 by decide)) fun W17 p17 r6_17 => ?_
  have x17 : Ext w W17 := Puts.ext p17 x16 b6
  refine Qac ?_
  refine hK76 _ _ ?_
  refine Qab ?_
  refine Qaa (.int .i64 3) 40 rfl kj kj ?_
  refine Qaa (.int .i64 3) 26 rfl kj kj ?_
  refine Qac ?_
  show Code.rounds _ _ _ 2 _ _
  show Code.wp _ _ (Exit.then (Code.rounds _ _ _ 1) _) _ _
  refine wp_seq_k fun K78 hK78 => ?_
  refine Qab ?_
  refine Qaa (.bool true) 27 rfl kj kj ?_
  refine Qac ?_
  refine hK78 _ _ ?_
  refine wp_seq_k fun K79 hK79 => ?_
  refine cond_true kj ?_
  refine wp_skip ?_
  refine hK79 _ _ ?_
  refine wp_seq_k fun K80 hK80 => ?_
  refine wp_block ?_
  refine wp_seq_k fun K81 hK81 => ?_
  refine Qab ?_
  refine Qaa (.int .i64 3) 28 rfl kj kj ?_
  refine Qaa (.int .i64 3) 7 rfl kj kj ?_
  refine Qac ?_
  refine hK81 _ _ ?_
  refine Qab ?_
  refine Qaa (.int .i64 2) 29 rfl kj kj ?_
  refine Qaa (.int .i64 8) 30 rfl kj kj ?_
  refine Qaa (.int .i64 3) 31 rfl kj kj ?_
  refine Qaa (.int .i64 11) 32 rfl kj kj ?_
  refine Qaa (.int .u32 (wv s5.c)) 33 rfl kj kj ?_
  refine Qaa (.int .i64 3) 34 rfl kj kj ?_
  refine Qaa (.int .i64 24) 35 rfl kj kj ?_
  refine Qaa (.int .i64 0) 36 rfl kj kj ?_
  refine Qaa (.int .u32 (wv ((s5.c) >>> 0))) 37 rfl kj (Qa1 .shr _ _ _ _ .u32 .i64 _ _ _ rfl kj kj (QaO _ _ _ _ _ _ (by decide) (Qbc _ _ 0 rfl (by decide)))) ?_
  refine Qaa (.int .u8 (((s5.c.toNat / 1 % 256 : Nat) : Int))) 38 rfl kj (Qah (u := .int .u8 (IntKind.u8.wrap (wv ((s5.c) >>> 0)))) kj (congrArg (Value.int .u8) (QaP s5.c 0 1 (by decide)))) ?_
  refine Qaa (.pointer (some ⟨g6, 11, none⟩)) 39 rfl kj kj ?_
  refine Qaj g6 _ (ints .u8 ([(((s5.a.toNat / 16777216 % 256 : Nat) : Int)), (((s5.a.toNat / 65536 % 256 : Nat) : Int)), (((s5.a.toNat / 256 % 256 : Nat) : Int)), (((s5.a.toNat / 1 % 256 : Nat) : Int)), (((s5.b.toNat / 16777216 % 256 : Nat) : Int)), (((s5.b.toNat / 65536 % 256 : Nat) : Int)), (((s5.b.toNat / 256 % 256 : Nat) : Int)), (((s5.b.toNat / 1 % 256 : Nat) : Int)), (((s5.c.toNat / 16777216 % 256 : Nat) : Int)), (((s5.c.toNat / 65536 % 256 : Nat) : Int)), (((s5.c.toNat / 256 % 256 : Nat) : Int)), (((s5.c.toNat / 1 % 256 : Nat) : Int)), 0, 0, 0, 0, 0, 0, 0, 0, 0, 0, 0, 0, 0, 0, 0, 0, 0, 0, 0, 0])) 23 r6_17 rfl kj (Qaw 5 _ _ g6 11 23 _ _ r6_17 rfl kj kj kj (show 11 < 32 by decide)) fun W18 p18 r6_18 => ?_
  have x18 : Ext w W18 := Puts.ext p18 x17 b6
  refine Qac ?_
  refine hK80 _ _ ?_
  refine Qab ?_
  refine Qaa (.int .i64 4) 40 rfl kj kj ?_
  refine Qaa (.int .i64 4) 26 rfl kj kj ?_
  refine Qac ?_
  show Code.rounds _ _ _ 1 _ _
  show Code.wp _ _ (Exit.then (Code.rounds _ _ _ 0) _) _ _
  refine wp_seq_k fun K82 hK82 => ?_
  refine Qab ?_
  refine Qaa (.bool false) 27 rfl kj kj ?_
  refine Qac ?_
  refine hK82 _ _ ?_
  refine wp_seq_k fun K83 hK83 => ?_
  refine cond_false kj ?_
  refine wp_exit ?_
  refine hK63 _ _ ?_
  refine Qab ?_
  refine Qaa (.int .i64 3) 41 rfl kj kj ?_
  refine Qaa (.int .i64 3) 22 rfl kj kj ?_
  refine Qac ?_
  show Code.rounds _ _ _ 6 _ _
  show Code.wp _ _ (Exit.then (Code.rounds _ _ _ 5) _) _ _
  refine wp_seq_k fun K84 hK84 => ?_
  refine Qab ?_
  refine Qaa (.bool true) 23 rfl kj kj ?_
  refine Qac ?_
  refine hK84 _ _ ?_
  refine wp_seq_k fun K85 hK85 => ?_
  refine cond_true kj ?_
  refine wp_skip ?_
  refine hK85 _ _ ?_
  refine wp_seq_k fun K86 hK86 => ?_
  refine wp_block ?_
  refine wp_seq_k fun K87 hK87 => ?_
  refine Qab ?_
  refine Qaa (.int .i64 3) 24 rfl kj kj ?_
  refine Qaa (.int .u32 (wv s5.d)) 25 rfl kj (Qaz 114 _ _ .i64 .u32 ([wv s5.a, wv s5.b, wv s5.c, wv s5.d, wv s5.e, wv s5.f, wv s5.g, wv s5.h]) 3 8 113 (wv s5.d) rfl kj kj kj kj kj rfl (by decide) rfl) ?_
  refine Qaa (.int .i64 3) 5 rfl kj kj ?_
  refine Qaa (.int .u32 (wv s5.d)) 6 rfl kj kj ?_
  refine Qac ?_
  refine hK87 _ _ ?_
  refine wp_seq_k fun K88 hK88 => ?_
  refine Qab ?_
  refine Qaa (.int .i64 0) 26 rfl kj kj ?_
  refine Qac ?_
  refine hK88 _ _ ?_
  refine wp_block ?_
  refine wp_loop_rounds 5 ?_
  show Code.wp _ _ (Exit.then (Code.rounds _ _ _ 4) _) _ _
  refine wp_seq_k fun K89 hK89 => ?_
  refine Qab ?_
  refine Qaa (.bool true) 27 rfl kj kj ?_
  refine Qac ?_
  refine hK89 _ _ ?_
  refine wp_seq_k fun K90 hK90 => ?_
  refine cond_true kj ?_
  refine wp_skip ?_
  refine hK90 _ _ ?_
  refine wp_seq_k fun K91 hK91 => ?_
  refine wp_block ?_
  refine wp_seq_k fun K92 hK92 => ?_
  refine Qab ?_
  refine Qaa (.int .i64 0) 28 rfl kj kj ?_
  refine Qaa (.int .i64 0) 7 rfl kj kj ?_
  refine Qac ?_
  refine hK92 _ _ ?_
  refine Qab ?_
  refine Qaa (.int .i64 3) 29 rfl kj kj ?_
  refine Qaa (.int .i64 12) 30 rfl kj kj ?_
  refine Qaa (.int .i64 0) 31 rfl kj kj ?_
  refine Qaa (.int .i64 12) 32 rfl kj kj ?_
  refine Qaa (.int .u32 (wv s5.d)) 33 rfl kj kj ?_
  refine Qaa (.int .i64 0) 34 rfl kj kj ?_
  refine Qaa (.int .i64 0) 35 rfl kj kj ?_
  refine Qaa (.int .i64 24) 36 rfl kj kj ?_
  refine Qaa (.int .u32 (wv ((s5.d) >>> 24))) 37 rfl kj (Qa1 .shr _ _ _ _ .u32 .i64 _ _ _ rfl kj kj (QaO _ _ _ _ _ _ (by decide) (Qbc _ _ 24 rfl (by decide)))) ?_
  refine Qaa (.int .u8 (((s5.d.toNat / 16777216 % 256 : Nat) : Int))) 38 rfl kj (Qah (u := .int .u8 (IntKind.u8.wrap (wv ((s5.d) >>> 24)))) kj (congrArg (Value.int .u8) (QaP s5.d 24 16777216 (by decide)))) ?_
  refine Qaa (.pointer (some ⟨g6, 12, none⟩)) 39 rfl kj kj ?_
  refine Qaj g6 _ (ints .u8 ([(((s5.a.toNat / 16777216 % 256 : Nat) : Int)), (((s5.a.toNat / 65536 % 256 : Nat) : Int)), (((s5.a.toNat / 256 % 256 : Nat) : Int)), (((s5.a.toNat / 1 % 256 : Nat) : Int)), (((s5.b.toNat / 16777216 % 256 : Nat) : Int)), (((s5.b.toNat / 65536 % 256 : Nat) : Int)), (((s5.b.toNat / 256 % 256 : Nat) : Int)), (((s5.b.toNat / 1 % 256 : Nat) : Int)), (((s5.c.toNat / 16777216 % 256 : Nat) : Int)), (((s5.c.toNat / 65536 % 256 : Nat) : Int)), (((s5.c.toNat / 256 % 256 : Nat) : Int)), (((s5.c.toNat / 1 % 256 : Nat) : Int)), (((s5.d.toNat / 16777216 % 256 : Nat) : Int)), 0, 0, 0, 0, 0, 0, 0, 0, 0, 0, 0, 0, 0, 0, 0, 0, 0, 0, 0])) 23 r6_18 rfl kj (Qaw 5 _ _ g6 12 23 _ _ r6_18 rfl kj kj kj (show 12 < 32 by decide)) fun W19 p19 r6_19 => ?_
  have x19 : Ext w W19 := Puts.ext p19 x18 b6
  refine Qac ?_
  refine hK91 _ _ ?_
  refine Qab ?_
  refine Qaa (.int .i64 1) 40 rfl kj kj ?_
  refine Qaa (.int .i64 1) 26 rfl kj kj ?_
  refine Qac ?_
  show Code.rounds _ _ _ 4 _ _
  show Code.wp _ _ (Exit.then (Code.rounds _ _ _ 3) _) _ _
  refine wp_seq_k fun K93 hK93 => ?_
  refine Qab ?_
  refine Qaa (.bool true) 27 rfl kj kj ?_
  refine Qac ?_
  refine hK93 _ _ ?_
  refine wp_seq_k fun K94 hK94 => ?_
  refine cond_true kj ?_
  refine wp_skip ?_
  refine hK94 _ _ ?_
  refine wp_seq_k fun K95 hK95 => ?_
  refine wp_block ?_
  refine wp_seq_k fun K96 hK96 => ?_
  refine Qab ?_
  refine Qaa (.int .i64 1) 28 rfl kj kj ?_
  refine Qaa (.int .i64 1) 7 rfl kj kj ?_
  refine Qac ?_
  refine hK96 _ _ ?_
  refine Qab ?_
  refine Qaa (.int .i64 3) 29 rfl kj kj ?_
  refine Qaa (.int .i64 12) 30 rfl kj kj ?_
  refine Qaa (.int .i64 1) 31 rfl kj kj ?_
  refine Qaa (.int .i64 13) 32 rfl kj kj ?_
  refine Qaa (.int .u32 (wv s5.d)) 33 rfl kj kj ?_
  refine Qaa (.int .i64 1) 34 rfl kj kj ?_
  refine Qaa (.int .i64 8) 35 rfl kj kj ?_
  refine Qaa (.int .i64 16) 36 rfl kj kj ?_
  refine Qaa (.int .u32 (wv ((s5.d) >>> 16))) 37 rfl kj (Qa1 .shr _ _ _ _ .u32 .i64 _ _ _ rfl kj kj (QaO _ _ _ _ _ _ (by decide) (Qbc _ _ 16 rfl (by decide)))) ?_
  refine Qaa (.int .u8 (((s5.d.toNat / 65536 % 256 : Nat) : Int))) 38 rfl kj (Qah (u := .int .u8 (IntKind.u8.wrap (wv ((s5.d) >>> 16)))) kj (congrArg (Value.int .u8) (QaP s5.d 16 65536 (by decide)))) ?_
  refine Qaa (.pointer (some ⟨g6, 13, none⟩)) 39 rfl kj kj ?_
  refine Qaj g6 _ (ints .u8 ([(((s5.a.toNat / 16777216 % 256 : Nat) : Int)), (((s5.a.toNat / 65536 % 256 : Nat) : Int)), (((s5.a.toNat / 256 % 256 : Nat) : Int)), (((s5.a.toNat / 1 % 256 : Nat) : Int)), (((s5.b.toNat / 16777216 % 256 : Nat) : Int)), (((s5.b.toNat / 65536 % 256 : Nat) : Int)), (((s5.b.toNat / 256 % 256 : Nat) : Int)), (((s5.b.toNat / 1 % 256 : Nat) : Int)), (((s5.c.toNat / 16777216 % 256 : Nat) : Int)), (((s5.c.toNat / 65536 % 256 : Nat) : Int)), (((s5.c.toNat / 256 % 256 : Nat) : Int)), (((s5.c.toNat / 1 % 256 : Nat) : Int)), (((s5.d.toNat / 16777216 % 256 : Nat) : Int)), (((s5.d.toNat / 65536 % 256 : Nat) : Int)), 0, 0, 0, 0, 0, 0, 0, 0, 0, 0, 0, 0, 0, 0, 0, 0, 0, 0])) 23 r6_19 rfl kj (Qaw 5 _ _ g6 13 23 _ _ r6_19 rfl kj kj kj (show 13 < 32 by decide)) fun W20 p20 r6_20 => ?_
  have x20 : Ext w W20 := Puts.ext p20 x19 b6
  refine Qac ?_
  refine hK95 _ _ ?_
  refine Qab ?_
  refine Qaa (.int .i64 2) 40 rfl kj kj ?_
  refine Qaa (.int .i64 2) 26 rfl kj kj ?_
  refine Qac ?_
  show Code.rounds _ _ _ 3 _ _
  show Code.wp _ _ (Exit.then (Code.rounds _ _ _ 2) _) _ _
  refine wp_seq_k fun K97 hK97 => ?_
  refine Qab ?_
  refine Qaa (.bool true) 27 rfl kj kj ?_
  refine Qac ?_
  refine hK97 _ _ ?_
  refine wp_seq_k fun K98 hK98 => ?_
  refine cond_true kj ?_
  refine wp_skip ?_
  refine hK98 _ _ ?_
  refine wp_seq_k fun K99 hK99 => ?_
  refine wp_block ?_
  refine wp_seq_k fun K100 hK100 => ?_
  refine Qab ?_
  refine Qaa (.int .i64 2) 28 rfl kj kj ?_
  refine Qaa (.int .i64 2) 7 rfl kj kj ?_
  refine Qac ?_
  refine hK100 _ _ ?_
  refine Qab ?_
  refine Qaa (.int .i64 3) 29 rfl kj kj ?_
  refine Qaa (.int .i64 12) 30 rfl kj kj ?_
  refine Qaa (.int .i64 2) 31 rfl kj kj ?_
  refine Qaa (.int .i64 14) 32 rfl kj kj ?_
  refine Qaa (.int .u32 (wv s5.d)) 33 rfl kj kj ?_
  refine Qaa (.int .i64 2) 34 rfl kj kj ?_
  refine Qaa (.int .i64 16) 35 rfl kj kj ?_
  refine Qaa (.int .i64 8) 36 rfl kj kj ?_
  refine Qaa (.int .u32 (wv ((s5.d) >>> 8))) 37 rfl kj (Qa1 .shr _ _ _ _ .u32 .i64 _ _ _ rfl kj kj (QaO _ _ _ _ _ _ (by decide) (Qbc _ _ 8 rfl (by decide)))) ?_
  refine Qaa (.int .u8 (((s5.d.toNat / 256 % 256 : Nat) : Int))) 38 rfl kj (Qah (u := .int .u8 (IntKind.u8.wrap (wv ((s5.d) >>> 8)))) kj (congrArg (Value.int .u8) (QaP s5.d 8 256 (by decide)))) ?_
  refine Qaa (.pointer (some ⟨g6, 14, none⟩)) 39 rfl kj kj ?_
  refine Qaj g6 _ (ints .u8 ([(((s5.a.toNat / 16777216 % 256 : Nat) : Int)), (((s5.a.toNat / 65536 % 256 : Nat) : Int)), (((s5.a.toNat / 256 % 256 : Nat) : Int)), (((s5.a.toNat / 1 % 256 : Nat) : Int)), (((s5.b.toNat / 16777216 % 256 : Nat) : Int)), (((s5.b.toNat / 65536 % 256 : Nat) : Int)), (((s5.b.toNat / 256 % 256 : Nat) : Int)), (((s5.b.toNat / 1 % 256 : Nat) : Int)), (((s5.c.toNat / 16777216 % 256 : Nat) : Int)), (((s5.c.toNat / 65536 % 256 : Nat) : Int)), (((s5.c.toNat / 256 % 256 : Nat) : Int)), (((s5.c.toNat / 1 % 256 : Nat) : Int)), (((s5.d.toNat / 16777216 % 256 : Nat) : Int)), (((s5.d.toNat / 65536 % 256 : Nat) : Int)), (((s5.d.toNat / 256 % 256 : Nat) : Int)), 0, 0, 0, 0, 0, 0, 0, 0, 0, 0, 0, 0, 0, 0, 0, 0, 0])) 23 r6_20 rfl kj (Qaw 5 _ _ g6 14 23 _ _ r6_20 rfl kj kj kj (show 14 < 32 by decide)) fun W21 p21 r6_21 => ?_
  have x21 : Ext w W21 := Puts.ext p21 x20 b6
  refine Qac ?_
  refine hK99 _ _ ?_
  refine Qab ?_
  refine Qaa (.int .i64 3) 40 rfl kj kj ?_
  refine Qaa (.int .i64 3) 26 rfl kj kj ?_
  refine Qac ?_
  show Code.rounds _ _ _ 2 _ _
  show Code.wp _ _ (Exit.then (Code.rounds _ _ _ 1) _) _ _
  refine wp_seq_k fun K101 hK101 => ?_
  refine Qab ?_
  refine Qaa (.bool true) 27 rfl kj kj ?_
  refine Qac ?_
  refine hK101 _ _ ?_
  refine wp_seq_k fun K102 hK102 => ?_
  refine cond_true kj ?_
  refine wp_skip ?_
  refine hK102 _ _ ?_
  refine wp_seq_k fun K103 hK103 => ?_
  refine wp_block ?_
  refine wp_seq_k fun K104 hK104 => ?_
  refine Qab ?_
  refine Qaa (.int .i64 3) 28 rfl kj kj ?_
  refine Qaa (.int .i64 3) 7 rfl kj kj ?_
  refine Qac ?_
  refine hK104 _ _ ?_
  refine Qab ?_
  refine Qaa (.int .i64 3) 29 rfl kj kj ?_
  refine Qaa (.int .i64 12) 30 rfl kj kj ?_
  refine Qaa (.int .i64 3) 31 rfl kj kj ?_
  refine Qaa (.int .i64 15) 32 rfl kj kj ?_
  refine Qaa (.int .u32 (wv s5.d)) 33 rfl kj kj ?_
  refine Qaa (.int .i64 3) 34 rfl kj kj ?_
  refine Qaa (.int .i64 24) 35 rfl kj kj ?_
  refine Qaa (.int .i64 0) 36 rfl kj kj ?_
  refine Qaa (.int .u32 (wv ((s5.d) >>> 0))) 37 rfl kj (Qa1 .shr _ _ _ _ .u32 .i64 _ _ _ rfl kj kj (QaO _ _ _ _ _ _ (by decide) (Qbc _ _ 0 rfl (by decide)))) ?_
  refine Qaa (.int .u8 (((s5.d.toNat / 1 % 256 : Nat) : Int))) 38 rfl kj (Qah (u := .int .u8 (IntKind.u8.wrap (wv ((s5.d) >>> 0)))) kj (congrArg (Value.int .u8) (QaP s5.d 0 1 (by decide)))) ?_
  refine Qaa (.pointer (some ⟨g6, 15, none⟩)) 39 rfl kj kj ?_
  refine Qaj g6 _ (ints .u8 ([(((s5.a.toNat / 16777216 % 256 : Nat) : Int)), (((s5.a.toNat / 65536 % 256 : Nat) : Int)), (((s5.a.toNat / 256 % 256 : Nat) : Int)), (((s5.a.toNat / 1 % 256 : Nat) : Int)), (((s5.b.toNat / 16777216 % 256 : Nat) : Int)), (((s5.b.toNat / 65536 % 256 : Nat) : Int)), (((s5.b.toNat / 256 % 256 : Nat) : Int)), (((s5.b.toNat / 1 % 256 : Nat) : Int)), (((s5.c.toNat / 16777216 % 256 : Nat) : Int)), (((s5.c.toNat / 65536 % 256 : Nat) : Int)), (((s5.c.toNat / 256 % 256 : Nat) : Int)), (((s5.c.toNat / 1 % 256 : Nat) : Int)), (((s5.d.toNat / 16777216 % 256 : Nat) : Int)), (((s5.d.toNat / 65536 % 256 : Nat) : Int)), (((s5.d.toNat / 256 % 256 : Nat) : Int)), (((s5.d.toNat / 1 % 256 : Nat) : Int)), 0, 0, 0, 0, 0, 0, 0, 0, 0, 0, 0, 0, 0, 0, 0, 0])) 23 r6_21 rfl kj (Qaw 5 _ _ g6 15 23 _ _ r6_21 rfl kj kj kj (show 15 < 32 by decide)) fun W22 p22 r6_22 => ?_
  have x22 : Ext w W22 := Puts.ext p22 x21 b6
  refine Qac ?_
  refine hK103 _ _ ?_
  refine Qab ?_
  refine Qaa (.int .i64 4) 40 rfl kj kj ?_
  refine Qaa (.int .i64 4) 26 rfl kj kj ?_
  refine Qac ?_
  show Code.rounds _ _ _ 1 _ _
  show Code.wp _ _ (Exit.then (Code.rounds _ _ _ 0) _) _ _
  refine wp_seq_k fun K105 hK105 => ?_
  refine Qab ?_
  refine Qaa (.bool false) 27 rfl kj kj ?_
  refine Qac ?_
  refine hK105 _ _ ?_
  refine wp_seq_k fun K106 hK106 => ?_
  refine cond_false kj ?_
  refine wp_exit ?_
  refine hK86 _ _ ?_
  refine Qab ?_
  refine Qaa (.int .i64 4) 41 rfl kj kj ?_
  refine Qaa (.int .i64 4) 22 rfl kj kj ?_
  refine Qac ?_
  show Code.rounds _ _ _ 5 _ _
  show Code.wp _ _ (Exit.then (Code.rounds _ _ _ 4) _) _ _
  refine wp_seq_k fun K107 hK107 => ?_
  refine Qab ?_
  refine Qaa (.bool true) 23 rfl kj kj ?_
  refine Qac ?_
  refine hK107 _ _ ?_
  refine wp_seq_k fun K108 hK108 => ?_
  refine cond_true kj ?_
  refine wp_skip ?_
  refine hK108 _ _ ?_
  refine wp_seq_k fun K109 hK109 => ?_
  refine wp_block ?_
  refine wp_seq_k fun K110 hK110 => ?_
  refine Qab ?_
  refine Qaa (.int .i64 4) 24 rfl kj kj ?_
  refine Qaa (.int .u32 (wv s5.e)) 25 rfl kj (Qaz 114 _ _ .i64 .u32 ([wv s5.a, wv s5.b, wv s5.c, wv s5.d, wv s5.e, wv s5.f, wv s5.g, wv s5.h]) 4 8 113 (wv s5.e) rfl kj kj kj kj kj rfl (by decide) rfl) ?_
  refine Qaa (.int .i64 4) 5 rfl kj kj ?_
  refine Qaa (.int .u32 (wv s5.e)) 6 rfl kj kj ?_
  refine Qac ?_
  refine hK110 _ _ ?_
  refine wp_seq_k fun K111 hK111 => ?_
  refine Qab ?_
  refine Qaa (.int .i64 0) 26 rfl kj kj ?_
  refine Qac ?_
  refine hK111 _ _ ?_
  refine wp_block ?_
  refine wp_loop_rounds 5 ?_
  show Code.wp _ _ (Exit.then (Code.rounds _ _ _ 4) _) _ _
  refine wp_seq_k fun K112 hK112 => ?_
  refine Qab ?_
  refine Qaa (.bool true) 27 rfl kj kj ?_
  refine Qac ?_
  refine hK112 _ _ ?_
  refine wp_seq_k fun K113 hK113 => ?_
  refine cond_true kj ?_
  refine wp_skip ?_
  refine hK113 _ _ ?_
  refine wp_seq_k fun K114 hK114 => ?_
  refine wp_block ?_
  refine wp_seq_k fun K115 hK115 => ?_
  refine Qab ?_
  refine Qaa (.int .i64 0) 28 rfl kj kj ?_
  refine Qaa (.int .i64 0) 7 rfl kj kj ?_
  refine Qac ?_
  refine hK115 _ _ ?_
  refine Qab ?_
  refine Qaa (.int .i64 4) 29 rfl kj kj ?_
  refine Qaa (.int .i64 16) 30 rfl kj kj ?_
  refine Qaa (.int .i64 0) 31 rfl kj kj ?_
  refine Qaa (.int .i64 16) 32 rfl kj kj ?_
  refine Qaa (.int .u32 (wv s5.e)) 33 rfl kj kj ?_
  refine Qaa (.int .i64 0) 34 rfl kj kj ?_
  refine Qaa (.int .i64 0) 35 rfl kj kj ?_
  refine Qaa (.int .i64 24) 36 rfl kj kj ?_
  refine Qaa (.int .u32 (wv ((s5.e) >>> 24))) 37 rfl kj (Qa1 .shr _ _ _ _ .u32 .i64 _ _ _ rfl kj kj (QaO _ _ _ _ _ _ (by decide) (Qbc _ _ 24 rfl (by decide)))) ?_
  refine Qaa (.int .u8 (((s5.e.toNat / 16777216 % 256 : Nat) : Int))) 38 rfl kj (Qah (u := .int .u8 (IntKind.u8.wrap (wv ((s5.e) >>> 24)))) kj (congrArg (Value.int .u8) (QaP s5.e 24 16777216 (by decide)))) ?_
  refine Qaa (.pointer (some ⟨g6, 16, none⟩)) 39 rfl kj kj ?_
  refine Qaj g6 _ (ints .u8 ([(((s5.a.toNat / 16777216 % 256 : Nat) : Int)), (((s5.a.toNat / 65536 % 256 : Nat) : Int)), (((s5.a.toNat / 256 % 256 : Nat) : Int)), (((s5.a.toNat / 1 % 256 : Nat) : Int)), (((s5.b.toNat / 16777216 % 256 : Nat) : Int)), (((s5.b.toNat / 65536 % 256 : Nat) : Int)), (((s5.b.toNat / 256 % 256 : Nat) : Int)), (((s5.b.toNat / 1 % 256 : Nat) : Int)), (((s5.c.toNat / 16777216 % 256 : Nat) : Int)), (((s5.c.toNat / 65536 % 256 : Nat) : Int)), (((s5.c.toNat / 256 % 256 : Nat) : Int)), (((s5.c.toNat / 1 % 256 : Nat) : Int)), (((s5.d.toNat / 16777216 % 256 : Nat) : Int)), (((s5.d.toNat / 65536 % 256 : Nat) : Int)), (((s5.d.toNat / 256 % 256 : Nat) : Int)), (((s5.d.toNat / 1 % 256 : Nat) : Int)), (((s5.e.toNat / 16777216 % 256 : Nat) : Int)), 0, 0, 0, 0, 0, 0, 0, 0, 0, 0, 0, 0, 0, 0, 0])) 23 r6_22 rfl kj (Qaw 5 _ _ g6 16 23 _ _ r6_22 rfl kj kj kj (show 16 < 32 by decide)) fun W23 p23 r6_23 => ?_
  have x23 : Ext w W23 := Puts.ext p23 x22 b6
  refine Qac ?_
  refine hK114 _ _ ?_
  refine Qab ?_
  refine Qaa (.int .i64 1) 40 rfl kj kj ?_
  refine Qaa (.int .i64 1) 26 rfl kj kj ?_
  refine Qac ?_
  show Code.rounds _ _ _ 4 _ _
  show Code.wp _ _ (Exit.then (Code.rounds _ _ _ 3) _) _ _
  refine wp_seq_k fun K116 hK116 => ?_
  refine Qab ?_
  refine Qaa (.bool true) 27 rfl kj kj ?_
  refine Qac ?_
  refine hK116 _ _ ?_
  refine wp_seq_k fun K117 hK117 => ?_
  refine cond_true kj ?_
  refine wp_skip ?_
  refine hK117 _ _ ?_
  refine wp_seq_k fun K118 hK118 => ?_
  refine wp_block ?_
  refine wp_seq_k fun K119 hK119 => ?_
  refine Qab ?_
  refine Qaa (.int .i64 1) 28 rfl kj kj ?_
  refine Qaa (.int .i64 1) 7 rfl kj kj ?_
  refine Qac ?_
  refine hK119 _ _ ?_
  refine Qab ?_
  refine Qaa (.int .i64 4) 29 rfl kj kj ?_
  refine Qaa (.int .i64 16) 30 rfl kj kj ?_
  refine Qaa (.int .i64 1) 31 rfl kj kj ?_
  refine Qaa (.int .i64 17) 32 rfl kj kj ?_
  refine Qaa (.int .u32 (wv s5.e)) 33 rfl kj kj ?_
  refine Qaa (.int .i64 1) 34 rfl kj kj ?_
  refine Qaa (.int .i64 8) 35 rfl kj kj ?_
  refine Qaa (.int .i64 16) 36 rfl kj kj ?_
  refine Qaa (.int .u32 (wv ((s5.e) >>> 16))) 37 rfl kj (Qa1 .shr _ _ _ _ .u32 .i64 _ _ _ rfl kj kj (QaO _ _ _ _ _ _ (by decide) (Qbc _ _ 16 rfl (by decide)))) ?_
  refine Qaa (.int .u8 (((s5.e.toNat / 65536 % 256 : Nat) : Int))) 38 rfl kj (Qah (u := .int .u8 (IntKind.u8.wrap (wv ((s5.e) >>> 16)))) kj (congrArg (Value.int .u8) (QaP s5.e 16 65536 (by decide)))) ?_
  refine Qaa (.pointer (some ⟨g6, 17, none⟩)) 39 rfl kj kj ?_
  refine Qaj g6 _ (ints .u8 ([(((s5.a.toNat / 16777216 % 256 : Nat) : Int)), (((s5.a.toNat / 65536 % 256 : Nat) : Int)), (((s5.a.toNat / 256 % 256 : Nat) : Int)), (((s5.a.toNat / 1 % 256 : Nat) : Int)), (((s5.b.toNat / 16777216 % 256 : Nat) : Int)), (((s5.b.toNat / 65536 % 256 : Nat) : Int)), (((s5.b.toNat / 256 % 256 : Nat) : Int)), (((s5.b.toNat / 1 % 256 : Nat) : Int)), (((s5.c.toNat / 16777216 % 256 : Nat) : Int)), (((s5.c.toNat / 65536 % 256 : Nat) : Int)), (((s5.c.toNat / 256 % 256 : Nat) : Int)), (((s5.c.toNat / 1 % 256 : Nat) : Int)), (((s5.d.toNat / 16777216 % 256 : Nat) : Int)), (((s5.d.toNat / 65536 % 256 : Nat) : Int)), (((s5.d.toNat / 256 % 256 : Nat) : Int)), (((s5.d.toNat / 1 % 256 : Nat) : Int)), (((s5.e.toNat / 16777216 % 256 : Nat) : Int)), (((s5.e.toNat / 65536 % 256 : Nat) : Int)), 0, 0, 0, 0, 0, 0, 0, 0, 0, 0, 0, 0, 0, 0])) 23 r6_23 rfl kj (Qaw 5 _ _ g6 17 23 _ _ r6_23 rfl kj kj kj (show 17 < 32 by decide)) fun W24 p24 r6_24 => ?_
  have x24 : Ext w W24 := Puts.ext p24 x23 b6
  refine Qac ?_
  refine hK118 _ _ ?_
  refine Qab ?_
  refine Qaa (.int .i64 2) 40 rfl kj kj ?_
  refine Qaa (.int .i64 2) 26 rfl kj kj ?_
  refine Qac ?_
  show Code.rounds _ _ _ 3 _ _
  show Code.wp _ _ (Exit.then (Code.rounds _ _ _ 2) _) _ _
  refine wp_seq_k fun K120 hK120 => ?_
  refine Qab ?_
  refine Qaa (.bool true) 27 rfl kj kj ?_
  refine Qac ?_
  refine hK120 _ _ ?_
  refine wp_seq_k fun K121 hK121 => ?_
  refine cond_true kj ?_
  refine wp_skip ?_
  refine hK121 _ _ ?_
  refine wp_seq_k fun K122 hK122 => ?_
  refine wp_block ?_
  refine wp_seq_k fun K123 hK123 => ?_
  refine Qab ?_
  refine Qaa (.int .i64 2) 28 rfl kj kj ?_
  refine Qaa (.int .i64 2) 7 rfl kj kj ?_
  refine Qac ?_
  refine hK123 _ _ ?_
  refine Qab ?_
  refine Qaa (.int .i64 4) 29 rfl kj kj ?_
  refine Qaa (.int .i64 16) 30 rfl kj kj ?_
  refine Qaa (.int .i64 2) 31 rfl kj kj ?_
  refine Qaa (.int .i64 18) 32 rfl kj kj ?_
  refine Qaa (.int .u32 (wv s5.e)) 33 rfl kj kj ?_
  refine Qaa (.int .i64 2) 34 rfl kj kj ?_
  refine Qaa (.int .i64 16) 35 rfl kj kj ?_
  refine Qaa (.int .i64 8) 36 rfl kj kj ?_
  refine Qaa (.int .u32 (wv ((s5.e) >>> 8))) 37 rfl kj (Qa1 .shr _ _ _ _ .u32 .i64 _ _ _ rfl kj kj (QaO _ _ _ _ _ _ (by decide) (Qbc _ _ 8 rfl (by decide)))) ?_
  refine Qaa (.int .u8 (((s5.e.toNat / 256 % 256 : Nat) : Int))) 38 rfl kj (Qah (u := .int .u8 (IntKind.u8.wrap (wv ((s5.e) >>> 8)))) kj (congrArg (Value.int .u8) (QaP s5.e 8 256 (by decide)))) ?_
  refine Qaa (.pointer (some ⟨g6, 18, none⟩)) 39 rfl kj kj ?_
  refine Qaj g6 _ (ints .u8 ([(((s5.a.toNat / 16777216 % 256 : Nat) : Int)), (((s5.a.toNat / 65536 % 256 : Nat) : Int)), (((s5.a.toNat / 256 % 256 : Nat) : Int)), (((s5.a.toNat / 1 % 256 : Nat) : Int)), (((s5.b.toNat / 16777216 % 256 : Nat) : Int)), (((s5.b.toNat / 65536 % 256 : Nat) : Int)), (((s5.b.toNat / 256 % 256 : Nat) : Int)), (((s5.b.toNat / 1 % 256 : Nat) : Int)), (((s5.c.toNat / 16777216 % 256 : Nat) : Int)), (((s5.c.toNat / 65536 % 256 : Nat) : Int)), (((s5.c.toNat / 256 % 256 : Nat) : Int)), (((s5.c.toNat / 1 % 256 : Nat) : Int)), (((s5.d.toNat / 16777216 % 256 : Nat) : Int)), (((s5.d.toNat / 65536 % 256 : Nat) : Int)), (((s5.d.toNat / 256 % 256 : Nat) : Int)), (((s5.d.toNat / 1 % 256 : Nat) : Int)), (((s5.e.toNat / 16777216 % 256 : Nat) : Int)), (((s5.e.toNat / 65536 % 256 : Nat) : Int)), (((s5.e.toNat / 256 % 256 : Nat) : Int)), 0, 0, 0, 0, 0, 0, 0, 0, 0, 0, 0, 0, 0])) 23 r6_24 rfl kj (Qaw 5 _ _ g6 18 23 _ _ r6_24 rfl kj kj kj (show 18 < 32 by decide)) fun W25 p25 r6_25 => ?_
  have x25 : Ext w W25 := Puts.ext p25 x24 b6
  refine Qac ?_
  refine hK122 _ _ ?_
  refine Qab ?_
  refine Qaa (.int .i64 3) 40 rfl kj kj ?_
  refine Qaa (.int .i64 3) 26 rfl kj kj ?_
  refine Qac ?_
  show Code.rounds _ _ _ 2 _ _
  show Code.wp _ _ (Exit.then (Code.rounds _ _ _ 1) _) _ _
  refine wp_seq_k fun K124 hK124 => ?_
  refine Qab ?_
  refine Qaa (.bool true) 27 rfl kj kj ?_
  refine Qac ?_
  refine hK124 _ _ ?_
  refine wp_seq_k fun K125 hK125 => ?_
  refine cond_true kj ?_
  refine wp_skip ?_
  refine hK125 _ _ ?_
  refine wp_seq_k fun K126 hK126 => ?_
  refine wp_block ?_
  refine wp_seq_k fun K127 hK127 => ?_
  refine Qab ?_
  refine Qaa (.int .i64 3) 28 rfl kj kj ?_
  refine Qaa (.int .i64 3) 7 rfl kj kj ?_
  refine Qac ?_
  refine hK127 _ _ ?_
  refine Qab ?_
  refine Qaa (.int .i64 4) 29 rfl kj kj ?_
  refine Qaa (.int .i64 16) 30 rfl kj kj ?_
  refine Qaa (.int .i64 3) 31 rfl kj kj ?_
  refine Qaa (.int .i64 19) 32 rfl kj kj ?_
  refine Qaa (.int .u32 (wv s5.e)) 33 rfl kj kj ?_
  refine Qaa (.int .i64 3) 34 rfl kj kj ?_
  refine Qaa (.int .i64 24) 35 rfl kj kj ?_
  refine Qaa (.int .i64 0) 36 rfl kj kj ?_
  refine Qaa (.int .u32 (wv ((s5.e) >>> 0))) 37 rfl kj (Qa1 .shr _ _ _ _ .u32 .i64 _ _ _ rfl kj kj (QaO _ _ _ _ _ _ (by decide) (Qbc _ _ 0 rfl (by decide)))) ?_
  refine Qaa (.int .u8 (((s5.e.toNat / 1 % 256 : Nat) : Int))) 38 rfl kj (Qah (u := .int .u8 (IntKind.u8.wrap (wv ((s5.e) >>> 0)))) kj (congrArg (Value.int .u8) (QaP s5.e 0 1 (by decide)))) ?_
  refine Qaa (.pointer (some ⟨g6, 19, none⟩)) 39 rfl kj kj ?_
  refine Qaj g6 _ (ints .u8 ([(((s5.a.toNat / 16777216 % 256 : Nat) : Int)), (((s5.a.toNat / 65536 % 256 : Nat) : Int)), (((s5.a.toNat / 256 % 256 : Nat) : Int)), (((s5.a.toNat / 1 % 256 : Nat) : Int)), (((s5.b.toNat / 16777216 % 256 : Nat) : Int)), (((s5.b.toNat / 65536 % 256 : Nat) : Int)), (((s5.b.toNat / 256 % 256 : Nat) : Int)), (((s5.b.toNat / 1 % 256 : Nat) : Int)), (((s5.c.toNat / 16777216 % 256 : Nat) : Int)), (((s5.c.toNat / 65536 % 256 : Nat) : Int)), (((s5.c.toNat / 256 % 256 : Nat) : Int)), (((s5.c.toNat / 1 % 256 : Nat) : Int)), (((s5.d.toNat / 16777216 % 256 : Nat) : Int)), (((s5.d.toNat / 65536 % 256 : Nat) : Int)), (((s5.d.toNat / 256 % 256 : Nat) : Int)), (((s5.d.toNat / 1 % 256 : Nat) : Int)), (((s5.e.toNat / 16777216 % 256 : Nat) : Int)), (((s5.e.toNat / 65536 % 256 : Nat) : Int)), (((s5.e.toNat / 256 % 256 : Nat) : Int)), (((s5.e.toNat / 1 % 256 : Nat) : Int)), 0, 0, 0, 0, 0, 0, 0, 0, 0, 0, 0, 0])) 23 r6_25 rfl kj (Qaw 5 _ _ g6 19 23 _ _ r6_25 rfl kj kj kj (show 19 < 32 by decide)) fun W26 p26 r6_26 => ?_
  have x26 : Ext w W26 := Puts.ext p26 x25 b6
  refine Qac ?_
  refine hK126 _ _ ?_
  refine Qab ?_
  refine Qaa (.int .i64 4) 40 rfl kj kj ?_
  refine Qaa (.int .i64 4) 26 rfl kj kj ?_
  refine Qac ?_
  show Code.rounds _ _ _ 1 _ _
  show Code.wp _ _ (Exit.then (Code.rounds _ _ _ 0) _) _ _
  refine wp_seq_k fun K128 hK128 => ?_
  refine Qab ?_
  refine Qaa (.bool false) 27 rfl kj kj ?_
  refine Qac ?_
  refine hK128 _ _ ?_
  refine wp_seq_k fun K129 hK129 => ?_
  refine cond_false kj ?_
  refine wp_exit ?_
  refine hK109 _ _ ?_
  refine Qab ?_
  refine Qaa (.int .i64 5) 41 rfl kj kj ?_
  refine Qaa (.int .i64 5) 22 rfl kj kj ?_
  refine Qac ?_
  show Code.rounds _ _ _ 4 _ _
  show Code.wp _ _ (Exit.then (Code.rounds _ _ _ 3) _) _ _
  refine wp_seq_k fun K130 hK130 => ?_
  refine Qab ?_
  refine Qaa (.bool true) 23 rfl kj kj ?_
  refine Qac ?_
  refine hK130 _ _ ?_
  refine wp_seq_k fun K131 hK131 => ?_
  refine cond_true kj ?_
  refine wp_skip ?_
  refine hK131 _ _ ?_
  refine wp_seq_k fun K132 hK132 => ?_
  refine wp_block ?_
  refine wp_seq_k fun K133 hK133 => ?_
  refine Qab ?_
  refine Qaa (.int .i64 5) 24 rfl kj kj ?_
  refine Qaa (.int .u32 (wv s5.f)) 25 rfl kj (Qaz 114 _ _ .i64 .u32 ([wv s5.a, wv s5.b, wv s5.c, wv s5.d, wv s5.e, wv s5.f, wv s5.g, wv s5.h]) 5 8 113 (wv s5.f) rfl kj kj kj kj kj rfl (by decide) rfl) ?_
  refine Qaa (.int .i64 5) 5 rfl kj kj ?_
  refine Qaa (.int .u32 (wv s5.f)) 6 rfl kj kj ?_
  refine Qac ?_
  refine hK133 _ _ ?_
  refine wp_seq_k fun K134 hK134 => ?_
  refine Qab ?_
  refine Qaa (.int .i64 0) 26 rfl kj kj ?_
  refine Qac ?_
  refine hK134 _ _ ?_
  refine wp_block ?_
  refine wp_loop_rounds 5 ?_
  show Code.wp _ _ (Exit.then (Code.rounds _ _ _ 4) _) _ _
  refine wp_seq_k fun K135 hK135 => ?_
  refine Qab ?_
  refine Qaa (.bool true) 27 rfl kj kj ?_
  refine Qac ?_
  refine hK135 _ _ ?_
  refine wp_seq_k fun K136 hK136 => ?_
  refine cond_true kj ?_
  refine wp_skip ?_
  refine hK136 _ _ ?_
  refine wp_seq_k fun K137 hK137 => ?_
  refine wp_block ?_
  refine wp_seq_k fun K138 hK138 => ?_
  refine Qab ?_
  refine Qaa (.int .i64 0) 28 rfl kj kj ?_
  refine Qaa (.int .i64 0) 7 rfl kj kj ?_
  refine Qac ?_
  refine hK138 _ _ ?_
  refine Qab ?_
  refine Qaa (.int .i64 5) 29 rfl kj kj ?_
  refine Qaa (.int .i64 20) 30 rfl kj kj ?_
  refine Qaa (.int .i64 0) 31 rfl kj kj ?_
  refine Qaa (.int .i64 20) 32 rfl kj kj ?_
  refine Qaa (.int .u32 (wv s5.f)) 33 rfl kj kj ?_
  refine Qaa (.int .i64 0) 34 rfl kj kj ?_
  refine Qaa (.int .i64 0) 35 rfl kj kj ?_
  refine Qaa (.int .i64 24) 36 rfl kj kj ?_
  refine Qaa (.int .u32 (wv ((s5.f) >>> 24))) 37 rfl kj (Qa1 .shr _ _ _ _ .u32 .i64 _ _ _ rfl kj kj (QaO _ _ _ _ _ _ (by decide) (Qbc _ _ 24 rfl (by decide)))) ?_
  refine Qaa (.int .u8 (((s5.f.toNat / 16777216 % 256 : Nat) : Int))) 38 rfl kj (Qah (u := .int .u8 (IntKind.u8.wrap (wv ((s5.f) >>> 24)))) kj (congrArg (Value.int .u8) (QaP s5.f 24 16777216 (by decide)))) ?_
  refine Qaa (.pointer (some ⟨g6, 20, none⟩)) 39 rfl kj kj ?_
  refine Qaj g6 _ (ints .u8 ([(((s5.a.toNat / 16777216 % 256 : Nat) : Int)), (((s5.a.toNat / 65536 % 256 : Nat) : Int)), (((s5.a.toNat / 256 % 256 : Nat) : Int)), (((s5.a.toNat / 1 % 256 : Nat) : Int)), (((s5.b.toNat / 16777216 % 256 : Nat) : Int)), (((s5.b.toNat / 65536 % 256 : Nat) : Int)), (((s5.b.toNat / 256 % 256 : Nat) : Int)), (((s5.b.toNat / 1 % 256 : Nat) : Int)), (((s5.c.toNat / 16777216 % 256 : Nat) : Int)), (((s5.c.toNat / 65536 % 256 : Nat) : Int)), (((s5.c.toNat / 256 % 256 : Nat) : Int)), (((s5.c.toNat / 1 % 256 : Nat) : Int)), (((s5.d.toNat / 16777216 % 256 : Nat) : Int)), (((s5.d.toNat / 65536 % 256 : Nat) : Int)), (((s5.d.toNat / 256 % 256 : Nat) : Int)), (((s5.d.toNat / 1 % 256 : Nat) : Int)), (((s5.e.toNat / 16777216 % 256 : Nat) : Int)), (((s5.e.toNat / 65536 % 256 : Nat) : Int)), (((s5.e.toNat / 256 % 256 : Nat) : Int)), (((s5.e.toNat / 1 % 256 : Nat) : Int)), (((s5.f.toNat / 16777216 % 256 : Nat) : Int)), 0, 0, 0, 0, 0, 0, 0, 0, 0, 0, 0])) 23 r6_26 rfl kj (Qaw 5 _ _ g6 20 23 _ _ r6_26 rfl kj kj kj (show 20 < 32 by decide)) fun W27 p27 r6_27 => ?_
  have x27 : Ext w W27 := Puts.ext p27 x26 b6
  refine Qac ?_
  refine hK137 _ _ ?_
  refine Qab ?_
  refine Qaa (.int .i64 1) 40 rfl kj kj ?_
  refine Qaa (.int .i64 1) 26 rfl kj kj ?_
  refine Qac ?_
  show Code.rounds _ _ _ 4 _ _
  show Code.wp _ _ (Exit.then (Code.rounds _ _ _ 3) _) _ _
  refine wp_seq_k fun K139 hK139 => ?_
  refine Qab ?_
  refine Qaa (.bool true) 27 rfl kj kj ?_
  refine Qac ?_
  refine hK139 _ _ ?_
  refine wp_seq_k fun K140 hK140 => ?_
  refine cond_true kj ?_
  refine wp_skip ?_
  refine hK140 _ _ ?_
  refine wp_seq_k fun K141 hK141 => ?_
  refine wp_block ?_
  refine wp_seq_k fun K142 hK142 => ?_
  refine Qab ?_
  refine Qaa (.int .i64 1) 28 rfl kj kj ?_
  refine Qaa (.int .i64 1) 7 rfl kj kj ?_
  refine Qac ?_
  refine hK142 _ _ ?_
  refine Qab ?_
  refine Qaa (.int .i64 5) 29 rfl kj kj ?_
  refine Qaa (.int .i64 20) 30 rfl kj kj ?_
  refine Qaa (.int .i64 1) 31 rfl kj kj ?_
  refine Qaa (.int .i64 21) 32 rfl kj kj ?_
  refine Qaa (.int .u32 (wv s5.f)) 33 rfl kj kj ?_
  refine Qaa (.int .i64 1) 34 rfl kj kj ?_
  refine Qaa (.int .i64 8) 35 rfl kj kj ?_
  refine Qaa (.int .i64 16) 36 rfl kj kj ?_
  refine Qaa (.int .u32 (wv ((s5.f) >>> 16))) 37 rfl kj (Qa1 .shr _ _ _ _ .u32 .i64 _ _ _ rfl kj kj (QaO _ _ _ _ _ _ (by decide) (Qbc _ _ 16 rfl (by decide)))) ?_
  refine Qaa (.int .u8 (((s5.f.toNat / 65536 % 256 : Nat) : Int))) 38 rfl kj (Qah (u := .int .u8 (IntKind.u8.wrap (wv ((s5.f) >>> 16)))) kj (congrArg (Value.int .u8) (QaP s5.f 16 65536 (by decide)))) ?_
  refine Qaa (.pointer (some ⟨g6, 21, none⟩)) 39 rfl kj kj ?_
  refine Qaj g6 _ (ints .u8 ([(((s5.a.toNat / 16777216 % 256 : Nat) : Int)), (((s5.a.toNat / 65536 % 256 : Nat) : Int)), (((s5.a.toNat / 256 % 256 : Nat) : Int)), (((s5.a.toNat / 1 % 256 : Nat) : Int)), (((s5.b.toNat / 16777216 % 256 : Nat) : Int)), (((s5.b.toNat / 65536 % 256 : Nat) : Int)), (((s5.b.toNat / 256 % 256 : Nat) : Int)), (((s5.b.toNat / 1 % 256 : Nat) : Int)), (((s5.c.toNat / 16777216 % 256 : Nat) : Int)), (((s5.c.toNat / 65536 % 256 : Nat) : Int)), (((s5.c.toNat / 256 % 256 : Nat) : Int)), (((s5.c.toNat / 1 % 256 : Nat) : Int)), (((s5.d.toNat / 16777216 % 256 : Nat) : Int)), (((s5.d.toNat / 65536 % 256 : Nat) : Int)), (((s5.d.toNat / 256 % 256 : Nat) : Int)), (((s5.d.toNat / 1 % 256 : Nat) : Int)), (((s5.e.toNat / 16777216 % 256 : Nat) : Int)), (((s5.e.toNat / 65536 % 256 : Nat) : Int)), (((s5.e.toNat / 256 % 256 : Nat) : Int)), (((s5.e.toNat / 1 % 256 : Nat) : Int)), (((s5.f.toNat / 16777216 % 256 : Nat) : Int)), (((s5.f.toNat / 65536 % 256 : Nat) : Int)), 0, 0, 0, 0, 0, 0, 0, 0, 0, 0])) 23 r6_27 rfl kj (Qaw 5 _ _ g6 21 23 _ _ r6_27 rfl kj kj kj (show 21 < 32 by decide)) fun W28 p28 r6_28 => ?_
  have x28 : Ext w W28 := Puts.ext p28 x27 b6
  refine Qac ?_
  refine hK141 _ _ ?_
  refine Qab ?_
  refine Qaa (.int .i64 2) 40 rfl kj kj ?_
  refine Qaa (.int .i64 2) 26 rfl kj kj ?_
  refine Qac ?_
  show Code.rounds _ _ _ 3 _ _
  show Code.wp _ _ (Exit.then (Code.rounds _ _ _ 2) _) _ _
  refine wp_seq_k fun K143 hK143 => ?_
  refine Qab ?_
  refine Qaa (.bool true) 27 rfl kj kj ?_
  refine Qac ?_
  refine hK143 _ _ ?_
  refine wp_seq_k fun K144 hK144 => ?_
  refine cond_true kj ?_
  refine wp_skip ?_
  refine hK144 _ _ ?_
  refine wp_seq_k fun K145 hK145 => ?_
  refine wp_block ?_
  refine wp_seq_k fun K146 hK146 => ?_
  refine Qab ?_
  refine Qaa (.int .i64 2) 28 rfl kj kj ?_
  refine Qaa (.int .i64 2) 7 rfl kj kj ?_
  refine Qac ?_
  refine hK146 _ _ ?_
  refine Qab ?_
  refine Qaa (.int .i64 5) 29 rfl kj kj ?_
  refine Qaa (.int .i64 20) 30 rfl kj kj ?_
  refine Qaa (.int .i64 2) 31 rfl kj kj ?_
  refine Qaa (.int .i64 22) 32 rfl kj kj ?_
  refine Qaa (.int .u32 (wv s5.f)) 33 rfl kj kj ?_
  refine Qaa (.int .i64 2) 34 rfl kj kj ?_
  refine Qaa (.int .i64 16) 35 rfl kj kj ?_
  refine Qaa (.int .i64 8) 36 rfl kj kj ?_
  refine Qaa (.int .u32 (wv ((s5.f) >>> 8))) 37 rfl kj (Qa1 .shr _ _ _ _ .u32 .i64 _ _ _ rfl kj kj (QaO _ _ _ _ _ _ (by decide) (Qbc _ _ 8 rfl (by decide)))) ?_
  refine Qaa (.int .u8 (((s5.f.toNat / 256 % 256 : Nat) : Int))) 38 rfl kj (Qah (u := .int .u8 (IntKind.u8.wrap (wv ((s5.f) >>> 8)))) kj (congrArg (Value.int .u8) (QaP s5.f 8 256 (by decide)))) ?_
  refine Qaa (.pointer (some ⟨g6, 22, none⟩)) 39 rfl kj kj ?_
  refine Qaj g6 _ (ints .u8 ([(((s5.a.toNat / 16777216 % 256 : Nat) : Int)), (((s5.a.toNat / 65536 % 256 : Nat) : Int)), (((s5.a.toNat / 256 % 256 : Nat) : Int)), (((s5.a.toNat / 1 % 256 : Nat) : Int)), (((s5.b.toNat / 16777216 % 256 : Nat) : Int)), (((s5.b.toNat / 65536 % 256 : Nat) : Int)), (((s5.b.toNat / 256 % 256 : Nat) : Int)), (((s5.b.toNat / 1 % 256 : Nat) : Int)), (((s5.c.toNat / 16777216 % 256 : Nat) : Int)), (((s5.c.toNat / 65536 % 256 : Nat) : Int)), (((s5.c.toNat / 256 % 256 : Nat) : Int)), (((s5.c.toNat / 1 % 256 : Nat) : Int)), (((s5.d.toNat / 16777216 % 256 : Nat) : Int)), (((s5.d.toNat / 65536 % 256 : Nat) : Int)), (((s5.d.toNat / 256 % 256 : Nat) : Int)), (((s5.d.toNat / 1 % 256 : Nat) : Int)), (((s5.e.toNat / 16777216 % 256 : Nat) : Int)), (((s5.e.toNat / 65536 % 256 : Nat) : Int)), (((s5.e.toNat / 256 % 256 : Nat) : Int)), (((s5.e.toNat / 1 % 256 : Nat) : Int)), (((s5.f.toNat / 16777216 % 256 : Nat) : Int)), (((s5.f.toNat / 65536 % 256 : Nat) : Int)), (((s5.f.toNat / 256 % 256 : Nat) : Int)), 0, 0, 0, 0, 0, 0, 0, 0, 0])) 23 r6_28 rfl kj (Qaw 5 _ _ g6 22 23 _ _ r6_28 rfl kj kj kj (show 22 < 32 by decide)) fun W29 p29 r6_29 => ?_
  have x29 : Ext w W29 := Puts.ext p29 x28 b6
  refine Qac ?_
  refine hK145 _ _ ?_
  refine Qab ?_
  refine Qaa (.int .i64 3) 40 rfl kj kj ?_
  refine Qaa (.int .i64 3) 26 rfl kj kj ?_
  refine Qac ?_
  show Code.rounds _ _ _ 2 _ _
  show Code.wp _ _ (Exit.then (Code.rounds _ _ _ 1) _) _ _
  refine wp_seq_k fun K147 hK147 => ?_
  refine Qab ?_
  refine Qaa (.bool true) 27 rfl kj kj ?_
  refine Qac ?_
  refine hK147 _ _ ?_
  refine wp_seq_k fun K148 hK148 => ?_
  refine cond_true kj ?_
  refine wp_skip ?_
  refine hK148 _ _ ?_
  refine wp_seq_k fun K149 hK149 => ?_
  refine wp_block ?_
  refine wp_seq_k fun K150 hK150 => ?_
  refine Qab ?_
  refine Qaa (.int .i64 3) 28 rfl kj kj ?_
  refine Qaa (.int .i64 3) 7 rfl kj kj ?_
  refine Qac ?_
  refine hK150 _ _ ?_
  refine Qab ?_
  refine Qaa (.int .i64 5) 29 rfl kj kj ?_
  refine Qaa (.int .i64 20) 30 rfl kj kj ?_
  refine Qaa (.int .i64 3) 31 rfl kj kj ?_
  refine Qaa (.int .i64 23) 32 rfl kj kj ?_
  refine Qaa (.int .u32 (wv s5.f)) 33 rfl kj kj ?_
  refine Qaa (.int .i64 3) 34 rfl kj kj ?_
  refine Qaa (.int .i64 24) 35 rfl kj kj ?_
  refine Qaa (.int .i64 0) 36 rfl kj kj ?_
  refine Qaa (.int .u32 (wv ((s5.f) >>> 0))) 37 rfl kj (Qa1 .shr _ _ _ _ .u32 .i64 _ _ _ rfl kj kj (QaO _ _ _ _ _ _ (by decide) (Qbc _ _ 0 rfl (by decide)))) ?_
  refine Qaa (.int .u8 (((s5.f.toNat / 1 % 256 : Nat) : Int))) 38 rfl kj (Qah (u := .int .u8 (IntKind.u8.wrap (wv ((s5.f) >>> 0)))) kj (congrArg (Value.int .u8) (QaP s5.f 0 1 (by decide)))) ?_
  refine Qaa (.pointer (some ⟨g6, 23, none⟩)) 39 rfl kj kj ?_
  refine Qaj g6 _ (ints .u8 ([(((s5.a.toNat / 16777216 % 256 : Nat) : Int)), (((s5.a.toNat / 65536 % 256 : Nat) : Int)), (((s5.a.toNat / 256 % 256 : Nat) : Int)), (((s5.a.toNat / 1 % 256 : Nat) : Int)), (((s5.b.toNat / 16777216 % 256 : Nat) : Int)), (((s5.b.toNat / 65536 % 256 : Nat) : Int)), (((s5.b.toNat / 256 % 256 : Nat) : Int)), (((s5.b.toNat / 1 % 256 : Nat) : Int)), (((s5.c.toNat / 16777216 % 256 : Nat) : Int)), (((s5.c.toNat / 65536 % 256 : Nat) : Int)), (((s5.c.toNat / 256 % 256 : Nat) : Int)), (((s5.c.toNat / 1 % 256 : Nat) : Int)), (((s5.d.toNat / 16777216 % 256 : Nat) : Int)), (((s5.d.toNat / 65536 % 256 : Nat) : Int)), (((s5.d.toNat / 256 % 256 : Nat) : Int)), (((s5.d.toNat / 1 % 256 : Nat) : Int)), (((s5.e.toNat / 16777216 % 256 : Nat) : Int)), (((s5.e.toNat / 65536 % 256 : Nat) : Int)), (((s5.e.toNat / 256 % 256 : Nat) : Int)), (((s5.e.toNat / 1 % 256 : Nat) : Int)), (((s5.f.toNat / 16777216 % 256 : Nat) : Int)), (((s5.f.toNat / 65536 % 256 : Nat) : Int)), (((s5.f.toNat / 256 % 256 : Nat) : Int)), (((s5.f.toNat / 1 % 256 : Nat) : Int)), 0, 0, 0, 0, 0, 0, 0, 0])) 23 r6_29 rfl kj (Qaw 5 _ _ g6 23 23 _ _ r6_29 rfl kj kj kj (show 23 < 32 by decide)) fun W30 p30 r6_30 => ?_
  have x30 : Ext w W30 := Puts.ext p30 x29 b6
  refine Qac ?_
  refine hK149 _ _ ?_
  refine Qab ?_
  refine Qaa (.int .i64 4) 40 rfl kj kj ?_
  refine Qaa (.int .i64 4) 26 rfl kj kj ?_
  refine Qac ?_
  show Code.rounds _ _ _ 1 _ _
  show Code.wp _ _ (Exit.then (Code.rounds _ _ _ 0) _) _ _
  refine wp_seq_k fun K151 hK151 => ?_
  refine Qab ?_
  refine Qaa (.bool false) 27 rfl kj kj ?_
  refine Qac ?_
  refine hK151 _ _ ?_
  refine wp_seq_k fun K152 hK152 => ?_
  refine cond_false kj ?_
  refine wp_exit ?_
  refine hK132 _ _ ?_
  refine Qab ?_
  refine Qaa (.int .i64 6) 41 rfl kj kj ?_
  refine Qaa (.int .i64 6) 22 rfl kj kj ?_
  refine Qac ?_
  show Code.rounds _ _ _ 3 _ _
  show Code.wp _ _ (Exit.then (Code.rounds _ _ _ 2) _) _ _
  refine wp_seq_k fun K153 hK153 => ?_
  refine Qab ?_
  refine Qaa (.bool true) 23 rfl kj kj ?_
  refine Qac ?_
  refine hK153 _ _ ?_
  refine wp_seq_k fun K154 hK154 => ?_
  refine cond_true kj ?_
  refine wp_skip ?_
  refine hK154 _ _ ?_
  refine wp_seq_k fun K155 hK155 => ?_
  refine wp_block ?_
  refine wp_seq_k fun K156 hK156 => ?_
  refine Qab ?_
  refine Qaa (.int .i64 6) 24 rfl kj kj ?_
  refine Qaa (.int .u32 (wv s5.g)) 25 rfl kj (Qaz 114 _ _ .i64 .u32 ([wv s5.a, wv s5.b, wv s5.c, wv s5.d, wv s5.e, wv s5.f, wv s5.g, wv s5.h]) 6 8 113 (wv s5.g) rfl kj kj kj kj kj rfl (by decide) rfl) ?_
  refine Qaa (.int .i64 6) 5 rfl kj kj ?_
  refine Qaa (.int .u32 (wv s5.g)) 6 rfl kj kj ?_
  refine Qac ?_
  refine hK156 _ _ ?_
  refine wp_seq_k fun K157 hK157 => ?_
  refine Qab ?_
  refine Qaa (.int .i64 0) 26 rfl kj kj ?_
  refine Qac ?_
  refine hK157 _ _ ?_
  refine wp_block ?_
  refine wp_loop_rounds 5 ?_
  show Code.wp _ _ (Exit.then (Code.rounds _ _ _ 4) _) _ _
  refine wp_seq_k fun K158 hK158 => ?_
  refine Qab ?_
  refine Qaa (.bool true) 27 rfl kj kj ?_
  refine Qac ?_
  refine hK158 _ _ ?_
  refine wp_seq_k fun K159 hK159 => ?_
  refine cond_true kj ?_
  refine wp_skip ?_
  refine hK159 _ _ ?_
  refine wp_seq_k fun K160 hK160 => ?_
  refine wp_block ?_
  refine wp_seq_k fun K161 hK161 => ?_
  refine Qab ?_
  refine Qaa (.int .i64 0) 28 rfl kj kj ?_
  refine Qaa (.int .i64 0) 7 rfl kj kj ?_
  refine Qac ?_
  refine hK161 _ _ ?_
  refine Qab ?_
  refine Qaa (.int .i64 6) 29 rfl kj kj ?_
  refine Qaa (.int .i64 24) 30 rfl kj kj ?_
  refine Qaa (.int .i64 0) 31 rfl kj kj ?_
  refine Qaa (.int .i64 24) 32 rfl kj kj ?_
  refine Qaa (.int .u32 (wv s5.g)) 33 rfl kj kj ?_
  refine Qaa (.int .i64 0) 34 rfl kj kj ?_
  refine Qaa (.int .i64 0) 35 rfl kj kj ?_
  refine Qaa (.int .i64 24) 36 rfl kj kj ?_
  refine Qaa (.int .u32 (wv ((s5.g) >>> 24))) 37 rfl kj (Qa1 .shr _ _ _ _ .u32 .i64 _ _ _ rfl kj kj (QaO _ _ _ _ _ _ (by decide) (Qbc _ _ 24 rfl (by decide)))) ?_
  refine Qaa (.int .u8 (((s5.g.toNat / 16777216 % 256 : Nat) : Int))) 38 rfl kj (Qah (u := .int .u8 (IntKind.u8.wrap (wv ((s5.g) >>> 24)))) kj (congrArg (Value.int .u8) (QaP s5.g 24 16777216 (by decide)))) ?_
  refine Qaa (.pointer (some ⟨g6, 24, none⟩)) 39 rfl kj kj ?_
  refine Qaj g6 _ (ints .u8 ([(((s5.a.toNat / 16777216 % 256 : Nat) : Int)), (((s5.a.toNat / 65536 % 256 : Nat) : Int)), (((s5.a.toNat / 256 % 256 : Nat) : Int)), (((s5.a.toNat / 1 % 256 : Nat) : Int)), (((s5.b.toNat / 16777216 % 256 : Nat) : Int)), (((s5.b.toNat / 65536 % 256 : Nat) : Int)), (((s5.b.toNat / 256 % 256 : Nat) : Int)), (((s5.b.toNat / 1 % 256 : Nat) : Int)), (((s5.c.toNat / 16777216 % 256 : Nat) : Int)), (((s5.c.toNat / 65536 % 256 : Nat) : Int)), (((s5.c.toNat / 256 % 256 : Nat) : Int)), (((s5.c.toNat / 1 % 256 : Nat) : Int)), (((s5.d.toNat / 16777216 % 256 : Nat) : Int)), (((s5.d.toNat / 65536 % 256 : Nat) : Int)), (((s5.d.toNat / 256 % 256 : Nat) : Int)), (((s5.d.toNat / 1 % 256 : Nat) : Int)), (((s5.e.toNat / 16777216 % 256 : Nat) : Int)), (((s5.e.toNat / 65536 % 256 : Nat) : Int)), (((s5.e.toNat / 256 % 256 : Nat) : Int)), (((s5.e.toNat / 1 % 256 : Nat) : Int)), (((s5.f.toNat / 16777216 % 256 : Nat) : Int)), (((s5.f.toNat / 65536 % 256 : Nat) : Int)), (((s5.f.toNat / 256 % 256 : Nat) : Int)), (((s5.f.toNat / 1 % 256 : Nat) : Int)), (((s5.g.toNat / 16777216 % 256 : Nat) : Int)), 0, 0, 0, 0, 0, 0, 0])) 23 r6_30 rfl kj (Qaw 5 _ _ g6 24 23 _ _ r6_30 rfl kj kj kj (show 24 < 32 by decide)) fun W31 p31 r6_31 => ?_
  have x31 : Ext w W31 := Puts.ext p31 x30 b6
  refine Qac ?_
  refine hK160 _ _ ?_
  refine Qab ?_
  refine Qaa (.int .i64 1) 40 rfl kj kj ?_
  refine Qaa (.int .i64 1) 26 rfl kj kj ?_
  refine Qac ?_
  show Code.rounds _ _ _ 4 _ _
  show Code.wp _ _ (Exit.then (Code.rounds _ _ _ 3) _) _ _
  refine wp_seq_k fun K162 hK162 => ?_
  refine Qab ?_
  refine Qaa (.bool true) 27 rfl kj kj ?_
  refine Qac ?_
  refine hK162 _ _ ?_
  refine wp_seq_k fun K163 hK163 => ?_
  refine cond_true kj ?_
  refine wp_skip ?_
  refine hK163 _ _ ?_
  refine wp_seq_k fun K164 hK164 => ?_
  refine wp_block ?_
  refine wp_seq_k fun K165 hK165 => ?_
  refine Qab ?_
  refine Qaa (.int .i64 1) 28 rfl kj kj ?_
  refine Qaa (.int .i64 1) 7 rfl kj kj ?_
  refine Qac ?_
  refine hK165 _ _ ?_
  refine Qab ?_
  refine Qaa (.int .i64 6) 29 rfl kj kj ?_
  refine Qaa (.int .i64 24) 30 rfl kj kj ?_
  refine Qaa (.int .i64 1) 31 rfl kj kj ?_
  refine Qaa (.int .i64 25) 32 rfl kj kj ?_
  refine Qaa (.int .u32 (wv s5.g)) 33 rfl kj kj ?_
  refine Qaa (.int .i64 1) 34 rfl kj kj ?_
  refine Qaa (.int .i64 8) 35 rfl kj kj ?_
  refine Qaa (.int .i64 16) 36 rfl kj kj ?_
  refine Qaa (.int .u32 (wv ((s5.g) >>> 16))) 37 rfl kj (Qa1 .shr _ _ _ _ .u32 .i64 _ _ _ rfl kj kj (QaO _ _ _ _ _ _ (by decide) (Qbc _ _ 16 rfl (by decide)))) ?_
  refine Qaa (.int .u8 (((s5.g.toNat / 65536 % 256 : Nat) : Int))) 38 rfl kj (Qah (u := .int .u8 (IntKind.u8.wrap (wv ((s5.g) >>> 16)))) kj (congrArg (Value.int .u8) (QaP s5.g 16 65536 (by decide)))) ?_
  refine Qaa (.pointer (some ⟨g6, 25, none⟩)) 39 rfl kj kj ?_
  refine Qaj g6 _ (ints .u8 ([(((s5.a.toNat / 16777216 % 256 : Nat) : Int)), (((s5.a.toNat / 65536 % 256 : Nat) : Int)), (((s5.a.toNat / 256 % 256 : Nat) : Int)), (((s5.a.toNat / 1 % 256 : Nat) : Int)), (((s5.b.toNat / 16777216 % 256 : Nat) : Int)), (((s5.b.toNat / 65536 % 256 : Nat) : Int)), (((s5.b.toNat / 256 % 256 : Nat) : Int)), (((s5.b.toNat / 1 % 256 : Nat) : Int)), (((s5.c.toNat / 16777216 % 256 : Nat) : Int)), (((s5.c.toNat / 65536 % 256 : Nat) : Int)), (((s5.c.toNat / 256 % 256 : Nat) : Int)), (((s5.c.toNat / 1 % 256 : Nat) : Int)), (((s5.d.toNat / 16777216 % 256 : Nat) : Int)), (((s5.d.toNat / 65536 % 256 : Nat) : Int)), (((s5.d.toNat / 256 % 256 : Nat) : Int)), (((s5.d.toNat / 1 % 256 : Nat) : Int)), (((s5.e.toNat / 16777216 % 256 : Nat) : Int)), (((s5.e.toNat / 65536 % 256 : Nat) : Int)), (((s5.e.toNat / 256 % 256 : Nat) : Int)), (((s5.e.toNat / 1 % 256 : Nat) : Int)), (((s5.f.toNat / 16777216 % 256 : Nat) : Int)), (((s5.f.toNat / 65536 % 256 : Nat) : Int)), (((s5.f.toNat / 256 % 256 : Nat) : Int)), (((s5.f.toNat / 1 % 256 : Nat) : Int)), (((s5.g.toNat / 16777216 % 256 : Nat) : Int)), (((s5.g.toNat / 65536 % 256 : Nat) : Int)), 0, 0, 0, 0, 0, 0])) 23 r6_31 rfl kj (Qaw 5 _ _ g6 25 23 _ _ r6_31 rfl kj kj kj (show 25 < 32 by decide)) fun W32 p32 r6_32 => ?_
  have x32 : Ext w W32 := Puts.ext p32 x31 b6
  refine Qac ?_
  refine hK164 _ _ ?_
  refine Qab ?_
  refine Qaa (.int .i64 2) 40 rfl kj kj ?_
  refine Qaa (.int .i64 2) 26 rfl kj kj ?_
  refine Qac ?_
  show Code.rounds _ _ _ 3 _ _
  show Code.wp _ _ (Exit.then (Code.rounds _ _ _ 2) _) _ _
  refine wp_seq_k fun K166 hK166 => ?_
  refine Qab ?_
  refine Qaa (.bool true) 27 rfl kj kj ?_
  refine Qac ?_
  refine hK166 _ _ ?_
  refine wp_seq_k fun K167 hK167 => ?_
  refine cond_true kj ?_
  refine wp_skip ?_
  refine hK167 _ _ ?_
  refine wp_seq_k fun K168 hK168 => ?_
  refine wp_block ?_
  refine wp_seq_k fun K169 hK169 => ?_
  refine Qab ?_
  refine Qaa (.int .i64 2) 28 rfl kj kj ?_
  refine Qaa (.int .i64 2) 7 rfl kj kj ?_
  refine Qac ?_
  refine hK169 _ _ ?_
  refine Qab ?_
  refine Qaa (.int .i64 6) 29 rfl kj kj ?_
  refine Qaa (.int .i64 24) 30 rfl kj kj ?_
  refine Qaa (.int .i64 2) 31 rfl kj kj ?_
  refine Qaa (.int .i64 26) 32 rfl kj kj ?_
  refine Qaa (.int .u32 (wv s5.g)) 33 rfl kj kj ?_
  refine Qaa (.int .i64 2) 34 rfl kj kj ?_
  refine Qaa (.int .i64 16) 35 rfl kj kj ?_
  refine Qaa (.int .i64 8) 36 rfl kj kj ?_
  refine Qaa (.int .u32 (wv ((s5.g) >>> 8))) 37 rfl kj (Qa1 .shr _ _ _ _ .u32 .i64 _ _ _ rfl kj kj (QaO _ _ _ _ _ _ (by decide) (Qbc _ _ 8 rfl (by decide)))) ?_
  refine Qaa (.int .u8 (((s5.g.toNat / 256 % 256 : Nat) : Int))) 38 rfl kj (Qah (u := .int .u8 (IntKind.u8.wrap (wv ((s5.g) >>> 8)))) kj (congrArg (Value.int .u8) (QaP s5.g 8 256 (by decide)))) ?_
  refine Qaa (.pointer (some ⟨g6, 26, none⟩)) 39 rfl kj kj ?_
  refine Qaj g6 _ (ints .u8 ([(((s5.a.toNat / 16777216 % 256 : Nat) : Int)), (((s5.a.toNat / 65536 % 256 : Nat) : Int)), (((s5.a.toNat / 256 % 256 : Nat) : Int)), (((s5.a.toNat / 1 % 256 : Nat) : Int)), (((s5.b.toNat / 16777216 % 256 : Nat) : Int)), (((s5.b.toNat / 65536 % 256 : Nat) : Int)), (((s5.b.toNat / 256 % 256 : Nat) : Int)), (((s5.b.toNat / 1 % 256 : Nat) : Int)), (((s5.c.toNat / 16777216 % 256 : Nat) : Int)), (((s5.c.toNat / 65536 % 256 : Nat) : Int)), (((s5.c.toNat / 256 % 256 : Nat) : Int)), (((s5.c.toNat / 1 % 256 : Nat) : Int)), (((s5.d.toNat / 16777216 % 256 : Nat) : Int)), (((s5.d.toNat / 65536 % 256 : Nat) : Int)), (((s5.d.toNat / 256 % 256 : Nat) : Int)), (((s5.d.toNat / 1 % 256 : Nat) : Int)), (((s5.e.toNat / 16777216 % 256 : Nat) : Int)), (((s5.e.toNat / 65536 % 256 : Nat) : Int)), (((s5.e.toNat / 256 % 256 : Nat) : Int)), (((s5.e.toNat / 1 % 256 : Nat) : Int)), (((s5.f.toNat / 16777216 % 256 : Nat) : Int)), (((s5.f.toNat / 65536 % 256 : Nat) : Int)), (((s5.f.toNat / 256 % 256 : Nat) : Int)), (((s5.f.toNat / 1 % 256 : Nat) : Int)), (((s5.g.toNat / 16777216 % 256 : Nat) : Int)), (((s5.g.toNat / 65536 % 256 : Nat) : Int)), (((s5.g.toNat / 256 % 256 : Nat) : Int)), 0, 0, 0, 0, 0])) 23 r6_32 rfl kj (Qaw 5 _ _ g6 26 23 _ _ r6_32 rfl kj kj kj (show 26 < 32 by decide)) fun W33 p33 r6_33 => ?_
  have x33 : Ext w W33 := Puts.ext p33 x32 b6
  refine Qac ?_
  refine hK168 _ _ ?_
  refine Qab ?_
  refine Qaa (.int .i64 3) 40 rfl kj kj ?_
  refine Qaa (.int .i64 3) 26 rfl kj kj ?_
  refine Qac ?_
  show Code.rounds _ _ _ 2 _ _
  show Code.wp _ _ (Exit.then (Code.rounds _ _ _ 1) _) _ _
  refine wp_seq_k fun K170 hK170 => ?_
  refine Qab ?_
  refine Qaa (.bool true) 27 rfl kj kj ?_
  refine Qac ?_
  refine hK170 _ _ ?_
  refine wp_seq_k fun K171 hK171 => ?_
  refine cond_true kj ?_
  refine wp_skip ?_
  refine hK171 _ _ ?_
  refine wp_seq_k fun K172 hK172 => ?_
  refine wp_block ?_
  refine wp_seq_k fun K173 hK173 => ?_
  refine Qab ?_
  refine Qaa (.int .i64 3) 28 rfl kj kj ?_
  refine Qaa (.int .i64 3) 7 rfl kj kj ?_
  refine Qac ?_
  refine hK173 _ _ ?_
  refine Qab ?_
  refine Qaa (.int .i64 6) 29 rfl kj kj ?_
  refine Qaa (.int .i64 24) 30 rfl kj kj ?_
  refine Qaa (.int .i64 3) 31 rfl kj kj ?_
  refine Qaa (.int .i64 27) 32 rfl kj kj ?_
  refine Qaa (.int .u32 (wv s5.g)) 33 rfl kj kj ?_
  refine Qaa (.int .i64 3) 34 rfl kj kj ?_
  refine Qaa (.int .i64 24) 35 rfl kj kj ?_
  refine Qaa (.int .i64 0) 36 rfl kj kj ?_
  refine Qaa (.int .u32 (wv ((s5.g) >>> 0))) 37 rfl kj (Qa1 .shr _ _ _ _ .u32 .i64 _ _ _ rfl kj kj (QaO _ _ _ _ _ _ (by decide) (Qbc _ _ 0 rfl (by decide)))) ?_
  refine Qaa (.int .u8 (((s5.g.toNat / 1 % 256 : Nat) : Int))) 38 rfl kj (Qah (u := .int .u8 (IntKind.u8.wrap (wv ((s5.g) >>> 0)))) kj (congrArg (Value.int .u8) (QaP s5.g 0 1 (by decide)))) ?_
  refine Qaa (.pointer (some ⟨g6, 27, none⟩)) 39 rfl kj kj ?_
  refine Qaj g6 _ (ints .u8 ([(((s5.a.toNat / 16777216 % 256 : Nat) : Int)), (((s5.a.toNat / 65536 % 256 : Nat) : Int)), (((s5.a.toNat / 256 % 256 : Nat) : Int)), (((s5.a.toNat / 1 % 256 : Nat) : Int)), (((s5.b.toNat / 16777216 % 256 : Nat) : Int)), (((s5.b.toNat / 65536 % 256 : Nat) : Int)), (((s5.b.toNat / 256 % 256 : Nat) : Int)), (((s5.b.toNat / 1 % 256 : Nat) : Int)), (((s5.c.toNat / 16777216 % 256 : Nat) : Int)), (((s5.c.toNat / 65536 % 256 : Nat) : Int)), (((s5.c.toNat / 256 % 256 : Nat) : Int)), (((s5.c.toNat / 1 % 256 : Nat) : Int)), (((s5.d.toNat / 16777216 % 256 : Nat) : Int)), (((s5.d.toNat / 65536 % 256 : Nat) : Int)), (((s5.d.toNat / 256 % 256 : Nat) : Int)), (((s5.d.toNat / 1 % 256 : Nat) : Int)), (((s5.e.toNat / 16777216 % 256 : Nat) : Int)), (((s5.e.toNat / 65536 % 256 : Nat) : Int)), (((s5.e.toNat / 256 % 256 : Nat) : Int)), (((s5.e.toNat / 1 % 256 : Nat) : Int)), (((s5.f.toNat / 16777216 % 256 : Nat) : Int)), (((s5.f.toNat / 65536 % 256 : Nat) : Int)), (((s5.f.toNat / 256 % 256 : Nat) : Int)), (((s5.f.toNat / 1 % 256 : Nat) : Int)), (((s5.g.toNat / 16777216 % 256 : Nat) : Int)), (((s5.g.toNat / 65536 % 256 : Nat) : Int)), (((s5.g.toNat / 256 % 256 : Nat) : Int)), (((s5.g.toNat / 1 % 256 : Nat) : Int)), 0, 0, 0, 0])) 23 r6_33 rfl kj (Qaw 5 _ _ g6 27 23 _ _ r6_33 rfl kj kj kj (show 27 < 32 by decide)) fun W34 p34 r6_34 => ?_
  have x34 : Ext w W34 := Puts.ext p34 x33 b6
  refine Qac ?_
  refine hK172 _ _ ?_
  refine Qab ?_
  refine Qaa (.int .i64 4) 40 rfl kj kj ?_
  refine Qaa (.int .i64 4) 26 rfl kj kj ?_
  refine Qac ?_
  show Code.rounds _ _ _ 1 _ _
  show Code.wp _ _ (Exit.then (Code.rounds _ _ _ 0) _) _ _
  refine wp_seq_k fun K174 hK174 => ?_
  refine Qab ?_
  refine Qaa (.bool false) 27 rfl kj kj ?_
  refine Qac ?_
  refine hK174 _ _ ?_
  refine wp_seq_k fun K175 hK175 => ?_
  refine cond_false kj ?_
  refine wp_exit ?_
  refine hK155 _ _ ?_
  refine Qab ?_
  refine Qaa (.int .i64 7) 41 rfl kj kj ?_
  refine Qaa (.int .i64 7) 22 rfl kj kj ?_
  refine Qac ?_
  show Code.rounds _ _ _ 2 _ _
  show Code.wp _ _ (Exit.then (Code.rounds _ _ _ 1) _) _ _
  refine wp_seq_k fun K176 hK176 => ?_
  refine Qab ?_
  refine Qaa (.bool true) 23 rfl kj kj ?_
  refine Qac ?_
  refine hK176 _ _ ?_
  refine wp_seq_k fun K177 hK177 => ?_
  refine cond_true kj ?_
  refine wp_skip ?_
  refine hK177 _ _ ?_
  refine wp_seq_k fun K178 hK178 => ?_
  refine wp_block ?_
  refine wp_seq_k fun K179 hK179 => ?_
  refine Qab ?_
  refine Qaa (.int .i64 7) 24 rfl kj kj ?_
  refine Qaa (.int .u32 (wv s5.h)) 25 rfl kj (Qaz 114 _ _ .i64 .u32 ([wv s5.a, wv s5.b, wv s5.c, wv s5.d, wv s5.e, wv s5.f, wv s5.g, wv s5.h]) 7 8 113 (wv s5.h) rfl kj kj kj kj kj rfl (by decide) rfl) ?_
  refine Qaa (.int .i64 7) 5 rfl kj kj ?_
  refine Qaa (.int .u32 (wv s5.h)) 6 rfl kj kj ?_
  refine Qac ?_
  refine hK179 _ _ ?_
  refine wp_seq_k fun K180 hK180 => ?_
  refine Qab ?_
  refine Qaa (.int .i64 0) 26 rfl kj kj ?_
  refine Qac ?_
  refine hK180 _ _ ?_
  refine wp_block ?_
  refine wp_loop_rounds 5 ?_
  show Code.wp _ _ (Exit.then (Code.rounds _ _ _ 4) _) _ _
  refine wp_seq_k fun K181 hK181 => ?_
  refine Qab ?_
  refine Qaa (.bool true) 27 rfl kj kj ?_
  refine Qac ?_
  refine hK181 _ _ ?_
  refine wp_seq_k fun K182 hK182 => ?_
  refine cond_true kj ?_
  refine wp_skip ?_
  refine hK182 _ _ ?_
  refine wp_seq_k fun K183 hK183 => ?_
  refine wp_block ?_
  refine wp_seq_k fun K184 hK184 => ?_
  refine Qab ?_
  refine Qaa (.int .i64 0) 28 rfl kj kj ?_
  refine Qaa (.int .i64 0) 7 rfl kj kj ?_
  refine Qac ?_
  refine hK184 _ _ ?_
  refine Qab ?_
  refine Qaa (.int .i64 7) 29 rfl kj kj ?_
  refine Qaa (.int .i64 28) 30 rfl kj kj ?_
  refine Qaa (.int .i64 0) 31 rfl kj kj ?_
  refine Qaa (.int .i64 28) 32 rfl kj kj ?_
  refine Qaa (.int .u32 (wv s5.h)) 33 rfl kj kj ?_
  refine Qaa (.int .i64 0) 34 rfl kj kj ?_
  refine Qaa (.int .i64 0) 35 rfl kj kj ?_
  refine Qaa (.int .i64 24) 36 rfl kj kj ?_
  refine Qaa (.int .u32 (wv ((s5.h) >>> 24))) 37 rfl kj (Qa1 .shr _ _ _ _ .u32 .i64 _ _ _ rfl kj kj (QaO _ _ _ _ _ _ (by decide) (Qbc _ _ 24 rfl (by decide)))) ?_
  refine Qaa (.int .u8 (((s5.h.toNat / 16777216 % 256 : Nat) : Int))) 38 rfl kj (Qah (u := .int .u8 (IntKind.u8.wrap (wv ((s5.h) >>> 24)))) kj (congrArg (Value.int .u8) (QaP s5.h 24 16777216 (by decide)))) ?_
  refine Qaa (.pointer (some ⟨g6, 28, none⟩)) 39 rfl kj kj ?_
  refine Qaj g6 _ (ints .u8 ([(((s5.a.toNat / 16777216 % 256 : Nat) : Int)), (((s5.a.toNat / 65536 % 256 : Nat) : Int)), (((s5.a.toNat / 256 % 256 : Nat) : Int)), (((s5.a.toNat / 1 % 256 : Nat) : Int)), (((s5.b.toNat / 16777216 % 256 : Nat) : Int)), (((s5.b.toNat / 65536 % 256 : Nat) : Int)), (((s5.b.toNat / 256 % 256 : Nat) : Int)), (((s5.b.toNat / 1 % 256 : Nat) : Int)), (((s5.c.toNat / 16777216 % 256 : Nat) : Int)), (((s5.c.toNat / 65536 % 256 : Nat) : Int)), (((s5.c.toNat / 256 % 256 : Nat) : Int)), (((s5.c.toNat / 1 % 256 : Nat) : Int)), (((s5.d.toNat / 16777216 % 256 : Nat) : Int)), (((s5.d.toNat / 65536 % 256 : Nat) : Int)), (((s5.d.toNat / 256 % 256 : Nat) : Int)), (((s5.d.toNat / 1 % 256 : Nat) : Int)), (((s5.e.toNat / 16777216 % 256 : Nat) : Int)), (((s5.e.toNat / 65536 % 256 : Nat) : Int)), (((s5.e.toNat / 256 % 256 : Nat) : Int)), (((s5.e.toNat / 1 % 256 : Nat) : Int)), (((s5.f.toNat / 16777216 % 256 : Nat) : Int)), (((s5.f.toNat / 65536 % 256 : Nat) : Int)), (((s5.f.toNat / 256 % 256 : Nat) : Int)), (((s5.f.toNat / 1 % 256 : Nat) : Int)), (((s5.g.toNat / 16777216 % 256 : Nat) : Int)), (((s5.g.toNat / 65536 % 256 : Nat) : Int)), (((s5.g.toNat / 256 % 256 : Nat) : Int)), (((s5.g.toNat / 1 % 256 : Nat) : Int)), (((s5.h.toNat / 16777216 % 256 : Nat) : Int)), 0, 0, 0])) 23 r6_34 rfl kj (Qaw 5 _ _ g6 28 23 _ _ r6_34 rfl kj kj kj (show 28 < 32 by decide)) fun W35 p35 r6_35 => ?_
  have x35 : Ext w W35 := Puts.ext p35 x34 b6
  refine Qac ?_
  refine hK183 _ _ ?_
  refine Qab ?_
  refine Qaa (.int .i64 1) 40 rfl kj kj ?_
  refine Qaa (.int .i64 1) 26 rfl kj kj ?_
  refine Qac ?_
  show Code.rounds _ _ _ 4 _ _
  show Code.wp _ _ (Exit.then (Code.rounds _ _ _ 3) _) _ _
  refine wp_seq_k fun K185 hK185 => ?_
  refine Qab ?_
  refine Qaa (.bool true) 27 rfl kj kj ?_
  refine Qac ?_
  refine hK185 _ _ ?_
  refine wp_seq_k fun K186 hK186 => ?_
  refine cond_true kj ?_
  refine wp_skip ?_
  refine hK186 _ _ ?_
  refine wp_seq_k fun K187 hK187 => ?_
  refine wp_block ?_
  refine wp_seq_k fun K188 hK188 => ?_
  refine Qab ?_
  refine Qaa (.int .i64 1) 28 rfl kj kj ?_
  refine Qaa (.int .i64 1) 7 rfl kj kj ?_
  refine Qac ?_
  refine hK188 _ _ ?_
  refine Qab ?_
  refine Qaa (.int .i64 7) 29 rfl kj kj ?_
  refine Qaa (.int .i64 28) 30 rfl kj kj ?_
  refine Qaa (.int .i64 1) 31 rfl kj kj ?_
  refine Qaa (.int .i64 29) 32 rfl kj kj ?_
  refine Qaa (.int .u32 (wv s5.h)) 33 rfl kj kj ?_
  refine Qaa (.int .i64 1) 34 rfl kj kj ?_
  refine Qaa (.int .i64 8) 35 rfl kj kj ?_
  refine Qaa (.int .i64 16) 36 rfl kj kj ?_
  refine Qaa (.int .u32 (wv ((s5.h) >>> 16))) 37 rfl kj (Qa1 .shr _ _ _ _ .u32 .i64 _ _ _ rfl kj kj (QaO _ _ _ _ _ _ (by decide) (Qbc _ _ 16 rfl (by decide)))) ?_
  refine Qaa (.int .u8 (((s5.h.toNat / 65536 % 256 : Nat) : Int))) 38 rfl kj (Qah (u := .int .u8 (IntKind.u8.wrap (wv ((s5.h) >>> 16)))) kj (congrArg (Value.int .u8) (QaP s5.h 16 65536 (by decide)))) ?_
  refine Qaa (.pointer (some ⟨g6, 29, none⟩)) 39 rfl kj kj ?_
  refine Qaj g6 _ (ints .u8 ([(((s5.a.toNat / 16777216 % 256 : Nat) : Int)), (((s5.a.toNat / 65536 % 256 : Nat) : Int)), (((s5.a.toNat / 256 % 256 : Nat) : Int)), (((s5.a.toNat / 1 % 256 : Nat) : Int)), (((s5.b.toNat / 16777216 % 256 : Nat) : Int)), (((s5.b.toNat / 65536 % 256 : Nat) : Int)), (((s5.b.toNat / 256 % 256 : Nat) : Int)), (((s5.b.toNat / 1 % 256 : Nat) : Int)), (((s5.c.toNat / 16777216 % 256 : Nat) : Int)), (((s5.c.toNat / 65536 % 256 : Nat) : Int)), (((s5.c.toNat / 256 % 256 : Nat) : Int)), (((s5.c.toNat / 1 % 256 : Nat) : Int)), (((s5.d.toNat / 16777216 % 256 : Nat) : Int)), (((s5.d.toNat / 65536 % 256 : Nat) : Int)), (((s5.d.toNat / 256 % 256 : Nat) : Int)), (((s5.d.toNat / 1 % 256 : Nat) : Int)), (((s5.e.toNat / 16777216 % 256 : Nat) : Int)), (((s5.e.toNat / 65536 % 256 : Nat) : Int)), (((s5.e.toNat / 256 % 256 : Nat) : Int)), (((s5.e.toNat / 1 % 256 : Nat) : Int)), (((s5.f.toNat / 16777216 % 256 : Nat) : Int)), (((s5.f.toNat / 65536 % 256 : Nat) : Int)), (((s5.f.toNat / 256 % 256 : Nat) : Int)), (((s5.f.toNat / 1 % 256 : Nat) : Int)), (((s5.g.toNat / 16777216 % 256 : Nat) : Int)), (((s5.g.toNat / 65536 % 256 : Nat) : Int)), (((s5.g.toNat / 256 % 256 : Nat) : Int)), (((s5.g.toNat / 1 % 256 : Nat) : Int)), (((s5.h.toNat / 16777216 % 256 : Nat) : Int)), (((s5.h.toNat / 65536 % 256 : Nat) : Int)), 0, 0])) 23 r6_35 rfl kj (Qaw 5 _ _ g6 29 23 _ _ r6_35 rfl kj kj kj (show 29 < 32 by decide)) fun W36 p36 r6_36 => ?_
  have x36 : Ext w W36 := Puts.ext p36 x35 b6
  refine Qac ?_
  refine hK187 _ _ ?_
  refine Qab ?_
  refine Qaa (.int .i64 2) 40 rfl kj kj ?_
  refine Qaa (.int .i64 2) 26 rfl kj kj ?_
  refine Qac ?_
  show Code.rounds _ _ _ 3 _ _
  show Code.wp _ _ (Exit.then (Code.rounds _ _ _ 2) _) _ _
  refine wp_seq_k fun K189 hK189 => ?_
  refine Qab ?_
  refine Qaa (.bool true) 27 rfl kj kj ?_
  refine Qac ?_
  refine hK189 _ _ ?_
  refine wp_seq_k fun K190 hK190 => ?_
  refine cond_true kj ?_
  refine wp_skip ?_
  refine hK190 _ _ ?_
  refine wp_seq_k fun K191 hK191 => ?_
  refine wp_block ?_
  refine wp_seq_k fun K192 hK192 => ?_
  refine Qab ?_
  refine Qaa (.int .i64 2) 28 rfl kj kj ?_
  refine Qaa (.int .i64 2) 7 rfl kj kj ?_
  refine Qac ?_
  refine hK192 _ _ ?_
  refine Qab ?_
  refine Qaa (.int .i64 7) 29 rfl kj kj ?_
  refine Qaa (.int .i64 28) 30 rfl kj kj ?_
  refine Qaa (.int .i64 2) 31 rfl kj kj ?_
  refine Qaa (.int .i64 30) 32 rfl kj kj ?_
  refine Qaa (.int .u32 (wv s5.h)) 33 rfl kj kj ?_
  refine Qaa (.int .i64 2) 34 rfl kj kj ?_
  refine Qaa (.int .i64 16) 35 rfl kj kj ?_
  refine Qaa (.int .i64 8) 36 rfl kj kj ?_
  refine Qaa (.int .u32 (wv ((s5.h) >>> 8))) 37 rfl kj (Qa1 .shr _ _ _ _ .u32 .i64 _ _ _ rfl kj kj (QaO _ _ _ _ _ _ (by decide) (Qbc _ _ 8 rfl (by decide)))) ?_
  refine Qaa (.int .u8 (((s5.h.toNat / 256 % 256 : Nat) : Int))) 38 rfl kj (Qah (u := .int .u8 (IntKind.u8.wrap (wv ((s5.h) >>> 8)))) kj (congrArg (Value.int .u8) (QaP s5.h 8 256 (by decide)))) ?_
  refine Qaa (.pointer (some ⟨g6, 30, none⟩)) 39 rfl kj kj ?_
  refine Qaj g6 _ (ints .u8 ([(((s5.a.toNat / 16777216 % 256 : Nat) : Int)), (((s5.a.toNat / 65536 % 256 : Nat) : Int)), (((s5.a.toNat / 256 % 256 : Nat) : Int)), (((s5.a.toNat / 1 % 256 : Nat) : Int)), (((s5.b.toNat / 16777216 % 256 : Nat) : Int)), (((s5.b.toNat / 65536 % 256 : Nat) : Int)), (((s5.b.toNat / 256 % 256 : Nat) : Int)), (((s5.b.toNat / 1 % 256 : Nat) : Int)), (((s5.c.toNat / 16777216 % 256 : Nat) : Int)), (((s5.c.toNat / 65536 % 256 : Nat) : Int)), (((s5.c.toNat / 256 % 256 : Nat) : Int)), (((s5.c.toNat / 1 % 256 : Nat) : Int)), (((s5.d.toNat / 16777216 % 256 : Nat) : Int)), (((s5.d.toNat / 65536 % 256 : Nat) : Int)), (((s5.d.toNat / 256 % 256 : Nat) : Int)), (((s5.d.toNat / 1 % 256 : Nat) : Int)), (((s5.e.toNat / 16777216 % 256 : Nat) : Int)), (((s5.e.toNat / 65536 % 256 : Nat) : Int)), (((s5.e.toNat / 256 % 256 : Nat) : Int)), (((s5.e.toNat / 1 % 256 : Nat) : Int)), (((s5.f.toNat / 16777216 % 256 : Nat) : Int)), (((s5.f.toNat / 65536 % 256 : Nat) : Int)), (((s5.f.toNat / 256 % 256 : Nat) : Int)), (((s5.f.toNat / 1 % 256 : Nat) : Int)), (((s5.g.toNat / 16777216 % 256 : Nat) : Int)), (((s5.g.toNat / 65536 % 256 : Nat) : Int)), (((s5.g.toNat / 256 % 256 : Nat) : Int)), (((s5.g.toNat / 1 % 256 : Nat) : Int)), (((s5.h.toNat / 16777216 % 256 : Nat) : Int)), (((s5.h.toNat / 65536 % 256 : Nat) : Int)), (((s5.h.toNat / 256 % 256 : Nat) : Int)), 0])) 23 r6_36 rfl kj (Qaw 5 _ _ g6 30 23 _ _ r6_36 rfl kj kj kj (show 30 < 32 by decide)) fun W37 p37 r6_37 => ?_
  have x37 : Ext w W37 := Puts.ext p37 x36 b6
  refine Qac ?_
  refine hK191 _ _ ?_
  refine Qab ?_
  refine Qaa (.int .i64 3) 40 rfl kj kj ?_
  refine Qaa (.int .i64 3) 26 rfl kj kj ?_
  refine Qac ?_
  show Code.rounds _ _ _ 2 _ _
  show Code.wp _ _ (Exit.then (Code.rounds _ _ _ 1) _) _ _
  refine wp_seq_k fun K193 hK193 => ?_
  refine Qab ?_
  refine Qaa (.bool true) 27 rfl kj kj ?_
  refine Qac ?_
  refine hK193 _ _ ?_
  refine wp_seq_k fun K194 hK194 => ?_
  refine cond_true kj ?_
  refine wp_skip ?_
  refine hK194 _ _ ?_
  refine wp_seq_k fun K195 hK195 => ?_
  refine wp_block ?_
  refine wp_seq_k fun K196 hK196 => ?_
  refine Qab ?_
  refine Qaa (.int .i64 3) 28 rfl kj kj ?_
  refine Qaa (.int .i64 3) 7 rfl kj kj ?_
  refine Qac ?_
  refine hK196 _ _ ?_
  refine Qab ?_
  refine Qaa (.int .i64 7) 29 rfl kj kj ?_
  refine Qaa (.int .i64 28) 30 rfl kj kj ?_
  refine Qaa (.int .i64 3) 31 rfl kj kj ?_
  refine Qaa (.int .i64 31) 32 rfl kj kj ?_
  refine Qaa (.int .u32 (wv s5.h)) 33 rfl kj kj ?_
  refine Qaa (.int .i64 3) 34 rfl kj kj ?_
  refine Qaa (.int .i64 24) 35 rfl kj kj ?_
  refine Qaa (.int .i64 0) 36 rfl kj kj ?_
  refine Qaa (.int .u32 (wv ((s5.h) >>> 0))) 37 rfl kj (Qa1 .shr _ _ _ _ .u32 .i64 _ _ _ rfl kj kj (QaO _ _ _ _ _ _ (by decide) (Qbc _ _ 0 rfl (by decide)))) ?_
  refine Qaa (.int .u8 (((s5.h.toNat / 1 % 256 : Nat) : Int))) 38 rfl kj (Qah (u := .int .u8 (IntKind.u8.wrap (wv ((s5.h) >>> 0)))) kj (congrArg (Value.int .u8) (QaP s5.h 0 1 (by decide)))) ?_
  refine Qaa (.pointer (some ⟨g6, 31, none⟩)) 39 rfl kj kj ?_
  refine Qaj g6 _ (ints .u8 ([(((s5.a.toNat / 16777216 % 256 : Nat) : Int)), (((s5.a.toNat / 65536 % 256 : Nat) : Int)), (((s5.a.toNat / 256 % 256 : Nat) : Int)), (((s5.a.toNat / 1 % 256 : Nat) : Int)), (((s5.b.toNat / 16777216 % 256 : Nat) : Int)), (((s5.b.toNat / 65536 % 256 : Nat) : Int)), (((s5.b.toNat / 256 % 256 : Nat) : Int)), (((s5.b.toNat / 1 % 256 : Nat) : Int)), (((s5.c.toNat / 16777216 % 256 : Nat) : Int)), (((s5.c.toNat / 65536 % 256 : Nat) : Int)), (((s5.c.toNat / 256 % 256 : Nat) : Int)), (((s5.c.toNat / 1 % 256 : Nat) : Int)), (((s5.d.toNat / 16777216 % 256 : Nat) : Int)), (((s5.d.toNat / 65536 % 256 : Nat) : Int)), (((s5.d.toNat / 256 % 256 : Nat) : Int)), (((s5.d.toNat / 1 % 256 : Nat) : Int)), (((s5.e.toNat / 16777216 % 256 : Nat) : Int)), (((s5.e.toNat / 65536 % 256 : Nat) : Int)), (((s5.e.toNat / 256 % 256 : Nat) : Int)), (((s5.e.toNat / 1 % 256 : Nat) : Int)), (((s5.f.toNat / 16777216 % 256 : Nat) : Int)), (((s5.f.toNat / 65536 % 256 : Nat) : Int)), (((s5.f.toNat / 256 % 256 : Nat) : Int)), (((s5.f.toNat / 1 % 256 : Nat) : Int)), (((s5.g.toNat / 16777216 % 256 : Nat) : Int)), (((s5.g.toNat / 65536 % 256 : Nat) : Int)), (((s5.g.toNat / 256 % 256 : Nat) : Int)), (((s5.g.toNat / 1 % 256 : Nat) : Int)), (((s5.h.toNat / 16777216 % 256 : Nat) : Int)), (((s5.h.toNat / 65536 % 256 : Nat) : Int)), (((s5.h.toNat / 256 % 256 : Nat) : Int)), (((s5.h.toNat / 1 % 256 : Nat) : Int))])) 23 r6_37 rfl kj (Qaw 5 _ _ g6 31 23 _ _ r6_37 rfl kj kj kj (show 31 < 32 by decide)) fun W38 p38 r6_38 => ?_
  have x38 : Ext w W38 := Puts.ext p38 x37 b6
  refine Qac ?_
  refine hK195 _ _ ?_
  refine Qab ?_
  refine Qaa (.int .i64 4) 40 rfl kj kj ?_
  refine Qaa (.int .i64 4) 26 rfl kj kj ?_
  refine Qac ?_
  show Code.rounds _ _ _ 1 _ _
  show Code.wp _ _ (Exit.then (Code.rounds _ _ _ 0) _) _ _
  refine wp_seq_k fun K197 hK197 => ?_
  refine Qab ?_
  refine Qaa (.bool false) 27 rfl kj kj ?_
  refine Qac ?_
  refine hK197 _ _ ?_
  refine wp_seq_k fun K198 hK198 => ?_
  refine cond_false kj ?_
  refine wp_exit ?_
  refine hK178 _ _ ?_
  refine Qab ?_
  refine Qaa (.int .i64 8) 41 rfl kj kj ?_
  refine Qaa (.int .i64 8) 22 rfl kj kj ?_
  refine Qac ?_
  show Code.rounds _ _ _ 1 _ _
  show Code.wp _ _ (Exit.then (Code.rounds _ _ _ 0) _) _ _
  refine wp_seq_k fun K199 hK199 => ?_
  refine Qab ?_
  refine Qaa (.bool false) 23 rfl kj kj ?_
  refine Qac ?_
  refine hK199 _ _ ?_
  refine wp_seq_k fun K200 hK200 => ?_
  refine cond_false kj ?_
  refine wp_exit ?_
  refine hK13 _ _ ?_
  refine wp_seq_k fun K201 hK201 => ?_
  refine Qab ?_
  refine Qaa (.agg (ints .u8 ([(((s5.a.toNat / 16777216 % 256 : Nat) : Int)), (((s5.a.toNat / 65536 % 256 : Nat) : Int)), (((s5.a.toNat / 256 % 256 : Nat) : Int)), (((s5.a.toNat / 1 % 256 : Nat) : Int)), (((s5.b.toNat / 16777216 % 256 : Nat) : Int)), (((s5.b.toNat / 65536 % 256 : Nat) : Int)), (((s5.b.toNat / 256 % 256 : Nat) : Int)), (((s5.b.toNat / 1 % 256 : Nat) : Int)), (((s5.c.toNat / 16777216 % 256 : Nat) : Int)), (((s5.c.toNat / 65536 % 256 : Nat) : Int)), (((s5.c.toNat / 256 % 256 : Nat) : Int)), (((s5.c.toNat / 1 % 256 : Nat) : Int)), (((s5.d.toNat / 16777216 % 256 : Nat) : Int)), (((s5.d.toNat / 65536 % 256 : Nat) : Int)), (((s5.d.toNat / 256 % 256 : Nat) : Int)), (((s5.d.toNat / 1 % 256 : Nat) : Int)), (((s5.e.toNat / 16777216 % 256 : Nat) : Int)), (((s5.e.toNat / 65536 % 256 : Nat) : Int)), (((s5.e.toNat / 256 % 256 : Nat) : Int)), (((s5.e.toNat / 1 % 256 : Nat) : Int)), (((s5.f.toNat / 16777216 % 256 : Nat) : Int)), (((s5.f.toNat / 65536 % 256 : Nat) : Int)), (((s5.f.toNat / 256 % 256 : Nat) : Int)), (((s5.f.toNat / 1 % 256 : Nat) : Int)), (((s5.g.toNat / 16777216 % 256 : Nat) : Int)), (((s5.g.toNat / 65536 % 256 : Nat) : Int)), (((s5.g.toNat / 256 % 256 : Nat) : Int)), (((s5.g.toNat / 1 % 256 : Nat) : Int)), (((s5.h.toNat / 16777216 % 256 : Nat) : Int)), (((s5.h.toNat / 65536 % 256 : Nat) : Int)), (((s5.h.toNat / 256 % 256 : Nat) : Int)), (((s5.h.toNat / 1 % 256 : Nat) : Int))]))) 42 rfl kj (Qay 23 _ g6 23 _ _ r6_38 rfl kj kj (isz (n := 32) kj kj)) ?_
  have r4_2 := (Qad r4_1 e2)
  have r4_3 := (Qad r4_2 e3)
  have r4_4 := (Puts.row p4 r4_3 (Qag r4_2 l10))
  have r4_5 := (Qad r4_4 e5)
  have r4_6 := (ExtB.row q6 r4_5 (Qag r4_2 l10))
  have r4_7 := (Puts.row p7 r4_6 (Qag r4_1 l6))
  have r4_8 := (Puts.row p8 r4_7 (Qag r4_1 l6))
  have r4_9 := (Puts.row p9 r4_8 (Qag r4_1 l6))
  have r4_10 := (Puts.row p10 r4_9 (Qag r4_1 l6))
  have r4_11 := (Puts.row p11 r4_10 (Qag r4_1 l6))
  have r4_12 := (Puts.row p12 r4_11 (Qag r4_1 l6))
  have r4_13 := (Puts.row p13 r4_12 (Qag r4_1 l6))
  have r4_14 := (Puts.row p14 r4_13 (Qag r4_1 l6))
  have r4_15 := (Puts.row p15 r4_14 (Qag r4_1 l6))
  have r4_16 := (Puts.row p16 r4_15 (Qag r4_1 l6))
  have r4_17 := (Puts.row p17 r4_16 (Qag r4_1 l6))
  have r4_18 := (Puts.row p18 r4_17 (Qag r4_1 l6))
  have r4_19 := (Puts.row p19 r4_18 (Qag r4_1 l6))
  have r4_20 := (Puts.row p20 r4_19 (Qag r4_1 l6))
  have r4_21 := (Puts.row p21 r4_20 (Qag r4_1 l6))
  have r4_22 := (Puts.row p22 r4_21 (Qag r4_1 l6))
  have r4_23 := (Puts.row p23 r4_22 (Qag r4_1 l6))
  have r4_24 := (Puts.row p24 r4_23 (Qag r4_1 l6))
  have r4_25 := (Puts.row p25 r4_24 (Qag r4_1 l6))
  have r4_26 := (Puts.row p26 r4_25 (Qag r4_1 l6))
  have r4_27 := (Puts.row p27 r4_26 (Qag r4_1 l6))
  have r4_28 := (Puts.row p28 r4_27 (Qag r4_1 l6))
  have r4_29 := (Puts.row p29 r4_28 (Qag r4_1 l6))
  have r4_30 := (Puts.row p30 r4_29 (Qag r4_1 l6))
  have r4_31 := (Puts.row p31 r4_30 (Qag r4_1 l6))
  have r4_32 := (Puts.row p32 r4_31 (Qag r4_1 l6))
  have r4_33 := (Puts.row p33 r4_32 (Qag r4_1 l6))
  have r4_34 := (Puts.row p34 r4_33 (Qag r4_1 l6))
  have r4_35 := (Puts.row p35 r4_34 (Qag r4_1 l6))
  have r4_36 := (Puts.row p36 r4_35 (Qag r4_1 l6))
  have r4_37 := (Puts.row p37 r4_36 (Qag r4_1 l6))
  have r4_38 := (Puts.row p38 r4_37 (Qag r4_1 l6))
  refine Qaj g4 _ (ints .u8 ([(((s5.a.toNat / 16777216 % 256 : Nat) : Int)), (((s5.a.toNat / 65536 % 256 : Nat) : Int)), (((s5.a.toNat / 256 % 256 : Nat) : Int)), (((s5.a.toNat / 1 % 256 : Nat) : Int)), (((s5.b.toNat / 16777216 % 256 : Nat) : Int)), (((s5.b.toNat / 65536 % 256 : Nat) : Int)), (((s5.b.toNat / 256 % 256 : Nat) : Int)), (((s5.b.toNat / 1 % 256 : Nat) : Int)), (((s5.c.toNat / 16777216 % 256 : Nat) : Int)), (((s5.c.toNat / 65536 % 256 : Nat) : Int)), (((s5.c.toNat / 256 % 256 : Nat) : Int)), (((s5.c.toNat / 1 % 256 : Nat) : Int)), (((s5.d.toNat / 16777216 % 256 : Nat) : Int)), (((s5.d.toNat / 65536 % 256 : Nat) : Int)), (((s5.d.toNat / 256 % 256 : Nat) : Int)), (((s5.d.toNat / 1 % 256 : Nat) : Int)), (((s5.e.toNat / 16777216 % 256 : Nat) : Int)), (((s5.e.toNat / 65536 % 256 : Nat) : Int)), (((s5.e.toNat / 256 % 256 : Nat) : Int)), (((s5.e.toNat / 1 % 256 : Nat) : Int)), (((s5.f.toNat / 16777216 % 256 : Nat) : Int)), (((s5.f.toNat / 65536 % 256 : Nat) : Int)), (((s5.f.toNat / 256 % 256 : Nat) : Int)), (((s5.f.toNat / 1 % 256 : Nat) : Int)), (((s5.g.toNat / 16777216 % 256 : Nat) : Int)), (((s5.g.toNat / 65536 % 256 : Nat) : Int)), (((s5.g.toNat / 256 % 256 : Nat) : Int)), (((s5.g.toNat / 1 % 256 : Nat) : Int)), (((s5.h.toNat / 16777216 % 256 : Nat) : Int)), (((s5.h.toNat / 65536 % 256 : Nat) : Int)), (((s5.h.toNat / 256 % 256 : Nat) : Int)), (((s5.h.toNat / 1 % 256 : Nat) : Int))])) 23 r4_38 rfl kj (Qap 23 _ _ g4 23 _ _ r4_38 rfl kj kj (isz (n := 32) kj kj) (eqsz (n := 32) kj kj) (Qa0 _ _)) fun W39 p39 r4_39 => ?_
  have x39 : Ext w W39 := Puts.ext p39 x38 b4
  refine Qac ?_
  refine hK201 _ _ ?_
  refine wp_ret ?_
  repeat (first | with_reducible refine goR1 ?_ | with_reducible refine goR2 ?_)
  exact (show bodyPost _ _ _ .ret _ _ from ret1 (.agg (ints .u8 ([(((s5.a.toNat / 16777216 % 256 : Nat) : Int)), (((s5.a.toNat / 65536 % 256 : Nat) : Int)), (((s5.a.toNat / 256 % 256 : Nat) : Int)), (((s5.a.toNat / 1 % 256 : Nat) : Int)), (((s5.b.toNat / 16777216 % 256 : Nat) : Int)), (((s5.b.toNat / 65536 % 256 : Nat) : Int)), (((s5.b.toNat / 256 % 256 : Nat) : Int)), (((s5.b.toNat / 1 % 256 : Nat) : Int)), (((s5.c.toNat / 16777216 % 256 : Nat) : Int)), (((s5.c.toNat / 65536 % 256 : Nat) : Int)), (((s5.c.toNat / 256 % 256 : Nat) : Int)), (((s5.c.toNat / 1 % 256 : Nat) : Int)), (((s5.d.toNat / 16777216 % 256 : Nat) : Int)), (((s5.d.toNat / 65536 % 256 : Nat) : Int)), (((s5.d.toNat / 256 % 256 : Nat) : Int)), (((s5.d.toNat / 1 % 256 : Nat) : Int)), (((s5.e.toNat / 16777216 % 256 : Nat) : Int)), (((s5.e.toNat / 65536 % 256 : Nat) : Int)), (((s5.e.toNat / 256 % 256 : Nat) : Int)), (((s5.e.toNat / 1 % 256 : Nat) : Int)), (((s5.f.toNat / 16777216 % 256 : Nat) : Int)), (((s5.f.toNat / 65536 % 256 : Nat) : Int)), (((s5.f.toNat / 256 % 256 : Nat) : Int)), (((s5.f.toNat / 1 % 256 : Nat) : Int)), (((s5.g.toNat / 16777216 % 256 : Nat) : Int)), (((s5.g.toNat / 65536 % 256 : Nat) : Int)), (((s5.g.toNat / 256 % 256 : Nat) : Int)), (((s5.g.toNat / 1 % 256 : Nat) : Int)), (((s5.h.toNat / 16777216 % 256 : Nat) : Int)), (((s5.h.toNat / 65536 % 256 : Nat) : Int)), (((s5.h.toNat / 256 % 256 : Nat) : Int)), (((s5.h.toNat / 1 % 256 : Nat) : Int))]))) rfl (QaL g4 23 _ r4_39 kj kj (isz (n := 32) kj kj)) ⟨by rw [show dig t = s5.out by rw [hs5]; rfl]; rfl, x39⟩)
end Go.Proofs.YtibegnjaphohaaaDoor.Sha
end
section
namespace Go.Proofs.YtibegnjaphohaaaDoor.Sha
open Go Go.RowKit
open Rely Auto Own
set_option linter.unusedVariables false
set_option linter.unusedSimpArgs false
def pat (ps : List (Value × List Int)) (i : Nat) : Value × List Int := ps.getD i (undef, [])
def flat (ps : List (Value × List Int)) (i : Nat) : List Int := ((ps.take i).map Prod.snd).flatten
theorem QgJ {ps : List (Value × List Int)} {i : Nat} (h : i < ps.length) : pat ps i = ps[i] := by simp [pat, h]
theorem Qei {ps : List (Value × List Int)} {i : Nat} (h : i < ps.length) : pat ps i ∈ ps := by rw [QgJ h]; exact List.getElem_mem h
theorem Qij {ps : List (Value × List Int)} {i : Nat} (h : i < ps.length) : (ps.map Prod.fst).toArray[i]? = some (pat ps i).1 := by
  rw [QgJ h]; simp [h]
theorem Qd9 {ps : List (Value × List Int)} {i : Nat} (h : i < ps.length) : flat ps (i + 1) = flat ps i ++ (pat ps i).2 := by
  unfold flat
  rw [List.take_add_one, List.getElem?_eq_getElem h, QgJ h, List.map_append, List.flatten_append]
  show _ ++ [ps[i].2].flatten = _
  rw [List.flatten_singleton]
theorem QcJ {ps : List (Value × List Int)} {n : Nat} (h : ps.length = n) : flat ps n = (ps.map Prod.snd).flatten := by
  subst h; simp [flat]
theorem Qha {ps : List (Value × List Int)} {i : Nat} (h : i < ps.length) : (flat ps i).length + (pat ps i).2.length ≤ ((ps.map Prod.snd).flatten).length := by
  have e : (flat ps (i + 1)).length = (flat ps i).length + (pat ps i).2.length := by rw [Qd9 h, List.length_append]
  rw [← e]
  have : (ps.map Prod.snd).flatten = flat ps (i + 1) ++ ((ps.drop (i + 1)).map Prod.snd).flatten := by
    unfold flat
    rw [← List.flatten_append, ← List.map_append, List.take_append_drop]
  rw [this, List.length_append]; omega
theorem Qi1 (s : S8) : s.out.length = 32 := rfl
theorem Qbd (t : List Int) : (dig t).length = 32 := Qi1 _
set_option maxHeartbeats 4000000 in
theorem Qih (gp n : Nat) (Tp : TypeId) (ps : List (Value × List Int)) (hn : ps.length = n) (hn9 : n ≤ 1000000) (tc tq : TypeId) (w : World) (hc : w.heap[2]? = some (.cells (ints .u64 QaD) tc)) (hq : w.heap[1]? = some (.cells (ints .u64 Qam) tq)) (hrow : w.heap[gp]? = some (.cells (ps.map Prod.fst).toArray Tp)) (hps : ∀ p ∈ ps, RdK .u8 w.heap.size p.2 p.1 w ∧ Qao p.2) (hlen : ((ps.map Prod.snd).flatten).length ≤ 900000000) : Calls Tryd.prog 73 #[.slice (some ⟨gp, 0, none⟩) n n] w (Ret w (.agg (ints .u8 (dig ((ps.map Prod.snd).flatten))))) := by
 refine enter 19 [(0, .slice (some ⟨gp, 0, none⟩) n n)] Tryd.func73 rfl rfl kj rfl ?_
 refine wp_seq_k fun K4 hK4 => ?_
 refine Qab ?_
 refine Qas (ints .u8 (List.replicate 32 0)) 23 2 rfl kj kj fun g5 W1 l5 e1 r5_1 => ?_
 have x1 : Ext w W1 := Ext.tr (Rely.Ext.refl w) e1
 have b5 : w.heap.size ≤ g5 := Nat.le_trans (Rely.Ext.refl w).size l5
 refine Qac ?_
 refine hK4 _ _ ?_
 refine wp_seq_k fun K6 hK6 => ?_
 refine Qab ?_
 have r2_1 := (Qad hq e1)
 refine Qa8 (fun v W' => (fun v W => ∃ g, v = .pointer (some ⟨g, 0, none⟩) ∧ W1.heap.size ≤ g ∧ HasD g [] W) v W' ∧ Ext W1 W') 70 #[] 6 rfl kj kj ((newC tq _ r2_1).mono (by rintro e w' ⟨v, rfl, e1, hv⟩; exact ⟨v, rfl, hv, e1⟩)) fun vv7 W2 hh7 => ?_
 obtain ⟨hv7, e2⟩ := hh7
 have x2 : Ext w W2 := Ext.tr x1 e2
 obtain ⟨gd8, rfl, ld8, hD8⟩ := hv7
 have b8 : w.heap.size ≤ gd8 := Nat.le_trans x1.size ld8
 refine Qaa (.pointer (some ⟨gd8, 0, none⟩)) 3 rfl kj kj ?_
 refine Qac ?_
 refine hK6 _ _ ?_
 refine wp_seq_k fun K9 hK9 => ?_
 refine wp_seq_k fun K10 hK10 => ?_
 refine Qab ?_
 refine Qaa (.slice (some ⟨gp, 0, none⟩) n n) 7 rfl kj kj ?_
 refine Qaa (.int .i64 ((n : Nat) : Int)) 8 rfl kj kj ?_
 refine Qaa (.int .i64 0) 9 rfl kj kj ?_
 refine Qac ?_
 refine hK10 _ _ ?_
 refine wp_block ?_
 refine QaM (fun (s1 : Nat) => [(7, .slice (some ⟨gp, 0, none⟩) n n), (8, .int .i64 ((n : Nat) : Int)), (9, .int .i64 ((s1 : Nat) : Int)), (3, .pointer (some ⟨gd8, 0, none⟩)), (2, .pointer (some ⟨g5, 0, none⟩))]) (fun (s1 : Nat) W => (s1 ≤ n) ∧ (HasD gd8 (flat ps s1) W) ∧ (Qai [gd8] W2 W) ∧ (Ext w W)) (fun (s1 : Nat) => n - s1) 0 ⟨rfl, rfl, rfl, rfl, rfl, trivial⟩ ⟨(Nat.zero_le _), (show HasD _ (flat ps 0) _ from hD8), (Qai.refl [gd8] W2), x2⟩ fun s1 X1 V1 hI1 => ?_
 obtain ⟨i, hs1⟩ : ∃ z, z = s1 := ⟨_, rfl⟩
 subst hs1
 obtain ⟨hi, hDi, kk1, xx1⟩ := hI1
 replace hi : i ≤ n := hi
 replace hDi : HasD gd8 (flat ps i) V1 := hDi
 replace kk1 : Qai [gd8] W2 V1 := kk1
 replace xx1 : Ext w V1 := xx1
 have q3 := kk1
 refine wp_seq_k fun K11 hK11 => ?_
 refine Qab ?_
 refine Qaa (.bool (decide (((i : Nat) : Int) < ((n : Nat) : Int)))) 10 rfl kj kj ?_
 refine Qac ?_
 refine hK11 _ _ ?_
 refine wp_seq_k fun K12 hK12 => ?_
 refine QaE (t := decide (((i : Nat) : Int) < ((n : Nat) : Int))) kj (fun c13 => ?_) (fun c13 => ?_)
 ·skip
  have hlt10 : i < n := by have := of_decide_eq_true c13; omega
  refine wp_skip ?_
  refine hK12 _ _ ?_
  refine wp_seq_k fun K14 hK14 => ?_
  refine wp_block ?_
  refine wp_seq_k fun K15 hK15 => ?_
  refine Qab ?_
  have hi2 : i < ps.length := by omega
  refine Qaa (.pointer (some ⟨gp, i, none⟩)) 11 rfl kj (QbC 121 _ _ .i64 i gp n n 38 rfl kj kj kj kj hlt10) ?_
  have r3_1 := (Qad hrow e1)
  have r3_2 := (Qad r3_1 e2)
  have r3_3 := (Qai.row q3 r3_2 (Qan (Qag r3_1 ld8) Qa6))
  refine Qaa ((pat ps i).1) 12 rfl kj (Qcn 38 _ _ ((pat ps i).1) (QbY r3_3 (Qij hi2)) rfl kj kj) ?_
  refine Qaa ((pat ps i).1) 5 rfl kj kj ?_
  refine Qac ?_
  refine hK15 _ _ ?_
  refine Qab ?_
  refine Qaa (.pointer (some ⟨gd8, 0, none⟩)) 13 rfl kj kj ?_
  refine Qaa ((pat ps i).1) 14 rfl kj kj ?_
  have r1_1 := (Qad hc e1)
  have r1_2 := (Qad r1_1 e2)
  have r1_3 := (Qai.row q3 r1_2 (Qan (Qag r1_1 ld8) Qa6))
  have hp6 := (hps _ (Qei hi2)).1.ext xx1
  have hl6 := Qha hi2
  refine Qa8 (fun v W' => v = .tuple #[] ∧ ExtB gd8 V1 W' ∧ HasD gd8 ((flat ps i) ++ (pat ps i).2) W') 71 #[.pointer (some ⟨gd8, 0, none⟩), (pat ps i).1] 15 rfl kj kj ((addC gd8 _ _ _ _ tc _ r1_3 (Nat.ne_of_lt (Nat.lt_of_lt_of_le (Qar hc) b8)) (hp6.nb b8) (hps _ (Qei hi2)).2 (by omega) hDi hp6).mono fun e w' h => ⟨_, h.1, rfl, h.2⟩) fun v W4 h => ?_
  obtain ⟨rfl, q4, hDn⟩ := h
  have x4 : Ext w W4 := ExtB.up xx1 q4 b8
  refine Qac ?_
  refine hK14 _ _ ?_
  refine Qab ?_
  refine Qaa (.int .i64 ((i + 1 : Nat) : Int)) 16 rfl kj (Qah (u := .int .i64 (IntKind.i64.wrap (((i : Nat) : Int) + 1))) kj (congrArg (Value.int .i64) (i64n _ _ (by omega) (by omega)))) ?_
  refine Qaa (.int .i64 ((i + 1 : Nat) : Int)) 9 rfl kj kj ?_
  refine Qac ?_
  repeat (first | with_reducible refine goX1 ?_ | with_reducible refine goX2 ?_ | with_reducible refine goX3 ?_)
  exact QaB (i + 1) ⟨rfl, rfl, rfl, rfl, rfl, trivial⟩ ⟨(by omega), (by rw [Qd9 hi2]; exact hDn), (Qai.but q3 q4 (.inl (by simp))), x4⟩ (by omega)
 ·skip
  have heq10 : i = n := by have := of_decide_eq_false c13; omega
  refine wp_exit ?_
  refine hK9 _ _ ?_
  refine wp_seq_k fun K16 hK16 => ?_
  refine Qab ?_
  refine Qaa (.pointer (some ⟨gd8, 0, none⟩)) 17 rfl kj kj ?_
  have r1_1 := (Qad hc e1)
  have r1_2 := (Qad r1_1 e2)
  have r1_3 := (Qai.row q3 r1_2 (Qan (Qag r1_1 ld8) Qa6))
  refine Qau (.agg (ints .u8 (dig (flat ps i)))) 72 #[.pointer (some ⟨gd8, 0, none⟩)] 18 rfl kj kj (sumC gd8 _ tc _ r1_3 (by rw [heq10, QcJ hn]; exact hlen) hDi) fun W4 e4 => ?_
  have x4 : Ext w W4 := Ext.tr xx1 e4
  have r5_2 := (Qad r5_1 e2)
  have r5_3 := (Qai.row q3 r5_2 (Qan (Qag r5_1 ld8) Qa6))
  have r5_4 := (Qad r5_3 e4)
  refine Qaj g5 _ (ints .u8 (dig (flat ps i))) 23 r5_4 rfl kj (Qap 23 _ _ g5 23 _ _ r5_4 rfl kj kj (isz (n := 32) kj ((Qaf _ _).trans (Qbd _))) (eqsz (n := 32) ((Qaf _ _).trans (List.length_replicate (n := 32))) ((Qaf _ _).trans (Qbd _))) (Qa0 _ _)) fun W5 p5 r5_5 => ?_
  have x5 : Ext w W5 := Puts.ext p5 x4 b5
  refine Qac ?_
  refine hK16 _ _ ?_
  refine wp_ret ?_
  repeat (first | with_reducible refine goR1 ?_ | with_reducible refine goR2 ?_)
  exact (show bodyPost _ _ _ .ret _ _ from ret1 (.agg (ints .u8 (dig (flat ps i)))) rfl (QaL g5 23 _ r5_5 kj kj (isz (n := 32) kj ((Qaf _ _).trans (Qbd _)))) ⟨by rw [heq10, QcJ hn], x5⟩)
end Go.Proofs.YtibegnjaphohaaaDoor.Sha
end
