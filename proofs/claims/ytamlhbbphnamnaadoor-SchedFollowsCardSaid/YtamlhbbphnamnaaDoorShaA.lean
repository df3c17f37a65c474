/- SHA-256: words turned, a block spread to words. -/
import Derived.Test.YtamlhbbphnamnaaDoorKit3
namespace Go.Proofs.YtamlhbbphnamnaaDoor.Sha
open Go Go.RowKit
open Go.Proofs.YtamlhbbphnamnaaDoor.Rely Go.Proofs.YtamlhbbphnamnaaDoor.Auto Go.Proofs.YtamlhbbphnamnaaDoor.Own
set_option linter.unusedVariables false
set_option linter.unusedSimpArgs false

theorem dummy : True := trivial
theorem wrap_neg (n : Nat) (h0 : 0 < n) (hn : n < 32) : IntKind.u64.wrap (-(n : Int)) = 18446744073709551616 - (n : Int) := by
  have : IntKind.u64.wrap (-(n : Int)) = (-(n : Int)) % 2 ^ 64 := rfl
  rw [this]; omega
theorem and31 : ∀ n : Nat, 0 < n → n < 32 → bits .and .u64 (18446744073709551616 - (n : Int)) 31 = ((32 - n : Nat) : Int) := by
  have h : ∀ n : Fin 32, 0 < n.1 → bits .and .u64 (18446744073709551616 - (n.1 : Int)) 31 = ((32 - n.1 : Nat) : Int) := by decide
  intro n h0 hn
  exact h ⟨n, hn⟩ h0
theorem u64_32 (n : Nat) (hn : n < 32) : IntKind.u64.wrap (32 - ((32 - n : Nat) : Int)) = ((n : Nat) : Int) := by
  have : ∀ z : Int, IntKind.u64.wrap z = z % 2 ^ 64 := fun _ => rfl
  rw [this]; omega
set_option maxHeartbeats 4000000 in
theorem rotC (x : Wd) (n : Nat) (m : Int) (hm : m = -(n : Int)) (h0 : 0 < n) (hn : n < 32) (w : World) : Calls Tryd.prog 61 #[.int .u32 (wv x), .int .i64 m] w (Ret w (.int .u32 (wv (rr x n)))) := by
  refine enter 17 [(0, .int .u32 (wv x)), (1, .int .i64 m)] Tryd.func61 rfl rfl kj rfl ?_
  refine wp_seq_k fun K1 hK1 => ?_
  refine region_lit ?_
  refine seq_val (.int .u32 0) 4 rfl kj kj ?_
  refine seq_nil ?_
  refine hK1 _ _ ?_
  try clear hK1 K1
  refine wp_seq_k fun K2 hK2 => ?_
  refine region_lit ?_
  refine seq_val (.int .i64 m) 6 rfl kj kj ?_
  refine seq_val (.int .u64 (18446744073709551616 - (n : Int))) 7 rfl kj (run_eq (u := .int .u64 (IntKind.u64.wrap (m))) kj (congrArg (Value.int .u64) (by rw [hm]; exact wrap_neg n h0 hn))) ?_
  refine seq_val (.int .u64 (((32 - n : Nat) : Int))) 8 rfl kj (run_eq (u := .int .u64 (bits .and .u64 ((18446744073709551616 - (n : Int))) (31))) kj (congrArg (Value.int .u64) (and31 n h0 hn))) ?_
  refine seq_val (.int .u64 (((32 - n : Nat) : Int))) 5 rfl kj kj ?_
  refine seq_nil ?_
  refine hK2 _ _ ?_
  try clear hK2 K2
  refine wp_seq_k fun K3 hK3 => ?_
  refine region_lit ?_
  refine seq_val (.int .u32 (wv x)) 9 rfl kj kj ?_
  refine seq_val (.int .u64 (((32 - n : Nat) : Int))) 10 rfl kj kj ?_
  refine seq_val (.int .u32 (wv (x <<< (32 - n)))) 11 rfl kj (run_bin .shl _ _ _ _ .u32 .u64 _ _ _ rfl kj kj (b_shl _ _ _ _ _ _ (by omega) (w_shl x _ (32 - n) rfl (by omega)))) ?_
  refine seq_val (.int .u32 (wv x)) 12 rfl kj kj ?_
  refine seq_val (.int .u64 (((32 - n : Nat) : Int))) 13 rfl kj kj ?_
  refine seq_val (.int .u64 (((n : Nat) : Int))) 14 rfl kj (run_eq (u := .int .u64 (IntKind.u64.wrap (32 - ((32 - n : Nat) : Int)))) kj (congrArg (Value.int .u64) (u64_32 n hn))) ?_
  refine seq_val (.int .u32 (wv (x >>> n))) 15 rfl kj (run_bin .shr _ _ _ _ .u32 .u64 _ _ _ rfl kj kj (b_shr _ _ _ _ _ _ (by omega) (w_shr x _ n rfl (by omega)))) ?_
  refine seq_val (.int .u32 (wv (((x <<< (32 - n))) ||| ((x >>> n))))) 16 rfl kj (run_eq (u := .int .u32 (bits .or .u32 (wv (x <<< (32 - n))) (wv (x >>> n)))) kj (congrArg (Value.int .u32) (w_or _ _))) ?_
  refine seq_val (.int .u32 (wv (((x <<< (32 - n))) ||| ((x >>> n))))) 4 rfl kj kj ?_
  refine seq_nil ?_
  refine hK3 _ _ ?_
  try clear hK3 K3
  refine wp_ret ?_
  repeat (first | with_reducible refine goR1 ?_ | with_reducible refine goR2 ?_)
  exact (show bodyPost _ _ _ .ret _ _ from ret1 (.int .u32 (wv (((x <<< (32 - n))) ||| ((x >>> n))))) rfl (res_tmp kj) ⟨rfl, (Rely.Ext.refl w)⟩)
theorem u64_32b (n : Nat) (hn : n < 32) : IntKind.u64.wrap (32 - ((n : Nat) : Int)) = ((32 - n : Nat) : Int) := by
  have : ∀ z : Int, IntKind.u64.wrap z = z % 2 ^ 64 := fun _ => rfl
  rw [this]; omega
set_option maxHeartbeats 4000000 in
theorem turnC (x : Wd) (n : Nat) (m : Int) (hm : m = (n : Int)) (h0 : 0 < n) (hn : n < 32) (w : World) : Calls Tryd.prog 58 #[.int .u32 (wv x), .int .u64 m] w (Ret w (.int .u32 (wv (rr x n)))) := by
  subst hm
  refine enter 13 [(0, .int .u32 (wv x)), (1, .int .u64 ((n : Nat) : Int))] Tryd.func58 rfl rfl kj rfl ?_
  refine wp_seq_k fun K1 hK1 => ?_
  refine region_lit ?_
  refine seq_val (.int .u32 0) 4 rfl kj kj ?_
  refine seq_nil ?_
  refine hK1 _ _ ?_
  try clear hK1 K1
  refine wp_seq_k fun K2 hK2 => ?_
  refine region_lit ?_
  refine seq_val (.int .u32 (wv x)) 5 rfl kj kj ?_
  refine seq_val (.int .u64 ((n : Nat) : Int)) 6 rfl kj kj ?_
  refine seq_val (.int .u32 (wv (x >>> n))) 7 rfl kj (run_bin .shr _ _ _ _ .u32 .u64 _ _ _ rfl kj kj (b_shr _ _ _ _ _ _ (by omega) (w_shr x _ n rfl (by omega)))) ?_
  refine seq_val (.int .u32 (wv x)) 8 rfl kj kj ?_
  refine seq_val (.int .u64 ((n : Nat) : Int)) 9 rfl kj kj ?_
  refine seq_val (.int .u64 (((32 - n : Nat) : Int))) 10 rfl kj (run_eq (u := .int .u64 (IntKind.u64.wrap (32 - ((n : Nat) : Int)))) kj (congrArg (Value.int .u64) (u64_32b n hn))) ?_
  refine seq_val (.int .u32 (wv (x <<< (32 - n)))) 11 rfl kj (run_bin .shl _ _ _ _ .u32 .u64 _ _ _ rfl kj kj (b_shl _ _ _ _ _ _ (by omega) (w_shl x _ (32 - n) rfl (by omega)))) ?_
  refine seq_val (.int .u32 (wv (((x >>> n)) + ((x <<< (32 - n)))))) 12 rfl kj (run_eq (u := .int .u32 (IntKind.u32.wrap (wv (x >>> n) + wv (x <<< (32 - n))))) kj (congrArg (Value.int .u32) (w_add _ _))) ?_
  refine seq_val (.int .u32 (wv (((x >>> n)) + ((x <<< (32 - n)))))) 4 rfl kj kj ?_
  refine seq_nil ?_
  refine hK2 _ _ ?_
  try clear hK2 K2
  refine wp_ret ?_
  repeat (first | with_reducible refine goR1 ?_ | with_reducible refine goR2 ?_)
  exact (show bodyPost _ _ _ .ret _ _ from ret1 (.int .u32 (wv (((x >>> n)) + ((x <<< (32 - n)))))) rfl (res_tmp kj) ⟨congrArg (fun z => Ending.returned (.int .u32 (wv z))) (w_turn x n h0 hn), (Rely.Ext.refl w)⟩)
theorem wmore_len (ws : List Wd) (n : Nat) : (wmore ws n).length = ws.length + n := by
  induction n with
  | zero => rfl
  | succ n ih => simp [wmore, ih]; omega
theorem w16_len (b : List Int) : (w16 b).length = 16 := by simp [w16]
theorem w64_len (b : List Int) : (w64 b).length = 64 := by rw [w64, wmore_len, w16_len]
theorem wmore_get (ws : List Wd) (n m j : Nat) (hj : j < ws.length + n) (hm : n ≤ m) : wget (wmore ws m) j = wget (wmore ws n) j := by
  induction m with
  | zero =>
    obtain rfl : n = 0 := by omega
    rfl
  | succ m ih =>
    rcases Nat.lt_or_ge m n with h | h
    · obtain rfl : n = m + 1 := by omega
      rfl
    · rw [← ih h]
      show wget (wmore ws m ++ _) j = _
      unfold wget
      rw [List.getD_eq_getElem?_getD, List.getElem?_append_left (by rw [wmore_len]; omega), ← List.getD_eq_getElem?_getD]
theorem wmore_last (ws : List Wd) (n : Nat) : wget (wmore ws (n + 1)) (ws.length + n) = wnext (wmore ws n) := by
  show wget (wmore ws n ++ [_]) _ = _
  unfold wget
  rw [List.getD_eq_getElem?_getD, List.getElem?_append_right (by rw [wmore_len]; omega), wmore_len, Nat.sub_self]
  rfl
theorem w64_next (b : List Int) (i : Nat) (h : 16 ≤ i) (hi : i < 64) : wget (w64 b) i = sig1 (wget (w64 b) (i - 2)) + wget (w64 b) (i - 7) + sig0 (wget (w64 b) (i - 15)) + wget (w64 b) (i - 16) := by
  obtain ⟨n, rfl⟩ : ∃ n, i = 16 + n := ⟨i - 16, by omega⟩
  have hl := w16_len b
  have g : ∀ j, j < 16 + n → wget (w64 b) j = wget (wmore (w16 b) n) j := fun j hj => wmore_get (w16 b) n 48 j (by omega) (by omega)
  have g1 : wget (w64 b) (16 + n) = wget (wmore (w16 b) (n + 1)) (16 + n) := wmore_get (w16 b) (n + 1) 48 _ (by omega) (by omega)
  rw [g1, g _ (by omega), g _ (by omega), g _ (by omega), g _ (by omega)]
  have h2 := wmore_last (w16 b) n
  rw [hl] at h2
  rw [h2]
  unfold wnext
  rw [wmore_len, hl]
theorem w64_low (b : List Int) (i : Nat) (hi : i < 16) : wget (w64 b) i = be4 (nth b (4 * i)) (nth b (4 * i + 1)) (nth b (4 * i + 2)) (nth b (4 * i + 3)) := by
  have g1 : wget (w64 b) i = wget (w16 b) i := wmore_get (w16 b) 0 48 i (by rw [w16_len]; omega) (by omega)
  rw [g1]
  unfold wget w16
  rw [List.getD_eq_getElem?_getD, List.getElem?_map, List.getElem?_range hi]
  rfl
/-- the first j bytes of word i -/
def hor (b : List Int) (i : Nat) : Nat → Wd
  | 0 => 0
  | j + 1 => hor b i j <<< 8 ||| BitVec.ofInt 32 (nth b (4 * i + j))
theorem hor_next {b : List Int} (hb : AreBytes b) (i j : Nat) : hor b i j <<< 8 ||| BitVec.ofInt 32 (nth b (4 * i + j)) = hor b i (j + 1) := rfl
theorem or_byte (x : Wd) (n : Int) (h : 0 ≤ n ∧ n ≤ 255) : x <<< 8 ||| BitVec.ofInt 32 n = BitVec.ofInt 32 (wv x * 256 + n) := by
  have e : x <<< 8 ||| BitVec.ofInt 32 n = x <<< 8 + BitVec.ofInt 32 n := by
    refine (BitVec.add_eq_or_of_and_eq_zero _ _ ?_).symm
    apply BitVec.eq_of_getLsbD_eq
    intro i hi
    simp only [BitVec.getLsbD_and, BitVec.getLsbD_shiftLeft, BitVec.getLsbD_zero]
    rcases Nat.lt_or_ge i 8 with h1 | h1
    · simp [h1]
    · have : (BitVec.ofInt 32 n).getLsbD i = false := by
        have hn : (BitVec.ofInt 32 n).toNat < 2 ^ i := by
          have e : (BitVec.ofInt 32 n).toNat = n.toNat := by rw [BitVec.toNat_ofInt]; omega
          rw [e]
          have : 2 ^ 8 ≤ 2 ^ i := Nat.pow_le_pow_right (by decide) h1
          omega
        exact BitVec.testBit_toNat _ ▸ Nat.testBit_lt_two_pow hn
      rw [this, Bool.and_false]
  rw [e]
  apply BitVec.eq_of_toNat_eq
  rw [BitVec.toNat_add, BitVec.toNat_shiftLeft, Nat.shiftLeft_eq, BitVec.toNat_ofInt, BitVec.toNat_ofInt]
  unfold wv
  have := x.isLt
  omega
theorem hor4 {b : List Int} (hb : AreBytes b) (i : Nat) : hor b i 4 = be4 (nth b (4 * i)) (nth b (4 * i + 1)) (nth b (4 * i + 2)) (nth b (4 * i + 3)) := by
  have h0 := hb.nth (4 * i)
  have h1 := hb.nth (4 * i + 1)
  have h2 := hb.nth (4 * i + 2)
  have h3 := hb.nth (4 * i + 3)
  show ((((0 : Wd) <<< 8 ||| BitVec.ofInt 32 (nth b (4 * i + 0))) <<< 8 ||| BitVec.ofInt 32 (nth b (4 * i + 1))) <<< 8 ||| BitVec.ofInt 32 (nth b (4 * i + 2))) <<< 8 ||| BitVec.ofInt 32 (nth b (4 * i + 3)) = _
  rw [Nat.add_zero, or_byte _ _ h3, or_byte _ _ h2, or_byte _ _ h1, or_byte _ _ h0]
  unfold be4
  apply BitVec.eq_of_toNat_eq
  rw [BitVec.toNat_ofInt, BitVec.toNat_ofInt]
  simp only [wv_ofInt]
  have : wv 0 = 0 := rfl
  rw [this]
  omega
theorem conv8 {b : List Int} (hb : AreBytes b) (i : Nat) : IntKind.u32.wrap (nth b i) = wv (BitVec.ofInt 32 (nth b i)) := by rw [wrap32, wv_ofInt]
theorem fill_hor0 {b : List Int} {i : Nat} (h : ((w64 b).map wv).length = 64) (hi : i < 64) : fill ((w64 b).map wv) 64 i = (fill ((w64 b).map wv) 64 i).set i (wv (hor b i 0)) := by
  have e : nth (fill ((w64 b).map wv) 64 i) i = 0 := fill_rest h (Nat.le_refl _)
  have h0 : wv (hor b i 0) = nth (fill ((w64 b).map wv) 64 i) i := by rw [e]; rfl
  rw [h0]
  have hl : i < (fill ((w64 b).map wv) 64 i).length := by rw [fill_len h (by omega)]; exact hi
  rw [show nth (fill ((w64 b).map wv) 64 i) i = (fill ((w64 b).map wv) 64 i)[i] by simp [nth, hl], List.set_getElem_self]
theorem fill_hor4 {b : List Int} {i : Nat} (h : ((w64 b).map wv).length = 64) (hi : i < 16) (hb : AreBytes b) : (fill ((w64 b).map wv) 64 i).set i (wv (hor b i 4)) = fill ((w64 b).map wv) 64 (i + 1) := by
  rw [← fill_set h (by omega), nth_map, hor4 hb, w64_low b i hi]
set_option maxHeartbeats 4000000 in
theorem spreadC (b : List Int) (hbl : b.length = 64) (hbb : AreBytes b) (w : World) : Calls Tryd.prog 60 #[.agg (ints .u8 b)] w (Ret w (.agg (ints .u32 ((w64 b).map wv)))) := by
  refine enter 81 [(0, .agg (ints .u8 (b)))] Tryd.func60 rfl rfl kj rfl ?_
  refine wp_seq_k fun K1 hK1 => ?_
  refine region_lit ?_
  refine seq_alloc (ints .u8 (b)) 62 1 rfl kj kj fun g2 W1 l2 e1 r2_1 => ?_
  have x1 : Ext w W1 := Ext.tr (Rely.Ext.refl w) e1
  have b2 : w.heap.size ≤ g2 := Nat.le_trans (Rely.Ext.refl w).size l2
  refine seq_alloc (ints .u32 (List.replicate 64 0)) 102 2 rfl kj kj fun g3 W2 l3 e2 r3_2 => ?_
  have x2 : Ext w W2 := Ext.tr x1 e2
  have b3 : w.heap.size ≤ g3 := Nat.le_trans x1.size l3
  refine seq_nil ?_
  refine hK1 _ _ ?_
  try clear hK1 K1
  refine wp_seq_k fun K4 hK4 => ?_
  refine region_lit ?_
  refine seq_alloc (ints .u32 (List.replicate 64 0)) 102 3 rfl kj kj fun g5 W3 l5 e3 r5_3 => ?_
  have x3 : Ext w W3 := Ext.tr x2 e3
  have b5 : w.heap.size ≤ g5 := Nat.le_trans x2.size l5
  refine seq_nil ?_
  refine hK4 _ _ ?_
  try clear hK4 K4
  refine wp_seq_k fun K6 hK6 => ?_
  refine wp_seq_k fun K7 hK7 => ?_
  refine region_lit ?_
  refine seq_val (.int .i64 0) 12 rfl kj kj ?_
  refine seq_nil ?_
  refine hK7 _ _ ?_
  try clear hK7 K7
  refine wp_block ?_
  have hl64 : ((w64 b).map wv).length = 64 := by rw [List.length_map, w64_len]
  refine loop_auto (fun (s1 : Nat) => [(12, .int .i64 ((s1 : Nat) : Int)), (1, .pointer (some ⟨g2, 0, none⟩)), (2, .pointer (some ⟨g3, 0, none⟩)), (3, .pointer (some ⟨g5, 0, none⟩))]) (fun (s1 : Nat) W => (s1 ≤ 16) ∧ (W.heap[g5]? = some (.cells (ints .u32 (fill ((w64 b).map wv) 64 s1)) 102)) ∧ (Keeps [g5] W3 W) ∧ (Ext w W)) (fun (s1 : Nat) => 16 - s1) 0 ⟨rfl, rfl, rfl, rfl, trivial⟩ ⟨(Nat.zero_le _), (row_eq r5_3 (fill_zero _ 64).symm), (Keeps.refl [g5] W3), x3⟩ fun s1 X1 V1 hI1 => ?_
  obtain ⟨i, hs1⟩ : ∃ z, z = s1 := ⟨_, rfl⟩
  subst hs1
  obtain ⟨hi, q5_1, kk1, xx1⟩ := hI1
  replace hi : i ≤ 16 := hi
  replace q5_1 : V1.heap[g5]? = some (.cells (ints .u32 (fill ((w64 b).map wv) 64 i)) 102) := q5_1
  replace kk1 : Keeps [g5] W3 V1 := kk1
  replace xx1 : Ext w V1 := xx1
  have q4 := kk1
  refine wp_seq_k fun K8 hK8 => ?_
  refine region_lit ?_
  refine seq_val (.bool (decide (((i : Nat) : Int) < 16))) 13 rfl kj kj ?_
  refine seq_nil ?_
  refine hK8 _ _ ?_
  try clear hK8 K8
  refine wp_seq_k fun K9 hK9 => ?_
  refine cond_split (t := decide (((i : Nat) : Int) < 16)) kj (fun c10 => ?_) (fun c10 => ?_)
  · skip
    have hlt13 : i < 16 := by have := of_decide_eq_true c10; omega
    refine wp_skip ?_
    refine hK9 _ _ ?_
    try clear hK9 K9
    refine wp_seq_k fun K11 hK11 => ?_
    refine wp_block ?_
    refine wp_seq_k fun K12 hK12 => ?_
    refine region_lit ?_
    refine seq_val (.int .i64 ((i : Nat) : Int)) 14 rfl kj kj ?_
    refine seq_val (.int .i64 ((i : Nat) : Int)) 4 rfl kj kj ?_
    refine seq_nil ?_
    refine hK12 _ _ ?_
    try clear hK12 K12
    refine wp_seq_k fun K13 hK13 => ?_
    refine region_lit ?_
    refine seq_val (.int .i64 ((i : Nat) : Int)) 15 rfl kj kj ?_
    refine seq_val (.int .i64 ((4 * i : Nat) : Int)) 16 rfl kj (run_eq (u := .int .i64 (IntKind.i64.wrap (4 * ((i : Nat) : Int)))) kj (congrArg (Value.int .i64) (i64n _ _ (by omega) (by omega)))) ?_
    refine seq_val (.int .i64 ((i : Nat) : Int)) 17 rfl kj kj ?_
    refine seq_val (.int .i64 ((4 * i : Nat) : Int)) 18 rfl kj (run_eq (u := .int .i64 (IntKind.i64.wrap (4 * ((i : Nat) : Int)))) kj (congrArg (Value.int .i64) (i64n _ _ (by omega) (by omega)))) ?_
    refine seq_val (.int .i64 (((4 * i) + 4 : Nat) : Int)) 19 rfl kj (run_eq (u := .int .i64 (IntKind.i64.wrap (((4 * i : Nat) : Int) + 4))) kj (congrArg (Value.int .i64) (i64n _ _ (by omega) (by omega)))) ?_
    refine seq_val (.slice (some ⟨g2, 0 + (4 * i), none⟩) (((4 * i) + 4) - (4 * i)) (64 - (4 * i))) 20 rfl kj (run_sliceA 62 _ _ _ (4 * i) ((4 * i) + 4) 64 g2 0 5 rfl kj kj kj ⟨.i64, by kernel_rfl⟩ ⟨.i64, by kernel_rfl⟩ (by omega) (by omega) (by omega)) ?_
    refine seq_val (.int .i64 ((((4 * i) + 4) - (4 * i) : Nat) : Int)) 21 rfl kj kj ?_
    refine seq_val (.int .i64 0) 22 rfl kj kj ?_
    refine seq_nil ?_
    refine hK13 _ _ ?_
    try clear hK13 K13
    refine wp_block ?_
    refine loop_auto (fun (s2 : Nat) => [(4, .int .i64 ((i : Nat) : Int)), (12, .int .i64 ((i : Nat) : Int)), (20, .slice (some ⟨g2, 0 + (4 * i), none⟩) (((4 * i) + 4) - (4 * i)) (64 - (4 * i))), (21, .int .i64 ((((4 * i) + 4) - (4 * i) : Nat) : Int)), (22, .int .i64 ((s2 : Nat) : Int)), (1, .pointer (some ⟨g2, 0, none⟩)), (2, .pointer (some ⟨g3, 0, none⟩)), (3, .pointer (some ⟨g5, 0, none⟩))]) (fun (s2 : Nat) W => (s2 ≤ 4) ∧ (W.heap[g5]? = some (.cells (ints .u32 ((fill ((w64 b).map wv) 64 i).set i (wv (hor b i s2)))) 102)) ∧ (Keeps [g5] V1 W) ∧ (Ext w W)) (fun (s2 : Nat) => 4 - s2) 0 ⟨rfl, rfl, rfl, rfl, rfl, rfl, rfl, rfl, trivial⟩ ⟨(Nat.zero_le _), (row_eq q5_1 (fill_hor0 hl64 (by omega))), (Keeps.refl [g5] V1), xx1⟩ fun s2 X2 V2 hI2 => ?_
    obtain ⟨j, hs2⟩ : ∃ z, z = s2 := ⟨_, rfl⟩
    subst hs2
    obtain ⟨hj, q5_2, kk2, xx2⟩ := hI2
    replace hj : j ≤ 4 := hj
    replace q5_2 : V2.heap[g5]? = some (.cells (ints .u32 ((fill ((w64 b).map wv) 64 i).set i (wv (hor b i j)))) 102) := q5_2
    replace kk2 : Keeps [g5] V1 V2 := kk2
    replace xx2 : Ext w V2 := xx2
    have q5 := kk2
    refine wp_seq_k fun K14 hK14 => ?_
    refine region_lit ?_
    refine seq_val (.bool (decide (((j : Nat) : Int) < ((((4 * i) + 4) - (4 * i) : Nat) : Int)))) 23 rfl kj kj ?_
    refine seq_nil ?_
    refine hK14 _ _ ?_
    try clear hK14 K14
    refine wp_seq_k fun K15 hK15 => ?_
    refine cond_split (t := decide (((j : Nat) : Int) < ((((4 * i) + 4) - (4 * i) : Nat) : Int))) kj (fun c16 => ?_) (fun c16 => ?_)
    · skip
      have hlt23 : j < 4 := by have := of_decide_eq_true c16; omega
      refine wp_skip ?_
      refine hK15 _ _ ?_
      try clear hK15 K15
      refine wp_seq_k fun K17 hK17 => ?_
      refine wp_block ?_
      refine wp_seq_k fun K18 hK18 => ?_
      refine region_lit ?_
      refine seq_val (.pointer (some ⟨g2, 0 + (4 * i) + j, none⟩)) 24 rfl kj (run_indexS 22 _ _ .i64 j g2 (0 + (4 * i)) (((4 * i) + 4) - (4 * i)) (64 - (4 * i)) 5 rfl kj kj kj kj (by omega)) ?_
      have r2_2 := (row_ext r2_1 e2)
      have r2_3 := (row_ext r2_2 e3)
      have r2_4 := (Keeps.row q4 r2_3 (nm_cons (ne_of_old r2_2 l5) nm_nil))
      have r2_5 := (Keeps.row q5 r2_4 (nm_cons (ne_of_old r2_2 l5) nm_nil))
      refine seq_val (.int .u8 (nth b (4 * i + j))) 25 rfl kj (run_loadC1 5 _ g2 (0 + (4 * i) + j) 62 _ (.int .u8 (nth b (4 * i + j))) _ r2_5 rfl kj ((ints_get _ _ _ (Nat.lt_of_lt_of_eq (by omega) hbl.symm)).trans (congrArg (fun z => some (Value.int .u8 z)) (by rw [Nat.zero_add]))) kj) ?_
      refine seq_val (.int .u8 (nth b (4 * i + j))) 6 rfl kj kj ?_
      refine seq_nil ?_
      refine hK18 _ _ ?_
      try clear hK18 K18
      refine region_lit ?_
      refine seq_val (.int .i64 ((i : Nat) : Int)) 26 rfl kj kj ?_
      refine seq_val (.int .i64 ((i : Nat) : Int)) 27 rfl kj kj ?_
      refine seq_val (.pointer (some ⟨g5, i, none⟩)) 28 rfl kj (run_index0 _ _ _ .i64 (i) _ 64 84 rfl kj kj kj kj (by omega)) ?_
      refine seq_val (.int .u32 (wv (hor b i j))) 29 rfl kj (run_loadC1 84 _ g5 i 102 _ (.int .u32 (wv (hor b i j))) _ q5_2 rfl kj ((ints_get _ _ _ (Nat.lt_of_lt_of_eq (by omega) ((List.length_set ..).trans (fill_len hl64 (by omega))).symm)).trans (congrArg (fun z => some (Value.int .u32 z)) (nth_set_self (by rw [fill_len hl64 (by omega)]; omega)))) kj) ?_
      refine seq_val (.int .u32 (wv (hor b i j <<< 8))) 30 rfl kj (run_bin .shl _ _ _ _ .u32 .u64 _ _ _ rfl kj kj (b_shl _ _ _ _ _ _ (by decide) (w_shl _ _ 8 rfl (by decide)))) ?_
      refine seq_val (.int .u8 (nth b (4 * i + j))) 31 rfl kj kj ?_
      refine seq_val (.int .u32 (wv (BitVec.ofInt 32 (nth b (4 * i + j))))) 32 rfl kj (run_eq (u := .int .u32 (IntKind.u32.wrap (nth b (4 * i + j)))) kj (congrArg (Value.int .u32) (conv8 hbb _))) ?_
      refine seq_val (.int .u32 (wv (((hor b i j <<< 8)) ||| ((BitVec.ofInt 32 (nth b (4 * i + j))))))) 33 rfl kj (run_eq (u := .int .u32 (bits .or .u32 (wv (hor b i j <<< 8)) (wv (BitVec.ofInt 32 (nth b (4 * i + j)))))) kj (congrArg (Value.int .u32) (w_or _ _))) ?_
      refine seq_val (.pointer (some ⟨g5, i, none⟩)) 34 rfl kj (run_index0 _ _ _ .i64 (i) _ 64 84 rfl kj kj kj kj (by omega)) ?_
      refine seq_store g5 _ (ints .u32 (((fill ((w64 b).map wv) 64 i).set i (wv (hor b i j))).set i (wv (((hor b i j <<< 8)) ||| ((BitVec.ofInt 32 (nth b (4 * i + j)))))))) 102 q5_2 rfl kj (run_storeI 84 _ _ g5 i 102 _ _ q5_2 rfl kj kj kj (Nat.lt_of_lt_of_eq (by omega) ((List.length_set ..).trans (fill_len hl64 (by omega))).symm)) fun W6 p6 r5_6 => ?_
      have x6 : Ext w W6 := Puts.ext p6 xx2 b5
      refine seq_nil ?_
      refine hK17 _ _ ?_
      try clear hK17 K17
      refine region_lit ?_
      refine seq_val (.int .i64 ((j + 1 : Nat) : Int)) 35 rfl kj (run_eq (u := .int .i64 (IntKind.i64.wrap (((j : Nat) : Int) + 1))) kj (congrArg (Value.int .i64) (i64n _ _ (by omega) (by omega)))) ?_
      refine seq_val (.int .i64 ((j + 1 : Nat) : Int)) 22 rfl kj kj ?_
      refine seq_nil ?_
      repeat (first | with_reducible refine goX1 ?_ | with_reducible refine goX2 ?_ | with_reducible refine goX3 ?_)
      exact goes_then (j + 1) ⟨rfl, rfl, rfl, rfl, rfl, rfl, rfl, rfl, trivial⟩ ⟨(by omega), (row_eq r5_6 (by rw [List.set_set]; exact congrArg (fun z => (fill ((w64 b).map wv) 64 i).set i (wv z)) (hor_next hbb i j))), (Keeps.puts q5 p6 (.inl (by simp))), x6⟩ (by omega)
    · skip
      have heq23 : j = 4 := by have := of_decide_eq_false c16; omega
      refine wp_exit ?_
      refine hK11 _ _ ?_
      try clear hK11 K11
      refine region_lit ?_
      refine seq_val (.int .i64 ((i + 1 : Nat) : Int)) 36 rfl kj (run_eq (u := .int .i64 (IntKind.i64.wrap (((i : Nat) : Int) + 1))) kj (congrArg (Value.int .i64) (i64n _ _ (by omega) (by omega)))) ?_
      refine seq_val (.int .i64 ((i + 1 : Nat) : Int)) 12 rfl kj kj ?_
      refine seq_nil ?_
      repeat (first | with_reducible refine goX1 ?_ | with_reducible refine goX2 ?_ | with_reducible refine goX3 ?_)
      exact goes_then (i + 1) ⟨rfl, rfl, rfl, rfl, trivial⟩ ⟨(by omega), (row_eq q5_2 (by rw [heq23]; exact fill_hor4 hl64 hlt13 hbb)), (Keeps.keeps q4 q5 (oa_cons (.inl (by simp)) oa_nil)), xx2⟩ (by omega)
  · skip
    have heq13 : i = 16 := by have := of_decide_eq_false c10; omega
    refine wp_exit ?_
    refine hK6 _ _ ?_
    try clear hK6 K6
    refine wp_seq_k fun K19 hK19 => ?_
    refine wp_seq_k fun K20 hK20 => ?_
    refine region_lit ?_
    refine seq_val (.int .i64 16) 7 rfl kj kj ?_
    refine seq_nil ?_
    refine hK20 _ _ ?_
    try clear hK20 K20
    refine wp_block ?_
    refine loop_auto (fun (s3 : Nat) => [(7, .int .i64 ((s3 : Nat) : Int)), (1, .pointer (some ⟨g2, 0, none⟩)), (2, .pointer (some ⟨g3, 0, none⟩)), (3, .pointer (some ⟨g5, 0, none⟩))]) (fun (s3 : Nat) W => (16 ≤ s3) ∧ (s3 ≤ 64) ∧ (W.heap[g5]? = some (.cells (ints .u32 (fill ((w64 b).map wv) 64 s3)) 102)) ∧ (Keeps [g5] V1 W) ∧ (Ext w W)) (fun (s3 : Nat) => 64 - s3) 16 ⟨rfl, rfl, rfl, rfl, trivial⟩ ⟨(Nat.le_refl _), (by omega), (row_eq q5_1 (by rw [heq13])), (Keeps.refl [g5] V1), xx1⟩ fun s3 X3 V3 hI3 => ?_
    obtain ⟨i, hs3⟩ : ∃ z, z = s3 := ⟨_, rfl⟩
    subst hs3
    obtain ⟨h16, hi, q5_3, kk3, xx3⟩ := hI3
    replace h16 : 16 ≤ i := h16
    replace hi : i ≤ 64 := hi
    replace q5_3 : V3.heap[g5]? = some (.cells (ints .u32 (fill ((w64 b).map wv) 64 i)) 102) := q5_3
    replace kk3 : Keeps [g5] V1 V3 := kk3
    replace xx3 : Ext w V3 := xx3
    have q5 := kk3
    refine wp_seq_k fun K21 hK21 => ?_
    refine wp_seq_k fun K22 hK22 => ?_
    refine region_lit ?_
    refine seq_val (.int .i64 ((i : Nat) : Int)) 37 rfl kj kj ?_
    refine seq_val (.bool (decide (((i : Nat) : Int) < 64))) 38 rfl kj kj ?_
    refine seq_nil ?_
    refine hK22 _ _ ?_
    try clear hK22 K22
    refine cond_split (t := decide (((i : Nat) : Int) < 64)) kj (fun c23 => ?_) (fun c23 => ?_)
    · skip
      have hlt38 : i < 64 := by have := of_decide_eq_true c23; omega
      refine wp_skip ?_
      refine hK21 _ _ ?_
      try clear hK21 K21
      refine wp_seq_k fun K24 hK24 => ?_
      refine wp_block ?_
      refine wp_seq_k fun K25 hK25 => ?_
      refine any_region 9 [⟨none, [(7, none)]⟩, ⟨none, [(41, some 0)]⟩, ⟨none, [(3, none), (42, some 1)]⟩, ⟨none, [(43, some 2)]⟩, ⟨none, [(7, none)]⟩, ⟨none, [(45, some 4)]⟩, ⟨none, [(3, none), (46, some 5)]⟩, ⟨none, [(47, some 6)]⟩, ⟨none, [(44, some 3)]⟩] kj kj fun F hF => ?_
      refine any_val (.int .i64 ((i : Nat) : Int)) kj kj (fun W => by kernel_rfl) ?_
      refine any_val (.int .i64 ((i - 2 : Nat) : Int)) kj kj (fun W => (run_eq (u := .int .i64 (IntKind.i64.wrap (((i : Nat) : Int) - 2))) kj (congrArg (Value.int .i64) (i64n _ _ (by omega) (by omega))))) ?_
      refine any_val (.pointer (some ⟨g5, i - 2, none⟩)) kj kj (fun W => (run_index0 _ _ _ .i64 (i - 2) _ 64 84 rfl kj kj kj kj (by omega))) ?_
      refine any_read (.int .u32 (wv (wget (w64 b) (i - 2)))) kj kj (fun W hR => (run_loadC1 84 _ g5 (i - 2) 102 _ (.int .u32 (wv (wget (w64 b) (i - 2)))) _ (row_ext (row_ext q5_3 (ext_drew _)) hR) rfl kj ((ints_get _ _ _ (Nat.lt_of_lt_of_eq (by omega) (fill_len (show ((w64 b).map wv).length = 64 by rw [List.length_map, w64_len]) (by omega)).symm)).trans (congrArg (fun z => some (Value.int .u32 z)) ((fill_get hl64 (by omega) (by omega)).trans (nth_map _ _)))) kj)) ?_
      refine any_val (.int .i64 ((i : Nat) : Int)) kj kj (fun W => by kernel_rfl) ?_
      refine any_val (.int .i64 ((i - 15 : Nat) : Int)) kj kj (fun W => (run_eq (u := .int .i64 (IntKind.i64.wrap (((i : Nat) : Int) - 15))) kj (congrArg (Value.int .i64) (i64n _ _ (by omega) (by omega))))) ?_
      refine any_val (.pointer (some ⟨g5, i - 15, none⟩)) kj kj (fun W => (run_index0 _ _ _ .i64 (i - 15) _ 64 84 rfl kj kj kj kj (by omega))) ?_
      refine any_read (.int .u32 (wv (wget (w64 b) (i - 15)))) kj kj (fun W hR => (run_loadC1 84 _ g5 (i - 15) 102 _ (.int .u32 (wv (wget (w64 b) (i - 15)))) _ (row_ext (row_ext q5_3 (ext_drew _)) hR) rfl kj ((ints_get _ _ _ (Nat.lt_of_lt_of_eq (by omega) (fill_len (show ((w64 b).map wv).length = 64 by rw [List.length_map, w64_len]) (by omega)).symm)).trans (congrArg (fun z => some (Value.int .u32 z)) ((fill_get hl64 (by omega) (by omega)).trans (nth_map _ _)))) kj)) ?_
      refine any_val (.int .u32 (wv (wget (w64 b) (i - 2)))) kj kj (fun W => by kernel_rfl) ?_
      refine steps_nil (hF _ kj fun W6 e6 => ?_)
      simp only [ups, up, Kn.val, List.take_succ_cons, List.take_zero, List.drop_succ_cons, List.drop_zero, List.nil_append, List.cons_append]
      clear hF
      have x6 : Ext w W6 := Ext.tr xx3 e6
      refine seq_val (.int .u32 (wv (wget (w64 b) (i - 15)))) 9 rfl kj kj ?_
      refine seq_nil ?_
      refine hK25 _ _ ?_
      try clear hK25 K25
      refine wp_seq_k fun K26 hK26 => ?_
      refine region_lit ?_
      refine seq_val (.int .u32 (wv (wget (w64 b) (i - 2)))) 49 rfl kj kj ?_
      refine seq_call (.int .u32 (wv (rr (wget (w64 b) (i - 2)) 17))) 61 #[.int .u32 (wv (wget (w64 b) (i - 2))), .int .i64 (-17)] 50 rfl kj kj ((rotC (wget (w64 b) (i - 2)) 17 (-17) (by decide) (by decide) (by decide)) _) fun W7 e7 => ?_
      have x7 : Ext w W7 := Ext.tr x6 e7
      refine seq_val (.int .u32 (wv (wget (w64 b) (i - 2)))) 51 rfl kj kj ?_
      refine seq_call (.int .u32 (wv (rr (wget (w64 b) (i - 2)) 19))) 61 #[.int .u32 (wv (wget (w64 b) (i - 2))), .int .i64 (-19)] 52 rfl kj kj ((rotC (wget (w64 b) (i - 2)) 19 (-19) (by decide) (by decide) (by decide)) _) fun W8 e8 => ?_
      have x8 : Ext w W8 := Ext.tr x7 e8
      refine seq_val (.int .u32 (wv (((rr (wget (w64 b) (i - 2)) 17)) ^^^ ((rr (wget (w64 b) (i - 2)) 19))))) 53 rfl kj (run_eq (u := .int .u32 (bits .xor .u32 (wv (rr (wget (w64 b) (i - 2)) 17)) (wv (rr (wget (w64 b) (i - 2)) 19)))) kj (congrArg (Value.int .u32) (w_xor _ _))) ?_
      refine seq_val (.int .u32 (wv (wget (w64 b) (i - 2)))) 54 rfl kj kj ?_
      refine seq_val (.int .u32 (wv (((wget (w64 b) (i - 2))) >>> 10))) 55 rfl kj (run_bin .shr _ _ _ _ .u32 .u64 _ _ _ rfl kj kj (b_shr _ _ _ _ _ _ (by decide) (w_shr _ _ 10 rfl (by decide)))) ?_
      refine seq_val (.int .u32 (wv (((((rr (wget (w64 b) (i - 2)) 17)) ^^^ ((rr (wget (w64 b) (i - 2)) 19)))) ^^^ ((((wget (w64 b) (i - 2))) >>> 10))))) 56 rfl kj (run_eq (u := .int .u32 (bits .xor .u32 (wv (((rr (wget (w64 b) (i - 2)) 17)) ^^^ ((rr (wget (w64 b) (i - 2)) 19)))) (wv (((wget (w64 b) (i - 2))) >>> 10)))) kj (congrArg (Value.int .u32) (w_xor _ _))) ?_
      refine seq_val (.int .u32 (wv (((((rr (wget (w64 b) (i - 2)) 17)) ^^^ ((rr (wget (w64 b) (i - 2)) 19)))) ^^^ ((((wget (w64 b) (i - 2))) >>> 10))))) 10 rfl kj kj ?_
      refine seq_nil ?_
      refine hK26 _ _ ?_
      try clear hK26 K26
      refine wp_seq_k fun K27 hK27 => ?_
      refine region_lit ?_
      refine seq_val (.int .u32 (wv (wget (w64 b) (i - 15)))) 57 rfl kj kj ?_
      refine seq_call (.int .u32 (wv (rr (wget (w64 b) (i - 15)) 7))) 61 #[.int .u32 (wv (wget (w64 b) (i - 15))), .int .i64 (-7)] 58 rfl kj kj ((rotC (wget (w64 b) (i - 15)) 7 (-7) (by decide) (by decide) (by decide)) _) fun W9 e9 => ?_
      have x9 : Ext w W9 := Ext.tr x8 e9
      refine seq_val (.int .u32 (wv (wget (w64 b) (i - 15)))) 59 rfl kj kj ?_
      refine seq_call (.int .u32 (wv (rr (wget (w64 b) (i - 15)) 18))) 61 #[.int .u32 (wv (wget (w64 b) (i - 15))), .int .i64 (-18)] 60 rfl kj kj ((rotC (wget (w64 b) (i - 15)) 18 (-18) (by decide) (by decide) (by decide)) _) fun W10 e10 => ?_
      have x10 : Ext w W10 := Ext.tr x9 e10
      refine seq_val (.int .u32 (wv (((rr (wget (w64 b) (i - 15)) 7)) ^^^ ((rr (wget (w64 b) (i - 15)) 18))))) 61 rfl kj (run_eq (u := .int .u32 (bits .xor .u32 (wv (rr (wget (w64 b) (i - 15)) 7)) (wv (rr (wget (w64 b) (i - 15)) 18)))) kj (congrArg (Value.int .u32) (w_xor _ _))) ?_
      refine seq_val (.int .u32 (wv (wget (w64 b) (i - 15)))) 62 rfl kj kj ?_
      refine seq_val (.int .u32 (wv (((wget (w64 b) (i - 15))) >>> 3))) 63 rfl kj (run_bin .shr _ _ _ _ .u32 .u64 _ _ _ rfl kj kj (b_shr _ _ _ _ _ _ (by decide) (w_shr _ _ 3 rfl (by decide)))) ?_
      refine seq_val (.int .u32 (wv (((((rr (wget (w64 b) (i - 15)) 7)) ^^^ ((rr (wget (w64 b) (i - 15)) 18)))) ^^^ ((((wget (w64 b) (i - 15))) >>> 3))))) 64 rfl kj (run_eq (u := .int .u32 (bits .xor .u32 (wv (((rr (wget (w64 b) (i - 15)) 7)) ^^^ ((rr (wget (w64 b) (i - 15)) 18)))) (wv (((wget (w64 b) (i - 15))) >>> 3)))) kj (congrArg (Value.int .u32) (w_xor _ _))) ?_
      refine seq_val (.int .u32 (wv (((((rr (wget (w64 b) (i - 15)) 7)) ^^^ ((rr (wget (w64 b) (i - 15)) 18)))) ^^^ ((((wget (w64 b) (i - 15))) >>> 3))))) 11 rfl kj kj ?_
      refine seq_nil ?_
      refine hK27 _ _ ?_
      try clear hK27 K27
      refine any_region 15 [⟨none, [(7, none)]⟩, ⟨none, [(10, none)]⟩, ⟨none, [(7, none)]⟩, ⟨none, [(67, some 2)]⟩, ⟨none, [(3, none), (68, some 3)]⟩, ⟨none, [(69, some 4)]⟩, ⟨none, [(66, some 1), (70, some 5)]⟩, ⟨none, [(11, none)]⟩, ⟨none, [(71, some 6), (72, some 7)]⟩, ⟨none, [(7, none)]⟩, ⟨none, [(74, some 9)]⟩, ⟨none, [(3, none), (75, some 10)]⟩, ⟨none, [(76, some 11)]⟩, ⟨none, [(73, some 8), (77, some 12)]⟩, ⟨none, [(3, none), (65, some 0)]⟩] kj kj fun F hF => ?_
      refine any_val (.int .i64 ((i : Nat) : Int)) kj kj (fun W => by kernel_rfl) ?_
      refine any_val (.int .u32 (wv (((((rr (wget (w64 b) (i - 2)) 17)) ^^^ ((rr (wget (w64 b) (i - 2)) 19)))) ^^^ ((((wget (w64 b) (i - 2))) >>> 10))))) kj kj (fun W => by kernel_rfl) ?_
      refine any_val (.int .i64 ((i : Nat) : Int)) kj kj (fun W => by kernel_rfl) ?_
      refine any_val (.int .i64 ((i - 7 : Nat) : Int)) kj kj (fun W => (run_eq (u := .int .i64 (IntKind.i64.wrap (((i : Nat) : Int) - 7))) kj (congrArg (Value.int .i64) (i64n _ _ (by omega) (by omega))))) ?_
      refine any_val (.pointer (some ⟨g5, i - 7, none⟩)) kj kj (fun W => (run_index0 _ _ _ .i64 (i - 7) _ 64 84 rfl kj kj kj kj (by omega))) ?_
      have r5_6 := (row_ext q5_3 e6)
      have r5_7 := (row_ext r5_6 e7)
      have r5_8 := (row_ext r5_7 e8)
      have r5_9 := (row_ext r5_8 e9)
      have r5_10 := (row_ext r5_9 e10)
      refine any_read (.int .u32 (wv (wget (w64 b) (i - 7)))) kj kj (fun W hR => (run_loadC1 84 _ g5 (i - 7) 102 _ (.int .u32 (wv (wget (w64 b) (i - 7)))) _ (row_ext (row_ext r5_10 (ext_drew _)) hR) rfl kj ((ints_get _ _ _ (Nat.lt_of_lt_of_eq (by omega) (fill_len (show ((w64 b).map wv).length = 64 by rw [List.length_map, w64_len]) (by omega)).symm)).trans (congrArg (fun z => some (Value.int .u32 z)) ((fill_get hl64 (by omega) (by omega)).trans (nth_map _ _)))) kj)) ?_
      refine any_val (.int .u32 (wv (((((((rr (wget (w64 b) (i - 2)) 17)) ^^^ ((rr (wget (w64 b) (i - 2)) 19)))) ^^^ ((((wget (w64 b) (i - 2))) >>> 10)))) + ((wget (w64 b) (i - 7)))))) kj kj (fun W => (run_eq (u := .int .u32 (IntKind.u32.wrap (wv (((((rr (wget (w64 b) (i - 2)) 17)) ^^^ ((rr (wget (w64 b) (i - 2)) 19)))) ^^^ ((((wget (w64 b) (i - 2))) >>> 10))) + wv (wget (w64 b) (i - 7))))) kj (congrArg (Value.int .u32) (w_add _ _)))) ?_
      refine any_val (.int .u32 (wv (((((rr (wget (w64 b) (i - 15)) 7)) ^^^ ((rr (wget (w64 b) (i - 15)) 18)))) ^^^ ((((wget (w64 b) (i - 15))) >>> 3))))) kj kj (fun W => by kernel_rfl) ?_
      refine any_val (.int .u32 (wv (((((((((rr (wget (w64 b) (i - 2)) 17)) ^^^ ((rr (wget (w64 b) (i - 2)) 19)))) ^^^ ((((wget (w64 b) (i - 2))) >>> 10)))) + ((wget (w64 b) (i - 7))))) + ((((((rr (wget (w64 b) (i - 15)) 7)) ^^^ ((rr (wget (w64 b) (i - 15)) 18)))) ^^^ ((((wget (w64 b) (i - 15))) >>> 3))))))) kj kj (fun W => (run_eq (u := .int .u32 (IntKind.u32.wrap (wv (((((((rr (wget (w64 b) (i - 2)) 17)) ^^^ ((rr (wget (w64 b) (i - 2)) 19)))) ^^^ ((((wget (w64 b) (i - 2))) >>> 10)))) + ((wget (w64 b) (i - 7)))) + wv (((((rr (wget (w64 b) (i - 15)) 7)) ^^^ ((rr (wget (w64 b) (i - 15)) 18)))) ^^^ ((((wget (w64 b) (i - 15))) >>> 3)))))) kj (congrArg (Value.int .u32) (w_add _ _)))) ?_
      refine any_val (.int .i64 ((i : Nat) : Int)) kj kj (fun W => by kernel_rfl) ?_
      refine any_val (.int .i64 ((i - 16 : Nat) : Int)) kj kj (fun W => (run_eq (u := .int .i64 (IntKind.i64.wrap (((i : Nat) : Int) - 16))) kj (congrArg (Value.int .i64) (i64n _ _ (by omega) (by omega))))) ?_
      refine any_val (.pointer (some ⟨g5, i - 16, none⟩)) kj kj (fun W => (run_index0 _ _ _ .i64 (i - 16) _ 64 84 rfl kj kj kj kj (by omega))) ?_
      refine any_read (.int .u32 (wv (wget (w64 b) (i - 16)))) kj kj (fun W hR => (run_loadC1 84 _ g5 (i - 16) 102 _ (.int .u32 (wv (wget (w64 b) (i - 16)))) _ (row_ext (row_ext r5_10 (ext_drew _)) hR) rfl kj ((ints_get _ _ _ (Nat.lt_of_lt_of_eq (by omega) (fill_len (show ((w64 b).map wv).length = 64 by rw [List.length_map, w64_len]) (by omega)).symm)).trans (congrArg (fun z => some (Value.int .u32 z)) ((fill_get hl64 (by omega) (by omega)).trans (nth_map _ _)))) kj)) ?_
      refine any_val (.int .u32 (wv (((((((((((rr (wget (w64 b) (i - 2)) 17)) ^^^ ((rr (wget (w64 b) (i - 2)) 19)))) ^^^ ((((wget (w64 b) (i - 2))) >>> 10)))) + ((wget (w64 b) (i - 7))))) + ((((((rr (wget (w64 b) (i - 15)) 7)) ^^^ ((rr (wget (w64 b) (i - 15)) 18)))) ^^^ ((((wget (w64 b) (i - 15))) >>> 3)))))) + ((wget (w64 b) (i - 16)))))) kj kj (fun W => (run_eq (u := .int .u32 (IntKind.u32.wrap (wv (((((((((rr (wget (w64 b) (i - 2)) 17)) ^^^ ((rr (wget (w64 b) (i - 2)) 19)))) ^^^ ((((wget (w64 b) (i - 2))) >>> 10)))) + ((wget (w64 b) (i - 7))))) + ((((((rr (wget (w64 b) (i - 15)) 7)) ^^^ ((rr (wget (w64 b) (i - 15)) 18)))) ^^^ ((((wget (w64 b) (i - 15))) >>> 3))))) + wv (wget (w64 b) (i - 16))))) kj (congrArg (Value.int .u32) (w_add _ _)))) ?_
      refine any_val (.pointer (some ⟨g5, i, none⟩)) kj kj (fun W => (run_index0 _ _ _ .i64 (i) _ 64 84 rfl kj kj kj kj (by omega))) ?_
      refine steps_nil (hF _ kj fun W11 e11 => ?_)
      simp only [ups, up, Kn.val, List.take_succ_cons, List.take_zero, List.drop_succ_cons, List.drop_zero, List.nil_append, List.cons_append]
      clear hF
      have x11 : Ext w W11 := Ext.tr x10 e11
      have r5_11 := (row_ext r5_10 e11)
      refine seq_store g5 _ (ints .u32 ((fill ((w64 b).map wv) 64 i).set i (wv (((((((((((rr (wget (w64 b) (i - 2)) 17)) ^^^ ((rr (wget (w64 b) (i - 2)) 19)))) ^^^ ((((wget (w64 b) (i - 2))) >>> 10)))) + ((wget (w64 b) (i - 7))))) + ((((((rr (wget (w64 b) (i - 15)) 7)) ^^^ ((rr (wget (w64 b) (i - 15)) 18)))) ^^^ ((((wget (w64 b) (i - 15))) >>> 3)))))) + ((wget (w64 b) (i - 16))))))) 102 r5_11 rfl kj (run_storeI 84 _ _ g5 i 102 _ _ r5_11 rfl kj kj kj (Nat.lt_of_lt_of_eq (by omega) (fill_len (show ((w64 b).map wv).length = 64 by rw [List.length_map, w64_len]) (by omega)).symm)) fun W12 p12 r5_12 => ?_
      have x12 : Ext w W12 := Puts.ext p12 x11 b5
      refine seq_nil ?_
      refine hK24 _ _ ?_
      try clear hK24 K24
      refine region_lit ?_
      refine seq_val (.int .i64 ((i : Nat) : Int)) 39 rfl kj kj ?_
      refine seq_val (.int .i64 ((i + 1 : Nat) : Int)) 40 rfl kj (run_eq (u := .int .i64 (IntKind.i64.wrap (((i : Nat) : Int) + 1))) kj (congrArg (Value.int .i64) (i64n _ _ (by omega) (by omega)))) ?_
      refine seq_val (.int .i64 ((i + 1 : Nat) : Int)) 7 rfl kj kj ?_
      refine seq_nil ?_
      repeat (first | with_reducible refine goX1 ?_ | with_reducible refine goX2 ?_ | with_reducible refine goX3 ?_)
      exact goes_then (i + 1) ⟨rfl, rfl, rfl, rfl, trivial⟩ ⟨(by omega), (by omega), (row_eq r5_12 (by rw [← fill_set hl64 hlt38, nth_map, w64_next b i h16 hlt38]; rfl)), (Keeps.puts (Keeps.step (Keeps.step (Keeps.step (Keeps.step (Keeps.step (Keeps.step q5 e6) e7) e8) e9) e10) e11) p12 (.inl (by simp))), x12⟩ (by omega)
    · skip
      have heq38 : i = 64 := by have := of_decide_eq_false c23; omega
      have r5_5_28 : V3.heap[g5]? = some (.cells (ints .u32 ((w64 b).map wv)) 102) := row_eq q5_3 (by rw [heq38]; exact fill_full hl64)
      refine wp_exit ?_
      refine hK19 _ _ ?_
      try clear hK19 K19
      refine wp_seq_k fun K29 hK29 => ?_
      refine region_lit ?_
      refine seq_val (.agg (ints .u32 ((w64 b).map wv))) 80 rfl kj (run_load_row 102 _ g5 102 _ _ r5_5_28 rfl kj kj (isz (n := 64) kj ((ints_size _ _).trans hl64))) ?_
      have r3_3 := (row_ext r3_2 e3)
      have r3_4 := (Keeps.row q4 r3_3 (nm_cons (ne_of_old r3_2 l5) nm_nil))
      have r3_5 := (Keeps.row q5 r3_4 (nm_cons (ne_of_old r3_2 l5) nm_nil))
      refine seq_store g3 _ (ints .u32 ((w64 b).map wv)) 102 r3_5 rfl kj (run_store_row 102 _ _ g3 102 _ _ r3_5 rfl kj kj (isz (n := 64) kj ((ints_size _ _).trans hl64)) (eqsz (n := 64) ((ints_size _ _).trans (List.length_replicate (n := 64))) ((ints_size _ _).trans hl64)) (ints_one _ _)) fun W6 p6 r3_6 => ?_
      have x6 : Ext w W6 := Puts.ext p6 xx3 b3
      refine seq_nil ?_
      refine hK29 _ _ ?_
      try clear hK29 K29
      refine wp_ret ?_
      repeat (first | with_reducible refine goR1 ?_ | with_reducible refine goR2 ?_)
      exact (show bodyPost _ _ _ .ret _ _ from ret1 (.agg (ints .u32 ((w64 b).map wv))) rfl (res_cell g3 102 _ r3_6 kj kj (isz (n := 64) kj ((ints_size _ _).trans hl64))) ⟨rfl, x6⟩)

end Go.Proofs.YtamlhbbphnamnaaDoor.Sha
