/- SHA-256: what follows a text; a digest of no bytes. -/
import Derived.Test.YtamlhbbphnamnaaDoorShaD
namespace Go.Proofs.YtamlhbbphnamnaaDoor.Sha
open Go Go.RowKit
open Go.Proofs.YtamlhbbphnamnaaDoor.Rely Go.Proofs.YtamlhbbphnamnaaDoor.Auto Go.Proofs.YtamlhbbphnamnaaDoor.Own
set_option linter.unusedVariables false
set_option linter.unusedSimpArgs false

theorem bytes_zeros (n : Nat) : AreBytes (List.replicate n 0) := fun x hx => by
  have := List.eq_of_mem_replicate hx
  subst this; decide
theorem fill_eq (n : Nat) : (64 - (n + 1 + 8) % 64) % 64 = fillN n := by unfold fillN; omega
theorem u64_n (n : Nat) (h : n ≤ 1000000000) : IntKind.u64.wrap ((n : Nat) : Int) = ((n : Nat) : Int) := by
  have : ∀ z : Int, IntKind.u64.wrap z = z % 2 ^ 64 := fun _ => rfl
  rw [this]; omega
theorem u64_8 (n : Nat) (h : n ≤ 1000000000) : IntKind.u64.wrap (((n : Nat) : Int) * 2 ^ min (3 : Int).toNat IntKind.u64.bits) = ((8 * n : Nat) : Int) := by
  have : ∀ z : Int, IntKind.u64.wrap z = z % 2 ^ 64 := fun _ => rfl
  rw [this, show ((2 : Int) ^ min (3 : Int).toNat IntKind.u64.bits) = 8 from rfl]; omega
theorem u64_61 (n : Nat) (h : n ≤ 1000000000) : ((n : Nat) : Int).fdiv (2 ^ min (61 : Int).toNat IntKind.u64.bits) = 0 := by
  rw [Int.fdiv_eq_ediv_of_nonneg _ (by decide), show ((2 : Int) ^ min (61 : Int).toNat IntKind.u64.bits) = 2305843009213693952 from rfl]; omega
theorem byteN (m : Nat) : IntKind.u8.wrap ((m : Nat) : Int) = ((m % 256 : Nat) : Int) := by
  have : ∀ z : Int, IntKind.u8.wrap z = z % 2 ^ 8 := fun _ => rfl
  rw [this]; omega
theorem shr8N (n i : Nat) : ((8 * n / 256 ^ i : Nat) : Int).fdiv (2 ^ min (8 : Int).toNat IntKind.u64.bits) = ((8 * n / 256 ^ (i + 1) : Nat) : Int) := by
  rw [Int.fdiv_eq_ediv_of_nonneg _ (by decide), show ((2 : Int) ^ min (8 : Int).toNat IntKind.u64.bits) = 256 from rfl, Nat.pow_succ, ← Nat.div_div_eq_div_mul]; omega
theorem lowlt (n i : Nat) (h : n ≤ 1000000000) : 8 * n / 256 ^ (i + 1) < 18446744073709551616 := Nat.lt_of_le_of_lt (Nat.div_le_self _ _) (by omega)
theorem or0 (m : Nat) (h : m < 18446744073709551616) : bits .or .u64 ((m : Nat) : Int) 0 = ((m : Nat) : Int) := by
  have := bits_or_u64_nat m 0 h (by decide)
  rw [Nat.or_zero] at this
  exact this
def padL (n i : Nat) : List Int := 128 :: (List.replicate (fillN n) 0 ++ (List.replicate (8 - i) 0 ++ (be8 (8 * n)).drop (8 - i)))
theorem padL_len (n : Nat) {i : Nat} (h : i ≤ 8) : (padL n i).length = 1 + fillN n + 8 := by
  have : (be8 (8 * n)).length = 8 := rfl
  simp [padL, this]; omega
theorem tailP_len (n : Nat) : (tailP n).length = 1 + fillN n + 8 := by
  have : (be8 (8 * n)).length = 8 := rfl
  simp [tailP, this]; omega
theorem padL_0 (n : Nat) : (List.replicate (1 + fillN n + 8) (0 : Int)).set 0 128 = padL n 0 := by
  rw [show 1 + fillN n + 8 = (fillN n + 8) + 1 by omega, List.replicate_succ, List.set_cons_zero, ← List.replicate_append_replicate]
  rfl
theorem padL_set (n i : Nat) (h : i < 8) : (padL n i).set (1 + fillN n + 8 - 1 - i) ((8 * n / 256 ^ i % 256 : Nat) : Int) = padL n (i + 1) := by
  unfold padL
  rw [show 1 + fillN n + 8 - 1 - i = (fillN n + (7 - i)) + 1 by omega, List.set_cons_succ, List.set_append_right _ _ (by simp), List.length_replicate, Nat.add_sub_cancel_left]
  congr 2
  match i, h with
  | 0, _ => rfl
  | 1, _ => rfl
  | 2, _ => rfl
  | 3, _ => rfl
  | 4, _ => rfl
  | 5, _ => rfl
  | 6, _ => rfl
  | 7, _ => rfl
set_option maxHeartbeats 4000000 in
theorem paddingC (n : Nat) (hn : n ≤ 1000000000) (w : World) : Calls Tryd.prog 54 #[.int .i64 ((n : Nat) : Int), .int .i64 64, .int .i64 8] w (Gives w (OwnN .u8 5 w.heap.size (tailP n))) := by
  have hF : fillN n < 64 := by unfold fillN; omega
  refine enter 59 [(0, .int .i64 ((n : Nat) : Int)), (1, .int .i64 64), (2, .int .i64 8)] Tryd.func54 rfl rfl kj rfl ?_
  refine wp_seq_k fun K1 hK1 => ?_
  refine region_lit ?_
  refine seq_val (.slice none 0 0) 6 rfl kj kj ?_
  refine seq_nil ?_
  refine hK1 _ _ ?_
  try clear hK1 K1
  refine wp_seq_k fun K2 hK2 => ?_
  refine region_lit ?_
  refine seq_val (.int .i64 64) 13 rfl kj kj ?_
  refine seq_val (.int .i64 ((n : Nat) : Int)) 14 rfl kj kj ?_
  refine seq_val (.int .i64 ((n + 1 : Nat) : Int)) 15 rfl kj (run_eq (u := .int .i64 (IntKind.i64.wrap (((n : Nat) : Int) + 1))) kj (congrArg (Value.int .i64) (i64n _ _ (by omega) (by omega)))) ?_
  refine seq_val (.int .i64 8) 16 rfl kj kj ?_
  refine seq_val (.int .i64 (((n + 1) + 8 : Nat) : Int)) 17 rfl kj (run_eq (u := .int .i64 (IntKind.i64.wrap (((n + 1 : Nat) : Int) + 8))) kj (congrArg (Value.int .i64) (i64n _ _ (by omega) (by omega)))) ?_
  refine seq_val (.int .i64 64) 18 rfl kj kj ?_
  refine seq_val (.int .i64 ((((n + 1) + 8) % 64 : Nat) : Int)) 19 rfl kj (run_eq (u := .int .i64 (Int.tmod ((((n + 1) + 8 : Nat) : Int)) (64))) kj (congrArg (Value.int .i64) (nat_rem _ 64))) ?_
  refine seq_val (.int .i64 ((64 - (((n + 1) + 8) % 64) : Nat) : Int)) 20 rfl kj (run_eq (u := .int .i64 (IntKind.i64.wrap (64 - ((((n + 1) + 8) % 64 : Nat) : Int)))) kj (congrArg (Value.int .i64) (i64n _ _ (by omega) (by omega)))) ?_
  refine seq_val (.int .i64 64) 21 rfl kj kj ?_
  refine seq_val (.int .i64 (((fillN n : Nat) : Int))) 22 rfl kj (run_eq (u := .int .i64 (Int.tmod (((64 - (((n + 1) + 8) % 64) : Nat) : Int)) (64))) kj (congrArg (Value.int .i64) ((nat_rem _ 64).trans (congrArg (fun z : Nat => (z : Int)) (fill_eq n))))) ?_
  refine seq_val (.int .i64 (((fillN n : Nat) : Int))) 7 rfl kj kj ?_
  refine seq_nil ?_
  refine hK2 _ _ ?_
  try clear hK2 K2
  refine wp_seq_k fun K3 hK3 => ?_
  refine region_lit ?_
  refine seq_val (.int .i64 (((fillN n : Nat) : Int))) 23 rfl kj kj ?_
  refine seq_val (.int .i64 ((1 + (fillN n) : Nat) : Int)) 24 rfl kj (run_eq (u := .int .i64 (IntKind.i64.wrap (1 + (((fillN n : Nat) : Int))))) kj (congrArg (Value.int .i64) (i64n _ _ (by omega) (by omega)))) ?_
  refine seq_val (.int .i64 8) 25 rfl kj kj ?_
  refine seq_val (.int .i64 (((1 + (fillN n)) + 8 : Nat) : Int)) 26 rfl kj (run_eq (u := .int .i64 (IntKind.i64.wrap (((1 + (fillN n) : Nat) : Int) + 8))) kj (congrArg (Value.int .i64) (i64n _ _ (by omega) (by omega)))) ?_
  refine seq_makeS (ints .u8 (List.replicate ((1 + (fillN n)) + 8) 0)) 5 ((1 + (fillN n)) + 8) 27 rfl kj (run_makeI 22 _ _ .i64 .i64 ((1 + (fillN n)) + 8) 5 rfl kj kj kj (.inr kj) (by omega)) fun g4 W1 l4 e1 r4_1 => ?_
  have x1 : Ext w W1 := Ext.tr (Rely.Ext.refl w) e1
  have b4 : w.heap.size ≤ g4 := Nat.le_trans (Rely.Ext.refl w).size l4
  refine seq_val (.slice (some ⟨g4, 0, none⟩) ((1 + (fillN n)) + 8) ((1 + (fillN n)) + 8)) 8 rfl kj kj ?_
  refine seq_nil ?_
  refine hK3 _ _ ?_
  try clear hK3 K3
  refine wp_seq_k fun K5 hK5 => ?_
  refine region_lit ?_
  refine seq_val (.slice (some ⟨g4, 0, none⟩) ((1 + (fillN n)) + 8) ((1 + (fillN n)) + 8)) 28 rfl kj kj ?_
  refine seq_val (.pointer (some ⟨g4, 0, none⟩)) 29 rfl kj (run_indexS0 22 _ _ .i64 (0) g4 ((1 + (fillN n)) + 8) ((1 + (fillN n)) + 8) 5 rfl kj kj kj kj (by omega)) ?_
  refine seq_store g4 _ (ints .u8 ((List.replicate ((1 + (fillN n)) + 8) 0).set 0 128)) 5 r4_1 rfl kj (run_storeI 5 _ _ g4 0 5 _ _ r4_1 rfl kj kj kj (Nat.lt_of_lt_of_eq (by omega) (List.length_replicate (n := ((1 + (fillN n)) + 8))).symm)) fun W2 p2 r4_2 => ?_
  have x2 : Ext w W2 := Puts.ext p2 x1 b4
  refine seq_nil ?_
  refine hK5 _ _ ?_
  try clear hK5 K5
  refine wp_seq_k fun K6 hK6 => ?_
  refine region_lit ?_
  refine seq_val (.int .i64 ((n : Nat) : Int)) 30 rfl kj kj ?_
  refine seq_val (.int .u64 (((n : Nat) : Int))) 31 rfl kj (run_eq (u := .int .u64 (IntKind.u64.wrap ((n : Nat) : Int))) kj (congrArg (Value.int .u64) (u64_n n (by omega)))) ?_
  refine seq_val (.int .u64 (((8 * n : Nat) : Int))) 32 rfl kj (run_bin .shl _ _ _ _ .u64 .u64 _ _ _ rfl kj kj (b_shl _ _ _ _ _ _ (by decide) (u64_8 n (by omega)))) ?_
  refine seq_val (.int .i64 ((n : Nat) : Int)) 33 rfl kj kj ?_
  refine seq_val (.int .u64 (((n : Nat) : Int))) 34 rfl kj (run_eq (u := .int .u64 (IntKind.u64.wrap ((n : Nat) : Int))) kj (congrArg (Value.int .u64) (u64_n n (by omega)))) ?_
  refine seq_val (.int .u64 (0)) 35 rfl kj (run_bin .shr _ _ _ _ .u64 .u64 _ _ _ rfl kj kj (b_shr _ _ _ _ _ _ (by decide) (u64_61 n (by omega)))) ?_
  refine seq_val (.int .u64 (((8 * n : Nat) : Int))) 9 rfl kj kj ?_
  refine seq_val (.int .u64 (0)) 10 rfl kj kj ?_
  refine seq_nil ?_
  refine hK6 _ _ ?_
  try clear hK6 K6
  refine wp_seq_k fun K7 hK7 => ?_
  refine wp_seq_k fun K8 hK8 => ?_
  refine region_lit ?_
  refine seq_val (.int .i64 8) 36 rfl kj kj ?_
  refine seq_val (.int .i64 0) 37 rfl kj kj ?_
  refine seq_nil ?_
  refine hK8 _ _ ?_
  try clear hK8 K8
  refine wp_block ?_
  refine loop_auto (fun (s1 : Nat) => [(8, .slice (some ⟨g4, 0, none⟩) ((1 + (fillN n)) + 8) ((1 + (fillN n)) + 8)), (9, .int .u64 ((8 * n / 256 ^ s1 : Nat) : Int)), (10, .int .u64 0), (36, .int .i64 8), (37, .int .i64 ((s1 : Nat) : Int))]) (fun (s1 : Nat) W => (s1 ≤ 8) ∧ (W.heap[g4]? = some (.cells (ints .u8 (padL n s1)) 5)) ∧ (Keeps [g4] W2 W) ∧ (Ext w W)) (fun (s1 : Nat) => 8 - s1) 0 ⟨rfl, (congrArg (fun z : Nat => Value.int .u64 (z : Int)) (Nat.div_one _).symm), rfl, rfl, rfl, trivial⟩ ⟨(Nat.zero_le _), (row_eq r4_2 (padL_0 n)), (Keeps.refl [g4] W2), x2⟩ fun s1 X1 V1 hI1 => ?_
  obtain ⟨i, hs1⟩ : ∃ z, z = s1 := ⟨_, rfl⟩
  subst hs1
  obtain ⟨hi, q4_1, kk1, xx1⟩ := hI1
  replace hi : i ≤ 8 := hi
  replace q4_1 : V1.heap[g4]? = some (.cells (ints .u8 (padL n i)) 5) := q4_1
  replace kk1 : Keeps [g4] W2 V1 := kk1
  replace xx1 : Ext w V1 := xx1
  have q3 := kk1
  refine wp_seq_k fun K9 hK9 => ?_
  refine region_lit ?_
  refine seq_val (.bool (decide (((i : Nat) : Int) < 8))) 38 rfl kj kj ?_
  refine seq_nil ?_
  refine hK9 _ _ ?_
  try clear hK9 K9
  refine wp_seq_k fun K10 hK10 => ?_
  refine cond_split (t := decide (((i : Nat) : Int) < 8)) kj (fun c11 => ?_) (fun c11 => ?_)
  · skip
    have hlt38 : i < 8 := by have := of_decide_eq_true c11; omega
    refine wp_skip ?_
    refine hK10 _ _ ?_
    try clear hK10 K10
    refine wp_seq_k fun K12 hK12 => ?_
    refine wp_block ?_
    refine wp_seq_k fun K13 hK13 => ?_
    refine region_lit ?_
    refine seq_val (.int .i64 ((i : Nat) : Int)) 39 rfl kj kj ?_
    refine seq_val (.int .i64 ((i : Nat) : Int)) 11 rfl kj kj ?_
    refine seq_nil ?_
    refine hK13 _ _ ?_
    try clear hK13 K13
    refine wp_seq_k fun K14 hK14 => ?_
    refine region_lit ?_
    refine seq_val (.int .u64 ((8 * n / 256 ^ i : Nat) : Int)) 40 rfl kj kj ?_
    refine seq_val (.int .u8 (((8 * n / 256 ^ i % 256 : Nat) : Int))) 41 rfl kj (run_eq (u := .int .u8 (IntKind.u8.wrap ((8 * n / 256 ^ i : Nat) : Int))) kj (congrArg (Value.int .u8) (byteN _))) ?_
    refine seq_val (.int .u8 (((8 * n / 256 ^ i % 256 : Nat) : Int))) 12 rfl kj kj ?_
    refine seq_nil ?_
    refine hK14 _ _ ?_
    try clear hK14 K14
    refine wp_seq_k fun K15 hK15 => ?_
    refine region_lit ?_
    refine seq_val (.slice (some ⟨g4, 0, none⟩) ((1 + (fillN n)) + 8) ((1 + (fillN n)) + 8)) 42 rfl kj kj ?_
    refine seq_val (.slice (some ⟨g4, 0, none⟩) ((1 + (fillN n)) + 8) ((1 + (fillN n)) + 8)) 43 rfl kj kj ?_
    refine seq_val (.int .i64 (((1 + (fillN n)) + 8 : Nat) : Int)) 44 rfl kj kj ?_
    refine seq_val (.int .i64 ((((1 + (fillN n)) + 8) - 1 : Nat) : Int)) 45 rfl kj (run_eq (u := .int .i64 (IntKind.i64.wrap ((((1 + (fillN n)) + 8 : Nat) : Int) - 1))) kj (congrArg (Value.int .i64) (i64n _ _ (by omega) (by omega)))) ?_
    refine seq_val (.int .i64 ((i : Nat) : Int)) 46 rfl kj kj ?_
    refine seq_val (.int .i64 (((((1 + (fillN n)) + 8) - 1) - i : Nat) : Int)) 47 rfl kj (run_eq (u := .int .i64 (IntKind.i64.wrap (((((1 + (fillN n)) + 8) - 1 : Nat) : Int) - ((i : Nat) : Int)))) kj (congrArg (Value.int .i64) (i64n _ _ (by omega) (by omega)))) ?_
    refine seq_val (.int .u8 (((8 * n / 256 ^ i % 256 : Nat) : Int))) 48 rfl kj kj ?_
    refine seq_val (.pointer (some ⟨g4, ((((1 + (fillN n)) + 8) - 1) - i), none⟩)) 49 rfl kj (run_indexS0 22 _ _ .i64 ((((1 + (fillN n)) + 8) - 1) - i) g4 ((1 + (fillN n)) + 8) ((1 + (fillN n)) + 8) 5 rfl kj kj kj kj (by omega)) ?_
    refine seq_store g4 _ (ints .u8 ((padL n i).set ((((1 + (fillN n)) + 8) - 1) - i) (((8 * n / 256 ^ i % 256 : Nat) : Int)))) 5 q4_1 rfl kj (run_storeI 5 _ _ g4 ((((1 + (fillN n)) + 8) - 1) - i) 5 _ _ q4_1 rfl kj kj kj (Nat.lt_of_lt_of_eq (by omega) (padL_len n (by omega)).symm)) fun W4 p4 r4_4 => ?_
    have x4 : Ext w W4 := Puts.ext p4 xx1 b4
    refine seq_nil ?_
    refine hK15 _ _ ?_
    try clear hK15 K15
    refine wp_seq_k fun K16 hK16 => ?_
    refine region_lit ?_
    refine seq_val (.int .u64 ((8 * n / 256 ^ i : Nat) : Int)) 50 rfl kj kj ?_
    refine seq_val (.int .u64 (((8 * n / 256 ^ (i + 1) : Nat) : Int))) 51 rfl kj (run_bin .shr _ _ _ _ .u64 .u64 _ _ _ rfl kj kj (b_shr _ _ _ _ _ _ (by decide) (shr8N n i))) ?_
    refine seq_val (.int .u64 0) 52 rfl kj kj ?_
    refine seq_val (.int .u64 (0)) 53 rfl kj (run_bin .shl _ _ _ _ .u64 .u64 _ _ _ rfl kj kj (b_shl _ _ _ _ _ _ (by decide) (show IntKind.u64.wrap (0 * 2 ^ min (56 : Int).toNat IntKind.u64.bits) = 0 from rfl))) ?_
    refine seq_val (.int .u64 (((8 * n / 256 ^ (i + 1) : Nat) : Int))) 54 rfl kj (run_eq (u := .int .u64 (bits .or .u64 (((8 * n / 256 ^ (i + 1) : Nat) : Int)) (0))) kj (congrArg (Value.int .u64) (or0 _ (lowlt n i (by omega))))) ?_
    refine seq_val (.int .u64 (((8 * n / 256 ^ (i + 1) : Nat) : Int))) 9 rfl kj kj ?_
    refine seq_nil ?_
    refine hK16 _ _ ?_
    try clear hK16 K16
    refine region_lit ?_
    refine seq_val (.int .u64 0) 55 rfl kj kj ?_
    refine seq_val (.int .u64 (0)) 56 rfl kj (run_bin .shr _ _ _ _ .u64 .u64 _ _ _ rfl kj kj (b_shr _ _ _ _ _ _ (by decide) (show Int.fdiv 0 (2 ^ min (8 : Int).toNat IntKind.u64.bits) = 0 from rfl))) ?_
    refine seq_val (.int .u64 (0)) 10 rfl kj kj ?_
    refine seq_nil ?_
    refine hK12 _ _ ?_
    try clear hK12 K12
    refine region_lit ?_
    refine seq_val (.int .i64 ((i + 1 : Nat) : Int)) 57 rfl kj (run_eq (u := .int .i64 (IntKind.i64.wrap (((i : Nat) : Int) + 1))) kj (congrArg (Value.int .i64) (i64n _ _ (by omega) (by omega)))) ?_
    refine seq_val (.int .i64 ((i + 1 : Nat) : Int)) 37 rfl kj kj ?_
    refine seq_nil ?_
    repeat (first | with_reducible refine goX1 ?_ | with_reducible refine goX2 ?_ | with_reducible refine goX3 ?_)
    exact goes_then (i + 1) ⟨rfl, rfl, rfl, rfl, rfl, trivial⟩ ⟨(by omega), (row_eq r4_4 (padL_set n i hlt38)), (Keeps.puts q3 p4 (.inl (by simp))), x4⟩ (by omega)
  · skip
    have heq38 : i = 8 := by have := of_decide_eq_false c11; omega
    have r4_3_17 : V1.heap[g4]? = some (.cells (ints .u8 (tailP n)) 5) := row_eq q4_1 (by rw [heq38]; rfl)
    refine wp_exit ?_
    refine hK7 _ _ ?_
    try clear hK7 K7
    refine wp_seq_k fun K18 hK18 => ?_
    refine region_lit ?_
    refine seq_val (.slice (some ⟨g4, 0, none⟩) ((1 + (fillN n)) + 8) ((1 + (fillN n)) + 8)) 58 rfl kj kj ?_
    refine seq_val (.slice (some ⟨g4, 0, none⟩) ((1 + (fillN n)) + 8) ((1 + (fillN n)) + 8)) 6 rfl kj kj ?_
    refine seq_nil ?_
    refine hK18 _ _ ?_
    try clear hK18 K18
    refine wp_ret ?_
    repeat (first | with_reducible refine goR1 ?_ | with_reducible refine goR2 ?_)
    exact (show bodyPost _ _ _ .ret _ _ from ret1 (.slice (some ⟨g4, 0, none⟩) ((1 + (fillN n)) + 8) ((1 + (fillN n)) + 8)) rfl (res_tmp kj) ⟨_, rfl, xx1, ownN_row (tailP_len n) b4 r4_3_17 (by simp only [maxLen]; omega)⟩)
set_option maxHeartbeats 4000000 in
theorem newC (tq : TypeId) (w : World) (hq : w.heap[0]? = some (.cells (ints .u64 squaresI) tq)) : Calls Tryd.prog 41 #[] w (Gives w (fun v W => ∃ g, v = .pointer (some ⟨g, 0, none⟩) ∧ w.heap.size ≤ g ∧ HasD g [] W)) := by
  refine enter 21 [] Tryd.func41 rfl rfl kj rfl ?_
  refine wp_seq_k fun K2 hK2 => ?_
  refine region_lit ?_
  refine seq_val (.pointer none) 0 rfl kj kj ?_
  refine seq_nil ?_
  refine hK2 _ _ ?_
  try clear hK2 K2
  refine wp_seq_k fun K3 hK3 => ?_
  refine region_lit ?_
  refine seq_val (.agg (cat [ints .u32 ([0, 0, 0, 0, 0, 0, 0, 0]), ints .u8 (List.replicate 64 0), #[.int .i64 0]])) 4 rfl kj kj ?_
  refine seq_alloc (cat [ints .u32 ([0, 0, 0, 0, 0, 0, 0, 0]), ints .u8 (List.replicate 64 0), #[.int .i64 0]]) 90 5 rfl kj kj fun g4 W1 l4 e1 r4_1 => ?_
  have x1 : Ext w W1 := Ext.tr (Rely.Ext.refl w) e1
  have b4 : w.heap.size ≤ g4 := Nat.le_trans (Rely.Ext.refl w).size l4
  refine seq_val (.pointer (some ⟨g4, 0, none⟩)) 1 rfl kj kj ?_
  refine seq_nil ?_
  refine hK3 _ _ ?_
  try clear hK3 K3
  refine wp_seq_k fun K5 hK5 => ?_
  refine wp_seq_k fun K6 hK6 => ?_
  refine region_lit ?_
  have r1_1 := (row_ext hq e1)
  refine seq_val (.agg (ints .u64 (squaresI))) 6 rfl kj (run_load_row 92 _ 0 tq _ _ r1_1 rfl kj kj (isz (n := 8) kj ((ints_size _ _).trans (show squaresI.length = 8 from rfl)))) ?_
  refine seq_val (.int .i64 0) 7 rfl kj kj ?_
  refine seq_nil ?_
  refine hK6 _ _ ?_
  try clear hK6 K6
  refine wp_block ?_
  refine wp_loop_rounds 9 ?_
  show Code.wp _ _ (Exit.then (Code.rounds _ _ _ 8) _) _ _
  refine wp_seq_k fun K7 hK7 => ?_
  refine region_lit ?_
  refine seq_val (.bool true) 8 rfl kj kj ?_
  refine seq_nil ?_
  refine hK7 _ _ ?_
  try clear hK7 K7
  refine wp_seq_k fun K8 hK8 => ?_
  refine cond_true kj ?_
  refine wp_skip ?_
  refine hK8 _ _ ?_
  try clear hK8 K8
  refine wp_seq_k fun K9 hK9 => ?_
  refine wp_block ?_
  refine wp_seq_k fun K10 hK10 => ?_
  refine region_lit ?_
  refine seq_val (.int .i64 0) 9 rfl kj kj ?_
  refine seq_val (.int .u64 (nth squaresI 0)) 10 rfl kj (run_index_il 92 _ _ .i64 .u64 (squaresI) 0 8 91 (nth squaresI 0) rfl kj kj kj kj kj (show squaresI.length = 8 from rfl) (by decide) rfl) ?_
  refine seq_val (.int .i64 0) 2 rfl kj kj ?_
  refine seq_val (.int .u64 (nth squaresI 0)) 3 rfl kj kj ?_
  refine seq_nil ?_
  refine hK10 _ _ ?_
  try clear hK10 K10
  refine region_lit ?_
  refine seq_val (.pointer (some ⟨g4, 0, none⟩)) 11 rfl kj kj ?_
  refine seq_val (.int .i64 0) 12 rfl kj kj ?_
  refine seq_val (.int .u64 (nth squaresI 0)) 13 rfl kj kj ?_
  refine seq_val (.int .u64 (nth squaresI 0 / 4294967296)) 14 rfl kj (run_bin .shr _ _ _ _ .u64 .u64 _ _ _ rfl kj kj (b_shr _ _ _ _ _ _ (by decide) (shr32 _))) ?_
  refine seq_val (.int .u32 (wv S0.a)) 15 rfl kj (run_eq (u := .int .u32 (IntKind.u32.wrap (nth squaresI 0 / 4294967296))) kj (congrArg (Value.int .u32) (show IntKind.u32.wrap (nth squaresI 0 / 4294967296) = wv S0.a by decide +kernel))) ?_
  refine seq_val (.pointer (some ⟨g4, 0, none⟩)) 16 rfl kj kj ?_
  refine seq_val (.pointer (some ⟨g4, 0, none⟩)) 17 rfl kj kj ?_
  refine seq_val (.pointer (some ⟨g4, 0, none⟩)) 18 rfl kj kj ?_
  refine seq_store g4 _ (cat [ints .u32 ([(wv S0.a), 0, 0, 0, 0, 0, 0, 0]), ints .u8 (List.replicate 64 0), #[.int .i64 0]]) 90 r4_1 rfl kj (run_storeP 84 _ _ g4 0 90 [] [ints .u8 (List.replicate 64 0), #[.int .i64 0]] ([0, 0, 0, 0, 0, 0, 0, 0]) 0 0 _ r4_1 rfl kj kj kj kj rfl (Nat.lt_of_lt_of_eq (show 0 < 8 by decide) rfl.symm)) fun W2 p2 r4_2 => ?_
  have x2 : Ext w W2 := Puts.ext p2 x1 b4
  refine seq_nil ?_
  refine hK9 _ _ ?_
  try clear hK9 K9
  refine region_lit ?_
  refine seq_val (.int .i64 1) 19 rfl kj kj ?_
  refine seq_val (.int .i64 1) 7 rfl kj kj ?_
  refine seq_nil ?_
  show Code.rounds _ _ _ 8 _ _
  show Code.wp _ _ (Exit.then (Code.rounds _ _ _ 7) _) _ _
  refine wp_seq_k fun K11 hK11 => ?_
  refine region_lit ?_
  refine seq_val (.bool true) 8 rfl kj kj ?_
  refine seq_nil ?_
  refine hK11 _ _ ?_
  try clear hK11 K11
  refine wp_seq_k fun K12 hK12 => ?_
  refine cond_true kj ?_
  refine wp_skip ?_
  refine hK12 _ _ ?_
  try clear hK12 K12
  refine wp_seq_k fun K13 hK13 => ?_
  refine wp_block ?_
  refine wp_seq_k fun K14 hK14 => ?_
  refine region_lit ?_
  refine seq_val (.int .i64 1) 9 rfl kj kj ?_
  refine seq_val (.int .u64 (nth squaresI 1)) 10 rfl kj (run_index_il 92 _ _ .i64 .u64 (squaresI) 1 8 91 (nth squaresI 1) rfl kj kj kj kj kj (show squaresI.length = 8 from rfl) (by decide) rfl) ?_
  refine seq_val (.int .i64 1) 2 rfl kj kj ?_
  refine seq_val (.int .u64 (nth squaresI 1)) 3 rfl kj kj ?_
  refine seq_nil ?_
  refine hK14 _ _ ?_
  try clear hK14 K14
  refine region_lit ?_
  refine seq_val (.pointer (some ⟨g4, 0, none⟩)) 11 rfl kj kj ?_
  refine seq_val (.int .i64 1) 12 rfl kj kj ?_
  refine seq_val (.int .u64 (nth squaresI 1)) 13 rfl kj kj ?_
  refine seq_val (.int .u64 (nth squaresI 1 / 4294967296)) 14 rfl kj (run_bin .shr _ _ _ _ .u64 .u64 _ _ _ rfl kj kj (b_shr _ _ _ _ _ _ (by decide) (shr32 _))) ?_
  refine seq_val (.int .u32 (wv S0.b)) 15 rfl kj (run_eq (u := .int .u32 (IntKind.u32.wrap (nth squaresI 1 / 4294967296))) kj (congrArg (Value.int .u32) (show IntKind.u32.wrap (nth squaresI 1 / 4294967296) = wv S0.b by decide +kernel))) ?_
  refine seq_val (.pointer (some ⟨g4, 0, none⟩)) 16 rfl kj kj ?_
  refine seq_val (.pointer (some ⟨g4, 0, none⟩)) 17 rfl kj kj ?_
  refine seq_val (.pointer (some ⟨g4, 1, none⟩)) 18 rfl kj kj ?_
  refine seq_store g4 _ (cat [ints .u32 ([(wv S0.a), (wv S0.b), 0, 0, 0, 0, 0, 0]), ints .u8 (List.replicate 64 0), #[.int .i64 0]]) 90 r4_2 rfl kj (run_storeP 84 _ _ g4 1 90 [] [ints .u8 (List.replicate 64 0), #[.int .i64 0]] ([(wv S0.a), 0, 0, 0, 0, 0, 0, 0]) 0 1 _ r4_2 rfl kj kj kj kj rfl (Nat.lt_of_lt_of_eq (show 1 < 8 by decide) rfl.symm)) fun W3 p3 r4_3 => ?_
  have x3 : Ext w W3 := Puts.ext p3 x2 b4
  refine seq_nil ?_
  refine hK13 _ _ ?_
  try clear hK13 K13
  refine region_lit ?_
  refine seq_val (.int .i64 2) 19 rfl kj kj ?_
  refine seq_val (.int .i64 2) 7 rfl kj kj ?_
  refine seq_nil ?_
  show Code.rounds _ _ _ 7 _ _
  show Code.wp _ _ (Exit.then (Code.rounds _ _ _ 6) _) _ _
  refine wp_seq_k fun K15 hK15 => ?_
  refine region_lit ?_
  refine seq_val (.bool true) 8 rfl kj kj ?_
  refine seq_nil ?_
  refine hK15 _ _ ?_
  try clear hK15 K15
  refine wp_seq_k fun K16 hK16 => ?_
  refine cond_true kj ?_
  refine wp_skip ?_
  refine hK16 _ _ ?_
  try clear hK16 K16
  refine wp_seq_k fun K17 hK17 => ?_
  refine wp_block ?_
  refine wp_seq_k fun K18 hK18 => ?_
  refine region_lit ?_
  refine seq_val (.int .i64 2) 9 rfl kj kj ?_
  refine seq_val (.int .u64 (nth squaresI 2)) 10 rfl kj (run_index_il 92 _ _ .i64 .u64 (squaresI) 2 8 91 (nth squaresI 2) rfl kj kj kj kj kj (show squaresI.length = 8 from rfl) (by decide) rfl) ?_
  refine seq_val (.int .i64 2) 2 rfl kj kj ?_
  refine seq_val (.int .u64 (nth squaresI 2)) 3 rfl kj kj ?_
  refine seq_nil ?_
  refine hK18 _ _ ?_
  try clear hK18 K18
  refine region_lit ?_
  refine seq_val (.pointer (some ⟨g4, 0, none⟩)) 11 rfl kj kj ?_
  refine seq_val (.int .i64 2) 12 rfl kj kj ?_
  refine seq_val (.int .u64 (nth squaresI 2)) 13 rfl kj kj ?_
  refine seq_val (.int .u64 (nth squaresI 2 / 4294967296)) 14 rfl kj (run_bin .shr _ _ _ _ .u64 .u64 _ _ _ rfl kj kj (b_shr _ _ _ _ _ _ (by decide) (shr32 _))) ?_
  refine seq_val (.int .u32 (wv S0.c)) 15 rfl kj (run_eq (u := .int .u32 (IntKind.u32.wrap (nth squaresI 2 / 4294967296))) kj (congrArg (Value.int .u32) (show IntKind.u32.wrap (nth squaresI 2 / 4294967296) = wv S0.c by decide +kernel))) ?_
  refine seq_val (.pointer (some ⟨g4, 0, none⟩)) 16 rfl kj kj ?_
  refine seq_val (.pointer (some ⟨g4, 0, none⟩)) 17 rfl kj kj ?_
  refine seq_val (.pointer (some ⟨g4, 2, none⟩)) 18 rfl kj kj ?_
  refine seq_store g4 _ (cat [ints .u32 ([(wv S0.a), (wv S0.b), (wv S0.c), 0, 0, 0, 0, 0]), ints .u8 (List.replicate 64 0), #[.int .i64 0]]) 90 r4_3 rfl kj (run_storeP 84 _ _ g4 2 90 [] [ints .u8 (List.replicate 64 0), #[.int .i64 0]] ([(wv S0.a), (wv S0.b), 0, 0, 0, 0, 0, 0]) 0 2 _ r4_3 rfl kj kj kj kj rfl (Nat.lt_of_lt_of_eq (show 2 < 8 by decide) rfl.symm)) fun W4 p4 r4_4 => ?_
  have x4 : Ext w W4 := Puts.ext p4 x3 b4
  refine seq_nil ?_
  refine hK17 _ _ ?_
  try clear hK17 K17
  refine region_lit ?_
  refine seq_val (.int .i64 3) 19 rfl kj kj ?_
  refine seq_val (.int .i64 3) 7 rfl kj kj ?_
  refine seq_nil ?_
  show Code.rounds _ _ _ 6 _ _
  show Code.wp _ _ (Exit.then (Code.rounds _ _ _ 5) _) _ _
  refine wp_seq_k fun K19 hK19 => ?_
  refine region_lit ?_
  refine seq_val (.bool true) 8 rfl kj kj ?_
  refine seq_nil ?_
  refine hK19 _ _ ?_
  try clear hK19 K19
  refine wp_seq_k fun K20 hK20 => ?_
  refine cond_true kj ?_
  refine wp_skip ?_
  refine hK20 _ _ ?_
  try clear hK20 K20
  refine wp_seq_k fun K21 hK21 => ?_
  refine wp_block ?_
  refine wp_seq_k fun K22 hK22 => ?_
  refine region_lit ?_
  refine seq_val (.int .i64 3) 9 rfl kj kj ?_
  refine seq_val (.int .u64 (nth squaresI 3)) 10 rfl kj (run_index_il 92 _ _ .i64 .u64 (squaresI) 3 8 91 (nth squaresI 3) rfl kj kj kj kj kj (show squaresI.length = 8 from rfl) (by decide) rfl) ?_
  refine seq_val (.int .i64 3) 2 rfl kj kj ?_
  refine seq_val (.int .u64 (nth squaresI 3)) 3 rfl kj kj ?_
  refine seq_nil ?_
  refine hK22 _ _ ?_
  try clear hK22 K22
  refine region_lit ?_
  refine seq_val (.pointer (some ⟨g4, 0, none⟩)) 11 rfl kj kj ?_
  refine seq_val (.int .i64 3) 12 rfl kj kj ?_
  refine seq_val (.int .u64 (nth squaresI 3)) 13 rfl kj kj ?_
  refine seq_val (.int .u64 (nth squaresI 3 / 4294967296)) 14 rfl kj (run_bin .shr _ _ _ _ .u64 .u64 _ _ _ rfl kj kj (b_shr _ _ _ _ _ _ (by decide) (shr32 _))) ?_
  refine seq_val (.int .u32 (wv S0.d)) 15 rfl kj (run_eq (u := .int .u32 (IntKind.u32.wrap (nth squaresI 3 / 4294967296))) kj (congrArg (Value.int .u32) (show IntKind.u32.wrap (nth squaresI 3 / 4294967296) = wv S0.d by decide +kernel))) ?_
  refine seq_val (.pointer (some ⟨g4, 0, none⟩)) 16 rfl kj kj ?_
  refine seq_val (.pointer (some ⟨g4, 0, none⟩)) 17 rfl kj kj ?_
  refine seq_val (.pointer (some ⟨g4, 3, none⟩)) 18 rfl kj kj ?_
  refine seq_store g4 _ (cat [ints .u32 ([(wv S0.a), (wv S0.b), (wv S0.c), (wv S0.d), 0, 0, 0, 0]), ints .u8 (List.replicate 64 0), #[.int .i64 0]]) 90 r4_4 rfl kj (run_storeP 84 _ _ g4 3 90 [] [ints .u8 (List.replicate 64 0), #[.int .i64 0]] ([(wv S0.a), (wv S0.b), (wv S0.c), 0, 0, 0, 0, 0]) 0 3 _ r4_4 rfl kj kj kj kj rfl (Nat.lt_of_lt_of_eq (show 3 < 8 by decide) rfl.symm)) fun W5 p5 r4_5 => ?_
  have x5 : Ext w W5 := Puts.ext p5 x4 b4
  refine seq_nil ?_
  refine hK21 _ _ ?_
  try clear hK21 K21
  refine region_lit ?_
  refine seq_val (.int .i64 4) 19 rfl kj kj ?_
  refine seq_val (.int .i64 4) 7 rfl kj kj ?_
  refine seq_nil ?_
  show Code.rounds _ _ _ 5 _ _
  show Code.wp _ _ (Exit.then (Code.rounds _ _ _ 4) _) _ _
  refine wp_seq_k fun K23 hK23 => ?_
  refine region_lit ?_
  refine seq_val (.bool true) 8 rfl kj kj ?_
  refine seq_nil ?_
  refine hK23 _ _ ?_
  try clear hK23 K23
  refine wp_seq_k fun K24 hK24 => ?_
  refine cond_true kj ?_
  refine wp_skip ?_
  refine hK24 _ _ ?_
  try clear hK24 K24
  refine wp_seq_k fun K25 hK25 => ?_
  refine wp_block ?_
  refine wp_seq_k fun K26 hK26 => ?_
  refine region_lit ?_
  refine seq_val (.int .i64 4) 9 rfl kj kj ?_
  refine seq_val (.int .u64 (nth squaresI 4)) 10 rfl kj (run_index_il 92 _ _ .i64 .u64 (squaresI) 4 8 91 (nth squaresI 4) rfl kj kj kj kj kj (show squaresI.length = 8 from rfl) (by decide) rfl) ?_
  refine seq_val (.int .i64 4) 2 rfl kj kj ?_
  refine seq_val (.int .u64 (nth squaresI 4)) 3 rfl kj kj ?_
  refine seq_nil ?_
  refine hK26 _ _ ?_
  try clear hK26 K26
  refine region_lit ?_
  refine seq_val (.pointer (some ⟨g4, 0, none⟩)) 11 rfl kj kj ?_
  refine seq_val (.int .i64 4) 12 rfl kj kj ?_
  refine seq_val (.int .u64 (nth squaresI 4)) 13 rfl kj kj ?_
  refine seq_val (.int .u64 (nth squaresI 4 / 4294967296)) 14 rfl kj (run_bin .shr _ _ _ _ .u64 .u64 _ _ _ rfl kj kj (b_shr _ _ _ _ _ _ (by decide) (shr32 _))) ?_
  refine seq_val (.int .u32 (wv S0.e)) 15 rfl kj (run_eq (u := .int .u32 (IntKind.u32.wrap (nth squaresI 4 / 4294967296))) kj (congrArg (Value.int .u32) (show IntKind.u32.wrap (nth squaresI 4 / 4294967296) = wv S0.e by decide +kernel))) ?_
  refine seq_val (.pointer (some ⟨g4, 0, none⟩)) 16 rfl kj kj ?_
  refine seq_val (.pointer (some ⟨g4, 0, none⟩)) 17 rfl kj kj ?_
  refine seq_val (.pointer (some ⟨g4, 4, none⟩)) 18 rfl kj kj ?_
  refine seq_store g4 _ (cat [ints .u32 ([(wv S0.a), (wv S0.b), (wv S0.c), (wv S0.d), (wv S0.e), 0, 0, 0]), ints .u8 (List.replicate 64 0), #[.int .i64 0]]) 90 r4_5 rfl kj (run_storeP 84 _ _ g4 4 90 [] [ints .u8 (List.replicate 64 0), #[.int .i64 0]] ([(wv S0.a), (wv S0.b), (wv S0.c), (wv S0.d), 0, 0, 0, 0]) 0 4 _ r4_5 rfl kj kj kj kj rfl (Nat.lt_of_lt_of_eq (show 4 < 8 by decide) rfl.symm)) fun W6 p6 r4_6 => ?_
  have x6 : Ext w W6 := Puts.ext p6 x5 b4
  refine seq_nil ?_
  refine hK25 _ _ ?_
  try clear hK25 K25
  refine region_lit ?_
  refine seq_val (.int .i64 5) 19 rfl kj kj ?_
  refine seq_val (.int .i64 5) 7 rfl kj kj ?_
  refine seq_nil ?_
  show Code.rounds _ _ _ 4 _ _
  show Code.wp _ _ (Exit.then (Code.rounds _ _ _ 3) _) _ _
  refine wp_seq_k fun K27 hK27 => ?_
  refine region_lit ?_
  refine seq_val (.bool true) 8 rfl kj kj ?_
  refine seq_nil ?_
  refine hK27 _ _ ?_
  try clear hK27 K27
  refine wp_seq_k fun K28 hK28 => ?_
  refine cond_true kj ?_
  refine wp_skip ?_
  refine hK28 _ _ ?_
  try clear hK28 K28
  refine wp_seq_k fun K29 hK29 => ?_
  refine wp_block ?_
  refine wp_seq_k fun K30 hK30 => ?_
  refine region_lit ?_
  refine seq_val (.int .i64 5) 9 rfl kj kj ?_
  refine seq_val (.int .u64 (nth squaresI 5)) 10 rfl kj (run_index_il 92 _ _ .i64 .u64 (squaresI) 5 8 91 (nth squaresI 5) rfl kj kj kj kj kj (show squaresI.length = 8 from rfl) (by decide) rfl) ?_
  refine seq_val (.int .i64 5) 2 rfl kj kj ?_
  refine seq_val (.int .u64 (nth squaresI 5)) 3 rfl kj kj ?_
  refine seq_nil ?_
  refine hK30 _ _ ?_
  try clear hK30 K30
  refine region_lit ?_
  refine seq_val (.pointer (some ⟨g4, 0, none⟩)) 11 rfl kj kj ?_
  refine seq_val (.int .i64 5) 12 rfl kj kj ?_
  refine seq_val (.int .u64 (nth squaresI 5)) 13 rfl kj kj ?_
  refine seq_val (.int .u64 (nth squaresI 5 / 4294967296)) 14 rfl kj (run_bin .shr _ _ _ _ .u64 .u64 _ _ _ rfl kj kj (b_shr _ _ _ _ _ _ (by decide) (shr32 _))) ?_
  refine seq_val (.int .u32 (wv S0.f)) 15 rfl kj (run_eq (u := .int .u32 (IntKind.u32.wrap (nth squaresI 5 / 4294967296))) kj (congrArg (Value.int .u32) (show IntKind.u32.wrap (nth squaresI 5 / 4294967296) = wv S0.f by decide +kernel))) ?_
  refine seq_val (.pointer (some ⟨g4, 0, none⟩)) 16 rfl kj kj ?_
  refine seq_val (.pointer (some ⟨g4, 0, none⟩)) 17 rfl kj kj ?_
  refine seq_val (.pointer (some ⟨g4, 5, none⟩)) 18 rfl kj kj ?_
  refine seq_store g4 _ (cat [ints .u32 ([(wv S0.a), (wv S0.b), (wv S0.c), (wv S0.d), (wv S0.e), (wv S0.f), 0, 0]), ints .u8 (List.replicate 64 0), #[.int .i64 0]]) 90 r4_6 rfl kj (run_storeP 84 _ _ g4 5 90 [] [ints .u8 (List.replicate 64 0), #[.int .i64 0]] ([(wv S0.a), (wv S0.b), (wv S0.c), (wv S0.d), (wv S0.e), 0, 0, 0]) 0 5 _ r4_6 rfl kj kj kj kj rfl (Nat.lt_of_lt_of_eq (show 5 < 8 by decide) rfl.symm)) fun W7 p7 r4_7 => ?_
  have x7 : Ext w W7 := Puts.ext p7 x6 b4
  refine seq_nil ?_
  refine hK29 _ _ ?_
  try clear hK29 K29
  refine region_lit ?_
  refine seq_val (.int .i64 6) 19 rfl kj kj ?_
  refine seq_val (.int .i64 6) 7 rfl kj kj ?_
  refine seq_nil ?_
  show Code.rounds _ _ _ 3 _ _
  show Code.wp _ _ (Exit.then (Code.rounds _ _ _ 2) _) _ _
  refine wp_seq_k fun K31 hK31 => ?_
  refine region_lit ?_
  refine seq_val (.bool true) 8 rfl kj kj ?_
  refine seq_nil ?_
  refine hK31 _ _ ?_
  try clear hK31 K31
  refine wp_seq_k fun K32 hK32 => ?_
  refine cond_true kj ?_
  refine wp_skip ?_
  refine hK32 _ _ ?_
  try clear hK32 K32
  refine wp_seq_k fun K33 hK33 => ?_
  refine wp_block ?_
  refine wp_seq_k fun K34 hK34 => ?_
  refine region_lit ?_
  refine seq_val (.int .i64 6) 9 rfl kj kj ?_
  refine seq_val (.int .u64 (nth squaresI 6)) 10 rfl kj (run_index_il 92 _ _ .i64 .u64 (squaresI) 6 8 91 (nth squaresI 6) rfl kj kj kj kj kj (show squaresI.length = 8 from rfl) (by decide) rfl) ?_
  refine seq_val (.int .i64 6) 2 rfl kj kj ?_
  refine seq_val (.int .u64 (nth squaresI 6)) 3 rfl kj kj ?_
  refine seq_nil ?_
  refine hK34 _ _ ?_
  try clear hK34 K34
  refine region_lit ?_
  refine seq_val (.pointer (some ⟨g4, 0, none⟩)) 11 rfl kj kj ?_
  refine seq_val (.int .i64 6) 12 rfl kj kj ?_
  refine seq_val (.int .u64 (nth squaresI 6)) 13 rfl kj kj ?_
  refine seq_val (.int .u64 (nth squaresI 6 / 4294967296)) 14 rfl kj (run_bin .shr _ _ _ _ .u64 .u64 _ _ _ rfl kj kj (b_shr _ _ _ _ _ _ (by decide) (shr32 _))) ?_
  refine seq_val (.int .u32 (wv S0.g)) 15 rfl kj (run_eq (u := .int .u32 (IntKind.u32.wrap (nth squaresI 6 / 4294967296))) kj (congrArg (Value.int .u32) (show IntKind.u32.wrap (nth squaresI 6 / 4294967296) = wv S0.g by decide +kernel))) ?_
  refine seq_val (.pointer (some ⟨g4, 0, none⟩)) 16 rfl kj kj ?_
  refine seq_val (.pointer (some ⟨g4, 0, none⟩)) 17 rfl kj kj ?_
  refine seq_val (.pointer (some ⟨g4, 6, none⟩)) 18 rfl kj kj ?_
  refine seq_store g4 _ (cat [ints .u32 ([(wv S0.a), (wv S0.b), (wv S0.c), (wv S0.d), (wv S0.e), (wv S0.f), (wv S0.g), 0]), ints .u8 (List.replicate 64 0), #[.int .i64 0]]) 90 r4_7 rfl kj (run_storeP 84 _ _ g4 6 90 [] [ints .u8 (List.replicate 64 0), #[.int .i64 0]] ([(wv S0.a), (wv S0.b), (wv S0.c), (wv S0.d), (wv S0.e), (wv S0.f), 0, 0]) 0 6 _ r4_7 rfl kj kj kj kj rfl (Nat.lt_of_lt_of_eq (show 6 < 8 by decide) rfl.symm)) fun W8 p8 r4_8 => ?_
  have x8 : Ext w W8 := Puts.ext p8 x7 b4
  refine seq_nil ?_
  refine hK33 _ _ ?_
  try clear hK33 K33
  refine region_lit ?_
  refine seq_val (.int .i64 7) 19 rfl kj kj ?_
  refine seq_val (.int .i64 7) 7 rfl kj kj ?_
  refine seq_nil ?_
  show Code.rounds _ _ _ 2 _ _
  show Code.wp _ _ (Exit.then (Code.rounds _ _ _ 1) _) _ _
  refine wp_seq_k fun K35 hK35 => ?_
  refine region_lit ?_
  refine seq_val (.bool true) 8 rfl kj kj ?_
  refine seq_nil ?_
  refine hK35 _ _ ?_
  try clear hK35 K35
  refine wp_seq_k fun K36 hK36 => ?_
  refine cond_true kj ?_
  refine wp_skip ?_
  refine hK36 _ _ ?_
  try clear hK36 K36
  refine wp_seq_k fun K37 hK37 => ?_
  refine wp_block ?_
  refine wp_seq_k fun K38 hK38 => ?_
  refine region_lit ?_
  refine seq_val (.int .i64 7) 9 rfl kj kj ?_
  refine seq_val (.int .u64 (nth squaresI 7)) 10 rfl kj (run_index_il 92 _ _ .i64 .u64 (squaresI) 7 8 91 (nth squaresI 7) rfl kj kj kj kj kj (show squaresI.length = 8 from rfl) (by decide) rfl) ?_
  refine seq_val (.int .i64 7) 2 rfl kj kj ?_
  refine seq_val (.int .u64 (nth squaresI 7)) 3 rfl kj kj ?_
  refine seq_nil ?_
  refine hK38 _ _ ?_
  try clear hK38 K38
  refine region_lit ?_
  refine seq_val (.pointer (some ⟨g4, 0, none⟩)) 11 rfl kj kj ?_
  refine seq_val (.int .i64 7) 12 rfl kj kj ?_
  refine seq_val (.int .u64 (nth squaresI 7)) 13 rfl kj kj ?_
  refine seq_val (.int .u64 (nth squaresI 7 / 4294967296)) 14 rfl kj (run_bin .shr _ _ _ _ .u64 .u64 _ _ _ rfl kj kj (b_shr _ _ _ _ _ _ (by decide) (shr32 _))) ?_
  refine seq_val (.int .u32 (wv S0.h)) 15 rfl kj (run_eq (u := .int .u32 (IntKind.u32.wrap (nth squaresI 7 / 4294967296))) kj (congrArg (Value.int .u32) (show IntKind.u32.wrap (nth squaresI 7 / 4294967296) = wv S0.h by decide +kernel))) ?_
  refine seq_val (.pointer (some ⟨g4, 0, none⟩)) 16 rfl kj kj ?_
  refine seq_val (.pointer (some ⟨g4, 0, none⟩)) 17 rfl kj kj ?_
  refine seq_val (.pointer (some ⟨g4, 7, none⟩)) 18 rfl kj kj ?_
  refine seq_store g4 _ (cat [ints .u32 ([(wv S0.a), (wv S0.b), (wv S0.c), (wv S0.d), (wv S0.e), (wv S0.f), (wv S0.g), (wv S0.h)]), ints .u8 (List.replicate 64 0), #[.int .i64 0]]) 90 r4_8 rfl kj (run_storeP 84 _ _ g4 7 90 [] [ints .u8 (List.replicate 64 0), #[.int .i64 0]] ([(wv S0.a), (wv S0.b), (wv S0.c), (wv S0.d), (wv S0.e), (wv S0.f), (wv S0.g), 0]) 0 7 _ r4_8 rfl kj kj kj kj rfl (Nat.lt_of_lt_of_eq (show 7 < 8 by decide) rfl.symm)) fun W9 p9 r4_9 => ?_
  have x9 : Ext w W9 := Puts.ext p9 x8 b4
  refine seq_nil ?_
  refine hK37 _ _ ?_
  try clear hK37 K37
  refine region_lit ?_
  refine seq_val (.int .i64 8) 19 rfl kj kj ?_
  refine seq_val (.int .i64 8) 7 rfl kj kj ?_
  refine seq_nil ?_
  show Code.rounds _ _ _ 1 _ _
  show Code.wp _ _ (Exit.then (Code.rounds _ _ _ 0) _) _ _
  refine wp_seq_k fun K39 hK39 => ?_
  refine region_lit ?_
  refine seq_val (.bool false) 8 rfl kj kj ?_
  refine seq_nil ?_
  refine hK39 _ _ ?_
  try clear hK39 K39
  refine wp_seq_k fun K40 hK40 => ?_
  refine cond_false kj ?_
  refine wp_exit ?_
  refine hK5 _ _ ?_
  try clear hK5 K5
  refine wp_seq_k fun K41 hK41 => ?_
  refine region_lit ?_
  refine seq_val (.pointer (some ⟨g4, 0, none⟩)) 20 rfl kj kj ?_
  refine seq_val (.pointer (some ⟨g4, 0, none⟩)) 0 rfl kj kj ?_
  refine seq_nil ?_
  refine hK41 _ _ ?_
  try clear hK41 K41
  refine wp_ret ?_
  repeat (first | with_reducible refine goR1 ?_ | with_reducible refine goR2 ?_)
  exact (show bodyPost _ _ _ .ret _ _ from ret1 (.pointer (some ⟨g4, 0, none⟩)) rfl (res_tmp kj) ⟨_, rfl, x9, _, rfl, b4, List.replicate 64 0, List.length_replicate, bytes_zeros 64, rfl, Nat.zero_le _, r4_9⟩)

end Go.Proofs.YtamlhbbphnamnaaDoor.Sha
