/- The mark of some parts. -/
import Derived.Test.YtjldjdlhllgakaaDoorAeF
import Derived.Laws.Externs
import Derived.Shelf.Spec.BitsCarry
import Derived.Shelf.Bits.Mul64
import Derived.Laws.Bits64b
namespace Go.Proofs.YtjldjdlhllgakaaDoor.Ae
open Go Go.RowKit
open Go.Proofs.YtjldjdlhllgakaaDoor.Rely Go.Proofs.YtjldjdlhllgakaaDoor.Auto Go.Proofs.YtjldjdlhllgakaaDoor.Own Go.Proofs.YtjldjdlhllgakaaDoor.Sha
set_option linter.unusedVariables false
set_option linter.unusedSimpArgs false

open Go.Proofs.YtjldjdlhllgakaaDoor.Sha Go.Proofs.YtjldjdlhllgakaaDoor.Cha
/-- a number's eight bytes, the lowest first -/
def by8 (n : Int) : List Int := (List.range 8).map fun i => n / p256 i % 256
theorem by8_len (n : Int) : (by8 n).length = 8 := by simp [by8]
theorem by8_bytes (n : Int) : AreBytes (by8 n) := fun x hx => by
  unfold by8 at hx
  obtain ⟨i, -, rfl⟩ := List.mem_map.1 hx
  omega
theorem by8_nth (n : Int) (i : Nat) (h : i < 8) : nth (by8 n) i = n / p256 i % 256 := by
  unfold by8 nth
  rw [List.getD_eq_getElem?_getD, List.getElem?_map, List.getElem?_range h]
  rfl
theorem little_byte (n : Int) (i : Nat) (h : i < 8) : IntKind.u8.wrap (n / p256 i) = nth (by8 n) i := by
  have h3 : ∀ z : Int, IntKind.u8.wrap z = z % 256 := fun _ => rfl
  rw [h3, by8_nth n i h]
theorem or8 (x y : Int) : bits .or .u8 x y = (((BitVec.ofInt 8 x) ||| (BitVec.ofInt 8 y)).toNat : Int) := by
  have h : bits .or .u8 x y = IntKind.u8.wrap (((BitVec.ofInt 8 x) ||| (BitVec.ofInt 8 y)).toNat : Int) := rfl
  have h3 : ∀ z : Int, IntKind.u8.wrap z = z % 256 := fun _ => rfl
  rw [h, h3]
  have := ((BitVec.ofInt 8 x) ||| (BitVec.ofInt 8 y)).isLt
  omega
theorem or8_lt (x y : Int) : 0 ≤ bits .or .u8 x y ∧ bits .or .u8 x y < 256 := by
  rw [or8]
  have := ((BitVec.ofInt 8 x) ||| (BitVec.ofInt 8 y)).isLt
  omega
theorem xor8_lt (x y : Int) : 0 ≤ bits .xor .u8 x y ∧ bits .xor .u8 x y < 256 := by
  rw [bits8]
  have := ((BitVec.ofInt 8 x) ^^^ (BitVec.ofInt 8 y)).isLt
  omega
theorem or8_zero (x y : Int) (hx : 0 ≤ x ∧ x < 256) (hy : 0 ≤ y ∧ y < 256) : bits .or .u8 x y = 0 ↔ x = 0 ∧ y = 0 := by
  rw [or8, BitVec.toNat_or, BitVec.toNat_ofInt, BitVec.toNat_ofInt]
  have h := @Nat.or_eq_zero_iff (x % ((2 ^ 8 : Nat) : Int)).toNat (y % ((2 ^ 8 : Nat) : Int)).toNat
  omega
theorem xor8_self (y : Int) : bits .xor .u8 y y = 0 := by rw [bits8, BitVec.xor_self]; rfl
theorem xor8_zero (x y : Int) (hx : 0 ≤ x ∧ x ≤ 255) (hy : 0 ≤ y ∧ y ≤ 255) : bits .xor .u8 x y = 0 ↔ x = y := by
  constructor
  · intro h
    have h1 := bits8_back x y hx.1 hx.2
    have h2 := bits8_back y y hy.1 hy.2
    rw [xor8_self] at h2
    rw [h] at h1
    exact h1.symm.trans h2
  · intro h; subst h; exact xor8_self x
theorem take_eq (xs ys : List Int) (i : Nat) (h1 : i < xs.length) (h2 : i < ys.length) : xs.take (i + 1) = ys.take (i + 1) ↔ xs.take i = ys.take i ∧ nth xs i = nth ys i := by
  rw [take_succ xs i h1, take_succ ys i h2]
  constructor
  · intro h
    have h3 := List.append_inj h (by rw [List.length_take, List.length_take]; omega)
    exact ⟨h3.1, by simpa using h3.2⟩
  · rintro ⟨a, b⟩; rw [a, b]
theorem same_step {xs ys : List Int} {i : Nat} {d : Int} (h1 : i < xs.length) (h2 : i < ys.length) (hx : AreBytes xs) (hy : AreBytes ys) (hd : 0 ≤ d ∧ d < 256) (h : d = 0 ↔ xs.take i = ys.take i) :
    bits .or .u8 d (bits .xor .u8 (nth xs i) (nth ys i)) = 0 ↔ xs.take (i + 1) = ys.take (i + 1) := by
  have bx := bytes_nth hx i
  have by_ := bytes_nth hy i
  rw [or8_zero _ _ hd (xor8_lt _ _), xor8_zero _ _ (by omega) (by omega), take_eq xs ys i h1 h2, h]
theorem beq_dec (d : Int) (p : Prop) [Decidable p] (h : d = 0 ↔ p) : (d == 0) = decide p := by
  by_cases e : d = 0
  · rw [decide_eq_true (h.1 e), e]; rfl
  · rw [decide_eq_false (fun hp => e (h.2 hp))]; exact beq_eq_false_iff_ne.2 e
theorem Mk.ext {g : Nat} {r s : Int} {t : List Int} {W W' : World} (h : Mk g r s t W) (e : Ext W W') : Mk g r s t W' := by
  obtain ⟨S, pl, q, m, h1, h2, h3, h4⟩ := h
  exact ⟨S, pl, q, m, h1, h2, row_ext h3 e, h4⟩
set_option maxHeartbeats 4000000 in
theorem littleC (n : Nat) (w : World) : Calls Tryd.prog 37 #[.int .i64 ((n : Nat) : Int)] w (Gives w (OwnN .u8 5 w.heap.size (by8 (n : Int)))) := by
  refine enter 21 [(0, .int .i64 ((n : Nat) : Int))] Tryd.func37 rfl rfl kj rfl ?_
  refine wp_seq_k fun K1 hK1 => ?_
  refine region_lit ?_
  refine seq_val (.slice none 0 0) 2 rfl kj kj ?_
  refine seq_nil ?_
  refine hK1 _ _ ?_
  try clear hK1 K1
  refine wp_seq_k fun K2 hK2 => ?_
  refine region_lit ?_
  refine seq_makeS (ints .u8 (List.replicate 8 0)) 5 8 5 rfl kj (run_makeI 24 _ _ .i64 .i64 8 5 rfl kj kj kj (.inr kj) (by decide)) fun g3 W1 l3 e1 r3_1 => ?_
  have x1 : Ext w W1 := Ext.tr (Rely.Ext.refl w) e1
  have b3 : w.heap.size ≤ g3 := Nat.le_trans (Rely.Ext.refl w).size l3
  refine seq_val (.slice (some ⟨g3, 0, none⟩) 8 8) 3 rfl kj kj ?_
  refine seq_nil ?_
  refine hK2 _ _ ?_
  try clear hK2 K2
  refine wp_seq_k fun K4 hK4 => ?_
  refine wp_seq_k fun K5 hK5 => ?_
  refine region_lit ?_
  refine seq_val (.slice (some ⟨g3, 0, none⟩) 8 8) 6 rfl kj kj ?_
  refine seq_val (.int .i64 8) 7 rfl kj kj ?_
  refine seq_val (.int .i64 0) 8 rfl kj kj ?_
  refine seq_nil ?_
  refine hK5 _ _ ?_
  try clear hK5 K5
  refine wp_block ?_
  refine loop_auto (fun (s1 : Nat) => [(0, .int .i64 ((n : Nat) : Int)), (2, .slice none 0 0), (3, .slice (some ⟨g3, 0, none⟩) 8 8), (6, .slice (some ⟨g3, 0, none⟩) 8 8), (7, .int .i64 8), (8, .int .i64 ((s1 : Nat) : Int))]) (fun (s1 : Nat) W => (s1 ≤ 8) ∧ (W.heap[g3]? = some (.cells (ints .u8 (fillL (by8 (n : Int)) 8 s1)) 5)) ∧ (Keeps [g3] W1 W) ∧ (Ext w W)) (fun (s1 : Nat) => 8 - s1) 0 ⟨rfl, rfl, rfl, rfl, rfl, rfl, trivial⟩ ⟨(Nat.zero_le _), (row_eq r3_1 (fillL_zero _ 8)), (Keeps.refl [g3] W1), x1⟩ fun s1 X1 V1 hI1 => ?_
  obtain ⟨i, hs1⟩ : ∃ z, z = s1 := ⟨_, rfl⟩
  subst hs1
  obtain ⟨hi, q3_1, kk1, xx1⟩ := hI1
  replace hi : i ≤ 8 := hi
  replace q3_1 : V1.heap[g3]? = some (.cells (ints .u8 (fillL (by8 (n : Int)) 8 i)) 5) := q3_1
  replace kk1 : Keeps [g3] W1 V1 := kk1
  replace xx1 : Ext w V1 := xx1
  have q2 := kk1
  refine wp_seq_k fun K6 hK6 => ?_
  refine region_lit ?_
  refine seq_val (.bool (decide (((i : Nat) : Int) < 8))) 9 rfl kj kj ?_
  refine seq_nil ?_
  refine hK6 _ _ ?_
  try clear hK6 K6
  refine wp_seq_k fun K7 hK7 => ?_
  refine cond_split (t := decide (((i : Nat) : Int) < 8)) kj (fun c8 => ?_) (fun c8 => ?_)
  · skip
    have hlt9 : i < 8 := by have := of_decide_eq_true c8; omega
    refine wp_skip ?_
    refine hK7 _ _ ?_
    try clear hK7 K7
    refine wp_seq_k fun K9 hK9 => ?_
    refine wp_block ?_
    refine wp_seq_k fun K10 hK10 => ?_
    refine region_lit ?_
    refine seq_val (.int .i64 ((i : Nat) : Int)) 10 rfl kj kj ?_
    refine seq_val (.int .i64 ((i : Nat) : Int)) 4 rfl kj kj ?_
    refine seq_nil ?_
    refine hK10 _ _ ?_
    try clear hK10 K10
    refine region_lit ?_
    refine seq_val (.slice (some ⟨g3, 0, none⟩) 8 8) 11 rfl kj kj ?_
    refine seq_val (.int .i64 ((i : Nat) : Int)) 12 rfl kj kj ?_
    refine seq_val (.int .i64 ((n : Nat) : Int)) 13 rfl kj kj ?_
    refine seq_val (.int .i64 ((i : Nat) : Int)) 14 rfl kj kj ?_
    refine seq_val (.int .i64 ((8 * i : Nat) : Int)) 15 rfl kj (run_eq (u := .int .i64 (IntKind.i64.wrap (8 * ((i : Nat) : Int)))) kj (congrArg (Value.int .i64) (i64n _ _ (by omega) (by omega)))) ?_
    refine seq_val (.int .i64 ((n : Int) / p256 i)) 16 rfl kj (run_bin .shr _ _ _ _ .i64 .i64 _ _ _ rfl kj kj (b_shr _ _ _ _ _ _ (by omega) (shr8 _ i _ rfl (by omega)))) ?_
    refine seq_val (.int .u8 (nth (by8 (n : Int)) i)) 17 rfl kj (run_eq (u := .int .u8 (IntKind.u8.wrap ((n : Int) / p256 i))) kj (congrArg (Value.int .u8) (little_byte _ i hlt9))) ?_
    refine seq_val (.pointer (some ⟨g3, i, none⟩)) 18 rfl kj (run_indexS0 24 _ _ .i64 (i) g3 8 8 5 rfl kj kj kj kj (by omega)) ?_
    refine seq_store g3 _ (ints .u8 ((fillL (by8 (n : Int)) 8 i).set i (nth (by8 (n : Int)) i))) 5 q3_1 rfl kj (run_storeI 5 _ _ g3 i 5 _ _ q3_1 rfl kj kj kj (Nat.lt_of_lt_of_eq (by omega) (fillL_len _ 8 _ (by8_len _) hi).symm)) fun W3 p3 r3_3 => ?_
    have x3 : Ext w W3 := Puts.ext p3 xx1 b3
    refine seq_nil ?_
    refine hK9 _ _ ?_
    try clear hK9 K9
    refine region_lit ?_
    refine seq_val (.int .i64 ((i + 1 : Nat) : Int)) 19 rfl kj (run_eq (u := .int .i64 (IntKind.i64.wrap (((i : Nat) : Int) + 1))) kj (congrArg (Value.int .i64) (i64n _ _ (by omega) (by omega)))) ?_
    refine seq_val (.int .i64 ((i + 1 : Nat) : Int)) 8 rfl kj kj ?_
    refine seq_nil ?_
    repeat (first | with_reducible refine goX1 ?_ | with_reducible refine goX2 ?_ | with_reducible refine goX3 ?_)
    exact goes_then (i + 1) ⟨rfl, rfl, rfl, rfl, rfl, rfl, trivial⟩ ⟨(show i + 1 ≤ 8 by omega), (row_eq r3_3 (fillL_step _ 8 i (by8_len _) hlt9)), (Keeps.puts q2 p3 (.inl (by simp))), x3⟩ (by show 8 - (i + 1) < 8 - i; omega)
  · skip
    have heq9 : i = 8 := by have := of_decide_eq_false c8; omega
    subst heq9
    have r3_2_11 : V1.heap[g3]? = some (.cells (ints .u8 (by8 (n : Int))) 5) := row_eq q3_1 (fillL_full _ 8 (by8_len _))
    refine wp_exit ?_
    refine hK4 _ _ ?_
    try clear hK4 K4
    refine wp_seq_k fun K12 hK12 => ?_
    refine region_lit ?_
    refine seq_val (.slice (some ⟨g3, 0, none⟩) 8 8) 20 rfl kj kj ?_
    refine seq_val (.slice (some ⟨g3, 0, none⟩) 8 8) 2 rfl kj kj ?_
    refine seq_nil ?_
    refine hK12 _ _ ?_
    try clear hK12 K12
    refine wp_ret ?_
    repeat (first | with_reducible refine goR1 ?_ | with_reducible refine goR2 ?_)
    exact (show bodyPost _ _ _ .ret _ _ from ret1 (.slice (some ⟨g3, 0, none⟩) 8 8) rfl (res_tmp kj) ⟨_, rfl, xx1, ownN_row (xs := by8 (n : Int)) (by8_len _) b3 r3_2_11 (by decide)⟩)
set_option maxHeartbeats 4000000 in
theorem zerosC (xs : List Int) (v : Value) (B : Nat) (w : World) (h : RdK .u8 B xs v w) : Calls Tryd.prog 44 #[v] w (Gives w (OwnN .u8 5 w.heap.size (List.replicate ((16 - xs.length % 16) % 16) 0))) := by
  obtain ⟨a_x, c_x, rfl, -⟩ := id h
  refine enter 9 [(0, .slice a_x xs.length c_x)] Tryd.func44 rfl rfl kj rfl ?_
  refine wp_seq_k fun K1 hK1 => ?_
  refine region_lit ?_
  refine seq_val (.slice none 0 0) 2 rfl kj kj ?_
  refine seq_nil ?_
  refine hK1 _ _ ?_
  try clear hK1 K1
  refine wp_seq_k fun K2 hK2 => ?_
  refine region_lit ?_
  refine seq_val (.slice a_x xs.length c_x) 3 rfl kj kj ?_
  refine seq_val (.int .i64 ((xs.length : Nat) : Int)) 4 rfl kj kj ?_
  refine seq_val (.int .i64 ((xs.length % 16 : Nat) : Int)) 5 rfl kj (run_eq (u := .int .i64 (Int.tmod (((xs.length : Nat) : Int)) (16))) kj (congrArg (Value.int .i64) (nat_rem _ 16))) ?_
  refine seq_val (.int .i64 ((16 - (xs.length % 16) : Nat) : Int)) 6 rfl kj (run_eq (u := .int .i64 (IntKind.i64.wrap (16 - ((xs.length % 16 : Nat) : Int)))) kj (congrArg (Value.int .i64) (i64n _ _ (by omega) (by omega)))) ?_
  refine seq_val (.int .i64 (((16 - (xs.length % 16)) % 16 : Nat) : Int)) 7 rfl kj (run_eq (u := .int .i64 (Int.tmod (((16 - (xs.length % 16) : Nat) : Int)) (16))) kj (congrArg (Value.int .i64) (nat_rem _ 16))) ?_
  refine seq_makeS (ints .u8 (List.replicate ((16 - (xs.length % 16)) % 16) 0)) 5 ((16 - (xs.length % 16)) % 16) 8 rfl kj (run_makeI 24 _ _ .i64 .i64 ((16 - (xs.length % 16)) % 16) 5 rfl kj kj kj (.inr kj) (by omega)) fun g3 W1 l3 e1 r3_1 => ?_
  have x1 : Ext w W1 := Ext.tr (Rely.Ext.refl w) e1
  have b3 : w.heap.size ≤ g3 := Nat.le_trans (Rely.Ext.refl w).size l3
  refine seq_val (.slice (some ⟨g3, 0, none⟩) ((16 - (xs.length % 16)) % 16) ((16 - (xs.length % 16)) % 16)) 2 rfl kj kj ?_
  refine seq_nil ?_
  refine hK2 _ _ ?_
  try clear hK2 K2
  refine wp_ret ?_
  repeat (first | with_reducible refine goR1 ?_ | with_reducible refine goR2 ?_)
  exact (show bodyPost _ _ _ .ret _ _ from ret1 (.slice (some ⟨g3, 0, none⟩) ((16 - (xs.length % 16)) % 16) ((16 - (xs.length % 16)) % 16)) rfl (res_tmp kj) ⟨_, rfl, x1, ownN_row (List.length_replicate ..) b3 r3_1 (by rw [maxLen]; omega)⟩)
set_option maxHeartbeats 4000000 in
theorem same_C (xs ys : List Int) (v v2 : Value) (B B2 : Nat) (w : World) (hx : RdK .u8 B xs v w) (hy : RdK .u8 B2 ys v2 w) (hxb : AreBytes xs) (hyb : AreBytes ys) (hl : ys.length = xs.length) (hxl : xs.length ≤ 2000000) : Calls Tryd.prog 36 #[v, v2] w (Ret w (.bool (decide (xs = ys)))) := by
  obtain ⟨a_x, c_x, rfl, -⟩ := id hx
  obtain ⟨a_y, c_y, rfl, -⟩ := id hy
  refine enter 26 [(0, .slice a_x xs.length c_x), (1, .slice a_y ys.length c_y)] Tryd.func36 rfl rfl kj rfl ?_
  refine wp_seq_k fun K1 hK1 => ?_
  refine region_lit ?_
  refine seq_val (.bool false) 4 rfl kj kj ?_
  refine seq_nil ?_
  refine hK1 _ _ ?_
  try clear hK1 K1
  refine wp_seq_k fun K2 hK2 => ?_
  refine region_lit ?_
  refine seq_val (.int .u8 0) 5 rfl kj kj ?_
  refine seq_nil ?_
  refine hK2 _ _ ?_
  try clear hK2 K2
  refine wp_seq_k fun K3 hK3 => ?_
  refine wp_seq_k fun K4 hK4 => ?_
  refine region_lit ?_
  refine seq_val (.slice a_x xs.length c_x) 7 rfl kj kj ?_
  refine seq_val (.int .i64 ((xs.length : Nat) : Int)) 8 rfl kj kj ?_
  refine seq_val (.int .i64 0) 9 rfl kj kj ?_
  refine seq_nil ?_
  refine hK4 _ _ ?_
  try clear hK4 K4
  refine wp_block ?_
  refine loop_auto (fun (s1 : Nat × Int) => [(0, .slice a_x xs.length c_x), (1, .slice a_y ys.length c_y), (4, .bool false), (5, .int .u8 (s1.2)), (7, .slice a_x xs.length c_x), (8, .int .i64 ((xs.length : Nat) : Int)), (9, .int .i64 ((s1.1 : Nat) : Int))]) (fun (s1 : Nat × Int) W => (s1.1 ≤ xs.length) ∧ (0 ≤ s1.2 ∧ s1.2 < 256) ∧ (s1.2 = 0 ↔ xs.take s1.1 = ys.take s1.1) ∧ (Ext w W) ∧ (Ext w W)) (fun (s1 : Nat × Int) => xs.length - s1.1) (0, 0) ⟨rfl, rfl, rfl, rfl, rfl, rfl, rfl, trivial⟩ ⟨(Nat.zero_le _), ⟨by decide, by decide⟩, (by simp), (Rely.Ext.refl w), (Rely.Ext.refl w)⟩ fun s1 X1 V1 hI1 => ?_
  obtain ⟨i, d⟩ := s1
  obtain ⟨hi, hdb, hd, kk1, xx1⟩ := hI1
  replace hi : i ≤ xs.length := hi
  replace hdb : 0 ≤ d ∧ d < 256 := hdb
  replace hd : d = 0 ↔ xs.take i = ys.take i := hd
  replace kk1 : Ext w V1 := kk1
  replace xx1 : Ext w V1 := xx1
  have e1 := kk1
  refine wp_seq_k fun K5 hK5 => ?_
  refine region_lit ?_
  refine seq_val (.bool (decide (((i : Nat) : Int) < ((xs.length : Nat) : Int)))) 10 rfl kj kj ?_
  refine seq_nil ?_
  refine hK5 _ _ ?_
  try clear hK5 K5
  refine wp_seq_k fun K6 hK6 => ?_
  refine cond_split (t := decide (((i : Nat) : Int) < ((xs.length : Nat) : Int))) kj (fun c7 => ?_) (fun c7 => ?_)
  · skip
    have hlt : i < xs.length := by have := of_decide_eq_true c7; omega
    obtain ⟨grx8, orx8, harx8, -, hlrx8, hcrx8⟩ := rdK_at (RdK.ext hx xx1) (by omega)
    obtain ⟨gry9, ory9, hary9, -, hlry9, hcry9⟩ := rdK_at (RdK.ext hy xx1) (by omega)
    refine wp_skip ?_
    refine hK6 _ _ ?_
    try clear hK6 K6
    refine wp_seq_k fun K10 hK10 => ?_
    refine wp_block ?_
    refine wp_seq_k fun K11 hK11 => ?_
    refine region_lit ?_
    refine seq_val (.int .i64 ((i : Nat) : Int)) 11 rfl kj kj ?_
    refine seq_val (.int .i64 ((i : Nat) : Int)) 6 rfl kj kj ?_
    refine seq_nil ?_
    refine hK11 _ _ ?_
    try clear hK11 K11
    refine any_regionE 10 [⟨none, [(5, none)]⟩, ⟨none, [(0, none)]⟩, ⟨none, [(6, none)]⟩, ⟨none, [(13, some 1), (14, some 2)]⟩, ⟨none, [(15, some 3)]⟩, ⟨none, [(1, none)]⟩, ⟨none, [(6, none)]⟩, ⟨none, [(17, some 5), (18, some 6)]⟩, ⟨none, [(19, some 7)]⟩, ⟨none, [(16, some 4), (20, some 8)]⟩] kj kj fun F hF => ?_
    refine e_val (rl_ext _) (.int .u8 (d)) kj kj (fun W => by kernel_rfl) ?_
    refine e_val (rl_ext _) (.slice a_x xs.length c_x) kj kj (fun W => by kernel_rfl) ?_
    refine e_val (rl_ext _) (.int .i64 ((i : Nat) : Int)) kj kj (fun W => by kernel_rfl) ?_
    refine e_val (rl_ext _) (.pointer (some ⟨grx8, orx8 + i, none⟩)) kj kj (fun W => (run_indexA 24 _ _ .i64 i grx8 orx8 xs.length c_x 5 a_x _ harx8 rfl rfl kj kj kj kj (Nat.lt_of_lt_of_eq (show i < (xs).length by omega) (rfl : (xs).length = (xs).length).symm))) ?_
    refine e_read (rl_ext _) (.int .u8 (nth (xs) (i))) kj kj (fun W hR => (run_loadCell 5 _ _ (.int .u8 (nth (xs) (i))) ((Below.cell (Rely.Ext.trans (ext_drew _) hR) hlrx8).trans (hcrx8 i (Nat.lt_of_lt_of_eq (show i < (xs).length by omega) (rfl : (xs).length = (xs).length).symm))) rfl kj kj)) ?_
    refine e_val (rl_ext _) (.slice a_y ys.length c_y) kj kj (fun W => by kernel_rfl) ?_
    refine e_val (rl_ext _) (.int .i64 ((i : Nat) : Int)) kj kj (fun W => by kernel_rfl) ?_
    refine e_val (rl_ext _) (.pointer (some ⟨gry9, ory9 + i, none⟩)) kj kj (fun W => (run_indexA 24 _ _ .i64 i gry9 ory9 ys.length c_y 5 a_y _ hary9 rfl rfl kj kj kj kj (Nat.lt_of_lt_of_eq (show i < (ys).length by omega) (rfl : (ys).length = (ys).length).symm))) ?_
    refine e_read (rl_ext _) (.int .u8 (nth (ys) (i))) kj kj (fun W hR => (run_loadCell 5 _ _ (.int .u8 (nth (ys) (i))) ((Below.cell (Rely.Ext.trans (ext_drew _) hR) hlry9).trans (hcry9 i (Nat.lt_of_lt_of_eq (show i < (ys).length by omega) (rfl : (ys).length = (ys).length).symm))) rfl kj kj)) ?_
    refine e_val (rl_ext _) (.int .u8 (bits .xor .u8 ((nth (xs) (i))) ((nth (ys) (i))))) kj kj (fun W => by kernel_rfl) ?_
    refine e_nil (hF _ fun W2 e2 => ?_)
    simp only [List.nil_append, List.cons_append, List.take_succ_cons, List.take_zero, List.drop_succ_cons, List.drop_zero, finE, up]
    clear hF
    have x2 : Ext w W2 := Ext.tr xx1 e2
    refine seq_val (.int .u8 (bits .or .u8 (d) ((bits .xor .u8 ((nth (xs) (i))) ((nth (ys) (i))))))) 22 rfl kj kj ?_
    refine seq_val (.int .u8 (bits .or .u8 (d) ((bits .xor .u8 ((nth (xs) (i))) ((nth (ys) (i))))))) 5 rfl kj kj ?_
    refine seq_nil ?_
    refine hK10 _ _ ?_
    try clear hK10 K10
    refine region_lit ?_
    refine seq_val (.int .i64 ((i + 1 : Nat) : Int)) 23 rfl kj (run_eq (u := .int .i64 (IntKind.i64.wrap (((i : Nat) : Int) + 1))) kj (congrArg (Value.int .i64) (i64n _ _ (by omega) (by omega)))) ?_
    refine seq_val (.int .i64 ((i + 1 : Nat) : Int)) 9 rfl kj kj ?_
    refine seq_nil ?_
    have y0_2 : Ext w W2 := (Rely.Ext.trans e1 e2)
    repeat (first | with_reducible refine goX1 ?_ | with_reducible refine goX2 ?_ | with_reducible refine goX3 ?_)
    exact goes_then ((i + 1), (bits .or .u8 (d) ((bits .xor .u8 ((nth (xs) (i))) ((nth (ys) (i))))))) ⟨rfl, rfl, rfl, rfl, rfl, rfl, rfl, trivial⟩ ⟨(by omega), (or8_lt _ _), (same_step hlt (by omega) hxb hyb hdb hd), y0_2, x2⟩ (by show xs.length - (i + 1) < xs.length - i; omega)
  · skip
    have hie : i = xs.length := by have := of_decide_eq_false c7; omega
    have hall : d = 0 ↔ xs = ys := by rw [hie, List.take_length, List.take_of_length_le (by omega)] at hd; exact hd
    refine wp_exit ?_
    refine hK3 _ _ ?_
    try clear hK3 K3
    refine wp_seq_k fun K12 hK12 => ?_
    refine region_lit ?_
    refine seq_val (.int .u8 (d)) 24 rfl kj kj ?_
    refine seq_val (.bool (decide (xs = ys))) 25 rfl kj (run_eq (u := .bool ((d == 0))) kj (congrArg Value.bool (beq_dec _ _ hall))) ?_
    refine seq_val (.bool (decide (xs = ys))) 4 rfl kj kj ?_
    refine seq_nil ?_
    refine hK12 _ _ ?_
    try clear hK12 K12
    refine wp_ret ?_
    repeat (first | with_reducible refine goR1 ?_ | with_reducible refine goR2 ?_)
    exact (show bodyPost _ _ _ .ret _ _ from ret1 (.bool (decide (xs = ys))) rfl (res_tmp kj) ⟨rfl, xx1⟩)
set_option maxRecDepth 100000 in
set_option maxHeartbeats 4000000 in
theorem mark2C (key y0 y1 : List Int) (v0 v1 : Value) (gp B : Nat) (w : World) (hkl : key.length = 32) (hkb : AreBytes key) (hB : B ≤ w.heap.size) (hy0 : RdK .u8 B y0 v0 w) (hb0 : AreBytes y0) (hl0 : y0.length ≤ 3000000) (hy1 : RdK .u8 B y1 v1 w) (hb1 : AreBytes y1) (hl1 : y1.length ≤ 3000000) (hp0 : w.heap[gp]? = some (.cells #[v0, v1] 24)) :
    Calls Tryd.prog 11 #[.agg (ints .u8 key), .slice (some ⟨gp, 0, none⟩) 2 2] w (Ret w (.agg (ints .u8 (tagV (rOf key) (sOf key) (y0 ++ y1))))) := by
  obtain ⟨a_y0, c_y0, rfl, -⟩ := id hy0
  obtain ⟨a_y1, c_y1, rfl, -⟩ := id hy1
  have hp : w.heap[gp]? = some (.cells (cat [#[.slice a_y0 y0.length c_y0], #[.slice a_y1 y1.length c_y1]]) 24) := hp0
  refine enter 22 [(0, .agg (ints .u8 (key))), (1, .slice (some ⟨gp, 0, none⟩) 2 2)] Tryd.func11 rfl rfl kj rfl ?_
  refine wp_seq_k fun K2 hK2 => ?_
  refine region_lit ?_
  refine seq_alloc (ints .u8 (key)) 23 2 rfl kj kj fun g3 W1 l3 e1 r3_1 => ?_
  have x1 : Ext w W1 := Ext.tr (Rely.Ext.refl w) e1
  have b3 : w.heap.size ≤ g3 := Nat.le_trans (Rely.Ext.refl w).size l3
  refine seq_alloc (ints .u8 (List.replicate 16 0)) 27 4 rfl kj kj fun g4 W2 l4 e2 r4_2 => ?_
  have x2 : Ext w W2 := Ext.tr x1 e2
  have b4 : w.heap.size ≤ g4 := Nat.le_trans x1.size l4
  refine seq_nil ?_
  refine hK2 _ _ ?_
  try clear hK2 K2
  refine wp_seq_k fun K5 hK5 => ?_
  refine region_lit ?_
  have r3_2 := (row_ext r3_1 e2)
  refine seq_val (.agg (ints .u8 (key))) 8 rfl kj (run_load_row 23 _ g3 23 _ _ r3_2 rfl kj kj (isz (n := 32) kj ((ints_size _ _).trans hkl))) ?_
  refine seq_callR (fun v W' => (fun v W => ∃ g, v = .pointer (some ⟨g, 0, none⟩) ∧ W2.heap.size ≤ g ∧ Mk g (rOf key) (sOf key) [] W) v W' ∧ Ext W2 W') 24 #[.agg (ints .u8 (key))] 9 rfl kj kj ((newMarkerC key _ hkl hkb).mono (by rintro e w' ⟨v, rfl, e1, hv⟩; exact ⟨v, rfl, hv, e1⟩)) fun vv6 W3 hh6 => ?_
  obtain ⟨hv6, e3⟩ := hh6
  have x3 : Ext w W3 := Ext.tr x2 e3
  obtain ⟨gm, rfl, lm, hM0⟩ := hv6
  have hgm : w.heap.size ≤ gm := Nat.le_trans x2.size lm
  refine seq_val (.pointer (some ⟨gm, 0, none⟩)) 5 rfl kj kj ?_
  refine seq_nil ?_
  refine hK5 _ _ ?_
  try clear hK5 K5
  refine wp_seq_k fun K8 hK8 => ?_
  refine wp_seq_k fun K9 hK9 => ?_
  refine region_lit ?_
  refine seq_val (.slice (some ⟨gp, 0, none⟩) 2 2) 10 rfl kj kj ?_
  refine seq_val (.int .i64 2) 11 rfl kj kj ?_
  refine seq_val (.int .i64 0) 12 rfl kj kj ?_
  refine seq_nil ?_
  refine hK9 _ _ ?_
  try clear hK9 K9
  refine wp_block ?_
  refine wp_loop_rounds 3 ?_
  show Code.wp _ _ (Exit.then (Code.rounds _ _ _ 2) _) _ _
  refine wp_seq_k fun K10 hK10 => ?_
  refine region_lit ?_
  refine seq_val (.bool true) 13 rfl kj kj ?_
  refine seq_nil ?_
  refine hK10 _ _ ?_
  try clear hK10 K10
  refine wp_seq_k fun K11 hK11 => ?_
  refine cond_true kj ?_
  refine wp_skip ?_
  refine hK11 _ _ ?_
  try clear hK11 K11
  refine wp_seq_k fun K12 hK12 => ?_
  refine wp_block ?_
  refine wp_seq_k fun K13 hK13 => ?_
  refine region_lit ?_
  refine seq_val (.pointer (some ⟨gp, 0, none⟩)) 14 rfl kj (run_indexS0 42 _ _ .i64 (0) gp 2 2 24 rfl kj kj kj kj (by decide)) ?_
  have r1_1 := (row_ext hp e1)
  have r1_2 := (row_ext r1_1 e2)
  have r1_3 := (row_ext r1_2 e3)
  refine seq_val (.slice a_y0 y0.length c_y0) 15 rfl kj (run_loadC1 24 _ gp 0 24 _ (.slice a_y0 y0.length c_y0) _ r1_3 rfl kj kj kj) ?_
  refine seq_val (.slice a_y0 y0.length c_y0) 7 rfl kj kj ?_
  refine seq_nil ?_
  refine hK13 _ _ ?_
  try clear hK13 K13
  refine region_lit ?_
  refine seq_val (.pointer (some ⟨gm, 0, none⟩)) 16 rfl kj kj ?_
  refine seq_val (.slice a_y0 y0.length c_y0) 17 rfl kj kj ?_
  refine seq_callR (fun v W' => v = .tuple #[] ∧ ExtB gm W3 W' ∧ Mk gm (rOf key) (sOf key) (y0) W') 25 #[.pointer (some ⟨gm, 0, none⟩), .slice a_y0 y0.length c_y0] 18 rfl kj kj ((addC gm (rOf key) (sOf key) ([]) y0 _ B _ (rOf_lt key hkl hkb) (Nat.le_trans hB hgm) (RdK.ext hy0 x3) hb0 hl0 hM0).mono fun e w' h => ⟨_, h.1, rfl, h.2⟩) fun v W4 h4 => ?_
  obtain ⟨rfl, q4, M4⟩ := h4
  have x4 : Ext w W4 := ExtB.up x3 q4 hgm
  refine seq_nil ?_
  refine hK12 _ _ ?_
  try clear hK12 K12
  refine region_lit ?_
  refine seq_val (.int .i64 1) 19 rfl kj kj ?_
  refine seq_val (.int .i64 1) 12 rfl kj kj ?_
  refine seq_nil ?_
  show Code.rounds _ _ _ 2 _ _
  show Code.wp _ _ (Exit.then (Code.rounds _ _ _ 1) _) _ _
  refine wp_seq_k fun K14 hK14 => ?_
  refine region_lit ?_
  refine seq_val (.bool true) 13 rfl kj kj ?_
  refine seq_nil ?_
  refine hK14 _ _ ?_
  try clear hK14 K14
  refine wp_seq_k fun K15 hK15 => ?_
  refine cond_true kj ?_
  refine wp_skip ?_
  refine hK15 _ _ ?_
  try clear hK15 K15
  refine wp_seq_k fun K16 hK16 => ?_
  refine wp_block ?_
  refine wp_seq_k fun K17 hK17 => ?_
  refine region_lit ?_
  refine seq_val (.pointer (some ⟨gp, 1, none⟩)) 14 rfl kj (run_indexS0 42 _ _ .i64 (1) gp 2 2 24 rfl kj kj kj kj (by decide)) ?_
  have r1_4 := (ExtB.row q4 r1_3 (ne_of_old r1_2 lm))
  refine seq_val (.slice a_y1 y1.length c_y1) 15 rfl kj (run_loadC1 24 _ gp 1 24 _ (.slice a_y1 y1.length c_y1) _ r1_4 rfl kj kj kj) ?_
  refine seq_val (.slice a_y1 y1.length c_y1) 7 rfl kj kj ?_
  refine seq_nil ?_
  refine hK17 _ _ ?_
  try clear hK17 K17
  refine region_lit ?_
  refine seq_val (.pointer (some ⟨gm, 0, none⟩)) 16 rfl kj kj ?_
  refine seq_val (.slice a_y1 y1.length c_y1) 17 rfl kj kj ?_
  refine seq_callR (fun v W' => v = .tuple #[] ∧ ExtB gm W4 W' ∧ Mk gm (rOf key) (sOf key) (y0 ++ y1) W') 25 #[.pointer (some ⟨gm, 0, none⟩), .slice a_y1 y1.length c_y1] 18 rfl kj kj ((addC gm (rOf key) (sOf key) (y0) y1 _ B _ (rOf_lt key hkl hkb) (Nat.le_trans hB hgm) (RdK.ext hy1 x4) hb1 hl1 M4).mono fun e w' h => ⟨_, h.1, rfl, h.2⟩) fun v W5 h5 => ?_
  obtain ⟨rfl, q5, M5⟩ := h5
  have x5 : Ext w W5 := ExtB.up x4 q5 hgm
  refine seq_nil ?_
  refine hK16 _ _ ?_
  try clear hK16 K16
  refine region_lit ?_
  refine seq_val (.int .i64 2) 19 rfl kj kj ?_
  refine seq_val (.int .i64 2) 12 rfl kj kj ?_
  refine seq_nil ?_
  show Code.rounds _ _ _ 1 _ _
  show Code.wp _ _ (Exit.then (Code.rounds _ _ _ 0) _) _ _
  refine wp_seq_k fun K18 hK18 => ?_
  refine region_lit ?_
  refine seq_val (.bool false) 13 rfl kj kj ?_
  refine seq_nil ?_
  refine hK18 _ _ ?_
  try clear hK18 K18
  refine wp_seq_k fun K19 hK19 => ?_
  refine cond_false kj ?_
  refine wp_exit ?_
  refine hK8 _ _ ?_
  try clear hK8 K8
  refine wp_seq_k fun K20 hK20 => ?_
  refine region_lit ?_
  refine seq_val (.pointer (some ⟨gm, 0, none⟩)) 20 rfl kj kj ?_
  refine seq_callR (fun v W' => v = .agg (ints .u8 (tagV (rOf key) (sOf key) (y0 ++ y1))) ∧ ExtB gm W5 W') 26 #[.pointer (some ⟨gm, 0, none⟩)] 21 rfl kj kj ((endC gm (rOf key) (sOf key) (y0 ++ y1) _ (rOf_lt key hkl hkb) (sOf_lt key hkl hkb) M5).mono fun e w' h => ⟨_, h.1, rfl, h.2⟩) fun v W6 h6 => ?_
  obtain ⟨rfl, q6⟩ := h6
  have x6 : Ext w W6 := ExtB.up x5 q6 hgm
  have r4_3 := (row_ext r4_2 e3)
  have r4_4 := (ExtB.row q4 r4_3 (ne_of_old r4_2 lm))
  have r4_5 := (ExtB.row q5 r4_4 (ne_of_old r4_2 lm))
  have r4_6 := (ExtB.row q6 r4_5 (ne_of_old r4_2 lm))
  refine seq_store g4 _ (ints .u8 (tagV (rOf key) (sOf key) (y0 ++ y1))) 27 r4_6 rfl kj (run_store_row 27 _ _ g4 27 _ _ r4_6 rfl kj kj (isz (n := 16) kj ((ints_size _ _).trans (by16_len _))) (eqsz (n := 16) ((ints_size _ _).trans (List.length_replicate (n := 16))) ((ints_size _ _).trans (by16_len _))) (ints_one _ _)) fun W7 p7 r4_7 => ?_
  have x7 : Ext w W7 := Puts.ext p7 x6 b4
  refine seq_nil ?_
  refine hK20 _ _ ?_
  try clear hK20 K20
  refine wp_ret ?_
  repeat (first | with_reducible refine goR1 ?_ | with_reducible refine goR2 ?_)
  exact (show bodyPost _ _ _ .ret _ _ from ret1 (.agg (ints .u8 (tagV (rOf key) (sOf key) (y0 ++ y1)))) rfl (res_cell g4 27 _ r4_7 kj kj (isz (n := 16) kj ((ints_size _ _).trans (by16_len _)))) ⟨rfl, x7⟩)
set_option maxRecDepth 100000 in
set_option maxHeartbeats 4000000 in
theorem mark5C (key y0 y1 y2 y3 y4 : List Int) (v0 v1 v2 v3 v4 : Value) (gp B : Nat) (w : World) (hkl : key.length = 32) (hkb : AreBytes key) (hB : B ≤ w.heap.size) (hy0 : RdK .u8 B y0 v0 w) (hb0 : AreBytes y0) (hl0 : y0.length ≤ 3000000) (hy1 : RdK .u8 B y1 v1 w) (hb1 : AreBytes y1) (hl1 : y1.length ≤ 3000000) (hy2 : RdK .u8 B y2 v2 w) (hb2 : AreBytes y2) (hl2 : y2.length ≤ 3000000) (hy3 : RdK .u8 B y3 v3 w) (hb3 : AreBytes y3) (hl3 : y3.length ≤ 3000000) (hy4 : RdK .u8 B y4 v4 w) (hb4 : AreBytes y4) (hl4 : y4.length ≤ 3000000) (hp0 : w.heap[gp]? = some (.cells #[v0, v1, v2, v3, v4] 24)) :
    Calls Tryd.prog 11 #[.agg (ints .u8 key), .slice (some ⟨gp, 0, none⟩) 5 5] w (Ret w (.agg (ints .u8 (tagV (rOf key) (sOf key) (y0 ++ y1 ++ y2 ++ y3 ++ y4))))) := by
  obtain ⟨a_y0, c_y0, rfl, -⟩ := id hy0
  obtain ⟨a_y1, c_y1, rfl, -⟩ := id hy1
  obtain ⟨a_y2, c_y2, rfl, -⟩ := id hy2
  obtain ⟨a_y3, c_y3, rfl, -⟩ := id hy3
  obtain ⟨a_y4, c_y4, rfl, -⟩ := id hy4
  have hp : w.heap[gp]? = some (.cells (cat [#[.slice a_y0 y0.length c_y0], #[.slice a_y1 y1.length c_y1], #[.slice a_y2 y2.length c_y2], #[.slice a_y3 y3.length c_y3], #[.slice a_y4 y4.length c_y4]]) 24) := hp0
  refine enter 22 [(0, .agg (ints .u8 (key))), (1, .slice (some ⟨gp, 0, none⟩) 5 5)] Tryd.func11 rfl rfl kj rfl ?_
  refine wp_seq_k fun K2 hK2 => ?_
  refine region_lit ?_
  refine seq_alloc (ints .u8 (key)) 23 2 rfl kj kj fun g3 W1 l3 e1 r3_1 => ?_
  have x1 : Ext w W1 := Ext.tr (Rely.Ext.refl w) e1
  have b3 : w.heap.size ≤ g3 := Nat.le_trans (Rely.Ext.refl w).size l3
  refine seq_alloc (ints .u8 (List.replicate 16 0)) 27 4 rfl kj kj fun g4 W2 l4 e2 r4_2 => ?_
  have x2 : Ext w W2 := Ext.tr x1 e2
  have b4 : w.heap.size ≤ g4 := Nat.le_trans x1.size l4
  refine seq_nil ?_
  refine hK2 _ _ ?_
  try clear hK2 K2
  refine wp_seq_k fun K5 hK5 => ?_
  refine region_lit ?_
  have r3_2 := (row_ext r3_1 e2)
  refine seq_val (.agg (ints .u8 (key))) 8 rfl kj (run_load_row 23 _ g3 23 _ _ r3_2 rfl kj kj (isz (n := 32) kj ((ints_size _ _).trans hkl))) ?_
  refine seq_callR (fun v W' => (fun v W => ∃ g, v = .pointer (some ⟨g, 0, none⟩) ∧ W2.heap.size ≤ g ∧ Mk g (rOf key) (sOf key) [] W) v W' ∧ Ext W2 W') 24 #[.agg (ints .u8 (key))] 9 rfl kj kj ((newMarkerC key _ hkl hkb).mono (by rintro e w' ⟨v, rfl, e1, hv⟩; exact ⟨v, rfl, hv, e1⟩)) fun vv6 W3 hh6 => ?_
  obtain ⟨hv6, e3⟩ := hh6
  have x3 : Ext w W3 := Ext.tr x2 e3
  obtain ⟨gm, rfl, lm, hM0⟩ := hv6
  have hgm : w.heap.size ≤ gm := Nat.le_trans x2.size lm
  refine seq_val (.pointer (some ⟨gm, 0, none⟩)) 5 rfl kj kj ?_
  refine seq_nil ?_
  refine hK5 _ _ ?_
  try clear hK5 K5
  refine wp_seq_k fun K8 hK8 => ?_
  refine wp_seq_k fun K9 hK9 => ?_
  refine region_lit ?_
  refine seq_val (.slice (some ⟨gp, 0, none⟩) 5 5) 10 rfl kj kj ?_
  refine seq_val (.int .i64 5) 11 rfl kj kj ?_
  refine seq_val (.int .i64 0) 12 rfl kj kj ?_
  refine seq_nil ?_
  refine hK9 _ _ ?_
  try clear hK9 K9
  refine wp_block ?_
  refine wp_loop_rounds 6 ?_
  show Code.wp _ _ (Exit.then (Code.rounds _ _ _ 5) _) _ _
  refine wp_seq_k fun K10 hK10 => ?_
  refine region_lit ?_
  refine seq_val (.bool true) 13 rfl kj kj ?_
  refine seq_nil ?_
  refine hK10 _ _ ?_
  try clear hK10 K10
  refine wp_seq_k fun K11 hK11 => ?_
  refine cond_true kj ?_
  refine wp_skip ?_
  refine hK11 _ _ ?_
  try clear hK11 K11
  refine wp_seq_k fun K12 hK12 => ?_
  refine wp_block ?_
  refine wp_seq_k fun K13 hK13 => ?_
  refine region_lit ?_
  refine seq_val (.pointer (some ⟨gp, 0, none⟩)) 14 rfl kj (run_indexS0 42 _ _ .i64 (0) gp 5 5 24 rfl kj kj kj kj (by decide)) ?_
  have r1_1 := (row_ext hp e1)
  have r1_2 := (row_ext r1_1 e2)
  have r1_3 := (row_ext r1_2 e3)
  refine seq_val (.slice a_y0 y0.length c_y0) 15 rfl kj (run_loadC1 24 _ gp 0 24 _ (.slice a_y0 y0.length c_y0) _ r1_3 rfl kj kj kj) ?_
  refine seq_val (.slice a_y0 y0.length c_y0) 7 rfl kj kj ?_
  refine seq_nil ?_
  refine hK13 _ _ ?_
  try clear hK13 K13
  refine region_lit ?_
  refine seq_val (.pointer (some ⟨gm, 0, none⟩)) 16 rfl kj kj ?_
  refine seq_val (.slice a_y0 y0.length c_y0) 17 rfl kj kj ?_
  refine seq_callR (fun v W' => v = .tuple #[] ∧ ExtB gm W3 W' ∧ Mk gm (rOf key) (sOf key) (y0) W') 25 #[.pointer (some ⟨gm, 0, none⟩), .slice a_y0 y0.length c_y0] 18 rfl kj kj ((addC gm (rOf key) (sOf key) ([]) y0 _ B _ (rOf_lt key hkl hkb) (Nat.le_trans hB hgm) (RdK.ext hy0 x3) hb0 hl0 hM0).mono fun e w' h => ⟨_, h.1, rfl, h.2⟩) fun v W4 h4 => ?_
  obtain ⟨rfl, q4, M4⟩ := h4
  have x4 : Ext w W4 := ExtB.up x3 q4 hgm
  refine seq_nil ?_
  refine hK12 _ _ ?_
  try clear hK12 K12
  refine region_lit ?_
  refine seq_val (.int .i64 1) 19 rfl kj kj ?_
  refine seq_val (.int .i64 1) 12 rfl kj kj ?_
  refine seq_nil ?_
  show Code.rounds _ _ _ 5 _ _
  show Code.wp _ _ (Exit.then (Code.rounds _ _ _ 4) _) _ _
  refine wp_seq_k fun K14 hK14 => ?_
  refine region_lit ?_
  refine seq_val (.bool true) 13 rfl kj kj ?_
  refine seq_nil ?_
  refine hK14 _ _ ?_
  try clear hK14 K14
  refine wp_seq_k fun K15 hK15 => ?_
  refine cond_true kj ?_
  refine wp_skip ?_
  refine hK15 _ _ ?_
  try clear hK15 K15
  refine wp_seq_k fun K16 hK16 => ?_
  refine wp_block ?_
  refine wp_seq_k fun K17 hK17 => ?_
  refine region_lit ?_
  refine seq_val (.pointer (some ⟨gp, 1, none⟩)) 14 rfl kj (run_indexS0 42 _ _ .i64 (1) gp 5 5 24 rfl kj kj kj kj (by decide)) ?_
  have r1_4 := (ExtB.row q4 r1_3 (ne_of_old r1_2 lm))
  refine seq_val (.slice a_y1 y1.length c_y1) 15 rfl kj (run_loadC1 24 _ gp 1 24 _ (.slice a_y1 y1.length c_y1) _ r1_4 rfl kj kj kj) ?_
  refine seq_val (.slice a_y1 y1.length c_y1) 7 rfl kj kj ?_
  refine seq_nil ?_
  refine hK17 _ _ ?_
  try clear hK17 K17
  refine region_lit ?_
  refine seq_val (.pointer (some ⟨gm, 0, none⟩)) 16 rfl kj kj ?_
  refine seq_val (.slice a_y1 y1.length c_y1) 17 rfl kj kj ?_
  refine seq_callR (fun v W' => v = .tuple #[] ∧ ExtB gm W4 W' ∧ Mk gm (rOf key) (sOf key) (y0 ++ y1) W') 25 #[.pointer (some ⟨gm, 0, none⟩), .slice a_y1 y1.length c_y1] 18 rfl kj kj ((addC gm (rOf key) (sOf key) (y0) y1 _ B _ (rOf_lt key hkl hkb) (Nat.le_trans hB hgm) (RdK.ext hy1 x4) hb1 hl1 M4).mono fun e w' h => ⟨_, h.1, rfl, h.2⟩) fun v W5 h5 => ?_
  obtain ⟨rfl, q5, M5⟩ := h5
  have x5 : Ext w W5 := ExtB.up x4 q5 hgm
  refine seq_nil ?_
  refine hK16 _ _ ?_
  try clear hK16 K16
  refine region_lit ?_
  refine seq_val (.int .i64 2) 19 rfl kj kj ?_
  refine seq_val (.int .i64 2) 12 rfl kj kj ?_
  refine seq_nil ?_
  show Code.rounds _ _ _ 4 _ _
  show Code.wp _ _ (Exit.then (Code.rounds _ _ _ 3) _) _ _
  refine wp_seq_k fun K18 hK18 => ?_
  refine region_lit ?_
  refine seq_val (.bool true) 13 rfl kj kj ?_
  refine seq_nil ?_
  refine hK18 _ _ ?_
  try clear hK18 K18
  refine wp_seq_k fun K19 hK19 => ?_
  refine cond_true kj ?_
  refine wp_skip ?_
  refine hK19 _ _ ?_
  try clear hK19 K19
  refine wp_seq_k fun K20 hK20 => ?_
  refine wp_block ?_
  refine wp_seq_k fun K21 hK21 => ?_
  refine region_lit ?_
  refine seq_val (.pointer (some ⟨gp, 2, none⟩)) 14 rfl kj (run_indexS0 42 _ _ .i64 (2) gp 5 5 24 rfl kj kj kj kj (by decide)) ?_
  have r1_5 := (ExtB.row q5 r1_4 (ne_of_old r1_2 lm))
  refine seq_val (.slice a_y2 y2.length c_y2) 15 rfl kj (run_loadC1 24 _ gp 2 24 _ (.slice a_y2 y2.length c_y2) _ r1_5 rfl kj kj kj) ?_
  refine seq_val (.slice a_y2 y2.length c_y2) 7 rfl kj kj ?_
  refine seq_nil ?_
  refine hK21 _ _ ?_
  try clear hK21 K21
  refine region_lit ?_
  refine seq_val (.pointer (some ⟨gm, 0, none⟩)) 16 rfl kj kj ?_
  refine seq_val (.slice a_y2 y2.length c_y2) 17 rfl kj kj ?_
  refine seq_callR (fun v W' => v = .tuple #[] ∧ ExtB gm W5 W' ∧ Mk gm (rOf key) (sOf key) (y0 ++ y1 ++ y2) W') 25 #[.pointer (some ⟨gm, 0, none⟩), .slice a_y2 y2.length c_y2] 18 rfl kj kj ((addC gm (rOf key) (sOf key) (y0 ++ y1) y2 _ B _ (rOf_lt key hkl hkb) (Nat.le_trans hB hgm) (RdK.ext hy2 x5) hb2 hl2 M5).mono fun e w' h => ⟨_, h.1, rfl, h.2⟩) fun v W6 h6 => ?_
  obtain ⟨rfl, q6, M6⟩ := h6
  have x6 : Ext w W6 := ExtB.up x5 q6 hgm
  refine seq_nil ?_
  refine hK20 _ _ ?_
  try clear hK20 K20
  refine region_lit ?_
  refine seq_val (.int .i64 3) 19 rfl kj kj ?_
  refine seq_val (.int .i64 3) 12 rfl kj kj ?_
  refine seq_nil ?_
  show Code.rounds _ _ _ 3 _ _
  show Code.wp _ _ (Exit.then (Code.rounds _ _ _ 2) _) _ _
  refine wp_seq_k fun K22 hK22 => ?_
  refine region_lit ?_
  refine seq_val (.bool true) 13 rfl kj kj ?_
  refine seq_nil ?_
  refine hK22 _ _ ?_
  try clear hK22 K22
  refine wp_seq_k fun K23 hK23 => ?_
  refine cond_true kj ?_
  refine wp_skip ?_
  refine hK23 _ _ ?_
  try clear hK23 K23
  refine wp_seq_k fun K24 hK24 => ?_
  refine wp_block ?_
  refine wp_seq_k fun K25 hK25 => ?_
  refine region_lit ?_
  refine seq_val (.pointer (some ⟨gp, 3, none⟩)) 14 rfl kj (run_indexS0 42 _ _ .i64 (3) gp 5 5 24 rfl kj kj kj kj (by decide)) ?_
  have r1_6 := (ExtB.row q6 r1_5 (ne_of_old r1_2 lm))
  refine seq_val (.slice a_y3 y3.length c_y3) 15 rfl kj (run_loadC1 24 _ gp 3 24 _ (.slice a_y3 y3.length c_y3) _ r1_6 rfl kj kj kj) ?_
  refine seq_val (.slice a_y3 y3.length c_y3) 7 rfl kj kj ?_
  refine seq_nil ?_
  refine hK25 _ _ ?_
  try clear hK25 K25
  refine region_lit ?_
  refine seq_val (.pointer (some ⟨gm, 0, none⟩)) 16 rfl kj kj ?_
  refine seq_val (.slice a_y3 y3.length c_y3) 17 rfl kj kj ?_
  refine seq_callR (fun v W' => v = .tuple #[] ∧ ExtB gm W6 W' ∧ Mk gm (rOf key) (sOf key) (y0 ++ y1 ++ y2 ++ y3) W') 25 #[.pointer (some ⟨gm, 0, none⟩), .slice a_y3 y3.length c_y3] 18 rfl kj kj ((addC gm (rOf key) (sOf key) (y0 ++ y1 ++ y2) y3 _ B _ (rOf_lt key hkl hkb) (Nat.le_trans hB hgm) (RdK.ext hy3 x6) hb3 hl3 M6).mono fun e w' h => ⟨_, h.1, rfl, h.2⟩) fun v W7 h7 => ?_
  obtain ⟨rfl, q7, M7⟩ := h7
  have x7 : Ext w W7 := ExtB.up x6 q7 hgm
  refine seq_nil ?_
  refine hK24 _ _ ?_
  try clear hK24 K24
  refine region_lit ?_
  refine seq_val (.int .i64 4) 19 rfl kj kj ?_
  refine seq_val (.int .i64 4) 12 rfl kj kj ?_
  refine seq_nil ?_
  show Code.rounds _ _ _ 2 _ _
  show Code.wp _ _ (Exit.then (Code.rounds _ _ _ 1) _) _ _
  refine wp_seq_k fun K26 hK26 => ?_
  refine region_lit ?_
  refine seq_val (.bool true) 13 rfl kj kj ?_
  refine seq_nil ?_
  refine hK26 _ _ ?_
  try clear hK26 K26
  refine wp_seq_k fun K27 hK27 => ?_
  refine cond_true kj ?_
  refine wp_skip ?_
  refine hK27 _ _ ?_
  try clear hK27 K27
  refine wp_seq_k fun K28 hK28 => ?_
  refine wp_block ?_
  refine wp_seq_k fun K29 hK29 => ?_
  refine region_lit ?_
  refine seq_val (.pointer (some ⟨gp, 4, none⟩)) 14 rfl kj (run_indexS0 42 _ _ .i64 (4) gp 5 5 24 rfl kj kj kj kj (by decide)) ?_
  have r1_7 := (ExtB.row q7 r1_6 (ne_of_old r1_2 lm))
  refine seq_val (.slice a_y4 y4.length c_y4) 15 rfl kj (run_loadC1 24 _ gp 4 24 _ (.slice a_y4 y4.length c_y4) _ r1_7 rfl kj kj kj) ?_
  refine seq_val (.slice a_y4 y4.length c_y4) 7 rfl kj kj ?_
  refine seq_nil ?_
  refine hK29 _ _ ?_
  try clear hK29 K29
  refine region_lit ?_
  refine seq_val (.pointer (some ⟨gm, 0, none⟩)) 16 rfl kj kj ?_
  refine seq_val (.slice a_y4 y4.length c_y4) 17 rfl kj kj ?_
  refine seq_callR (fun v W' => v = .tuple #[] ∧ ExtB gm W7 W' ∧ Mk gm (rOf key) (sOf key) (y0 ++ y1 ++ y2 ++ y3 ++ y4) W') 25 #[.pointer (some ⟨gm, 0, none⟩), .slice a_y4 y4.length c_y4] 18 rfl kj kj ((addC gm (rOf key) (sOf key) (y0 ++ y1 ++ y2 ++ y3) y4 _ B _ (rOf_lt key hkl hkb) (Nat.le_trans hB hgm) (RdK.ext hy4 x7) hb4 hl4 M7).mono fun e w' h => ⟨_, h.1, rfl, h.2⟩) fun v W8 h8 => ?_
  obtain ⟨rfl, q8, M8⟩ := h8
  have x8 : Ext w W8 := ExtB.up x7 q8 hgm
  refine seq_nil ?_
  refine hK28 _ _ ?_
  try clear hK28 K28
  refine region_lit ?_
  refine seq_val (.int .i64 5) 19 rfl kj kj ?_
  refine seq_val (.int .i64 5) 12 rfl kj kj ?_
  refine seq_nil ?_
  show Code.rounds _ _ _ 1 _ _
  show Code.wp _ _ (Exit.then (Code.rounds _ _ _ 0) _) _ _
  refine wp_seq_k fun K30 hK30 => ?_
  refine region_lit ?_
  refine seq_val (.bool false) 13 rfl kj kj ?_
  refine seq_nil ?_
  refine hK30 _ _ ?_
  try clear hK30 K30
  refine wp_seq_k fun K31 hK31 => ?_
  refine cond_false kj ?_
  refine wp_exit ?_
  refine hK8 _ _ ?_
  try clear hK8 K8
  refine wp_seq_k fun K32 hK32 => ?_
  refine region_lit ?_
  refine seq_val (.pointer (some ⟨gm, 0, none⟩)) 20 rfl kj kj ?_
  refine seq_callR (fun v W' => v = .agg (ints .u8 (tagV (rOf key) (sOf key) (y0 ++ y1 ++ y2 ++ y3 ++ y4))) ∧ ExtB gm W8 W') 26 #[.pointer (some ⟨gm, 0, none⟩)] 21 rfl kj kj ((endC gm (rOf key) (sOf key) (y0 ++ y1 ++ y2 ++ y3 ++ y4) _ (rOf_lt key hkl hkb) (sOf_lt key hkl hkb) M8).mono fun e w' h => ⟨_, h.1, rfl, h.2⟩) fun v W9 h9 => ?_
  obtain ⟨rfl, q9⟩ := h9
  have x9 : Ext w W9 := ExtB.up x8 q9 hgm
  have r4_3 := (row_ext r4_2 e3)
  have r4_4 := (ExtB.row q4 r4_3 (ne_of_old r4_2 lm))
  have r4_5 := (ExtB.row q5 r4_4 (ne_of_old r4_2 lm))
  have r4_6 := (ExtB.row q6 r4_5 (ne_of_old r4_2 lm))
  have r4_7 := (ExtB.row q7 r4_6 (ne_of_old r4_2 lm))
  have r4_8 := (ExtB.row q8 r4_7 (ne_of_old r4_2 lm))
  have r4_9 := (ExtB.row q9 r4_8 (ne_of_old r4_2 lm))
  refine seq_store g4 _ (ints .u8 (tagV (rOf key) (sOf key) (y0 ++ y1 ++ y2 ++ y3 ++ y4))) 27 r4_9 rfl kj (run_store_row 27 _ _ g4 27 _ _ r4_9 rfl kj kj (isz (n := 16) kj ((ints_size _ _).trans (by16_len _))) (eqsz (n := 16) ((ints_size _ _).trans (List.length_replicate (n := 16))) ((ints_size _ _).trans (by16_len _))) (ints_one _ _)) fun W10 p10 r4_10 => ?_
  have x10 : Ext w W10 := Puts.ext p10 x9 b4
  refine seq_nil ?_
  refine hK32 _ _ ?_
  try clear hK32 K32
  refine wp_ret ?_
  repeat (first | with_reducible refine goR1 ?_ | with_reducible refine goR2 ?_)
  exact (show bodyPost _ _ _ .ret _ _ from ret1 (.agg (ints .u8 (tagV (rOf key) (sOf key) (y0 ++ y1 ++ y2 ++ y3 ++ y4)))) rfl (res_cell g4 27 _ r4_10 kj kj (isz (n := 16) kj ((ints_size _ _).trans (by16_len _)))) ⟨rfl, x10⟩)

end Go.Proofs.YtjldjdlhllgakaaDoor.Ae
