/- The reference: numbers, heads, rows. -/
import Derived.Test.YtfelfmchachljaaWrE
namespace Go.Proofs.Ytfelfmchachljaa.Wr
open Go Go.RowKit
open Go.Proofs.Ytfelfmchachljaa.Rely Go.Proofs.Ytfelfmchachljaa.Auto Go.Proofs.Ytfelfmchachljaa.Own Go.Proofs.Ytfelfmchachljaa.Sha
set_option linter.unusedVariables false
set_option linter.unusedSimpArgs false

/-- a number's bytes, the highest first -/
def beV (n : Int) : Nat → List Int
  | 0 => []
  | k + 1 => byV n k :: beV n k
theorem beV_len (n : Int) : ∀ k, (beV n k).length = k
  | 0 => rfl
  | k + 1 => by unfold beV; rw [List.length_cons, beV_len n k]
theorem beV_bytes (n : Int) : ∀ k, AreBytes (beV n k)
  | 0 => fun x hx => by cases hx
  | k + 1 => fun x hx => by
    unfold beV at hx
    rcases List.mem_cons.1 hx with h | h
    · exact byV_bytes n k x (by simp [h])
    · exact beV_bytes n k x h
theorem fdiv_pow (n : Int) (i : Nat) (h : 0 ≤ n) : n.fdiv (2 ^ (8 * i)) / 256 = n.fdiv (2 ^ (8 * (i + 1))) := by
  have h0 : (0 : Int) ≤ 2 ^ (8 * i) := by have := Int.pow_pos (n := 2) (m := 8 * i) (by decide); omega
  have h1 : (0 : Int) ≤ 2 ^ (8 * (i + 1)) := by have := Int.pow_pos (n := 2) (m := 8 * (i + 1)) (by decide); omega
  rw [Int.fdiv_eq_ediv_of_nonneg _ h0, Int.fdiv_eq_ediv_of_nonneg _ h1, Int.ediv_ediv_of_nonneg h0, show 8 * (i + 1) = 8 * i + 8 by omega, Int.pow_add]; rfl
theorem fdiv_rng (n : Int) (i : Nat) (h : 0 ≤ n) : 0 ≤ n.fdiv (2 ^ (8 * i)) ∧ n.fdiv (2 ^ (8 * i)) ≤ n := by
  have h0 := Int.pow_pos (n := 2) (m := 8 * i) (by decide)
  rw [Int.fdiv_eq_ediv_of_nonneg _ (by omega)]
  exact ⟨Int.ediv_nonneg h (by omega), Int.ediv_le_self _ h⟩
theorem wrap8W (z : Int) : IntKind.u8.wrap z = z % 256 := rfl
theorem byV_mod (n : Int) (i : Nat) : IntKind.u8.wrap (n.fdiv (2 ^ (8 * i)) % 256) = byV n i := by
  unfold byV
  rw [wrap8W, wrap8W]; omega
def inB (n last : Int) : Bool := decide (0 ≤ n) && decide (n ≤ last)
def hgB (ep fr : Int) : Bool := inB ep 4294967295 && inB fr 31
theorem inB_rng {n last : Int} (h : inB n last = true) : 0 ≤ n ∧ n ≤ last := by
  unfold inB at h
  simpa using h
def headV (grp : List Int) (ep fr : Int) : List Int := grp ++ beV ep 4 ++ [byV fr 0]
def rowV (ys : List Int) : List Int := beV ((ys.length : Nat) : Int) 2 ++ ys
def fitV (ys : List Int) : Option (List Int) := if ys.length ≤ 65536 then some ys else none
def WantR (base : Nat) : Option (List Int) → Value → World → Prop
  | none => fun v W => v = .tuple #[.slice none 0 0, .bool false]
  | some xs => fun v W => ∃ u, v = .tuple #[u, .bool true] ∧ OwnN .u8 5 base xs u W
set_option maxHeartbeats 4000000 in
theorem in_N (n last : Int) (w : World) (hn : n < 0) : Calls Try.prog 77 #[.int .i64 n, .int .i64 last] w (Ret w (.bool false)) := by
  refine enter 12 [(0, .int .i64 n), (1, .int .i64 last)] Try.func77 rfl rfl kj rfl ?_
  refine wp_seq_k fun K1 hK1 => ?_
  refine region_lit ?_
  refine seq_val (.bool false) 4 rfl kj kj ?_
  refine seq_nil ?_
  refine hK1 _ _ ?_
  try clear hK1 K1
  refine wp_seq_k fun K2 hK2 => ?_
  refine region_lit ?_
  refine seq_val (.int .i64 n) 5 rfl kj kj ?_
  refine seq_val (.bool false) 6 rfl kj (run_eq (u := .bool (decide (n ≥ 0))) kj (congrArg Value.bool (decide_eq_false (by omega)))) ?_
  refine seq_val (.bool false) 7 rfl kj kj ?_
  refine seq_skip 8 rfl kj ?_
  refine seq_skip 9 rfl kj ?_
  refine seq_skip 10 rfl kj ?_
  refine seq_val (.bool false) 11 rfl kj kj ?_
  refine seq_val (.bool false) 4 rfl kj kj ?_
  refine seq_nil ?_
  refine hK2 _ _ ?_
  try clear hK2 K2
  refine wp_ret ?_
  repeat (first | with_reducible refine goR1 ?_ | with_reducible refine goR2 ?_)
  exact (show bodyPost _ _ _ .ret _ _ from ret1 (.bool false) rfl (res_tmp kj) ⟨rfl, (Rely.Ext.refl w)⟩)
set_option maxHeartbeats 4000000 in
theorem in_P (n last : Int) (w : World) (hn : 0 ≤ n) : Calls Try.prog 77 #[.int .i64 n, .int .i64 last] w (Ret w (.bool (decide (n ≤ last)))) := by
  refine enter 12 [(0, .int .i64 n), (1, .int .i64 last)] Try.func77 rfl rfl kj rfl ?_
  refine wp_seq_k fun K1 hK1 => ?_
  refine region_lit ?_
  refine seq_val (.bool false) 4 rfl kj kj ?_
  refine seq_nil ?_
  refine hK1 _ _ ?_
  try clear hK1 K1
  refine wp_seq_k fun K2 hK2 => ?_
  refine region_lit ?_
  refine seq_val (.int .i64 n) 5 rfl kj kj ?_
  refine seq_val (.bool true) 6 rfl kj (run_eq (u := .bool (decide (n ≥ 0))) kj (congrArg Value.bool (decide_eq_true (by omega)))) ?_
  refine seq_val (.bool true) 7 rfl kj kj ?_
  refine seq_val (.int .i64 n) 8 rfl kj kj ?_
  refine seq_val (.int .i64 last) 9 rfl kj kj ?_
  refine seq_val (.bool (decide (n ≤ last))) 10 rfl kj kj ?_
  refine seq_val (.bool (decide (n ≤ last))) 11 rfl kj kj ?_
  refine seq_val (.bool (decide (n ≤ last))) 4 rfl kj kj ?_
  refine seq_nil ?_
  refine hK2 _ _ ?_
  try clear hK2 K2
  refine wp_ret ?_
  repeat (first | with_reducible refine goR1 ?_ | with_reducible refine goR2 ?_)
  exact (show bodyPost _ _ _ .ret _ _ from ret1 (.bool (decide (n ≤ last))) rfl (res_tmp kj) ⟨rfl, (Rely.Ext.refl w)⟩)
theorem inC (n last : Int) (w : World) : Calls Try.prog 77 #[.int .i64 n, .int .i64 last] w (Ret w (.bool (inB n last))) := by
  by_cases hn : 0 ≤ n
  · have h : inB n last = decide (n ≤ last) := by unfold inB; simp [hn]
    rw [h]; exact in_P n last w hn
  · have h : inB n last = false := by unfold inB; simp [hn]
    rw [h]; exact in_N n last w (by omega)
theorem inE (n last : Int) (b : Bool) (hb : inB n last = b) (w : World) : Calls Try.prog 77 #[.int .i64 n, .int .i64 last] w (Ret w (.bool b)) := hb ▸ inC n last w
set_option maxHeartbeats 4000000 in
theorem hg_F (ep fr : Int) (w : World) (h : inB ep 4294967295 = false) : Calls Try.prog 64 #[.int .i64 ep, .int .i64 fr] w (Ret w (.bool false)) := by
  refine enter 11 [(0, .int .i64 ep), (1, .int .i64 fr)] Try.func64 rfl rfl kj rfl ?_
  refine wp_seq_k fun K1 hK1 => ?_
  refine region_lit ?_
  refine seq_val (.bool false) 4 rfl kj kj ?_
  refine seq_nil ?_
  refine hK1 _ _ ?_
  try clear hK1 K1
  refine wp_seq_k fun K2 hK2 => ?_
  refine region_lit ?_
  refine seq_val (.int .i64 ep) 5 rfl kj kj ?_
  refine seq_call (.bool false) 77 #[.int .i64 ep, .int .i64 4294967295] 6 rfl kj kj ((inE ep 4294967295 _ h) _) fun W1 e1 => ?_
  have x1 : Ext w W1 := Ext.tr (Rely.Ext.refl w) e1
  refine seq_val (.bool false) 7 rfl kj kj ?_
  refine seq_skip 8 rfl kj ?_
  refine seq_skip 9 rfl kj ?_
  refine seq_val (.bool false) 10 rfl kj kj ?_
  refine seq_val (.bool false) 4 rfl kj kj ?_
  refine seq_nil ?_
  refine hK2 _ _ ?_
  try clear hK2 K2
  refine wp_ret ?_
  repeat (first | with_reducible refine goR1 ?_ | with_reducible refine goR2 ?_)
  exact (show bodyPost _ _ _ .ret _ _ from ret1 (.bool false) rfl (res_tmp kj) ⟨rfl, x1⟩)
set_option maxHeartbeats 4000000 in
theorem hg_T (ep fr : Int) (w : World) (h : inB ep 4294967295 = true) : Calls Try.prog 64 #[.int .i64 ep, .int .i64 fr] w (Ret w (.bool (inB fr 31))) := by
  refine enter 11 [(0, .int .i64 ep), (1, .int .i64 fr)] Try.func64 rfl rfl kj rfl ?_
  refine wp_seq_k fun K1 hK1 => ?_
  refine region_lit ?_
  refine seq_val (.bool false) 4 rfl kj kj ?_
  refine seq_nil ?_
  refine hK1 _ _ ?_
  try clear hK1 K1
  refine wp_seq_k fun K2 hK2 => ?_
  refine region_lit ?_
  refine seq_val (.int .i64 ep) 5 rfl kj kj ?_
  refine seq_call (.bool true) 77 #[.int .i64 ep, .int .i64 4294967295] 6 rfl kj kj ((inE ep 4294967295 _ h) _) fun W1 e1 => ?_
  have x1 : Ext w W1 := Ext.tr (Rely.Ext.refl w) e1
  refine seq_val (.bool true) 7 rfl kj kj ?_
  refine seq_val (.int .i64 fr) 8 rfl kj kj ?_
  refine seq_call (.bool (inB fr 31)) 77 #[.int .i64 fr, .int .i64 31] 9 rfl kj kj ((inC fr 31) _) fun W2 e2 => ?_
  have x2 : Ext w W2 := Ext.tr x1 e2
  refine seq_val (.bool (inB fr 31)) 10 rfl kj kj ?_
  refine seq_val (.bool (inB fr 31)) 4 rfl kj kj ?_
  refine seq_nil ?_
  refine hK2 _ _ ?_
  try clear hK2 K2
  refine wp_ret ?_
  repeat (first | with_reducible refine goR1 ?_ | with_reducible refine goR2 ?_)
  exact (show bodyPost _ _ _ .ret _ _ from ret1 (.bool (inB fr 31)) rfl (res_tmp kj) ⟨rfl, x2⟩)
theorem hgE (ep fr : Int) (b : Bool) (hb : hgB ep fr = b) (w : World) : Calls Try.prog 64 #[.int .i64 ep, .int .i64 fr] w (Ret w (.bool b)) := by
  subst hb
  unfold hgB
  cases h : inB ep 4294967295 with
  | false => exact hg_F ep fr w h
  | true => exact hg_T ep fr w h
set_option maxHeartbeats 4000000 in
theorem rnumC (n : Int) (size : Nat) (w : World) (hn : 0 ≤ n) (hn2 : n ≤ 5000000000) (hsz : size ≤ 4) : Calls Try.prog 72 #[.int .i64 n, .int .i64 ((size : Nat) : Int)] w (Gives w (OwnN .u8 5 w.heap.size (beV n size))) := by
  refine enter 21 [(0, .int .i64 n), (1, .int .i64 ((size : Nat) : Int))] Try.func72 rfl rfl kj rfl ?_
  refine wp_seq_k fun K1 hK1 => ?_
  refine region_lit ?_
  refine seq_val (.slice none 0 0) 4 rfl kj kj ?_
  refine seq_nil ?_
  refine hK1 _ _ ?_
  try clear hK1 K1
  refine wp_seq_k fun K2 hK2 => ?_
  refine region_lit ?_
  refine seq_val (.slice none 0 0) 5 rfl kj kj ?_
  refine seq_nil ?_
  refine hK2 _ _ ?_
  try clear hK2 K2
  refine wp_seq_k fun K3 hK3 => ?_
  refine wp_seq_k fun K4 hK4 => ?_
  refine region_lit ?_
  refine seq_val (.int .i64 0) 6 rfl kj kj ?_
  refine seq_nil ?_
  refine hK4 _ _ ?_
  try clear hK4 K4
  refine wp_block ?_
  refine loop_auto (fun (s1 : Nat × Value) => [(0, .int .i64 (n.fdiv (2 ^ (8 * s1.1)))), (1, .int .i64 ((size : Nat) : Int)), (5, s1.2), (6, .int .i64 ((s1.1 : Nat) : Int))]) (fun (s1 : Nat × Value) W => (s1.1 ≤ size) ∧ (OwnN .u8 5 w.heap.size (beV n s1.1) s1.2 W) ∧ (Ext w W)) (fun (s1 : Nat × Value) => size - s1.1) (0, (.slice none 0 0)) ⟨(show Value.int .i64 n = Value.int .i64 (n.fdiv (2 ^ (8 * 0))) by rw [Nat.mul_zero, Int.pow_zero, Int.fdiv_one]), rfl, rfl, rfl, trivial⟩ ⟨(Nat.zero_le _), (ownN_nil _ _ _ _), (Rely.Ext.refl w)⟩ fun s1 X1 V1 hI1 => ?_
  obtain ⟨i, u⟩ := s1
  obtain ⟨hi, hu, xx1⟩ := hI1
  replace hi : i ≤ size := hi
  replace hu : OwnN .u8 5 w.heap.size (beV n i) u V1 := hu
  replace xx1 : Ext w V1 := xx1
  refine wp_seq_k fun K5 hK5 => ?_
  refine wp_seq_k fun K6 hK6 => ?_
  refine region_lit ?_
  refine seq_val (.int .i64 ((i : Nat) : Int)) 7 rfl kj kj ?_
  refine seq_val (.int .i64 ((size : Nat) : Int)) 8 rfl kj kj ?_
  refine seq_val (.bool (decide (((i : Nat) : Int) < ((size : Nat) : Int)))) 9 rfl kj kj ?_
  refine seq_nil ?_
  refine hK6 _ _ ?_
  try clear hK6 K6
  refine cond_split (t := decide (((i : Nat) : Int) < ((size : Nat) : Int))) kj (fun c7 => ?_) (fun c7 => ?_)
  · skip
    have hlt9 : i < size := by have := of_decide_eq_true c7; omega
    have hrg := fdiv_rng n i hn
    refine wp_skip ?_
    refine hK5 _ _ ?_
    try clear hK5 K5
    refine wp_seq_k fun K8 hK8 => ?_
    refine wp_block ?_
    refine wp_seq_k fun K9 hK9 => ?_
    refine region_lit ?_
    refine seq_val (.int .i64 (n.fdiv (2 ^ (8 * i)))) 12 rfl kj kj ?_
    refine seq_val (.int .i64 (n.fdiv (2 ^ (8 * i)) % 256)) 13 rfl kj (run_eq (u := .int .i64 (Int.tmod ((n.fdiv (2 ^ (8 * i)))) (256))) kj (congrArg (Value.int .i64) (Int.tmod_eq_emod_of_nonneg hrg.1))) ?_
    refine seq_val (.int .u8 (byV n i)) 14 rfl kj (run_eq (u := .int .u8 (IntKind.u8.wrap (n.fdiv (2 ^ (8 * i)) % 256))) kj (congrArg (Value.int .u8) (byV_mod n i))) ?_
    refine seq_makeS (ints .u8 ([(byV n i)])) 5 1 15 rfl kj kj fun g10 W2 l10 e2 r10_2 => ?_
    have x2 : Ext w W2 := Ext.tr xx1 e2
    have b10 : w.heap.size ≤ g10 := Nat.le_trans xx1.size l10
    refine seq_val (u) 16 rfl kj kj ?_
    have f11_2 := (hu.ext e2)
    have y1_2 : Ext V1 W2 := (Rely.Ext.trans (Rely.Ext.refl V1) e2)
    refine seq_appendN (k := .u8) (T := 5) (xs := [(byV n i)]) (ys := beV n i) (V := V1) 1 (.tmp 15) (.tmp 16) 26 rfl kj kj (by decide) 17 rfl kj kj kj (ownN_row (xs := [(byV n i)]) rfl l10 r10_2 (by show 1 ≤ maxLen; decide)) (OwnN.rd f11_2) (by rw [beV_len]; show 1 + _ ≤ _; omega) y1_2 fun z1 W3 f12 y3 l3 => ?_
    have x3 : Ext w W3 := Ext.low x2 l3 xx1.size
    refine seq_val (z1) 5 rfl kj kj ?_
    refine seq_nil ?_
    refine hK9 _ _ ?_
    try clear hK9 K9
    refine region_lit ?_
    refine seq_val (.int .i64 (n.fdiv (2 ^ (8 * i)))) 18 rfl kj kj ?_
    refine seq_val (.int .i64 (n.fdiv (2 ^ (8 * (i + 1))))) 19 rfl kj (run_eq (u := .int .i64 (IntKind.i64.wrap (Int.tdiv ((n.fdiv (2 ^ (8 * i)))) (256)))) kj (congrArg (Value.int .i64) (by rw [Int.tdiv_eq_ediv_of_nonneg hrg.1, fdiv_pow n i hn]; have h7 := fdiv_rng n (i + 1) hn; exact IntWalk.i64_in _ (by omega)))) ?_
    refine seq_val (.int .i64 (n.fdiv (2 ^ (8 * (i + 1))))) 0 rfl kj kj ?_
    refine seq_nil ?_
    refine hK8 _ _ ?_
    try clear hK8 K8
    refine region_lit ?_
    refine seq_val (.int .i64 ((i : Nat) : Int)) 10 rfl kj kj ?_
    refine seq_val (.int .i64 ((i + 1 : Nat) : Int)) 11 rfl kj (run_eq (u := .int .i64 (IntKind.i64.wrap (((i : Nat) : Int) + 1))) kj (congrArg (Value.int .i64) (i64n _ _ (by omega) (by omega)))) ?_
    refine seq_val (.int .i64 ((i + 1 : Nat) : Int)) 6 rfl kj kj ?_
    refine seq_nil ?_
    repeat (first | with_reducible refine goX1 ?_ | with_reducible refine goX2 ?_ | with_reducible refine goX3 ?_)
    exact goes_then ((i + 1), z1) ⟨rfl, rfl, rfl, rfl, trivial⟩ ⟨(by omega), (show OwnN .u8 5 w.heap.size (beV n (i + 1)) _ _ from OwnN.base xx1.size f12), x3⟩ (by omega)
  · skip
    have heq9 : i = size := by have := of_decide_eq_false c7; omega
    refine wp_exit ?_
    refine hK3 _ _ ?_
    try clear hK3 K3
    refine wp_seq_k fun K14 hK14 => ?_
    refine region_lit ?_
    refine seq_val (u) 20 rfl kj kj ?_
    refine seq_val (u) 4 rfl kj kj ?_
    refine seq_nil ?_
    refine hK14 _ _ ?_
    try clear hK14 K14
    refine wp_ret ?_
    repeat (first | with_reducible refine goR1 ?_ | with_reducible refine goR2 ?_)
    exact (show bodyPost _ _ _ .ret _ _ from ret1 (u) rfl (res_tmp kj) ⟨u, rfl, xx1, by rw [heq9] at hu; exact hu⟩)
theorem rnumG (n0 : Nat) (n : Int) (size : Nat) (w : World) (hn : 0 ≤ n) (hn2 : n ≤ 5000000000) (hsz : size ≤ 4) (h0 : n0 ≤ w.heap.size) : Calls Try.prog 72 #[.int .i64 n, .int .i64 ((size : Nat) : Int)] w (Gives w (OwnN .u8 5 n0 (beV n size))) :=
  (rnumC n size w hn hn2 hsz).mono fun e W' hg => by
    obtain ⟨v', e1, e2, e3⟩ := hg
    exact ⟨v', e1, e2, e3.base h0⟩
set_option maxHeartbeats 4000000 in
theorem rheadC (grp : List Int) (ep fr : Int) (w : World) (hgl : grp.length = 32) (hep : 0 ≤ ep ∧ ep ≤ 4294967295) : Calls Try.prog 66 #[.agg (ints .u8 grp), .int .i64 ep, .int .i64 fr] w (Gives w (OwnN .u8 5 w.heap.size (headV grp ep fr))) := by
  refine enter 17 [(0, .agg (ints .u8 (grp))), (1, .int .i64 ep), (2, .int .i64 fr)] Try.func66 rfl rfl kj rfl ?_
  refine wp_seq_k fun K1 hK1 => ?_
  refine region_lit ?_
  refine seq_alloc (ints .u8 (grp)) 39 3 rfl kj kj fun g2 W1 l2 e1 r2_1 => ?_
  have x1 : Ext w W1 := Ext.tr (Rely.Ext.refl w) e1
  have b2 : w.heap.size ≤ g2 := Nat.le_trans (Rely.Ext.refl w).size l2
  refine seq_val (.slice none 0 0) 6 rfl kj kj ?_
  refine seq_nil ?_
  refine hK1 _ _ ?_
  try clear hK1 K1
  refine wp_seq_k fun K3 hK3 => ?_
  refine region_lit ?_
  refine seq_makeS (ints .u8 ([])) 5 0 7 rfl kj kj fun g4 W2 l4 e2 r4_2 => ?_
  have x2 : Ext w W2 := Ext.tr x1 e2
  have b4 : w.heap.size ≤ g4 := Nat.le_trans x1.size l4
  refine seq_val (.slice (some ⟨g2, 0, none⟩) 32 32) 8 rfl kj kj ?_
  have r2_2 := (row_ext r2_1 e2)
  have y1_2 : Ext W1 W2 := (Rely.Ext.trans (Rely.Ext.refl W1) e2)
  refine seq_appendN (k := .u8) (T := 5) (xs := []) (ys := grp) (V := W1) 1 (.tmp 7) (.tmp 8) 26 rfl kj kj (by decide) 9 rfl kj kj kj (ownN_row (xs := []) rfl l4 r4_2 (by decide)) (rdK_ints (xs := grp) (n := 32) hgl r2_2 (row_lt r2_2) (show 32 ≤ maxLen from by decide)) (by simp only [List.length_append, List.length_nil, beV_len, List.length_cons]; omega) y1_2 fun z1 W3 f5 y3 l3 => ?_
  have x3 : Ext w W3 := Ext.low x2 l3 x1.size
  refine seq_val (.int .i64 ep) 10 rfl kj kj ?_
  refine seq_callR (fun v W' => (OwnN .u8 5 W3.heap.size (beV ep 4)) v W' ∧ Ext W3 W') 72 #[.int .i64 ep, .int .i64 4] 11 rfl kj kj ((rnumC ep 4 _ hep.1 (by omega) (by decide)).mono (by rintro e w' ⟨v, rfl, e1, hv⟩; exact ⟨v, rfl, hv, e1⟩)) fun vv7 W4 hh7 => ?_
  obtain ⟨hv7, e4⟩ := hh7
  have x4 : Ext w W4 := Ext.tr x3 e4
  obtain ⟨a11_, c11_, rfl, -⟩ := id (OwnN.rd hv7)
  have f8_4 := (f5.ext e4)
  have y1_4 : Ext W1 W4 := (Rely.Ext.trans y3 e4)
  refine seq_appendN (k := .u8) (T := 5) (xs := [] ++ grp) (ys := beV ep 4) (V := W1) 1 (.tmp 9) (.tmp 11) 26 rfl kj kj (by decide) 12 rfl kj kj kj f8_4 (OwnN.rd hv7) (by simp only [List.length_append, List.length_nil, beV_len, List.length_cons]; omega) y1_4 fun z2 W5 f9 y5 l5 => ?_
  have x5 : Ext w W5 := Ext.low x4 l5 x1.size
  refine seq_val (.int .i64 fr) 13 rfl kj kj ?_
  refine seq_val (.int .u8 (byV fr 0)) 14 rfl kj (run_eq (u := .int .u8 (IntKind.u8.wrap (fr))) kj (congrArg (Value.int .u8) (by unfold byV; rw [Nat.mul_zero, Int.pow_zero, Int.fdiv_one]))) ?_
  refine seq_makeS (ints .u8 ([(byV fr 0)])) 5 1 15 rfl kj kj fun g11 W6 l11 e6 r11_6 => ?_
  have x6 : Ext w W6 := Ext.tr x5 e6
  have b11 : w.heap.size ≤ g11 := Nat.le_trans x5.size l11
  have f12_6 := (f9.ext e6)
  have y1_6 : Ext W1 W6 := (Rely.Ext.trans y5 e6)
  refine seq_appendN (k := .u8) (T := 5) (xs := [] ++ grp ++ beV ep 4) (ys := [(byV fr 0)]) (V := W1) 1 (.tmp 12) (.tmp 15) 26 rfl kj kj (by decide) 16 rfl kj kj kj f12_6 (rdK_ints (xs := [(byV fr 0)]) (n := 1) rfl r11_6 (row_lt r11_6) (show 1 ≤ maxLen from by decide)) (by simp only [List.length_append, List.length_nil, beV_len, List.length_cons]; omega) y1_6 fun z3 W7 f13 y7 l7 => ?_
  have x7 : Ext w W7 := Ext.low x6 l7 x1.size
  refine seq_val (z3) 6 rfl kj kj ?_
  refine seq_nil ?_
  refine hK3 _ _ ?_
  try clear hK3 K3
  refine wp_ret ?_
  repeat (first | with_reducible refine goR1 ?_ | with_reducible refine goR2 ?_)
  exact (show bodyPost _ _ _ .ret _ _ from ret1 (z3) rfl (res_tmp kj) ⟨_, rfl, x7, OwnN.base x1.size (show OwnN .u8 5 _ (headV grp ep fr) _ _ from f13)⟩)
set_option maxHeartbeats 4000000 in
theorem rrowC (ys : List Int) (v : Value) (B : Nat) (w : World) (hyl : ys.length ≤ 1000000) (hy : RdK .u8 B ys v w) : Calls Try.prog 78 #[v] w (Gives w (OwnN .u8 5 w.heap.size (rowV ys))) := by
  obtain ⟨a_y, c_y, rfl, -⟩ := id hy
  refine enter 8 [(0, .slice a_y ys.length c_y)] Try.func78 rfl rfl kj rfl ?_
  refine wp_seq_k fun K1 hK1 => ?_
  refine region_lit ?_
  refine seq_val (.slice none 0 0) 2 rfl kj kj ?_
  refine seq_nil ?_
  refine hK1 _ _ ?_
  try clear hK1 K1
  refine wp_seq_k fun K2 hK2 => ?_
  refine region_lit ?_
  refine seq_val (.slice a_y ys.length c_y) 3 rfl kj kj ?_
  refine seq_val (.int .i64 ((ys.length : Nat) : Int)) 4 rfl kj kj ?_
  refine seq_callR (fun v W' => (OwnN .u8 5 w.heap.size (beV ((ys.length : Nat) : Int) 2)) v W' ∧ Ext w W') 72 #[.int .i64 ((ys.length : Nat) : Int), .int .i64 2] 5 rfl kj kj ((rnumC ((ys.length : Nat) : Int) 2 _ (by omega) (by omega) (by decide)).mono (by rintro e w' ⟨v, rfl, e1, hv⟩; exact ⟨v, rfl, hv, e1⟩)) fun vv3 W1 hh3 => ?_
  obtain ⟨hv3, e1⟩ := hh3
  have x1 : Ext w W1 := Ext.tr (Rely.Ext.refl w) e1
  obtain ⟨a5_, c5_, rfl, -⟩ := id (OwnN.rd hv3)
  refine seq_val (.slice a_y ys.length c_y) 6 rfl kj kj ?_
  have y0_1 : Ext w W1 := (Rely.Ext.trans (Rely.Ext.refl w) e1)
  refine seq_appendN (k := .u8) (T := 5) (xs := beV ((ys.length : Nat) : Int) 2) (ys := ys) (V := w) 1 (.tmp 5) (.tmp 6) 26 rfl kj kj (by decide) 7 rfl kj kj kj hv3 (RdK.ext hy x1) (by rw [beV_len]; omega) y0_1 fun z1 W2 f4 y2 l2 => ?_
  have x2 : Ext w W2 := Ext.low x1 l2 (Rely.Ext.refl w).size
  refine seq_val (z1) 2 rfl kj kj ?_
  refine seq_nil ?_
  refine hK2 _ _ ?_
  try clear hK2 K2
  refine wp_ret ?_
  repeat (first | with_reducible refine goR1 ?_ | with_reducible refine goR2 ?_)
  exact (show bodyPost _ _ _ .ret _ _ from ret1 (z1) rfl (res_tmp kj) ⟨_, rfl, x2, OwnN.base (Rely.Ext.refl w).size (show OwnN .u8 5 _ (rowV ys) _ _ from f4)⟩)
theorem rrowG (n0 : Nat) (ys : List Int) (v : Value) (B : Nat) (w : World) (hyl : ys.length ≤ 1000000) (hy : RdK .u8 B ys v w) (h0 : n0 ≤ w.heap.size) : Calls Try.prog 78 #[v] w (Gives w (OwnN .u8 5 n0 (rowV ys))) :=
  (rrowC ys v B w hyl hy).mono fun e W' hg => by
    obtain ⟨v', e1, e2, e3⟩ := hg
    exact ⟨v', e1, e2, e3.base h0⟩
set_option maxHeartbeats 4000000 in
theorem fits_N (ys : List Int) (a_y : Option Addr) (c_y : Nat) (w : World) (h : 65536 < ys.length) : Calls Try.prog 52 #[.slice a_y ys.length c_y] w (Ret w (.tuple #[.slice none 0 0, .bool false])) := by
  refine enter 8 [(0, .slice a_y ys.length c_y)] Try.func52 rfl rfl kj rfl ?_
  refine wp_seq_k fun K1 hK1 => ?_
  refine region_lit ?_
  refine seq_val (.slice none 0 0) 2 rfl kj kj ?_
  refine seq_val (.bool false) 3 rfl kj kj ?_
  refine seq_nil ?_
  refine hK1 _ _ ?_
  try clear hK1 K1
  refine wp_seq_k fun K2 hK2 => ?_
  refine wp_seq_k fun K3 hK3 => ?_
  refine region_lit ?_
  refine seq_val (.slice a_y ys.length c_y) 4 rfl kj kj ?_
  refine seq_val (.int .i64 ((ys.length : Nat) : Int)) 5 rfl kj kj ?_
  refine seq_val (.bool true) 6 rfl kj (run_eq (u := .bool (decide (((ys.length : Nat) : Int) > 65536))) kj (congrArg Value.bool (decide_eq_true (by omega)))) ?_
  refine seq_nil ?_
  refine hK3 _ _ ?_
  try clear hK3 K3
  refine cond_true kj ?_
  refine wp_seq_k fun K4 hK4 => ?_
  refine region_lit ?_
  refine seq_val (.slice none 0 0) 2 rfl kj kj ?_
  refine seq_val (.bool false) 3 rfl kj kj ?_
  refine seq_nil ?_
  refine hK4 _ _ ?_
  try clear hK4 K4
  refine wp_ret ?_
  repeat (first | with_reducible refine goR1 ?_ | with_reducible refine goR2 ?_)
  exact (show bodyPost _ _ _ .ret _ _ from ret2 (.slice none 0 0) (.bool false) rfl (res_tmp kj) (res_tmp kj) ⟨rfl, (Rely.Ext.refl w)⟩)
set_option maxHeartbeats 4000000 in
theorem fits_S (ys : List Int) (a_y : Option Addr) (c_y : Nat) (w : World) (h : ys.length ≤ 65536) : Calls Try.prog 52 #[.slice a_y ys.length c_y] w (Ret w (.tuple #[.slice a_y ys.length c_y, .bool true])) := by
  refine enter 8 [(0, .slice a_y ys.length c_y)] Try.func52 rfl rfl kj rfl ?_
  refine wp_seq_k fun K1 hK1 => ?_
  refine region_lit ?_
  refine seq_val (.slice none 0 0) 2 rfl kj kj ?_
  refine seq_val (.bool false) 3 rfl kj kj ?_
  refine seq_nil ?_
  refine hK1 _ _ ?_
  try clear hK1 K1
  refine wp_seq_k fun K2 hK2 => ?_
  refine wp_seq_k fun K3 hK3 => ?_
  refine region_lit ?_
  refine seq_val (.slice a_y ys.length c_y) 4 rfl kj kj ?_
  refine seq_val (.int .i64 ((ys.length : Nat) : Int)) 5 rfl kj kj ?_
  refine seq_val (.bool false) 6 rfl kj (run_eq (u := .bool (decide (((ys.length : Nat) : Int) > 65536))) kj (congrArg Value.bool (decide_eq_false (by omega)))) ?_
  refine seq_nil ?_
  refine hK3 _ _ ?_
  try clear hK3 K3
  refine cond_false kj ?_
  refine wp_skip ?_
  refine hK2 _ _ ?_
  try clear hK2 K2
  refine wp_seq_k fun K4 hK4 => ?_
  refine region_lit ?_
  refine seq_val (.slice a_y ys.length c_y) 7 rfl kj kj ?_
  refine seq_val (.slice a_y ys.length c_y) 2 rfl kj kj ?_
  refine seq_val (.bool true) 3 rfl kj kj ?_
  refine seq_nil ?_
  refine hK4 _ _ ?_
  try clear hK4 K4
  refine wp_ret ?_
  repeat (first | with_reducible refine goR1 ?_ | with_reducible refine goR2 ?_)
  exact (show bodyPost _ _ _ .ret _ _ from ret2 (.slice a_y ys.length c_y) (.bool true) rfl (res_tmp kj) (res_tmp kj) ⟨rfl, (Rely.Ext.refl w)⟩)
theorem fitsC (base : Nat) (ys : List Int) (v : Value) (w : World) (h : OwnN .u8 5 base ys v w) : Calls Try.prog 52 #[v] w (Gives w (WantR base (fitV ys))) := by
  obtain ⟨a_y, c_y, rfl, -⟩ := id (OwnN.rd h)
  unfold fitV
  by_cases hf : ys.length ≤ 65536
  · rw [if_pos hf]; exact (fits_S ys a_y c_y w hf).mono fun e W hh => ⟨_, hh.1, hh.2, _, rfl, h.ext hh.2⟩
  · rw [if_neg hf]; exact (fits_N ys a_y c_y w (by omega)).mono fun e W hh => ⟨_, hh.1, hh.2, rfl⟩

end Go.Proofs.Ytfelfmchachljaa.Wr
