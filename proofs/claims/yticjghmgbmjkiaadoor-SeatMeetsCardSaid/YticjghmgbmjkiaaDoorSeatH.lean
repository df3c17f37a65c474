/- Common nodes: the law SeatMeets. -/
import Derived.Test.YticjghmgbmjkiaaDoorSeatG
namespace Go.Proofs.YticjghmgbmjkiaaDoor.Seat
open Go Go.RowKit
open Go.Proofs.YticjghmgbmjkiaaDoor.Rely Go.Proofs.YticjghmgbmjkiaaDoor.Auto Go.Proofs.YticjghmgbmjkiaaDoor.Own
set_option linter.unusedVariables false
set_option linter.unusedSimpArgs false

def inB (z n : Int) (i j : Nat) : Bool := decide ((bel z n).1 ≤ (i : Int)) && decide ((i : Int) ≤ (bel z n).2) && decide ((bel z n).1 ≤ (j : Int)) && decide ((j : Int) ≤ (bel z n).2)
def meetOk (n : Int) (i j : Nat) : Bool :=
  let c := com ((2 * i : Nat) : Int) ((2 * j : Nat) : Int) n
  inB c n i j && decide (0 ≤ c) && decide (c ≤ 62) && decide (kidL c ≤ 62) && decide (kidR c ≤ 62) && decide (-1 ≤ kidL c) && decide (-1 ≤ kidR c) && (decide (kidL c < 0) || !(inB (kidL c) n i j)) && (decide (kidR c < 0) || !(inB (kidR c) n i j)) && (decide (i ≠ j) || decide (c = ((2 * i : Nat) : Int)))
set_option maxRecDepth 100000 in
theorem meet_all : ((List.range 6).all fun t => (List.range (2 ^ t)).all fun i => (List.range (2 ^ t)).all fun j => meetOk ((2 ^ t : Nat) : Int) i j) = true := by decide +kernel
theorem meet {t i j : Nat} (ht : t < 6) (hi : i < 2 ^ t) (hj : j < 2 ^ t) : meetOk ((2 ^ t : Nat) : Int) i j = true :=
  List.all_eq_true.1 (List.all_eq_true.1 (List.all_eq_true.1 meet_all t (List.mem_range.2 ht)) i (List.mem_range.2 hi)) j (List.mem_range.2 hj)
theorem u64_nat (k : Int) : ∃ K : Nat, IntKind.u64.wrap k = (K : Int) ∧ K < 18446744073709551616 := by
  have : IntKind.u64.wrap k = k % 2 ^ 64 := rfl
  exact ⟨(k % 2 ^ 64).toNat, by rw [this]; omega, by omega⟩
theorem u64_id (n : Nat) (h : n < 18446744073709551616) : IntKind.u64.wrap ((n : Nat) : Int) = ((n : Nat) : Int) := by
  have : ∀ z : Int, IntKind.u64.wrap z = z % 2 ^ 64 := fun _ => rfl
  rw [this]; omega
theorem pow_le6 {t : Nat} (h : t < 6) : 1 ≤ 2 ^ t ∧ 2 ^ t ≤ 32 := by
  have h1 : 2 ^ t ≤ 2 ^ 5 := Nat.pow_le_pow_right (by decide) (by omega)
  exact ⟨Nat.one_le_two_pow, h1⟩
theorem shl1_i64 {t : Nat} (h : t < 6) : IntKind.i64.wrap (1 * 2 ^ min ((t : Nat) : Int).toNat IntKind.i64.bits) = ((2 ^ t : Nat) : Int) := by
  have : ∀ t : Fin 6, IntKind.i64.wrap (1 * 2 ^ min ((t.1 : Nat) : Int).toNat IntKind.i64.bits) = ((2 ^ t.1 : Nat) : Int) := by decide
  exact this ⟨t, h⟩
theorem childrenR (x : Int) (hx : i64 x) (W : World) (hT : TabAt W) : Calls Tryd.prog 24 #[.int .i64 x] W (Ret W (.tuple #[.int .i64 (kidL x), .int .i64 (kidR x)])) := quiet (children x hx W hT)
theorem out4 {z n : Int} {i j : Nat} (h : inB z n i j = false) : ¬ ((bel z n).1 ≤ (i : Int)) ∨ ((bel z n).1 ≤ (i : Int) ∧ ¬ (i : Int) ≤ (bel z n).2) ∨ ((bel z n).1 ≤ (i : Int) ∧ (i : Int) ≤ (bel z n).2 ∧ ¬ (bel z n).1 ≤ (j : Int)) ∨ ((bel z n).1 ≤ (i : Int) ∧ (i : Int) ≤ (bel z n).2 ∧ (bel z n).1 ≤ (j : Int) ∧ ¬ (j : Int) ≤ (bel z n).2) := by
  by_cases h1 : (bel z n).1 ≤ (i : Int)
  · by_cases h2 : (i : Int) ≤ (bel z n).2
    · by_cases h3 : (bel z n).1 ≤ (j : Int)
      · by_cases h4 : (j : Int) ≤ (bel z n).2
        · simp [inB, h1, h2, h3, h4] at h
        · exact .inr (.inr (.inr ⟨h1, h2, h3, h4⟩))
      · exact .inr (.inr (.inl ⟨h1, h2, h3⟩))
    · exact .inr (.inl ⟨h1, h2⟩)
  · exact .inl h1
set_option maxHeartbeats 16000000 in
theorem lawMeets (i j k : Int) (w : World) (hT : TabAt w) : Calls Tryd.prog 11 #[.int .i64 i, .int .i64 j, .int .i64 k] w (Ret w (.bool true)) := by
  obtain ⟨K, hK, hK2⟩ := u64_nat k
  obtain ⟨I, hI, hI2⟩ := u64_nat i
  obtain ⟨J, hJ, hJ2⟩ := u64_nat j
  obtain ⟨t, ht⟩ : ∃ t, t = K % 6 := ⟨_, rfl⟩
  have ht6 : t < 6 := by omega
  have hp := pow_le6 ht6
  obtain ⟨n0, hn0⟩ : ∃ n0 : Nat, n0 = 2 ^ t := ⟨_, rfl⟩
  rw [← hn0] at hp
  obtain ⟨a, ha⟩ : ∃ a : Nat, a = I % n0 := ⟨_, rfl⟩
  obtain ⟨b, hb⟩ : ∃ b : Nat, b = J % n0 := ⟨_, rfl⟩
  have hal : a < n0 := by rw [ha]; exact Nat.mod_lt _ (by omega)
  have hbl : b < n0 := by rw [hb]; exact Nat.mod_lt _ (by omega)
  have hm := meet ht6 (by omega : a < 2 ^ t) (by omega : b < 2 ^ t)
  rw [← hn0] at hm
  obtain ⟨N, hN⟩ : ∃ N : Int, N = ((n0 : Nat) : Int) := ⟨_, rfl⟩
  rw [← hN] at hm
  have hNs : IntKind.i64.wrap (1 * 2 ^ min ((t : Nat) : Int).toNat IntKind.i64.bits) = N := by rw [hN, hn0]; exact shl1_i64 ht6
  have hNu : IntKind.u64.wrap N = N := by rw [hN]; exact u64_id n0 (by omega)
  have har : Int.tmod ((I : Nat) : Int) N = ((a : Nat) : Int) := by rw [hN, ha]; exact nat_rem I n0
  have hbr : Int.tmod ((J : Nat) : Int) N = ((b : Nat) : Int) := by rw [hN, hb]; exact nat_rem J n0
  have hcc : ∀ W, TabAt W → Calls Tryd.prog 41 #[.int .i64 ((2 * a : Nat) : Int), .int .i64 ((2 * b : Nat) : Int), .int .i64 N] W (Ret W (.int .i64 (com ((2 * a : Nat) : Int) ((2 * b : Nat) : Int) N))) := fun W hT => commonC _ _ N W hT
  unfold meetOk at hm
  simp only at hm
  generalize com ((2 * a : Nat) : Int) ((2 * b : Nat) : Int) N = c at hm hcc
  simp only [Bool.and_eq_true, decide_eq_true_eq, Bool.or_eq_true, Bool.not_eq_true'] at hm
  obtain ⟨⟨⟨⟨⟨⟨⟨⟨⟨hin, hc0⟩, hc1⟩, hkl⟩, hkr⟩, hkl0⟩, hkr0⟩, hoL⟩, hoR⟩, hself'⟩ := hm
  simp only [inB, Bool.and_eq_true, decide_eq_true_eq] at hin
  have hci : i64 c := by unfold i64; omega
  by_cases hab : a = b
  · skip
    have hself : c = ((2 * a : Nat) : Int) := hself'.resolve_left (fun h => h hab)
    refine enter 118 [(0, .int .i64 i), (1, .int .i64 j), (2, .int .i64 k)] Tryd.func11 rfl rfl (by kernel_rfl) rfl ?_
    refine wp_seq_k fun K1 hK1 => ?_
    refine region_lit ?_
    refine seq_val (.bool false) 6 rfl (by kernel_rfl) (by kernel_rfl) ?_
    refine seq_nil ?_
    refine hK1 _ _ ?_
    try clear hK1 K1
    refine wp_seq_k fun K2 hK2 => ?_
    refine region_lit ?_
    refine seq_val (.int .i64 k) 17 rfl (by kernel_rfl) (by kernel_rfl) ?_
    refine seq_val (.int .u64 (((K : Nat) : Int))) 18 rfl (by kernel_rfl) (run_eq (u := .int .u64 (IntKind.u64.wrap (k))) (by kernel_rfl) (congrArg (Value.int .u64) hK)) ?_
    refine seq_val (.int .u64 (((K % 6 : Nat) : Int))) 19 rfl (by kernel_rfl) (run_eq (u := .int .u64 (Int.tmod (((K : Nat) : Int)) (6))) (by kernel_rfl) (congrArg (Value.int .u64) (nat_rem _ 6))) ?_
    refine seq_val (.int .i64 (((t : Nat) : Int))) 20 rfl (by kernel_rfl) (run_eq (u := .int .i64 (IntKind.i64.wrap (((K % 6 : Nat) : Int)))) (by kernel_rfl) (congrArg (Value.int .i64) (by rw [ht]; exact i64n _ _ rfl (by omega)))) ?_
    refine seq_val (.int .u64 (((t : Nat) : Int))) 21 rfl (by kernel_rfl) (run_eq (u := .int .u64 (IntKind.u64.wrap (((t : Nat) : Int)))) (by kernel_rfl) (congrArg (Value.int .u64) (u64_id t (by omega)))) ?_
    refine seq_val (.int .i64 (N)) 22 rfl (by kernel_rfl) (run_bin .shl _ _ _ _ .i64 .u64 _ _ _ rfl (by kernel_rfl) (by kernel_rfl) (b_shl _ _ _ _ _ _ (by omega) (hNs))) ?_
    refine seq_val (.int .i64 (N)) 7 rfl (by kernel_rfl) (by kernel_rfl) ?_
    refine seq_nil ?_
    refine hK2 _ _ ?_
    try clear hK2 K2
    refine wp_seq_k fun K3 hK3 => ?_
    refine any_region 13 [⟨none, [(0, none)]⟩, ⟨none, [(23, some 0)]⟩, ⟨none, [(7, none)]⟩, ⟨none, [(25, some 2)]⟩, ⟨none, [(24, some 1), (26, some 3)]⟩, ⟨none, [(27, some 4)]⟩, ⟨none, [(1, none)]⟩, ⟨none, [(29, some 6)]⟩, ⟨none, [(7, none)]⟩, ⟨none, [(31, some 8)]⟩, ⟨none, [(30, some 7), (32, some 9)]⟩, ⟨none, [(33, some 10)]⟩, ⟨none, [(28, some 5)]⟩] (by kernel_rfl) (by kernel_rfl) fun F hF => ?_
    refine any_val (.int .i64 i) (by kernel_rfl) (by kernel_rfl) (fun W => by kernel_rfl) ?_
    refine any_val (.int .u64 (((I : Nat) : Int))) (by kernel_rfl) (by kernel_rfl) (fun W => (run_eq (u := .int .u64 (IntKind.u64.wrap (i))) (by kernel_rfl) (congrArg (Value.int .u64) hI))) ?_
    refine any_val (.int .i64 (N)) (by kernel_rfl) (by kernel_rfl) (fun W => by kernel_rfl) ?_
    refine any_val (.int .u64 (N)) (by kernel_rfl) (by kernel_rfl) (fun W => (run_eq (u := .int .u64 (IntKind.u64.wrap (N))) (by kernel_rfl) (congrArg (Value.int .u64) (hNu)))) ?_
    refine any_val (.int .u64 ((a : Nat) : Int)) (by kernel_rfl) (by kernel_rfl) (fun W => (run_bin .rem _ _ _ _ .u64 .u64 _ _ _ rfl (by kernel_rfl) (by kernel_rfl) (b_rem _ _ _ _ _ (by omega) (har)))) ?_
    refine any_val (.int .i64 (((a : Nat) : Int))) (by kernel_rfl) (by kernel_rfl) (fun W => (run_eq (u := .int .i64 (IntKind.i64.wrap ((a : Nat) : Int))) (by kernel_rfl) (congrArg (Value.int .i64) (i64n _ _ rfl (by omega))))) ?_
    refine any_val (.int .i64 j) (by kernel_rfl) (by kernel_rfl) (fun W => by kernel_rfl) ?_
    refine any_val (.int .u64 (((J : Nat) : Int))) (by kernel_rfl) (by kernel_rfl) (fun W => (run_eq (u := .int .u64 (IntKind.u64.wrap (j))) (by kernel_rfl) (congrArg (Value.int .u64) hJ))) ?_
    refine any_val (.int .i64 (N)) (by kernel_rfl) (by kernel_rfl) (fun W => by kernel_rfl) ?_
    refine any_val (.int .u64 (N)) (by kernel_rfl) (by kernel_rfl) (fun W => (run_eq (u := .int .u64 (IntKind.u64.wrap (N))) (by kernel_rfl) (congrArg (Value.int .u64) (hNu)))) ?_
    refine any_val (.int .u64 ((b : Nat) : Int)) (by kernel_rfl) (by kernel_rfl) (fun W => (run_bin .rem _ _ _ _ .u64 .u64 _ _ _ rfl (by kernel_rfl) (by kernel_rfl) (b_rem _ _ _ _ _ (by omega) (hbr)))) ?_
    refine any_val (.int .i64 (((b : Nat) : Int))) (by kernel_rfl) (by kernel_rfl) (fun W => (run_eq (u := .int .i64 (IntKind.i64.wrap ((b : Nat) : Int))) (by kernel_rfl) (congrArg (Value.int .i64) (i64n _ _ rfl (by omega))))) ?_
    refine any_val (.int .i64 (((a : Nat) : Int))) (by kernel_rfl) (by kernel_rfl) (fun W => by kernel_rfl) ?_
    refine steps_nil (hF _ (by kernel_rfl) fun W1 e1 => ?_)
    simp only [ups, up, Kn.val, List.take_succ_cons, List.take_zero, List.drop_succ_cons, List.drop_zero, List.nil_append, List.cons_append]
    clear hF
    have x1 : Ext w W1 := Ext.tr (Rely.Ext.refl w) e1
    refine seq_val (.int .i64 (((b : Nat) : Int))) 1 rfl (by kernel_rfl) (by kernel_rfl) ?_
    refine seq_nil ?_
    refine hK3 _ _ ?_
    try clear hK3 K3
    refine wp_seq_k fun K4 hK4 => ?_
    refine region_lit ?_
    refine seq_val (.int .i64 (((a : Nat) : Int))) 35 rfl (by kernel_rfl) (by kernel_rfl) ?_
    refine seq_val (.int .i64 (((2 * a : Nat) : Int))) 36 rfl (by kernel_rfl) (run_eq (u := .int .i64 (IntKind.i64.wrap (2 * ((a : Nat) : Int)))) (by kernel_rfl) (congrArg (Value.int .i64) (i64n _ _ (by omega) (by omega)))) ?_
    refine seq_val (.int .i64 (((b : Nat) : Int))) 37 rfl (by kernel_rfl) (by kernel_rfl) ?_
    refine seq_val (.int .i64 (((2 * b : Nat) : Int))) 38 rfl (by kernel_rfl) (run_eq (u := .int .i64 (IntKind.i64.wrap (2 * ((b : Nat) : Int)))) (by kernel_rfl) (congrArg (Value.int .i64) (i64n _ _ (by omega) (by omega)))) ?_
    refine seq_val (.int .i64 (N)) 39 rfl (by kernel_rfl) (by kernel_rfl) ?_
    refine seq_call (.int .i64 c) 41 #[.int .i64 (((2 * a : Nat) : Int)), .int .i64 (((2 * b : Nat) : Int)), .int .i64 (N)] 40 rfl (by kernel_rfl) (by kernel_rfl) (hcc _ (TabAt.ext hT x1)) fun W2 e2 => ?_
    have x2 : Ext w W2 := Ext.tr x1 e2
    refine seq_val (.int .i64 c) 8 rfl (by kernel_rfl) (by kernel_rfl) ?_
    refine seq_nil ?_
    refine hK4 _ _ ?_
    try clear hK4 K4
    refine wp_seq_k fun K5 hK5 => ?_
    refine region_lit ?_
    refine seq_val (.int .i64 c) 42 rfl (by kernel_rfl) (by kernel_rfl) ?_
    refine seq_val (.int .i64 (N)) 43 rfl (by kernel_rfl) (by kernel_rfl) ?_
    refine seq_call (.tuple #[.int .i64 (bel c N).1, .int .i64 (bel c N).2]) 33 #[.int .i64 c, .int .i64 (N)] 44 rfl (by kernel_rfl) (by kernel_rfl) (belowR c N hci _ (TabAt.ext hT x2)) fun W3 e3 => ?_
    have x3 : Ext w W3 := Ext.tr x2 e3
    refine seq_val (.tuple #[.int .i64 (bel c N).1, .int .i64 (bel c N).2]) 41 rfl (by kernel_rfl) (by kernel_rfl) ?_
    refine seq_val (.int .i64 ((bel c N).1)) 45 rfl (by kernel_rfl) (by kernel_rfl) ?_
    refine seq_val (.int .i64 ((bel c N).2)) 46 rfl (by kernel_rfl) (by kernel_rfl) ?_
    refine seq_val (.int .i64 ((bel c N).1)) 9 rfl (by kernel_rfl) (by kernel_rfl) ?_
    refine seq_val (.int .i64 ((bel c N).2)) 10 rfl (by kernel_rfl) (by kernel_rfl) ?_
    refine seq_nil ?_
    refine hK5 _ _ ?_
    try clear hK5 K5
    refine wp_seq_k fun K6 hK6 => ?_
    refine wp_seq_k fun K7 hK7 => ?_
    refine region_lit ?_
    refine seq_call (.bool true) 26 #[] 47 rfl (by kernel_rfl) (by kernel_rfl) (aliveR _ (TabAt.ext hT x3)) fun W4 e4 => ?_
    have x4 : Ext w W4 := Ext.tr x3 e4
    refine seq_val (.bool false) 48 rfl (by kernel_rfl) (by kernel_rfl) ?_
    refine seq_val (.bool false) 49 rfl (by kernel_rfl) (by kernel_rfl) ?_
    refine seq_val (.int .i64 (((a : Nat) : Int))) 50 rfl (by kernel_rfl) (by kernel_rfl) ?_
    refine seq_val (.int .i64 ((bel c N).1)) 51 rfl (by kernel_rfl) (by kernel_rfl) ?_
    refine seq_val (.bool false) 52 rfl (by kernel_rfl) (run_eq (u := .bool (decide (((a : Nat) : Int) < ((bel c N).1)))) (by kernel_rfl) (congrArg Value.bool (decide_eq_false (by omega)))) ?_
    refine seq_val (.bool false) 53 rfl (by kernel_rfl) (by kernel_rfl) ?_
    refine seq_val (.bool false) 54 rfl (by kernel_rfl) (by kernel_rfl) ?_
    refine seq_val (.int .i64 (((a : Nat) : Int))) 55 rfl (by kernel_rfl) (by kernel_rfl) ?_
    refine seq_val (.int .i64 ((bel c N).2)) 56 rfl (by kernel_rfl) (by kernel_rfl) ?_
    refine seq_val (.bool false) 57 rfl (by kernel_rfl) (run_eq (u := .bool (decide (((a : Nat) : Int) > ((bel c N).2)))) (by kernel_rfl) (congrArg Value.bool (decide_eq_false (by omega)))) ?_
    refine seq_val (.bool false) 58 rfl (by kernel_rfl) (by kernel_rfl) ?_
    refine seq_val (.bool false) 59 rfl (by kernel_rfl) (by kernel_rfl) ?_
    refine seq_val (.int .i64 (((b : Nat) : Int))) 60 rfl (by kernel_rfl) (by kernel_rfl) ?_
    refine seq_val (.int .i64 ((bel c N).1)) 61 rfl (by kernel_rfl) (by kernel_rfl) ?_
    refine seq_val (.bool false) 62 rfl (by kernel_rfl) (run_eq (u := .bool (decide (((b : Nat) : Int) < ((bel c N).1)))) (by kernel_rfl) (congrArg Value.bool (decide_eq_false (by omega)))) ?_
    refine seq_val (.bool false) 63 rfl (by kernel_rfl) (by kernel_rfl) ?_
    refine seq_val (.bool false) 64 rfl (by kernel_rfl) (by kernel_rfl) ?_
    refine seq_val (.int .i64 (((b : Nat) : Int))) 65 rfl (by kernel_rfl) (by kernel_rfl) ?_
    refine seq_val (.int .i64 ((bel c N).2)) 66 rfl (by kernel_rfl) (by kernel_rfl) ?_
    refine seq_val (.bool false) 67 rfl (by kernel_rfl) (run_eq (u := .bool (decide (((b : Nat) : Int) > ((bel c N).2)))) (by kernel_rfl) (congrArg Value.bool (decide_eq_false (by omega)))) ?_
    refine seq_val (.bool false) 68 rfl (by kernel_rfl) (by kernel_rfl) ?_
    refine seq_nil ?_
    refine hK7 _ _ ?_
    try clear hK7 K7
    refine cond_false (by kernel_rfl) ?_
    refine wp_skip ?_
    refine hK6 _ _ ?_
    try clear hK6 K6
    refine wp_seq_k fun K8 hK8 => ?_
    refine region_lit ?_
    refine seq_val (.int .i64 c) 70 rfl (by kernel_rfl) (by kernel_rfl) ?_
    refine seq_call (.tuple #[.int .i64 (kidL c), .int .i64 (kidR c)]) 24 #[.int .i64 c] 71 rfl (by kernel_rfl) (by kernel_rfl) (childrenR c hci _ (TabAt.ext hT x4)) fun W5 e5 => ?_
    have x5 : Ext w W5 := Ext.tr x4 e5
    refine seq_val (.tuple #[.int .i64 (kidL c), .int .i64 (kidR c)]) 69 rfl (by kernel_rfl) (by kernel_rfl) ?_
    refine seq_val (.int .i64 (kidL c)) 72 rfl (by kernel_rfl) (by kernel_rfl) ?_
    refine seq_val (.int .i64 (kidR c)) 73 rfl (by kernel_rfl) (by kernel_rfl) ?_
    refine seq_val (.int .i64 (kidL c)) 11 rfl (by kernel_rfl) (by kernel_rfl) ?_
    refine seq_val (.int .i64 (kidR c)) 12 rfl (by kernel_rfl) (by kernel_rfl) ?_
    refine seq_nil ?_
    refine hK8 _ _ ?_
    try clear hK8 K8
    refine wp_seq_k fun K9 hK9 => ?_
    refine wp_seq_k fun K10 hK10 => ?_
    refine region_lit ?_
    refine seq_val (.int .i64 (kidL c)) 74 rfl (by kernel_rfl) (by kernel_rfl) ?_
    refine seq_val (.int .i64 (kidR c)) 75 rfl (by kernel_rfl) (by kernel_rfl) ?_
    refine seq_makeS (ints .i64 ([(kidL c), (kidR c)])) 3 2 76 rfl (by kernel_rfl) (by kernel_rfl) fun g11 W6 l11 e6 r11_6 => ?_
    have x6 : Ext w W6 := Ext.tr x5 e6
    have b11 : w.heap.size ≤ g11 := Nat.le_trans x5.size l11
    refine seq_val (.int .i64 2) 77 rfl (by kernel_rfl) (by kernel_rfl) ?_
    refine seq_val (.int .i64 0) 78 rfl (by kernel_rfl) (by kernel_rfl) ?_
    refine seq_nil ?_
    refine hK10 _ _ ?_
    try clear hK10 K10
    refine wp_block ?_
    refine wp_loop_rounds 3 ?_
    show Code.wp _ _ (Exit.then (Code.rounds _ _ _ 2) _) _ _
    refine wp_seq_k fun K12 hK12 => ?_
    refine region_lit ?_
    refine seq_val (.bool true) 79 rfl (by kernel_rfl) (by kernel_rfl) ?_
    refine seq_nil ?_
    refine hK12 _ _ ?_
    try clear hK12 K12
    refine wp_seq_k fun K13 hK13 => ?_
    refine cond_true (by kernel_rfl) ?_
    refine wp_skip ?_
    refine hK13 _ _ ?_
    try clear hK13 K13
    refine wp_seq_k fun K14 hK14 => ?_
    refine wp_block ?_
    refine wp_seq_k fun K15 hK15 => ?_
    refine region_lit ?_
    refine seq_val (.pointer (some ⟨g11, 0, none⟩)) 80 rfl (by kernel_rfl) (run_indexS0 57 _ _ .i64 (0) g11 2 2 3 rfl (by kernel_rfl) (by kernel_rfl) (by kernel_rfl) (by kernel_rfl) (by decide)) ?_
    refine seq_val (.int .i64 (kidL c)) 81 rfl (by kernel_rfl) (run_loadC1 3 _ g11 0 3 _ (.int .i64 (kidL c)) _ r11_6 rfl (by kernel_rfl) (by kernel_rfl) (by kernel_rfl)) ?_
    refine seq_val (.int .i64 (kidL c)) 14 rfl (by kernel_rfl) (by kernel_rfl) ?_
    refine seq_nil ?_
    refine hK15 _ _ ?_
    try clear hK15 K15
    refine wp_seq_k fun K16 hK16 => ?_
    refine wp_seq_k fun K17 hK17 => ?_
    refine region_lit ?_
    refine seq_val (.int .i64 (kidL c)) 82 rfl (by kernel_rfl) (by kernel_rfl) ?_
    refine seq_val (.bool (decide ((kidL c) < 0))) 83 rfl (by kernel_rfl) (by kernel_rfl) ?_
    refine seq_nil ?_
    refine hK17 _ _ ?_
    try clear hK17 K17
    refine cond_split (t := decide ((kidL c) < 0)) (by kernel_rfl) (fun c18 => ?_) (fun c18 => ?_)
    · skip
      have hzL : kidL c < 0 := of_decide_eq_true c18
      refine wp_exit ?_
      refine hK14 _ _ ?_
      try clear hK14 K14
      refine region_lit ?_
      refine seq_val (.int .i64 1) 108 rfl (by kernel_rfl) (by kernel_rfl) ?_
      refine seq_val (.int .i64 1) 78 rfl (by kernel_rfl) (by kernel_rfl) ?_
      refine seq_nil ?_
      show Code.rounds _ _ _ 2 _ _
      show Code.wp _ _ (Exit.then (Code.rounds _ _ _ 1) _) _ _
      refine wp_seq_k fun K19 hK19 => ?_
      refine region_lit ?_
      refine seq_val (.bool true) 79 rfl (by kernel_rfl) (by kernel_rfl) ?_
      refine seq_nil ?_
      refine hK19 _ _ ?_
      try clear hK19 K19
      refine wp_seq_k fun K20 hK20 => ?_
      refine cond_true (by kernel_rfl) ?_
      refine wp_skip ?_
      refine hK20 _ _ ?_
      try clear hK20 K20
      refine wp_seq_k fun K21 hK21 => ?_
      refine wp_block ?_
      refine wp_seq_k fun K22 hK22 => ?_
      refine region_lit ?_
      refine seq_val (.pointer (some ⟨g11, 1, none⟩)) 80 rfl (by kernel_rfl) (run_indexS0 57 _ _ .i64 (1) g11 2 2 3 rfl (by kernel_rfl) (by kernel_rfl) (by kernel_rfl) (by kernel_rfl) (by decide)) ?_
      refine seq_val (.int .i64 (kidR c)) 81 rfl (by kernel_rfl) (run_loadC1 3 _ g11 1 3 _ (.int .i64 (kidR c)) _ r11_6 rfl (by kernel_rfl) (by kernel_rfl) (by kernel_rfl)) ?_
      refine seq_val (.int .i64 (kidR c)) 14 rfl (by kernel_rfl) (by kernel_rfl) ?_
      refine seq_nil ?_
      refine hK22 _ _ ?_
      try clear hK22 K22
      refine wp_seq_k fun K23 hK23 => ?_
      refine wp_seq_k fun K24 hK24 => ?_
      refine region_lit ?_
      refine seq_val (.int .i64 (kidR c)) 82 rfl (by kernel_rfl) (by kernel_rfl) ?_
      refine seq_val (.bool (decide ((kidR c) < 0))) 83 rfl (by kernel_rfl) (by kernel_rfl) ?_
      refine seq_nil ?_
      refine hK24 _ _ ?_
      try clear hK24 K24
      refine cond_split (t := decide ((kidR c) < 0)) (by kernel_rfl) (fun c25 => ?_) (fun c25 => ?_)
      · skip
        have hzR : kidR c < 0 := of_decide_eq_true c25
        refine wp_exit ?_
        refine hK21 _ _ ?_
        try clear hK21 K21
        refine region_lit ?_
        refine seq_val (.int .i64 2) 108 rfl (by kernel_rfl) (by kernel_rfl) ?_
        refine seq_val (.int .i64 2) 78 rfl (by kernel_rfl) (by kernel_rfl) ?_
        refine seq_nil ?_
        show Code.rounds _ _ _ 1 _ _
        show Code.wp _ _ (Exit.then (Code.rounds _ _ _ 0) _) _ _
        refine wp_seq_k fun K26 hK26 => ?_
        refine region_lit ?_
        refine seq_val (.bool false) 79 rfl (by kernel_rfl) (by kernel_rfl) ?_
        refine seq_nil ?_
        refine hK26 _ _ ?_
        try clear hK26 K26
        refine wp_seq_k fun K27 hK27 => ?_
        refine cond_false (by kernel_rfl) ?_
        refine wp_exit ?_
        refine hK9 _ _ ?_
        try clear hK9 K9
        refine wp_seq_k fun K28 hK28 => ?_
        refine region_lit ?_
        refine seq_val (.int .i64 (((a : Nat) : Int))) 109 rfl (by kernel_rfl) (by kernel_rfl) ?_
        refine seq_val (.int .i64 (((b : Nat) : Int))) 110 rfl (by kernel_rfl) (by kernel_rfl) ?_
        refine seq_val (.bool false) 111 rfl (by kernel_rfl) (run_eq (u := .bool ((((a : Nat) : Int) != ((b : Nat) : Int)))) (by kernel_rfl) (congrArg Value.bool (by rw [hab]; exact bne_self_eq_false _))) ?_
        refine seq_val (.bool false) 112 rfl (by kernel_rfl) (by kernel_rfl) ?_
        refine seq_val (.int .i64 c) 113 rfl (by kernel_rfl) (by kernel_rfl) ?_
        refine seq_val (.int .i64 (((a : Nat) : Int))) 114 rfl (by kernel_rfl) (by kernel_rfl) ?_
        refine seq_val (.int .i64 (((2 * a : Nat) : Int))) 115 rfl (by kernel_rfl) (run_eq (u := .int .i64 (IntKind.i64.wrap (2 * ((a : Nat) : Int)))) (by kernel_rfl) (congrArg (Value.int .i64) (i64n _ _ (by omega) (by omega)))) ?_
        refine seq_val (.bool true) 116 rfl (by kernel_rfl) (run_eq (u := .bool ((c == ((2 * a : Nat) : Int)))) (by kernel_rfl) (congrArg Value.bool (by rw [hself]; exact beq_self_eq_true _))) ?_
        refine seq_val (.bool true) 117 rfl (by kernel_rfl) (by kernel_rfl) ?_
        refine seq_val (.bool true) 6 rfl (by kernel_rfl) (by kernel_rfl) ?_
        refine seq_nil ?_
        refine hK28 _ _ ?_
        try clear hK28 K28
        refine wp_ret ?_
        repeat (first | with_reducible refine goR1 ?_ | with_reducible refine goR2 ?_)
        exact (show bodyPost _ _ _ .ret _ _ from ret1 (.bool true) rfl (res_tmp (by kernel_rfl)) ⟨rfl, x6⟩)
      · skip
        have hzR : ¬ kidR c < 0 := of_decide_eq_false c25
        refine wp_skip ?_
        refine hK23 _ _ ?_
        try clear hK23 K23
        refine wp_seq_k fun K29 hK29 => ?_
        refine region_lit ?_
        refine seq_val (.int .i64 (kidR c)) 85 rfl (by kernel_rfl) (by kernel_rfl) ?_
        refine seq_val (.int .i64 (N)) 86 rfl (by kernel_rfl) (by kernel_rfl) ?_
        refine seq_call (.tuple #[.int .i64 (bel (kidR c) N).1, .int .i64 (bel (kidR c) N).2]) 33 #[.int .i64 (kidR c), .int .i64 (N)] 87 rfl (by kernel_rfl) (by kernel_rfl) (belowR (kidR c) N (by unfold i64; omega) _ (TabAt.ext hT x6)) fun W7 e7 => ?_
        have x7 : Ext w W7 := Ext.tr x6 e7
        refine seq_val (.tuple #[.int .i64 (bel (kidR c) N).1, .int .i64 (bel (kidR c) N).2]) 84 rfl (by kernel_rfl) (by kernel_rfl) ?_
        refine seq_val (.int .i64 ((bel (kidR c) N).1)) 88 rfl (by kernel_rfl) (by kernel_rfl) ?_
        refine seq_val (.int .i64 ((bel (kidR c) N).2)) 89 rfl (by kernel_rfl) (by kernel_rfl) ?_
        refine seq_val (.int .i64 ((bel (kidR c) N).1)) 15 rfl (by kernel_rfl) (by kernel_rfl) ?_
        refine seq_val (.int .i64 ((bel (kidR c) N).2)) 16 rfl (by kernel_rfl) (by kernel_rfl) ?_
        refine seq_nil ?_
        refine hK29 _ _ ?_
        try clear hK29 K29
        refine wp_seq_k fun K30 hK30 => ?_
        rcases out4 (hoR.resolve_left hzR) with ho4 | ho4 | ho4 | ho4
        · skip
          refine region_lit ?_
          refine seq_val (.int .i64 (((a : Nat) : Int))) 90 rfl (by kernel_rfl) (by kernel_rfl) ?_
          refine seq_val (.int .i64 ((bel (kidR c) N).1)) 91 rfl (by kernel_rfl) (by kernel_rfl) ?_
          refine seq_val (.bool false) 92 rfl (by kernel_rfl) (run_eq (u := .bool (decide (((a : Nat) : Int) ≥ ((bel (kidR c) N).1)))) (by kernel_rfl) (congrArg Value.bool (decide_eq_false (by omega)))) ?_
          refine seq_val (.bool false) 93 rfl (by kernel_rfl) (by kernel_rfl) ?_
          refine seq_skip 94 rfl (by kernel_rfl) ?_
          refine seq_skip 95 rfl (by kernel_rfl) ?_
          refine seq_skip 96 rfl (by kernel_rfl) ?_
          refine seq_val (.bool false) 97 rfl (by kernel_rfl) (by kernel_rfl) ?_
          refine seq_val (.bool false) 98 rfl (by kernel_rfl) (by kernel_rfl) ?_
          refine seq_skip 99 rfl (by kernel_rfl) ?_
          refine seq_skip 100 rfl (by kernel_rfl) ?_
          refine seq_skip 101 rfl (by kernel_rfl) ?_
          refine seq_val (.bool false) 102 rfl (by kernel_rfl) (by kernel_rfl) ?_
          refine seq_val (.bool false) 103 rfl (by kernel_rfl) (by kernel_rfl) ?_
          refine seq_skip 104 rfl (by kernel_rfl) ?_
          refine seq_skip 105 rfl (by kernel_rfl) ?_
          refine seq_skip 106 rfl (by kernel_rfl) ?_
          refine seq_val (.bool false) 107 rfl (by kernel_rfl) (by kernel_rfl) ?_
          refine seq_nil ?_
          refine hK30 _ _ ?_
          try clear hK30 K30
          refine cond_false (by kernel_rfl) ?_
          refine wp_skip ?_
          refine hK21 _ _ ?_
          try clear hK21 K21
          refine region_lit ?_
          refine seq_val (.int .i64 2) 108 rfl (by kernel_rfl) (by kernel_rfl) ?_
          refine seq_val (.int .i64 2) 78 rfl (by kernel_rfl) (by kernel_rfl) ?_
          refine seq_nil ?_
          show Code.rounds _ _ _ 1 _ _
          show Code.wp _ _ (Exit.then (Code.rounds _ _ _ 0) _) _ _
          refine wp_seq_k fun K31 hK31 => ?_
          refine region_lit ?_
          refine seq_val (.bool false) 79 rfl (by kernel_rfl) (by kernel_rfl) ?_
          refine seq_nil ?_
          refine hK31 _ _ ?_
          try clear hK31 K31
          refine wp_seq_k fun K32 hK32 => ?_
          refine cond_false (by kernel_rfl) ?_
          refine wp_exit ?_
          refine hK9 _ _ ?_
          try clear hK9 K9
          refine wp_seq_k fun K33 hK33 => ?_
          refine region_lit ?_
          refine seq_val (.int .i64 (((a : Nat) : Int))) 109 rfl (by kernel_rfl) (by kernel_rfl) ?_
          refine seq_val (.int .i64 (((b : Nat) : Int))) 110 rfl (by kernel_rfl) (by kernel_rfl) ?_
          refine seq_val (.bool false) 111 rfl (by kernel_rfl) (run_eq (u := .bool ((((a : Nat) : Int) != ((b : Nat) : Int)))) (by kernel_rfl) (congrArg Value.bool (by rw [hab]; exact bne_self_eq_false _))) ?_
          refine seq_val (.bool false) 112 rfl (by kernel_rfl) (by kernel_rfl) ?_
          refine seq_val (.int .i64 c) 113 rfl (by kernel_rfl) (by kernel_rfl) ?_
          refine seq_val (.int .i64 (((a : Nat) : Int))) 114 rfl (by kernel_rfl) (by kernel_rfl) ?_
          refine seq_val (.int .i64 (((2 * a : Nat) : Int))) 115 rfl (by kernel_rfl) (run_eq (u := .int .i64 (IntKind.i64.wrap (2 * ((a : Nat) : Int)))) (by kernel_rfl) (congrArg (Value.int .i64) (i64n _ _ (by omega) (by omega)))) ?_
          refine seq_val (.bool true) 116 rfl (by kernel_rfl) (run_eq (u := .bool ((c == ((2 * a : Nat) : Int)))) (by kernel_rfl) (congrArg Value.bool (by rw [hself]; exact beq_self_eq_true _))) ?_
          refine seq_val (.bool true) 117 rfl (by kernel_rfl) (by kernel_rfl) ?_
          refine seq_val (.bool true) 6 rfl (by kernel_rfl) (by kernel_rfl) ?_
          refine seq_nil ?_
          refine hK33 _ _ ?_
          try clear hK33 K33
          refine wp_ret ?_
          repeat (first | with_reducible refine goR1 ?_ | with_reducible refine goR2 ?_)
          exact (show bodyPost _ _ _ .ret _ _ from ret1 (.bool true) rfl (res_tmp (by kernel_rfl)) ⟨rfl, x7⟩)
        · skip
          refine region_lit ?_
          refine seq_val (.int .i64 (((a : Nat) : Int))) 90 rfl (by kernel_rfl) (by kernel_rfl) ?_
          refine seq_val (.int .i64 ((bel (kidR c) N).1)) 91 rfl (by kernel_rfl) (by kernel_rfl) ?_
          refine seq_val (.bool true) 92 rfl (by kernel_rfl) (run_eq (u := .bool (decide (((a : Nat) : Int) ≥ ((bel (kidR c) N).1)))) (by kernel_rfl) (congrArg Value.bool (decide_eq_true (by omega)))) ?_
          refine seq_val (.bool true) 93 rfl (by kernel_rfl) (by kernel_rfl) ?_
          refine seq_val (.int .i64 (((a : Nat) : Int))) 94 rfl (by kernel_rfl) (by kernel_rfl) ?_
          refine seq_val (.int .i64 ((bel (kidR c) N).2)) 95 rfl (by kernel_rfl) (by kernel_rfl) ?_
          refine seq_val (.bool false) 96 rfl (by kernel_rfl) (run_eq (u := .bool (decide (((a : Nat) : Int) ≤ ((bel (kidR c) N).2)))) (by kernel_rfl) (congrArg Value.bool (decide_eq_false (by omega)))) ?_
          refine seq_val (.bool false) 97 rfl (by kernel_rfl) (by kernel_rfl) ?_
          refine seq_val (.bool false) 98 rfl (by kernel_rfl) (by kernel_rfl) ?_
          refine seq_skip 99 rfl (by kernel_rfl) ?_
          refine seq_skip 100 rfl (by kernel_rfl) ?_
          refine seq_skip 101 rfl (by kernel_rfl) ?_
          refine seq_val (.bool false) 102 rfl (by kernel_rfl) (by kernel_rfl) ?_
          refine seq_val (.bool false) 103 rfl (by kernel_rfl) (by kernel_rfl) ?_
          refine seq_skip 104 rfl (by kernel_rfl) ?_
          refine seq_skip 105 rfl (by kernel_rfl) ?_
          refine seq_skip 106 rfl (by kernel_rfl) ?_
          refine seq_val (.bool false) 107 rfl (by kernel_rfl) (by kernel_rfl) ?_
          refine seq_nil ?_
          refine hK30 _ _ ?_
          try clear hK30 K30
          refine cond_false (by kernel_rfl) ?_
          refine wp_skip ?_
          refine hK21 _ _ ?_
          try clear hK21 K21
          refine region_lit ?_
          refine seq_val (.int .i64 2) 108 rfl (by kernel_rfl) (by kernel_rfl) ?_
          refine seq_val (.int .i64 2) 78 rfl (by kernel_rfl) (by kernel_rfl) ?_
          refine seq_nil ?_
          show Code.rounds _ _ _ 1 _ _
          show Code.wp _ _ (Exit.then (Code.rounds _ _ _ 0) _) _ _
          refine wp_seq_k fun K34 hK34 => ?_
          refine region_lit ?_
          refine seq_val (.bool false) 79 rfl (by kernel_rfl) (by kernel_rfl) ?_
          refine seq_nil ?_
          refine hK34 _ _ ?_
          try clear hK34 K34
          refine wp_seq_k fun K35 hK35 => ?_
          refine cond_false (by kernel_rfl) ?_
          refine wp_exit ?_
          refine hK9 _ _ ?_
          try clear hK9 K9
          refine wp_seq_k fun K36 hK36 => ?_
          refine region_lit ?_
          refine seq_val (.int .i64 (((a : Nat) : Int))) 109 rfl (by kernel_rfl) (by kernel_rfl) ?_
          refine seq_val (.int .i64 (((b : Nat) : Int))) 110 rfl (by kernel_rfl) (by kernel_rfl) ?_
          refine seq_val (.bool false) 111 rfl (by kernel_rfl) (run_eq (u := .bool ((((a : Nat) : Int) != ((b : Nat) : Int)))) (by kernel_rfl) (congrArg Value.bool (by rw [hab]; exact bne_self_eq_false _))) ?_
          refine seq_val (.bool false) 112 rfl (by kernel_rfl) (by kernel_rfl) ?_
          refine seq_val (.int .i64 c) 113 rfl (by kernel_rfl) (by kernel_rfl) ?_
          refine seq_val (.int .i64 (((a : Nat) : Int))) 114 rfl (by kernel_rfl) (by kernel_rfl) ?_
          refine seq_val (.int .i64 (((2 * a : Nat) : Int))) 115 rfl (by kernel_rfl) (run_eq (u := .int .i64 (IntKind.i64.wrap (2 * ((a : Nat) : Int)))) (by kernel_rfl) (congrArg (Value.int .i64) (i64n _ _ (by omega) (by omega)))) ?_
          refine seq_val (.bool true) 116 rfl (by kernel_rfl) (run_eq (u := .bool ((c == ((2 * a : Nat) : Int)))) (by kernel_rfl) (congrArg Value.bool (by rw [hself]; exact beq_self_eq_true _))) ?_
          refine seq_val (.bool true) 117 rfl (by kernel_rfl) (by kernel_rfl) ?_
          refine seq_val (.bool true) 6 rfl (by kernel_rfl) (by kernel_rfl) ?_
          refine seq_nil ?_
          refine hK36 _ _ ?_
          try clear hK36 K36
          refine wp_ret ?_
          repeat (first | with_reducible refine goR1 ?_ | with_reducible refine goR2 ?_)
          exact (show bodyPost _ _ _ .ret _ _ from ret1 (.bool true) rfl (res_tmp (by kernel_rfl)) ⟨rfl, x7⟩)
        · skip
          refine region_lit ?_
          refine seq_val (.int .i64 (((a : Nat) : Int))) 90 rfl (by kernel_rfl) (by kernel_rfl) ?_
          refine seq_val (.int .i64 ((bel (kidR c) N).1)) 91 rfl (by kernel_rfl) (by kernel_rfl) ?_
          refine seq_val (.bool true) 92 rfl (by kernel_rfl) (run_eq (u := .bool (decide (((a : Nat) : Int) ≥ ((bel (kidR c) N).1)))) (by kernel_rfl) (congrArg Value.bool (decide_eq_true (by omega)))) ?_
          refine seq_val (.bool true) 93 rfl (by kernel_rfl) (by kernel_rfl) ?_
          refine seq_val (.int .i64 (((a : Nat) : Int))) 94 rfl (by kernel_rfl) (by kernel_rfl) ?_
          refine seq_val (.int .i64 ((bel (kidR c) N).2)) 95 rfl (by kernel_rfl) (by kernel_rfl) ?_
          refine seq_val (.bool true) 96 rfl (by kernel_rfl) (run_eq (u := .bool (decide (((a : Nat) : Int) ≤ ((bel (kidR c) N).2)))) (by kernel_rfl) (congrArg Value.bool (decide_eq_true (by omega)))) ?_
          refine seq_val (.bool true) 97 rfl (by kernel_rfl) (by kernel_rfl) ?_
          refine seq_val (.bool true) 98 rfl (by kernel_rfl) (by kernel_rfl) ?_
          refine seq_val (.int .i64 (((b : Nat) : Int))) 99 rfl (by kernel_rfl) (by kernel_rfl) ?_
          refine seq_val (.int .i64 ((bel (kidR c) N).1)) 100 rfl (by kernel_rfl) (by kernel_rfl) ?_
          refine seq_val (.bool false) 101 rfl (by kernel_rfl) (run_eq (u := .bool (decide (((b : Nat) : Int) ≥ ((bel (kidR c) N).1)))) (by kernel_rfl) (congrArg Value.bool (decide_eq_false (by omega)))) ?_
          refine seq_val (.bool false) 102 rfl (by kernel_rfl) (by kernel_rfl) ?_
          refine seq_val (.bool false) 103 rfl (by kernel_rfl) (by kernel_rfl) ?_
          refine seq_skip 104 rfl (by kernel_rfl) ?_
          refine seq_skip 105 rfl (by kernel_rfl) ?_
          refine seq_skip 106 rfl (by kernel_rfl) ?_
          refine seq_val (.bool false) 107 rfl (by kernel_rfl) (by kernel_rfl) ?_
          refine seq_nil ?_
          refine hK30 _ _ ?_
          try clear hK30 K30
          refine cond_false (by kernel_rfl) ?_
          refine wp_skip ?_
          refine hK21 _ _ ?_
          try clear hK21 K21
          refine region_lit ?_
          refine seq_val (.int .i64 2) 108 rfl (by kernel_rfl) (by kernel_rfl) ?_
          refine seq_val (.int .i64 2) 78 rfl (by kernel_rfl) (by kernel_rfl) ?_
          refine seq_nil ?_
          show Code.rounds _ _ _ 1 _ _
          show Code.wp _ _ (Exit.then (Code.rounds _ _ _ 0) _) _ _
          refine wp_seq_k fun K37 hK37 => ?_
          refine region_lit ?_
          refine seq_val (.bool false) 79 rfl (by kernel_rfl) (by kernel_rfl) ?_
          refine seq_nil ?_
          refine hK37 _ _ ?_
          try clear hK37 K37
          refine wp_seq_k fun K38 hK38 => ?_
          refine cond_false (by kernel_rfl) ?_
          refine wp_exit ?_
          refine hK9 _ _ ?_
          try clear hK9 K9
          refine wp_seq_k fun K39 hK39 => ?_
          refine region_lit ?_
          refine seq_val (.int .i64 (((a : Nat) : Int))) 109 rfl (by kernel_rfl) (by kernel_rfl) ?_
          refine seq_val (.int .i64 (((b : Nat) : Int))) 110 rfl (by kernel_rfl) (by kernel_rfl) ?_
          refine seq_val (.bool false) 111 rfl (by kernel_rfl) (run_eq (u := .bool ((((a : Nat) : Int) != ((b : Nat) : Int)))) (by kernel_rfl) (congrArg Value.bool (by rw [hab]; exact bne_self_eq_false _))) ?_
          refine seq_val (.bool false) 112 rfl (by kernel_rfl) (by kernel_rfl) ?_
          refine seq_val (.int .i64 c) 113 rfl (by kernel_rfl) (by kernel_rfl) ?_
          refine seq_val (.int .i64 (((a : Nat) : Int))) 114 rfl (by kernel_rfl) (by kernel_rfl) ?_
          refine seq_val (.int .i64 (((2 * a : Nat) : Int))) 115 rfl (by kernel_rfl) (run_eq (u := .int .i64 (IntKind.i64.wrap (2 * ((a : Nat) : Int)))) (by kernel_rfl) (congrArg (Value.int .i64) (i64n _ _ (by omega) (by omega)))) ?_
          refine seq_val (.bool true) 116 rfl (by kernel_rfl) (run_eq (u := .bool ((c == ((2 * a : Nat) : Int)))) (by kernel_rfl) (congrArg Value.bool (by rw [hself]; exact beq_self_eq_true _))) ?_
          refine seq_val (.bool true) 117 rfl (by kernel_rfl) (by kernel_rfl) ?_
          refine seq_val (.bool true) 6 rfl (by kernel_rfl) (by kernel_rfl) ?_
          refine seq_nil ?_
          refine hK39 _ _ ?_
          try clear hK39 K39
          refine wp_ret ?_
          repeat (first | with_reducible refine goR1 ?_ | with_reducible refine goR2 ?_)
          exact (show bodyPost _ _ _ .ret _ _ from ret1 (.bool true) rfl (res_tmp (by kernel_rfl)) ⟨rfl, x7⟩)
        · skip
          refine region_lit ?_
          refine seq_val (.int .i64 (((a : Nat) : Int))) 90 rfl (by kernel_rfl) (by kernel_rfl) ?_
          refine seq_val (.int .i64 ((bel (kidR c) N).1)) 91 rfl (by kernel_rfl) (by kernel_rfl) ?_
          refine seq_val (.bool true) 92 rfl (by kernel_rfl) (run_eq (u := .bool (decide (((a : Nat) : Int) ≥ ((bel (kidR c) N).1)))) (by kernel_rfl) (congrArg Value.bool (decide_eq_true (by omega)))) ?_
          refine seq_val (.bool true) 93 rfl (by kernel_rfl) (by kernel_rfl) ?_
          refine seq_val (.int .i64 (((a : Nat) : Int))) 94 rfl (by kernel_rfl) (by kernel_rfl) ?_
          refine seq_val (.int .i64 ((bel (kidR c) N).2)) 95 rfl (by kernel_rfl) (by kernel_rfl) ?_
          refine seq_val (.bool true) 96 rfl (by kernel_rfl) (run_eq (u := .bool (decide (((a : Nat) : Int) ≤ ((bel (kidR c) N).2)))) (by kernel_rfl) (congrArg Value.bool (decide_eq_true (by omega)))) ?_
          refine seq_val (.bool true) 97 rfl (by kernel_rfl) (by kernel_rfl) ?_
          refine seq_val (.bool true) 98 rfl (by kernel_rfl) (by kernel_rfl) ?_
          refine seq_val (.int .i64 (((b : Nat) : Int))) 99 rfl (by kernel_rfl) (by kernel_rfl) ?_
          refine seq_val (.int .i64 ((bel (kidR c) N).1)) 100 rfl (by kernel_rfl) (by kernel_rfl) ?_
          refine seq_val (.bool true) 101 rfl (by kernel_rfl) (run_eq (u := .bool (decide (((b : Nat) : Int) ≥ ((bel (kidR c) N).1)))) (by kernel_rfl) (congrArg Value.bool (decide_eq_true (by omega)))) ?_
          refine seq_val (.bool true) 102 rfl (by kernel_rfl) (by kernel_rfl) ?_
          refine seq_val (.bool true) 103 rfl (by kernel_rfl) (by kernel_rfl) ?_
          refine seq_val (.int .i64 (((b : Nat) : Int))) 104 rfl (by kernel_rfl) (by kernel_rfl) ?_
          refine seq_val (.int .i64 ((bel (kidR c) N).2)) 105 rfl (by kernel_rfl) (by kernel_rfl) ?_
          refine seq_val (.bool false) 106 rfl (by kernel_rfl) (run_eq (u := .bool (decide (((b : Nat) : Int) ≤ ((bel (kidR c) N).2)))) (by kernel_rfl) (congrArg Value.bool (decide_eq_false (by omega)))) ?_
          refine seq_val (.bool false) 107 rfl (by kernel_rfl) (by kernel_rfl) ?_
          refine seq_nil ?_
          refine hK30 _ _ ?_
          try clear hK30 K30
          refine cond_false (by kernel_rfl) ?_
          refine wp_skip ?_
          refine hK21 _ _ ?_
          try clear hK21 K21
          refine region_lit ?_
          refine seq_val (.int .i64 2) 108 rfl (by kernel_rfl) (by kernel_rfl) ?_
          refine seq_val (.int .i64 2) 78 rfl (by kernel_rfl) (by kernel_rfl) ?_
          refine seq_nil ?_
          show Code.rounds _ _ _ 1 _ _
          show Code.wp _ _ (Exit.then (Code.rounds _ _ _ 0) _) _ _
          refine wp_seq_k fun K40 hK40 => ?_
          refine region_lit ?_
          refine seq_val (.bool false) 79 rfl (by kernel_rfl) (by kernel_rfl) ?_
          refine seq_nil ?_
          refine hK40 _ _ ?_
          try clear hK40 K40
          refine wp_seq_k fun K41 hK41 => ?_
          refine cond_false (by kernel_rfl) ?_
          refine wp_exit ?_
          refine hK9 _ _ ?_
          try clear hK9 K9
          refine wp_seq_k fun K42 hK42 => ?_
          refine region_lit ?_
          refine seq_val (.int .i64 (((a : Nat) : Int))) 109 rfl (by kernel_rfl) (by kernel_rfl) ?_
          refine seq_val (.int .i64 (((b : Nat) : Int))) 110 rfl (by kernel_rfl) (by kernel_rfl) ?_
          refine seq_val (.bool false) 111 rfl (by kernel_rfl) (run_eq (u := .bool ((((a : Nat) : Int) != ((b : Nat) : Int)))) (by kernel_rfl) (congrArg Value.bool (by rw [hab]; exact bne_self_eq_false _))) ?_
          refine seq_val (.bool false) 112 rfl (by kernel_rfl) (by kernel_rfl) ?_
          refine seq_val (.int .i64 c) 113 rfl (by kernel_rfl) (by kernel_rfl) ?_
          refine seq_val (.int .i64 (((a : Nat) : Int))) 114 rfl (by kernel_rfl) (by kernel_rfl) ?_
          refine seq_val (.int .i64 (((2 * a : Nat) : Int))) 115 rfl (by kernel_rfl) (run_eq (u := .int .i64 (IntKind.i64.wrap (2 * ((a : Nat) : Int)))) (by kernel_rfl) (congrArg (Value.int .i64) (i64n _ _ (by omega) (by omega)))) ?_
          refine seq_val (.bool true) 116 rfl (by kernel_rfl) (run_eq (u := .bool ((c == ((2 * a : Nat) : Int)))) (by kernel_rfl) (congrArg Value.bool (by rw [hself]; exact beq_self_eq_true _))) ?_
          refine seq_val (.bool true) 117 rfl (by kernel_rfl) (by kernel_rfl) ?_
          refine seq_val (.bool true) 6 rfl (by kernel_rfl) (by kernel_rfl) ?_
          refine seq_nil ?_
          refine hK42 _ _ ?_
          try clear hK42 K42
          refine wp_ret ?_
          repeat (first | with_reducible refine goR1 ?_ | with_reducible refine goR2 ?_)
          exact (show bodyPost _ _ _ .ret _ _ from ret1 (.bool true) rfl (res_tmp (by kernel_rfl)) ⟨rfl, x7⟩)
    · skip
      have hzL : ¬ kidL c < 0 := of_decide_eq_false c18
      refine wp_skip ?_
      refine hK16 _ _ ?_
      try clear hK16 K16
      refine wp_seq_k fun K43 hK43 => ?_
      refine region_lit ?_
      refine seq_val (.int .i64 (kidL c)) 85 rfl (by kernel_rfl) (by kernel_rfl) ?_
      refine seq_val (.int .i64 (N)) 86 rfl (by kernel_rfl) (by kernel_rfl) ?_
      refine seq_call (.tuple #[.int .i64 (bel (kidL c) N).1, .int .i64 (bel (kidL c) N).2]) 33 #[.int .i64 (kidL c), .int .i64 (N)] 87 rfl (by kernel_rfl) (by kernel_rfl) (belowR (kidL c) N (by unfold i64; omega) _ (TabAt.ext hT x6)) fun W7 e7 => ?_
      have x7 : Ext w W7 := Ext.tr x6 e7
      refine seq_val (.tuple #[.int .i64 (bel (kidL c) N).1, .int .i64 (bel (kidL c) N).2]) 84 rfl (by kernel_rfl) (by kernel_rfl) ?_
      refine seq_val (.int .i64 ((bel (kidL c) N).1)) 88 rfl (by kernel_rfl) (by kernel_rfl) ?_
      refine seq_val (.int .i64 ((bel (kidL c) N).2)) 89 rfl (by kernel_rfl) (by kernel_rfl) ?_
      refine seq_val (.int .i64 ((bel (kidL c) N).1)) 15 rfl (by kernel_rfl) (by kernel_rfl) ?_
      refine seq_val (.int .i64 ((bel (kidL c) N).2)) 16 rfl (by kernel_rfl) (by kernel_rfl) ?_
      refine seq_nil ?_
      refine hK43 _ _ ?_
      try clear hK43 K43
      refine wp_seq_k fun K44 hK44 => ?_
      rcases out4 (hoL.resolve_left hzL) with ho4 | ho4 | ho4 | ho4
      · skip
        refine region_lit ?_
        refine seq_val (.int .i64 (((a : Nat) : Int))) 90 rfl (by kernel_rfl) (by kernel_rfl) ?_
        refine seq_val (.int .i64 ((bel (kidL c) N).1)) 91 rfl (by kernel_rfl) (by kernel_rfl) ?_
        refine seq_val (.bool false) 92 rfl (by kernel_rfl) (run_eq (u := .bool (decide (((a : Nat) : Int) ≥ ((bel (kidL c) N).1)))) (by kernel_rfl) (congrArg Value.bool (decide_eq_false (by omega)))) ?_
        refine seq_val (.bool false) 93 rfl (by kernel_rfl) (by kernel_rfl) ?_
        refine seq_skip 94 rfl (by kernel_rfl) ?_
        refine seq_skip 95 rfl (by kernel_rfl) ?_
        refine seq_skip 96 rfl (by kernel_rfl) ?_
        refine seq_val (.bool false) 97 rfl (by kernel_rfl) (by kernel_rfl) ?_
        refine seq_val (.bool false) 98 rfl (by kernel_rfl) (by kernel_rfl) ?_
        refine seq_skip 99 rfl (by kernel_rfl) ?_
        refine seq_skip 100 rfl (by kernel_rfl) ?_
        refine seq_skip 101 rfl (by kernel_rfl) ?_
        refine seq_val (.bool false) 102 rfl (by kernel_rfl) (by kernel_rfl) ?_
        refine seq_val (.bool false) 103 rfl (by kernel_rfl) (by kernel_rfl) ?_
        refine seq_skip 104 rfl (by kernel_rfl) ?_
        refine seq_skip 105 rfl (by kernel_rfl) ?_
        refine seq_skip 106 rfl (by kernel_rfl) ?_
        refine seq_val (.bool false) 107 rfl (by kernel_rfl) (by kernel_rfl) ?_
        refine seq_nil ?_
        refine hK44 _ _ ?_
        try clear hK44 K44
        refine cond_false (by kernel_rfl) ?_
        refine wp_skip ?_
        refine hK14 _ _ ?_
        try clear hK14 K14
        refine region_lit ?_
        refine seq_val (.int .i64 1) 108 rfl (by kernel_rfl) (by kernel_rfl) ?_
        refine seq_val (.int .i64 1) 78 rfl (by kernel_rfl) (by kernel_rfl) ?_
        refine seq_nil ?_
        show Code.rounds _ _ _ 2 _ _
        show Code.wp _ _ (Exit.then (Code.rounds _ _ _ 1) _) _ _
        refine wp_seq_k fun K45 hK45 => ?_
        refine region_lit ?_
        refine seq_val (.bool true) 79 rfl (by kernel_rfl) (by kernel_rfl) ?_
        refine seq_nil ?_
        refine hK45 _ _ ?_
        try clear hK45 K45
        refine wp_seq_k fun K46 hK46 => ?_
        refine cond_true (by kernel_rfl) ?_
        refine wp_skip ?_
        refine hK46 _ _ ?_
        try clear hK46 K46
        refine wp_seq_k fun K47 hK47 => ?_
        refine wp_block ?_
        refine wp_seq_k fun K48 hK48 => ?_
        refine region_lit ?_
        refine seq_val (.pointer (some ⟨g11, 1, none⟩)) 80 rfl (by kernel_rfl) (run_indexS0 57 _ _ .i64 (1) g11 2 2 3 rfl (by kernel_rfl) (by kernel_rfl) (by kernel_rfl) (by kernel_rfl) (by decide)) ?_
        have r11_7 := (row_ext r11_6 e7)
        refine seq_val (.int .i64 (kidR c)) 81 rfl (by kernel_rfl) (run_loadC1 3 _ g11 1 3 _ (.int .i64 (kidR c)) _ r11_7 rfl (by kernel_rfl) (by kernel_rfl) (by kernel_rfl)) ?_
        refine seq_val (.int .i64 (kidR c)) 14 rfl (by kernel_rfl) (by kernel_rfl) ?_
        refine seq_nil ?_
        refine hK48 _ _ ?_
        try clear hK48 K48
        refine wp_seq_k fun K49 hK49 => ?_
        refine wp_seq_k fun K50 hK50 => ?_
        refine region_lit ?_
        refine seq_val (.int .i64 (kidR c)) 82 rfl (by kernel_rfl) (by kernel_rfl) ?_
        refine seq_val (.bool (decide ((kidR c) < 0))) 83 rfl (by kernel_rfl) (by kernel_rfl) ?_
        refine seq_nil ?_
        refine hK50 _ _ ?_
        try clear hK50 K50
        refine cond_split (t := decide ((kidR c) < 0)) (by kernel_rfl) (fun c51 => ?_) (fun c51 => ?_)
        · skip
          have hzR : kidR c < 0 := of_decide_eq_true c51
          refine wp_exit ?_
          refine hK47 _ _ ?_
          try clear hK47 K47
          refine region_lit ?_
          refine seq_val (.int .i64 2) 108 rfl (by kernel_rfl) (by kernel_rfl) ?_
          refine seq_val (.int .i64 2) 78 rfl (by kernel_rfl) (by kernel_rfl) ?_
          refine seq_nil ?_
          show Code.rounds _ _ _ 1 _ _
          show Code.wp _ _ (Exit.then (Code.rounds _ _ _ 0) _) _ _
          refine wp_seq_k fun K52 hK52 => ?_
          refine region_lit ?_
          refine seq_val (.bool false) 79 rfl (by kernel_rfl) (by kernel_rfl) ?_
          refine seq_nil ?_
          refine hK52 _ _ ?_
          try clear hK52 K52
          refine wp_seq_k fun K53 hK53 => ?_
          refine cond_false (by kernel_rfl) ?_
          refine wp_exit ?_
          refine hK9 _ _ ?_
          try clear hK9 K9
          refine wp_seq_k fun K54 hK54 => ?_
          refine region_lit ?_
          refine seq_val (.int .i64 (((a : Nat) : Int))) 109 rfl (by kernel_rfl) (by kernel_rfl) ?_
          refine seq_val (.int .i64 (((b : Nat) : Int))) 110 rfl (by kernel_rfl) (by kernel_rfl) ?_
          refine seq_val (.bool false) 111 rfl (by kernel_rfl) (run_eq (u := .bool ((((a : Nat) : Int) != ((b : Nat) : Int)))) (by kernel_rfl) (congrArg Value.bool (by rw [hab]; exact bne_self_eq_false _))) ?_
          refine seq_val (.bool false) 112 rfl (by kernel_rfl) (by kernel_rfl) ?_
          refine seq_val (.int .i64 c) 113 rfl (by kernel_rfl) (by kernel_rfl) ?_
          refine seq_val (.int .i64 (((a : Nat) : Int))) 114 rfl (by kernel_rfl) (by kernel_rfl) ?_
          refine seq_val (.int .i64 (((2 * a : Nat) : Int))) 115 rfl (by kernel_rfl) (run_eq (u := .int .i64 (IntKind.i64.wrap (2 * ((a : Nat) : Int)))) (by kernel_rfl) (congrArg (Value.int .i64) (i64n _ _ (by omega) (by omega)))) ?_
          refine seq_val (.bool true) 116 rfl (by kernel_rfl) (run_eq (u := .bool ((c == ((2 * a : Nat) : Int)))) (by kernel_rfl) (congrArg Value.bool (by rw [hself]; exact beq_self_eq_true _))) ?_
          refine seq_val (.bool true) 117 rfl (by kernel_rfl) (by kernel_rfl) ?_
          refine seq_val (.bool true) 6 rfl (by kernel_rfl) (by kernel_rfl) ?_
          refine seq_nil ?_
          refine hK54 _ _ ?_
          try clear hK54 K54
          refine wp_ret ?_
          repeat (first | with_reducible refine goR1 ?_ | with_reducible refine goR2 ?_)
          exact (show bodyPost _ _ _ .ret _ _ from ret1 (.bool true) rfl (res_tmp (by kernel_rfl)) ⟨rfl, x7⟩)
        · skip
          have hzR : ¬ kidR c < 0 := of_decide_eq_false c51
          refine wp_skip ?_
          refine hK49 _ _ ?_
          try clear hK49 K49
          refine wp_seq_k fun K55 hK55 => ?_
          refine region_lit ?_
          refine seq_val (.int .i64 (kidR c)) 85 rfl (by kernel_rfl) (by kernel_rfl) ?_
          refine seq_val (.int .i64 (N)) 86 rfl (by kernel_rfl) (by kernel_rfl) ?_
          refine seq_call (.tuple #[.int .i64 (bel (kidR c) N).1, .int .i64 (bel (kidR c) N).2]) 33 #[.int .i64 (kidR c), .int .i64 (N)] 87 rfl (by kernel_rfl) (by kernel_rfl) (belowR (kidR c) N (by unfold i64; omega) _ (TabAt.ext hT x7)) fun W8 e8 => ?_
          have x8 : Ext w W8 := Ext.tr x7 e8
          refine seq_val (.tuple #[.int .i64 (bel (kidR c) N).1, .int .i64 (bel (kidR c) N).2]) 84 rfl (by kernel_rfl) (by kernel_rfl) ?_
          refine seq_val (.int .i64 ((bel (kidR c) N).1)) 88 rfl (by kernel_rfl) (by kernel_rfl) ?_
          refine seq_val (.int .i64 ((bel (kidR c) N).2)) 89 rfl (by kernel_rfl) (by kernel_rfl) ?_
          refine seq_val (.int .i64 ((bel (kidR c) N).1)) 15 rfl (by kernel_rfl) (by kernel_rfl) ?_
          refine seq_val (.int .i64 ((bel (kidR c) N).2)) 16 rfl (by kernel_rfl) (by kernel_rfl) ?_
          refine seq_nil ?_
          refine hK55 _ _ ?_
          try clear hK55 K55
          refine wp_seq_k fun K56 hK56 => ?_
          rcases out4 (hoR.resolve_left hzR) with ho4 | ho4 | ho4 | ho4
          · skip
            refine region_lit ?_
            refine seq_val (.int .i64 (((a : Nat) : Int))) 90 rfl (by kernel_rfl) (by kernel_rfl) ?_
            refine seq_val (.int .i64 ((bel (kidR c) N).1)) 91 rfl (by kernel_rfl) (by kernel_rfl) ?_
            refine seq_val (.bool false) 92 rfl (by kernel_rfl) (run_eq (u := .bool (decide (((a : Nat) : Int) ≥ ((bel (kidR c) N).1)))) (by kernel_rfl) (congrArg Value.bool (decide_eq_false (by omega)))) ?_
            refine seq_val (.bool false) 93 rfl (by kernel_rfl) (by kernel_rfl) ?_
            refine seq_skip 94 rfl (by kernel_rfl) ?_
            refine seq_skip 95 rfl (by kernel_rfl) ?_
            refine seq_skip 96 rfl (by kernel_rfl) ?_
            refine seq_val (.bool false) 97 rfl (by kernel_rfl) (by kernel_rfl) ?_
            refine seq_val (.bool false) 98 rfl (by kernel_rfl) (by kernel_rfl) ?_
            refine seq_skip 99 rfl (by kernel_rfl) ?_
            refine seq_skip 100 rfl (by kernel_rfl) ?_
            refine seq_skip 101 rfl (by kernel_rfl) ?_
            refine seq_val (.bool false) 102 rfl (by kernel_rfl) (by kernel_rfl) ?_
            refine seq_val (.bool false) 103 rfl (by kernel_rfl) (by kernel_rfl) ?_
            refine seq_skip 104 rfl (by kernel_rfl) ?_
            refine seq_skip 105 rfl (by kernel_rfl) ?_
            refine seq_skip 106 rfl (by kernel_rfl) ?_
            refine seq_val (.bool false) 107 rfl (by kernel_rfl) (by kernel_rfl) ?_
            refine seq_nil ?_
            refine hK56 _ _ ?_
            try clear hK56 K56
            refine cond_false (by kernel_rfl) ?_
            refine wp_skip ?_
            refine hK47 _ _ ?_
            try clear hK47 K47
            refine region_lit ?_
            refine seq_val (.int .i64 2) 108 rfl (by kernel_rfl) (by kernel_rfl) ?_
            refine seq_val (.int .i64 2) 78 rfl (by kernel_rfl) (by kernel_rfl) ?_
            refine seq_nil ?_
            show Code.rounds _ _ _ 1 _ _
            show Code.wp _ _ (Exit.then (Code.rounds _ _ _ 0) _) _ _
            refine wp_seq_k fun K57 hK57 => ?_
            refine region_lit ?_
            refine seq_val (.bool false) 79 rfl (by kernel_rfl) (by kernel_rfl) ?_
            refine seq_nil ?_
            refine hK57 _ _ ?_
            try clear hK57 K57
            refine wp_seq_k fun K58 hK58 => ?_
            refine cond_false (by kernel_rfl) ?_
            refine wp_exit ?_
            refine hK9 _ _ ?_
            try clear hK9 K9
            refine wp_seq_k fun K59 hK59 => ?_
            refine region_lit ?_
            refine seq_val (.int .i64 (((a : Nat) : Int))) 109 rfl (by kernel_rfl) (by kernel_rfl) ?_
            refine seq_val (.int .i64 (((b : Nat) : Int))) 110 rfl (by kernel_rfl) (by kernel_rfl) ?_
            refine seq_val (.bool false) 111 rfl (by kernel_rfl) (run_eq (u := .bool ((((a : Nat) : Int) != ((b : Nat) : Int)))) (by kernel_rfl) (congrArg Value.bool (by rw [hab]; exact bne_self_eq_false _))) ?_
            refine seq_val (.bool false) 112 rfl (by kernel_rfl) (by kernel_rfl) ?_
            refine seq_val (.int .i64 c) 113 rfl (by kernel_rfl) (by kernel_rfl) ?_
            refine seq_val (.int .i64 (((a : Nat) : Int))) 114 rfl (by kernel_rfl) (by kernel_rfl) ?_
            refine seq_val (.int .i64 (((2 * a : Nat) : Int))) 115 rfl (by kernel_rfl) (run_eq (u := .int .i64 (IntKind.i64.wrap (2 * ((a : Nat) : Int)))) (by kernel_rfl) (congrArg (Value.int .i64) (i64n _ _ (by omega) (by omega)))) ?_
            refine seq_val (.bool true) 116 rfl (by kernel_rfl) (run_eq (u := .bool ((c == ((2 * a : Nat) : Int)))) (by kernel_rfl) (congrArg Value.bool (by rw [hself]; exact beq_self_eq_true _))) ?_
            refine seq_val (.bool true) 117 rfl (by kernel_rfl) (by kernel_rfl) ?_
            refine seq_val (.bool true) 6 rfl (by kernel_rfl) (by kernel_rfl) ?_
            refine seq_nil ?_
            refine hK59 _ _ ?_
            try clear hK59 K59
            refine wp_ret ?_
            repeat (first | with_reducible refine goR1 ?_ | with_reducible refine goR2 ?_)
            exact (show bodyPost _ _ _ .ret _ _ from ret1 (.bool true) rfl (res_tmp (by kernel_rfl)) ⟨rfl, x8⟩)
          · skip
            refine region_lit ?_
            refine seq_val (.int .i64 (((a : Nat) : Int))) 90 rfl (by kernel_rfl) (by kernel_rfl) ?_
            refine seq_val (.int .i64 ((bel (kidR c) N).1)) 91 rfl (by kernel_rfl) (by kernel_rfl) ?_
            refine seq_val (.bool true) 92 rfl (by kernel_rfl) (run_eq (u := .bool (decide (((a : Nat) : Int) ≥ ((bel (kidR c) N).1)))) (by kernel_rfl) (congrArg Value.bool (decide_eq_true (by omega)))) ?_
            refine seq_val (.bool true) 93 rfl (by kernel_rfl) (by kernel_rfl) ?_
            refine seq_val (.int .i64 (((a : Nat) : Int))) 94 rfl (by kernel_rfl) (by kernel_rfl) ?_
            refine seq_val (.int .i64 ((bel (kidR c) N).2)) 95 rfl (by kernel_rfl) (by kernel_rfl) ?_
            refine seq_val (.bool false) 96 rfl (by kernel_rfl) (run_eq (u := .bool (decide (((a : Nat) : Int) ≤ ((bel (kidR c) N).2)))) (by kernel_rfl) (congrArg Value.bool (decide_eq_false (by omega)))) ?_
            refine seq_val (.bool false) 97 rfl (by kernel_rfl) (by kernel_rfl) ?_
            refine seq_val (.bool false) 98 rfl (by kernel_rfl) (by kernel_rfl) ?_
            refine seq_skip 99 rfl (by kernel_rfl) ?_
            refine seq_skip 100 rfl (by kernel_rfl) ?_
            refine seq_skip 101 rfl (by kernel_rfl) ?_
            refine seq_val (.bool false) 102 rfl (by kernel_rfl) (by kernel_rfl) ?_
            refine seq_val (.bool false) 103 rfl (by kernel_rfl) (by kernel_rfl) ?_
            refine seq_skip 104 rfl (by kernel_rfl) ?_
            refine seq_skip 105 rfl (by kernel_rfl) ?_
            refine seq_skip 106 rfl (by kernel_rfl) ?_
            refine seq_val (.bool false) 107 rfl (by kernel_rfl) (by kernel_rfl) ?_
            refine seq_nil ?_
            refine hK56 _ _ ?_
            try clear hK56 K56
            refine cond_false (by kernel_rfl) ?_
            refine wp_skip ?_
            refine hK47 _ _ ?_
            try clear hK47 K47
            refine region_lit ?_
            refine seq_val (.int .i64 2) 108 rfl (by kernel_rfl) (by kernel_rfl) ?_
            refine seq_val (.int .i64 2) 78 rfl (by kernel_rfl) (by kernel_rfl) ?_
            refine seq_nil ?_
            show Code.rounds _ _ _ 1 _ _
            show Code.wp _ _ (Exit.then (Code.rounds _ _ _ 0) _) _ _
            refine wp_seq_k fun K60 hK60 => ?_
            refine region_lit ?_
            refine seq_val (.bool false) 79 rfl (by kernel_rfl) (by kernel_rfl) ?_
            refine seq_nil ?_
            refine hK60 _ _ ?_
            try clear hK60 K60
            refine wp_seq_k fun K61 hK61 => ?_
            refine cond_false (by kernel_rfl) ?_
            refine wp_exit ?_
            refine hK9 _ _ ?_
            try clear hK9 K9
            refine wp_seq_k fun K62 hK62 => ?_
            refine region_lit ?_
            refine seq_val (.int .i64 (((a : Nat) : Int))) 109 rfl (by kernel_rfl) (by kernel_rfl) ?_
            refine seq_val (.int .i64 (((b : Nat) : Int))) 110 rfl (by kernel_rfl) (by kernel_rfl) ?_
            refine seq_val (.bool false) 111 rfl (by kernel_rfl) (run_eq (u := .bool ((((a : Nat) : Int) != ((b : Nat) : Int)))) (by kernel_rfl) (congrArg Value.bool (by rw [hab]; exact bne_self_eq_false _))) ?_
            refine seq_val (.bool false) 112 rfl (by kernel_rfl) (by kernel_rfl) ?_
            refine seq_val (.int .i64 c) 113 rfl (by kernel_rfl) (by kernel_rfl) ?_
            refine seq_val (.int .i64 (((a : Nat) : Int))) 114 rfl (by kernel_rfl) (by kernel_rfl) ?_
            refine seq_val (.int .i64 (((2 * a : Nat) : Int))) 115 rfl (by kernel_rfl) (run_eq (u := .int .i64 (IntKind.i64.wrap (2 * ((a : Nat) : Int)))) (by kernel_rfl) (congrArg (Value.int .i64) (i64n _ _ (by omega) (by omega)))) ?_
            refine seq_val (.bool true) 116 rfl (by kernel_rfl) (run_eq (u := .bool ((c == ((2 * a : Nat) : Int)))) (by kernel_rfl) (congrArg Value.bool (by rw [hself]; exact beq_self_eq_true _))) ?_
            refine seq_val (.bool true) 117 rfl (by kernel_rfl) (by kernel_rfl) ?_
            refine seq_val (.bool true) 6 rfl (by kernel_rfl) (by kernel_rfl) ?_
            refine seq_nil ?_
            refine hK62 _ _ ?_
            try clear hK62 K62
            refine wp_ret ?_
            repeat (first | with_reducible refine goR1 ?_ | with_reducible refine goR2 ?_)
            exact (show bodyPost _ _ _ .ret _ _ from ret1 (.bool true) rfl (res_tmp (by kernel_rfl)) ⟨rfl, x8⟩)
          · skip
            refine region_lit ?_
            refine seq_val (.int .i64 (((a : Nat) : Int))) 90 rfl (by kernel_rfl) (by kernel_rfl) ?_
            refine seq_val (.int .i64 ((bel (kidR c) N).1)) 91 rfl (by kernel_rfl) (by kernel_rfl) ?_
            refine seq_val (.bool true) 92 rfl (by kernel_rfl) (run_eq (u := .bool (decide (((a : Nat) : Int) ≥ ((bel (kidR c) N).1)))) (by kernel_rfl) (congrArg Value.bool (decide_eq_true (by omega)))) ?_
            refine seq_val (.bool true) 93 rfl (by kernel_rfl) (by kernel_rfl) ?_
            refine seq_val (.int .i64 (((a : Nat) : Int))) 94 rfl (by kernel_rfl) (by kernel_rfl) ?_
            refine seq_val (.int .i64 ((bel (kidR c) N).2)) 95 rfl (by kernel_rfl) (by kernel_rfl) ?_
            refine seq_val (.bool true) 96 rfl (by kernel_rfl) (run_eq (u := .bool (decide (((a : Nat) : Int) ≤ ((bel (kidR c) N).2)))) (by kernel_rfl) (congrArg Value.bool (decide_eq_true (by omega)))) ?_
            refine seq_val (.bool true) 97 rfl (by kernel_rfl) (by kernel_rfl) ?_
            refine seq_val (.bool true) 98 rfl (by kernel_rfl) (by kernel_rfl) ?_
            refine seq_val (.int .i64 (((b : Nat) : Int))) 99 rfl (by kernel_rfl) (by kernel_rfl) ?_
            refine seq_val (.int .i64 ((bel (kidR c) N).1)) 100 rfl (by kernel_rfl) (by kernel_rfl) ?_
            refine seq_val (.bool false) 101 rfl (by kernel_rfl) (run_eq (u := .bool (decide (((b : Nat) : Int) ≥ ((bel (kidR c) N).1)))) (by kernel_rfl) (congrArg Value.bool (decide_eq_false (by omega)))) ?_
            refine seq_val (.bool false) 102 rfl (by kernel_rfl) (by kernel_rfl) ?_
            refine seq_val (.bool false) 103 rfl (by kernel_rfl) (by kernel_rfl) ?_
            refine seq_skip 104 rfl (by kernel_rfl) ?_
            refine seq_skip 105 rfl (by kernel_rfl) ?_
            refine seq_skip 106 rfl (by kernel_rfl) ?_
            refine seq_val (.bool false) 107 rfl (by kernel_rfl) (by kernel_rfl) ?_
            refine seq_nil ?_
            refine hK56 _ _ ?_
            try clear hK56 K56
            refine cond_false (by kernel_rfl) ?_
            refine wp_skip ?_
            refine hK47 _ _ ?_
            try clear hK47 K47
            refine region_lit ?_
            refine seq_val (.int .i64 2) 108 rfl (by kernel_rfl) (by kernel_rfl) ?_
            refine seq_val (.int .i64 2) 78 rfl (by kernel_rfl) (by kernel_rfl) ?_
            refine seq_nil ?_
            show Code.rounds _ _ _ 1 _ _
            show Code.wp _ _ (Exit.then (Code.rounds _ _ _ 0) _) _ _
            refine wp_seq_k fun K63 hK63 => ?_
            refine region_lit ?_
            refine seq_val (.bool false) 79 rfl (by kernel_rfl) (by kernel_rfl) ?_
            refine seq_nil ?_
            refine hK63 _ _ ?_
            try clear hK63 K63
            refine wp_seq_k fun K64 hK64 => ?_
            refine cond_false (by kernel_rfl) ?_
            refine wp_exit ?_
            refine hK9 _ _ ?_
            try clear hK9 K9
            refine wp_seq_k fun K65 hK65 => ?_
            refine region_lit ?_
            refine seq_val (.int .i64 (((a : Nat) : Int))) 109 rfl (by kernel_rfl) (by kernel_rfl) ?_
            refine seq_val (.int .i64 (((b : Nat) : Int))) 110 rfl (by kernel_rfl) (by kernel_rfl) ?_
            refine seq_val (.bool false) 111 rfl (by kernel_rfl) (run_eq (u := .bool ((((a : Nat) : Int) != ((b : Nat) : Int)))) (by kernel_rfl) (congrArg Value.bool (by rw [hab]; exact bne_self_eq_false _))) ?_
            refine seq_val (.bool false) 112 rfl (by kernel_rfl) (by kernel_rfl) ?_
            refine seq_val (.int .i64 c) 113 rfl (by kernel_rfl) (by kernel_rfl) ?_
            refine seq_val (.int .i64 (((a : Nat) : Int))) 114 rfl (by kernel_rfl) (by kernel_rfl) ?_
            refine seq_val (.int .i64 (((2 * a : Nat) : Int))) 115 rfl (by kernel_rfl) (run_eq (u := .int .i64 (IntKind.i64.wrap (2 * ((a : Nat) : Int)))) (by kernel_rfl) (congrArg (Value.int .i64) (i64n _ _ (by omega) (by omega)))) ?_
            refine seq_val (.bool true) 116 rfl (by kernel_rfl) (run_eq (u := .bool ((c == ((2 * a : Nat) : Int)))) (by kernel_rfl) (congrArg Value.bool (by rw [hself]; exact beq_self_eq_true _))) ?_
            refine seq_val (.bool true) 117 rfl (by kernel_rfl) (by kernel_rfl) ?_
            refine seq_val (.bool true) 6 rfl (by kernel_rfl) (by kernel_rfl) ?_
            refine seq_nil ?_
            refine hK65 _ _ ?_
            try clear hK65 K65
            refine wp_ret ?_
            repeat (first | with_reducible refine goR1 ?_ | with_reducible refine goR2 ?_)
            exact (show bodyPost _ _ _ .ret _ _ from ret1 (.bool true) rfl (res_tmp (by kernel_rfl)) ⟨rfl, x8⟩)
          · skip
            refine region_lit ?_
            refine seq_val (.int .i64 (((a : Nat) : Int))) 90 rfl (by kernel_rfl) (by kernel_rfl) ?_
            refine seq_val (.int .i64 ((bel (kidR c) N).1)) 91 rfl (by kernel_rfl) (by kernel_rfl) ?_
            refine seq_val (.bool true) 92 rfl (by kernel_rfl) (run_eq (u := .bool (decide (((a : Nat) : Int) ≥ ((bel (kidR c) N).1)))) (by kernel_rfl) (congrArg Value.bool (decide_eq_true (by omega)))) ?_
            refine seq_val (.bool true) 93 rfl (by kernel_rfl) (by kernel_rfl) ?_
            refine seq_val (.int .i64 (((a : Nat) : Int))) 94 rfl (by kernel_rfl) (by kernel_rfl) ?_
            refine seq_val (.int .i64 ((bel (kidR c) N).2)) 95 rfl (by kernel_rfl) (by kernel_rfl) ?_
            refine seq_val (.bool true) 96 rfl (by kernel_rfl) (run_eq (u := .bool (decide (((a : Nat) : Int) ≤ ((bel (kidR c) N).2)))) (by kernel_rfl) (congrArg Value.bool (decide_eq_true (by omega)))) ?_
            refine seq_val (.bool true) 97 rfl (by kernel_rfl) (by kernel_rfl) ?_
            refine seq_val (.bool true) 98 rfl (by kernel_rfl) (by kernel_rfl) ?_
            refine seq_val (.int .i64 (((b : Nat) : Int))) 99 rfl (by kernel_rfl) (by kernel_rfl) ?_
            refine seq_val (.int .i64 ((bel (kidR c) N).1)) 100 rfl (by kernel_rfl) (by kernel_rfl) ?_
            refine seq_val (.bool true) 101 rfl (by kernel_rfl) (run_eq (u := .bool (decide (((b : Nat) : Int) ≥ ((bel (kidR c) N).1)))) (by kernel_rfl) (congrArg Value.bool (decide_eq_true (by omega)))) ?_
            refine seq_val (.bool true) 102 rfl (by kernel_rfl) (by kernel_rfl) ?_
            refine seq_val (.bool true) 103 rfl (by kernel_rfl) (by kernel_rfl) ?_
            refine seq_val (.int .i64 (((b : Nat) : Int))) 104 rfl (by kernel_rfl) (by kernel_rfl) ?_
            refine seq_val (.int .i64 ((bel (kidR c) N).2)) 105 rfl (by kernel_rfl) (by kernel_rfl) ?_
            refine seq_val (.bool false) 106 rfl (by kernel_rfl) (run_eq (u := .bool (decide (((b : Nat) : Int) ≤ ((bel (kidR c) N).2)))) (by kernel_rfl) (congrArg Value.bool (decide_eq_false (by omega)))) ?_
            refine seq_val (.bool false) 107 rfl (by kernel_rfl) (by kernel_rfl) ?_
            refine seq_nil ?_
            refine hK56 _ _ ?_
            try clear hK56 K56
            refine cond_false (by kernel_rfl) ?_
            refine wp_skip ?_
            refine hK47 _ _ ?_
            try clear hK47 K47
            refine region_lit ?_
            refine seq_val (.int .i64 2) 108 rfl (by kernel_rfl) (by kernel_rfl) ?_
            refine seq_val (.int .i64 2) 78 rfl (by kernel_rfl) (by kernel_rfl) ?_
            refine seq_nil ?_
            show Code.rounds _ _ _ 1 _ _
            show Code.wp _ _ (Exit.then (Code.rounds _ _ _ 0) _) _ _
            refine wp_seq_k fun K66 hK66 => ?_
            refine region_lit ?_
            refine seq_val (.bool false) 79 rfl (by kernel_rfl) (by kernel_rfl) ?_
            refine seq_nil ?_
            refine hK66 _ _ ?_
            try clear hK66 K66
            refine wp_seq_k fun K67 hK67 => ?_
            refine cond_false (by kernel_rfl) ?_
            refine wp_exit ?_
            refine hK9 _ _ ?_
            try clear hK9 K9
            refine wp_seq_k fun K68 hK68 => ?_
            refine region_lit ?_
            refine seq_val (.int .i64 (((a : Nat) : Int))) 109 rfl (by kernel_rfl) (by kernel_rfl) ?_
            refine seq_val (.int .i64 (((b : Nat) : Int))) 110 rfl (by kernel_rfl) (by kernel_rfl) ?_
            refine seq_val (.bool false) 111 rfl (by kernel_rfl) (run_eq (u := .bool ((((a : Nat) : Int) != ((b : Nat) : Int)))) (by kernel_rfl) (congrArg Value.bool (by rw [hab]; exact bne_self_eq_false _))) ?_
            refine seq_val (.bool false) 112 rfl (by kernel_rfl) (by kernel_rfl) ?_
            refine seq_val (.int .i64 c) 113 rfl (by kernel_rfl) (by kernel_rfl) ?_
            refine seq_val (.int .i64 (((a : Nat) : Int))) 114 rfl (by kernel_rfl) (by kernel_rfl) ?_
            refine seq_val (.int .i64 (((2 * a : Nat) : Int))) 115 rfl (by kernel_rfl) (run_eq (u := .int .i64 (IntKind.i64.wrap (2 * ((a : Nat) : Int)))) (by kernel_rfl) (congrArg (Value.int .i64) (i64n _ _ (by omega) (by omega)))) ?_
            refine seq_val (.bool true) 116 rfl (by kernel_rfl) (run_eq (u := .bool ((c == ((2 * a : Nat) : Int)))) (by kernel_rfl) (congrArg Value.bool (by rw [hself]; exact beq_self_eq_true _))) ?_
            refine seq_val (.bool true) 117 rfl (by kernel_rfl) (by kernel_rfl) ?_
            refine seq_val (.bool true) 6 rfl (by kernel_rfl) (by kernel_rfl) ?_
            refine seq_nil ?_
            refine hK68 _ _ ?_
            try clear hK68 K68
            refine wp_ret ?_
            repeat (first | with_reducible refine goR1 ?_ | with_reducible refine goR2 ?_)
            exact (show bodyPost _ _ _ .ret _ _ from ret1 (.bool true) rfl (res_tmp (by kernel_rfl)) ⟨rfl, x8⟩)
      · skip
        refine region_lit ?_
        refine seq_val (.int .i64 (((a : Nat) : Int))) 90 rfl (by kernel_rfl) (by kernel_rfl) ?_
        refine seq_val (.int .i64 ((bel (kidL c) N).1)) 91 rfl (by kernel_rfl) (by kernel_rfl) ?_
        refine seq_val (.bool true) 92 rfl (by kernel_rfl) (run_eq (u := .bool (decide (((a : Nat) : Int) ≥ ((bel (kidL c) N).1)))) (by kernel_rfl) (congrArg Value.bool (decide_eq_true (by omega)))) ?_
        refine seq_val (.bool true) 93 rfl (by kernel_rfl) (by kernel_rfl) ?_
        refine seq_val (.int .i64 (((a : Nat) : Int))) 94 rfl (by kernel_rfl) (by kernel_rfl) ?_
        refine seq_val (.int .i64 ((bel (kidL c) N).2)) 95 rfl (by kernel_rfl) (by kernel_rfl) ?_
        refine seq_val (.bool false) 96 rfl (by kernel_rfl) (run_eq (u := .bool (decide (((a : Nat) : Int) ≤ ((bel (kidL c) N).2)))) (by kernel_rfl) (congrArg Value.bool (decide_eq_false (by omega)))) ?_
        refine seq_val (.bool false) 97 rfl (by kernel_rfl) (by kernel_rfl) ?_
        refine seq_val (.bool false) 98 rfl (by kernel_rfl) (by kernel_rfl) ?_
        refine seq_skip 99 rfl (by kernel_rfl) ?_
        refine seq_skip 100 rfl (by kernel_rfl) ?_
        refine seq_skip 101 rfl (by kernel_rfl) ?_
        refine seq_val (.bool false) 102 rfl (by kernel_rfl) (by kernel_rfl) ?_
        refine seq_val (.bool false) 103 rfl (by kernel_rfl) (by kernel_rfl) ?_
        refine seq_skip 104 rfl (by kernel_rfl) ?_
        refine seq_skip 105 rfl (by kernel_rfl) ?_
        refine seq_skip 106 rfl (by kernel_rfl) ?_
        refine seq_val (.bool false) 107 rfl (by kernel_rfl) (by kernel_rfl) ?_
        refine seq_nil ?_
        refine hK44 _ _ ?_
        try clear hK44 K44
        refine cond_false (by kernel_rfl) ?_
        refine wp_skip ?_
        refine hK14 _ _ ?_
        try clear hK14 K14
        refine region_lit ?_
        refine seq_val (.int .i64 1) 108 rfl (by kernel_rfl) (by kernel_rfl) ?_
        refine seq_val (.int .i64 1) 78 rfl (by kernel_rfl) (by kernel_rfl) ?_
        refine seq_nil ?_
        show Code.rounds _ _ _ 2 _ _
        show Code.wp _ _ (Exit.then (Code.rounds _ _ _ 1) _) _ _
        refine wp_seq_k fun K69 hK69 => ?_
        refine region_lit ?_
        refine seq_val (.bool true) 79 rfl (by kernel_rfl) (by kernel_rfl) ?_
        refine seq_nil ?_
        refine hK69 _ _ ?_
        try clear hK69 K69
        refine wp_seq_k fun K70 hK70 => ?_
        refine cond_true (by kernel_rfl) ?_
        refine wp_skip ?_
        refine hK70 _ _ ?_
        try clear hK70 K70
        refine wp_seq_k fun K71 hK71 => ?_
        refine wp_block ?_
        refine wp_seq_k fun K72 hK72 => ?_
        refine region_lit ?_
        refine seq_val (.pointer (some ⟨g11, 1, none⟩)) 80 rfl (by kernel_rfl) (run_indexS0 57 _ _ .i64 (1) g11 2 2 3 rfl (by kernel_rfl) (by kernel_rfl) (by kernel_rfl) (by kernel_rfl) (by decide)) ?_
        have r11_7 := (row_ext r11_6 e7)
        refine seq_val (.int .i64 (kidR c)) 81 rfl (by kernel_rfl) (run_loadC1 3 _ g11 1 3 _ (.int .i64 (kidR c)) _ r11_7 rfl (by kernel_rfl) (by kernel_rfl) (by kernel_rfl)) ?_
        refine seq_val (.int .i64 (kidR c)) 14 rfl (by kernel_rfl) (by kernel_rfl) ?_
        refine seq_nil ?_
        refine hK72 _ _ ?_
        try clear hK72 K72
        refine wp_seq_k fun K73 hK73 => ?_
        refine wp_seq_k fun K74 hK74 => ?_
        refine region_lit ?_
        refine seq_val (.int .i64 (kidR c)) 82 rfl (by kernel_rfl) (by kernel_rfl) ?_
        refine seq_val (.bool (decide ((kidR c) < 0))) 83 rfl (by kernel_rfl) (by kernel_rfl) ?_
        refine seq_nil ?_
        refine hK74 _ _ ?_
        try clear hK74 K74
        refine cond_split (t := decide ((kidR c) < 0)) (by kernel_rfl) (fun c75 => ?_) (fun c75 => ?_)
        · skip
          have hzR : kidR c < 0 := of_decide_eq_true c75
          refine wp_exit ?_
          refine hK71 _ _ ?_
          try clear hK71 K71
          refine region_lit ?_
          refine seq_val (.int .i64 2) 108 rfl (by kernel_rfl) (by kernel_rfl) ?_
          refine seq_val (.int .i64 2) 78 rfl (by kernel_rfl) (by kernel_rfl) ?_
          refine seq_nil ?_
          show Code.rounds _ _ _ 1 _ _
          show Code.wp _ _ (Exit.then (Code.rounds _ _ _ 0) _) _ _
          refine wp_seq_k fun K76 hK76 => ?_
          refine region_lit ?_
          refine seq_val (.bool false) 79 rfl (by kernel_rfl) (by kernel_rfl) ?_
          refine seq_nil ?_
          refine hK76 _ _ ?_
          try clear hK76 K76
          refine wp_seq_k fun K77 hK77 => ?_
          refine cond_false (by kernel_rfl) ?_
          refine wp_exit ?_
          refine hK9 _ _ ?_
          try clear hK9 K9
          refine wp_seq_k fun K78 hK78 => ?_
          refine region_lit ?_
          refine seq_val (.int .i64 (((a : Nat) : Int))) 109 rfl (by kernel_rfl) (by kernel_rfl) ?_
          refine seq_val (.int .i64 (((b : Nat) : Int))) 110 rfl (by kernel_rfl) (by kernel_rfl) ?_
          refine seq_val (.bool false) 111 rfl (by kernel_rfl) (run_eq (u := .bool ((((a : Nat) : Int) != ((b : Nat) : Int)))) (by kernel_rfl) (congrArg Value.bool (by rw [hab]; exact bne_self_eq_false _))) ?_
          refine seq_val (.bool false) 112 rfl (by kernel_rfl) (by kernel_rfl) ?_
          refine seq_val (.int .i64 c) 113 rfl (by kernel_rfl) (by kernel_rfl) ?_
          refine seq_val (.int .i64 (((a : Nat) : Int))) 114 rfl (by kernel_rfl) (by kernel_rfl) ?_
          refine seq_val (.int .i64 (((2 * a : Nat) : Int))) 115 rfl (by kernel_rfl) (run_eq (u := .int .i64 (IntKind.i64.wrap (2 * ((a : Nat) : Int)))) (by kernel_rfl) (congrArg (Value.int .i64) (i64n _ _ (by omega) (by omega)))) ?_
          refine seq_val (.bool true) 116 rfl (by kernel_rfl) (run_eq (u := .bool ((c == ((2 * a : Nat) : Int)))) (by kernel_rfl) (congrArg Value.bool (by rw [hself]; exact beq_self_eq_true _))) ?_
          refine seq_val (.bool true) 117 rfl (by kernel_rfl) (by kernel_rfl) ?_
          refine seq_val (.bool true) 6 rfl (by kernel_rfl) (by kernel_rfl) ?_
          refine seq_nil ?_
          refine hK78 _ _ ?_
          try clear hK78 K78
          refine wp_ret ?_
          repeat (first | with_reducible refine goR1 ?_ | with_reducible refine goR2 ?_)
          exact (show bodyPost _ _ _ .ret _ _ from ret1 (.bool true) rfl (res_tmp (by kernel_rfl)) ⟨rfl, x7⟩)
        · skip
          have hzR : ¬ kidR c < 0 := of_decide_eq_false c75
          refine wp_skip ?_
          refine hK73 _ _ ?_
          try clear hK73 K73
          refine wp_seq_k fun K79 hK79 => ?_
          refine region_lit ?_
          refine seq_val (.int .i64 (kidR c)) 85 rfl (by kernel_rfl) (by kernel_rfl) ?_
          refine seq_val (.int .i64 (N)) 86 rfl (by kernel_rfl) (by kernel_rfl) ?_
          refine seq_call (.tuple #[.int .i64 (bel (kidR c) N).1, .int .i64 (bel (kidR c) N).2]) 33 #[.int .i64 (kidR c), .int .i64 (N)] 87 rfl (by kernel_rfl) (by kernel_rfl) (belowR (kidR c) N (by unfold i64; omega) _ (TabAt.ext hT x7)) fun W8 e8 => ?_
          have x8 : Ext w W8 := Ext.tr x7 e8
          refine seq_val (.tuple #[.int .i64 (bel (kidR c) N).1, .int .i64 (bel (kidR c) N).2]) 84 rfl (by kernel_rfl) (by kernel_rfl) ?_
          refine seq_val (.int .i64 ((bel (kidR c) N).1)) 88 rfl (by kernel_rfl) (by kernel_rfl) ?_
          refine seq_val (.int .i64 ((bel (kidR c) N).2)) 89 rfl (by kernel_rfl) (by kernel_rfl) ?_
          refine seq_val (.int .i64 ((bel (kidR c) N).1)) 15 rfl (by kernel_rfl) (by kernel_rfl) ?_
          refine seq_val (.int .i64 ((bel (kidR c) N).2)) 16 rfl (by kernel_rfl) (by kernel_rfl) ?_
          refine seq_nil ?_
          refine hK79 _ _ ?_
          try clear hK79 K79
          refine wp_seq_k fun K80 hK80 => ?_
          rcases out4 (hoR.resolve_left hzR) with ho4 | ho4 | ho4 | ho4
          · skip
            refine region_lit ?_
            refine seq_val (.int .i64 (((a : Nat) : Int))) 90 rfl (by kernel_rfl) (by kernel_rfl) ?_
            refine seq_val (.int .i64 ((bel (kidR c) N).1)) 91 rfl (by kernel_rfl) (by kernel_rfl) ?_
            refine seq_val (.bool false) 92 rfl (by kernel_rfl) (run_eq (u := .bool (decide (((a : Nat) : Int) ≥ ((bel (kidR c) N).1)))) (by kernel_rfl) (congrArg Value.bool (decide_eq_false (by omega)))) ?_
            refine seq_val (.bool false) 93 rfl (by kernel_rfl) (by kernel_rfl) ?_
            refine seq_skip 94 rfl (by kernel_rfl) ?_
            refine seq_skip 95 rfl (by kernel_rfl) ?_
            refine seq_skip 96 rfl (by kernel_rfl) ?_
            refine seq_val (.bool false) 97 rfl (by kernel_rfl) (by kernel_rfl) ?_
            refine seq_val (.bool false) 98 rfl (by kernel_rfl) (by kernel_rfl) ?_
            refine seq_skip 99 rfl (by kernel_rfl) ?_
            refine seq_skip 100 rfl (by kernel_rfl) ?_
            refine seq_skip 101 rfl (by kernel_rfl) ?_
            refine seq_val (.bool false) 102 rfl (by kernel_rfl) (by kernel_rfl) ?_
            refine seq_val (.bool false) 103 rfl (by kernel_rfl) (by kernel_rfl) ?_
            refine seq_skip 104 rfl (by kernel_rfl) ?_
            refine seq_skip 105 rfl (by kernel_rfl) ?_
            refine seq_skip 106 rfl (by kernel_rfl) ?_
            refine seq_val (.bool false) 107 rfl (by kernel_rfl) (by kernel_rfl) ?_
            refine seq_nil ?_
            refine hK80 _ _ ?_
            try clear hK80 K80
            refine cond_false (by kernel_rfl) ?_
            refine wp_skip ?_
            refine hK71 _ _ ?_
            try clear hK71 K71
            refine region_lit ?_
            refine seq_val (.int .i64 2) 108 rfl (by kernel_rfl) (by kernel_rfl) ?_
            refine seq_val (.int .i64 2) 78 rfl (by kernel_rfl) (by kernel_rfl) ?_
            refine seq_nil ?_
            show Code.rounds _ _ _ 1 _ _
            show Code.wp _ _ (Exit.then (Code.rounds _ _ _ 0) _) _ _
            refine wp_seq_k fun K81 hK81 => ?_
            refine region_lit ?_
            refine seq_val (.bool false) 79 rfl (by kernel_rfl) (by kernel_rfl) ?_
            refine seq_nil ?_
            refine hK81 _ _ ?_
            try clear hK81 K81
            refine wp_seq_k fun K82 hK82 => ?_
            refine cond_false (by kernel_rfl) ?_
            refine wp_exit ?_
            refine hK9 _ _ ?_
            try clear hK9 K9
            refine wp_seq_k fun K83 hK83 => ?_
            refine region_lit ?_
            refine seq_val (.int .i64 (((a : Nat) : Int))) 109 rfl (by kernel_rfl) (by kernel_rfl) ?_
            refine seq_val (.int .i64 (((b : Nat) : Int))) 110 rfl (by kernel_rfl) (by kernel_rfl) ?_
            refine seq_val (.bool false) 111 rfl (by kernel_rfl) (run_eq (u := .bool ((((a : Nat) : Int) != ((b : Nat) : Int)))) (by kernel_rfl) (congrArg Value.bool (by rw [hab]; exact bne_self_eq_false _))) ?_
            refine seq_val (.bool false) 112 rfl (by kernel_rfl) (by kernel_rfl) ?_
            refine seq_val (.int .i64 c) 113 rfl (by kernel_rfl) (by kernel_rfl) ?_
            refine seq_val (.int .i64 (((a : Nat) : Int))) 114 rfl (by kernel_rfl) (by kernel_rfl) ?_
            refine seq_val (.int .i64 (((2 * a : Nat) : Int))) 115 rfl (by kernel_rfl) (run_eq (u := .int .i64 (IntKind.i64.wrap (2 * ((a : Nat) : Int)))) (by kernel_rfl) (congrArg (Value.int .i64) (i64n _ _ (by omega) (by omega)))) ?_
            refine seq_val (.bool true) 116 rfl (by kernel_rfl) (run_eq (u := .bool ((c == ((2 * a : Nat) : Int)))) (by kernel_rfl) (congrArg Value.bool (by rw [hself]; exact beq_self_eq_true _))) ?_
            refine seq_val (.bool true) 117 rfl (by kernel_rfl) (by kernel_rfl) ?_
            refine seq_val (.bool true) 6 rfl (by kernel_rfl) (by kernel_rfl) ?_
            refine seq_nil ?_
            refine hK83 _ _ ?_
            try clear hK83 K83
            refine wp_ret ?_
            repeat (first | with_reducible refine goR1 ?_ | with_reducible refine goR2 ?_)
            exact (show bodyPost _ _ _ .ret _ _ from ret1 (.bool true) rfl (res_tmp (by kernel_rfl)) ⟨rfl, x8⟩)
          · skip
            refine region_lit ?_
            refine seq_val (.int .i64 (((a : Nat) : Int))) 90 rfl (by kernel_rfl) (by kernel_rfl) ?_
            refine seq_val (.int .i64 ((bel (kidR c) N).1)) 91 rfl (by kernel_rfl) (by kernel_rfl) ?_
            refine seq_val (.bool true) 92 rfl (by kernel_rfl) (run_eq (u := .bool (decide (((a : Nat) : Int) ≥ ((bel (kidR c) N).1)))) (by kernel_rfl) (congrArg Value.bool (decide_eq_true (by omega)))) ?_
            refine seq_val (.bool true) 93 rfl (by kernel_rfl) (by kernel_rfl) ?_
            refine seq_val (.int .i64 (((a : Nat) : Int))) 94 rfl (by kernel_rfl) (by kernel_rfl) ?_
            refine seq_val (.int .i64 ((bel (kidR c) N).2)) 95 rfl (by kernel_rfl) (by kernel_rfl) ?_
            refine seq_val (.bool false) 96 rfl (by kernel_rfl) (run_eq (u := .bool (decide (((a : Nat) : Int) ≤ ((bel (kidR c) N).2)))) (by kernel_rfl) (congrArg Value.bool (decide_eq_false (by omega)))) ?_
            refine seq_val (.bool false) 97 rfl (by kernel_rfl) (by kernel_rfl) ?_
            refine seq_val (.bool false) 98 rfl (by kernel_rfl) (by kernel_rfl) ?_
            refine seq_skip 99 rfl (by kernel_rfl) ?_
            refine seq_skip 100 rfl (by kernel_rfl) ?_
            refine seq_skip 101 rfl (by kernel_rfl) ?_
            refine seq_val (.bool false) 102 rfl (by kernel_rfl) (by kernel_rfl) ?_
            refine seq_val (.bool false) 103 rfl (by kernel_rfl) (by kernel_rfl) ?_
            refine seq_skip 104 rfl (by kernel_rfl) ?_
            refine seq_skip 105 rfl (by kernel_rfl) ?_
            refine seq_skip 106 rfl (by kernel_rfl) ?_
            refine seq_val (.bool false) 107 rfl (by kernel_rfl) (by kernel_rfl) ?_
            refine seq_nil ?_
            refine hK80 _ _ ?_
            try clear hK80 K80
            refine cond_false (by kernel_rfl) ?_
            refine wp_skip ?_
            refine hK71 _ _ ?_
            try clear hK71 K71
            refine region_lit ?_
            refine seq_val (.int .i64 2) 108 rfl (by kernel_rfl) (by kernel_rfl) ?_
            refine seq_val (.int .i64 2) 78 rfl (by kernel_rfl) (by kernel_rfl) ?_
            refine seq_nil ?_
            show Code.rounds _ _ _ 1 _ _
            show Code.wp _ _ (Exit.then (Code.rounds _ _ _ 0) _) _ _
            refine wp_seq_k fun K84 hK84 => ?_
            refine region_lit ?_
            refine seq_val (.bool false) 79 rfl (by kernel_rfl) (by kernel_rfl) ?_
            refine seq_nil ?_
            refine hK84 _ _ ?_
            try clear hK84 K84
            refine wp_seq_k fun K85 hK85 => ?_
            refine cond_false (by kernel_rfl) ?_
            refine wp_exit ?_
            refine hK9 _ _ ?_
            try clear hK9 K9
            refine wp_seq_k fun K86 hK86 => ?_
            refine region_lit ?_
            refine seq_val (.int .i64 (((a : Nat) : Int))) 109 rfl (by kernel_rfl) (by kernel_rfl) ?_
            refine seq_val (.int .i64 (((b : Nat) : Int))) 110 rfl (by kernel_rfl) (by kernel_rfl) ?_
            refine seq_val (.bool false) 111 rfl (by kernel_rfl) (run_eq (u := .bool ((((a : Nat) : Int) != ((b : Nat) : Int)))) (by kernel_rfl) (congrArg Value.bool (by rw [hab]; exact bne_self_eq_false _))) ?_
            refine seq_val (.bool false) 112 rfl (by kernel_rfl) (by kernel_rfl) ?_
            refine seq_val (.int .i64 c) 113 rfl (by kernel_rfl) (by kernel_rfl) ?_
            refine seq_val (.int .i64 (((a : Nat) : Int))) 114 rfl (by kernel_rfl) (by kernel_rfl) ?_
            refine seq_val (.int .i64 (((2 * a : Nat) : Int))) 115 rfl (by kernel_rfl) (run_eq (u := .int .i64 (IntKind.i64.wrap (2 * ((a : Nat) : Int)))) (by kernel_rfl) (congrArg (Value.int .i64) (i64n _ _ (by omega) (by omega)))) ?_
            refine seq_val (.bool true) 116 rfl (by kernel_rfl) (run_eq (u := .bool ((c == ((2 * a : Nat) : Int)))) (by kernel_rfl) (congrArg Value.bool (by rw [hself]; exact beq_self_eq_true _))) ?_
            refine seq_val (.bool true) 117 rfl (by kernel_rfl) (by kernel_rfl) ?_
            refine seq_val (.bool true) 6 rfl (by kernel_rfl) (by kernel_rfl) ?_
            refine seq_nil ?_
            refine hK86 _ _ ?_
            try clear hK86 K86
            refine wp_ret ?_
            repeat (first | with_reducible refine goR1 ?_ | with_reducible refine goR2 ?_)
            exact (show bodyPost _ _ _ .ret _ _ from ret1 (.bool true) rfl (res_tmp (by kernel_rfl)) ⟨rfl, x8⟩)
          · skip
            refine region_lit ?_
            refine seq_val (.int .i64 (((a : Nat) : Int))) 90 rfl (by kernel_rfl) (by kernel_rfl) ?_
            refine seq_val (.int .i64 ((bel (kidR c) N).1)) 91 rfl (by kernel_rfl) (by kernel_rfl) ?_
            refine seq_val (.bool true) 92 rfl (by kernel_rfl) (run_eq (u := .bool (decide (((a : Nat) : Int) ≥ ((bel (kidR c) N).1)))) (by kernel_rfl) (congrArg Value.bool (decide_eq_true (by omega)))) ?_
            refine seq_val (.bool true) 93 rfl (by kernel_rfl) (by kernel_rfl) ?_
            refine seq_val (.int .i64 (((a : Nat) : Int))) 94 rfl (by kernel_rfl) (by kernel_rfl) ?_
            refine seq_val (.int .i64 ((bel (kidR c) N).2)) 95 rfl (by kernel_rfl) (by kernel_rfl) ?_
            refine seq_val (.bool true) 96 rfl (by kernel_rfl) (run_eq (u := .bool (decide (((a : Nat) : Int) ≤ ((bel (kidR c) N).2)))) (by kernel_rfl) (congrArg Value.bool (decide_eq_true (by omega)))) ?_
            refine seq_val (.bool true) 97 rfl (by kernel_rfl) (by kernel_rfl) ?_
            refine seq_val (.bool true) 98 rfl (by kernel_rfl) (by kernel_rfl) ?_
            refine seq_val (.int .i64 (((b : Nat) : Int))) 99 rfl (by kernel_rfl) (by kernel_rfl) ?_
            refine seq_val (.int .i64 ((bel (kidR c) N).1)) 100 rfl (by kernel_rfl) (by kernel_rfl) ?_
            refine seq_val (.bool false) 101 rfl (by kernel_rfl) (run_eq (u := .bool (decide (((b : Nat) : Int) ≥ ((bel (kidR c) N).1)))) (by kernel_rfl) (congrArg Value.bool (decide_eq_false (by omega)))) ?_
            refine seq_val (.bool false) 102 rfl (by kernel_rfl) (by kernel_rfl) ?_
            refine seq_val (.bool false) 103 rfl (by kernel_rfl) (by kernel_rfl) ?_
            refine seq_skip 104 rfl (by kernel_rfl) ?_
            refine seq_skip 105 rfl (by kernel_rfl) ?_
            refine seq_skip 106 rfl (by kernel_rfl) ?_
            refine seq_val (.bool false) 107 rfl (by kernel_rfl) (by kernel_rfl) ?_
            refine seq_nil ?_
            refine hK80 _ _ ?_
            try clear hK80 K80
            refine cond_false (by kernel_rfl) ?_
            refine wp_skip ?_
            refine hK71 _ _ ?_
            try clear hK71 K71
            refine region_lit ?_
            refine seq_val (.int .i64 2) 108 rfl (by kernel_rfl) (by kernel_rfl) ?_
            refine seq_val (.int .i64 2) 78 rfl (by kernel_rfl) (by kernel_rfl) ?_
            refine seq_nil ?_
            show Code.rounds _ _ _ 1 _ _
            show Code.wp _ _ (Exit.then (Code.rounds _ _ _ 0) _) _ _
            refine wp_seq_k fun K87 hK87 => ?_
            refine region_lit ?_
            refine seq_val (.bool false) 79 rfl (by kernel_rfl) (by kernel_rfl) ?_
            refine seq_nil ?_
            refine hK87 _ _ ?_
            try clear hK87 K87
            refine wp_seq_k fun K88 hK88 => ?_
            refine cond_false (by kernel_rfl) ?_
            refine wp_exit ?_
            refine hK9 _ _ ?_
            try clear hK9 K9
            refine wp_seq_k fun K89 hK89 => ?_
            refine region_lit ?_
            refine seq_val (.int .i64 (((a : Nat) : Int))) 109 rfl (by kernel_rfl) (by kernel_rfl) ?_
            refine seq_val (.int .i64 (((b : Nat) : Int))) 110 rfl (by kernel_rfl) (by kernel_rfl) ?_
            refine seq_val (.bool false) 111 rfl (by kernel_rfl) (run_eq (u := .bool ((((a : Nat) : Int) != ((b : Nat) : Int)))) (by kernel_rfl) (congrArg Value.bool (by rw [hab]; exact bne_self_eq_false _))) ?_
            refine seq_val (.bool false) 112 rfl (by kernel_rfl) (by kernel_rfl) ?_
            refine seq_val (.int .i64 c) 113 rfl (by kernel_rfl) (by kernel_rfl) ?_
            refine seq_val (.int .i64 (((a : Nat) : Int))) 114 rfl (by kernel_rfl) (by kernel_rfl) ?_
            refine seq_val (.int .i64 (((2 * a : Nat) : Int))) 115 rfl (by kernel_rfl) (run_eq (u := .int .i64 (IntKind.i64.wrap (2 * ((a : Nat) : Int)))) (by kernel_rfl) (congrArg (Value.int .i64) (i64n _ _ (by omega) (by omega)))) ?_
            refine seq_val (.bool true) 116 rfl (by kernel_rfl) (run_eq (u := .bool ((c == ((2 * a : Nat) : Int)))) (by kernel_rfl) (congrArg Value.bool (by rw [hself]; exact beq_self_eq_true _))) ?_
            refine seq_val (.bool true) 117 rfl (by kernel_rfl) (by kernel_rfl) ?_
            refine seq_val (.bool true) 6 rfl (by kernel_rfl) (by kernel_rfl) ?_
            refine seq_nil ?_
            refine hK89 _ _ ?_
            try clear hK89 K89
            refine wp_ret ?_
            repeat (first | with_reducible refine goR1 ?_ | with_reducible refine goR2 ?_)
            exact (show bodyPost _ _ _ .ret _ _ from ret1 (.bool true) rfl (res_tmp (by kernel_rfl)) ⟨rfl, x8⟩)
          · skip
            refine region_lit ?_
            refine seq_val (.int .i64 (((a : Nat) : Int))) 90 rfl (by kernel_rfl) (by kernel_rfl) ?_
            refine seq_val (.int .i64 ((bel (kidR c) N).1)) 91 rfl (by kernel_rfl) (by kernel_rfl) ?_
            refine seq_val (.bool true) 92 rfl (by kernel_rfl) (run_eq (u := .bool (decide (((a : Nat) : Int) ≥ ((bel (kidR c) N).1)))) (by kernel_rfl) (congrArg Value.bool (decide_eq_true (by omega)))) ?_
            refine seq_val (.bool true) 93 rfl (by kernel_rfl) (by kernel_rfl) ?_
            refine seq_val (.int .i64 (((a : Nat) : Int))) 94 rfl (by kernel_rfl) (by kernel_rfl) ?_
            refine seq_val (.int .i64 ((bel (kidR c) N).2)) 95 rfl (by kernel_rfl) (by kernel_rfl) ?_
            refine seq_val (.bool true) 96 rfl (by kernel_rfl) (run_eq (u := .bool (decide (((a : Nat) : Int) ≤ ((bel (kidR c) N).2)))) (by kernel_rfl) (congrArg Value.bool (decide_eq_true (by omega)))) ?_
            refine seq_val (.bool true) 97 rfl (by kernel_rfl) (by kernel_rfl) ?_
            refine seq_val (.bool true) 98 rfl (by kernel_rfl) (by kernel_rfl) ?_
            refine seq_val (.int .i64 (((b : Nat) : Int))) 99 rfl (by kernel_rfl) (by kernel_rfl) ?_
            refine seq_val (.int .i64 ((bel (kidR c) N).1)) 100 rfl (by kernel_rfl) (by kernel_rfl) ?_
            refine seq_val (.bool true) 101 rfl (by kernel_rfl) (run_eq (u := .bool (decide (((b : Nat) : Int) ≥ ((bel (kidR c) N).1)))) (by kernel_rfl) (congrArg Value.bool (decide_eq_true (by omega)))) ?_
            refine seq_val (.bool true) 102 rfl (by kernel_rfl) (by kernel_rfl) ?_
            refine seq_val (.bool true) 103 rfl (by kernel_rfl) (by kernel_rfl) ?_
            refine seq_val (.int .i64 (((b : Nat) : Int))) 104 rfl (by kernel_rfl) (by kernel_rfl) ?_
            refine seq_val (.int .i64 ((bel (kidR c) N).2)) 105 rfl (by kernel_rfl) (by kernel_rfl) ?_
            refine seq_val (.bool false) 106 rfl (by kernel_rfl) (run_eq (u := .bool (decide (((b : Nat) : Int) ≤ ((bel (kidR c) N).2)))) (by kernel_rfl) (congrArg Value.bool (decide_eq_false (by omega)))) ?_
            refine seq_val (.bool false) 107 rfl (by kernel_rfl) (by kernel_rfl) ?_
            refine seq_nil ?_
            refine hK80 _ _ ?_
            try clear hK80 K80
            refine cond_false (by kernel_rfl) ?_
            refine wp_skip ?_
            refine hK71 _ _ ?_
            try clear hK71 K71
            refine region_lit ?_
            refine seq_val (.int .i64 2) 108 rfl (by kernel_rfl) (by kernel_rfl) ?_
            refine seq_val (.int .i64 2) 78 rfl (by kernel_rfl) (by kernel_rfl) ?_
            refine seq_nil ?_
            show Code.rounds _ _ _ 1 _ _
            show Code.wp _ _ (Exit.then (Code.rounds _ _ _ 0) _) _ _
            refine wp_seq_k fun K90 hK90 => ?_
            refine region_lit ?_
            refine seq_val (.bool false) 79 rfl (by kernel_rfl) (by kernel_rfl) ?_
            refine seq_nil ?_
            refine hK90 _ _ ?_
            try clear hK90 K90
            refine wp_seq_k fun K91 hK91 => ?_
            refine cond_false (by kernel_rfl) ?_
            refine wp_exit ?_
            refine hK9 _ _ ?_
            try clear hK9 K9
            refine wp_seq_k fun K92 hK92 => ?_
            refine region_lit ?_
            refine seq_val (.int .i64 (((a : Nat) : Int))) 109 rfl (by kernel_rfl) (by kernel_rfl) ?_
            refine seq_val (.int .i64 (((b : Nat) : Int))) 110 rfl (by kernel_rfl) (by kernel_rfl) ?_
            refine seq_val (.bool false) 111 rfl (by kernel_rfl) (run_eq (u := .bool ((((a : Nat) : Int) != ((b : Nat) : Int)))) (by kernel_rfl) (congrArg Value.bool (by rw [hab]; exact bne_self_eq_false _))) ?_
            refine seq_val (.bool false) 112 rfl (by kernel_rfl) (by kernel_rfl) ?_
            refine seq_val (.int .i64 c) 113 rfl (by kernel_rfl) (by kernel_rfl) ?_
            refine seq_val (.int .i64 (((a : Nat) : Int))) 114 rfl (by kernel_rfl) (by kernel_rfl) ?_
            refine seq_val (.int .i64 (((2 * a : Nat) : Int))) 115 rfl (by kernel_rfl) (run_eq (u := .int .i64 (IntKind.i64.wrap (2 * ((a : Nat) : Int)))) (by kernel_rfl) (congrArg (Value.int .i64) (i64n _ _ (by omega) (by omega)))) ?_
            refine seq_val (.bool true) 116 rfl (by kernel_rfl) (run_eq (u := .bool ((c == ((2 * a : Nat) : Int)))) (by kernel_rfl) (congrArg Value.bool (by rw [hself]; exact beq_self_eq_true _))) ?_
            refine seq_val (.bool true) 117 rfl (by kernel_rfl) (by kernel_rfl) ?_
            refine seq_val (.bool true) 6 rfl (by kernel_rfl) (by kernel_rfl) ?_
            refine seq_nil ?_
            refine hK92 _ _ ?_
            try clear hK92 K92
            refine wp_ret ?_
            repeat (first | with_reducible refine goR1 ?_ | with_reducible refine goR2 ?_)
            exact (show bodyPost _ _ _ .ret _ _ from ret1 (.bool true) rfl (res_tmp (by kernel_rfl)) ⟨rfl, x8⟩)
      · skip
        refine region_lit ?_
        refine seq_val (.int .i64 (((a : Nat) : Int))) 90 rfl (by kernel_rfl) (by kernel_rfl) ?_
        refine seq_val (.int .i64 ((bel (kidL c) N).1)) 91 rfl (by kernel_rfl) (by kernel_rfl) ?_
        refine seq_val (.bool true) 92 rfl (by kernel_rfl) (run_eq (u := .bool (decide (((a : Nat) : Int) ≥ ((bel (kidL c) N).1)))) (by kernel_rfl) (congrArg Value.bool (decide_eq_true (by omega)))) ?_
        refine seq_val (.bool true) 93 rfl (by kernel_rfl) (by kernel_rfl) ?_
        refine seq_val (.int .i64 (((a : Nat) : Int))) 94 rfl (by kernel_rfl) (by kernel_rfl) ?_
        refine seq_val (.int .i64 ((bel (kidL c) N).2)) 95 rfl (by kernel_rfl) (by kernel_rfl) ?_
        refine seq_val (.bool true) 96 rfl (by kernel_rfl) (run_eq (u := .bool (decide (((a : Nat) : Int) ≤ ((bel (kidL c) N).2)))) (by kernel_rfl) (congrArg Value.bool (decide_eq_true (by omega)))) ?_
        refine seq_val (.bool true) 97 rfl (by kernel_rfl) (by kernel_rfl) ?_
        refine seq_val (.bool true) 98 rfl (by kernel_rfl) (by kernel_rfl) ?_
        refine seq_val (.int .i64 (((b : Nat) : Int))) 99 rfl (by kernel_rfl) (by kernel_rfl) ?_
        refine seq_val (.int .i64 ((bel (kidL c) N).1)) 100 rfl (by kernel_rfl) (by kernel_rfl) ?_
        refine seq_val (.bool false) 101 rfl (by kernel_rfl) (run_eq (u := .bool (decide (((b : Nat) : Int) ≥ ((bel (kidL c) N).1)))) (by kernel_rfl) (congrArg Value.bool (decide_eq_false (by omega)))) ?_
        refine seq_val (.bool false) 102 rfl (by kernel_rfl) (by kernel_rfl) ?_
        refine seq_val (.bool false) 103 rfl (by kernel_rfl) (by kernel_rfl) ?_
        refine seq_skip 104 rfl (by kernel_rfl) ?_
        refine seq_skip 105 rfl (by kernel_rfl) ?_
        refine seq_skip 106 rfl (by kernel_rfl) ?_
        refine seq_val (.bool false) 107 rfl (by kernel_rfl) (by kernel_rfl) ?_
        refine seq_nil ?_
        refine hK44 _ _ ?_
        try clear hK44 K44
        refine cond_false (by kernel_rfl) ?_
        refine wp_skip ?_
        refine hK14 _ _ ?_
        try clear hK14 K14
        refine region_lit ?_
        refine seq_val (.int .i64 1) 108 rfl (by kernel_rfl) (by kernel_rfl) ?_
        refine seq_val (.int .i64 1) 78 rfl (by kernel_rfl) (by kernel_rfl) ?_
        refine seq_nil ?_
        show Code.rounds _ _ _ 2 _ _
        show Code.wp _ _ (Exit.then (Code.rounds _ _ _ 1) _) _ _
        refine wp_seq_k fun K93 hK93 => ?_
        refine region_lit ?_
        refine seq_val (.bool true) 79 rfl (by kernel_rfl) (by kernel_rfl) ?_
        refine seq_nil ?_
        refine hK93 _ _ ?_
        try clear hK93 K93
        refine wp_seq_k fun K94 hK94 => ?_
        refine cond_true (by kernel_rfl) ?_
        refine wp_skip ?_
        refine hK94 _ _ ?_
        try clear hK94 K94
        refine wp_seq_k fun K95 hK95 => ?_
        refine wp_block ?_
        refine wp_seq_k fun K96 hK96 => ?_
        refine region_lit ?_
        refine seq_val (.pointer (some ⟨g11, 1, none⟩)) 80 rfl (by kernel_rfl) (run_indexS0 57 _ _ .i64 (1) g11 2 2 3 rfl (by kernel_rfl) (by kernel_rfl) (by kernel_rfl) (by kernel_rfl) (by decide)) ?_
        have r11_7 := (row_ext r11_6 e7)
        refine seq_val (.int .i64 (kidR c)) 81 rfl (by kernel_rfl) (run_loadC1 3 _ g11 1 3 _ (.int .i64 (kidR c)) _ r11_7 rfl (by kernel_rfl) (by kernel_rfl) (by kernel_rfl)) ?_
        refine seq_val (.int .i64 (kidR c)) 14 rfl (by kernel_rfl) (by kernel_rfl) ?_
        refine seq_nil ?_
        refine hK96 _ _ ?_
        try clear hK96 K96
        refine wp_seq_k fun K97 hK97 => ?_
        refine wp_seq_k fun K98 hK98 => ?_
        refine region_lit ?_
        refine seq_val (.int .i64 (kidR c)) 82 rfl (by kernel_rfl) (by kernel_rfl) ?_
        refine seq_val (.bool (decide ((kidR c) < 0))) 83 rfl (by kernel_rfl) (by kernel_rfl) ?_
        refine seq_nil ?_
        refine hK98 _ _ ?_
        try clear hK98 K98
        refine cond_split (t := decide ((kidR c) < 0)) (by kernel_rfl) (fun c99 => ?_) (fun c99 => ?_)
        · skip
          have hzR : kidR c < 0 := of_decide_eq_true c99
          refine wp_exit ?_
          refine hK95 _ _ ?_
          try clear hK95 K95
          refine region_lit ?_
          refine seq_val (.int .i64 2) 108 rfl (by kernel_rfl) (by kernel_rfl) ?_
          refine seq_val (.int .i64 2) 78 rfl (by kernel_rfl) (by kernel_rfl) ?_
          refine seq_nil ?_
          show Code.rounds _ _ _ 1 _ _
          show Code.wp _ _ (Exit.then (Code.rounds _ _ _ 0) _) _ _
          refine wp_seq_k fun K100 hK100 => ?_
          refine region_lit ?_
          refine seq_val (.bool false) 79 rfl (by kernel_rfl) (by kernel_rfl) ?_
          refine seq_nil ?_
          refine hK100 _ _ ?_
          try clear hK100 K100
          refine wp_seq_k fun K101 hK101 => ?_
          refine cond_false (by kernel_rfl) ?_
          refine wp_exit ?_
          refine hK9 _ _ ?_
          try clear hK9 K9
          refine wp_seq_k fun K102 hK102 => ?_
          refine region_lit ?_
          refine seq_val (.int .i64 (((a : Nat) : Int))) 109 rfl (by kernel_rfl) (by kernel_rfl) ?_
          refine seq_val (.int .i64 (((b : Nat) : Int))) 110 rfl (by kernel_rfl) (by kernel_rfl) ?_
          refine seq_val (.bool false) 111 rfl (by kernel_rfl) (run_eq (u := .bool ((((a : Nat) : Int) != ((b : Nat) : Int)))) (by kernel_rfl) (congrArg Value.bool (by rw [hab]; exact bne_self_eq_false _))) ?_
          refine seq_val (.bool false) 112 rfl (by kernel_rfl) (by kernel_rfl) ?_
          refine seq_val (.int .i64 c) 113 rfl (by kernel_rfl) (by kernel_rfl) ?_
          refine seq_val (.int .i64 (((a : Nat) : Int))) 114 rfl (by kernel_rfl) (by kernel_rfl) ?_
          refine seq_val (.int .i64 (((2 * a : Nat) : Int))) 115 rfl (by kernel_rfl) (run_eq (u := .int .i64 (IntKind.i64.wrap (2 * ((a : Nat) : Int)))) (by kernel_rfl) (congrArg (Value.int .i64) (i64n _ _ (by omega) (by omega)))) ?_
          refine seq_val (.bool true) 116 rfl (by kernel_rfl) (run_eq (u := .bool ((c == ((2 * a : Nat) : Int)))) (by kernel_rfl) (congrArg Value.bool (by rw [hself]; exact beq_self_eq_true _))) ?_
          refine seq_val (.bool true) 117 rfl (by kernel_rfl) (by kernel_rfl) ?_
          refine seq_val (.bool true) 6 rfl (by kernel_rfl) (by kernel_rfl) ?_
          refine seq_nil ?_
          refine hK102 _ _ ?_
          try clear hK102 K102
          refine wp_ret ?_
          repeat (first | with_reducible refine goR1 ?_ | with_reducible refine goR2 ?_)
          exact (show bodyPost _ _ _ .ret _ _ from ret1 (.bool true) rfl (res_tmp (by kernel_rfl)) ⟨rfl, x7⟩)
        · skip
          have hzR : ¬ kidR c < 0 := of_decide_eq_false c99
          refine wp_skip ?_
          refine hK97 _ _ ?_
          try clear hK97 K97
          refine wp_seq_k fun K103 hK103 => ?_
          refine region_lit ?_
          refine seq_val (.int .i64 (kidR c)) 85 rfl (by kernel_rfl) (by kernel_rfl) ?_
          refine seq_val (.int .i64 (N)) 86 rfl (by kernel_rfl) (by kernel_rfl) ?_
          refine seq_call (.tuple #[.int .i64 (bel (kidR c) N).1, .int .i64 (bel (kidR c) N).2]) 33 #[.int .i64 (kidR c), .int .i64 (N)] 87 rfl (by kernel_rfl) (by kernel_rfl) (belowR (kidR c) N (by unfold i64; omega) _ (TabAt.ext hT x7)) fun W8 e8 => ?_
          have x8 : Ext w W8 := Ext.tr x7 e8
          refine seq_val (.tuple #[.int .i64 (bel (kidR c) N).1, .int .i64 (bel (kidR c) N).2]) 84 rfl (by kernel_rfl) (by kernel_rfl) ?_
          refine seq_val (.int .i64 ((bel (kidR c) N).1)) 88 rfl (by kernel_rfl) (by kernel_rfl) ?_
          refine seq_val (.int .i64 ((bel (kidR c) N).2)) 89 rfl (by kernel_rfl) (by kernel_rfl) ?_
          refine seq_val (.int .i64 ((bel (kidR c) N).1)) 15 rfl (by kernel_rfl) (by kernel_rfl) ?_
          refine seq_val (.int .i64 ((bel (kidR c) N).2)) 16 rfl (by kernel_rfl) (by kernel_rfl) ?_
          refine seq_nil ?_
          refine hK103 _ _ ?_
          try clear hK103 K103
          refine wp_seq_k fun K104 hK104 => ?_
          rcases out4 (hoR.resolve_left hzR) with ho4 | ho4 | ho4 | ho4
          · skip
            refine region_lit ?_
            refine seq_val (.int .i64 (((a : Nat) : Int))) 90 rfl (by kernel_rfl) (by kernel_rfl) ?_
            refine seq_val (.int .i64 ((bel (kidR c) N).1)) 91 rfl (by kernel_rfl) (by kernel_rfl) ?_
            refine seq_val (.bool false) 92 rfl (by kernel_rfl) (run_eq (u := .bool (decide (((a : Nat) : Int) ≥ ((bel (kidR c) N).1)))) (by kernel_rfl) (congrArg Value.bool (decide_eq_false (by omega)))) ?_
            refine seq_val (.bool false) 93 rfl (by kernel_rfl) (by kernel_rfl) ?_
            refine seq_skip 94 rfl (by kernel_rfl) ?_
            refine seq_skip 95 rfl (by kernel_rfl) ?_
            refine seq_skip 96 rfl (by kernel_rfl) ?_
            refine seq_val (.bool false) 97 rfl (by kernel_rfl) (by kernel_rfl) ?_
            refine seq_val (.bool false) 98 rfl (by kernel_rfl) (by kernel_rfl) ?_
            refine seq_skip 99 rfl (by kernel_rfl) ?_
            refine seq_skip 100 rfl (by kernel_rfl) ?_
            refine seq_skip 101 rfl (by kernel_rfl) ?_
            refine seq_val (.bool false) 102 rfl (by kernel_rfl) (by kernel_rfl) ?_
            refine seq_val (.bool false) 103 rfl (by kernel_rfl) (by kernel_rfl) ?_
            refine seq_skip 104 rfl (by kernel_rfl) ?_
            refine seq_skip 105 rfl (by kernel_rfl) ?_
            refine seq_skip 106 rfl (by kernel_rfl) ?_
            refine seq_val (.bool false) 107 rfl (by kernel_rfl) (by kernel_rfl) ?_
            refine seq_nil ?_
            refine hK104 _ _ ?_
            try clear hK104 K104
            refine cond_false (by kernel_rfl) ?_
            refine wp_skip ?_
            refine hK95 _ _ ?_
            try clear hK95 K95
            refine region_lit ?_
            refine seq_val (.int .i64 2) 108 rfl (by kernel_rfl) (by kernel_rfl) ?_
            refine seq_val (.int .i64 2) 78 rfl (by kernel_rfl) (by kernel_rfl) ?_
            refine seq_nil ?_
            show Code.rounds _ _ _ 1 _ _
            show Code.wp _ _ (Exit.then (Code.rounds _ _ _ 0) _) _ _
            refine wp_seq_k fun K105 hK105 => ?_
            refine region_lit ?_
            refine seq_val (.bool false) 79 rfl (by kernel_rfl) (by kernel_rfl) ?_
            refine seq_nil ?_
            refine hK105 _ _ ?_
            try clear hK105 K105
            refine wp_seq_k fun K106 hK106 => ?_
            refine cond_false (by kernel_rfl) ?_
            refine wp_exit ?_
            refine hK9 _ _ ?_
            try clear hK9 K9
            refine wp_seq_k fun K107 hK107 => ?_
            refine region_lit ?_
            refine seq_val (.int .i64 (((a : Nat) : Int))) 109 rfl (by kernel_rfl) (by kernel_rfl) ?_
            refine seq_val (.int .i64 (((b : Nat) : Int))) 110 rfl (by kernel_rfl) (by kernel_rfl) ?_
            refine seq_val (.bool false) 111 rfl (by kernel_rfl) (run_eq (u := .bool ((((a : Nat) : Int) != ((b : Nat) : Int)))) (by kernel_rfl) (congrArg Value.bool (by rw [hab]; exact bne_self_eq_false _))) ?_
            refine seq_val (.bool false) 112 rfl (by kernel_rfl) (by kernel_rfl) ?_
            refine seq_val (.int .i64 c) 113 rfl (by kernel_rfl) (by kernel_rfl) ?_
            refine seq_val (.int .i64 (((a : Nat) : Int))) 114 rfl (by kernel_rfl) (by kernel_rfl) ?_
            refine seq_val (.int .i64 (((2 * a : Nat) : Int))) 115 rfl (by kernel_rfl) (run_eq (u := .int .i64 (IntKind.i64.wrap (2 * ((a : Nat) : Int)))) (by kernel_rfl) (congrArg (Value.int .i64) (i64n _ _ (by omega) (by omega)))) ?_
            refine seq_val (.bool true) 116 rfl (by kernel_rfl) (run_eq (u := .bool ((c == ((2 * a : Nat) : Int)))) (by kernel_rfl) (congrArg Value.bool (by rw [hself]; exact beq_self_eq_true _))) ?_
            refine seq_val (.bool true) 117 rfl (by kernel_rfl) (by kernel_rfl) ?_
            refine seq_val (.bool true) 6 rfl (by kernel_rfl) (by kernel_rfl) ?_
            refine seq_nil ?_
            refine hK107 _ _ ?_
            try clear hK107 K107
            refine wp_ret ?_
            repeat (first | with_reducible refine goR1 ?_ | with_reducible refine goR2 ?_)
            exact (show bodyPost _ _ _ .ret _ _ from ret1 (.bool true) rfl (res_tmp (by kernel_rfl)) ⟨rfl, x8⟩)
          · skip
            refine region_lit ?_
            refine seq_val (.int .i64 (((a : Nat) : Int))) 90 rfl (by kernel_rfl) (by kernel_rfl) ?_
            refine seq_val (.int .i64 ((bel (kidR c) N).1)) 91 rfl (by kernel_rfl) (by kernel_rfl) ?_
            refine seq_val (.bool true) 92 rfl (by kernel_rfl) (run_eq (u := .bool (decide (((a : Nat) : Int) ≥ ((bel (kidR c) N).1)))) (by kernel_rfl) (congrArg Value.bool (decide_eq_true (by omega)))) ?_
            refine seq_val (.bool true) 93 rfl (by kernel_rfl) (by kernel_rfl) ?_
            refine seq_val (.int .i64 (((a : Nat) : Int))) 94 rfl (by kernel_rfl) (by kernel_rfl) ?_
            refine seq_val (.int .i64 ((bel (kidR c) N).2)) 95 rfl (by kernel_rfl) (by kernel_rfl) ?_
            refine seq_val (.bool false) 96 rfl (by kernel_rfl) (run_eq (u := .bool (decide (((a : Nat) : Int) ≤ ((bel (kidR c) N).2)))) (by kernel_rfl) (congrArg Value.bool (decide_eq_false (by omega)))) ?_
            refine seq_val (.bool false) 97 rfl (by kernel_rfl) (by kernel_rfl) ?_
            refine seq_val (.bool false) 98 rfl (by kernel_rfl) (by kernel_rfl) ?_
            refine seq_skip 99 rfl (by kernel_rfl) ?_
            refine seq_skip 100 rfl (by kernel_rfl) ?_
            refine seq_skip 101 rfl (by kernel_rfl) ?_
            refine seq_val (.bool false) 102 rfl (by kernel_rfl) (by kernel_rfl) ?_
            refine seq_val (.bool false) 103 rfl (by kernel_rfl) (by kernel_rfl) ?_
            refine seq_skip 104 rfl (by kernel_rfl) ?_
            refine seq_skip 105 rfl (by kernel_rfl) ?_
            refine seq_skip 106 rfl (by kernel_rfl) ?_
            refine seq_val (.bool false) 107 rfl (by kernel_rfl) (by kernel_rfl) ?_
            refine seq_nil ?_
            refine hK104 _ _ ?_
            try clear hK104 K104
            refine cond_false (by kernel_rfl) ?_
            refine wp_skip ?_
            refine hK95 _ _ ?_
            try clear hK95 K95
            refine region_lit ?_
            refine seq_val (.int .i64 2) 108 rfl (by kernel_rfl) (by kernel_rfl) ?_
            refine seq_val (.int .i64 2) 78 rfl (by kernel_rfl) (by kernel_rfl) ?_
            refine seq_nil ?_
            show Code.rounds _ _ _ 1 _ _
            show Code.wp _ _ (Exit.then (Code.rounds _ _ _ 0) _) _ _
            refine wp_seq_k fun K108 hK108 => ?_
            refine region_lit ?_
            refine seq_val (.bool false) 79 rfl (by kernel_rfl) (by kernel_rfl) ?_
            refine seq_nil ?_
            refine hK108 _ _ ?_
            try clear hK108 K108
            refine wp_seq_k fun K109 hK109 => ?_
            refine cond_false (by kernel_rfl) ?_
            refine wp_exit ?_
            refine hK9 _ _ ?_
            try clear hK9 K9
            refine wp_seq_k fun K110 hK110 => ?_
            refine region_lit ?_
            refine seq_val (.int .i64 (((a : Nat) : Int))) 109 rfl (by kernel_rfl) (by kernel_rfl) ?_
            refine seq_val (.int .i64 (((b : Nat) : Int))) 110 rfl (by kernel_rfl) (by kernel_rfl) ?_
            refine seq_val (.bool false) 111 rfl (by kernel_rfl) (run_eq (u := .bool ((((a : Nat) : Int) != ((b : Nat) : Int)))) (by kernel_rfl) (congrArg Value.bool (by rw [hab]; exact bne_self_eq_false _))) ?_
            refine seq_val (.bool false) 112 rfl (by kernel_rfl) (by kernel_rfl) ?_
            refine seq_val (.int .i64 c) 113 rfl (by kernel_rfl) (by kernel_rfl) ?_
            refine seq_val (.int .i64 (((a : Nat) : Int))) 114 rfl (by kernel_rfl) (by kernel_rfl) ?_
            refine seq_val (.int .i64 (((2 * a : Nat) : Int))) 115 rfl (by kernel_rfl) (run_eq (u := .int .i64 (IntKind.i64.wrap (2 * ((a : Nat) : Int)))) (by kernel_rfl) (congrArg (Value.int .i64) (i64n _ _ (by omega) (by omega)))) ?_
            refine seq_val (.bool true) 116 rfl (by kernel_rfl) (run_eq (u := .bool ((c == ((2 * a : Nat) : Int)))) (by kernel_rfl) (congrArg Value.bool (by rw [hself]; exact beq_self_eq_true _))) ?_
            refine seq_val (.bool true) 117 rfl (by kernel_rfl) (by kernel_rfl) ?_
            refine seq_val (.bool true) 6 rfl (by kernel_rfl) (by kernel_rfl) ?_
            refine seq_nil ?_
            refine hK110 _ _ ?_
            try clear hK110 K110
            refine wp_ret ?_
            repeat (first | with_reducible refine goR1 ?_ | with_reducible refine goR2 ?_)
            exact (show bodyPost _ _ _ .ret _ _ from ret1 (.bool true) rfl (res_tmp (by kernel_rfl)) ⟨rfl, x8⟩)
          · skip
            refine region_lit ?_
            refine seq_val (.int .i64 (((a : Nat) : Int))) 90 rfl (by kernel_rfl) (by kernel_rfl) ?_
            refine seq_val (.int .i64 ((bel (kidR c) N).1)) 91 rfl (by kernel_rfl) (by kernel_rfl) ?_
            refine seq_val (.bool true) 92 rfl (by kernel_rfl) (run_eq (u := .bool (decide (((a : Nat) : Int) ≥ ((bel (kidR c) N).1)))) (by kernel_rfl) (congrArg Value.bool (decide_eq_true (by omega)))) ?_
            refine seq_val (.bool true) 93 rfl (by kernel_rfl) (by kernel_rfl) ?_
            refine seq_val (.int .i64 (((a : Nat) : Int))) 94 rfl (by kernel_rfl) (by kernel_rfl) ?_
            refine seq_val (.int .i64 ((bel (kidR c) N).2)) 95 rfl (by kernel_rfl) (by kernel_rfl) ?_
            refine seq_val (.bool true) 96 rfl (by kernel_rfl) (run_eq (u := .bool (decide (((a : Nat) : Int) ≤ ((bel (kidR c) N).2)))) (by kernel_rfl) (congrArg Value.bool (decide_eq_true (by omega)))) ?_
            refine seq_val (.bool true) 97 rfl (by kernel_rfl) (by kernel_rfl) ?_
            refine seq_val (.bool true) 98 rfl (by kernel_rfl) (by kernel_rfl) ?_
            refine seq_val (.int .i64 (((b : Nat) : Int))) 99 rfl (by kernel_rfl) (by kernel_rfl) ?_
            refine seq_val (.int .i64 ((bel (kidR c) N).1)) 100 rfl (by kernel_rfl) (by kernel_rfl) ?_
            refine seq_val (.bool false) 101 rfl (by kernel_rfl) (run_eq (u := .bool (decide (((b : Nat) : Int) ≥ ((bel (kidR c) N).1)))) (by kernel_rfl) (congrArg Value.bool (decide_eq_false (by omega)))) ?_
            refine seq_val (.bool false) 102 rfl (by kernel_rfl) (by kernel_rfl) ?_
            refine seq_val (.bool false) 103 rfl (by kernel_rfl) (by kernel_rfl) ?_
            refine seq_skip 104 rfl (by kernel_rfl) ?_
            refine seq_skip 105 rfl (by kernel_rfl) ?_
            refine seq_skip 106 rfl (by kernel_rfl) ?_
            refine seq_val (.bool false) 107 rfl (by kernel_rfl) (by kernel_rfl) ?_
            refine seq_nil ?_
            refine hK104 _ _ ?_
            try clear hK104 K104
            refine cond_false (by kernel_rfl) ?_
            refine wp_skip ?_
            refine hK95 _ _ ?_
            try clear hK95 K95
            refine region_lit ?_
            refine seq_val (.int .i64 2) 108 rfl (by kernel_rfl) (by kernel_rfl) ?_
            refine seq_val (.int .i64 2) 78 rfl (by kernel_rfl) (by kernel_rfl) ?_
            refine seq_nil ?_
            show Code.rounds _ _ _ 1 _ _
            show Code.wp _ _ (Exit.then (Code.rounds _ _ _ 0) _) _ _
            refine wp_seq_k fun K111 hK111 => ?_
            refine region_lit ?_
            refine seq_val (.bool false) 79 rfl (by kernel_rfl) (by kernel_rfl) ?_
            refine seq_nil ?_
            refine hK111 _ _ ?_
            try clear hK111 K111
            refine wp_seq_k fun K112 hK112 => ?_
            refine cond_false (by kernel_rfl) ?_
            refine wp_exit ?_
            refine hK9 _ _ ?_
            try clear hK9 K9
            refine wp_seq_k fun K113 hK113 => ?_
            refine region_lit ?_
            refine seq_val (.int .i64 (((a : Nat) : Int))) 109 rfl (by kernel_rfl) (by kernel_rfl) ?_
            refine seq_val (.int .i64 (((b : Nat) : Int))) 110 rfl (by kernel_rfl) (by kernel_rfl) ?_
            refine seq_val (.bool false) 111 rfl (by kernel_rfl) (run_eq (u := .bool ((((a : Nat) : Int) != ((b : Nat) : Int)))) (by kernel_rfl) (congrArg Value.bool (by rw [hab]; exact bne_self_eq_false _))) ?_
            refine seq_val (.bool false) 112 rfl (by kernel_rfl) (by kernel_rfl) ?_
            refine seq_val (.int .i64 c) 113 rfl (by kernel_rfl) (by kernel_rfl) ?_
            refine seq_val (.int .i64 (((a : Nat) : Int))) 114 rfl (by kernel_rfl) (by kernel_rfl) ?_
            refine seq_val (.int .i64 (((2 * a : Nat) : Int))) 115 rfl (by kernel_rfl) (run_eq (u := .int .i64 (IntKind.i64.wrap (2 * ((a : Nat) : Int)))) (by kernel_rfl) (congrArg (Value.int .i64) (i64n _ _ (by omega) (by omega)))) ?_
            refine seq_val (.bool true) 116 rfl (by kernel_rfl) (run_eq (u := .bool ((c == ((2 * a : Nat) : Int)))) (by kernel_rfl) (congrArg Value.bool (by rw [hself]; exact beq_self_eq_true _))) ?_
            refine seq_val (.bool true) 117 rfl (by kernel_rfl) (by kernel_rfl) ?_
            refine seq_val (.bool true) 6 rfl (by kernel_rfl) (by kernel_rfl) ?_
            refine seq_nil ?_
            refine hK113 _ _ ?_
            try clear hK113 K113
            refine wp_ret ?_
            repeat (first | with_reducible refine goR1 ?_ | with_reducible refine goR2 ?_)
            exact (show bodyPost _ _ _ .ret _ _ from ret1 (.bool true) rfl (res_tmp (by kernel_rfl)) ⟨rfl, x8⟩)
          · skip
            refine region_lit ?_
            refine seq_val (.int .i64 (((a : Nat) : Int))) 90 rfl (by kernel_rfl) (by kernel_rfl) ?_
            refine seq_val (.int .i64 ((bel (kidR c) N).1)) 91 rfl (by kernel_rfl) (by kernel_rfl) ?_
            refine seq_val (.bool true) 92 rfl (by kernel_rfl) (run_eq (u := .bool (decide (((a : Nat) : Int) ≥ ((bel (kidR c) N).1)))) (by kernel_rfl) (congrArg Value.bool (decide_eq_true (by omega)))) ?_
            refine seq_val (.bool true) 93 rfl (by kernel_rfl) (by kernel_rfl) ?_
            refine seq_val (.int .i64 (((a : Nat) : Int))) 94 rfl (by kernel_rfl) (by kernel_rfl) ?_
            refine seq_val (.int .i64 ((bel (kidR c) N).2)) 95 rfl (by kernel_rfl) (by kernel_rfl) ?_
            refine seq_val (.bool true) 96 rfl (by kernel_rfl) (run_eq (u := .bool (decide (((a : Nat) : Int) ≤ ((bel (kidR c) N).2)))) (by kernel_rfl) (congrArg Value.bool (decide_eq_true (by omega)))) ?_
            refine seq_val (.bool true) 97 rfl (by kernel_rfl) (by kernel_rfl) ?_
            refine seq_val (.bool true) 98 rfl (by kernel_rfl) (by kernel_rfl) ?_
            refine seq_val (.int .i64 (((b : Nat) : Int))) 99 rfl (by kernel_rfl) (by kernel_rfl) ?_
            refine seq_val (.int .i64 ((bel (kidR c) N).1)) 100 rfl (by kernel_rfl) (by kernel_rfl) ?_
            refine seq_val (.bool true) 101 rfl (by kernel_rfl) (run_eq (u := .bool (decide (((b : Nat) : Int) ≥ ((bel (kidR c) N).1)))) (by kernel_rfl) (congrArg Value.bool (decide_eq_true (by omega)))) ?_
            refine seq_val (.bool true) 102 rfl (by kernel_rfl) (by kernel_rfl) ?_
            refine seq_val (.bool true) 103 rfl (by kernel_rfl) (by kernel_rfl) ?_
            refine seq_val (.int .i64 (((b : Nat) : Int))) 104 rfl (by kernel_rfl) (by kernel_rfl) ?_
            refine seq_val (.int .i64 ((bel (kidR c) N).2)) 105 rfl (by kernel_rfl) (by kernel_rfl) ?_
            refine seq_val (.bool false) 106 rfl (by kernel_rfl) (run_eq (u := .bool (decide (((b : Nat) : Int) ≤ ((bel (kidR c) N).2)))) (by kernel_rfl) (congrArg Value.bool (decide_eq_false (by omega)))) ?_
            refine seq_val (.bool false) 107 rfl (by kernel_rfl) (by kernel_rfl) ?_
            refine seq_nil ?_
            refine hK104 _ _ ?_
            try clear hK104 K104
            refine cond_false (by kernel_rfl) ?_
            refine wp_skip ?_
            refine hK95 _ _ ?_
            try clear hK95 K95
            refine region_lit ?_
            refine seq_val (.int .i64 2) 108 rfl (by kernel_rfl) (by kernel_rfl) ?_
            refine seq_val (.int .i64 2) 78 rfl (by kernel_rfl) (by kernel_rfl) ?_
            refine seq_nil ?_
            show Code.rounds _ _ _ 1 _ _
            show Code.wp _ _ (Exit.then (Code.rounds _ _ _ 0) _) _ _
            refine wp_seq_k fun K114 hK114 => ?_
            refine region_lit ?_
            refine seq_val (.bool false) 79 rfl (by kernel_rfl) (by kernel_rfl) ?_
            refine seq_nil ?_
            refine hK114 _ _ ?_
            try clear hK114 K114
            refine wp_seq_k fun K115 hK115 => ?_
            refine cond_false (by kernel_rfl) ?_
            refine wp_exit ?_
            refine hK9 _ _ ?_
            try clear hK9 K9
            refine wp_seq_k fun K116 hK116 => ?_
            refine region_lit ?_
            refine seq_val (.int .i64 (((a : Nat) : Int))) 109 rfl (by kernel_rfl) (by kernel_rfl) ?_
            refine seq_val (.int .i64 (((b : Nat) : Int))) 110 rfl (by kernel_rfl) (by kernel_rfl) ?_
            refine seq_val (.bool false) 111 rfl (by kernel_rfl) (run_eq (u := .bool ((((a : Nat) : Int) != ((b : Nat) : Int)))) (by kernel_rfl) (congrArg Value.bool (by rw [hab]; exact bne_self_eq_false _))) ?_
            refine seq_val (.bool false) 112 rfl (by kernel_rfl) (by kernel_rfl) ?_
            refine seq_val (.int .i64 c) 113 rfl (by kernel_rfl) (by kernel_rfl) ?_
            refine seq_val (.int .i64 (((a : Nat) : Int))) 114 rfl (by kernel_rfl) (by kernel_rfl) ?_
            refine seq_val (.int .i64 (((2 * a : Nat) : Int))) 115 rfl (by kernel_rfl) (run_eq (u := .int .i64 (IntKind.i64.wrap (2 * ((a : Nat) : Int)))) (by kernel_rfl) (congrArg (Value.int .i64) (i64n _ _ (by omega) (by omega)))) ?_
            refine seq_val (.bool true) 116 rfl (by kernel_rfl) (run_eq (u := .bool ((c == ((2 * a : Nat) : Int)))) (by kernel_rfl) (congrArg Value.bool (by rw [hself]; exact beq_self_eq_true _))) ?_
            refine seq_val (.bool true) 117 rfl (by kernel_rfl) (by kernel_rfl) ?_
            refine seq_val (.bool true) 6 rfl (by kernel_rfl) (by kernel_rfl) ?_
            refine seq_nil ?_
            refine hK116 _ _ ?_
            try clear hK116 K116
            refine wp_ret ?_
            repeat (first | with_reducible refine goR1 ?_ | with_reducible refine goR2 ?_)
            exact (show bodyPost _ _ _ .ret _ _ from ret1 (.bool true) rfl (res_tmp (by kernel_rfl)) ⟨rfl, x8⟩)
      · skip
        refine region_lit ?_
        refine seq_val (.int .i64 (((a : Nat) : Int))) 90 rfl (by kernel_rfl) (by kernel_rfl) ?_
        refine seq_val (.int .i64 ((bel (kidL c) N).1)) 91 rfl (by kernel_rfl) (by kernel_rfl) ?_
        refine seq_val (.bool true) 92 rfl (by kernel_rfl) (run_eq (u := .bool (decide (((a : Nat) : Int) ≥ ((bel (kidL c) N).1)))) (by kernel_rfl) (congrArg Value.bool (decide_eq_true (by omega)))) ?_
        refine seq_val (.bool true) 93 rfl (by kernel_rfl) (by kernel_rfl) ?_
        refine seq_val (.int .i64 (((a : Nat) : Int))) 94 rfl (by kernel_rfl) (by kernel_rfl) ?_
        refine seq_val (.int .i64 ((bel (kidL c) N).2)) 95 rfl (by kernel_rfl) (by kernel_rfl) ?_
        refine seq_val (.bool true) 96 rfl (by kernel_rfl) (run_eq (u := .bool (decide (((a : Nat) : Int) ≤ ((bel (kidL c) N).2)))) (by kernel_rfl) (congrArg Value.bool (decide_eq_true (by omega)))) ?_
        refine seq_val (.bool true) 97 rfl (by kernel_rfl) (by kernel_rfl) ?_
        refine seq_val (.bool true) 98 rfl (by kernel_rfl) (by kernel_rfl) ?_
        refine seq_val (.int .i64 (((b : Nat) : Int))) 99 rfl (by kernel_rfl) (by kernel_rfl) ?_
        refine seq_val (.int .i64 ((bel (kidL c) N).1)) 100 rfl (by kernel_rfl) (by kernel_rfl) ?_
        refine seq_val (.bool true) 101 rfl (by kernel_rfl) (run_eq (u := .bool (decide (((b : Nat) : Int) ≥ ((bel (kidL c) N).1)))) (by kernel_rfl) (congrArg Value.bool (decide_eq_true (by omega)))) ?_
        refine seq_val (.bool true) 102 rfl (by kernel_rfl) (by kernel_rfl) ?_
        refine seq_val (.bool true) 103 rfl (by kernel_rfl) (by kernel_rfl) ?_
        refine seq_val (.int .i64 (((b : Nat) : Int))) 104 rfl (by kernel_rfl) (by kernel_rfl) ?_
        refine seq_val (.int .i64 ((bel (kidL c) N).2)) 105 rfl (by kernel_rfl) (by kernel_rfl) ?_
        refine seq_val (.bool false) 106 rfl (by kernel_rfl) (run_eq (u := .bool (decide (((b : Nat) : Int) ≤ ((bel (kidL c) N).2)))) (by kernel_rfl) (congrArg Value.bool (decide_eq_false (by omega)))) ?_
        refine seq_val (.bool false) 107 rfl (by kernel_rfl) (by kernel_rfl) ?_
        refine seq_nil ?_
        refine hK44 _ _ ?_
        try clear hK44 K44
        refine cond_false (by kernel_rfl) ?_
        refine wp_skip ?_
        refine hK14 _ _ ?_
        try clear hK14 K14
        refine region_lit ?_
        refine seq_val (.int .i64 1) 108 rfl (by kernel_rfl) (by kernel_rfl) ?_
        refine seq_val (.int .i64 1) 78 rfl (by kernel_rfl) (by kernel_rfl) ?_
        refine seq_nil ?_
        show Code.rounds _ _ _ 2 _ _
        show Code.wp _ _ (Exit.then (Code.rounds _ _ _ 1) _) _ _
        refine wp_seq_k fun K117 hK117 => ?_
        refine region_lit ?_
        refine seq_val (.bool true) 79 rfl (by kernel_rfl) (by kernel_rfl) ?_
        refine seq_nil ?_
        refine hK117 _ _ ?_
        try clear hK117 K117
        refine wp_seq_k fun K118 hK118 => ?_
        refine cond_true (by kernel_rfl) ?_
        refine wp_skip ?_
        refine hK118 _ _ ?_
        try clear hK118 K118
        refine wp_seq_k fun K119 hK119 => ?_
        refine wp_block ?_
        refine wp_seq_k fun K120 hK120 => ?_
        refine region_lit ?_
        refine seq_val (.pointer (some ⟨g11, 1, none⟩)) 80 rfl (by kernel_rfl) (run_indexS0 57 _ _ .i64 (1) g11 2 2 3 rfl (by kernel_rfl) (by kernel_rfl) (by kernel_rfl) (by kernel_rfl) (by decide)) ?_
        have r11_7 := (row_ext r11_6 e7)
        refine seq_val (.int .i64 (kidR c)) 81 rfl (by kernel_rfl) (run_loadC1 3 _ g11 1 3 _ (.int .i64 (kidR c)) _ r11_7 rfl (by kernel_rfl) (by kernel_rfl) (by kernel_rfl)) ?_
        refine seq_val (.int .i64 (kidR c)) 14 rfl (by kernel_rfl) (by kernel_rfl) ?_
        refine seq_nil ?_
        refine hK120 _ _ ?_
        try clear hK120 K120
        refine wp_seq_k fun K121 hK121 => ?_
        refine wp_seq_k fun K122 hK122 => ?_
        refine region_lit ?_
        refine seq_val (.int .i64 (kidR c)) 82 rfl (by kernel_rfl) (by kernel_rfl) ?_
        refine seq_val (.bool (decide ((kidR c) < 0))) 83 rfl (by kernel_rfl) (by kernel_rfl) ?_
        refine seq_nil ?_
        refine hK122 _ _ ?_
        try clear hK122 K122
        refine cond_split (t := decide ((kidR c) < 0)) (by kernel_rfl) (fun c123 => ?_) (fun c123 => ?_)
        · skip
          have hzR : kidR c < 0 := of_decide_eq_true c123
          refine wp_exit ?_
          refine hK119 _ _ ?_
          try clear hK119 K119
          refine region_lit ?_
          refine seq_val (.int .i64 2) 108 rfl (by kernel_rfl) (by kernel_rfl) ?_
          refine seq_val (.int .i64 2) 78 rfl (by kernel_rfl) (by kernel_rfl) ?_
          refine seq_nil ?_
          show Code.rounds _ _ _ 1 _ _
          show Code.wp _ _ (Exit.then (Code.rounds _ _ _ 0) _) _ _
          refine wp_seq_k fun K124 hK124 => ?_
          refine region_lit ?_
          refine seq_val (.bool false) 79 rfl (by kernel_rfl) (by kernel_rfl) ?_
          refine seq_nil ?_
          refine hK124 _ _ ?_
          try clear hK124 K124
          refine wp_seq_k fun K125 hK125 => ?_
          refine cond_false (by kernel_rfl) ?_
          refine wp_exit ?_
          refine hK9 _ _ ?_
          try clear hK9 K9
          refine wp_seq_k fun K126 hK126 => ?_
          refine region_lit ?_
          refine seq_val (.int .i64 (((a : Nat) : Int))) 109 rfl (by kernel_rfl) (by kernel_rfl) ?_
          refine seq_val (.int .i64 (((b : Nat) : Int))) 110 rfl (by kernel_rfl) (by kernel_rfl) ?_
          refine seq_val (.bool false) 111 rfl (by kernel_rfl) (run_eq (u := .bool ((((a : Nat) : Int) != ((b : Nat) : Int)))) (by kernel_rfl) (congrArg Value.bool (by rw [hab]; exact bne_self_eq_false _))) ?_
          refine seq_val (.bool false) 112 rfl (by kernel_rfl) (by kernel_rfl) ?_
          refine seq_val (.int .i64 c) 113 rfl (by kernel_rfl) (by kernel_rfl) ?_
          refine seq_val (.int .i64 (((a : Nat) : Int))) 114 rfl (by kernel_rfl) (by kernel_rfl) ?_
          refine seq_val (.int .i64 (((2 * a : Nat) : Int))) 115 rfl (by kernel_rfl) (run_eq (u := .int .i64 (IntKind.i64.wrap (2 * ((a : Nat) : Int)))) (by kernel_rfl) (congrArg (Value.int .i64) (i64n _ _ (by omega) (by omega)))) ?_
          refine seq_val (.bool true) 116 rfl (by kernel_rfl) (run_eq (u := .bool ((c == ((2 * a : Nat) : Int)))) (by kernel_rfl) (congrArg Value.bool (by rw [hself]; exact beq_self_eq_true _))) ?_
          refine seq_val (.bool true) 117 rfl (by kernel_rfl) (by kernel_rfl) ?_
          refine seq_val (.bool true) 6 rfl (by kernel_rfl) (by kernel_rfl) ?_
          refine seq_nil ?_
          refine hK126 _ _ ?_
          try clear hK126 K126
          refine wp_ret ?_
          repeat (first | with_reducible refine goR1 ?_ | with_reducible refine goR2 ?_)
          exact (show bodyPost _ _ _ .ret _ _ from ret1 (.bool true) rfl (res_tmp (by kernel_rfl)) ⟨rfl, x7⟩)
        · skip
          have hzR : ¬ kidR c < 0 := of_decide_eq_false c123
          refine wp_skip ?_
          refine hK121 _ _ ?_
          try clear hK121 K121
          refine wp_seq_k fun K127 hK127 => ?_
          refine region_lit ?_
          refine seq_val (.int .i64 (kidR c)) 85 rfl (by kernel_rfl) (by kernel_rfl) ?_
          refine seq_val (.int .i64 (N)) 86 rfl (by kernel_rfl) (by kernel_rfl) ?_
          refine seq_call (.tuple #[.int .i64 (bel (kidR c) N).1, .int .i64 (bel (kidR c) N).2]) 33 #[.int .i64 (kidR c), .int .i64 (N)] 87 rfl (by kernel_rfl) (by kernel_rfl) (belowR (kidR c) N (by unfold i64; omega) _ (TabAt.ext hT x7)) fun W8 e8 => ?_
          have x8 : Ext w W8 := Ext.tr x7 e8
          refine seq_val (.tuple #[.int .i64 (bel (kidR c) N).1, .int .i64 (bel (kidR c) N).2]) 84 rfl (by kernel_rfl) (by kernel_rfl) ?_
          refine seq_val (.int .i64 ((bel (kidR c) N).1)) 88 rfl (by kernel_rfl) (by kernel_rfl) ?_
          refine seq_val (.int .i64 ((bel (kidR c) N).2)) 89 rfl (by kernel_rfl) (by kernel_rfl) ?_
          refine seq_val (.int .i64 ((bel (kidR c) N).1)) 15 rfl (by kernel_rfl) (by kernel_rfl) ?_
          refine seq_val (.int .i64 ((bel (kidR c) N).2)) 16 rfl (by kernel_rfl) (by kernel_rfl) ?_
          refine seq_nil ?_
          refine hK127 _ _ ?_
          try clear hK127 K127
          refine wp_seq_k fun K128 hK128 => ?_
          rcases out4 (hoR.resolve_left hzR) with ho4 | ho4 | ho4 | ho4
          · skip
            refine region_lit ?_
            refine seq_val (.int .i64 (((a : Nat) : Int))) 90 rfl (by kernel_rfl) (by kernel_rfl) ?_
            refine seq_val (.int .i64 ((bel (kidR c) N).1)) 91 rfl (by kernel_rfl) (by kernel_rfl) ?_
            refine seq_val (.bool false) 92 rfl (by kernel_rfl) (run_eq (u := .bool (decide (((a : Nat) : Int) ≥ ((bel (kidR c) N).1)))) (by kernel_rfl) (congrArg Value.bool (decide_eq_false (by omega)))) ?_
            refine seq_val (.bool false) 93 rfl (by kernel_rfl) (by kernel_rfl) ?_
            refine seq_skip 94 rfl (by kernel_rfl) ?_
            refine seq_skip 95 rfl (by kernel_rfl) ?_
            refine seq_skip 96 rfl (by kernel_rfl) ?_
            refine seq_val (.bool false) 97 rfl (by kernel_rfl) (by kernel_rfl) ?_
            refine seq_val (.bool false) 98 rfl (by kernel_rfl) (by kernel_rfl) ?_
            refine seq_skip 99 rfl (by kernel_rfl) ?_
            refine seq_skip 100 rfl (by kernel_rfl) ?_
            refine seq_skip 101 rfl (by kernel_rfl) ?_
            refine seq_val (.bool false) 102 rfl (by kernel_rfl) (by kernel_rfl) ?_
            refine seq_val (.bool false) 103 rfl (by kernel_rfl) (by kernel_rfl) ?_
            refine seq_skip 104 rfl (by kernel_rfl) ?_
            refine seq_skip 105 rfl (by kernel_rfl) ?_
            refine seq_skip 106 rfl (by kernel_rfl) ?_
            refine seq_val (.bool false) 107 rfl (by kernel_rfl) (by kernel_rfl) ?_
            refine seq_nil ?_
            refine hK128 _ _ ?_
            try clear hK128 K128
            refine cond_false (by kernel_rfl) ?_
            refine wp_skip ?_
            refine hK119 _ _ ?_
            try clear hK119 K119
            refine region_lit ?_
            refine seq_val (.int .i64 2) 108 rfl (by kernel_rfl) (by kernel_rfl) ?_
            refine seq_val (.int .i64 2) 78 rfl (by kernel_rfl) (by kernel_rfl) ?_
            refine seq_nil ?_
            show Code.rounds _ _ _ 1 _ _
            show Code.wp _ _ (Exit.then (Code.rounds _ _ _ 0) _) _ _
            refine wp_seq_k fun K129 hK129 => ?_
            refine region_lit ?_
            refine seq_val (.bool false) 79 rfl (by kernel_rfl) (by kernel_rfl) ?_
            refine seq_nil ?_
            refine hK129 _ _ ?_
            try clear hK129 K129
            refine wp_seq_k fun K130 hK130 => ?_
            refine cond_false (by kernel_rfl) ?_
            refine wp_exit ?_
            refine hK9 _ _ ?_
            try clear hK9 K9
            refine wp_seq_k fun K131 hK131 => ?_
            refine region_lit ?_
            refine seq_val (.int .i64 (((a : Nat) : Int))) 109 rfl (by kernel_rfl) (by kernel_rfl) ?_
            refine seq_val (.int .i64 (((b : Nat) : Int))) 110 rfl (by kernel_rfl) (by kernel_rfl) ?_
            refine seq_val (.bool false) 111 rfl (by kernel_rfl) (run_eq (u := .bool ((((a : Nat) : Int) != ((b : Nat) : Int)))) (by kernel_rfl) (congrArg Value.bool (by rw [hab]; exact bne_self_eq_false _))) ?_
            refine seq_val (.bool false) 112 rfl (by kernel_rfl) (by kernel_rfl) ?_
            refine seq_val (.int .i64 c) 113 rfl (by kernel_rfl) (by kernel_rfl) ?_
            refine seq_val (.int .i64 (((a : Nat) : Int))) 114 rfl (by kernel_rfl) (by kernel_rfl) ?_
            refine seq_val (.int .i64 (((2 * a : Nat) : Int))) 115 rfl (by kernel_rfl) (run_eq (u := .int .i64 (IntKind.i64.wrap (2 * ((a : Nat) : Int)))) (by kernel_rfl) (congrArg (Value.int .i64) (i64n _ _ (by omega) (by omega)))) ?_
            refine seq_val (.bool true) 116 rfl (by kernel_rfl) (run_eq (u := .bool ((c == ((2 * a : Nat) : Int)))) (by kernel_rfl) (congrArg Value.bool (by rw [hself]; exact beq_self_eq_true _))) ?_
            refine seq_val (.bool true) 117 rfl (by kernel_rfl) (by kernel_rfl) ?_
            refine seq_val (.bool true) 6 rfl (by kernel_rfl) (by kernel_rfl) ?_
            refine seq_nil ?_
            refine hK131 _ _ ?_
            try clear hK131 K131
            refine wp_ret ?_
            repeat (first | with_reducible refine goR1 ?_ | with_reducible refine goR2 ?_)
            exact (show bodyPost _ _ _ .ret _ _ from ret1 (.bool true) rfl (res_tmp (by kernel_rfl)) ⟨rfl, x8⟩)
          · skip
            refine region_lit ?_
            refine seq_val (.int .i64 (((a : Nat) : Int))) 90 rfl (by kernel_rfl) (by kernel_rfl) ?_
            refine seq_val (.int .i64 ((bel (kidR c) N).1)) 91 rfl (by kernel_rfl) (by kernel_rfl) ?_
            refine seq_val (.bool true) 92 rfl (by kernel_rfl) (run_eq (u := .bool (decide (((a : Nat) : Int) ≥ ((bel (kidR c) N).1)))) (by kernel_rfl) (congrArg Value.bool (decide_eq_true (by omega)))) ?_
            refine seq_val (.bool true) 93 rfl (by kernel_rfl) (by kernel_rfl) ?_
            refine seq_val (.int .i64 (((a : Nat) : Int))) 94 rfl (by kernel_rfl) (by kernel_rfl) ?_
            refine seq_val (.int .i64 ((bel (kidR c) N).2)) 95 rfl (by kernel_rfl) (by kernel_rfl) ?_
            refine seq_val (.bool false) 96 rfl (by kernel_rfl) (run_eq (u := .bool (decide (((a : Nat) : Int) ≤ ((bel (kidR c) N).2)))) (by kernel_rfl) (congrArg Value.bool (decide_eq_false (by omega)))) ?_
            refine seq_val (.bool false) 97 rfl (by kernel_rfl) (by kernel_rfl) ?_
            refine seq_val (.bool false) 98 rfl (by kernel_rfl) (by kernel_rfl) ?_
            refine seq_skip 99 rfl (by kernel_rfl) ?_
            refine seq_skip 100 rfl (by kernel_rfl) ?_
            refine seq_skip 101 rfl (by kernel_rfl) ?_
            refine seq_val (.bool false) 102 rfl (by kernel_rfl) (by kernel_rfl) ?_
            refine seq_val (.bool false) 103 rfl (by kernel_rfl) (by kernel_rfl) ?_
            refine seq_skip 104 rfl (by kernel_rfl) ?_
            refine seq_skip 105 rfl (by kernel_rfl) ?_
            refine seq_skip 106 rfl (by kernel_rfl) ?_
            refine seq_val (.bool false) 107 rfl (by kernel_rfl) (by kernel_rfl) ?_
            refine seq_nil ?_
            refine hK128 _ _ ?_
            try clear hK128 K128
            refine cond_false (by kernel_rfl) ?_
            refine wp_skip ?_
            refine hK119 _ _ ?_
            try clear hK119 K119
            refine region_lit ?_
            refine seq_val (.int .i64 2) 108 rfl (by kernel_rfl) (by kernel_rfl) ?_
            refine seq_val (.int .i64 2) 78 rfl (by kernel_rfl) (by kernel_rfl) ?_
            refine seq_nil ?_
            show Code.rounds _ _ _ 1 _ _
            show Code.wp _ _ (Exit.then (Code.rounds _ _ _ 0) _) _ _
            refine wp_seq_k fun K132 hK132 => ?_
            refine region_lit ?_
            refine seq_val (.bool false) 79 rfl (by kernel_rfl) (by kernel_rfl) ?_
            refine seq_nil ?_
            refine hK132 _ _ ?_
            try clear hK132 K132
            refine wp_seq_k fun K133 hK133 => ?_
            refine cond_false (by kernel_rfl) ?_
            refine wp_exit ?_
            refine hK9 _ _ ?_
            try clear hK9 K9
            refine wp_seq_k fun K134 hK134 => ?_
            refine region_lit ?_
            refine seq_val (.int .i64 (((a : Nat) : Int))) 109 rfl (by kernel_rfl) (by kernel_rfl) ?_
            refine seq_val (.int .i64 (((b : Nat) : Int))) 110 rfl (by kernel_rfl) (by kernel_rfl) ?_
            refine seq_val (.bool false) 111 rfl (by kernel_rfl) (run_eq (u := .bool ((((a : Nat) : Int) != ((b : Nat) : Int)))) (by kernel_rfl) (congrArg Value.bool (by rw [hab]; exact bne_self_eq_false _))) ?_
            refine seq_val (.bool false) 112 rfl (by kernel_rfl) (by kernel_rfl) ?_
            refine seq_val (.int .i64 c) 113 rfl (by kernel_rfl) (by kernel_rfl) ?_
            refine seq_val (.int .i64 (((a : Nat) : Int))) 114 rfl (by kernel_rfl) (by kernel_rfl) ?_
            refine seq_val (.int .i64 (((2 * a : Nat) : Int))) 115 rfl (by kernel_rfl) (run_eq (u := .int .i64 (IntKind.i64.wrap (2 * ((a : Nat) : Int)))) (by kernel_rfl) (congrArg (Value.int .i64) (i64n _ _ (by omega) (by omega)))) ?_
            refine seq_val (.bool true) 116 rfl (by kernel_rfl) (run_eq (u := .bool ((c == ((2 * a : Nat) : Int)))) (by kernel_rfl) (congrArg Value.bool (by rw [hself]; exact beq_self_eq_true _))) ?_
            refine seq_val (.bool true) 117 rfl (by kernel_rfl) (by kernel_rfl) ?_
            refine seq_val (.bool true) 6 rfl (by kernel_rfl) (by kernel_rfl) ?_
            refine seq_nil ?_
            refine hK134 _ _ ?_
            try clear hK134 K134
            refine wp_ret ?_
            repeat (first | with_reducible refine goR1 ?_ | with_reducible refine goR2 ?_)
            exact (show bodyPost _ _ _ .ret _ _ from ret1 (.bool true) rfl (res_tmp (by kernel_rfl)) ⟨rfl, x8⟩)
          · skip
            refine region_lit ?_
            refine seq_val (.int .i64 (((a : Nat) : Int))) 90 rfl (by kernel_rfl) (by kernel_rfl) ?_
            refine seq_val (.int .i64 ((bel (kidR c) N).1)) 91 rfl (by kernel_rfl) (by kernel_rfl) ?_
            refine seq_val (.bool true) 92 rfl (by kernel_rfl) (run_eq (u := .bool (decide (((a : Nat) : Int) ≥ ((bel (kidR c) N).1)))) (by kernel_rfl) (congrArg Value.bool (decide_eq_true (by omega)))) ?_
            refine seq_val (.bool true) 93 rfl (by kernel_rfl) (by kernel_rfl) ?_
            refine seq_val (.int .i64 (((a : Nat) : Int))) 94 rfl (by kernel_rfl) (by kernel_rfl) ?_
            refine seq_val (.int .i64 ((bel (kidR c) N).2)) 95 rfl (by kernel_rfl) (by kernel_rfl) ?_
            refine seq_val (.bool true) 96 rfl (by kernel_rfl) (run_eq (u := .bool (decide (((a : Nat) : Int) ≤ ((bel (kidR c) N).2)))) (by kernel_rfl) (congrArg Value.bool (decide_eq_true (by omega)))) ?_
            refine seq_val (.bool true) 97 rfl (by kernel_rfl) (by kernel_rfl) ?_
            refine seq_val (.bool true) 98 rfl (by kernel_rfl) (by kernel_rfl) ?_
            refine seq_val (.int .i64 (((b : Nat) : Int))) 99 rfl (by kernel_rfl) (by kernel_rfl) ?_
            refine seq_val (.int .i64 ((bel (kidR c) N).1)) 100 rfl (by kernel_rfl) (by kernel_rfl) ?_
            refine seq_val (.bool false) 101 rfl (by kernel_rfl) (run_eq (u := .bool (decide (((b : Nat) : Int) ≥ ((bel (kidR c) N).1)))) (by kernel_rfl) (congrArg Value.bool (decide_eq_false (by omega)))) ?_
            refine seq_val (.bool false) 102 rfl (by kernel_rfl) (by kernel_rfl) ?_
            refine seq_val (.bool false) 103 rfl (by kernel_rfl) (by kernel_rfl) ?_
            refine seq_skip 104 rfl (by kernel_rfl) ?_
            refine seq_skip 105 rfl (by kernel_rfl) ?_
            refine seq_skip 106 rfl (by kernel_rfl) ?_
            refine seq_val (.bool false) 107 rfl (by kernel_rfl) (by kernel_rfl) ?_
            refine seq_nil ?_
            refine hK128 _ _ ?_
            try clear hK128 K128
            refine cond_false (by kernel_rfl) ?_
            refine wp_skip ?_
            refine hK119 _ _ ?_
            try clear hK119 K119
            refine region_lit ?_
            refine seq_val (.int .i64 2) 108 rfl (by kernel_rfl) (by kernel_rfl) ?_
            refine seq_val (.int .i64 2) 78 rfl (by kernel_rfl) (by kernel_rfl) ?_
            refine seq_nil ?_
            show Code.rounds _ _ _ 1 _ _
            show Code.wp _ _ (Exit.then (Code.rounds _ _ _ 0) _) _ _
            refine wp_seq_k fun K135 hK135 => ?_
            refine region_lit ?_
            refine seq_val (.bool false) 79 rfl (by kernel_rfl) (by kernel_rfl) ?_
            refine seq_nil ?_
            refine hK135 _ _ ?_
            try clear hK135 K135
            refine wp_seq_k fun K136 hK136 => ?_
            refine cond_false (by kernel_rfl) ?_
            refine wp_exit ?_
            refine hK9 _ _ ?_
            try clear hK9 K9
            refine wp_seq_k fun K137 hK137 => ?_
            refine region_lit ?_
            refine seq_val (.int .i64 (((a : Nat) : Int))) 109 rfl (by kernel_rfl) (by kernel_rfl) ?_
            refine seq_val (.int .i64 (((b : Nat) : Int))) 110 rfl (by kernel_rfl) (by kernel_rfl) ?_
            refine seq_val (.bool false) 111 rfl (by kernel_rfl) (run_eq (u := .bool ((((a : Nat) : Int) != ((b : Nat) : Int)))) (by kernel_rfl) (congrArg Value.bool (by rw [hab]; exact bne_self_eq_false _))) ?_
            refine seq_val (.bool false) 112 rfl (by kernel_rfl) (by kernel_rfl) ?_
            refine seq_val (.int .i64 c) 113 rfl (by kernel_rfl) (by kernel_rfl) ?_
            refine seq_val (.int .i64 (((a : Nat) : Int))) 114 rfl (by kernel_rfl) (by kernel_rfl) ?_
            refine seq_val (.int .i64 (((2 * a : Nat) : Int))) 115 rfl (by kernel_rfl) (run_eq (u := .int .i64 (IntKind.i64.wrap (2 * ((a : Nat) : Int)))) (by kernel_rfl) (congrArg (Value.int .i64) (i64n _ _ (by omega) (by omega)))) ?_
            refine seq_val (.bool true) 116 rfl (by kernel_rfl) (run_eq (u := .bool ((c == ((2 * a : Nat) : Int)))) (by kernel_rfl) (congrArg Value.bool (by rw [hself]; exact beq_self_eq_true _))) ?_
            refine seq_val (.bool true) 117 rfl (by kernel_rfl) (by kernel_rfl) ?_
            refine seq_val (.bool true) 6 rfl (by kernel_rfl) (by kernel_rfl) ?_
            refine seq_nil ?_
            refine hK137 _ _ ?_
            try clear hK137 K137
            refine wp_ret ?_
            repeat (first | with_reducible refine goR1 ?_ | with_reducible refine goR2 ?_)
            exact (show bodyPost _ _ _ .ret _ _ from ret1 (.bool true) rfl (res_tmp (by kernel_rfl)) ⟨rfl, x8⟩)
          · skip
            refine region_lit ?_
            refine seq_val (.int .i64 (((a : Nat) : Int))) 90 rfl (by kernel_rfl) (by kernel_rfl) ?_
            refine seq_val (.int .i64 ((bel (kidR c) N).1)) 91 rfl (by kernel_rfl) (by kernel_rfl) ?_
            refine seq_val (.bool true) 92 rfl (by kernel_rfl) (run_eq (u := .bool (decide (((a : Nat) : Int) ≥ ((bel (kidR c) N).1)))) (by kernel_rfl) (congrArg Value.bool (decide_eq_true (by omega)))) ?_
            refine seq_val (.bool true) 93 rfl (by kernel_rfl) (by kernel_rfl) ?_
            refine seq_val (.int .i64 (((a : Nat) : Int))) 94 rfl (by kernel_rfl) (by kernel_rfl) ?_
            refine seq_val (.int .i64 ((bel (kidR c) N).2)) 95 rfl (by kernel_rfl) (by kernel_rfl) ?_
            refine seq_val (.bool true) 96 rfl (by kernel_rfl) (run_eq (u := .bool (decide (((a : Nat) : Int) ≤ ((bel (kidR c) N).2)))) (by kernel_rfl) (congrArg Value.bool (decide_eq_true (by omega)))) ?_
            refine seq_val (.bool true) 97 rfl (by kernel_rfl) (by kernel_rfl) ?_
            refine seq_val (.bool true) 98 rfl (by kernel_rfl) (by kernel_rfl) ?_
            refine seq_val (.int .i64 (((b : Nat) : Int))) 99 rfl (by kernel_rfl) (by kernel_rfl) ?_
            refine seq_val (.int .i64 ((bel (kidR c) N).1)) 100 rfl (by kernel_rfl) (by kernel_rfl) ?_
            refine seq_val (.bool true) 101 rfl (by kernel_rfl) (run_eq (u := .bool (decide (((b : Nat) : Int) ≥ ((bel (kidR c) N).1)))) (by kernel_rfl) (congrArg Value.bool (decide_eq_true (by omega)))) ?_
            refine seq_val (.bool true) 102 rfl (by kernel_rfl) (by kernel_rfl) ?_
            refine seq_val (.bool true) 103 rfl (by kernel_rfl) (by kernel_rfl) ?_
            refine seq_val (.int .i64 (((b : Nat) : Int))) 104 rfl (by kernel_rfl) (by kernel_rfl) ?_
            refine seq_val (.int .i64 ((bel (kidR c) N).2)) 105 rfl (by kernel_rfl) (by kernel_rfl) ?_
            refine seq_val (.bool false) 106 rfl (by kernel_rfl) (run_eq (u := .bool (decide (((b : Nat) : Int) ≤ ((bel (kidR c) N).2)))) (by kernel_rfl) (congrArg Value.bool (decide_eq_false (by omega)))) ?_
            refine seq_val (.bool false) 107 rfl (by kernel_rfl) (by kernel_rfl) ?_
            refine seq_nil ?_
            refine hK128 _ _ ?_
            try clear hK128 K128
            refine cond_false (by kernel_rfl) ?_
            refine wp_skip ?_
            refine hK119 _ _ ?_
            try clear hK119 K119
            refine region_lit ?_
            refine seq_val (.int .i64 2) 108 rfl (by kernel_rfl) (by kernel_rfl) ?_
            refine seq_val (.int .i64 2) 78 rfl (by kernel_rfl) (by kernel_rfl) ?_
            refine seq_nil ?_
            show Code.rounds _ _ _ 1 _ _
            show Code.wp _ _ (Exit.then (Code.rounds _ _ _ 0) _) _ _
            refine wp_seq_k fun K138 hK138 => ?_
            refine region_lit ?_
            refine seq_val (.bool false) 79 rfl (by kernel_rfl) (by kernel_rfl) ?_
            refine seq_nil ?_
            refine hK138 _ _ ?_
            try clear hK138 K138
            refine wp_seq_k fun K139 hK139 => ?_
            refine cond_false (by kernel_rfl) ?_
            refine wp_exit ?_
            refine hK9 _ _ ?_
            try clear hK9 K9
            refine wp_seq_k fun K140 hK140 => ?_
            refine region_lit ?_
            refine seq_val (.int .i64 (((a : Nat) : Int))) 109 rfl (by kernel_rfl) (by kernel_rfl) ?_
            refine seq_val (.int .i64 (((b : Nat) : Int))) 110 rfl (by kernel_rfl) (by kernel_rfl) ?_
            refine seq_val (.bool false) 111 rfl (by kernel_rfl) (run_eq (u := .bool ((((a : Nat) : Int) != ((b : Nat) : Int)))) (by kernel_rfl) (congrArg Value.bool (by rw [hab]; exact bne_self_eq_false _))) ?_
            refine seq_val (.bool false) 112 rfl (by kernel_rfl) (by kernel_rfl) ?_
            refine seq_val (.int .i64 c) 113 rfl (by kernel_rfl) (by kernel_rfl) ?_
            refine seq_val (.int .i64 (((a : Nat) : Int))) 114 rfl (by kernel_rfl) (by kernel_rfl) ?_
            refine seq_val (.int .i64 (((2 * a : Nat) : Int))) 115 rfl (by kernel_rfl) (run_eq (u := .int .i64 (IntKind.i64.wrap (2 * ((a : Nat) : Int)))) (by kernel_rfl) (congrArg (Value.int .i64) (i64n _ _ (by omega) (by omega)))) ?_
            refine seq_val (.bool true) 116 rfl (by kernel_rfl) (run_eq (u := .bool ((c == ((2 * a : Nat) : Int)))) (by kernel_rfl) (congrArg Value.bool (by rw [hself]; exact beq_self_eq_true _))) ?_
            refine seq_val (.bool true) 117 rfl (by kernel_rfl) (by kernel_rfl) ?_
            refine seq_val (.bool true) 6 rfl (by kernel_rfl) (by kernel_rfl) ?_
            refine seq_nil ?_
            refine hK140 _ _ ?_
            try clear hK140 K140
            refine wp_ret ?_
            repeat (first | with_reducible refine goR1 ?_ | with_reducible refine goR2 ?_)
            exact (show bodyPost _ _ _ .ret _ _ from ret1 (.bool true) rfl (res_tmp (by kernel_rfl)) ⟨rfl, x8⟩)
  · skip
    refine enter 118 [(0, .int .i64 i), (1, .int .i64 j), (2, .int .i64 k)] Tryd.func11 rfl rfl (by kernel_rfl) rfl ?_
    refine wp_seq_k fun K1 hK1 => ?_
    refine region_lit ?_
    refine seq_val (.bool false) 6 rfl (by kernel_rfl) (by kernel_rfl) ?_
    refine seq_nil ?_
    refine hK1 _ _ ?_
    try clear hK1 K1
    refine wp_seq_k fun K2 hK2 => ?_
    refine region_lit ?_
    refine seq_val (.int .i64 k) 17 rfl (by kernel_rfl) (by kernel_rfl) ?_
    refine seq_val (.int .u64 (((K : Nat) : Int))) 18 rfl (by kernel_rfl) (run_eq (u := .int .u64 (IntKind.u64.wrap (k))) (by kernel_rfl) (congrArg (Value.int .u64) hK)) ?_
    refine seq_val (.int .u64 (((K % 6 : Nat) : Int))) 19 rfl (by kernel_rfl) (run_eq (u := .int .u64 (Int.tmod (((K : Nat) : Int)) (6))) (by kernel_rfl) (congrArg (Value.int .u64) (nat_rem _ 6))) ?_
    refine seq_val (.int .i64 (((t : Nat) : Int))) 20 rfl (by kernel_rfl) (run_eq (u := .int .i64 (IntKind.i64.wrap (((K % 6 : Nat) : Int)))) (by kernel_rfl) (congrArg (Value.int .i64) (by rw [ht]; exact i64n _ _ rfl (by omega)))) ?_
    refine seq_val (.int .u64 (((t : Nat) : Int))) 21 rfl (by kernel_rfl) (run_eq (u := .int .u64 (IntKind.u64.wrap (((t : Nat) : Int)))) (by kernel_rfl) (congrArg (Value.int .u64) (u64_id t (by omega)))) ?_
    refine seq_val (.int .i64 (N)) 22 rfl (by kernel_rfl) (run_bin .shl _ _ _ _ .i64 .u64 _ _ _ rfl (by kernel_rfl) (by kernel_rfl) (b_shl _ _ _ _ _ _ (by omega) (hNs))) ?_
    refine seq_val (.int .i64 (N)) 7 rfl (by kernel_rfl) (by kernel_rfl) ?_
    refine seq_nil ?_
    refine hK2 _ _ ?_
    try clear hK2 K2
    refine wp_seq_k fun K3 hK3 => ?_
    refine any_region 13 [⟨none, [(0, none)]⟩, ⟨none, [(23, some 0)]⟩, ⟨none, [(7, none)]⟩, ⟨none, [(25, some 2)]⟩, ⟨none, [(24, some 1), (26, some 3)]⟩, ⟨none, [(27, some 4)]⟩, ⟨none, [(1, none)]⟩, ⟨none, [(29, some 6)]⟩, ⟨none, [(7, none)]⟩, ⟨none, [(31, some 8)]⟩, ⟨none, [(30, some 7), (32, some 9)]⟩, ⟨none, [(33, some 10)]⟩, ⟨none, [(28, some 5)]⟩] (by kernel_rfl) (by kernel_rfl) fun F hF => ?_
    refine any_val (.int .i64 i) (by kernel_rfl) (by kernel_rfl) (fun W => by kernel_rfl) ?_
    refine any_val (.int .u64 (((I : Nat) : Int))) (by kernel_rfl) (by kernel_rfl) (fun W => (run_eq (u := .int .u64 (IntKind.u64.wrap (i))) (by kernel_rfl) (congrArg (Value.int .u64) hI))) ?_
    refine any_val (.int .i64 (N)) (by kernel_rfl) (by kernel_rfl) (fun W => by kernel_rfl) ?_
    refine any_val (.int .u64 (N)) (by kernel_rfl) (by kernel_rfl) (fun W => (run_eq (u := .int .u64 (IntKind.u64.wrap (N))) (by kernel_rfl) (congrArg (Value.int .u64) (hNu)))) ?_
    refine any_val (.int .u64 ((a : Nat) : Int)) (by kernel_rfl) (by kernel_rfl) (fun W => (run_bin .rem _ _ _ _ .u64 .u64 _ _ _ rfl (by kernel_rfl) (by kernel_rfl) (b_rem _ _ _ _ _ (by omega) (har)))) ?_
    refine any_val (.int .i64 (((a : Nat) : Int))) (by kernel_rfl) (by kernel_rfl) (fun W => (run_eq (u := .int .i64 (IntKind.i64.wrap ((a : Nat) : Int))) (by kernel_rfl) (congrArg (Value.int .i64) (i64n _ _ rfl (by omega))))) ?_
    refine any_val (.int .i64 j) (by kernel_rfl) (by kernel_rfl) (fun W => by kernel_rfl) ?_
    refine any_val (.int .u64 (((J : Nat) : Int))) (by kernel_rfl) (by kernel_rfl) (fun W => (run_eq (u := .int .u64 (IntKind.u64.wrap (j))) (by kernel_rfl) (congrArg (Value.int .u64) hJ))) ?_
    refine any_val (.int .i64 (N)) (by kernel_rfl) (by kernel_rfl) (fun W => by kernel_rfl) ?_
    refine any_val (.int .u64 (N)) (by kernel_rfl) (by kernel_rfl) (fun W => (run_eq (u := .int .u64 (IntKind.u64.wrap (N))) (by kernel_rfl) (congrArg (Value.int .u64) (hNu)))) ?_
    refine any_val (.int .u64 ((b : Nat) : Int)) (by kernel_rfl) (by kernel_rfl) (fun W => (run_bin .rem _ _ _ _ .u64 .u64 _ _ _ rfl (by kernel_rfl) (by kernel_rfl) (b_rem _ _ _ _ _ (by omega) (hbr)))) ?_
    refine any_val (.int .i64 (((b : Nat) : Int))) (by kernel_rfl) (by kernel_rfl) (fun W => (run_eq (u := .int .i64 (IntKind.i64.wrap ((b : Nat) : Int))) (by kernel_rfl) (congrArg (Value.int .i64) (i64n _ _ rfl (by omega))))) ?_
    refine any_val (.int .i64 (((a : Nat) : Int))) (by kernel_rfl) (by kernel_rfl) (fun W => by kernel_rfl) ?_
    refine steps_nil (hF _ (by kernel_rfl) fun W1 e1 => ?_)
    simp only [ups, up, Kn.val, List.take_succ_cons, List.take_zero, List.drop_succ_cons, List.drop_zero, List.nil_append, List.cons_append]
    clear hF
    have x1 : Ext w W1 := Ext.tr (Rely.Ext.refl w) e1
    refine seq_val (.int .i64 (((b : Nat) : Int))) 1 rfl (by kernel_rfl) (by kernel_rfl) ?_
    refine seq_nil ?_
    refine hK3 _ _ ?_
    try clear hK3 K3
    refine wp_seq_k fun K4 hK4 => ?_
    refine region_lit ?_
    refine seq_val (.int .i64 (((a : Nat) : Int))) 35 rfl (by kernel_rfl) (by kernel_rfl) ?_
    refine seq_val (.int .i64 (((2 * a : Nat) : Int))) 36 rfl (by kernel_rfl) (run_eq (u := .int .i64 (IntKind.i64.wrap (2 * ((a : Nat) : Int)))) (by kernel_rfl) (congrArg (Value.int .i64) (i64n _ _ (by omega) (by omega)))) ?_
    refine seq_val (.int .i64 (((b : Nat) : Int))) 37 rfl (by kernel_rfl) (by kernel_rfl) ?_
    refine seq_val (.int .i64 (((2 * b : Nat) : Int))) 38 rfl (by kernel_rfl) (run_eq (u := .int .i64 (IntKind.i64.wrap (2 * ((b : Nat) : Int)))) (by kernel_rfl) (congrArg (Value.int .i64) (i64n _ _ (by omega) (by omega)))) ?_
    refine seq_val (.int .i64 (N)) 39 rfl (by kernel_rfl) (by kernel_rfl) ?_
    refine seq_call (.int .i64 c) 41 #[.int .i64 (((2 * a : Nat) : Int)), .int .i64 (((2 * b : Nat) : Int)), .int .i64 (N)] 40 rfl (by kernel_rfl) (by kernel_rfl) (hcc _ (TabAt.ext hT x1)) fun W2 e2 => ?_
    have x2 : Ext w W2 := Ext.tr x1 e2
    refine seq_val (.int .i64 c) 8 rfl (by kernel_rfl) (by kernel_rfl) ?_
    refine seq_nil ?_
    refine hK4 _ _ ?_
    try clear hK4 K4
    refine wp_seq_k fun K5 hK5 => ?_
    refine region_lit ?_
    refine seq_val (.int .i64 c) 42 rfl (by kernel_rfl) (by kernel_rfl) ?_
    refine seq_val (.int .i64 (N)) 43 rfl (by kernel_rfl) (by kernel_rfl) ?_
    refine seq_call (.tuple #[.int .i64 (bel c N).1, .int .i64 (bel c N).2]) 33 #[.int .i64 c, .int .i64 (N)] 44 rfl (by kernel_rfl) (by kernel_rfl) (belowR c N hci _ (TabAt.ext hT x2)) fun W3 e3 => ?_
    have x3 : Ext w W3 := Ext.tr x2 e3
    refine seq_val (.tuple #[.int .i64 (bel c N).1, .int .i64 (bel c N).2]) 41 rfl (by kernel_rfl) (by kernel_rfl) ?_
    refine seq_val (.int .i64 ((bel c N).1)) 45 rfl (by kernel_rfl) (by kernel_rfl) ?_
    refine seq_val (.int .i64 ((bel c N).2)) 46 rfl (by kernel_rfl) (by kernel_rfl) ?_
    refine seq_val (.int .i64 ((bel c N).1)) 9 rfl (by kernel_rfl) (by kernel_rfl) ?_
    refine seq_val (.int .i64 ((bel c N).2)) 10 rfl (by kernel_rfl) (by kernel_rfl) ?_
    refine seq_nil ?_
    refine hK5 _ _ ?_
    try clear hK5 K5
    refine wp_seq_k fun K6 hK6 => ?_
    refine wp_seq_k fun K7 hK7 => ?_
    refine region_lit ?_
    refine seq_call (.bool true) 26 #[] 47 rfl (by kernel_rfl) (by kernel_rfl) (aliveR _ (TabAt.ext hT x3)) fun W4 e4 => ?_
    have x4 : Ext w W4 := Ext.tr x3 e4
    refine seq_val (.bool false) 48 rfl (by kernel_rfl) (by kernel_rfl) ?_
    refine seq_val (.bool false) 49 rfl (by kernel_rfl) (by kernel_rfl) ?_
    refine seq_val (.int .i64 (((a : Nat) : Int))) 50 rfl (by kernel_rfl) (by kernel_rfl) ?_
    refine seq_val (.int .i64 ((bel c N).1)) 51 rfl (by kernel_rfl) (by kernel_rfl) ?_
    refine seq_val (.bool false) 52 rfl (by kernel_rfl) (run_eq (u := .bool (decide (((a : Nat) : Int) < ((bel c N).1)))) (by kernel_rfl) (congrArg Value.bool (decide_eq_false (by omega)))) ?_
    refine seq_val (.bool false) 53 rfl (by kernel_rfl) (by kernel_rfl) ?_
    refine seq_val (.bool false) 54 rfl (by kernel_rfl) (by kernel_rfl) ?_
    refine seq_val (.int .i64 (((a : Nat) : Int))) 55 rfl (by kernel_rfl) (by kernel_rfl) ?_
    refine seq_val (.int .i64 ((bel c N).2)) 56 rfl (by kernel_rfl) (by kernel_rfl) ?_
    refine seq_val (.bool false) 57 rfl (by kernel_rfl) (run_eq (u := .bool (decide (((a : Nat) : Int) > ((bel c N).2)))) (by kernel_rfl) (congrArg Value.bool (decide_eq_false (by omega)))) ?_
    refine seq_val (.bool false) 58 rfl (by kernel_rfl) (by kernel_rfl) ?_
    refine seq_val (.bool false) 59 rfl (by kernel_rfl) (by kernel_rfl) ?_
    refine seq_val (.int .i64 (((b : Nat) : Int))) 60 rfl (by kernel_rfl) (by kernel_rfl) ?_
    refine seq_val (.int .i64 ((bel c N).1)) 61 rfl (by kernel_rfl) (by kernel_rfl) ?_
    refine seq_val (.bool false) 62 rfl (by kernel_rfl) (run_eq (u := .bool (decide (((b : Nat) : Int) < ((bel c N).1)))) (by kernel_rfl) (congrArg Value.bool (decide_eq_false (by omega)))) ?_
    refine seq_val (.bool false) 63 rfl (by kernel_rfl) (by kernel_rfl) ?_
    refine seq_val (.bool false) 64 rfl (by kernel_rfl) (by kernel_rfl) ?_
    refine seq_val (.int .i64 (((b : Nat) : Int))) 65 rfl (by kernel_rfl) (by kernel_rfl) ?_
    refine seq_val (.int .i64 ((bel c N).2)) 66 rfl (by kernel_rfl) (by kernel_rfl) ?_
    refine seq_val (.bool false) 67 rfl (by kernel_rfl) (run_eq (u := .bool (decide (((b : Nat) : Int) > ((bel c N).2)))) (by kernel_rfl) (congrArg Value.bool (decide_eq_false (by omega)))) ?_
    refine seq_val (.bool false) 68 rfl (by kernel_rfl) (by kernel_rfl) ?_
    refine seq_nil ?_
    refine hK7 _ _ ?_
    try clear hK7 K7
    refine cond_false (by kernel_rfl) ?_
    refine wp_skip ?_
    refine hK6 _ _ ?_
    try clear hK6 K6
    refine wp_seq_k fun K8 hK8 => ?_
    refine region_lit ?_
    refine seq_val (.int .i64 c) 70 rfl (by kernel_rfl) (by kernel_rfl) ?_
    refine seq_call (.tuple #[.int .i64 (kidL c), .int .i64 (kidR c)]) 24 #[.int .i64 c] 71 rfl (by kernel_rfl) (by kernel_rfl) (childrenR c hci _ (TabAt.ext hT x4)) fun W5 e5 => ?_
    have x5 : Ext w W5 := Ext.tr x4 e5
    refine seq_val (.tuple #[.int .i64 (kidL c), .int .i64 (kidR c)]) 69 rfl (by kernel_rfl) (by kernel_rfl) ?_
    refine seq_val (.int .i64 (kidL c)) 72 rfl (by kernel_rfl) (by kernel_rfl) ?_
    refine seq_val (.int .i64 (kidR c)) 73 rfl (by kernel_rfl) (by kernel_rfl) ?_
    refine seq_val (.int .i64 (kidL c)) 11 rfl (by kernel_rfl) (by kernel_rfl) ?_
    refine seq_val (.int .i64 (kidR c)) 12 rfl (by kernel_rfl) (by kernel_rfl) ?_
    refine seq_nil ?_
    refine hK8 _ _ ?_
    try clear hK8 K8
    refine wp_seq_k fun K9 hK9 => ?_
    refine wp_seq_k fun K10 hK10 => ?_
    refine region_lit ?_
    refine seq_val (.int .i64 (kidL c)) 74 rfl (by kernel_rfl) (by kernel_rfl) ?_
    refine seq_val (.int .i64 (kidR c)) 75 rfl (by kernel_rfl) (by kernel_rfl) ?_
    refine seq_makeS (ints .i64 ([(kidL c), (kidR c)])) 3 2 76 rfl (by kernel_rfl) (by kernel_rfl) fun g11 W6 l11 e6 r11_6 => ?_
    have x6 : Ext w W6 := Ext.tr x5 e6
    have b11 : w.heap.size ≤ g11 := Nat.le_trans x5.size l11
    refine seq_val (.int .i64 2) 77 rfl (by kernel_rfl) (by kernel_rfl) ?_
    refine seq_val (.int .i64 0) 78 rfl (by kernel_rfl) (by kernel_rfl) ?_
    refine seq_nil ?_
    refine hK10 _ _ ?_
    try clear hK10 K10
    refine wp_block ?_
    refine wp_loop_rounds 3 ?_
    show Code.wp _ _ (Exit.then (Code.rounds _ _ _ 2) _) _ _
    refine wp_seq_k fun K12 hK12 => ?_
    refine region_lit ?_
    refine seq_val (.bool true) 79 rfl (by kernel_rfl) (by kernel_rfl) ?_
    refine seq_nil ?_
    refine hK12 _ _ ?_
    try clear hK12 K12
    refine wp_seq_k fun K13 hK13 => ?_
    refine cond_true (by kernel_rfl) ?_
    refine wp_skip ?_
    refine hK13 _ _ ?_
    try clear hK13 K13
    refine wp_seq_k fun K14 hK14 => ?_
    refine wp_block ?_
    refine wp_seq_k fun K15 hK15 => ?_
    refine region_lit ?_
    refine seq_val (.pointer (some ⟨g11, 0, none⟩)) 80 rfl (by kernel_rfl) (run_indexS0 57 _ _ .i64 (0) g11 2 2 3 rfl (by kernel_rfl) (by kernel_rfl) (by kernel_rfl) (by kernel_rfl) (by decide)) ?_
    refine seq_val (.int .i64 (kidL c)) 81 rfl (by kernel_rfl) (run_loadC1 3 _ g11 0 3 _ (.int .i64 (kidL c)) _ r11_6 rfl (by kernel_rfl) (by kernel_rfl) (by kernel_rfl)) ?_
    refine seq_val (.int .i64 (kidL c)) 14 rfl (by kernel_rfl) (by kernel_rfl) ?_
    refine seq_nil ?_
    refine hK15 _ _ ?_
    try clear hK15 K15
    refine wp_seq_k fun K16 hK16 => ?_
    refine wp_seq_k fun K17 hK17 => ?_
    refine region_lit ?_
    refine seq_val (.int .i64 (kidL c)) 82 rfl (by kernel_rfl) (by kernel_rfl) ?_
    refine seq_val (.bool (decide ((kidL c) < 0))) 83 rfl (by kernel_rfl) (by kernel_rfl) ?_
    refine seq_nil ?_
    refine hK17 _ _ ?_
    try clear hK17 K17
    refine cond_split (t := decide ((kidL c) < 0)) (by kernel_rfl) (fun c18 => ?_) (fun c18 => ?_)
    · skip
      have hzL : kidL c < 0 := of_decide_eq_true c18
      refine wp_exit ?_
      refine hK14 _ _ ?_
      try clear hK14 K14
      refine region_lit ?_
      refine seq_val (.int .i64 1) 108 rfl (by kernel_rfl) (by kernel_rfl) ?_
      refine seq_val (.int .i64 1) 78 rfl (by kernel_rfl) (by kernel_rfl) ?_
      refine seq_nil ?_
      show Code.rounds _ _ _ 2 _ _
      show Code.wp _ _ (Exit.then (Code.rounds _ _ _ 1) _) _ _
      refine wp_seq_k fun K19 hK19 => ?_
      refine region_lit ?_
      refine seq_val (.bool true) 79 rfl (by kernel_rfl) (by kernel_rfl) ?_
      refine seq_nil ?_
      refine hK19 _ _ ?_
      try clear hK19 K19
      refine wp_seq_k fun K20 hK20 => ?_
      refine cond_true (by kernel_rfl) ?_
      refine wp_skip ?_
      refine hK20 _ _ ?_
      try clear hK20 K20
      refine wp_seq_k fun K21 hK21 => ?_
      refine wp_block ?_
      refine wp_seq_k fun K22 hK22 => ?_
      refine region_lit ?_
      refine seq_val (.pointer (some ⟨g11, 1, none⟩)) 80 rfl (by kernel_rfl) (run_indexS0 57 _ _ .i64 (1) g11 2 2 3 rfl (by kernel_rfl) (by kernel_rfl) (by kernel_rfl) (by kernel_rfl) (by decide)) ?_
      refine seq_val (.int .i64 (kidR c)) 81 rfl (by kernel_rfl) (run_loadC1 3 _ g11 1 3 _ (.int .i64 (kidR c)) _ r11_6 rfl (by kernel_rfl) (by kernel_rfl) (by kernel_rfl)) ?_
      refine seq_val (.int .i64 (kidR c)) 14 rfl (by kernel_rfl) (by kernel_rfl) ?_
      refine seq_nil ?_
      refine hK22 _ _ ?_
      try clear hK22 K22
      refine wp_seq_k fun K23 hK23 => ?_
      refine wp_seq_k fun K24 hK24 => ?_
      refine region_lit ?_
      refine seq_val (.int .i64 (kidR c)) 82 rfl (by kernel_rfl) (by kernel_rfl) ?_
      refine seq_val (.bool (decide ((kidR c) < 0))) 83 rfl (by kernel_rfl) (by kernel_rfl) ?_
      refine seq_nil ?_
      refine hK24 _ _ ?_
      try clear hK24 K24
      refine cond_split (t := decide ((kidR c) < 0)) (by kernel_rfl) (fun c25 => ?_) (fun c25 => ?_)
      · skip
        have hzR : kidR c < 0 := of_decide_eq_true c25
        refine wp_exit ?_
        refine hK21 _ _ ?_
        try clear hK21 K21
        refine region_lit ?_
        refine seq_val (.int .i64 2) 108 rfl (by kernel_rfl) (by kernel_rfl) ?_
        refine seq_val (.int .i64 2) 78 rfl (by kernel_rfl) (by kernel_rfl) ?_
        refine seq_nil ?_
        show Code.rounds _ _ _ 1 _ _
        show Code.wp _ _ (Exit.then (Code.rounds _ _ _ 0) _) _ _
        refine wp_seq_k fun K26 hK26 => ?_
        refine region_lit ?_
        refine seq_val (.bool false) 79 rfl (by kernel_rfl) (by kernel_rfl) ?_
        refine seq_nil ?_
        refine hK26 _ _ ?_
        try clear hK26 K26
        refine wp_seq_k fun K27 hK27 => ?_
        refine cond_false (by kernel_rfl) ?_
        refine wp_exit ?_
        refine hK9 _ _ ?_
        try clear hK9 K9
        refine wp_seq_k fun K28 hK28 => ?_
        refine region_lit ?_
        refine seq_val (.int .i64 (((a : Nat) : Int))) 109 rfl (by kernel_rfl) (by kernel_rfl) ?_
        refine seq_val (.int .i64 (((b : Nat) : Int))) 110 rfl (by kernel_rfl) (by kernel_rfl) ?_
        refine seq_val (.bool true) 111 rfl (by kernel_rfl) (run_eq (u := .bool ((((a : Nat) : Int) != ((b : Nat) : Int)))) (by kernel_rfl) (congrArg Value.bool (bne_iff_ne.2 (by omega)))) ?_
        refine seq_val (.bool true) 112 rfl (by kernel_rfl) (by kernel_rfl) ?_
        refine seq_skip 113 rfl (by kernel_rfl) ?_
        refine seq_skip 114 rfl (by kernel_rfl) ?_
        refine seq_skip 115 rfl (by kernel_rfl) ?_
        refine seq_skip 116 rfl (by kernel_rfl) ?_
        refine seq_val (.bool true) 117 rfl (by kernel_rfl) (by kernel_rfl) ?_
        refine seq_val (.bool true) 6 rfl (by kernel_rfl) (by kernel_rfl) ?_
        refine seq_nil ?_
        refine hK28 _ _ ?_
        try clear hK28 K28
        refine wp_ret ?_
        repeat (first | with_reducible refine goR1 ?_ | with_reducible refine goR2 ?_)
        exact (show bodyPost _ _ _ .ret _ _ from ret1 (.bool true) rfl (res_tmp (by kernel_rfl)) ⟨rfl, x6⟩)
      · skip
        have hzR : ¬ kidR c < 0 := of_decide_eq_false c25
        refine wp_skip ?_
        refine hK23 _ _ ?_
        try clear hK23 K23
        refine wp_seq_k fun K29 hK29 => ?_
        refine region_lit ?_
        refine seq_val (.int .i64 (kidR c)) 85 rfl (by kernel_rfl) (by kernel_rfl) ?_
        refine seq_val (.int .i64 (N)) 86 rfl (by kernel_rfl) (by kernel_rfl) ?_
        refine seq_call (.tuple #[.int .i64 (bel (kidR c) N).1, .int .i64 (bel (kidR c) N).2]) 33 #[.int .i64 (kidR c), .int .i64 (N)] 87 rfl (by kernel_rfl) (by kernel_rfl) (belowR (kidR c) N (by unfold i64; omega) _ (TabAt.ext hT x6)) fun W7 e7 => ?_
        have x7 : Ext w W7 := Ext.tr x6 e7
        refine seq_val (.tuple #[.int .i64 (bel (kidR c) N).1, .int .i64 (bel (kidR c) N).2]) 84 rfl (by kernel_rfl) (by kernel_rfl) ?_
        refine seq_val (.int .i64 ((bel (kidR c) N).1)) 88 rfl (by kernel_rfl) (by kernel_rfl) ?_
        refine seq_val (.int .i64 ((bel (kidR c) N).2)) 89 rfl (by kernel_rfl) (by kernel_rfl) ?_
        refine seq_val (.int .i64 ((bel (kidR c) N).1)) 15 rfl (by kernel_rfl) (by kernel_rfl) ?_
        refine seq_val (.int .i64 ((bel (kidR c) N).2)) 16 rfl (by kernel_rfl) (by kernel_rfl) ?_
        refine seq_nil ?_
        refine hK29 _ _ ?_
        try clear hK29 K29
        refine wp_seq_k fun K30 hK30 => ?_
        rcases out4 (hoR.resolve_left hzR) with ho4 | ho4 | ho4 | ho4
        · skip
          refine region_lit ?_
          refine seq_val (.int .i64 (((a : Nat) : Int))) 90 rfl (by kernel_rfl) (by kernel_rfl) ?_
          refine seq_val (.int .i64 ((bel (kidR c) N).1)) 91 rfl (by kernel_rfl) (by kernel_rfl) ?_
          refine seq_val (.bool false) 92 rfl (by kernel_rfl) (run_eq (u := .bool (decide (((a : Nat) : Int) ≥ ((bel (kidR c) N).1)))) (by kernel_rfl) (congrArg Value.bool (decide_eq_false (by omega)))) ?_
          refine seq_val (.bool false) 93 rfl (by kernel_rfl) (by kernel_rfl) ?_
          refine seq_skip 94 rfl (by kernel_rfl) ?_
          refine seq_skip 95 rfl (by kernel_rfl) ?_
          refine seq_skip 96 rfl (by kernel_rfl) ?_
          refine seq_val (.bool false) 97 rfl (by kernel_rfl) (by kernel_rfl) ?_
          refine seq_val (.bool false) 98 rfl (by kernel_rfl) (by kernel_rfl) ?_
          refine seq_skip 99 rfl (by kernel_rfl) ?_
          refine seq_skip 100 rfl (by kernel_rfl) ?_
          refine seq_skip 101 rfl (by kernel_rfl) ?_
          refine seq_val (.bool false) 102 rfl (by kernel_rfl) (by kernel_rfl) ?_
          refine seq_val (.bool false) 103 rfl (by kernel_rfl) (by kernel_rfl) ?_
          refine seq_skip 104 rfl (by kernel_rfl) ?_
          refine seq_skip 105 rfl (by kernel_rfl) ?_
          refine seq_skip 106 rfl (by kernel_rfl) ?_
          refine seq_val (.bool false) 107 rfl (by kernel_rfl) (by kernel_rfl) ?_
          refine seq_nil ?_
          refine hK30 _ _ ?_
          try clear hK30 K30
          refine cond_false (by kernel_rfl) ?_
          refine wp_skip ?_
          refine hK21 _ _ ?_
          try clear hK21 K21
          refine region_lit ?_
          refine seq_val (.int .i64 2) 108 rfl (by kernel_rfl) (by kernel_rfl) ?_
          refine seq_val (.int .i64 2) 78 rfl (by kernel_rfl) (by kernel_rfl) ?_
          refine seq_nil ?_
          show Code.rounds _ _ _ 1 _ _
          show Code.wp _ _ (Exit.then (Code.rounds _ _ _ 0) _) _ _
          refine wp_seq_k fun K31 hK31 => ?_
          refine region_lit ?_
          refine seq_val (.bool false) 79 rfl (by kernel_rfl) (by kernel_rfl) ?_
          refine seq_nil ?_
          refine hK31 _ _ ?_
          try clear hK31 K31
          refine wp_seq_k fun K32 hK32 => ?_
          refine cond_false (by kernel_rfl) ?_
          refine wp_exit ?_
          refine hK9 _ _ ?_
          try clear hK9 K9
          refine wp_seq_k fun K33 hK33 => ?_
          refine region_lit ?_
          refine seq_val (.int .i64 (((a : Nat) : Int))) 109 rfl (by kernel_rfl) (by kernel_rfl) ?_
          refine seq_val (.int .i64 (((b : Nat) : Int))) 110 rfl (by kernel_rfl) (by kernel_rfl) ?_
          refine seq_val (.bool true) 111 rfl (by kernel_rfl) (run_eq (u := .bool ((((a : Nat) : Int) != ((b : Nat) : Int)))) (by kernel_rfl) (congrArg Value.bool (bne_iff_ne.2 (by omega)))) ?_
          refine seq_val (.bool true) 112 rfl (by kernel_rfl) (by kernel_rfl) ?_
          refine seq_skip 113 rfl (by kernel_rfl) ?_
          refine seq_skip 114 rfl (by kernel_rfl) ?_
          refine seq_skip 115 rfl (by kernel_rfl) ?_
          refine seq_skip 116 rfl (by kernel_rfl) ?_
          refine seq_val (.bool true) 117 rfl (by kernel_rfl) (by kernel_rfl) ?_
          refine seq_val (.bool true) 6 rfl (by kernel_rfl) (by kernel_rfl) ?_
          refine seq_nil ?_
          refine hK33 _ _ ?_
          try clear hK33 K33
          refine wp_ret ?_
          repeat (first | with_reducible refine goR1 ?_ | with_reducible refine goR2 ?_)
          exact (show bodyPost _ _ _ .ret _ _ from ret1 (.bool true) rfl (res_tmp (by kernel_rfl)) ⟨rfl, x7⟩)
        · skip
          refine region_lit ?_
          refine seq_val (.int .i64 (((a : Nat) : Int))) 90 rfl (by kernel_rfl) (by kernel_rfl) ?_
          refine seq_val (.int .i64 ((bel (kidR c) N).1)) 91 rfl (by kernel_rfl) (by kernel_rfl) ?_
          refine seq_val (.bool true) 92 rfl (by kernel_rfl) (run_eq (u := .bool (decide (((a : Nat) : Int) ≥ ((bel (kidR c) N).1)))) (by kernel_rfl) (congrArg Value.bool (decide_eq_true (by omega)))) ?_
          refine seq_val (.bool true) 93 rfl (by kernel_rfl) (by kernel_rfl) ?_
          refine seq_val (.int .i64 (((a : Nat) : Int))) 94 rfl (by kernel_rfl) (by kernel_rfl) ?_
          refine seq_val (.int .i64 ((bel (kidR c) N).2)) 95 rfl (by kernel_rfl) (by kernel_rfl) ?_
          refine seq_val (.bool false) 96 rfl (by kernel_rfl) (run_eq (u := .bool (decide (((a : Nat) : Int) ≤ ((bel (kidR c) N).2)))) (by kernel_rfl) (congrArg Value.bool (decide_eq_false (by omega)))) ?_
          refine seq_val (.bool false) 97 rfl (by kernel_rfl) (by kernel_rfl) ?_
          refine seq_val (.bool false) 98 rfl (by kernel_rfl) (by kernel_rfl) ?_
          refine seq_skip 99 rfl (by kernel_rfl) ?_
          refine seq_skip 100 rfl (by kernel_rfl) ?_
          refine seq_skip 101 rfl (by kernel_rfl) ?_
          refine seq_val (.bool false) 102 rfl (by kernel_rfl) (by kernel_rfl) ?_
          refine seq_val (.bool false) 103 rfl (by kernel_rfl) (by kernel_rfl) ?_
          refine seq_skip 104 rfl (by kernel_rfl) ?_
          refine seq_skip 105 rfl (by kernel_rfl) ?_
          refine seq_skip 106 rfl (by kernel_rfl) ?_
          refine seq_val (.bool false) 107 rfl (by kernel_rfl) (by kernel_rfl) ?_
          refine seq_nil ?_
          refine hK30 _ _ ?_
          try clear hK30 K30
          refine cond_false (by kernel_rfl) ?_
          refine wp_skip ?_
          refine hK21 _ _ ?_
          try clear hK21 K21
          refine region_lit ?_
          refine seq_val (.int .i64 2) 108 rfl (by kernel_rfl) (by kernel_rfl) ?_
          refine seq_val (.int .i64 2) 78 rfl (by kernel_rfl) (by kernel_rfl) ?_
          refine seq_nil ?_
          show Code.rounds _ _ _ 1 _ _
          show Code.wp _ _ (Exit.then (Code.rounds _ _ _ 0) _) _ _
          refine wp_seq_k fun K34 hK34 => ?_
          refine region_lit ?_
          refine seq_val (.bool false) 79 rfl (by kernel_rfl) (by kernel_rfl) ?_
          refine seq_nil ?_
          refine hK34 _ _ ?_
          try clear hK34 K34
          refine wp_seq_k fun K35 hK35 => ?_
          refine cond_false (by kernel_rfl) ?_
          refine wp_exit ?_
          refine hK9 _ _ ?_
          try clear hK9 K9
          refine wp_seq_k fun K36 hK36 => ?_
          refine region_lit ?_
          refine seq_val (.int .i64 (((a : Nat) : Int))) 109 rfl (by kernel_rfl) (by kernel_rfl) ?_
          refine seq_val (.int .i64 (((b : Nat) : Int))) 110 rfl (by kernel_rfl) (by kernel_rfl) ?_
          refine seq_val (.bool true) 111 rfl (by kernel_rfl) (run_eq (u := .bool ((((a : Nat) : Int) != ((b : Nat) : Int)))) (by kernel_rfl) (congrArg Value.bool (bne_iff_ne.2 (by omega)))) ?_
          refine seq_val (.bool true) 112 rfl (by kernel_rfl) (by kernel_rfl) ?_
          refine seq_skip 113 rfl (by kernel_rfl) ?_
          refine seq_skip 114 rfl (by kernel_rfl) ?_
          refine seq_skip 115 rfl (by kernel_rfl) ?_
          refine seq_skip 116 rfl (by kernel_rfl) ?_
          refine seq_val (.bool true) 117 rfl (by kernel_rfl) (by kernel_rfl) ?_
          refine seq_val (.bool true) 6 rfl (by kernel_rfl) (by kernel_rfl) ?_
          refine seq_nil ?_
          refine hK36 _ _ ?_
          try clear hK36 K36
          refine wp_ret ?_
          repeat (first | with_reducible refine goR1 ?_ | with_reducible refine goR2 ?_)
          exact (show bodyPost _ _ _ .ret _ _ from ret1 (.bool true) rfl (res_tmp (by kernel_rfl)) ⟨rfl, x7⟩)
        · skip
          refine region_lit ?_
          refine seq_val (.int .i64 (((a : Nat) : Int))) 90 rfl (by kernel_rfl) (by kernel_rfl) ?_
          refine seq_val (.int .i64 ((bel (kidR c) N).1)) 91 rfl (by kernel_rfl) (by kernel_rfl) ?_
          refine seq_val (.bool true) 92 rfl (by kernel_rfl) (run_eq (u := .bool (decide (((a : Nat) : Int) ≥ ((bel (kidR c) N).1)))) (by kernel_rfl) (congrArg Value.bool (decide_eq_true (by omega)))) ?_
          refine seq_val (.bool true) 93 rfl (by kernel_rfl) (by kernel_rfl) ?_
          refine seq_val (.int .i64 (((a : Nat) : Int))) 94 rfl (by kernel_rfl) (by kernel_rfl) ?_
          refine seq_val (.int .i64 ((bel (kidR c) N).2)) 95 rfl (by kernel_rfl) (by kernel_rfl) ?_
          refine seq_val (.bool true) 96 rfl (by kernel_rfl) (run_eq (u := .bool (decide (((a : Nat) : Int) ≤ ((bel (kidR c) N).2)))) (by kernel_rfl) (congrArg Value.bool (decide_eq_true (by omega)))) ?_
          refine seq_val (.bool true) 97 rfl (by kernel_rfl) (by kernel_rfl) ?_
          refine seq_val (.bool true) 98 rfl (by kernel_rfl) (by kernel_rfl) ?_
          refine seq_val (.int .i64 (((b : Nat) : Int))) 99 rfl (by kernel_rfl) (by kernel_rfl) ?_
          refine seq_val (.int .i64 ((bel (kidR c) N).1)) 100 rfl (by kernel_rfl) (by kernel_rfl) ?_
          refine seq_val (.bool false) 101 rfl (by kernel_rfl) (run_eq (u := .bool (decide (((b : Nat) : Int) ≥ ((bel (kidR c) N).1)))) (by kernel_rfl) (congrArg Value.bool (decide_eq_false (by omega)))) ?_
          refine seq_val (.bool false) 102 rfl (by kernel_rfl) (by kernel_rfl) ?_
          refine seq_val (.bool false) 103 rfl (by kernel_rfl) (by kernel_rfl) ?_
          refine seq_skip 104 rfl (by kernel_rfl) ?_
          refine seq_skip 105 rfl (by kernel_rfl) ?_
          refine seq_skip 106 rfl (by kernel_rfl) ?_
          refine seq_val (.bool false) 107 rfl (by kernel_rfl) (by kernel_rfl) ?_
          refine seq_nil ?_
          refine hK30 _ _ ?_
          try clear hK30 K30
          refine cond_false (by kernel_rfl) ?_
          refine wp_skip ?_
          refine hK21 _ _ ?_
          try clear hK21 K21
          refine region_lit ?_
          refine seq_val (.int .i64 2) 108 rfl (by kernel_rfl) (by kernel_rfl) ?_
          refine seq_val (.int .i64 2) 78 rfl (by kernel_rfl) (by kernel_rfl) ?_
          refine seq_nil ?_
          show Code.rounds _ _ _ 1 _ _
          show Code.wp _ _ (Exit.then (Code.rounds _ _ _ 0) _) _ _
          refine wp_seq_k fun K37 hK37 => ?_
          refine region_lit ?_
          refine seq_val (.bool false) 79 rfl (by kernel_rfl) (by kernel_rfl) ?_
          refine seq_nil ?_
          refine hK37 _ _ ?_
          try clear hK37 K37
          refine wp_seq_k fun K38 hK38 => ?_
          refine cond_false (by kernel_rfl) ?_
          refine wp_exit ?_
          refine hK9 _ _ ?_
          try clear hK9 K9
          refine wp_seq_k fun K39 hK39 => ?_
          refine region_lit ?_
          refine seq_val (.int .i64 (((a : Nat) : Int))) 109 rfl (by kernel_rfl) (by kernel_rfl) ?_
          refine seq_val (.int .i64 (((b : Nat) : Int))) 110 rfl (by kernel_rfl) (by kernel_rfl) ?_
          refine seq_val (.bool true) 111 rfl (by kernel_rfl) (run_eq (u := .bool ((((a : Nat) : Int) != ((b : Nat) : Int)))) (by kernel_rfl) (congrArg Value.bool (bne_iff_ne.2 (by omega)))) ?_
          refine seq_val (.bool true) 112 rfl (by kernel_rfl) (by kernel_rfl) ?_
          refine seq_skip 113 rfl (by kernel_rfl) ?_
          refine seq_skip 114 rfl (by kernel_rfl) ?_
          refine seq_skip 115 rfl (by kernel_rfl) ?_
          refine seq_skip 116 rfl (by kernel_rfl) ?_
          refine seq_val (.bool true) 117 rfl (by kernel_rfl) (by kernel_rfl) ?_
          refine seq_val (.bool true) 6 rfl (by kernel_rfl) (by kernel_rfl) ?_
          refine seq_nil ?_
          refine hK39 _ _ ?_
          try clear hK39 K39
          refine wp_ret ?_
          repeat (first | with_reducible refine goR1 ?_ | with_reducible refine goR2 ?_)
          exact (show bodyPost _ _ _ .ret _ _ from ret1 (.bool true) rfl (res_tmp (by kernel_rfl)) ⟨rfl, x7⟩)
        · skip
          refine region_lit ?_
          refine seq_val (.int .i64 (((a : Nat) : Int))) 90 rfl (by kernel_rfl) (by kernel_rfl) ?_
          refine seq_val (.int .i64 ((bel (kidR c) N).1)) 91 rfl (by kernel_rfl) (by kernel_rfl) ?_
          refine seq_val (.bool true) 92 rfl (by kernel_rfl) (run_eq (u := .bool (decide (((a : Nat) : Int) ≥ ((bel (kidR c) N).1)))) (by kernel_rfl) (congrArg Value.bool (decide_eq_true (by omega)))) ?_
          refine seq_val (.bool true) 93 rfl (by kernel_rfl) (by kernel_rfl) ?_
          refine seq_val (.int .i64 (((a : Nat) : Int))) 94 rfl (by kernel_rfl) (by kernel_rfl) ?_
          refine seq_val (.int .i64 ((bel (kidR c) N).2)) 95 rfl (by kernel_rfl) (by kernel_rfl) ?_
          refine seq_val (.bool true) 96 rfl (by kernel_rfl) (run_eq (u := .bool (decide (((a : Nat) : Int) ≤ ((bel (kidR c) N).2)))) (by kernel_rfl) (congrArg Value.bool (decide_eq_true (by omega)))) ?_
          refine seq_val (.bool true) 97 rfl (by kernel_rfl) (by kernel_rfl) ?_
          refine seq_val (.bool true) 98 rfl (by kernel_rfl) (by kernel_rfl) ?_
          refine seq_val (.int .i64 (((b : Nat) : Int))) 99 rfl (by kernel_rfl) (by kernel_rfl) ?_
          refine seq_val (.int .i64 ((bel (kidR c) N).1)) 100 rfl (by kernel_rfl) (by kernel_rfl) ?_
          refine seq_val (.bool true) 101 rfl (by kernel_rfl) (run_eq (u := .bool (decide (((b : Nat) : Int) ≥ ((bel (kidR c) N).1)))) (by kernel_rfl) (congrArg Value.bool (decide_eq_true (by omega)))) ?_
          refine seq_val (.bool true) 102 rfl (by kernel_rfl) (by kernel_rfl) ?_
          refine seq_val (.bool true) 103 rfl (by kernel_rfl) (by kernel_rfl) ?_
          refine seq_val (.int .i64 (((b : Nat) : Int))) 104 rfl (by kernel_rfl) (by kernel_rfl) ?_
          refine seq_val (.int .i64 ((bel (kidR c) N).2)) 105 rfl (by kernel_rfl) (by kernel_rfl) ?_
          refine seq_val (.bool false) 106 rfl (by kernel_rfl) (run_eq (u := .bool (decide (((b : Nat) : Int) ≤ ((bel (kidR c) N).2)))) (by kernel_rfl) (congrArg Value.bool (decide_eq_false (by omega)))) ?_
          refine seq_val (.bool false) 107 rfl (by kernel_rfl) (by kernel_rfl) ?_
          refine seq_nil ?_
          refine hK30 _ _ ?_
          try clear hK30 K30
          refine cond_false (by kernel_rfl) ?_
          refine wp_skip ?_
          refine hK21 _ _ ?_
          try clear hK21 K21
          refine region_lit ?_
          refine seq_val (.int .i64 2) 108 rfl (by kernel_rfl) (by kernel_rfl) ?_
          refine seq_val (.int .i64 2) 78 rfl (by kernel_rfl) (by kernel_rfl) ?_
          refine seq_nil ?_
          show Code.rounds _ _ _ 1 _ _
          show Code.wp _ _ (Exit.then (Code.rounds _ _ _ 0) _) _ _
          refine wp_seq_k fun K40 hK40 => ?_
          refine region_lit ?_
          refine seq_val (.bool false) 79 rfl (by kernel_rfl) (by kernel_rfl) ?_
          refine seq_nil ?_
          refine hK40 _ _ ?_
          try clear hK40 K40
          refine wp_seq_k fun K41 hK41 => ?_
          refine cond_false (by kernel_rfl) ?_
          refine wp_exit ?_
          refine hK9 _ _ ?_
          try clear hK9 K9
          refine wp_seq_k fun K42 hK42 => ?_
          refine region_lit ?_
          refine seq_val (.int .i64 (((a : Nat) : Int))) 109 rfl (by kernel_rfl) (by kernel_rfl) ?_
          refine seq_val (.int .i64 (((b : Nat) : Int))) 110 rfl (by kernel_rfl) (by kernel_rfl) ?_
          refine seq_val (.bool true) 111 rfl (by kernel_rfl) (run_eq (u := .bool ((((a : Nat) : Int) != ((b : Nat) : Int)))) (by kernel_rfl) (congrArg Value.bool (bne_iff_ne.2 (by omega)))) ?_
          refine seq_val (.bool true) 112 rfl (by kernel_rfl) (by kernel_rfl) ?_
          refine seq_skip 113 rfl (by kernel_rfl) ?_
          refine seq_skip 114 rfl (by kernel_rfl) ?_
          refine seq_skip 115 rfl (by kernel_rfl) ?_
          refine seq_skip 116 rfl (by kernel_rfl) ?_
          refine seq_val (.bool true) 117 rfl (by kernel_rfl) (by kernel_rfl) ?_
          refine seq_val (.bool true) 6 rfl (by kernel_rfl) (by kernel_rfl) ?_
          refine seq_nil ?_
          refine hK42 _ _ ?_
          try clear hK42 K42
          refine wp_ret ?_
          repeat (first | with_reducible refine goR1 ?_ | with_reducible refine goR2 ?_)
          exact (show bodyPost _ _ _ .ret _ _ from ret1 (.bool true) rfl (res_tmp (by kernel_rfl)) ⟨rfl, x7⟩)
    · skip
      have hzL : ¬ kidL c < 0 := of_decide_eq_false c18
      refine wp_skip ?_
      refine hK16 _ _ ?_
      try clear hK16 K16
      refine wp_seq_k fun K43 hK43 => ?_
      refine region_lit ?_
      refine seq_val (.int .i64 (kidL c)) 85 rfl (by kernel_rfl) (by kernel_rfl) ?_
      refine seq_val (.int .i64 (N)) 86 rfl (by kernel_rfl) (by kernel_rfl) ?_
      refine seq_call (.tuple #[.int .i64 (bel (kidL c) N).1, .int .i64 (bel (kidL c) N).2]) 33 #[.int .i64 (kidL c), .int .i64 (N)] 87 rfl (by kernel_rfl) (by kernel_rfl) (belowR (kidL c) N (by unfold i64; omega) _ (TabAt.ext hT x6)) fun W7 e7 => ?_
      have x7 : Ext w W7 := Ext.tr x6 e7
      refine seq_val (.tuple #[.int .i64 (bel (kidL c) N).1, .int .i64 (bel (kidL c) N).2]) 84 rfl (by kernel_rfl) (by kernel_rfl) ?_
      refine seq_val (.int .i64 ((bel (kidL c) N).1)) 88 rfl (by kernel_rfl) (by kernel_rfl) ?_
      refine seq_val (.int .i64 ((bel (kidL c) N).2)) 89 rfl (by kernel_rfl) (by kernel_rfl) ?_
      refine seq_val (.int .i64 ((bel (kidL c) N).1)) 15 rfl (by kernel_rfl) (by kernel_rfl) ?_
      refine seq_val (.int .i64 ((bel (kidL c) N).2)) 16 rfl (by kernel_rfl) (by kernel_rfl) ?_
      refine seq_nil ?_
      refine hK43 _ _ ?_
      try clear hK43 K43
      refine wp_seq_k fun K44 hK44 => ?_
      rcases out4 (hoL.resolve_left hzL) with ho4 | ho4 | ho4 | ho4
      · skip
        refine region_lit ?_
        refine seq_val (.int .i64 (((a : Nat) : Int))) 90 rfl (by kernel_rfl) (by kernel_rfl) ?_
        refine seq_val (.int .i64 ((bel (kidL c) N).1)) 91 rfl (by kernel_rfl) (by kernel_rfl) ?_
        refine seq_val (.bool false) 92 rfl (by kernel_rfl) (run_eq (u := .bool (decide (((a : Nat) : Int) ≥ ((bel (kidL c) N).1)))) (by kernel_rfl) (congrArg Value.bool (decide_eq_false (by omega)))) ?_
        refine seq_val (.bool false) 93 rfl (by kernel_rfl) (by kernel_rfl) ?_
        refine seq_skip 94 rfl (by kernel_rfl) ?_
        refine seq_skip 95 rfl (by kernel_rfl) ?_
        refine seq_skip 96 rfl (by kernel_rfl) ?_
        refine seq_val (.bool false) 97 rfl (by kernel_rfl) (by kernel_rfl) ?_
        refine seq_val (.bool false) 98 rfl (by kernel_rfl) (by kernel_rfl) ?_
        refine seq_skip 99 rfl (by kernel_rfl) ?_
        refine seq_skip 100 rfl (by kernel_rfl) ?_
        refine seq_skip 101 rfl (by kernel_rfl) ?_
        refine seq_val (.bool false) 102 rfl (by kernel_rfl) (by kernel_rfl) ?_
        refine seq_val (.bool false) 103 rfl (by kernel_rfl) (by kernel_rfl) ?_
        refine seq_skip 104 rfl (by kernel_rfl) ?_
        refine seq_skip 105 rfl (by kernel_rfl) ?_
        refine seq_skip 106 rfl (by kernel_rfl) ?_
        refine seq_val (.bool false) 107 rfl (by kernel_rfl) (by kernel_rfl) ?_
        refine seq_nil ?_
        refine hK44 _ _ ?_
        try clear hK44 K44
        refine cond_false (by kernel_rfl) ?_
        refine wp_skip ?_
        refine hK14 _ _ ?_
        try clear hK14 K14
        refine region_lit ?_
        refine seq_val (.int .i64 1) 108 rfl (by kernel_rfl) (by kernel_rfl) ?_
        refine seq_val (.int .i64 1) 78 rfl (by kernel_rfl) (by kernel_rfl) ?_
        refine seq_nil ?_
        show Code.rounds _ _ _ 2 _ _
        show Code.wp _ _ (Exit.then (Code.rounds _ _ _ 1) _) _ _
        refine wp_seq_k fun K45 hK45 => ?_
        refine region_lit ?_
        refine seq_val (.bool true) 79 rfl (by kernel_rfl) (by kernel_rfl) ?_
        refine seq_nil ?_
        refine hK45 _ _ ?_
        try clear hK45 K45
        refine wp_seq_k fun K46 hK46 => ?_
        refine cond_true (by kernel_rfl) ?_
        refine wp_skip ?_
        refine hK46 _ _ ?_
        try clear hK46 K46
        refine wp_seq_k fun K47 hK47 => ?_
        refine wp_block ?_
        refine wp_seq_k fun K48 hK48 => ?_
        refine region_lit ?_
        refine seq_val (.pointer (some ⟨g11, 1, none⟩)) 80 rfl (by kernel_rfl) (run_indexS0 57 _ _ .i64 (1) g11 2 2 3 rfl (by kernel_rfl) (by kernel_rfl) (by kernel_rfl) (by kernel_rfl) (by decide)) ?_
        have r11_7 := (row_ext r11_6 e7)
        refine seq_val (.int .i64 (kidR c)) 81 rfl (by kernel_rfl) (run_loadC1 3 _ g11 1 3 _ (.int .i64 (kidR c)) _ r11_7 rfl (by kernel_rfl) (by kernel_rfl) (by kernel_rfl)) ?_
        refine seq_val (.int .i64 (kidR c)) 14 rfl (by kernel_rfl) (by kernel_rfl) ?_
        refine seq_nil ?_
        refine hK48 _ _ ?_
        try clear hK48 K48
        refine wp_seq_k fun K49 hK49 => ?_
        refine wp_seq_k fun K50 hK50 => ?_
        refine region_lit ?_
        refine seq_val (.int .i64 (kidR c)) 82 rfl (by kernel_rfl) (by kernel_rfl) ?_
        refine seq_val (.bool (decide ((kidR c) < 0))) 83 rfl (by kernel_rfl) (by kernel_rfl) ?_
        refine seq_nil ?_
        refine hK50 _ _ ?_
        try clear hK50 K50
        refine cond_split (t := decide ((kidR c) < 0)) (by kernel_rfl) (fun c51 => ?_) (fun c51 => ?_)
        · skip
          have hzR : kidR c < 0 := of_decide_eq_true c51
          refine wp_exit ?_
          refine hK47 _ _ ?_
          try clear hK47 K47
          refine region_lit ?_
          refine seq_val (.int .i64 2) 108 rfl (by kernel_rfl) (by kernel_rfl) ?_
          refine seq_val (.int .i64 2) 78 rfl (by kernel_rfl) (by kernel_rfl) ?_
          refine seq_nil ?_
          show Code.rounds _ _ _ 1 _ _
          show Code.wp _ _ (Exit.then (Code.rounds _ _ _ 0) _) _ _
          refine wp_seq_k fun K52 hK52 => ?_
          refine region_lit ?_
          refine seq_val (.bool false) 79 rfl (by kernel_rfl) (by kernel_rfl) ?_
          refine seq_nil ?_
          refine hK52 _ _ ?_
          try clear hK52 K52
          refine wp_seq_k fun K53 hK53 => ?_
          refine cond_false (by kernel_rfl) ?_
          refine wp_exit ?_
          refine hK9 _ _ ?_
          try clear hK9 K9
          refine wp_seq_k fun K54 hK54 => ?_
          refine region_lit ?_
          refine seq_val (.int .i64 (((a : Nat) : Int))) 109 rfl (by kernel_rfl) (by kernel_rfl) ?_
          refine seq_val (.int .i64 (((b : Nat) : Int))) 110 rfl (by kernel_rfl) (by kernel_rfl) ?_
          refine seq_val (.bool true) 111 rfl (by kernel_rfl) (run_eq (u := .bool ((((a : Nat) : Int) != ((b : Nat) : Int)))) (by kernel_rfl) (congrArg Value.bool (bne_iff_ne.2 (by omega)))) ?_
          refine seq_val (.bool true) 112 rfl (by kernel_rfl) (by kernel_rfl) ?_
          refine seq_skip 113 rfl (by kernel_rfl) ?_
          refine seq_skip 114 rfl (by kernel_rfl) ?_
          refine seq_skip 115 rfl (by kernel_rfl) ?_
          refine seq_skip 116 rfl (by kernel_rfl) ?_
          refine seq_val (.bool true) 117 rfl (by kernel_rfl) (by kernel_rfl) ?_
          refine seq_val (.bool true) 6 rfl (by kernel_rfl) (by kernel_rfl) ?_
          refine seq_nil ?_
          refine hK54 _ _ ?_
          try clear hK54 K54
          refine wp_ret ?_
          repeat (first | with_reducible refine goR1 ?_ | with_reducible refine goR2 ?_)
          exact (show bodyPost _ _ _ .ret _ _ from ret1 (.bool true) rfl (res_tmp (by kernel_rfl)) ⟨rfl, x7⟩)
        · skip
          have hzR : ¬ kidR c < 0 := of_decide_eq_false c51
          refine wp_skip ?_
          refine hK49 _ _ ?_
          try clear hK49 K49
          refine wp_seq_k fun K55 hK55 => ?_
          refine region_lit ?_
          refine seq_val (.int .i64 (kidR c)) 85 rfl (by kernel_rfl) (by kernel_rfl) ?_
          refine seq_val (.int .i64 (N)) 86 rfl (by kernel_rfl) (by kernel_rfl) ?_
          refine seq_call (.tuple #[.int .i64 (bel (kidR c) N).1, .int .i64 (bel (kidR c) N).2]) 33 #[.int .i64 (kidR c), .int .i64 (N)] 87 rfl (by kernel_rfl) (by kernel_rfl) (belowR (kidR c) N (by unfold i64; omega) _ (TabAt.ext hT x7)) fun W8 e8 => ?_
          have x8 : Ext w W8 := Ext.tr x7 e8
          refine seq_val (.tuple #[.int .i64 (bel (kidR c) N).1, .int .i64 (bel (kidR c) N).2]) 84 rfl (by kernel_rfl) (by kernel_rfl) ?_
          refine seq_val (.int .i64 ((bel (kidR c) N).1)) 88 rfl (by kernel_rfl) (by kernel_rfl) ?_
          refine seq_val (.int .i64 ((bel (kidR c) N).2)) 89 rfl (by kernel_rfl) (by kernel_rfl) ?_
          refine seq_val (.int .i64 ((bel (kidR c) N).1)) 15 rfl (by kernel_rfl) (by kernel_rfl) ?_
          refine seq_val (.int .i64 ((bel (kidR c) N).2)) 16 rfl (by kernel_rfl) (by kernel_rfl) ?_
          refine seq_nil ?_
          refine hK55 _ _ ?_
          try clear hK55 K55
          refine wp_seq_k fun K56 hK56 => ?_
          rcases out4 (hoR.resolve_left hzR) with ho4 | ho4 | ho4 | ho4
          · skip
            refine region_lit ?_
            refine seq_val (.int .i64 (((a : Nat) : Int))) 90 rfl (by kernel_rfl) (by kernel_rfl) ?_
            refine seq_val (.int .i64 ((bel (kidR c) N).1)) 91 rfl (by kernel_rfl) (by kernel_rfl) ?_
            refine seq_val (.bool false) 92 rfl (by kernel_rfl) (run_eq (u := .bool (decide (((a : Nat) : Int) ≥ ((bel (kidR c) N).1)))) (by kernel_rfl) (congrArg Value.bool (decide_eq_false (by omega)))) ?_
            refine seq_val (.bool false) 93 rfl (by kernel_rfl) (by kernel_rfl) ?_
            refine seq_skip 94 rfl (by kernel_rfl) ?_
            refine seq_skip 95 rfl (by kernel_rfl) ?_
            refine seq_skip 96 rfl (by kernel_rfl) ?_
            refine seq_val (.bool false) 97 rfl (by kernel_rfl) (by kernel_rfl) ?_
            refine seq_val (.bool false) 98 rfl (by kernel_rfl) (by kernel_rfl) ?_
            refine seq_skip 99 rfl (by kernel_rfl) ?_
            refine seq_skip 100 rfl (by kernel_rfl) ?_
            refine seq_skip 101 rfl (by kernel_rfl) ?_
            refine seq_val (.bool false) 102 rfl (by kernel_rfl) (by kernel_rfl) ?_
            refine seq_val (.bool false) 103 rfl (by kernel_rfl) (by kernel_rfl) ?_
            refine seq_skip 104 rfl (by kernel_rfl) ?_
            refine seq_skip 105 rfl (by kernel_rfl) ?_
            refine seq_skip 106 rfl (by kernel_rfl) ?_
            refine seq_val (.bool false) 107 rfl (by kernel_rfl) (by kernel_rfl) ?_
            refine seq_nil ?_
            refine hK56 _ _ ?_
            try clear hK56 K56
            refine cond_false (by kernel_rfl) ?_
            refine wp_skip ?_
            refine hK47 _ _ ?_
            try clear hK47 K47
            refine region_lit ?_
            refine seq_val (.int .i64 2) 108 rfl (by kernel_rfl) (by kernel_rfl) ?_
            refine seq_val (.int .i64 2) 78 rfl (by kernel_rfl) (by kernel_rfl) ?_
            refine seq_nil ?_
            show Code.rounds _ _ _ 1 _ _
            show Code.wp _ _ (Exit.then (Code.rounds _ _ _ 0) _) _ _
            refine wp_seq_k fun K57 hK57 => ?_
            refine region_lit ?_
            refine seq_val (.bool false) 79 rfl (by kernel_rfl) (by kernel_rfl) ?_
            refine seq_nil ?_
            refine hK57 _ _ ?_
            try clear hK57 K57
            refine wp_seq_k fun K58 hK58 => ?_
            refine cond_false (by kernel_rfl) ?_
            refine wp_exit ?_
            refine hK9 _ _ ?_
            try clear hK9 K9
            refine wp_seq_k fun K59 hK59 => ?_
            refine region_lit ?_
            refine seq_val (.int .i64 (((a : Nat) : Int))) 109 rfl (by kernel_rfl) (by kernel_rfl) ?_
            refine seq_val (.int .i64 (((b : Nat) : Int))) 110 rfl (by kernel_rfl) (by kernel_rfl) ?_
            refine seq_val (.bool true) 111 rfl (by kernel_rfl) (run_eq (u := .bool ((((a : Nat) : Int) != ((b : Nat) : Int)))) (by kernel_rfl) (congrArg Value.bool (bne_iff_ne.2 (by omega)))) ?_
            refine seq_val (.bool true) 112 rfl (by kernel_rfl) (by kernel_rfl) ?_
            refine seq_skip 113 rfl (by kernel_rfl) ?_
            refine seq_skip 114 rfl (by kernel_rfl) ?_
            refine seq_skip 115 rfl (by kernel_rfl) ?_
            refine seq_skip 116 rfl (by kernel_rfl) ?_
            refine seq_val (.bool true) 117 rfl (by kernel_rfl) (by kernel_rfl) ?_
            refine seq_val (.bool true) 6 rfl (by kernel_rfl) (by kernel_rfl) ?_
            refine seq_nil ?_
            refine hK59 _ _ ?_
            try clear hK59 K59
            refine wp_ret ?_
            repeat (first | with_reducible refine goR1 ?_ | with_reducible refine goR2 ?_)
            exact (show bodyPost _ _ _ .ret _ _ from ret1 (.bool true) rfl (res_tmp (by kernel_rfl)) ⟨rfl, x8⟩)
          · skip
            refine region_lit ?_
            refine seq_val (.int .i64 (((a : Nat) : Int))) 90 rfl (by kernel_rfl) (by kernel_rfl) ?_
            refine seq_val (.int .i64 ((bel (kidR c) N).1)) 91 rfl (by kernel_rfl) (by kernel_rfl) ?_
            refine seq_val (.bool true) 92 rfl (by kernel_rfl) (run_eq (u := .bool (decide (((a : Nat) : Int) ≥ ((bel (kidR c) N).1)))) (by kernel_rfl) (congrArg Value.bool (decide_eq_true (by omega)))) ?_
            refine seq_val (.bool true) 93 rfl (by kernel_rfl) (by kernel_rfl) ?_
            refine seq_val (.int .i64 (((a : Nat) : Int))) 94 rfl (by kernel_rfl) (by kernel_rfl) ?_
            refine seq_val (.int .i64 ((bel (kidR c) N).2)) 95 rfl (by kernel_rfl) (by kernel_rfl) ?_
            refine seq_val (.bool false) 96 rfl (by kernel_rfl) (run_eq (u := .bool (decide (((a : Nat) : Int) ≤ ((bel (kidR c) N).2)))) (by kernel_rfl) (congrArg Value.bool (decide_eq_false (by omega)))) ?_
            refine seq_val (.bool false) 97 rfl (by kernel_rfl) (by kernel_rfl) ?_
            refine seq_val (.bool false) 98 rfl (by kernel_rfl) (by kernel_rfl) ?_
            refine seq_skip 99 rfl (by kernel_rfl) ?_
            refine seq_skip 100 rfl (by kernel_rfl) ?_
            refine seq_skip 101 rfl (by kernel_rfl) ?_
            refine seq_val (.bool false) 102 rfl (by kernel_rfl) (by kernel_rfl) ?_
            refine seq_val (.bool false) 103 rfl (by kernel_rfl) (by kernel_rfl) ?_
            refine seq_skip 104 rfl (by kernel_rfl) ?_
            refine seq_skip 105 rfl (by kernel_rfl) ?_
            refine seq_skip 106 rfl (by kernel_rfl) ?_
            refine seq_val (.bool false) 107 rfl (by kernel_rfl) (by kernel_rfl) ?_
            refine seq_nil ?_
            refine hK56 _ _ ?_
            try clear hK56 K56
            refine cond_false (by kernel_rfl) ?_
            refine wp_skip ?_
            refine hK47 _ _ ?_
            try clear hK47 K47
            refine region_lit ?_
            refine seq_val (.int .i64 2) 108 rfl (by kernel_rfl) (by kernel_rfl) ?_
            refine seq_val (.int .i64 2) 78 rfl (by kernel_rfl) (by kernel_rfl) ?_
            refine seq_nil ?_
            show Code.rounds _ _ _ 1 _ _
            show Code.wp _ _ (Exit.then (Code.rounds _ _ _ 0) _) _ _
            refine wp_seq_k fun K60 hK60 => ?_
            refine region_lit ?_
            refine seq_val (.bool false) 79 rfl (by kernel_rfl) (by kernel_rfl) ?_
            refine seq_nil ?_
            refine hK60 _ _ ?_
            try clear hK60 K60
            refine wp_seq_k fun K61 hK61 => ?_
            refine cond_false (by kernel_rfl) ?_
            refine wp_exit ?_
            refine hK9 _ _ ?_
            try clear hK9 K9
            refine wp_seq_k fun K62 hK62 => ?_
            refine region_lit ?_
            refine seq_val (.int .i64 (((a : Nat) : Int))) 109 rfl (by kernel_rfl) (by kernel_rfl) ?_
            refine seq_val (.int .i64 (((b : Nat) : Int))) 110 rfl (by kernel_rfl) (by kernel_rfl) ?_
            refine seq_val (.bool true) 111 rfl (by kernel_rfl) (run_eq (u := .bool ((((a : Nat) : Int) != ((b : Nat) : Int)))) (by kernel_rfl) (congrArg Value.bool (bne_iff_ne.2 (by omega)))) ?_
            refine seq_val (.bool true) 112 rfl (by kernel_rfl) (by kernel_rfl) ?_
            refine seq_skip 113 rfl (by kernel_rfl) ?_
            refine seq_skip 114 rfl (by kernel_rfl) ?_
            refine seq_skip 115 rfl (by kernel_rfl) ?_
            refine seq_skip 116 rfl (by kernel_rfl) ?_
            refine seq_val (.bool true) 117 rfl (by kernel_rfl) (by kernel_rfl) ?_
            refine seq_val (.bool true) 6 rfl (by kernel_rfl) (by kernel_rfl) ?_
            refine seq_nil ?_
            refine hK62 _ _ ?_
            try clear hK62 K62
            refine wp_ret ?_
            repeat (first | with_reducible refine goR1 ?_ | with_reducible refine goR2 ?_)
            exact (show bodyPost _ _ _ .ret _ _ from ret1 (.bool true) rfl (res_tmp (by kernel_rfl)) ⟨rfl, x8⟩)
          · skip
            refine region_lit ?_
            refine seq_val (.int .i64 (((a : Nat) : Int))) 90 rfl (by kernel_rfl) (by kernel_rfl) ?_
            refine seq_val (.int .i64 ((bel (kidR c) N).1)) 91 rfl (by kernel_rfl) (by kernel_rfl) ?_
            refine seq_val (.bool true) 92 rfl (by kernel_rfl) (run_eq (u := .bool (decide (((a : Nat) : Int) ≥ ((bel (kidR c) N).1)))) (by kernel_rfl) (congrArg Value.bool (decide_eq_true (by omega)))) ?_
            refine seq_val (.bool true) 93 rfl (by kernel_rfl) (by kernel_rfl) ?_
            refine seq_val (.int .i64 (((a : Nat) : Int))) 94 rfl (by kernel_rfl) (by kernel_rfl) ?_
            refine seq_val (.int .i64 ((bel (kidR c) N).2)) 95 rfl (by kernel_rfl) (by kernel_rfl) ?_
            refine seq_val (.bool true) 96 rfl (by kernel_rfl) (run_eq (u := .bool (decide (((a : Nat) : Int) ≤ ((bel (kidR c) N).2)))) (by kernel_rfl) (congrArg Value.bool (decide_eq_true (by omega)))) ?_
            refine seq_val (.bool true) 97 rfl (by kernel_rfl) (by kernel_rfl) ?_
            refine seq_val (.bool true) 98 rfl (by kernel_rfl) (by kernel_rfl) ?_
            refine seq_val (.int .i64 (((b : Nat) : Int))) 99 rfl (by kernel_rfl) (by kernel_rfl) ?_
            refine seq_val (.int .i64 ((bel (kidR c) N).1)) 100 rfl (by kernel_rfl) (by kernel_rfl) ?_
            refine seq_val (.bool false) 101 rfl (by kernel_rfl) (run_eq (u := .bool (decide (((b : Nat) : Int) ≥ ((bel (kidR c) N).1)))) (by kernel_rfl) (congrArg Value.bool (decide_eq_false (by omega)))) ?_
            refine seq_val (.bool false) 102 rfl (by kernel_rfl) (by kernel_rfl) ?_
            refine seq_val (.bool false) 103 rfl (by kernel_rfl) (by kernel_rfl) ?_
            refine seq_skip 104 rfl (by kernel_rfl) ?_
            refine seq_skip 105 rfl (by kernel_rfl) ?_
            refine seq_skip 106 rfl (by kernel_rfl) ?_
            refine seq_val (.bool false) 107 rfl (by kernel_rfl) (by kernel_rfl) ?_
            refine seq_nil ?_
            refine hK56 _ _ ?_
            try clear hK56 K56
            refine cond_false (by kernel_rfl) ?_
            refine wp_skip ?_
            refine hK47 _ _ ?_
            try clear hK47 K47
            refine region_lit ?_
            refine seq_val (.int .i64 2) 108 rfl (by kernel_rfl) (by kernel_rfl) ?_
            refine seq_val (.int .i64 2) 78 rfl (by kernel_rfl) (by kernel_rfl) ?_
            refine seq_nil ?_
            show Code.rounds _ _ _ 1 _ _
            show Code.wp _ _ (Exit.then (Code.rounds _ _ _ 0) _) _ _
            refine wp_seq_k fun K63 hK63 => ?_
            refine region_lit ?_
            refine seq_val (.bool false) 79 rfl (by kernel_rfl) (by kernel_rfl) ?_
            refine seq_nil ?_
            refine hK63 _ _ ?_
            try clear hK63 K63
            refine wp_seq_k fun K64 hK64 => ?_
            refine cond_false (by kernel_rfl) ?_
            refine wp_exit ?_
            refine hK9 _ _ ?_
            try clear hK9 K9
            refine wp_seq_k fun K65 hK65 => ?_
            refine region_lit ?_
            refine seq_val (.int .i64 (((a : Nat) : Int))) 109 rfl (by kernel_rfl) (by kernel_rfl) ?_
            refine seq_val (.int .i64 (((b : Nat) : Int))) 110 rfl (by kernel_rfl) (by kernel_rfl) ?_
            refine seq_val (.bool true) 111 rfl (by kernel_rfl) (run_eq (u := .bool ((((a : Nat) : Int) != ((b : Nat) : Int)))) (by kernel_rfl) (congrArg Value.bool (bne_iff_ne.2 (by omega)))) ?_
            refine seq_val (.bool true) 112 rfl (by kernel_rfl) (by kernel_rfl) ?_
            refine seq_skip 113 rfl (by kernel_rfl) ?_
            refine seq_skip 114 rfl (by kernel_rfl) ?_
            refine seq_skip 115 rfl (by kernel_rfl) ?_
            refine seq_skip 116 rfl (by kernel_rfl) ?_
            refine seq_val (.bool true) 117 rfl (by kernel_rfl) (by kernel_rfl) ?_
            refine seq_val (.bool true) 6 rfl (by kernel_rfl) (by kernel_rfl) ?_
            refine seq_nil ?_
            refine hK65 _ _ ?_
            try clear hK65 K65
            refine wp_ret ?_
            repeat (first | with_reducible refine goR1 ?_ | with_reducible refine goR2 ?_)
            exact (show bodyPost _ _ _ .ret _ _ from ret1 (.bool true) rfl (res_tmp (by kernel_rfl)) ⟨rfl, x8⟩)
          · skip
            refine region_lit ?_
            refine seq_val (.int .i64 (((a : Nat) : Int))) 90 rfl (by kernel_rfl) (by kernel_rfl) ?_
            refine seq_val (.int .i64 ((bel (kidR c) N).1)) 91 rfl (by kernel_rfl) (by kernel_rfl) ?_
            refine seq_val (.bool true) 92 rfl (by kernel_rfl) (run_eq (u := .bool (decide (((a : Nat) : Int) ≥ ((bel (kidR c) N).1)))) (by kernel_rfl) (congrArg Value.bool (decide_eq_true (by omega)))) ?_
            refine seq_val (.bool true) 93 rfl (by kernel_rfl) (by kernel_rfl) ?_
            refine seq_val (.int .i64 (((a : Nat) : Int))) 94 rfl (by kernel_rfl) (by kernel_rfl) ?_
            refine seq_val (.int .i64 ((bel (kidR c) N).2)) 95 rfl (by kernel_rfl) (by kernel_rfl) ?_
            refine seq_val (.bool true) 96 rfl (by kernel_rfl) (run_eq (u := .bool (decide (((a : Nat) : Int) ≤ ((bel (kidR c) N).2)))) (by kernel_rfl) (congrArg Value.bool (decide_eq_true (by omega)))) ?_
            refine seq_val (.bool true) 97 rfl (by kernel_rfl) (by kernel_rfl) ?_
            refine seq_val (.bool true) 98 rfl (by kernel_rfl) (by kernel_rfl) ?_
            refine seq_val (.int .i64 (((b : Nat) : Int))) 99 rfl (by kernel_rfl) (by kernel_rfl) ?_
            refine seq_val (.int .i64 ((bel (kidR c) N).1)) 100 rfl (by kernel_rfl) (by kernel_rfl) ?_
            refine seq_val (.bool true) 101 rfl (by kernel_rfl) (run_eq (u := .bool (decide (((b : Nat) : Int) ≥ ((bel (kidR c) N).1)))) (by kernel_rfl) (congrArg Value.bool (decide_eq_true (by omega)))) ?_
            refine seq_val (.bool true) 102 rfl (by kernel_rfl) (by kernel_rfl) ?_
            refine seq_val (.bool true) 103 rfl (by kernel_rfl) (by kernel_rfl) ?_
            refine seq_val (.int .i64 (((b : Nat) : Int))) 104 rfl (by kernel_rfl) (by kernel_rfl) ?_
            refine seq_val (.int .i64 ((bel (kidR c) N).2)) 105 rfl (by kernel_rfl) (by kernel_rfl) ?_
            refine seq_val (.bool false) 106 rfl (by kernel_rfl) (run_eq (u := .bool (decide (((b : Nat) : Int) ≤ ((bel (kidR c) N).2)))) (by kernel_rfl) (congrArg Value.bool (decide_eq_false (by omega)))) ?_
            refine seq_val (.bool false) 107 rfl (by kernel_rfl) (by kernel_rfl) ?_
            refine seq_nil ?_
            refine hK56 _ _ ?_
            try clear hK56 K56
            refine cond_false (by kernel_rfl) ?_
            refine wp_skip ?_
            refine hK47 _ _ ?_
            try clear hK47 K47
            refine region_lit ?_
            refine seq_val (.int .i64 2) 108 rfl (by kernel_rfl) (by kernel_rfl) ?_
            refine seq_val (.int .i64 2) 78 rfl (by kernel_rfl) (by kernel_rfl) ?_
            refine seq_nil ?_
            show Code.rounds _ _ _ 1 _ _
            show Code.wp _ _ (Exit.then (Code.rounds _ _ _ 0) _) _ _
            refine wp_seq_k fun K66 hK66 => ?_
            refine region_lit ?_
            refine seq_val (.bool false) 79 rfl (by kernel_rfl) (by kernel_rfl) ?_
            refine seq_nil ?_
            refine hK66 _ _ ?_
            try clear hK66 K66
            refine wp_seq_k fun K67 hK67 => ?_
            refine cond_false (by kernel_rfl) ?_
            refine wp_exit ?_
            refine hK9 _ _ ?_
            try clear hK9 K9
            refine wp_seq_k fun K68 hK68 => ?_
            refine region_lit ?_
            refine seq_val (.int .i64 (((a : Nat) : Int))) 109 rfl (by kernel_rfl) (by kernel_rfl) ?_
            refine seq_val (.int .i64 (((b : Nat) : Int))) 110 rfl (by kernel_rfl) (by kernel_rfl) ?_
            refine seq_val (.bool true) 111 rfl (by kernel_rfl) (run_eq (u := .bool ((((a : Nat) : Int) != ((b : Nat) : Int)))) (by kernel_rfl) (congrArg Value.bool (bne_iff_ne.2 (by omega)))) ?_
            refine seq_val (.bool true) 112 rfl (by kernel_rfl) (by kernel_rfl) ?_
            refine seq_skip 113 rfl (by kernel_rfl) ?_
            refine seq_skip 114 rfl (by kernel_rfl) ?_
            refine seq_skip 115 rfl (by kernel_rfl) ?_
            refine seq_skip 116 rfl (by kernel_rfl) ?_
            refine seq_val (.bool true) 117 rfl (by kernel_rfl) (by kernel_rfl) ?_
            refine seq_val (.bool true) 6 rfl (by kernel_rfl) (by kernel_rfl) ?_
            refine seq_nil ?_
            refine hK68 _ _ ?_
            try clear hK68 K68
            refine wp_ret ?_
            repeat (first | with_reducible refine goR1 ?_ | with_reducible refine goR2 ?_)
            exact (show bodyPost _ _ _ .ret _ _ from ret1 (.bool true) rfl (res_tmp (by kernel_rfl)) ⟨rfl, x8⟩)
      · skip
        refine region_lit ?_
        refine seq_val (.int .i64 (((a : Nat) : Int))) 90 rfl (by kernel_rfl) (by kernel_rfl) ?_
        refine seq_val (.int .i64 ((bel (kidL c) N).1)) 91 rfl (by kernel_rfl) (by kernel_rfl) ?_
        refine seq_val (.bool true) 92 rfl (by kernel_rfl) (run_eq (u := .bool (decide (((a : Nat) : Int) ≥ ((bel (kidL c) N).1)))) (by kernel_rfl) (congrArg Value.bool (decide_eq_true (by omega)))) ?_
        refine seq_val (.bool true) 93 rfl (by kernel_rfl) (by kernel_rfl) ?_
        refine seq_val (.int .i64 (((a : Nat) : Int))) 94 rfl (by kernel_rfl) (by kernel_rfl) ?_
        refine seq_val (.int .i64 ((bel (kidL c) N).2)) 95 rfl (by kernel_rfl) (by kernel_rfl) ?_
        refine seq_val (.bool false) 96 rfl (by kernel_rfl) (run_eq (u := .bool (decide (((a : Nat) : Int) ≤ ((bel (kidL c) N).2)))) (by kernel_rfl) (congrArg Value.bool (decide_eq_false (by omega)))) ?_
        refine seq_val (.bool false) 97 rfl (by kernel_rfl) (by kernel_rfl) ?_
        refine seq_val (.bool false) 98 rfl (by kernel_rfl) (by kernel_rfl) ?_
        refine seq_skip 99 rfl (by kernel_rfl) ?_
        refine seq_skip 100 rfl (by kernel_rfl) ?_
        refine seq_skip 101 rfl (by kernel_rfl) ?_
        refine seq_val (.bool false) 102 rfl (by kernel_rfl) (by kernel_rfl) ?_
        refine seq_val (.bool false) 103 rfl (by kernel_rfl) (by kernel_rfl) ?_
        refine seq_skip 104 rfl (by kernel_rfl) ?_
        refine seq_skip 105 rfl (by kernel_rfl) ?_
        refine seq_skip 106 rfl (by kernel_rfl) ?_
        refine seq_val (.bool false) 107 rfl (by kernel_rfl) (by kernel_rfl) ?_
        refine seq_nil ?_
        refine hK44 _ _ ?_
        try clear hK44 K44
        refine cond_false (by kernel_rfl) ?_
        refine wp_skip ?_
        refine hK14 _ _ ?_
        try clear hK14 K14
        refine region_lit ?_
        refine seq_val (.int .i64 1) 108 rfl (by kernel_rfl) (by kernel_rfl) ?_
        refine seq_val (.int .i64 1) 78 rfl (by kernel_rfl) (by kernel_rfl) ?_
        refine seq_nil ?_
        show Code.rounds _ _ _ 2 _ _
        show Code.wp _ _ (Exit.then (Code.rounds _ _ _ 1) _) _ _
        refine wp_seq_k fun K69 hK69 => ?_
        refine region_lit ?_
        refine seq_val (.bool true) 79 rfl (by kernel_rfl) (by kernel_rfl) ?_
        refine seq_nil ?_
        refine hK69 _ _ ?_
        try clear hK69 K69
        refine wp_seq_k fun K70 hK70 => ?_
        refine cond_true (by kernel_rfl) ?_
        refine wp_skip ?_
        refine hK70 _ _ ?_
        try clear hK70 K70
        refine wp_seq_k fun K71 hK71 => ?_
        refine wp_block ?_
        refine wp_seq_k fun K72 hK72 => ?_
        refine region_lit ?_
        refine seq_val (.pointer (some ⟨g11, 1, none⟩)) 80 rfl (by kernel_rfl) (run_indexS0 57 _ _ .i64 (1) g11 2 2 3 rfl (by kernel_rfl) (by kernel_rfl) (by kernel_rfl) (by kernel_rfl) (by decide)) ?_
        have r11_7 := (row_ext r11_6 e7)
        refine seq_val (.int .i64 (kidR c)) 81 rfl (by kernel_rfl) (run_loadC1 3 _ g11 1 3 _ (.int .i64 (kidR c)) _ r11_7 rfl (by kernel_rfl) (by kernel_rfl) (by kernel_rfl)) ?_
        refine seq_val (.int .i64 (kidR c)) 14 rfl (by kernel_rfl) (by kernel_rfl) ?_
        refine seq_nil ?_
        refine hK72 _ _ ?_
        try clear hK72 K72
        refine wp_seq_k fun K73 hK73 => ?_
        refine wp_seq_k fun K74 hK74 => ?_
        refine region_lit ?_
        refine seq_val (.int .i64 (kidR c)) 82 rfl (by kernel_rfl) (by kernel_rfl) ?_
        refine seq_val (.bool (decide ((kidR c) < 0))) 83 rfl (by kernel_rfl) (by kernel_rfl) ?_
        refine seq_nil ?_
        refine hK74 _ _ ?_
        try clear hK74 K74
        refine cond_split (t := decide ((kidR c) < 0)) (by kernel_rfl) (fun c75 => ?_) (fun c75 => ?_)
        · skip
          have hzR : kidR c < 0 := of_decide_eq_true c75
          refine wp_exit ?_
          refine hK71 _ _ ?_
          try clear hK71 K71
          refine region_lit ?_
          refine seq_val (.int .i64 2) 108 rfl (by kernel_rfl) (by kernel_rfl) ?_
          refine seq_val (.int .i64 2) 78 rfl (by kernel_rfl) (by kernel_rfl) ?_
          refine seq_nil ?_
          show Code.rounds _ _ _ 1 _ _
          show Code.wp _ _ (Exit.then (Code.rounds _ _ _ 0) _) _ _
          refine wp_seq_k fun K76 hK76 => ?_
          refine region_lit ?_
          refine seq_val (.bool false) 79 rfl (by kernel_rfl) (by kernel_rfl) ?_
          refine seq_nil ?_
          refine hK76 _ _ ?_
          try clear hK76 K76
          refine wp_seq_k fun K77 hK77 => ?_
          refine cond_false (by kernel_rfl) ?_
          refine wp_exit ?_
          refine hK9 _ _ ?_
          try clear hK9 K9
          refine wp_seq_k fun K78 hK78 => ?_
          refine region_lit ?_
          refine seq_val (.int .i64 (((a : Nat) : Int))) 109 rfl (by kernel_rfl) (by kernel_rfl) ?_
          refine seq_val (.int .i64 (((b : Nat) : Int))) 110 rfl (by kernel_rfl) (by kernel_rfl) ?_
          refine seq_val (.bool true) 111 rfl (by kernel_rfl) (run_eq (u := .bool ((((a : Nat) : Int) != ((b : Nat) : Int)))) (by kernel_rfl) (congrArg Value.bool (bne_iff_ne.2 (by omega)))) ?_
          refine seq_val (.bool true) 112 rfl (by kernel_rfl) (by kernel_rfl) ?_
          refine seq_skip 113 rfl (by kernel_rfl) ?_
          refine seq_skip 114 rfl (by kernel_rfl) ?_
          refine seq_skip 115 rfl (by kernel_rfl) ?_
          refine seq_skip 116 rfl (by kernel_rfl) ?_
          refine seq_val (.bool true) 117 rfl (by kernel_rfl) (by kernel_rfl) ?_
          refine seq_val (.bool true) 6 rfl (by kernel_rfl) (by kernel_rfl) ?_
          refine seq_nil ?_
          refine hK78 _ _ ?_
          try clear hK78 K78
          refine wp_ret ?_
          repeat (first | with_reducible refine goR1 ?_ | with_reducible refine goR2 ?_)
          exact (show bodyPost _ _ _ .ret _ _ from ret1 (.bool true) rfl (res_tmp (by kernel_rfl)) ⟨rfl, x7⟩)
        · skip
          have hzR : ¬ kidR c < 0 := of_decide_eq_false c75
          refine wp_skip ?_
          refine hK73 _ _ ?_
          try clear hK73 K73
          refine wp_seq_k fun K79 hK79 => ?_
          refine region_lit ?_
          refine seq_val (.int .i64 (kidR c)) 85 rfl (by kernel_rfl) (by kernel_rfl) ?_
          refine seq_val (.int .i64 (N)) 86 rfl (by kernel_rfl) (by kernel_rfl) ?_
          refine seq_call (.tuple #[.int .i64 (bel (kidR c) N).1, .int .i64 (bel (kidR c) N).2]) 33 #[.int .i64 (kidR c), .int .i64 (N)] 87 rfl (by kernel_rfl) (by kernel_rfl) (belowR (kidR c) N (by unfold i64; omega) _ (TabAt.ext hT x7)) fun W8 e8 => ?_
          have x8 : Ext w W8 := Ext.tr x7 e8
          refine seq_val (.tuple #[.int .i64 (bel (kidR c) N).1, .int .i64 (bel (kidR c) N).2]) 84 rfl (by kernel_rfl) (by kernel_rfl) ?_
          refine seq_val (.int .i64 ((bel (kidR c) N).1)) 88 rfl (by kernel_rfl) (by kernel_rfl) ?_
          refine seq_val (.int .i64 ((bel (kidR c) N).2)) 89 rfl (by kernel_rfl) (by kernel_rfl) ?_
          refine seq_val (.int .i64 ((bel (kidR c) N).1)) 15 rfl (by kernel_rfl) (by kernel_rfl) ?_
          refine seq_val (.int .i64 ((bel (kidR c) N).2)) 16 rfl (by kernel_rfl) (by kernel_rfl) ?_
          refine seq_nil ?_
          refine hK79 _ _ ?_
          try clear hK79 K79
          refine wp_seq_k fun K80 hK80 => ?_
          rcases out4 (hoR.resolve_left hzR) with ho4 | ho4 | ho4 | ho4
          · skip
            refine region_lit ?_
            refine seq_val (.int .i64 (((a : Nat) : Int))) 90 rfl (by kernel_rfl) (by kernel_rfl) ?_
            refine seq_val (.int .i64 ((bel (kidR c) N).1)) 91 rfl (by kernel_rfl) (by kernel_rfl) ?_
            refine seq_val (.bool false) 92 rfl (by kernel_rfl) (run_eq (u := .bool (decide (((a : Nat) : Int) ≥ ((bel (kidR c) N).1)))) (by kernel_rfl) (congrArg Value.bool (decide_eq_false (by omega)))) ?_
            refine seq_val (.bool false) 93 rfl (by kernel_rfl) (by kernel_rfl) ?_
            refine seq_skip 94 rfl (by kernel_rfl) ?_
            refine seq_skip 95 rfl (by kernel_rfl) ?_
            refine seq_skip 96 rfl (by kernel_rfl) ?_
            refine seq_val (.bool false) 97 rfl (by kernel_rfl) (by kernel_rfl) ?_
            refine seq_val (.bool false) 98 rfl (by kernel_rfl) (by kernel_rfl) ?_
            refine seq_skip 99 rfl (by kernel_rfl) ?_
            refine seq_skip 100 rfl (by kernel_rfl) ?_
            refine seq_skip 101 rfl (by kernel_rfl) ?_
            refine seq_val (.bool false) 102 rfl (by kernel_rfl) (by kernel_rfl) ?_
            refine seq_val (.bool false) 103 rfl (by kernel_rfl) (by kernel_rfl) ?_
            refine seq_skip 104 rfl (by kernel_rfl) ?_
            refine seq_skip 105 rfl (by kernel_rfl) ?_
            refine seq_skip 106 rfl (by kernel_rfl) ?_
            refine seq_val (.bool false) 107 rfl (by kernel_rfl) (by kernel_rfl) ?_
            refine seq_nil ?_
            refine hK80 _ _ ?_
            try clear hK80 K80
            refine cond_false (by kernel_rfl) ?_
            refine wp_skip ?_
            refine hK71 _ _ ?_
            try clear hK71 K71
            refine region_lit ?_
            refine seq_val (.int .i64 2) 108 rfl (by kernel_rfl) (by kernel_rfl) ?_
            refine seq_val (.int .i64 2) 78 rfl (by kernel_rfl) (by kernel_rfl) ?_
            refine seq_nil ?_
            show Code.rounds _ _ _ 1 _ _
            show Code.wp _ _ (Exit.then (Code.rounds _ _ _ 0) _) _ _
            refine wp_seq_k fun K81 hK81 => ?_
            refine region_lit ?_
            refine seq_val (.bool false) 79 rfl (by kernel_rfl) (by kernel_rfl) ?_
            refine seq_nil ?_
            refine hK81 _ _ ?_
            try clear hK81 K81
            refine wp_seq_k fun K82 hK82 => ?_
            refine cond_false (by kernel_rfl) ?_
            refine wp_exit ?_
            refine hK9 _ _ ?_
            try clear hK9 K9
            refine wp_seq_k fun K83 hK83 => ?_
            refine region_lit ?_
            refine seq_val (.int .i64 (((a : Nat) : Int))) 109 rfl (by kernel_rfl) (by kernel_rfl) ?_
            refine seq_val (.int .i64 (((b : Nat) : Int))) 110 rfl (by kernel_rfl) (by kernel_rfl) ?_
            refine seq_val (.bool true) 111 rfl (by kernel_rfl) (run_eq (u := .bool ((((a : Nat) : Int) != ((b : Nat) : Int)))) (by kernel_rfl) (congrArg Value.bool (bne_iff_ne.2 (by omega)))) ?_
            refine seq_val (.bool true) 112 rfl (by kernel_rfl) (by kernel_rfl) ?_
            refine seq_skip 113 rfl (by kernel_rfl) ?_
            refine seq_skip 114 rfl (by kernel_rfl) ?_
            refine seq_skip 115 rfl (by kernel_rfl) ?_
            refine seq_skip 116 rfl (by kernel_rfl) ?_
            refine seq_val (.bool true) 117 rfl (by kernel_rfl) (by kernel_rfl) ?_
            refine seq_val (.bool true) 6 rfl (by kernel_rfl) (by kernel_rfl) ?_
            refine seq_nil ?_
            refine hK83 _ _ ?_
            try clear hK83 K83
            refine wp_ret ?_
            repeat (first | with_reducible refine goR1 ?_ | with_reducible refine goR2 ?_)
            exact (show bodyPost _ _ _ .ret _ _ from ret1 (.bool true) rfl (res_tmp (by kernel_rfl)) ⟨rfl, x8⟩)
          · skip
            refine region_lit ?_
            refine seq_val (.int .i64 (((a : Nat) : Int))) 90 rfl (by kernel_rfl) (by kernel_rfl) ?_
            refine seq_val (.int .i64 ((bel (kidR c) N).1)) 91 rfl (by kernel_rfl) (by kernel_rfl) ?_
            refine seq_val (.bool true) 92 rfl (by kernel_rfl) (run_eq (u := .bool (decide (((a : Nat) : Int) ≥ ((bel (kidR c) N).1)))) (by kernel_rfl) (congrArg Value.bool (decide_eq_true (by omega)))) ?_
            refine seq_val (.bool true) 93 rfl (by kernel_rfl) (by kernel_rfl) ?_
            refine seq_val (.int .i64 (((a : Nat) : Int))) 94 rfl (by kernel_rfl) (by kernel_rfl) ?_
            refine seq_val (.int .i64 ((bel (kidR c) N).2)) 95 rfl (by kernel_rfl) (by kernel_rfl) ?_
            refine seq_val (.bool false) 96 rfl (by kernel_rfl) (run_eq (u := .bool (decide (((a : Nat) : Int) ≤ ((bel (kidR c) N).2)))) (by kernel_rfl) (congrArg Value.bool (decide_eq_false (by omega)))) ?_
            refine seq_val (.bool false) 97 rfl (by kernel_rfl) (by kernel_rfl) ?_
            refine seq_val (.bool false) 98 rfl (by kernel_rfl) (by kernel_rfl) ?_
            refine seq_skip 99 rfl (by kernel_rfl) ?_
            refine seq_skip 100 rfl (by kernel_rfl) ?_
            refine seq_skip 101 rfl (by kernel_rfl) ?_
            refine seq_val (.bool false) 102 rfl (by kernel_rfl) (by kernel_rfl) ?_
            refine seq_val (.bool false) 103 rfl (by kernel_rfl) (by kernel_rfl) ?_
            refine seq_skip 104 rfl (by kernel_rfl) ?_
            refine seq_skip 105 rfl (by kernel_rfl) ?_
            refine seq_skip 106 rfl (by kernel_rfl) ?_
            refine seq_val (.bool false) 107 rfl (by kernel_rfl) (by kernel_rfl) ?_
            refine seq_nil ?_
            refine hK80 _ _ ?_
            try clear hK80 K80
            refine cond_false (by kernel_rfl) ?_
            refine wp_skip ?_
            refine hK71 _ _ ?_
            try clear hK71 K71
            refine region_lit ?_
            refine seq_val (.int .i64 2) 108 rfl (by kernel_rfl) (by kernel_rfl) ?_
            refine seq_val (.int .i64 2) 78 rfl (by kernel_rfl) (by kernel_rfl) ?_
            refine seq_nil ?_
            show Code.rounds _ _ _ 1 _ _
            show Code.wp _ _ (Exit.then (Code.rounds _ _ _ 0) _) _ _
            refine wp_seq_k fun K84 hK84 => ?_
            refine region_lit ?_
            refine seq_val (.bool false) 79 rfl (by kernel_rfl) (by kernel_rfl) ?_
            refine seq_nil ?_
            refine hK84 _ _ ?_
            try clear hK84 K84
            refine wp_seq_k fun K85 hK85 => ?_
            refine cond_false (by kernel_rfl) ?_
            refine wp_exit ?_
            refine hK9 _ _ ?_
            try clear hK9 K9
            refine wp_seq_k fun K86 hK86 => ?_
            refine region_lit ?_
            refine seq_val (.int .i64 (((a : Nat) : Int))) 109 rfl (by kernel_rfl) (by kernel_rfl) ?_
            refine seq_val (.int .i64 (((b : Nat) : Int))) 110 rfl (by kernel_rfl) (by kernel_rfl) ?_
            refine seq_val (.bool true) 111 rfl (by kernel_rfl) (run_eq (u := .bool ((((a : Nat) : Int) != ((b : Nat) : Int)))) (by kernel_rfl) (congrArg Value.bool (bne_iff_ne.2 (by omega)))) ?_
            refine seq_val (.bool true) 112 rfl (by kernel_rfl) (by kernel_rfl) ?_
            refine seq_skip 113 rfl (by kernel_rfl) ?_
            refine seq_skip 114 rfl (by kernel_rfl) ?_
            refine seq_skip 115 rfl (by kernel_rfl) ?_
            refine seq_skip 116 rfl (by kernel_rfl) ?_
            refine seq_val (.bool true) 117 rfl (by kernel_rfl) (by kernel_rfl) ?_
            refine seq_val (.bool true) 6 rfl (by kernel_rfl) (by kernel_rfl) ?_
            refine seq_nil ?_
            refine hK86 _ _ ?_
            try clear hK86 K86
            refine wp_ret ?_
            repeat (first | with_reducible refine goR1 ?_ | with_reducible refine goR2 ?_)
            exact (show bodyPost _ _ _ .ret _ _ from ret1 (.bool true) rfl (res_tmp (by kernel_rfl)) ⟨rfl, x8⟩)
          · skip
            refine region_lit ?_
            refine seq_val (.int .i64 (((a : Nat) : Int))) 90 rfl (by kernel_rfl) (by kernel_rfl) ?_
            refine seq_val (.int .i64 ((bel (kidR c) N).1)) 91 rfl (by kernel_rfl) (by kernel_rfl) ?_
            refine seq_val (.bool true) 92 rfl (by kernel_rfl) (run_eq (u := .bool (decide (((a : Nat) : Int) ≥ ((bel (kidR c) N).1)))) (by kernel_rfl) (congrArg Value.bool (decide_eq_true (by omega)))) ?_
            refine seq_val (.bool true) 93 rfl (by kernel_rfl) (by kernel_rfl) ?_
            refine seq_val (.int .i64 (((a : Nat) : Int))) 94 rfl (by kernel_rfl) (by kernel_rfl) ?_
            refine seq_val (.int .i64 ((bel (kidR c) N).2)) 95 rfl (by kernel_rfl) (by kernel_rfl) ?_
            refine seq_val (.bool true) 96 rfl (by kernel_rfl) (run_eq (u := .bool (decide (((a : Nat) : Int) ≤ ((bel (kidR c) N).2)))) (by kernel_rfl) (congrArg Value.bool (decide_eq_true (by omega)))) ?_
            refine seq_val (.bool true) 97 rfl (by kernel_rfl) (by kernel_rfl) ?_
            refine seq_val (.bool true) 98 rfl (by kernel_rfl) (by kernel_rfl) ?_
            refine seq_val (.int .i64 (((b : Nat) : Int))) 99 rfl (by kernel_rfl) (by kernel_rfl) ?_
            refine seq_val (.int .i64 ((bel (kidR c) N).1)) 100 rfl (by kernel_rfl) (by kernel_rfl) ?_
            refine seq_val (.bool false) 101 rfl (by kernel_rfl) (run_eq (u := .bool (decide (((b : Nat) : Int) ≥ ((bel (kidR c) N).1)))) (by kernel_rfl) (congrArg Value.bool (decide_eq_false (by omega)))) ?_
            refine seq_val (.bool false) 102 rfl (by kernel_rfl) (by kernel_rfl) ?_
            refine seq_val (.bool false) 103 rfl (by kernel_rfl) (by kernel_rfl) ?_
            refine seq_skip 104 rfl (by kernel_rfl) ?_
            refine seq_skip 105 rfl (by kernel_rfl) ?_
            refine seq_skip 106 rfl (by kernel_rfl) ?_
            refine seq_val (.bool false) 107 rfl (by kernel_rfl) (by kernel_rfl) ?_
            refine seq_nil ?_
            refine hK80 _ _ ?_
            try clear hK80 K80
            refine cond_false (by kernel_rfl) ?_
            refine wp_skip ?_
            refine hK71 _ _ ?_
            try clear hK71 K71
            refine region_lit ?_
            refine seq_val (.int .i64 2) 108 rfl (by kernel_rfl) (by kernel_rfl) ?_
            refine seq_val (.int .i64 2) 78 rfl (by kernel_rfl) (by kernel_rfl) ?_
            refine seq_nil ?_
            show Code.rounds _ _ _ 1 _ _
            show Code.wp _ _ (Exit.then (Code.rounds _ _ _ 0) _) _ _
            refine wp_seq_k fun K87 hK87 => ?_
            refine region_lit ?_
            refine seq_val (.bool false) 79 rfl (by kernel_rfl) (by kernel_rfl) ?_
            refine seq_nil ?_
            refine hK87 _ _ ?_
            try clear hK87 K87
            refine wp_seq_k fun K88 hK88 => ?_
            refine cond_false (by kernel_rfl) ?_
            refine wp_exit ?_
            refine hK9 _ _ ?_
            try clear hK9 K9
            refine wp_seq_k fun K89 hK89 => ?_
            refine region_lit ?_
            refine seq_val (.int .i64 (((a : Nat) : Int))) 109 rfl (by kernel_rfl) (by kernel_rfl) ?_
            refine seq_val (.int .i64 (((b : Nat) : Int))) 110 rfl (by kernel_rfl) (by kernel_rfl) ?_
            refine seq_val (.bool true) 111 rfl (by kernel_rfl) (run_eq (u := .bool ((((a : Nat) : Int) != ((b : Nat) : Int)))) (by kernel_rfl) (congrArg Value.bool (bne_iff_ne.2 (by omega)))) ?_
            refine seq_val (.bool true) 112 rfl (by kernel_rfl) (by kernel_rfl) ?_
            refine seq_skip 113 rfl (by kernel_rfl) ?_
            refine seq_skip 114 rfl (by kernel_rfl) ?_
            refine seq_skip 115 rfl (by kernel_rfl) ?_
            refine seq_skip 116 rfl (by kernel_rfl) ?_
            refine seq_val (.bool true) 117 rfl (by kernel_rfl) (by kernel_rfl) ?_
            refine seq_val (.bool true) 6 rfl (by kernel_rfl) (by kernel_rfl) ?_
            refine seq_nil ?_
            refine hK89 _ _ ?_
            try clear hK89 K89
            refine wp_ret ?_
            repeat (first | with_reducible refine goR1 ?_ | with_reducible refine goR2 ?_)
            exact (show bodyPost _ _ _ .ret _ _ from ret1 (.bool true) rfl (res_tmp (by kernel_rfl)) ⟨rfl, x8⟩)
          · skip
            refine region_lit ?_
            refine seq_val (.int .i64 (((a : Nat) : Int))) 90 rfl (by kernel_rfl) (by kernel_rfl) ?_
            refine seq_val (.int .i64 ((bel (kidR c) N).1)) 91 rfl (by kernel_rfl) (by kernel_rfl) ?_
            refine seq_val (.bool true) 92 rfl (by kernel_rfl) (run_eq (u := .bool (decide (((a : Nat) : Int) ≥ ((bel (kidR c) N).1)))) (by kernel_rfl) (congrArg Value.bool (decide_eq_true (by omega)))) ?_
            refine seq_val (.bool true) 93 rfl (by kernel_rfl) (by kernel_rfl) ?_
            refine seq_val (.int .i64 (((a : Nat) : Int))) 94 rfl (by kernel_rfl) (by kernel_rfl) ?_
            refine seq_val (.int .i64 ((bel (kidR c) N).2)) 95 rfl (by kernel_rfl) (by kernel_rfl) ?_
            refine seq_val (.bool true) 96 rfl (by kernel_rfl) (run_eq (u := .bool (decide (((a : Nat) : Int) ≤ ((bel (kidR c) N).2)))) (by kernel_rfl) (congrArg Value.bool (decide_eq_true (by omega)))) ?_
            refine seq_val (.bool true) 97 rfl (by kernel_rfl) (by kernel_rfl) ?_
            refine seq_val (.bool true) 98 rfl (by kernel_rfl) (by kernel_rfl) ?_
            refine seq_val (.int .i64 (((b : Nat) : Int))) 99 rfl (by kernel_rfl) (by kernel_rfl) ?_
            refine seq_val (.int .i64 ((bel (kidR c) N).1)) 100 rfl (by kernel_rfl) (by kernel_rfl) ?_
            refine seq_val (.bool true) 101 rfl (by kernel_rfl) (run_eq (u := .bool (decide (((b : Nat) : Int) ≥ ((bel (kidR c) N).1)))) (by kernel_rfl) (congrArg Value.bool (decide_eq_true (by omega)))) ?_
            refine seq_val (.bool true) 102 rfl (by kernel_rfl) (by kernel_rfl) ?_
            refine seq_val (.bool true) 103 rfl (by kernel_rfl) (by kernel_rfl) ?_
            refine seq_val (.int .i64 (((b : Nat) : Int))) 104 rfl (by kernel_rfl) (by kernel_rfl) ?_
            refine seq_val (.int .i64 ((bel (kidR c) N).2)) 105 rfl (by kernel_rfl) (by kernel_rfl) ?_
            refine seq_val (.bool false) 106 rfl (by kernel_rfl) (run_eq (u := .bool (decide (((b : Nat) : Int) ≤ ((bel (kidR c) N).2)))) (by kernel_rfl) (congrArg Value.bool (decide_eq_false (by omega)))) ?_
            refine seq_val (.bool false) 107 rfl (by kernel_rfl) (by kernel_rfl) ?_
            refine seq_nil ?_
            refine hK80 _ _ ?_
            try clear hK80 K80
            refine cond_false (by kernel_rfl) ?_
            refine wp_skip ?_
            refine hK71 _ _ ?_
            try clear hK71 K71
            refine region_lit ?_
            refine seq_val (.int .i64 2) 108 rfl (by kernel_rfl) (by kernel_rfl) ?_
            refine seq_val (.int .i64 2) 78 rfl (by kernel_rfl) (by kernel_rfl) ?_
            refine seq_nil ?_
            show Code.rounds _ _ _ 1 _ _
            show Code.wp _ _ (Exit.then (Code.rounds _ _ _ 0) _) _ _
            refine wp_seq_k fun K90 hK90 => ?_
            refine region_lit ?_
            refine seq_val (.bool false) 79 rfl (by kernel_rfl) (by kernel_rfl) ?_
            refine seq_nil ?_
            refine hK90 _ _ ?_
            try clear hK90 K90
            refine wp_seq_k fun K91 hK91 => ?_
            refine cond_false (by kernel_rfl) ?_
            refine wp_exit ?_
            refine hK9 _ _ ?_
            try clear hK9 K9
            refine wp_seq_k fun K92 hK92 => ?_
            refine region_lit ?_
            refine seq_val (.int .i64 (((a : Nat) : Int))) 109 rfl (by kernel_rfl) (by kernel_rfl) ?_
            refine seq_val (.int .i64 (((b : Nat) : Int))) 110 rfl (by kernel_rfl) (by kernel_rfl) ?_
            refine seq_val (.bool true) 111 rfl (by kernel_rfl) (run_eq (u := .bool ((((a : Nat) : Int) != ((b : Nat) : Int)))) (by kernel_rfl) (congrArg Value.bool (bne_iff_ne.2 (by omega)))) ?_
            refine seq_val (.bool true) 112 rfl (by kernel_rfl) (by kernel_rfl) ?_
            refine seq_skip 113 rfl (by kernel_rfl) ?_
            refine seq_skip 114 rfl (by kernel_rfl) ?_
            refine seq_skip 115 rfl (by kernel_rfl) ?_
            refine seq_skip 116 rfl (by kernel_rfl) ?_
            refine seq_val (.bool true) 117 rfl (by kernel_rfl) (by kernel_rfl) ?_
            refine seq_val (.bool true) 6 rfl (by kernel_rfl) (by kernel_rfl) ?_
            refine seq_nil ?_
            refine hK92 _ _ ?_
            try clear hK92 K92
            refine wp_ret ?_
            repeat (first | with_reducible refine goR1 ?_ | with_reducible refine goR2 ?_)
            exact (show bodyPost _ _ _ .ret _ _ from ret1 (.bool true) rfl (res_tmp (by kernel_rfl)) ⟨rfl, x8⟩)
      · skip
        refine region_lit ?_
        refine seq_val (.int .i64 (((a : Nat) : Int))) 90 rfl (by kernel_rfl) (by kernel_rfl) ?_
        refine seq_val (.int .i64 ((bel (kidL c) N).1)) 91 rfl (by kernel_rfl) (by kernel_rfl) ?_
        refine seq_val (.bool true) 92 rfl (by kernel_rfl) (run_eq (u := .bool (decide (((a : Nat) : Int) ≥ ((bel (kidL c) N).1)))) (by kernel_rfl) (congrArg Value.bool (decide_eq_true (by omega)))) ?_
        refine seq_val (.bool true) 93 rfl (by kernel_rfl) (by kernel_rfl) ?_
        refine seq_val (.int .i64 (((a : Nat) : Int))) 94 rfl (by kernel_rfl) (by kernel_rfl) ?_
        refine seq_val (.int .i64 ((bel (kidL c) N).2)) 95 rfl (by kernel_rfl) (by kernel_rfl) ?_
        refine seq_val (.bool true) 96 rfl (by kernel_rfl) (run_eq (u := .bool (decide (((a : Nat) : Int) ≤ ((bel (kidL c) N).2)))) (by kernel_rfl) (congrArg Value.bool (decide_eq_true (by omega)))) ?_
        refine seq_val (.bool true) 97 rfl (by kernel_rfl) (by kernel_rfl) ?_
        refine seq_val (.bool true) 98 rfl (by kernel_rfl) (by kernel_rfl) ?_
        refine seq_val (.int .i64 (((b : Nat) : Int))) 99 rfl (by kernel_rfl) (by kernel_rfl) ?_
        refine seq_val (.int .i64 ((bel (kidL c) N).1)) 100 rfl (by kernel_rfl) (by kernel_rfl) ?_
        refine seq_val (.bool false) 101 rfl (by kernel_rfl) (run_eq (u := .bool (decide (((b : Nat) : Int) ≥ ((bel (kidL c) N).1)))) (by kernel_rfl) (congrArg Value.bool (decide_eq_false (by omega)))) ?_
        refine seq_val (.bool false) 102 rfl (by kernel_rfl) (by kernel_rfl) ?_
        refine seq_val (.bool false) 103 rfl (by kernel_rfl) (by kernel_rfl) ?_
        refine seq_skip 104 rfl (by kernel_rfl) ?_
        refine seq_skip 105 rfl (by kernel_rfl) ?_
        refine seq_skip 106 rfl (by kernel_rfl) ?_
        refine seq_val (.bool false) 107 rfl (by kernel_rfl) (by kernel_rfl) ?_
        refine seq_nil ?_
        refine hK44 _ _ ?_
        try clear hK44 K44
        refine cond_false (by kernel_rfl) ?_
        refine wp_skip ?_
        refine hK14 _ _ ?_
        try clear hK14 K14
        refine region_lit ?_
        refine seq_val (.int .i64 1) 108 rfl (by kernel_rfl) (by kernel_rfl) ?_
        refine seq_val (.int .i64 1) 78 rfl (by kernel_rfl) (by kernel_rfl) ?_
        refine seq_nil ?_
        show Code.rounds _ _ _ 2 _ _
        show Code.wp _ _ (Exit.then (Code.rounds _ _ _ 1) _) _ _
        refine wp_seq_k fun K93 hK93 => ?_
        refine region_lit ?_
        refine seq_val (.bool true) 79 rfl (by kernel_rfl) (by kernel_rfl) ?_
        refine seq_nil ?_
        refine hK93 _ _ ?_
        try clear hK93 K93
        refine wp_seq_k fun K94 hK94 => ?_
        refine cond_true (by kernel_rfl) ?_
        refine wp_skip ?_
        refine hK94 _ _ ?_
        try clear hK94 K94
        refine wp_seq_k fun K95 hK95 => ?_
        refine wp_block ?_
        refine wp_seq_k fun K96 hK96 => ?_
        refine region_lit ?_
        refine seq_val (.pointer (some ⟨g11, 1, none⟩)) 80 rfl (by kernel_rfl) (run_indexS0 57 _ _ .i64 (1) g11 2 2 3 rfl (by kernel_rfl) (by kernel_rfl) (by kernel_rfl) (by kernel_rfl) (by decide)) ?_
        have r11_7 := (row_ext r11_6 e7)
        refine seq_val (.int .i64 (kidR c)) 81 rfl (by kernel_rfl) (run_loadC1 3 _ g11 1 3 _ (.int .i64 (kidR c)) _ r11_7 rfl (by kernel_rfl) (by kernel_rfl) (by kernel_rfl)) ?_
        refine seq_val (.int .i64 (kidR c)) 14 rfl (by kernel_rfl) (by kernel_rfl) ?_
        refine seq_nil ?_
        refine hK96 _ _ ?_
        try clear hK96 K96
        refine wp_seq_k fun K97 hK97 => ?_
        refine wp_seq_k fun K98 hK98 => ?_
        refine region_lit ?_
        refine seq_val (.int .i64 (kidR c)) 82 rfl (by kernel_rfl) (by kernel_rfl) ?_
        refine seq_val (.bool (decide ((kidR c) < 0))) 83 rfl (by kernel_rfl) (by kernel_rfl) ?_
        refine seq_nil ?_
        refine hK98 _ _ ?_
        try clear hK98 K98
        refine cond_split (t := decide ((kidR c) < 0)) (by kernel_rfl) (fun c99 => ?_) (fun c99 => ?_)
        · skip
          have hzR : kidR c < 0 := of_decide_eq_true c99
          refine wp_exit ?_
          refine hK95 _ _ ?_
          try clear hK95 K95
          refine region_lit ?_
          refine seq_val (.int .i64 2) 108 rfl (by kernel_rfl) (by kernel_rfl) ?_
          refine seq_val (.int .i64 2) 78 rfl (by kernel_rfl) (by kernel_rfl) ?_
          refine seq_nil ?_
          show Code.rounds _ _ _ 1 _ _
          show Code.wp _ _ (Exit.then (Code.rounds _ _ _ 0) _) _ _
          refine wp_seq_k fun K100 hK100 => ?_
          refine region_lit ?_
          refine seq_val (.bool false) 79 rfl (by kernel_rfl) (by kernel_rfl) ?_
          refine seq_nil ?_
          refine hK100 _ _ ?_
          try clear hK100 K100
          refine wp_seq_k fun K101 hK101 => ?_
          refine cond_false (by kernel_rfl) ?_
          refine wp_exit ?_
          refine hK9 _ _ ?_
          try clear hK9 K9
          refine wp_seq_k fun K102 hK102 => ?_
          refine region_lit ?_
          refine seq_val (.int .i64 (((a : Nat) : Int))) 109 rfl (by kernel_rfl) (by kernel_rfl) ?_
          refine seq_val (.int .i64 (((b : Nat) : Int))) 110 rfl (by kernel_rfl) (by kernel_rfl) ?_
          refine seq_val (.bool true) 111 rfl (by kernel_rfl) (run_eq (u := .bool ((((a : Nat) : Int) != ((b : Nat) : Int)))) (by kernel_rfl) (congrArg Value.bool (bne_iff_ne.2 (by omega)))) ?_
          refine seq_val (.bool true) 112 rfl (by kernel_rfl) (by kernel_rfl) ?_
          refine seq_skip 113 rfl (by kernel_rfl) ?_
          refine seq_skip 114 rfl (by kernel_rfl) ?_
          refine seq_skip 115 rfl (by kernel_rfl) ?_
          refine seq_skip 116 rfl (by kernel_rfl) ?_
          refine seq_val (.bool true) 117 rfl (by kernel_rfl) (by kernel_rfl) ?_
          refine seq_val (.bool true) 6 rfl (by kernel_rfl) (by kernel_rfl) ?_
          refine seq_nil ?_
          refine hK102 _ _ ?_
          try clear hK102 K102
          refine wp_ret ?_
          repeat (first | with_reducible refine goR1 ?_ | with_reducible refine goR2 ?_)
          exact (show bodyPost _ _ _ .ret _ _ from ret1 (.bool true) rfl (res_tmp (by kernel_rfl)) ⟨rfl, x7⟩)
        · skip
          have hzR : ¬ kidR c < 0 := of_decide_eq_false c99
          refine wp_skip ?_
          refine hK97 _ _ ?_
          try clear hK97 K97
          refine wp_seq_k fun K103 hK103 => ?_
          refine region_lit ?_
          refine seq_val (.int .i64 (kidR c)) 85 rfl (by kernel_rfl) (by kernel_rfl) ?_
          refine seq_val (.int .i64 (N)) 86 rfl (by kernel_rfl) (by kernel_rfl) ?_
          refine seq_call (.tuple #[.int .i64 (bel (kidR c) N).1, .int .i64 (bel (kidR c) N).2]) 33 #[.int .i64 (kidR c), .int .i64 (N)] 87 rfl (by kernel_rfl) (by kernel_rfl) (belowR (kidR c) N (by unfold i64; omega) _ (TabAt.ext hT x7)) fun W8 e8 => ?_
          have x8 : Ext w W8 := Ext.tr x7 e8
          refine seq_val (.tuple #[.int .i64 (bel (kidR c) N).1, .int .i64 (bel (kidR c) N).2]) 84 rfl (by kernel_rfl) (by kernel_rfl) ?_
          refine seq_val (.int .i64 ((bel (kidR c) N).1)) 88 rfl (by kernel_rfl) (by kernel_rfl) ?_
          refine seq_val (.int .i64 ((bel (kidR c) N).2)) 89 rfl (by kernel_rfl) (by kernel_rfl) ?_
          refine seq_val (.int .i64 ((bel (kidR c) N).1)) 15 rfl (by kernel_rfl) (by kernel_rfl) ?_
          refine seq_val (.int .i64 ((bel (kidR c) N).2)) 16 rfl (by kernel_rfl) (by kernel_rfl) ?_
          refine seq_nil ?_
          refine hK103 _ _ ?_
          try clear hK103 K103
          refine wp_seq_k fun K104 hK104 => ?_
          rcases out4 (hoR.resolve_left hzR) with ho4 | ho4 | ho4 | ho4
          · skip
            refine region_lit ?_
            refine seq_val (.int .i64 (((a : Nat) : Int))) 90 rfl (by kernel_rfl) (by kernel_rfl) ?_
            refine seq_val (.int .i64 ((bel (kidR c) N).1)) 91 rfl (by kernel_rfl) (by kernel_rfl) ?_
            refine seq_val (.bool false) 92 rfl (by kernel_rfl) (run_eq (u := .bool (decide (((a : Nat) : Int) ≥ ((bel (kidR c) N).1)))) (by kernel_rfl) (congrArg Value.bool (decide_eq_false (by omega)))) ?_
            refine seq_val (.bool false) 93 rfl (by kernel_rfl) (by kernel_rfl) ?_
            refine seq_skip 94 rfl (by kernel_rfl) ?_
            refine seq_skip 95 rfl (by kernel_rfl) ?_
            refine seq_skip 96 rfl (by kernel_rfl) ?_
            refine seq_val (.bool false) 97 rfl (by kernel_rfl) (by kernel_rfl) ?_
            refine seq_val (.bool false) 98 rfl (by kernel_rfl) (by kernel_rfl) ?_
            refine seq_skip 99 rfl (by kernel_rfl) ?_
            refine seq_skip 100 rfl (by kernel_rfl) ?_
            refine seq_skip 101 rfl (by kernel_rfl) ?_
            refine seq_val (.bool false) 102 rfl (by kernel_rfl) (by kernel_rfl) ?_
            refine seq_val (.bool false) 103 rfl (by kernel_rfl) (by kernel_rfl) ?_
            refine seq_skip 104 rfl (by kernel_rfl) ?_
            refine seq_skip 105 rfl (by kernel_rfl) ?_
            refine seq_skip 106 rfl (by kernel_rfl) ?_
            refine seq_val (.bool false) 107 rfl (by kernel_rfl) (by kernel_rfl) ?_
            refine seq_nil ?_
            refine hK104 _ _ ?_
            try clear hK104 K104
            refine cond_false (by kernel_rfl) ?_
            refine wp_skip ?_
            refine hK95 _ _ ?_
            try clear hK95 K95
            refine region_lit ?_
            refine seq_val (.int .i64 2) 108 rfl (by kernel_rfl) (by kernel_rfl) ?_
            refine seq_val (.int .i64 2) 78 rfl (by kernel_rfl) (by kernel_rfl) ?_
            refine seq_nil ?_
            show Code.rounds _ _ _ 1 _ _
            show Code.wp _ _ (Exit.then (Code.rounds _ _ _ 0) _) _ _
            refine wp_seq_k fun K105 hK105 => ?_
            refine region_lit ?_
            refine seq_val (.bool false) 79 rfl (by kernel_rfl) (by kernel_rfl) ?_
            refine seq_nil ?_
            refine hK105 _ _ ?_
            try clear hK105 K105
            refine wp_seq_k fun K106 hK106 => ?_
            refine cond_false (by kernel_rfl) ?_
            refine wp_exit ?_
            refine hK9 _ _ ?_
            try clear hK9 K9
            refine wp_seq_k fun K107 hK107 => ?_
            refine region_lit ?_
            refine seq_val (.int .i64 (((a : Nat) : Int))) 109 rfl (by kernel_rfl) (by kernel_rfl) ?_
            refine seq_val (.int .i64 (((b : Nat) : Int))) 110 rfl (by kernel_rfl) (by kernel_rfl) ?_
            refine seq_val (.bool true) 111 rfl (by kernel_rfl) (run_eq (u := .bool ((((a : Nat) : Int) != ((b : Nat) : Int)))) (by kernel_rfl) (congrArg Value.bool (bne_iff_ne.2 (by omega)))) ?_
            refine seq_val (.bool true) 112 rfl (by kernel_rfl) (by kernel_rfl) ?_
            refine seq_skip 113 rfl (by kernel_rfl) ?_
            refine seq_skip 114 rfl (by kernel_rfl) ?_
            refine seq_skip 115 rfl (by kernel_rfl) ?_
            refine seq_skip 116 rfl (by kernel_rfl) ?_
            refine seq_val (.bool true) 117 rfl (by kernel_rfl) (by kernel_rfl) ?_
            refine seq_val (.bool true) 6 rfl (by kernel_rfl) (by kernel_rfl) ?_
            refine seq_nil ?_
            refine hK107 _ _ ?_
            try clear hK107 K107
            refine wp_ret ?_
            repeat (first | with_reducible refine goR1 ?_ | with_reducible refine goR2 ?_)
            exact (show bodyPost _ _ _ .ret _ _ from ret1 (.bool true) rfl (res_tmp (by kernel_rfl)) ⟨rfl, x8⟩)
          · skip
            refine region_lit ?_
            refine seq_val (.int .i64 (((a : Nat) : Int))) 90 rfl (by kernel_rfl) (by kernel_rfl) ?_
            refine seq_val (.int .i64 ((bel (kidR c) N).1)) 91 rfl (by kernel_rfl) (by kernel_rfl) ?_
            refine seq_val (.bool true) 92 rfl (by kernel_rfl) (run_eq (u := .bool (decide (((a : Nat) : Int) ≥ ((bel (kidR c) N).1)))) (by kernel_rfl) (congrArg Value.bool (decide_eq_true (by omega)))) ?_
            refine seq_val (.bool true) 93 rfl (by kernel_rfl) (by kernel_rfl) ?_
            refine seq_val (.int .i64 (((a : Nat) : Int))) 94 rfl (by kernel_rfl) (by kernel_rfl) ?_
            refine seq_val (.int .i64 ((bel (kidR c) N).2)) 95 rfl (by kernel_rfl) (by kernel_rfl) ?_
            refine seq_val (.bool false) 96 rfl (by kernel_rfl) (run_eq (u := .bool (decide (((a : Nat) : Int) ≤ ((bel (kidR c) N).2)))) (by kernel_rfl) (congrArg Value.bool (decide_eq_false (by omega)))) ?_
            refine seq_val (.bool false) 97 rfl (by kernel_rfl) (by kernel_rfl) ?_
            refine seq_val (.bool false) 98 rfl (by kernel_rfl) (by kernel_rfl) ?_
            refine seq_skip 99 rfl (by kernel_rfl) ?_
            refine seq_skip 100 rfl (by kernel_rfl) ?_
            refine seq_skip 101 rfl (by kernel_rfl) ?_
            refine seq_val (.bool false) 102 rfl (by kernel_rfl) (by kernel_rfl) ?_
            refine seq_val (.bool false) 103 rfl (by kernel_rfl) (by kernel_rfl) ?_
            refine seq_skip 104 rfl (by kernel_rfl) ?_
            refine seq_skip 105 rfl (by kernel_rfl) ?_
            refine seq_skip 106 rfl (by kernel_rfl) ?_
            refine seq_val (.bool false) 107 rfl (by kernel_rfl) (by kernel_rfl) ?_
            refine seq_nil ?_
            refine hK104 _ _ ?_
            try clear hK104 K104
            refine cond_false (by kernel_rfl) ?_
            refine wp_skip ?_
            refine hK95 _ _ ?_
            try clear hK95 K95
            refine region_lit ?_
            refine seq_val (.int .i64 2) 108 rfl (by kernel_rfl) (by kernel_rfl) ?_
            refine seq_val (.int .i64 2) 78 rfl (by kernel_rfl) (by kernel_rfl) ?_
            refine seq_nil ?_
            show Code.rounds _ _ _ 1 _ _
            show Code.wp _ _ (Exit.then (Code.rounds _ _ _ 0) _) _ _
            refine wp_seq_k fun K108 hK108 => ?_
            refine region_lit ?_
            refine seq_val (.bool false) 79 rfl (by kernel_rfl) (by kernel_rfl) ?_
            refine seq_nil ?_
            refine hK108 _ _ ?_
            try clear hK108 K108
            refine wp_seq_k fun K109 hK109 => ?_
            refine cond_false (by kernel_rfl) ?_
            refine wp_exit ?_
            refine hK9 _ _ ?_
            try clear hK9 K9
            refine wp_seq_k fun K110 hK110 => ?_
            refine region_lit ?_
            refine seq_val (.int .i64 (((a : Nat) : Int))) 109 rfl (by kernel_rfl) (by kernel_rfl) ?_
            refine seq_val (.int .i64 (((b : Nat) : Int))) 110 rfl (by kernel_rfl) (by kernel_rfl) ?_
            refine seq_val (.bool true) 111 rfl (by kernel_rfl) (run_eq (u := .bool ((((a : Nat) : Int) != ((b : Nat) : Int)))) (by kernel_rfl) (congrArg Value.bool (bne_iff_ne.2 (by omega)))) ?_
            refine seq_val (.bool true) 112 rfl (by kernel_rfl) (by kernel_rfl) ?_
            refine seq_skip 113 rfl (by kernel_rfl) ?_
            refine seq_skip 114 rfl (by kernel_rfl) ?_
            refine seq_skip 115 rfl (by kernel_rfl) ?_
            refine seq_skip 116 rfl (by kernel_rfl) ?_
            refine seq_val (.bool true) 117 rfl (by kernel_rfl) (by kernel_rfl) ?_
            refine seq_val (.bool true) 6 rfl (by kernel_rfl) (by kernel_rfl) ?_
            refine seq_nil ?_
            refine hK110 _ _ ?_
            try clear hK110 K110
            refine wp_ret ?_
            repeat (first | with_reducible refine goR1 ?_ | with_reducible refine goR2 ?_)
            exact (show bodyPost _ _ _ .ret _ _ from ret1 (.bool true) rfl (res_tmp (by kernel_rfl)) ⟨rfl, x8⟩)
          · skip
            refine region_lit ?_
            refine seq_val (.int .i64 (((a : Nat) : Int))) 90 rfl (by kernel_rfl) (by kernel_rfl) ?_
            refine seq_val (.int .i64 ((bel (kidR c) N).1)) 91 rfl (by kernel_rfl) (by kernel_rfl) ?_
            refine seq_val (.bool true) 92 rfl (by kernel_rfl) (run_eq (u := .bool (decide (((a : Nat) : Int) ≥ ((bel (kidR c) N).1)))) (by kernel_rfl) (congrArg Value.bool (decide_eq_true (by omega)))) ?_
            refine seq_val (.bool true) 93 rfl (by kernel_rfl) (by kernel_rfl) ?_
            refine seq_val (.int .i64 (((a : Nat) : Int))) 94 rfl (by kernel_rfl) (by kernel_rfl) ?_
            refine seq_val (.int .i64 ((bel (kidR c) N).2)) 95 rfl (by kernel_rfl) (by kernel_rfl) ?_
            refine seq_val (.bool true) 96 rfl (by kernel_rfl) (run_eq (u := .bool (decide (((a : Nat) : Int) ≤ ((bel (kidR c) N).2)))) (by kernel_rfl) (congrArg Value.bool (decide_eq_true (by omega)))) ?_
            refine seq_val (.bool true) 97 rfl (by kernel_rfl) (by kernel_rfl) ?_
            refine seq_val (.bool true) 98 rfl (by kernel_rfl) (by kernel_rfl) ?_
            refine seq_val (.int .i64 (((b : Nat) : Int))) 99 rfl (by kernel_rfl) (by kernel_rfl) ?_
            refine seq_val (.int .i64 ((bel (kidR c) N).1)) 100 rfl (by kernel_rfl) (by kernel_rfl) ?_
            refine seq_val (.bool false) 101 rfl (by kernel_rfl) (run_eq (u := .bool (decide (((b : Nat) : Int) ≥ ((bel (kidR c) N).1)))) (by kernel_rfl) (congrArg Value.bool (decide_eq_false (by omega)))) ?_
            refine seq_val (.bool false) 102 rfl (by kernel_rfl) (by kernel_rfl) ?_
            refine seq_val (.bool false) 103 rfl (by kernel_rfl) (by kernel_rfl) ?_
            refine seq_skip 104 rfl (by kernel_rfl) ?_
            refine seq_skip 105 rfl (by kernel_rfl) ?_
            refine seq_skip 106 rfl (by kernel_rfl) ?_
            refine seq_val (.bool false) 107 rfl (by kernel_rfl) (by kernel_rfl) ?_
            refine seq_nil ?_
            refine hK104 _ _ ?_
            try clear hK104 K104
            refine cond_false (by kernel_rfl) ?_
            refine wp_skip ?_
            refine hK95 _ _ ?_
            try clear hK95 K95
            refine region_lit ?_
            refine seq_val (.int .i64 2) 108 rfl (by kernel_rfl) (by kernel_rfl) ?_
            refine seq_val (.int .i64 2) 78 rfl (by kernel_rfl) (by kernel_rfl) ?_
            refine seq_nil ?_
            show Code.rounds _ _ _ 1 _ _
            show Code.wp _ _ (Exit.then (Code.rounds _ _ _ 0) _) _ _
            refine wp_seq_k fun K111 hK111 => ?_
            refine region_lit ?_
            refine seq_val (.bool false) 79 rfl (by kernel_rfl) (by kernel_rfl) ?_
            refine seq_nil ?_
            refine hK111 _ _ ?_
            try clear hK111 K111
            refine wp_seq_k fun K112 hK112 => ?_
            refine cond_false (by kernel_rfl) ?_
            refine wp_exit ?_
            refine hK9 _ _ ?_
            try clear hK9 K9
            refine wp_seq_k fun K113 hK113 => ?_
            refine region_lit ?_
            refine seq_val (.int .i64 (((a : Nat) : Int))) 109 rfl (by kernel_rfl) (by kernel_rfl) ?_
            refine seq_val (.int .i64 (((b : Nat) : Int))) 110 rfl (by kernel_rfl) (by kernel_rfl) ?_
            refine seq_val (.bool true) 111 rfl (by kernel_rfl) (run_eq (u := .bool ((((a : Nat) : Int) != ((b : Nat) : Int)))) (by kernel_rfl) (congrArg Value.bool (bne_iff_ne.2 (by omega)))) ?_
            refine seq_val (.bool true) 112 rfl (by kernel_rfl) (by kernel_rfl) ?_
            refine seq_skip 113 rfl (by kernel_rfl) ?_
            refine seq_skip 114 rfl (by kernel_rfl) ?_
            refine seq_skip 115 rfl (by kernel_rfl) ?_
            refine seq_skip 116 rfl (by kernel_rfl) ?_
            refine seq_val (.bool true) 117 rfl (by kernel_rfl) (by kernel_rfl) ?_
            refine seq_val (.bool true) 6 rfl (by kernel_rfl) (by kernel_rfl) ?_
            refine seq_nil ?_
            refine hK113 _ _ ?_
            try clear hK113 K113
            refine wp_ret ?_
            repeat (first | with_reducible refine goR1 ?_ | with_reducible refine goR2 ?_)
            exact (show bodyPost _ _ _ .ret _ _ from ret1 (.bool true) rfl (res_tmp (by kernel_rfl)) ⟨rfl, x8⟩)
          · skip
            refine region_lit ?_
            refine seq_val (.int .i64 (((a : Nat) : Int))) 90 rfl (by kernel_rfl) (by kernel_rfl) ?_
            refine seq_val (.int .i64 ((bel (kidR c) N).1)) 91 rfl (by kernel_rfl) (by kernel_rfl) ?_
            refine seq_val (.bool true) 92 rfl (by kernel_rfl) (run_eq (u := .bool (decide (((a : Nat) : Int) ≥ ((bel (kidR c) N).1)))) (by kernel_rfl) (congrArg Value.bool (decide_eq_true (by omega)))) ?_
            refine seq_val (.bool true) 93 rfl (by kernel_rfl) (by kernel_rfl) ?_
            refine seq_val (.int .i64 (((a : Nat) : Int))) 94 rfl (by kernel_rfl) (by kernel_rfl) ?_
            refine seq_val (.int .i64 ((bel (kidR c) N).2)) 95 rfl (by kernel_rfl) (by kernel_rfl) ?_
            refine seq_val (.bool true) 96 rfl (by kernel_rfl) (run_eq (u := .bool (decide (((a : Nat) : Int) ≤ ((bel (kidR c) N).2)))) (by kernel_rfl) (congrArg Value.bool (decide_eq_true (by omega)))) ?_
            refine seq_val (.bool true) 97 rfl (by kernel_rfl) (by kernel_rfl) ?_
            refine seq_val (.bool true) 98 rfl (by kernel_rfl) (by kernel_rfl) ?_
            refine seq_val (.int .i64 (((b : Nat) : Int))) 99 rfl (by kernel_rfl) (by kernel_rfl) ?_
            refine seq_val (.int .i64 ((bel (kidR c) N).1)) 100 rfl (by kernel_rfl) (by kernel_rfl) ?_
            refine seq_val (.bool true) 101 rfl (by kernel_rfl) (run_eq (u := .bool (decide (((b : Nat) : Int) ≥ ((bel (kidR c) N).1)))) (by kernel_rfl) (congrArg Value.bool (decide_eq_true (by omega)))) ?_
            refine seq_val (.bool true) 102 rfl (by kernel_rfl) (by kernel_rfl) ?_
            refine seq_val (.bool true) 103 rfl (by kernel_rfl) (by kernel_rfl) ?_
            refine seq_val (.int .i64 (((b : Nat) : Int))) 104 rfl (by kernel_rfl) (by kernel_rfl) ?_
            refine seq_val (.int .i64 ((bel (kidR c) N).2)) 105 rfl (by kernel_rfl) (by kernel_rfl) ?_
            refine seq_val (.bool false) 106 rfl (by kernel_rfl) (run_eq (u := .bool (decide (((b : Nat) : Int) ≤ ((bel (kidR c) N).2)))) (by kernel_rfl) (congrArg Value.bool (decide_eq_false (by omega)))) ?_
            refine seq_val (.bool false) 107 rfl (by kernel_rfl) (by kernel_rfl) ?_
            refine seq_nil ?_
            refine hK104 _ _ ?_
            try clear hK104 K104
            refine cond_false (by kernel_rfl) ?_
            refine wp_skip ?_
            refine hK95 _ _ ?_
            try clear hK95 K95
            refine region_lit ?_
            refine seq_val (.int .i64 2) 108 rfl (by kernel_rfl) (by kernel_rfl) ?_
            refine seq_val (.int .i64 2) 78 rfl (by kernel_rfl) (by kernel_rfl) ?_
            refine seq_nil ?_
            show Code.rounds _ _ _ 1 _ _
            show Code.wp _ _ (Exit.then (Code.rounds _ _ _ 0) _) _ _
            refine wp_seq_k fun K114 hK114 => ?_
            refine region_lit ?_
            refine seq_val (.bool false) 79 rfl (by kernel_rfl) (by kernel_rfl) ?_
            refine seq_nil ?_
            refine hK114 _ _ ?_
            try clear hK114 K114
            refine wp_seq_k fun K115 hK115 => ?_
            refine cond_false (by kernel_rfl) ?_
            refine wp_exit ?_
            refine hK9 _ _ ?_
            try clear hK9 K9
            refine wp_seq_k fun K116 hK116 => ?_
            refine region_lit ?_
            refine seq_val (.int .i64 (((a : Nat) : Int))) 109 rfl (by kernel_rfl) (by kernel_rfl) ?_
            refine seq_val (.int .i64 (((b : Nat) : Int))) 110 rfl (by kernel_rfl) (by kernel_rfl) ?_
            refine seq_val (.bool true) 111 rfl (by kernel_rfl) (run_eq (u := .bool ((((a : Nat) : Int) != ((b : Nat) : Int)))) (by kernel_rfl) (congrArg Value.bool (bne_iff_ne.2 (by omega)))) ?_
            refine seq_val (.bool true) 112 rfl (by kernel_rfl) (by kernel_rfl) ?_
            refine seq_skip 113 rfl (by kernel_rfl) ?_
            refine seq_skip 114 rfl (by kernel_rfl) ?_
            refine seq_skip 115 rfl (by kernel_rfl) ?_
            refine seq_skip 116 rfl (by kernel_rfl) ?_
            refine seq_val (.bool true) 117 rfl (by kernel_rfl) (by kernel_rfl) ?_
            refine seq_val (.bool true) 6 rfl (by kernel_rfl) (by kernel_rfl) ?_
            refine seq_nil ?_
            refine hK116 _ _ ?_
            try clear hK116 K116
            refine wp_ret ?_
            repeat (first | with_reducible refine goR1 ?_ | with_reducible refine goR2 ?_)
            exact (show bodyPost _ _ _ .ret _ _ from ret1 (.bool true) rfl (res_tmp (by kernel_rfl)) ⟨rfl, x8⟩)
      · skip
        refine region_lit ?_
        refine seq_val (.int .i64 (((a : Nat) : Int))) 90 rfl (by kernel_rfl) (by kernel_rfl) ?_
        refine seq_val (.int .i64 ((bel (kidL c) N).1)) 91 rfl (by kernel_rfl) (by kernel_rfl) ?_
        refine seq_val (.bool true) 92 rfl (by kernel_rfl) (run_eq (u := .bool (decide (((a : Nat) : Int) ≥ ((bel (kidL c) N).1)))) (by kernel_rfl) (congrArg Value.bool (decide_eq_true (by omega)))) ?_
        refine seq_val (.bool true) 93 rfl (by kernel_rfl) (by kernel_rfl) ?_
        refine seq_val (.int .i64 (((a : Nat) : Int))) 94 rfl (by kernel_rfl) (by kernel_rfl) ?_
        refine seq_val (.int .i64 ((bel (kidL c) N).2)) 95 rfl (by kernel_rfl) (by kernel_rfl) ?_
        refine seq_val (.bool true) 96 rfl (by kernel_rfl) (run_eq (u := .bool (decide (((a : Nat) : Int) ≤ ((bel (kidL c) N).2)))) (by kernel_rfl) (congrArg Value.bool (decide_eq_true (by omega)))) ?_
        refine seq_val (.bool true) 97 rfl (by kernel_rfl) (by kernel_rfl) ?_
        refine seq_val (.bool true) 98 rfl (by kernel_rfl) (by kernel_rfl) ?_
        refine seq_val (.int .i64 (((b : Nat) : Int))) 99 rfl (by kernel_rfl) (by kernel_rfl) ?_
        refine seq_val (.int .i64 ((bel (kidL c) N).1)) 100 rfl (by kernel_rfl) (by kernel_rfl) ?_
        refine seq_val (.bool true) 101 rfl (by kernel_rfl) (run_eq (u := .bool (decide (((b : Nat) : Int) ≥ ((bel (kidL c) N).1)))) (by kernel_rfl) (congrArg Value.bool (decide_eq_true (by omega)))) ?_
        refine seq_val (.bool true) 102 rfl (by kernel_rfl) (by kernel_rfl) ?_
        refine seq_val (.bool true) 103 rfl (by kernel_rfl) (by kernel_rfl) ?_
        refine seq_val (.int .i64 (((b : Nat) : Int))) 104 rfl (by kernel_rfl) (by kernel_rfl) ?_
        refine seq_val (.int .i64 ((bel (kidL c) N).2)) 105 rfl (by kernel_rfl) (by kernel_rfl) ?_
        refine seq_val (.bool false) 106 rfl (by kernel_rfl) (run_eq (u := .bool (decide (((b : Nat) : Int) ≤ ((bel (kidL c) N).2)))) (by kernel_rfl) (congrArg Value.bool (decide_eq_false (by omega)))) ?_
        refine seq_val (.bool false) 107 rfl (by kernel_rfl) (by kernel_rfl) ?_
        refine seq_nil ?_
        refine hK44 _ _ ?_
        try clear hK44 K44
        refine cond_false (by kernel_rfl) ?_
        refine wp_skip ?_
        refine hK14 _ _ ?_
        try clear hK14 K14
        refine region_lit ?_
        refine seq_val (.int .i64 1) 108 rfl (by kernel_rfl) (by kernel_rfl) ?_
        refine seq_val (.int .i64 1) 78 rfl (by kernel_rfl) (by kernel_rfl) ?_
        refine seq_nil ?_
        show Code.rounds _ _ _ 2 _ _
        show Code.wp _ _ (Exit.then (Code.rounds _ _ _ 1) _) _ _
        refine wp_seq_k fun K117 hK117 => ?_
        refine region_lit ?_
        refine seq_val (.bool true) 79 rfl (by kernel_rfl) (by kernel_rfl) ?_
        refine seq_nil ?_
        refine hK117 _ _ ?_
        try clear hK117 K117
        refine wp_seq_k fun K118 hK118 => ?_
        refine cond_true (by kernel_rfl) ?_
        refine wp_skip ?_
        refine hK118 _ _ ?_
        try clear hK118 K118
        refine wp_seq_k fun K119 hK119 => ?_
        refine wp_block ?_
        refine wp_seq_k fun K120 hK120 => ?_
        refine region_lit ?_
        refine seq_val (.pointer (some ⟨g11, 1, none⟩)) 80 rfl (by kernel_rfl) (run_indexS0 57 _ _ .i64 (1) g11 2 2 3 rfl (by kernel_rfl) (by kernel_rfl) (by kernel_rfl) (by kernel_rfl) (by decide)) ?_
        have r11_7 := (row_ext r11_6 e7)
        refine seq_val (.int .i64 (kidR c)) 81 rfl (by kernel_rfl) (run_loadC1 3 _ g11 1 3 _ (.int .i64 (kidR c)) _ r11_7 rfl (by kernel_rfl) (by kernel_rfl) (by kernel_rfl)) ?_
        refine seq_val (.int .i64 (kidR c)) 14 rfl (by kernel_rfl) (by kernel_rfl) ?_
        refine seq_nil ?_
        refine hK120 _ _ ?_
        try clear hK120 K120
        refine wp_seq_k fun K121 hK121 => ?_
        refine wp_seq_k fun K122 hK122 => ?_
        refine region_lit ?_
        refine seq_val (.int .i64 (kidR c)) 82 rfl (by kernel_rfl) (by kernel_rfl) ?_
        refine seq_val (.bool (decide ((kidR c) < 0))) 83 rfl (by kernel_rfl) (by kernel_rfl) ?_
        refine seq_nil ?_
        refine hK122 _ _ ?_
        try clear hK122 K122
        refine cond_split (t := decide ((kidR c) < 0)) (by kernel_rfl) (fun c123 => ?_) (fun c123 => ?_)
        · skip
          have hzR : kidR c < 0 := of_decide_eq_true c123
          refine wp_exit ?_
          refine hK119 _ _ ?_
          try clear hK119 K119
          refine region_lit ?_
          refine seq_val (.int .i64 2) 108 rfl (by kernel_rfl) (by kernel_rfl) ?_
          refine seq_val (.int .i64 2) 78 rfl (by kernel_rfl) (by kernel_rfl) ?_
          refine seq_nil ?_
          show Code.rounds _ _ _ 1 _ _
          show Code.wp _ _ (Exit.then (Code.rounds _ _ _ 0) _) _ _
          refine wp_seq_k fun K124 hK124 => ?_
          refine region_lit ?_
          refine seq_val (.bool false) 79 rfl (by kernel_rfl) (by kernel_rfl) ?_
          refine seq_nil ?_
          refine hK124 _ _ ?_
          try clear hK124 K124
          refine wp_seq_k fun K125 hK125 => ?_
          refine cond_false (by kernel_rfl) ?_
          refine wp_exit ?_
          refine hK9 _ _ ?_
          try clear hK9 K9
          refine wp_seq_k fun K126 hK126 => ?_
          refine region_lit ?_
          refine seq_val (.int .i64 (((a : Nat) : Int))) 109 rfl (by kernel_rfl) (by kernel_rfl) ?_
          refine seq_val (.int .i64 (((b : Nat) : Int))) 110 rfl (by kernel_rfl) (by kernel_rfl) ?_
          refine seq_val (.bool true) 111 rfl (by kernel_rfl) (run_eq (u := .bool ((((a : Nat) : Int) != ((b : Nat) : Int)))) (by kernel_rfl) (congrArg Value.bool (bne_iff_ne.2 (by omega)))) ?_
          refine seq_val (.bool true) 112 rfl (by kernel_rfl) (by kernel_rfl) ?_
          refine seq_skip 113 rfl (by kernel_rfl) ?_
          refine seq_skip 114 rfl (by kernel_rfl) ?_
          refine seq_skip 115 rfl (by kernel_rfl) ?_
          refine seq_skip 116 rfl (by kernel_rfl) ?_
          refine seq_val (.bool true) 117 rfl (by kernel_rfl) (by kernel_rfl) ?_
          refine seq_val (.bool true) 6 rfl (by kernel_rfl) (by kernel_rfl) ?_
          refine seq_nil ?_
          refine hK126 _ _ ?_
          try clear hK126 K126
          refine wp_ret ?_
          repeat (first | with_reducible refine goR1 ?_ | with_reducible refine goR2 ?_)
          exact (show bodyPost _ _ _ .ret _ _ from ret1 (.bool true) rfl (res_tmp (by kernel_rfl)) ⟨rfl, x7⟩)
        · skip
          have hzR : ¬ kidR c < 0 := of_decide_eq_false c123
          refine wp_skip ?_
          refine hK121 _ _ ?_
          try clear hK121 K121
          refine wp_seq_k fun K127 hK127 => ?_
          refine region_lit ?_
          refine seq_val (.int .i64 (kidR c)) 85 rfl (by kernel_rfl) (by kernel_rfl) ?_
          refine seq_val (.int .i64 (N)) 86 rfl (by kernel_rfl) (by kernel_rfl) ?_
          refine seq_call (.tuple #[.int .i64 (bel (kidR c) N).1, .int .i64 (bel (kidR c) N).2]) 33 #[.int .i64 (kidR c), .int .i64 (N)] 87 rfl (by kernel_rfl) (by kernel_rfl) (belowR (kidR c) N (by unfold i64; omega) _ (TabAt.ext hT x7)) fun W8 e8 => ?_
          have x8 : Ext w W8 := Ext.tr x7 e8
          refine seq_val (.tuple #[.int .i64 (bel (kidR c) N).1, .int .i64 (bel (kidR c) N).2]) 84 rfl (by kernel_rfl) (by kernel_rfl) ?_
          refine seq_val (.int .i64 ((bel (kidR c) N).1)) 88 rfl (by kernel_rfl) (by kernel_rfl) ?_
          refine seq_val (.int .i64 ((bel (kidR c) N).2)) 89 rfl (by kernel_rfl) (by kernel_rfl) ?_
          refine seq_val (.int .i64 ((bel (kidR c) N).1)) 15 rfl (by kernel_rfl) (by kernel_rfl) ?_
          refine seq_val (.int .i64 ((bel (kidR c) N).2)) 16 rfl (by kernel_rfl) (by kernel_rfl) ?_
          refine seq_nil ?_
          refine hK127 _ _ ?_
          try clear hK127 K127
          refine wp_seq_k fun K128 hK128 => ?_
          rcases out4 (hoR.resolve_left hzR) with ho4 | ho4 | ho4 | ho4
          · skip
            refine region_lit ?_
            refine seq_val (.int .i64 (((a : Nat) : Int))) 90 rfl (by kernel_rfl) (by kernel_rfl) ?_
            refine seq_val (.int .i64 ((bel (kidR c) N).1)) 91 rfl (by kernel_rfl) (by kernel_rfl) ?_
            refine seq_val (.bool false) 92 rfl (by kernel_rfl) (run_eq (u := .bool (decide (((a : Nat) : Int) ≥ ((bel (kidR c) N).1)))) (by kernel_rfl) (congrArg Value.bool (decide_eq_false (by omega)))) ?_
            refine seq_val (.bool false) 93 rfl (by kernel_rfl) (by kernel_rfl) ?_
            refine seq_skip 94 rfl (by kernel_rfl) ?_
            refine seq_skip 95 rfl (by kernel_rfl) ?_
            refine seq_skip 96 rfl (by kernel_rfl) ?_
            refine seq_val (.bool false) 97 rfl (by kernel_rfl) (by kernel_rfl) ?_
            refine seq_val (.bool false) 98 rfl (by kernel_rfl) (by kernel_rfl) ?_
            refine seq_skip 99 rfl (by kernel_rfl) ?_
            refine seq_skip 100 rfl (by kernel_rfl) ?_
            refine seq_skip 101 rfl (by kernel_rfl) ?_
            refine seq_val (.bool false) 102 rfl (by kernel_rfl) (by kernel_rfl) ?_
            refine seq_val (.bool false) 103 rfl (by kernel_rfl) (by kernel_rfl) ?_
            refine seq_skip 104 rfl (by kernel_rfl) ?_
            refine seq_skip 105 rfl (by kernel_rfl) ?_
            refine seq_skip 106 rfl (by kernel_rfl) ?_
            refine seq_val (.bool false) 107 rfl (by kernel_rfl) (by kernel_rfl) ?_
            refine seq_nil ?_
            refine hK128 _ _ ?_
            try clear hK128 K128
            refine cond_false (by kernel_rfl) ?_
            refine wp_skip ?_
            refine hK119 _ _ ?_
            try clear hK119 K119
            refine region_lit ?_
            refine seq_val (.int .i64 2) 108 rfl (by kernel_rfl) (by kernel_rfl) ?_
            refine seq_val (.int .i64 2) 78 rfl (by kernel_rfl) (by kernel_rfl) ?_
            refine seq_nil ?_
            show Code.rounds _ _ _ 1 _ _
            show Code.wp _ _ (Exit.then (Code.rounds _ _ _ 0) _) _ _
            refine wp_seq_k fun K129 hK129 => ?_
            refine region_lit ?_
            refine seq_val (.bool false) 79 rfl (by kernel_rfl) (by kernel_rfl) ?_
            refine seq_nil ?_
            refine hK129 _ _ ?_
            try clear hK129 K129
            refine wp_seq_k fun K130 hK130 => ?_
            refine cond_false (by kernel_rfl) ?_
            refine wp_exit ?_
            refine hK9 _ _ ?_
            try clear hK9 K9
            refine wp_seq_k fun K131 hK131 => ?_
            refine region_lit ?_
            refine seq_val (.int .i64 (((a : Nat) : Int))) 109 rfl (by kernel_rfl) (by kernel_rfl) ?_
            refine seq_val (.int .i64 (((b : Nat) : Int))) 110 rfl (by kernel_rfl) (by kernel_rfl) ?_
            refine seq_val (.bool true) 111 rfl (by kernel_rfl) (run_eq (u := .bool ((((a : Nat) : Int) != ((b : Nat) : Int)))) (by kernel_rfl) (congrArg Value.bool (bne_iff_ne.2 (by omega)))) ?_
            refine seq_val (.bool true) 112 rfl (by kernel_rfl) (by kernel_rfl) ?_
            refine seq_skip 113 rfl (by kernel_rfl) ?_
            refine seq_skip 114 rfl (by kernel_rfl) ?_
            refine seq_skip 115 rfl (by kernel_rfl) ?_
            refine seq_skip 116 rfl (by kernel_rfl) ?_
            refine seq_val (.bool true) 117 rfl (by kernel_rfl) (by kernel_rfl) ?_
            refine seq_val (.bool true) 6 rfl (by kernel_rfl) (by kernel_rfl) ?_
            refine seq_nil ?_
            refine hK131 _ _ ?_
            try clear hK131 K131
            refine wp_ret ?_
            repeat (first | with_reducible refine goR1 ?_ | with_reducible refine goR2 ?_)
            exact (show bodyPost _ _ _ .ret _ _ from ret1 (.bool true) rfl (res_tmp (by kernel_rfl)) ⟨rfl, x8⟩)
          · skip
            refine region_lit ?_
            refine seq_val (.int .i64 (((a : Nat) : Int))) 90 rfl (by kernel_rfl) (by kernel_rfl) ?_
            refine seq_val (.int .i64 ((bel (kidR c) N).1)) 91 rfl (by kernel_rfl) (by kernel_rfl) ?_
            refine seq_val (.bool true) 92 rfl (by kernel_rfl) (run_eq (u := .bool (decide (((a : Nat) : Int) ≥ ((bel (kidR c) N).1)))) (by kernel_rfl) (congrArg Value.bool (decide_eq_true (by omega)))) ?_
            refine seq_val (.bool true) 93 rfl (by kernel_rfl) (by kernel_rfl) ?_
            refine seq_val (.int .i64 (((a : Nat) : Int))) 94 rfl (by kernel_rfl) (by kernel_rfl) ?_
            refine seq_val (.int .i64 ((bel (kidR c) N).2)) 95 rfl (by kernel_rfl) (by kernel_rfl) ?_
            refine seq_val (.bool false) 96 rfl (by kernel_rfl) (run_eq (u := .bool (decide (((a : Nat) : Int) ≤ ((bel (kidR c) N).2)))) (by kernel_rfl) (congrArg Value.bool (decide_eq_false (by omega)))) ?_
            refine seq_val (.bool false) 97 rfl (by kernel_rfl) (by kernel_rfl) ?_
            refine seq_val (.bool false) 98 rfl (by kernel_rfl) (by kernel_rfl) ?_
            refine seq_skip 99 rfl (by kernel_rfl) ?_
            refine seq_skip 100 rfl (by kernel_rfl) ?_
            refine seq_skip 101 rfl (by kernel_rfl) ?_
            refine seq_val (.bool false) 102 rfl (by kernel_rfl) (by kernel_rfl) ?_
            refine seq_val (.bool false) 103 rfl (by kernel_rfl) (by kernel_rfl) ?_
            refine seq_skip 104 rfl (by kernel_rfl) ?_
            refine seq_skip 105 rfl (by kernel_rfl) ?_
            refine seq_skip 106 rfl (by kernel_rfl) ?_
            refine seq_val (.bool false) 107 rfl (by kernel_rfl) (by kernel_rfl) ?_
            refine seq_nil ?_
            refine hK128 _ _ ?_
            try clear hK128 K128
            refine cond_false (by kernel_rfl) ?_
            refine wp_skip ?_
            refine hK119 _ _ ?_
            try clear hK119 K119
            refine region_lit ?_
            refine seq_val (.int .i64 2) 108 rfl (by kernel_rfl) (by kernel_rfl) ?_
            refine seq_val (.int .i64 2) 78 rfl (by kernel_rfl) (by kernel_rfl) ?_
            refine seq_nil ?_
            show Code.rounds _ _ _ 1 _ _
            show Code.wp _ _ (Exit.then (Code.rounds _ _ _ 0) _) _ _
            refine wp_seq_k fun K132 hK132 => ?_
            refine region_lit ?_
            refine seq_val (.bool false) 79 rfl (by kernel_rfl) (by kernel_rfl) ?_
            refine seq_nil ?_
            refine hK132 _ _ ?_
            try clear hK132 K132
            refine wp_seq_k fun K133 hK133 => ?_
            refine cond_false (by kernel_rfl) ?_
            refine wp_exit ?_
            refine hK9 _ _ ?_
            try clear hK9 K9
            refine wp_seq_k fun K134 hK134 => ?_
            refine region_lit ?_
            refine seq_val (.int .i64 (((a : Nat) : Int))) 109 rfl (by kernel_rfl) (by kernel_rfl) ?_
            refine seq_val (.int .i64 (((b : Nat) : Int))) 110 rfl (by kernel_rfl) (by kernel_rfl) ?_
            refine seq_val (.bool true) 111 rfl (by kernel_rfl) (run_eq (u := .bool ((((a : Nat) : Int) != ((b : Nat) : Int)))) (by kernel_rfl) (congrArg Value.bool (bne_iff_ne.2 (by omega)))) ?_
            refine seq_val (.bool true) 112 rfl (by kernel_rfl) (by kernel_rfl) ?_
            refine seq_skip 113 rfl (by kernel_rfl) ?_
            refine seq_skip 114 rfl (by kernel_rfl) ?_
            refine seq_skip 115 rfl (by kernel_rfl) ?_
            refine seq_skip 116 rfl (by kernel_rfl) ?_
            refine seq_val (.bool true) 117 rfl (by kernel_rfl) (by kernel_rfl) ?_
            refine seq_val (.bool true) 6 rfl (by kernel_rfl) (by kernel_rfl) ?_
            refine seq_nil ?_
            refine hK134 _ _ ?_
            try clear hK134 K134
            refine wp_ret ?_
            repeat (first | with_reducible refine goR1 ?_ | with_reducible refine goR2 ?_)
            exact (show bodyPost _ _ _ .ret _ _ from ret1 (.bool true) rfl (res_tmp (by kernel_rfl)) ⟨rfl, x8⟩)
          · skip
            refine region_lit ?_
            refine seq_val (.int .i64 (((a : Nat) : Int))) 90 rfl (by kernel_rfl) (by kernel_rfl) ?_
            refine seq_val (.int .i64 ((bel (kidR c) N).1)) 91 rfl (by kernel_rfl) (by kernel_rfl) ?_
            refine seq_val (.bool true) 92 rfl (by kernel_rfl) (run_eq (u := .bool (decide (((a : Nat) : Int) ≥ ((bel (kidR c) N).1)))) (by kernel_rfl) (congrArg Value.bool (decide_eq_true (by omega)))) ?_
            refine seq_val (.bool true) 93 rfl (by kernel_rfl) (by kernel_rfl) ?_
            refine seq_val (.int .i64 (((a : Nat) : Int))) 94 rfl (by kernel_rfl) (by kernel_rfl) ?_
            refine seq_val (.int .i64 ((bel (kidR c) N).2)) 95 rfl (by kernel_rfl) (by kernel_rfl) ?_
            refine seq_val (.bool true) 96 rfl (by kernel_rfl) (run_eq (u := .bool (decide (((a : Nat) : Int) ≤ ((bel (kidR c) N).2)))) (by kernel_rfl) (congrArg Value.bool (decide_eq_true (by omega)))) ?_
            refine seq_val (.bool true) 97 rfl (by kernel_rfl) (by kernel_rfl) ?_
            refine seq_val (.bool true) 98 rfl (by kernel_rfl) (by kernel_rfl) ?_
            refine seq_val (.int .i64 (((b : Nat) : Int))) 99 rfl (by kernel_rfl) (by kernel_rfl) ?_
            refine seq_val (.int .i64 ((bel (kidR c) N).1)) 100 rfl (by kernel_rfl) (by kernel_rfl) ?_
            refine seq_val (.bool false) 101 rfl (by kernel_rfl) (run_eq (u := .bool (decide (((b : Nat) : Int) ≥ ((bel (kidR c) N).1)))) (by kernel_rfl) (congrArg Value.bool (decide_eq_false (by omega)))) ?_
            refine seq_val (.bool false) 102 rfl (by kernel_rfl) (by kernel_rfl) ?_
            refine seq_val (.bool false) 103 rfl (by kernel_rfl) (by kernel_rfl) ?_
            refine seq_skip 104 rfl (by kernel_rfl) ?_
            refine seq_skip 105 rfl (by kernel_rfl) ?_
            refine seq_skip 106 rfl (by kernel_rfl) ?_
            refine seq_val (.bool false) 107 rfl (by kernel_rfl) (by kernel_rfl) ?_
            refine seq_nil ?_
            refine hK128 _ _ ?_
            try clear hK128 K128
            refine cond_false (by kernel_rfl) ?_
            refine wp_skip ?_
            refine hK119 _ _ ?_
            try clear hK119 K119
            refine region_lit ?_
            refine seq_val (.int .i64 2) 108 rfl (by kernel_rfl) (by kernel_rfl) ?_
            refine seq_val (.int .i64 2) 78 rfl (by kernel_rfl) (by kernel_rfl) ?_
            refine seq_nil ?_
            show Code.rounds _ _ _ 1 _ _
            show Code.wp _ _ (Exit.then (Code.rounds _ _ _ 0) _) _ _
            refine wp_seq_k fun K135 hK135 => ?_
            refine region_lit ?_
            refine seq_val (.bool false) 79 rfl (by kernel_rfl) (by kernel_rfl) ?_
            refine seq_nil ?_
            refine hK135 _ _ ?_
            try clear hK135 K135
            refine wp_seq_k fun K136 hK136 => ?_
            refine cond_false (by kernel_rfl) ?_
            refine wp_exit ?_
            refine hK9 _ _ ?_
            try clear hK9 K9
            refine wp_seq_k fun K137 hK137 => ?_
            refine region_lit ?_
            refine seq_val (.int .i64 (((a : Nat) : Int))) 109 rfl (by kernel_rfl) (by kernel_rfl) ?_
            refine seq_val (.int .i64 (((b : Nat) : Int))) 110 rfl (by kernel_rfl) (by kernel_rfl) ?_
            refine seq_val (.bool true) 111 rfl (by kernel_rfl) (run_eq (u := .bool ((((a : Nat) : Int) != ((b : Nat) : Int)))) (by kernel_rfl) (congrArg Value.bool (bne_iff_ne.2 (by omega)))) ?_
            refine seq_val (.bool true) 112 rfl (by kernel_rfl) (by kernel_rfl) ?_
            refine seq_skip 113 rfl (by kernel_rfl) ?_
            refine seq_skip 114 rfl (by kernel_rfl) ?_
            refine seq_skip 115 rfl (by kernel_rfl) ?_
            refine seq_skip 116 rfl (by kernel_rfl) ?_
            refine seq_val (.bool true) 117 rfl (by kernel_rfl) (by kernel_rfl) ?_
            refine seq_val (.bool true) 6 rfl (by kernel_rfl) (by kernel_rfl) ?_
            refine seq_nil ?_
            refine hK137 _ _ ?_
            try clear hK137 K137
            refine wp_ret ?_
            repeat (first | with_reducible refine goR1 ?_ | with_reducible refine goR2 ?_)
            exact (show bodyPost _ _ _ .ret _ _ from ret1 (.bool true) rfl (res_tmp (by kernel_rfl)) ⟨rfl, x8⟩)
          · skip
            refine region_lit ?_
            refine seq_val (.int .i64 (((a : Nat) : Int))) 90 rfl (by kernel_rfl) (by kernel_rfl) ?_
            refine seq_val (.int .i64 ((bel (kidR c) N).1)) 91 rfl (by kernel_rfl) (by kernel_rfl) ?_
            refine seq_val (.bool true) 92 rfl (by kernel_rfl) (run_eq (u := .bool (decide (((a : Nat) : Int) ≥ ((bel (kidR c) N).1)))) (by kernel_rfl) (congrArg Value.bool (decide_eq_true (by omega)))) ?_
            refine seq_val (.bool true) 93 rfl (by kernel_rfl) (by kernel_rfl) ?_
            refine seq_val (.int .i64 (((a : Nat) : Int))) 94 rfl (by kernel_rfl) (by kernel_rfl) ?_
            refine seq_val (.int .i64 ((bel (kidR c) N).2)) 95 rfl (by kernel_rfl) (by kernel_rfl) ?_
            refine seq_val (.bool true) 96 rfl (by kernel_rfl) (run_eq (u := .bool (decide (((a : Nat) : Int) ≤ ((bel (kidR c) N).2)))) (by kernel_rfl) (congrArg Value.bool (decide_eq_true (by omega)))) ?_
            refine seq_val (.bool true) 97 rfl (by kernel_rfl) (by kernel_rfl) ?_
            refine seq_val (.bool true) 98 rfl (by kernel_rfl) (by kernel_rfl) ?_
            refine seq_val (.int .i64 (((b : Nat) : Int))) 99 rfl (by kernel_rfl) (by kernel_rfl) ?_
            refine seq_val (.int .i64 ((bel (kidR c) N).1)) 100 rfl (by kernel_rfl) (by kernel_rfl) ?_
            refine seq_val (.bool true) 101 rfl (by kernel_rfl) (run_eq (u := .bool (decide (((b : Nat) : Int) ≥ ((bel (kidR c) N).1)))) (by kernel_rfl) (congrArg Value.bool (decide_eq_true (by omega)))) ?_
            refine seq_val (.bool true) 102 rfl (by kernel_rfl) (by kernel_rfl) ?_
            refine seq_val (.bool true) 103 rfl (by kernel_rfl) (by kernel_rfl) ?_
            refine seq_val (.int .i64 (((b : Nat) : Int))) 104 rfl (by kernel_rfl) (by kernel_rfl) ?_
            refine seq_val (.int .i64 ((bel (kidR c) N).2)) 105 rfl (by kernel_rfl) (by kernel_rfl) ?_
            refine seq_val (.bool false) 106 rfl (by kernel_rfl) (run_eq (u := .bool (decide (((b : Nat) : Int) ≤ ((bel (kidR c) N).2)))) (by kernel_rfl) (congrArg Value.bool (decide_eq_false (by omega)))) ?_
            refine seq_val (.bool false) 107 rfl (by kernel_rfl) (by kernel_rfl) ?_
            refine seq_nil ?_
            refine hK128 _ _ ?_
            try clear hK128 K128
            refine cond_false (by kernel_rfl) ?_
            refine wp_skip ?_
            refine hK119 _ _ ?_
            try clear hK119 K119
            refine region_lit ?_
            refine seq_val (.int .i64 2) 108 rfl (by kernel_rfl) (by kernel_rfl) ?_
            refine seq_val (.int .i64 2) 78 rfl (by kernel_rfl) (by kernel_rfl) ?_
            refine seq_nil ?_
            show Code.rounds _ _ _ 1 _ _
            show Code.wp _ _ (Exit.then (Code.rounds _ _ _ 0) _) _ _
            refine wp_seq_k fun K138 hK138 => ?_
            refine region_lit ?_
            refine seq_val (.bool false) 79 rfl (by kernel_rfl) (by kernel_rfl) ?_
            refine seq_nil ?_
            refine hK138 _ _ ?_
            try clear hK138 K138
            refine wp_seq_k fun K139 hK139 => ?_
            refine cond_false (by kernel_rfl) ?_
            refine wp_exit ?_
            refine hK9 _ _ ?_
            try clear hK9 K9
            refine wp_seq_k fun K140 hK140 => ?_
            refine region_lit ?_
            refine seq_val (.int .i64 (((a : Nat) : Int))) 109 rfl (by kernel_rfl) (by kernel_rfl) ?_
            refine seq_val (.int .i64 (((b : Nat) : Int))) 110 rfl (by kernel_rfl) (by kernel_rfl) ?_
            refine seq_val (.bool true) 111 rfl (by kernel_rfl) (run_eq (u := .bool ((((a : Nat) : Int) != ((b : Nat) : Int)))) (by kernel_rfl) (congrArg Value.bool (bne_iff_ne.2 (by omega)))) ?_
            refine seq_val (.bool true) 112 rfl (by kernel_rfl) (by kernel_rfl) ?_
            refine seq_skip 113 rfl (by kernel_rfl) ?_
            refine seq_skip 114 rfl (by kernel_rfl) ?_
            refine seq_skip 115 rfl (by kernel_rfl) ?_
            refine seq_skip 116 rfl (by kernel_rfl) ?_
            refine seq_val (.bool true) 117 rfl (by kernel_rfl) (by kernel_rfl) ?_
            refine seq_val (.bool true) 6 rfl (by kernel_rfl) (by kernel_rfl) ?_
            refine seq_nil ?_
            refine hK140 _ _ ?_
            try clear hK140 K140
            refine wp_ret ?_
            repeat (first | with_reducible refine goR1 ?_ | with_reducible refine goR2 ?_)
            exact (show bodyPost _ _ _ .ret _ _ from ret1 (.bool true) rfl (res_tmp (by kernel_rfl)) ⟨rfl, x8⟩)

end Go.Proofs.YticjghmgbmjkiaaDoor.Seat
