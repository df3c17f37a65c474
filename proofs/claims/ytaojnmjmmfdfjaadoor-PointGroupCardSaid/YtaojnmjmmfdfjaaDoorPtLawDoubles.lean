/- Points: multiples are sums. -/
import Derived.Test.YtaojnmjmmfdfjaaDoorPtPlain
import Derived.Test.YtaojnmjmmfdfjaaDoorPtLawFrom
namespace Go.Proofs.YtaojnmjmmfdfjaaDoor.Field
open Go Go.RowKit
open Go.Proofs.YtaojnmjmmfdfjaaDoor.Rely Go.Proofs.YtaojnmjmmfdfjaaDoor.Auto.V
open Go.Proofs.YtaojnmjmmfdfjaaDoor.Auto hiding isT tailT readsT storesT okT TailRun tailsOf pureOk stepsT stepsT_found InvT rem Phase isT_some mem_tails mem_rem rem_nodup list_false rem_sorted rem_set filter_ne holdsC wpAny_of_T t_store t_op t_skip t_val t_read t_call t_new t_nil TailEnv tail_env te_nil te_store any_regionT
set_option linter.unusedVariables false

/-! ### The number of bits -/
def numB (es : List Int) : Nat := (leAt es 0 32).toNat
theorem mod_bit (m : Int) (r : Nat) (hr : r < 16) : m % 65536 / 2 ^ r % 2 = m / 2 ^ r % 2 := by
  rcases (by omega : r = 0 ∨ r = 1 ∨ r = 2 ∨ r = 3 ∨ r = 4 ∨ r = 5 ∨ r = 6 ∨ r = 7 ∨ r = 8 ∨ r = 9 ∨ r = 10 ∨ r = 11 ∨ r = 12 ∨ r = 13 ∨ r = 14 ∨ r = 15) with rfl | rfl | rfl | rfl | rfl | rfl | rfl | rfl | rfl | rfl | rfl | rfl | rfl | rfl | rfl | rfl
  all_goals
    simp only [Int.reducePow]
    omega
theorem bit_num (es : List Int) (hb : AreBytes es) (i : Nat) (hi : i < 256) : bitAt es i = leAt es 0 32 / 2 ^ i % 2 := by
  rw [← lbit_eq es hb i hi]
  unfold lbit limb
  rw [mod_bit _ _ (by omega), Int.ediv_ediv_of_nonneg (Int.pow_nonneg (by decide)), show (65536 : Int) = 2 ^ 16 by decide, ← Int.pow_mul, ← Int.pow_add, show 16 * (i / 16) + i % 16 = i by omega]
theorem bitB_num (es : List Int) (hb : AreBytes es) (i : Nat) (hi : i < 256) : (if bitB es i = true then 1 else 0) = numB es / 2 ^ i % 2 := by
  have h := bit_num es hb i hi
  have hr := le_range es hb
  have e : ((numB es : Nat) : Int) = leAt es 0 32 := by unfold numB; omega
  rw [← e] at h
  have h2 : bitAt es i = ((numB es / 2 ^ i % 2 : Nat) : Int) := by
    rw [h]; rw [Int.natCast_emod, Int.natCast_ediv, Int.natCast_pow]; rfl
  unfold bitB
  rw [h2]
  have : numB es / 2 ^ i % 2 < 2 := Nat.mod_lt _ (by decide)
  rcases (by omega : numB es / 2 ^ i % 2 = 0 ∨ numB es / 2 ^ i % 2 = 1) with q | q <;> rw [q] <;> rfl
theorem bval_snoc (bs : List Bool) (b : Bool) : bval (bs ++ [b]) = 2 * bval bs + if b then 1 else 0 := by unfold bval; rw [List.foldl_append]; rfl
theorem bval_take (es : List Int) (hb : AreBytes es) : ∀ k, k ≤ 256 → bval ((bitsB es).take k) = numB es / 2 ^ (256 - k)
  | 0, _ => by
    have hr := le_range es hb
    have : numB es < 2 ^ 256 := by
      have : (2 : Int) ^ 256 = big := by decide
      unfold numB
      have e2 : ((2 ^ 256 : Nat) : Int) = big := by rw [← this]; rfl
      omega
    rw [Nat.sub_zero, Nat.div_eq_of_lt this]
    rfl
  | k + 1, hk => by
    have e := bitsB_take es (255 - k) (by omega)
    rw [show 256 - (255 - k) = k + 1 by omega, show 256 - (255 - k + 1) = k by omega] at e
    rw [e, bval_snoc, bval_take es hb k (by omega), bitB_num es hb _ (by omega), show 256 - k = (255 - k) + 1 by omega, show 256 - (k + 1) = 255 - k by omega, Nat.pow_succ, ← Nat.div_div_eq_div_mul]
    omega
theorem bval_bits (es : List Int) (hb : AreBytes es) : bval (bitsB es) = numB es := by
  have h := bval_take es hb 256 (Nat.le_refl _)
  rw [List.take_of_length_le (by rw [bitsB_len]; omega)] at h
  rw [h]
  simp
theorem leAt_zero : ∀ (k o : Nat) (xs : List Int), (∀ i, i < k → nth xs (o + i) = 0) → leAt xs o k = 0
  | 0, _, _, _ => rfl
  | k + 1, o, xs, h => by rw [leAt, leAt_zero k o xs fun i hi => h i (by omega), h k (by omega)]; simp
theorem nth_rep0 (n i : Nat) : nth (List.replicate n 0) i = 0 := by
  unfold nth
  rw [List.getD_eq_getElem?_getD, List.getElem?_replicate]
  split <;> rfl
theorem leAt_two (a b : Int) (n : Nat) : ∀ k, leAt (a :: b :: List.replicate n 0) 0 (k + 2) = a + 256 * b
  | 0 => by simp [leAt, nth]; omega
  | k + 1 => by
    rw [leAt, leAt_two a b n k]
    have : nth (a :: b :: List.replicate n 0) (0 + (k + 2)) = 0 := by
      rw [Nat.zero_add]
      show nth (List.replicate n 0) k = 0
      exact nth_rep0 n k
    rw [this]; simp
def key1 (a : Int) : List Int := a :: List.replicate 31 0
def key2 (a b : Int) : List Int := a :: b :: List.replicate 30 0
theorem key1_len (a : Int) : (key1 a).length = 32 := by simp [key1]
theorem key2_len (a b : Int) : (key2 a b).length = 32 := by simp [key2]
theorem key2_bytes {a b : Int} (ha : 0 ≤ a ∧ a ≤ 255) (hb : 0 ≤ b ∧ b ≤ 255) : AreBytes (key2 a b) := fun v hv => by
  simp only [key2, List.mem_cons, List.mem_replicate] at hv
  omega
theorem key1_eq (a : Int) : key1 a = key2 a 0 := rfl
theorem key1_bytes {a : Int} (ha : 0 ≤ a ∧ a ≤ 255) : AreBytes (key1 a) := by rw [key1_eq]; exact key2_bytes ha (by omega)
theorem num_key2 (a b : Int) : numB (key2 a b) = (a + 256 * b).toNat := by unfold numB key2; rw [leAt_two a b 30 30]
theorem climb_num {P : Int × Int} (h : OnP P) (ks : List Int) (hb : AreBytes ks) : climbP P (bitsB ks) = nmul (numB ks) P := by rw [climbP_eq h, bval_bits ks hb]
def BP : Int × Int := (bxN, byN)
theorem BP_on : OnP BP := base_on
def pa (a : List Int) : Int × Int := climbP BP (bitsB a)
theorem pa_on (a : List Int) : OnP (pa a) := climbP_on BP_on _
theorem twice_eq (a : List Int) : climbP (pa a) (bitsB (key1 2)) = pAdd (pa a) (pa a) := by
  rw [climb_num (pa_on a) _ (key1_bytes (by omega)), key1_eq, num_key2]
  show pAdd (nmul 1 (pa a)) (pa a) = _
  rw [nmul_one (pa_on a)]
theorem prod_range {n m : Int} (hn : 0 ≤ n ∧ n ≤ 255) (hm : 0 ≤ m ∧ m ≤ 255) : 0 ≤ n * m ∧ n * m ≤ 65025 := by
  have h1 := Int.mul_nonneg hn.1 hm.1
  have h2 : n * m ≤ 255 * m := Int.mul_le_mul_of_nonneg_right hn.2 hm.1
  omega
theorem many_eq (a : List Int) {n m : Int} (hn : 0 ≤ n ∧ n ≤ 255) (hm : 0 ≤ m ∧ m ≤ 255) :
    climbP (climbP (pa a) (bitsB (key1 n))) (bitsB (key1 m)) = climbP (pa a) (bitsB (key2 (n * m % 256) (n * m / 256))) := by
  have hp := prod_range hn hm
  generalize hq : n * m = q at hp
  rw [climb_num (pa_on a) _ (key1_bytes hn), climb_num (nmul_on (pa_on a) _) _ (key1_bytes hm), climb_num (pa_on a) _ (key2_bytes (by omega) (by omega)), ← nmul_mul (pa_on a), key1_eq, key1_eq, num_key2, num_key2, num_key2]
  congr 1
  have e1 : q % 256 + 256 * (q / 256) = q := by omega
  rw [e1, ← hq, Int.mul_zero, Int.add_zero, Int.add_zero, Int.mul_comm, Int.toNat_mul hm.1 hn.1]
theorem i64_u8 {n : Int} (h : 0 ≤ n ∧ n ≤ 255) : IntKind.i64.wrap n = n := IntWalk.i64_in _ (by omega)
theorem i64_prod {n m : Int} (hn : 0 ≤ n ∧ n ≤ 255) (hm : 0 ≤ m ∧ m ≤ 255) : IntKind.i64.wrap (n * m) = n * m := by
  have := prod_range hn hm
  exact IntWalk.i64_in _ (by omega)
theorem u8_mod (n : Int) : IntKind.u8.wrap n = n % 256 := by rw [IntKind.wrap_u8]
theorem u8_hi {n m : Int} (hn : 0 ≤ n ∧ n ≤ 255) (hm : 0 ≤ m ∧ m ≤ 255) : IntKind.u8.wrap (n * m / 256) = n * m / 256 := by
  have := prod_range hn hm
  rw [u8_mod]
  omega
theorem shr_8 (v : Int) : v.fdiv (2 ^ min (8 : Int).toNat IntKind.i64.bits) = v / 256 := by
  show Int.fdiv v 256 = v / 256
  exact Int.fdiv_eq_ediv_of_nonneg v (by decide)
set_option maxHeartbeats 4000000 in
theorem lawDoubles (a : List Int) (n m : Int) (ha : a.length = 32) (hab : AreBytes a) (hn : 0 ≤ n ∧ n ≤ 255) (hm : 0 ≤ m ∧ m ≤ 255) (w : World) (tB : TypeId) (hB : w.heap[0]? = some (.cells (ints .u8 bendL) tB)) (tX : TypeId) (hX : w.heap[1]? = some (.cells (ints .u8 baseXL) tX)) (tY : TypeId) (hY : w.heap[2]? = some (.cells (ints .u8 baseYL) tY)) : Calls Tryd.prog 9 #[.agg (ints .u8 (a)), .int .u8 (n), .int .u8 (m)] w (Ret w (.bool true)) := by
  refine enter 60 [(0, .agg (ints .u8 (a))), (1, .int .u8 (n)), (2, .int .u8 (m))] Tryd.func9 rfl rfl (by kernel_rfl) rfl ?_
  refine wp_seq_k fun K4 hK4 => ?_
  refine region_lit ?_
  refine seq_alloc (ints .u8 (a)) 23 3 rfl (by kernel_rfl) (by kernel_rfl) fun g5 W1 l5 e1 r5_1 => ?_
  have x1 : Ext w W1 := Ext.tr (Rely.Ext.refl w) e1
  have b5 : w.heap.size ≤ g5 := Nat.le_trans (Rely.Ext.refl w).size l5
  refine seq_val (.bool false) 6 rfl (by kernel_rfl) (by kernel_rfl) ?_
  refine seq_nil ?_
  refine hK4 _ _ ?_
  try clear hK4 K4
  refine wp_seq_k fun K6 hK6 => ?_
  refine wp_seq_k fun K7 hK7 => ?_
  refine region_lit ?_
  have r1_1 := (row_ext hB e1)
  have r2_1 := (row_ext hX e1)
  have r3_1 := (row_ext hY e1)
  refine seq_call (.bool true) 10 #[] 11 rfl (by kernel_rfl) (by kernel_rfl) (alive7 _ tB r1_1 tX r2_1 tY r3_1) fun W2 e2 => ?_
  have x2 : Ext w W2 := Ext.tr x1 e2
  refine seq_val (.bool false) 12 rfl (by kernel_rfl) (by kernel_rfl) ?_
  refine seq_nil ?_
  refine hK7 _ _ ?_
  try clear hK7 K7
  refine cond_false (by kernel_rfl) ?_
  refine wp_skip ?_
  refine hK6 _ _ ?_
  try clear hK6 K6
  refine wp_seq_k fun K8 hK8 => ?_
  refine any_regionD 4 [⟨none, []⟩, ⟨none, [(3, none)]⟩, ⟨none, [(13, some 0), (14, some 1)]⟩, ⟨none, []⟩] [3] (by kernel_rfl) (by kernel_rfl) (by kernel_rfl) fun F hF => ?_
  have r2_2 := (row_ext r2_1 e2)
  have r3_2 := (row_ext r3_1 e2)
  refine any_call (.agg (cat [numA ((BP).1), numA (((BP).2 - 1) % p)])) 22 #[] (by kernel_rfl) (by kernel_rfl) (fun W => by kernel_rfl) (fun W hR => ptBase W tX (row_ext (row_ext r2_2 (ext_drew _)) hR) tY (row_ext (row_ext r3_2 (ext_drew _)) hR)) ?_
  have r5_2 := (row_ext r5_1 e2)
  refine any_read (.agg (ints .u8 (a))) (by kernel_rfl) (by kernel_rfl) (fun W hR => (run_load_row 23 _ g5 23 _ _ (row_ext (row_ext r5_2 (ext_drew _)) hR) rfl (by kernel_rfl) (by kernel_rfl) (isz (n := 32) (by kernel_rfl) ((ints_size _ _).trans ha)))) ?_
  have r1_2 := (row_ext r1_1 e2)
  refine any_call (.agg (cat [numA ((pa a).1), numA (((pa a).2 - 1) % p)])) 20 #[.agg (cat [numA ((BP).1), numA (((BP).2 - 1) % p)]), .agg (ints .u8 (a))] (by kernel_rfl) (by kernel_rfl) (fun W => by kernel_rfl) (fun W hR => ptTimes BP_on a ha hab W tB (row_ext (row_ext r1_2 (ext_drew _)) hR)) ?_
  refine any_new (cat [numA (0), numA (0)]) 30 (by kernel_rfl) (Nat.le_refl _) (by kernel_rfl) (fun W => by kernel_rfl) ?_
  refine steps_nil (hF _ (by kernel_rfl) fun W3 e3 => ?_)
  simp only [fins, up, List.take_succ_cons, List.take_zero, List.drop_succ_cons, List.drop_zero, List.nil_append, List.cons_append]
  intro g9 l9 r9_3 n9
  have b9 : w.heap.size ≤ g9 := Nat.le_trans x2.size l9
  clear hF
  have x3 : Ext w W3 := Ext.tr x2 e3
  refine seq_store g9 _ (cat [numA ((pa a).1), numA (((pa a).2 - 1) % p)]) 30 r9_3 rfl (by kernel_rfl) (run_store_row 30 _ _ g9 30 _ _ r9_3 rfl (by kernel_rfl) (by kernel_rfl) (isz (n := 8) (by kernel_rfl) (by kernel_rfl)) (eqsz (n := 8) (by kernel_rfl) (by kernel_rfl)) (by kernel_rfl)) fun W4 p4 r9_4 => ?_
  have x4 : Ext w W4 := Puts.ext p4 x3 b9
  refine seq_nil ?_
  refine hK8 _ _ ?_
  try clear hK8 K8
  refine wp_seq_k fun K10 hK10 => ?_
  refine region_lit ?_
  refine seq_val (.agg (cat [numA ((pa a).1), numA (((pa a).2 - 1) % p)])) 17 rfl (by kernel_rfl) (run_load_row 30 _ g9 30 _ _ r9_4 rfl (by kernel_rfl) (by kernel_rfl) (isz (n := 8) (by kernel_rfl) (by kernel_rfl))) ?_
  refine seq_call (.agg (ints .u8 (encP (pa a)))) 13 #[.agg (cat [numA ((pa a).1), numA (((pa a).2 - 1) % p)])] 18 rfl (by kernel_rfl) (by kernel_rfl) ((ptBytes (pa_on a)) _) fun W5 e5 => ?_
  have x5 : Ext w W5 := Ext.tr x4 e5
  have r1_5 := (row_ext (Puts.row p4 (row_ext r1_2 e3) (ne_of_old r1_2 l9)) e5)
  refine seq_call (.tuple #[.agg (cat [numA ((pa a).1), numA (((pa a).2 - 1) % p)]), .bool (true)]) 11 #[.agg (ints .u8 (encP (pa a)))] 19 rfl (by kernel_rfl) (by kernel_rfl) (ptFrom (pa_on a) _ tB r1_5) fun W6 e6 => ?_
  have x6 : Ext w W6 := Ext.tr x5 e6
  refine seq_val (.tuple #[.agg (cat [numA ((pa a).1), numA (((pa a).2 - 1) % p)]), .bool (true)]) 16 rfl (by kernel_rfl) (by kernel_rfl) ?_
  refine seq_val (.agg (cat [numA ((pa a).1), numA (((pa a).2 - 1) % p)])) 20 rfl (by kernel_rfl) (by kernel_rfl) ?_
  refine seq_val (.bool (true)) 21 rfl (by kernel_rfl) (by kernel_rfl) ?_
  refine seq_alloc (cat [numA (0), numA (0)]) 30 8 rfl (by kernel_rfl) (by kernel_rfl) fun g11 W7 l11 e7 r11_7 => ?_
  have x7 : Ext w W7 := Ext.tr x6 e7
  have b11 : w.heap.size ≤ g11 := Nat.le_trans x6.size l11
  refine seq_store g11 _ (cat [numA ((pa a).1), numA (((pa a).2 - 1) % p)]) 30 r11_7 rfl (by kernel_rfl) (run_store_row 30 _ _ g11 30 _ _ r11_7 rfl (by kernel_rfl) (by kernel_rfl) (isz (n := 8) (by kernel_rfl) (by kernel_rfl)) (eqsz (n := 8) (by kernel_rfl) (by kernel_rfl)) (by kernel_rfl)) fun W8 p8 r11_8 => ?_
  have x8 : Ext w W8 := Puts.ext p8 x7 b11
  refine seq_val (.bool (true)) 9 rfl (by kernel_rfl) (by kernel_rfl) ?_
  refine seq_nil ?_
  refine hK10 _ _ ?_
  try clear hK10 K10
  refine wp_seq_k fun K12 hK12 => ?_
  refine region_lit ?_
  refine seq_val (.int .u8 (n)) 22 rfl (by kernel_rfl) (by kernel_rfl) ?_
  refine seq_val (.int .i64 (n)) 23 rfl (by kernel_rfl) (run_eq (u := .int .i64 (IntKind.i64.wrap (n))) (by kernel_rfl) (congrArg (Value.int .i64) (i64_u8 hn))) ?_
  refine seq_val (.int .u8 (m)) 24 rfl (by kernel_rfl) (by kernel_rfl) ?_
  refine seq_val (.int .i64 (m)) 25 rfl (by kernel_rfl) (run_eq (u := .int .i64 (IntKind.i64.wrap (m))) (by kernel_rfl) (congrArg (Value.int .i64) (i64_u8 hm))) ?_
  refine seq_val (.int .i64 (n * m)) 26 rfl (by kernel_rfl) (run_eq (u := .int .i64 (IntKind.i64.wrap (n * m))) (by kernel_rfl) (congrArg (Value.int .i64) (i64_prod hn hm))) ?_
  refine seq_val (.int .i64 (n * m)) 10 rfl (by kernel_rfl) (by kernel_rfl) ?_
  refine seq_nil ?_
  refine hK12 _ _ ?_
  try clear hK12 K12
  refine wp_seq_k fun K13 hK13 => ?_
  refine any_region 33 [⟨none, [(9, none)]⟩, ⟨none, [(27, some 0)]⟩, ⟨some (28, true), [(8, none), (28, some 1)]⟩, ⟨some (28, true), [(7, none), (28, some 1)]⟩, ⟨some (28, true), [(29, some 2), (30, some 3), (28, some 1)]⟩, ⟨none, [(28, some 1), (31, some 4)]⟩, ⟨none, [(32, some 5)]⟩, ⟨some (33, true), [(7, none), (33, some 6)]⟩, ⟨some (33, true), [(33, some 6)]⟩, ⟨some (33, true), [(34, some 7), (35, some 8), (33, some 6)]⟩, ⟨some (33, true), [(7, none), (33, some 6)]⟩, ⟨some (33, true), [(7, none), (33, some 6)]⟩, ⟨some (33, true), [(37, some 10), (38, some 11), (33, some 6)]⟩, ⟨some (33, true), [(36, some 9), (39, some 12), (33, some 6)]⟩, ⟨none, [(33, some 6), (40, some 13)]⟩, ⟨none, [(41, some 14)]⟩, ⟨some (42, true), [(7, none), (42, some 15)]⟩, ⟨some (42, true), [(1, none), (42, some 15)]⟩, ⟨some (42, true), [(44, some 17), (42, some 15)]⟩, ⟨some (42, true), [(43, some 16), (45, some 18), (42, some 15)]⟩, ⟨some (42, true), [(2, none), (42, some 15)]⟩, ⟨some (42, true), [(47, some 20), (42, some 15)]⟩, ⟨some (42, true), [(46, some 19), (48, some 21), (42, some 15)]⟩, ⟨some (42, true), [(7, none), (42, some 15)]⟩, ⟨some (42, true), [(10, none), (42, some 15)]⟩, ⟨some (42, true), [(51, some 24), (42, some 15)]⟩, ⟨some (42, true), [(10, none), (42, some 15)]⟩, ⟨some (42, true), [(53, some 26), (42, some 15)]⟩, ⟨some (42, true), [(54, some 27), (42, some 15)]⟩, ⟨some (42, true), [(52, some 25), (55, some 28), (42, some 15)]⟩, ⟨some (42, true), [(50, some 23), (56, some 29), (42, some 15)]⟩, ⟨some (42, true), [(49, some 22), (57, some 30), (42, some 15)]⟩, ⟨none, [(42, some 15), (58, some 31)]⟩] (by kernel_rfl) (by kernel_rfl) fun F hF => ?_
  refine any_val (.bool (true)) (by kernel_rfl) (by kernel_rfl) (fun W => by kernel_rfl) ?_
  refine any_val (.bool (true)) (by kernel_rfl) (by kernel_rfl) (fun W => by kernel_rfl) ?_
  refine any_read (.agg (cat [numA ((pa a).1), numA (((pa a).2 - 1) % p)])) (by kernel_rfl) (by kernel_rfl) (fun W hR => (run_load_row 30 _ g11 30 _ _ (row_ext (row_ext r11_8 (ext_drew _)) hR) rfl (by kernel_rfl) (by kernel_rfl) (isz (n := 8) (by kernel_rfl) (by kernel_rfl)))) ?_
  have r9_6 := (row_ext (row_ext r9_4 e5) e6)
  have r9_8 := (Puts.row p8 (row_ext (row_ext (row_ext r9_4 e5) e6) e7) (ne_of_old r9_6 l11))
  refine any_read (.agg (cat [numA ((pa a).1), numA (((pa a).2 - 1) % p)])) (by kernel_rfl) (by kernel_rfl) (fun W hR => (run_load_row 30 _ g9 30 _ _ (row_ext (row_ext r9_8 (ext_drew _)) hR) rfl (by kernel_rfl) (by kernel_rfl) (isz (n := 8) (by kernel_rfl) (by kernel_rfl)))) ?_
  refine any_call (.bool true) 19 #[.agg (cat [numA ((pa a).1), numA (((pa a).2 - 1) % p)]), .agg (cat [numA ((pa a).1), numA (((pa a).2 - 1) % p)])] (by kernel_rfl) (by kernel_rfl) (fun W => by kernel_rfl) (fun W hR => (ptSame (pa_on a) rfl) W) ?_
  refine any_val (.bool true) (by kernel_rfl) (by kernel_rfl) (fun W => by kernel_rfl) ?_
  refine any_val (.bool true) (by kernel_rfl) (by kernel_rfl) (fun W => by kernel_rfl) ?_
  refine any_read (.agg (cat [numA ((pa a).1), numA (((pa a).2 - 1) % p)])) (by kernel_rfl) (by kernel_rfl) (fun W hR => (run_load_row 30 _ g9 30 _ _ (row_ext (row_ext r9_8 (ext_drew _)) hR) rfl (by kernel_rfl) (by kernel_rfl) (isz (n := 8) (by kernel_rfl) (by kernel_rfl)))) ?_
  refine any_val (.agg (ints .u8 (key1 2))) (by kernel_rfl) (by kernel_rfl) (fun W => by kernel_rfl) ?_
  have r1_6 := (row_ext r1_5 e6)
  have r1_8 := (Puts.row p8 (row_ext (row_ext r1_5 e6) e7) (ne_of_old r1_6 l11))
  refine any_call (.agg (cat [numA ((climbP (pa a) (bitsB (key1 2))).1), numA (((climbP (pa a) (bitsB (key1 2))).2 - 1) % p)])) 20 #[.agg (cat [numA ((pa a).1), numA (((pa a).2 - 1) % p)]), .agg (ints .u8 (key1 2))] (by kernel_rfl) (by kernel_rfl) (fun W => by kernel_rfl) (fun W hR => ptTimes (pa_on a) _ (key1_len _) (key1_bytes (by omega)) W tB (row_ext (row_ext r1_8 (ext_drew _)) hR)) ?_
  refine any_read (.agg (cat [numA ((pa a).1), numA (((pa a).2 - 1) % p)])) (by kernel_rfl) (by kernel_rfl) (fun W hR => (run_load_row 30 _ g9 30 _ _ (row_ext (row_ext r9_8 (ext_drew _)) hR) rfl (by kernel_rfl) (by kernel_rfl) (isz (n := 8) (by kernel_rfl) (by kernel_rfl)))) ?_
  refine any_read (.agg (cat [numA ((pa a).1), numA (((pa a).2 - 1) % p)])) (by kernel_rfl) (by kernel_rfl) (fun W hR => (run_load_row 30 _ g9 30 _ _ (row_ext (row_ext r9_8 (ext_drew _)) hR) rfl (by kernel_rfl) (by kernel_rfl) (isz (n := 8) (by kernel_rfl) (by kernel_rfl)))) ?_
  refine any_call (.agg (cat [numA ((pAdd (pa a) (pa a)).1), numA (((pAdd (pa a) (pa a)).2 - 1) % p)])) 15 #[.agg (cat [numA ((pa a).1), numA (((pa a).2 - 1) % p)]), .agg (cat [numA ((pa a).1), numA (((pa a).2 - 1) % p)])] (by kernel_rfl) (by kernel_rfl) (fun W => by kernel_rfl) (fun W hR => ptAdd (pa_on a) (pa_on a) W tB (row_ext (row_ext r1_8 (ext_drew _)) hR)) ?_
  refine any_call (.bool true) 19 #[.agg (cat [numA ((climbP (pa a) (bitsB (key1 2))).1), numA (((climbP (pa a) (bitsB (key1 2))).2 - 1) % p)]), .agg (cat [numA ((pAdd (pa a) (pa a)).1), numA (((pAdd (pa a) (pa a)).2 - 1) % p)])] (by kernel_rfl) (by kernel_rfl) (fun W => by kernel_rfl) (fun W hR => (ptSame (climbP_on (pa_on a) _) (twice_eq a)) W) ?_
  refine any_val (.bool true) (by kernel_rfl) (by kernel_rfl) (fun W => by kernel_rfl) ?_
  refine any_val (.bool true) (by kernel_rfl) (by kernel_rfl) (fun W => by kernel_rfl) ?_
  refine any_read (.agg (cat [numA ((pa a).1), numA (((pa a).2 - 1) % p)])) (by kernel_rfl) (by kernel_rfl) (fun W hR => (run_load_row 30 _ g9 30 _ _ (row_ext (row_ext r9_8 (ext_drew _)) hR) rfl (by kernel_rfl) (by kernel_rfl) (isz (n := 8) (by kernel_rfl) (by kernel_rfl)))) ?_
  refine any_val (.int .u8 (n)) (by kernel_rfl) (by kernel_rfl) (fun W => by kernel_rfl) ?_
  refine any_val (.agg (ints .u8 (key1 n))) (by kernel_rfl) (by kernel_rfl) (fun W => by kernel_rfl) ?_
  refine any_call (.agg (cat [numA ((climbP (pa a) (bitsB (key1 n))).1), numA (((climbP (pa a) (bitsB (key1 n))).2 - 1) % p)])) 20 #[.agg (cat [numA ((pa a).1), numA (((pa a).2 - 1) % p)]), .agg (ints .u8 (key1 n))] (by kernel_rfl) (by kernel_rfl) (fun W => by kernel_rfl) (fun W hR => ptTimes (pa_on a) _ (key1_len _) (key1_bytes hn) W tB (row_ext (row_ext r1_8 (ext_drew _)) hR)) ?_
  refine any_val (.int .u8 (m)) (by kernel_rfl) (by kernel_rfl) (fun W => by kernel_rfl) ?_
  refine any_val (.agg (ints .u8 (key1 m))) (by kernel_rfl) (by kernel_rfl) (fun W => by kernel_rfl) ?_
  refine any_call (.agg (cat [numA ((climbP (climbP (pa a) (bitsB (key1 n))) (bitsB (key1 m))).1), numA (((climbP (climbP (pa a) (bitsB (key1 n))) (bitsB (key1 m))).2 - 1) % p)])) 20 #[.agg (cat [numA ((climbP (pa a) (bitsB (key1 n))).1), numA (((climbP (pa a) (bitsB (key1 n))).2 - 1) % p)]), .agg (ints .u8 (key1 m))] (by kernel_rfl) (by kernel_rfl) (fun W => by kernel_rfl) (fun W hR => ptTimes (climbP_on (pa_on a) _) _ (key1_len _) (key1_bytes hm) W tB (row_ext (row_ext r1_8 (ext_drew _)) hR)) ?_
  refine any_read (.agg (cat [numA ((pa a).1), numA (((pa a).2 - 1) % p)])) (by kernel_rfl) (by kernel_rfl) (fun W hR => (run_load_row 30 _ g9 30 _ _ (row_ext (row_ext r9_8 (ext_drew _)) hR) rfl (by kernel_rfl) (by kernel_rfl) (isz (n := 8) (by kernel_rfl) (by kernel_rfl)))) ?_
  refine any_val (.int .i64 (n * m)) (by kernel_rfl) (by kernel_rfl) (fun W => by kernel_rfl) ?_
  refine any_val (.int .u8 (n * m % 256)) (by kernel_rfl) (by kernel_rfl) (fun W => (run_eq (u := .int .u8 (IntKind.u8.wrap (n * m))) (by kernel_rfl) (congrArg (Value.int .u8) (u8_mod _)))) ?_
  refine any_val (.int .i64 (n * m)) (by kernel_rfl) (by kernel_rfl) (fun W => by kernel_rfl) ?_
  refine any_val (.int .i64 (n * m / 256)) (by kernel_rfl) (by kernel_rfl) (fun W => (run_bin .shr _ _ _ _ .i64 .u64 _ _ _ rfl (by kernel_rfl) (by kernel_rfl) (b_shr _ _ _ _ _ _ (show (0 : Int) ≤ 8 by decide) (shr_8 _)))) ?_
  refine any_val (.int .u8 (n * m / 256)) (by kernel_rfl) (by kernel_rfl) (fun W => (run_eq (u := .int .u8 (IntKind.u8.wrap (n * m / 256))) (by kernel_rfl) (congrArg (Value.int .u8) (u8_hi hn hm)))) ?_
  refine any_val (.agg (ints .u8 (key2 (n * m % 256) (n * m / 256)))) (by kernel_rfl) (by kernel_rfl) (fun W => by kernel_rfl) ?_
  refine any_call (.agg (cat [numA ((climbP (pa a) (bitsB (key2 (n * m % 256) (n * m / 256)))).1), numA (((climbP (pa a) (bitsB (key2 (n * m % 256) (n * m / 256)))).2 - 1) % p)])) 20 #[.agg (cat [numA ((pa a).1), numA (((pa a).2 - 1) % p)]), .agg (ints .u8 (key2 (n * m % 256) (n * m / 256)))] (by kernel_rfl) (by kernel_rfl) (fun W => by kernel_rfl) (fun W hR => ptTimes (pa_on a) _ (key2_len _ _) (key2_bytes (by have := prod_range hn hm; omega) (by have := prod_range hn hm; omega)) W tB (row_ext (row_ext r1_8 (ext_drew _)) hR)) ?_
  refine any_call (.bool true) 19 #[.agg (cat [numA ((climbP (climbP (pa a) (bitsB (key1 n))) (bitsB (key1 m))).1), numA (((climbP (climbP (pa a) (bitsB (key1 n))) (bitsB (key1 m))).2 - 1) % p)]), .agg (cat [numA ((climbP (pa a) (bitsB (key2 (n * m % 256) (n * m / 256)))).1), numA (((climbP (pa a) (bitsB (key2 (n * m % 256) (n * m / 256)))).2 - 1) % p)])] (by kernel_rfl) (by kernel_rfl) (fun W => by kernel_rfl) (fun W hR => (ptSame (climbP_on (climbP_on (pa_on a) _) _) (many_eq a hn hm)) W) ?_
  refine any_val (.bool true) (by kernel_rfl) (by kernel_rfl) (fun W => by kernel_rfl) ?_
  refine steps_nil (hF _ (by kernel_rfl) fun W9 e9 => ?_)
  simp only [ups, up, Kn.val, List.take_succ_cons, List.take_zero, List.drop_succ_cons, List.drop_zero, List.nil_append, List.cons_append]
  clear hF
  have x9 : Ext w W9 := Ext.tr x8 e9
  refine seq_val (.bool true) 6 rfl (by kernel_rfl) (by kernel_rfl) ?_
  refine seq_nil ?_
  refine hK13 _ _ ?_
  try clear hK13 K13
  refine wp_ret ?_
  exact (show bodyPost _ _ _ .ret _ _ from ret1 (.bool true) rfl (res_tmp (by kernel_rfl)) ⟨rfl, x9⟩)

end Go.Proofs.YtaojnmjmmfdfjaaDoor.Field
