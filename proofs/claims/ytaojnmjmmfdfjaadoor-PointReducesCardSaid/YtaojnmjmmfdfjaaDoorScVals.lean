/- Residues and points: numbers of bits and bytes. -/
import Derived.Test.YtaojnmjmmfdfjaaDoorPtKit
import Derived.Test.YtaojnmjmmfdfjaaDoorPtOps
namespace Go.Proofs.YtaojnmjmmfdfjaaDoor.Field
open Go Go.RowKit
open Go.Proofs.YtaojnmjmmfdfjaaDoor.Rely Go.Proofs.YtaojnmjmmfdfjaaDoor.Auto
set_option linter.unusedVariables false

theorem mod_step (a : Int) (k : Nat) : a % 256 ^ (k + 1) = a % 256 ^ k + 256 ^ k * (a / 256 ^ k % 256) := by
  have hB : (0 : Int) < 256 ^ k := Int.pow_pos (by decide)
  rw [Int.pow_succ]
  generalize (256 : Int) ^ k = B at hB
  have e1 := Int.mul_ediv_add_emod a B
  have e2 := Int.mul_ediv_add_emod (a / B) 256
  have r1 := Int.emod_nonneg a (Int.ne_of_gt hB)
  have r2 := Int.emod_lt_of_pos a hB
  have s1 := Int.emod_nonneg (a / B) (show (256 : Int) ≠ 0 by decide)
  have s2 := Int.emod_lt_of_pos (a / B) (show (0 : Int) < 256 by decide)
  generalize a % B = r at *
  generalize a / B % 256 = s at *
  generalize a / B / 256 = t at *
  generalize a / B = q at *
  have e3 : a = (r + B * s) + B * 256 * t := by rw [← e1, ← e2]; grind
  have m1 : B * s ≤ B * 255 := Int.mul_le_mul_of_nonneg_left (by omega) (by omega)
  have m2 : 0 ≤ B * s := Int.mul_nonneg (by omega) s1
  rw [e3, Int.add_mul_emod_self_left]
  exact Int.emod_eq_of_lt (by omega) (by omega)
theorem nth_set_self (xs : List Int) (i : Nat) (v : Int) (h : i < xs.length) : nth (xs.set i v) i = v := by unfold nth; simp [h]
def bval (bs : List Bool) : Nat := bs.foldl (fun n b => 2 * n + if b then 1 else 0) 0
theorem leAt_mod (n : Int) : ∀ k, k ≤ 32 → leAt (bytesOf n) 0 k = n % 256 ^ k
  | 0, _ => by simp [leAt, Int.emod_one]
  | k + 1, hk => by
    have q : nth (bytesOf n) (0 + k) = byteAt n k := by unfold nth bytesOf part; simp [show k < 32 by omega]
    rw [leAt, leAt_mod n k (by omega), q, mod_step]
    unfold byteAt
    rw [Int.mul_comm (n / 256 ^ k % 256)]
theorem bits_callK (es : List Int) (w : World) : Calls Tryd.prog 54 #[.agg (ints .u8 es)] w fun e w' => ∃ v, e = .returned v ∧ Ext w w' ∧ ∃ kb, w.heap.size ≤ kb ∧ v = .func (.func 71) #[] #[.pointer (some ⟨kb, 0, none⟩)] ∧ w'.heap[kb]? = some (.cells (ints .u8 es) 23) := by
  have hmf : ∀ (fn : Fn) (first cap : Array Value) (w : World), (Instr.makeFunc fn first cap).run Tryd.prog w = .ok (.func fn first cap) w := fun _ _ _ _ => rfl
  go_enter Tryd.func54, Tryd.ntmps54
  go_wp2_with fail
  exact bodyPost_ret (results_tmp rfl _ _ _) rfl ⟨_, rfl, ext_alloc _ _, w.heap.size, Nat.le_refl _, rfl, heap_alloc_new _ _⟩
def numB (es : List Int) : Nat := (leAt es 0 32).toNat
theorem mod_bit (m : Int) (r : Nat) (hr : r < 16) : m % 65536 / 2 ^ r % 2 = m / 2 ^ r % 2 := by
  rcases (by omega : r = 0 ∨ r = 1 ∨ r = 2 ∨ r = 3 ∨ r = 4 ∨ r = 5 ∨ r = 6 ∨ r = 7 ∨ r = 8 ∨ r = 9 ∨ r = 10 ∨ r = 11 ∨ r = 12 ∨ r = 13 ∨ r = 14 ∨ r = 15) with rfl | rfl | rfl | rfl | rfl | rfl | rfl | rfl | rfl | rfl | rfl | rfl | rfl | rfl | rfl | rfl
  all_goals
    simp only [Int.reducePow]
    omega
theorem bit_num (es : List Int) (hb : AreBytes es) (i : Nat) (hi : i < 256) : bitAt es i = leAt es 0 32 / 2 ^ i % 2 := by
  rw [← lbit_eq es hb i hi]
  unfold lbit limb
  rw [mod_bit _ _ (by omega), Int.ediv_ediv_of_nonneg (Int.pow_nonneg (by decide)), show (65536 : Int) = 2 ^ 16 by decide, ← Int.pow_mul, ← Int.pow_add, show 16 * (i / 16) + i % 16 = i by omega]
theorem bitB_num (es : List Int) (hb : AreBytes es) (i : Nat) (hi : i < 256) : (if bitB es i = true then 1 else 0) = numB es / 2 ^ i % 2 := by
  have h := bit_num es hb i hi
  have hr := le_range es hb
  have e : ((numB es : Nat) : Int) = leAt es 0 32 := by unfold numB; omega
  rw [← e] at h
  have h2 : bitAt es i = ((numB es / 2 ^ i % 2 : Nat) : Int) := by
    rw [h]; rw [Int.natCast_emod, Int.natCast_ediv, Int.natCast_pow]; rfl
  unfold bitB
  rw [h2]
  have : numB es / 2 ^ i % 2 < 2 := Nat.mod_lt _ (by decide)
  rcases (by omega : numB es / 2 ^ i % 2 = 0 ∨ numB es / 2 ^ i % 2 = 1) with q | q <;> rw [q] <;> rfl
theorem bval_snoc (bs : List Bool) (b : Bool) : bval (bs ++ [b]) = 2 * bval bs + if b then 1 else 0 := by unfold bval; rw [List.foldl_append]; rfl
theorem bval_take (es : List Int) (hb : AreBytes es) : ∀ k, k ≤ 256 → bval ((bitsB es).take k) = numB es / 2 ^ (256 - k)
  | 0, _ => by
    have hr := le_range es hb
    have : numB es < 2 ^ 256 := by
      have : (2 : Int) ^ 256 = big := by decide
      unfold numB
      have e2 : ((2 ^ 256 : Nat) : Int) = big := by rw [← this]; rfl
      omega
    rw [Nat.sub_zero, Nat.div_eq_of_lt this]
    rfl
  | k + 1, hk => by
    have e := bitsB_take es (255 - k) (by omega)
    rw [show 256 - (255 - k) = k + 1 by omega, show 256 - (255 - k + 1) = k by omega] at e
    rw [e, bval_snoc, bval_take es hb k (by omega), bitB_num es hb _ (by omega), show 256 - k = (255 - k) + 1 by omega, show 256 - (k + 1) = 255 - k by omega, Nat.pow_succ, ← Nat.div_div_eq_div_mul]
    omega
theorem bval_bits (es : List Int) (hb : AreBytes es) : bval (bitsB es) = numB es := by
  have h := bval_take es hb 256 (Nat.le_refl _)
  rw [List.take_of_length_le (by rw [bitsB_len]; omega)] at h
  rw [h]
  simp
theorem leAt_zero : ∀ (k o : Nat) (xs : List Int), (∀ i, i < k → nth xs (o + i) = 0) → leAt xs o k = 0
  | 0, _, _, _ => rfl
  | k + 1, o, xs, h => by rw [leAt, leAt_zero k o xs fun i hi => h i (by omega), h k (by omega)]; simp
theorem nth_rep0 (n i : Nat) : nth (List.replicate n 0) i = 0 := by
  unfold nth
  rw [List.getD_eq_getElem?_getD, List.getElem?_replicate]
  split <;> rfl
theorem leAt_two (a b : Int) (n : Nat) : ∀ k, leAt (a :: b :: List.replicate n 0) 0 (k + 2) = a + 256 * b
  | 0 => by simp [leAt, nth]; omega
  | k + 1 => by
    rw [leAt, leAt_two a b n k]
    have : nth (a :: b :: List.replicate n 0) (0 + (k + 2)) = 0 := by
      rw [Nat.zero_add]
      show nth (List.replicate n 0) k = 0
      exact nth_rep0 n k
    rw [this]; simp
def key1 (a : Int) : List Int := a :: List.replicate 31 0
def key2 (a b : Int) : List Int := a :: b :: List.replicate 30 0
theorem key1_len (a : Int) : (key1 a).length = 32 := by simp [key1]
theorem key2_len (a b : Int) : (key2 a b).length = 32 := by simp [key2]
theorem key2_bytes {a b : Int} (ha : 0 ≤ a ∧ a ≤ 255) (hb : 0 ≤ b ∧ b ≤ 255) : AreBytes (key2 a b) := fun v hv => by
  simp only [key2, List.mem_cons, List.mem_replicate] at hv
  omega
theorem key1_eq (a : Int) : key1 a = key2 a 0 := rfl
theorem key1_bytes {a : Int} (ha : 0 ≤ a ∧ a ≤ 255) : AreBytes (key1 a) := by rw [key1_eq]; exact key2_bytes ha (by omega)
theorem num_key2 (a b : Int) : numB (key2 a b) = (a + 256 * b).toNat := by unfold numB key2; rw [leAt_two a b 30 30]
theorem prod_range {n m : Int} (hn : 0 ≤ n ∧ n ≤ 255) (hm : 0 ≤ m ∧ m ≤ 255) : 0 ≤ n * m ∧ n * m ≤ 65025 := by
  have h1 := Int.mul_nonneg hn.1 hm.1
  have h2 : n * m ≤ 255 * m := Int.mul_le_mul_of_nonneg_right hn.2 hm.1
  omega
theorem i64_u8 {n : Int} (h : 0 ≤ n ∧ n ≤ 255) : IntKind.i64.wrap n = n := IntWalk.i64_in _ (by omega)
theorem i64_prod {n m : Int} (hn : 0 ≤ n ∧ n ≤ 255) (hm : 0 ≤ m ∧ m ≤ 255) : IntKind.i64.wrap (n * m) = n * m := by
  have := prod_range hn hm
  exact IntWalk.i64_in _ (by omega)
theorem u8_mod (n : Int) : IntKind.u8.wrap n = n % 256 := by rw [IntKind.wrap_u8]
theorem u8_hi {n m : Int} (hn : 0 ≤ n ∧ n ≤ 255) (hm : 0 ≤ m ∧ m ≤ 255) : IntKind.u8.wrap (n * m / 256) = n * m / 256 := by
  have := prod_range hn hm
  rw [u8_mod]
  omega
theorem shr_8 (v : Int) : v.fdiv (2 ^ min (8 : Int).toNat IntKind.i64.bits) = v / 256 := by
  show Int.fdiv v 256 = v / 256
  exact Int.fdiv_eq_ediv_of_nonneg v (by decide)
theorem bytesOf_bytes (n : Int) : AreBytes (bytesOf n) := fun v hv => by
  unfold bytesOf part at hv
  simp only [List.mem_map, List.mem_range] at hv
  obtain ⟨i, hi, rfl⟩ := hv
  rw [if_pos hi]
  unfold byteAt
  omega
end Go.Proofs.YtaojnmjmmfdfjaaDoor.Field
