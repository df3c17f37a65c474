/- Residues: their sum, and what bits come to. -/
import Derived.Test.YtaojnmjmmfdfjaaDoorScVals
import Derived.Test.YtaojnmjmmfdfjaaDoorScPlus
import Derived.Test.YtaojnmjmmfdfjaaDoorScBits
namespace Go.Proofs.YtaojnmjmmfdfjaaDoor.Field
open Go Go.RowKit
open Go.Proofs.YtaojnmjmmfdfjaaDoor.Rely Go.Proofs.YtaojnmjmmfdfjaaDoor.Auto
set_option linter.unusedVariables false

/-! ### Residues -/
def ordL : Int := 7237005577332262213973186563042994240857116359379907606001950938285454250989
def isS (n : Int) : Prop := 0 ≤ n ∧ n < ordL
theorem isS_mod (n : Int) : isS (n % ordL) := ⟨Int.emod_nonneg _ (by decide), Int.emod_lt_of_pos _ (by decide)⟩
theorem isS_self {n : Int} (h : isS n) : n % ordL = n := Int.emod_eq_of_lt h.1 h.2
theorem sc_open (a : Int) (h : isS a) : ∃ x0 x1 x2 x3 : Int, isW x0 ∧ isW x1 ∧ isW x2 ∧ isW x3 ∧ val x0 x1 x2 x3 = a ∧ num a = words x0 x1 x2 x3 := by
  refine ⟨a % 18446744073709551616, a / 18446744073709551616 % 18446744073709551616, a / 340282366920938463463374607431768211456 % 18446744073709551616, a / 6277101735386680763835789423207666416102355444464034512896 % 18446744073709551616, ?_, ?_, ?_, ?_, ?_, rfl⟩
  all_goals unfold isS ordL at h
  all_goals first | (unfold isW; omega) | (unfold val; omega)
theorem isW_lit (n : Int) (h : 0 ≤ n ∧ n < 18446744073709551616) : isW n := h
theorem plusC (a b : Int) (ha : isS a) (hb : isS b) (w : World) (tO : TypeId) (hO : w.heap[3]? = some (.cells orderA tO)) :
    Calls Tryd.prog 56 #[num a, num b] w (Ret w (num ((a + b) % ordL))) := by
  obtain ⟨x0, x1, x2, x3, wx0, wx1, wx2, wx3, ex, eX⟩ := sc_open a ha
  obtain ⟨y0, y1, y2, y3, wy0, wy1, wy2, wy3, ey, eY⟩ := sc_open b hb
  obtain ⟨v0, c0, wv0, wc0, e0, r0⟩ := add64 x0 y0 0 wx0 wy0 (by decide)
  obtain ⟨v1, c1, wv1, wc1, e1, r1⟩ := add64 x1 y1 c0 wx1 wy1 wc0
  obtain ⟨v2, c2, wv2, wc2, e2, r2⟩ := add64 x2 y2 c1 wx2 wy2 wc1
  obtain ⟨v3, c3, wv3, wc3, e3, r3⟩ := add64 x3 y3 c2 wx3 wy3 wc2
  obtain ⟨u0, d0, wu0, wd0, f0, s0⟩ := sub64 v0 6346243789798364141 0 wv0 (isW_lit _ (by decide)) (by decide)
  obtain ⟨u1, d1, wu1, wd1, f1, s1⟩ := sub64 v1 1503914060200516822 d0 wv1 (isW_lit _ (by decide)) wd0
  obtain ⟨u2, d2, wu2, wd2, f2, s2⟩ := sub64 v2 0 d1 wv2 zero_isW wd1
  obtain ⟨u3, d3, wu3, wd3, f3, s3⟩ := sub64 v3 1152921504606846976 d2 wv3 (isW_lit _ (by decide)) wd2
  have hv := val_range v0 v1 v2 v3 wv0 wv1 wv2 wv3
  have hu := val_range u0 u1 u2 u3 wu0 wu1 wu2 wu3
  have hs : val v0 v1 v2 v3 + 115792089237316195423570985008687907853269984665640564039457584007913129639936 * c3 = a + b := by unfold val at *; omega
  have ht : val u0 u1 u2 u3 - 115792089237316195423570985008687907853269984665640564039457584007913129639936 * d3 = val v0 v1 v2 v3 - ordL := by unfold val ordL at *; omega
  have h0 := ha.1; have h1 := ha.2; have h2 := hb.1; have h3 := hb.2
  have hc : c3 = 0 := by unfold ordL at *; omega
  rw [eX, eY]
  generalize hV : val v0 v1 v2 v3 = V at hs ht hv
  generalize hU : val u0 u1 u2 u3 = U at ht hu
  rcases (by omega : d3 = 0 ∨ d3 = 1) with rfl | rfl
  · have e : num ((a + b) % ordL) = words u0 u1 u2 u3 := by
      rw [num_val _ _ _ _ wu0 wu1 wu2 wu3, hU]
      congr 1
      rw [show a + b = U + ordL by omega, Int.add_emod_right, Int.emod_eq_of_lt (by omega) (by unfold ordL at *; omega)]
    rw [e]
    exact plus_0 _ _ _ _ _ _ _ _ _ _ _ _ _ _ _ _ _ _ _ _ _ _ _ r0 s0 r1 s1 r2 s2 r3 s3 w tO hO
  · have e : num ((a + b) % ordL) = words v0 v1 v2 v3 := by
      rw [num_val _ _ _ _ wv0 wv1 wv2 wv3, hV]
      congr 1
      rw [show a + b = V by omega, Int.emod_eq_of_lt (by omega) (by unfold ordL at *; omega)]
    rw [e]
    exact plus_1 _ _ _ _ _ _ _ _ _ _ _ _ _ _ _ _ _ _ _ _ _ _ _ r0 s0 r1 s1 r2 s2 r3 s3 w tO hO
/-! ### Numbers of bits -/
def addb (n : Int) (b : Bool) : Int := if b then ((n + n) % ordL + 1) % ordL else (n + n) % ordL
def resB (bs : List Bool) : Int := bs.foldl addb 0
theorem resB_snoc (bs : List Bool) (b : Bool) : resB (bs ++ [b]) = addb (resB bs) b := by simp [resB]
theorem addb_isS (n : Int) (b : Bool) : isS (addb n b) := by unfold addb; split <;> exact isS_mod _
theorem resB_isS (bs : List Bool) : isS (resB bs) := by
  rcases List.eq_nil_or_concat bs with h | ⟨l, b, h⟩
  · subst h; exact ⟨by decide, by decide⟩
  · subst h; rw [List.concat_eq_append, resB_snoc]; exact addb_isS _ _
theorem addb_mod (m : Int) (b : Bool) : addb (m % ordL) b = (2 * m + if b then 1 else 0) % ordL := by
  have e : (m % ordL + m % ordL) % ordL = (2 * m) % ordL := by rw [← Int.add_emod, Int.two_mul]
  unfold addb
  rw [e]
  cases b
  · simp
  · simp only [if_true]; rw [Int.emod_add_emod]
theorem resB_val (bs : List Bool) : resB bs = (bval bs : Int) % ordL := by
  have key : ∀ (bs : List Bool) (n : Nat), bs.foldl addb ((n : Int) % ordL) = ((bs.foldl (fun n b => 2 * n + if b then 1 else 0) n : Nat) : Int) % ordL := by
    intro bs
    induction bs with
    | nil => intro n; rfl
    | cons b bs ih =>
      intro n
      rw [List.foldl_cons, List.foldl_cons, addb_mod, ← ih]
      congr 2
      cases b <;> simp
  exact key bs 0
/-! ### Words and bytes of a residue -/
def wl (n : Int) : List Int := [n % 18446744073709551616, n / 18446744073709551616 % 18446744073709551616, n / 340282366920938463463374607431768211456 % 18446744073709551616, n / 6277101735386680763835789423207666416102355444464034512896 % 18446744073709551616]
theorem wl_num (n : Int) : num n = .agg (ints .u64 (wl n)) := rfl
theorem wl_len (n : Int) : (wl n).length = 4 := rfl
theorem shrW (v : Int) (n : Nat) (h : n < 64) : v.fdiv (2 ^ min (n : Int).toNat IntKind.u64.bits) = v / 2 ^ n := by
  rw [show min ((n : Int).toNat) IntKind.u64.bits = n by show min ((n : Int).toNat) 64 = n; omega]
  exact Int.fdiv_eq_ediv_of_nonneg _ (Int.le_of_lt (Int.pow_pos (by decide)))
theorem mul8 (k : Nat) (h : k < 8) : IntKind.i64.wrap (8 * (k : Int)) = ((8 * k : Nat) : Int) := by
  rw [show (8 * (k : Int)) = ((8 * k : Nat) : Int) by omega]
  exact IntWalk.i64_in _ (by omega)
theorem word_byte (m : Int) (r : Nat) (hr : r < 8) : m % 18446744073709551616 / 2 ^ (8 * r) % 256 = m / 256 ^ r % 256 := by
  rcases (by omega : r = 0 ∨ r = 1 ∨ r = 2 ∨ r = 3 ∨ r = 4 ∨ r = 5 ∨ r = 6 ∨ r = 7) with rfl | rfl | rfl | rfl | rfl | rfl | rfl | rfl
  all_goals
    simp only [Int.reducePow, Nat.reduceMul]
    omega
theorem wl_nth (n : Int) (q : Nat) (hq : q < 4) : nth (wl n) q = n / 256 ^ (8 * q) % 18446744073709551616 := by
  rcases (by omega : q = 0 ∨ q = 1 ∨ q = 2 ∨ q = 3) with rfl | rfl | rfl | rfl
  · show n % _ = n / 1 % _
    rw [Int.ediv_one]
  · rfl
  · rfl
  · rfl
theorem wl_byte (n : Int) (k : Nat) (hk : k < 32) : IntKind.u8.wrap (nth (wl n) (k / 8) / 2 ^ (8 * (k % 8))) = byteAt n k := by
  rw [u8_mod, wl_nth n _ (by omega), word_byte _ _ (by omega), Int.ediv_ediv_of_nonneg (Int.pow_nonneg (by decide)), ← Int.pow_add, show 8 * (k / 8) + k % 8 = k by omega]
  rfl
theorem part_none (n : Int) : List.replicate 32 0 = part n 0 := by unfold part; simp [List.map_const']
theorem part_next (n : Int) (k : Nat) (hk : k < 32) : (part n k).set k (byteAt n k) = part n (k + 1) := by
  apply List.ext_getElem
  · simp [part]
  · intro i h1 h2
    simp only [part, List.length_map, List.length_range] at h2
    by_cases hi : i = k
    · subst hi; simp [part]
    · rw [List.getElem_set_ne (by omega)]
      simp only [part, List.getElem_map, List.getElem_range]
      by_cases h : i < k
      · rw [if_pos h, if_pos (by omega)]
      · rw [if_neg h, if_neg (by omega)]
/-! ### A product by bits -/
def mulb (e n : Int) (b : Bool) : Int := if b then ((n + n) % ordL + e) % ordL else (n + n) % ordL
def mulB (e : Int) (bs : List Bool) : Int := bs.foldl (mulb e) 0
theorem mulB_snoc (e : Int) (bs : List Bool) (b : Bool) : mulB e (bs ++ [b]) = mulb e (mulB e bs) b := by simp [mulB]
theorem mulb_isS (e n : Int) (b : Bool) : isS (mulb e n b) := by unfold mulb; split <;> exact isS_mod _
theorem mulB_isS (e : Int) (bs : List Bool) : isS (mulB e bs) := by
  rcases List.eq_nil_or_concat bs with h | ⟨l, b, h⟩
  · subst h; exact (show isS 0 from ⟨by decide, by decide⟩)
  · subst h; rw [List.concat_eq_append, mulB_snoc]; exact mulb_isS _ _ _
theorem mulB_val (e : Int) (bs : List Bool) : mulB e bs = (bval bs : Int) * e % ordL := by
  have key : ∀ (bs : List Bool) (n : Nat), bs.foldl (mulb e) ((n : Int) * e % ordL) = ((bs.foldl (fun n b => 2 * n + if b then 1 else 0) n : Nat) : Int) * e % ordL := by
    intro bs
    induction bs with
    | nil => intro n; rfl
    | cons b bs ih =>
      intro n
      rw [List.foldl_cons, List.foldl_cons, ← ih]
      congr 1
      have d : ((n : Int) * e % ordL + (n : Int) * e % ordL) % ordL = (2 * n) * e % ordL := by rw [← Int.add_emod]; congr 1; grind
      unfold mulb
      rw [d]
      cases b
      · simp
      · simp only [if_true]; rw [Int.emod_add_emod]; congr 1; grind
  have h := key bs 0
  rw [show ((0 : Nat) : Int) * e % ordL = 0 by simp] at h
  exact h
theorem bitsS_32 (xs : List Int) (hx : xs.length = 32) : bitsS xs = bitsB xs := by unfold bitsS bitsB; rw [hx]
def resN (bs : List Int) : Int := resB (bitsS bs)
theorem resN_isS (bs : List Int) : isS (resN bs) := resB_isS _

theorem numB_bytes {r : Int} (h : isS r) : numB (bytesOf r) = r.toNat := by
  unfold numB
  rw [leAt_mod r 32 (Nat.le_refl _), Int.emod_eq_of_lt h.1 (Int.lt_trans h.2 (by decide))]
theorem resN_32 (xs : List Int) (hx : xs.length = 32) (hb : AreBytes xs) : resN xs = (numB xs : Int) % ordL := by
  unfold resN
  rw [resB_val, bitsS_32 xs hx, bval_bits xs hb]
theorem mulAdd_val (za zb zc : List Int) (hab : AreBytes za) (hb : zb.length = 32) (hbb : AreBytes zb) (hc : zc.length = 32) (hcb : AreBytes zc) :
    (mulB (resN zb) (bitsB za) + resN zc) % ordL = ((numB za : Int) * numB zb + numB zc) % ordL := by
  rw [mulB_val, resN_32 zb hb hbb, resN_32 zc hc hcb, bval_bits za hab, ← Int.add_emod]
  rw [Int.add_emod, Int.mul_emod, Int.emod_emod, ← Int.mul_emod, ← Int.add_emod]
end Go.Proofs.YtaojnmjmmfdfjaaDoor.Field
