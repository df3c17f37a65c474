/- Points: numbers, bytes, sums. -/
import Derived.Test.YtaojnmjmmfdfjaaDoorPtWhich
namespace Go.Proofs.YtaojnmjmmfdfjaaDoor.Field
open Go Go.RowKit
open Go.Proofs.YtaojnmjmmfdfjaaDoor.Rely Go.Proofs.YtaojnmjmmfdfjaaDoor.Auto
set_option linter.unusedVariables false

theorem addL (a b : Int) : (a % p + b) % p = (a + b) % p := Int.emod_add_emod ..
theorem addR (a b : Int) : (a + b % p) % p = (a + b) % p := Int.add_emod_emod ..
theorem subL (a b : Int) : (a % p - b) % p = (a - b) % p := Int.emod_sub_emod ..
theorem subR (a b : Int) : (a - b % p) % p = (a - b) % p := Int.sub_emod_emod ..
theorem mod_hom {a b : Int} (h : a = b) : a % p = b % p := by rw [h]
theorem isN_self {a : Int} (h : isN a) : a % p = a := Int.emod_eq_of_lt h.1 h.2
theorem py_back {y : Int} (h : isN y) (x : Int) : pyF x ((y - 1) % p) = y := by
  unfold pyF
  show ((y - 1) % p + 1) % p = y
  rw [addL, show y - 1 + 1 = y by omega, isN_self h]
theorem py_K (xs : List Int) : pyF (xK xs) (lK xs) = zK xs := by
  unfold lK zK
  split
  · exact py_back (yK_isN xs) _
  · show ((0 : Int) + 1) % p = 1
    decide
theorem inv_one : invN 1 = 1 := by
  have h := inv_mul 1 (num_isN 1) (by decide)
  rw [Int.one_mul, isN_self (invN_isN 1)] at h
  exact h
theorem mul_one_inv {x : Int} (h : isN x) : x * invN 1 % p = x := by rw [inv_one, Int.mul_one, isN_self h]
theorem evenOf_even (r : Int) (h : isN r) : evenOf r % 2 = 0 := by
  by_cases e : r % 2 = 1
  · rw [evenOf_odd r h e]; unfold p; omega
  · unfold evenOf; rw [if_neg e]; omega
theorem rootN_even (a : Int) : rootN a % 2 = 0 := by
  unfold rootN rootB
  split
  · exact evenOf_even _ (rootA_isN a)
  · split
    · exact evenOf_even _ (isN_mod _)
    · rfl
theorem neg_val {r : Int} (h : isN r) (h0 : r ≠ 0) : (0 - r) % p = p - r := by
  unfold isN p at *
  omega
theorem pneg_val (r : Int) : pnegF r = (0 - r) % p := by unfold pnegF; rfl
theorem odd_sub {r : Int} (e : r % 2 = 0) : (p - r) % 2 = 1 := by
  unfold p
  omega
theorem neg_odd {r : Int} (h : isN r) (h0 : r ≠ 0) (e : r % 2 = 0) : pnegF r % 2 = 1 := by
  rw [pneg_val, neg_val h h0]
  exact odd_sub e
/-- the parity of x is what the highest bit says -/
theorem xK_odd {xs : List Int} (h : okK xs = true) : (xK xs % 2 == 1) = oddK xs := by
  unfold xK
  rw [if_pos h]
  have he := rootN_even (uK (yK xs))
  cases ho : oddK xs
  · simp only [Bool.false_eq_true, if_false]
    unfold rK
    rw [he]
    rfl
  · simp only [if_true]
    have hz : (rK xs == 0) = false := by
      unfold okK at h
      rw [ho] at h
      cases hz : (rK xs == 0)
      · rfl
      · rw [hz] at h; simp at h
    rw [neg_odd (rK_isN xs) (by simpa using hz) he]
    rfl
theorem set_nth (xs : List Int) (i : Nat) : xs.set i (nth xs i) = xs := by
  by_cases h : i < xs.length
  · have e : nth xs i = xs[i] := by simp [nth, h]
    rw [e]
    exact List.set_getElem_self h
  · exact List.set_eq_of_length_le (by omega)
theorem enc_K {xs : List Int} (hx : xs.length = 32) (hb : AreBytes xs) (h : okK xs = true) : enc (xK xs) (zK xs) = xs := by
  have hc : bytesOf (yK xs) = cutK xs := by
    unfold okK at h
    have : canK xs = true := by revert h; cases canK xs <;> simp
    exact of_decide_eq_true this
  have b := hb.nth 31
  unfold enc
  rw [xK_odd h, show zK xs = yK xs from by unfold zK; rw [if_pos h], hc]
  have hn : nth (cutK xs) 31 = nth xs 31 % 128 := by unfold cutK; exact nth_set_eq _ _ _ (by omega)
  cases ho : oddK xs
  · simp only [Bool.false_eq_true, if_false]
    unfold cutK oddK at *
    have : nth xs 31 % 128 = nth xs 31 := by
      have : ¬ nth xs 31 / 128 = 1 := by simpa using ho
      omega
    rw [this]
    exact set_nth xs 31
  · simp only [if_true]
    rw [hn]
    unfold cutK oddK at *
    have h1 : nth xs 31 / 128 = 1 := by simpa using ho
    rw [show nth xs 31 % 128 + 128 = nth xs 31 by omega, List.set_set]
    exact set_nth xs 31
def encK (xs : List Int) : List Int := enc (xK xs) (zK xs)
theorem enc_len (x y : Int) : (enc x y).length = 32 := by unfold enc; split; simp [bytes_len]; exact bytes_len y
theorem pbytesK (xs : List Int) (w : World) : Calls Tryd.prog 13 #[.agg (cat [numA (xK xs), numA (lK xs)])] w (Ret w (.agg (ints .u8 (encK xs)))) := by
  have := pbytesC (xK xs) (lK xs) (xK_isN xs) (lK_isN xs) w
  rw [py_K] at this
  exact this
theorem rbytesK (xs : List Int) (w : World) : Calls Tryd.prog 14 #[.agg (cat [ints .i64 (lims (xK xs)), ints .i64 (lims (zK xs)), ints .i64 (lims 1)])] w (Ret w (.agg (ints .u8 (encK xs)))) := by
  have := rbytesC (xK xs) (zK xs) 1 (xK_isN xs) (zK_isN xs) (num_isN 1) w
  rw [mul_one_inv (xK_isN xs), mul_one_inv (zK_isN xs)] at this
  exact this
end Go.Proofs.YtaojnmjmmfdfjaaDoor.Field
