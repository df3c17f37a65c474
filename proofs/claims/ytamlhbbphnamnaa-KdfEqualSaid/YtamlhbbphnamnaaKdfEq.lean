/- kdf.Equal says whether two slices hold the same bytes; the law KdfEqual returns true for every two slices, however they share memory. No conditions. -/
import Derived.Test.YtamlhbbphnamnaaBytes
import Derived.Test.YtamlhbbphnamnaaRows
import Derived.ShutString
import Derived.ChangeOld
namespace Go.Proofs.Ytamlhbbphnamnaa.kdfEqual
open Go.ChangeShapes Go.WideShapes Go.ChangeAt Go.RowKit
open Go.ChangeMaps (open_string shut_string)
open Go.Proofs.Ytamlhbbphnamnaa.Rely
set_option linter.unusedVariables false

def orx (d x y : Int) : Int := bits .or .u8 d (bits .xor .u8 x y)
def differ (xs ys : List Int) : Nat → Int
  | 0 => 0
  | k + 1 => orx (differ xs ys k) (nth xs k) (nth ys k)

theorem equal_len (a b : Option Addr) (n m cn cm : Nat) (h : n ≠ m) (w : World) : Calls Try.prog 4 #[.slice a n cn, .slice b m cm] w (Ret w (.bool false)) := by
  have hne : ((n : Int) != (m : Int)) = true := by rw [bne_iff_ne]; omega
  go_enter Try.func4, Try.ntmps4
  go_wp2
  go_ret
  exact ⟨rfl, Ext.refl _⟩

theorem equal_same (a a' : Option Addr) (N : Nat) (cn cm : Nat) (xs ys : List Int) (hn : N ≤ maxLen) (w : World) (ha : CellsAt w .u8 a N xs) (hb : CellsAt w .u8 a' N ys) :
    Calls Try.prog 4 #[.slice a N cn, .slice a' N cm] w (Ret w (.bool (differ xs ys N == 0))) := by
  unfold maxLen at hn
  have hr : ∀ d x y, bits .or .u8 d (bits .xor .u8 x y) = orx d x y := fun _ _ _ => rfl
  go_enter Try.func4, Try.ntmps4
  go_wp2
  go_loopw [14, 5] (fun i d wr => ∃ k : Nat, k ≤ N ∧ i = .int .i64 k ∧ d = .int .u8 (differ xs ys k) ∧ ∃ n, wr = w.drewN n) (fun i _ _ => N - (intOf i).toNat)
  case atStart => exact ⟨0, Nat.zero_le _, rfl, rfl, 0, rfl⟩
  case round =>
    obtain ⟨k, hk, rfl, rfl, n, rfl⟩ := hrel
    by_cases hlt : k < N
    · rcases ha with h | ⟨b, off, rfl, -, hx⟩
      · omega
      rcases hb with h | ⟨c, off', rfl, -, hy⟩
      · omega
      have h1 := hx k hlt
      have h2 := hy k hlt
      clear hx hy
      go_wp2
      go_quiet (fail)
      go_wp2
      go_roundw
      case rel => exact ⟨k + 1, by omega, by go_num, rfl, n + nq, by simp⟩
      case measure => simp [intOf]; omega
    · go_wp2
      obtain rfl : k = N := by omega
      go_ret
      exact ⟨rfl, ext_drewN _ _⟩

theorem orx_zero {d x y : Int} (hd : 0 ≤ d ∧ d ≤ 255) (hx : 0 ≤ x ∧ x ≤ 255) (hy : 0 ≤ y ∧ y ≤ 255) : (0 ≤ orx d x y ∧ orx d x y ≤ 255) ∧ (orx d x y = 0 ↔ d = 0 ∧ x = y) := by
  unfold orx
  have hxx := Nat.xor_lt_two_pow (n := 8) (x := x.toNat) (y := y.toNat) (by omega) (by omega)
  have ho := Nat.or_lt_two_pow (n := 8) (x := d.toNat) (y := (x.toNat ^^^ y.toNat)) (by omega) hxx
  rw [u8_xor x y (by omega) (by omega) (by omega) (by omega), u8_or d _ (by omega) (by omega) (by omega) (by omega)]
  simp only [Int.toNat_natCast]
  refine ⟨⟨by omega, by omega⟩, ?_⟩
  have e1 : d.toNat ||| (x.toNat ^^^ y.toNat) = 0 ↔ d.toNat = 0 ∧ (x.toNat ^^^ y.toNat) = 0 := Nat.or_eq_zero_iff
  have e2 : (x.toNat ^^^ y.toNat) = 0 ↔ x.toNat = y.toNat := by
    constructor
    · intro h
      have h' : x.toNat ^^^ y.toNat ^^^ y.toNat = 0 ^^^ y.toNat := by rw [h]
      rw [Nat.xor_assoc, Nat.xor_self, Nat.xor_zero, Nat.zero_xor] at h'
      exact h'
    · intro h; rw [h, Nat.xor_self]
  constructor
  · intro h
    have h' : d.toNat ||| (x.toNat ^^^ y.toNat) = 0 := by omega
    rw [e1, e2] at h'; omega
  · intro h
    have : d.toNat ||| (x.toNat ^^^ y.toNat) = 0 := by rw [e1, e2]; omega
    omega

theorem differ_zero {xs ys : List Int} (hx : AreBytes xs) (hy : AreBytes ys) : ∀ k, (0 ≤ differ xs ys k ∧ differ xs ys k ≤ 255) ∧ (differ xs ys k = 0 ↔ ∀ i, i < k → nth xs i = nth ys i)
  | 0 => ⟨by simp [differ], by simp [differ]⟩
  | k + 1 => by
    obtain ⟨h1, h2⟩ := differ_zero hx hy k
    obtain ⟨h3, h4⟩ := orx_zero h1 (hx.nth k) (hy.nth k)
    refine ⟨h3, ?_⟩
    show orx (differ xs ys k) (nth xs k) (nth ys k) = 0 ↔ _
    rw [h4, h2]
    constructor
    · rintro ⟨h5, h6⟩ i hi
      rcases Nat.lt_or_ge i k with h | h
      · exact h5 i h
      · obtain rfl : i = k := by omega
        exact h6
    · exact fun h => ⟨fun i hi => h i (by omega), h k (by omega)⟩

theorem eq_of_nth {xs ys : List Int} (hl : xs.length = ys.length) (h : ∀ i, i < xs.length → nth xs i = nth ys i) : xs = ys := by
  refine List.ext_getElem hl fun i h1 h2 => ?_
  have := h i h1
  simpa [nth, h1, h2] using this

theorem equal (x y : Value) (xs ys : List Int) (W : World) (hx : BytesAt W x xs) (hy : BytesAt W y ys) : Calls Try.prog 4 #[x, y] W (Ret W (.bool (decide (xs = ys)))) := by
  obtain ⟨a, cn, rfl, hl, hb, ha⟩ := hx
  obtain ⟨b, cm, rfl, hl', hb', ha'⟩ := hy
  by_cases h : xs.length = ys.length
  · rw [← h] at ha' ⊢
    have e : (differ xs ys xs.length == 0) = decide (xs = ys) := by
      rw [Bool.eq_iff_iff, beq_iff_eq, decide_eq_true_eq, (differ_zero hb hb' xs.length).2]
      exact ⟨eq_of_nth h, fun h _ _ => by rw [h]⟩
    rw [← e]
    exact equal_same a b xs.length cn cm xs ys hl W ha ha'
  · have e : decide (xs = ys) = false := decide_eq_false fun hh => h (by rw [hh])
    rw [e]
    exact equal_len a b _ _ cn cm h W
end Go.Proofs.Ytamlhbbphnamnaa.kdfEqual
