/- The bits of bytes are the bits of the document's number of these bytes. -/
import Derived.Test.YtaojnmjmmfdfjaaPowD
namespace Go.Proofs.Ytaojnmjmmfdfjaa.Field
open Go Go.RowKit
open Go.Proofs.Ytaojnmjmmfdfjaa.Rely
set_option linter.unusedVariables false

theorem limb_le (es : List Int) (hb : AreBytes es) (k : Nat) (hk : k < 16) : limb (leAt es 0 32) k = pairAt es k := by
  have h := pair_val es 16
  rw [show 2 * 16 = 32 from rfl] at h
  rw [← h]
  exact limb_of (pairAt es) 16 (fun i _ => pair_range es hb i) k hk
theorem le_range (es : List Int) (hb : AreBytes es) : 0 ≤ leAt es 0 32 ∧ leAt es 0 32 < big := by
  have h := leAt_range es hb 0 32
  rw [show (256 : Int) ^ 32 = big by decide] at h
  exact h
theorem lims_le (es : List Int) (hb : AreBytes es) : lims (leAt es 0 32) = (List.range 16).map (pairAt es) := by
  unfold lims
  exact List.map_congr_left fun i hi => limb_le es hb i (List.mem_range.1 hi)
theorem pair_bit_low (a b : Int) (ha : 0 ≤ a ∧ a ≤ 255) (r : Nat) (hr : r < 8) : (a + 256 * b) / 2 ^ r % 2 = a / 2 ^ r % 2 := by
  rcases (by omega : r = 0 ∨ r = 1 ∨ r = 2 ∨ r = 3 ∨ r = 4 ∨ r = 5 ∨ r = 6 ∨ r = 7) with rfl | rfl | rfl | rfl | rfl | rfl | rfl | rfl
  all_goals
    simp only [Int.reducePow]
    omega
theorem pair_bit_high (a b : Int) (ha : 0 ≤ a ∧ a ≤ 255) (r : Nat) (hr : r < 8) : (a + 256 * b) / 2 ^ (r + 8) % 2 = b / 2 ^ r % 2 := by
  rcases (by omega : r = 0 ∨ r = 1 ∨ r = 2 ∨ r = 3 ∨ r = 4 ∨ r = 5 ∨ r = 6 ∨ r = 7) with rfl | rfl | rfl | rfl | rfl | rfl | rfl | rfl
  all_goals
    simp only [Int.reducePow, Nat.reduceAdd]
    omega
theorem lbit_eq (es : List Int) (hb : AreBytes es) (i : Nat) (hi : i < 256) : lbit (leAt es 0 32) i = bitAt es i := by
  unfold lbit bitAt
  rw [limb_le es hb (i / 16) (by omega)]
  unfold pairAt
  rcases Nat.lt_or_ge (i % 16) 8 with h | h
  · rw [show i / 8 = 2 * (i / 16) by omega, show i % 8 = i % 16 by omega]
    exact pair_bit_low _ _ (hb.nth _) _ h
  · obtain ⟨s, hs⟩ : ∃ s, i % 16 = s + 8 := ⟨i % 16 - 8, by omega⟩
    rw [show i / 8 = 2 * (i / 16) + 1 by omega, show i % 8 = s by omega, hs]
    exact pair_bit_high _ _ (hb.nth _) _ (by omega)
theorem lbits_eq (es : List Int) (hb : AreBytes es) : lbits (leAt es 0 32) = bitsOf es := by
  unfold lbits bitsOf
  refine List.map_congr_left fun j hj => ?_
  have := List.mem_range.1 hj
  exact lbit_eq es hb (255 - j) (by omega)
end Go.Proofs.Ytaojnmjmmfdfjaa.Field
