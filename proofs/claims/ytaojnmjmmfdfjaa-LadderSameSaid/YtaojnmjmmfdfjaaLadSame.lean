/- Bits that are set anyway don't matter. -/
import Derived.Test.YtaojnmjmmfdfjaaLadFn
namespace Go.Proofs.Ytaojnmjmmfdfjaa.Field
open Go Go.RowKit
open Go.Proofs.Ytaojnmjmmfdfjaa.Rely Go.Proofs.Ytaojnmjmmfdfjaa.Auto Go.Proofs.Ytaojnmjmmfdfjaa.Ladder
set_option linter.unusedVariables false

def tL (xs : List Int) (b : Int) : List Int := ((xs).set 0 (bits .xor .u8 (nth (xs) 0) (bits .and .u8 b 7))).set 31 (bits .xor .u8 (nth ((xs).set 0 (bits .xor .u8 (nth (xs) 0) (bits .and .u8 b 7))) 31) (bits .and .u8 b 192))
def qL (ps : List Int) : List Int := (ps).set 31 (bits .xor .u8 (nth (ps) 31) 128)
theorem and7 : ∀ a : Fin 256, ∃ m : Fin 8, bits .and .u8 (a.val : Int) 7 = (m.val : Int) := by decide +kernel
theorem and192 : ∀ a : Fin 256, ∃ m : Fin 4, bits .and .u8 (a.val : Int) 192 = 64 * (m.val : Int) := by decide +kernel
theorem xor7 : ∀ (x : Fin 256) (m : Fin 8), bits .xor .u8 (x.val : Int) (m.val : Int) / 8 * 8 = (x.val : Int) / 8 * 8 ∧ 0 ≤ bits .xor .u8 (x.val : Int) (m.val : Int) ∧ bits .xor .u8 (x.val : Int) (m.val : Int) ≤ 255 := by decide +kernel
theorem xor192 : ∀ (x : Fin 256) (m : Fin 4), bits .xor .u8 (x.val : Int) (64 * (m.val : Int)) % 64 = (x.val : Int) % 64 ∧ 0 ≤ bits .xor .u8 (x.val : Int) (64 * (m.val : Int)) ∧ bits .xor .u8 (x.val : Int) (64 * (m.val : Int)) ≤ 255 := by decide +kernel
theorem xor128 : ∀ (x : Fin 256), bits .xor .u8 (x.val : Int) 128 % 128 = (x.val : Int) % 128 ∧ 0 ≤ bits .xor .u8 (x.val : Int) 128 ∧ bits .xor .u8 (x.val : Int) 128 ≤ 255 := by decide +kernel
theorem fin_of {a : Int} (h : 0 ≤ a ∧ a ≤ 255) : ∃ f : Fin 256, a = (f.val : Int) := ⟨⟨a.toNat, by omega⟩, by simp [Int.toNat_of_nonneg h.1]⟩
theorem low_bits {x b : Int} (hx : 0 ≤ x ∧ x ≤ 255) (hb : 0 ≤ b ∧ b ≤ 255) : bits .xor .u8 x (bits .and .u8 b 7) / 8 * 8 = x / 8 * 8 ∧ 0 ≤ bits .xor .u8 x (bits .and .u8 b 7) ∧ bits .xor .u8 x (bits .and .u8 b 7) ≤ 255 := by
  obtain ⟨fx, rfl⟩ := fin_of hx
  obtain ⟨fb, rfl⟩ := fin_of hb
  obtain ⟨m, hm⟩ := and7 fb
  rw [hm]
  exact xor7 fx m
theorem high_bits {x b : Int} (hx : 0 ≤ x ∧ x ≤ 255) (hb : 0 ≤ b ∧ b ≤ 255) : bits .xor .u8 x (bits .and .u8 b 192) % 64 = x % 64 ∧ 0 ≤ bits .xor .u8 x (bits .and .u8 b 192) ∧ bits .xor .u8 x (bits .and .u8 b 192) ≤ 255 := by
  obtain ⟨fx, rfl⟩ := fin_of hx
  obtain ⟨fb, rfl⟩ := fin_of hb
  obtain ⟨m, hm⟩ := and192 fb
  rw [hm]
  exact xor192 fx m
theorem topBit {x : Int} (hx : 0 ≤ x ∧ x ≤ 255) : bits .xor .u8 x 128 % 128 = x % 128 ∧ 0 ≤ bits .xor .u8 x 128 ∧ bits .xor .u8 x 128 ≤ 255 := by
  obtain ⟨fx, rfl⟩ := fin_of hx
  exact xor128 fx
theorem bytes_set {xs : List Int} (h : AreBytes xs) (i : Nat) {v : Int} (hv : 0 ≤ v ∧ v ≤ 255) : AreBytes (xs.set i v) := by
  intro z hz
  rcases List.mem_or_eq_of_mem_set hz with h1 | h1
  · exact h z h1
  · rw [h1]; exact hv
theorem clamp_len (xs : List Int) (hx : xs.length = 32) : (clamp xs).length = 32 := by simp [clamp, hx]
theorem tL_len (xs : List Int) (b : Int) (hx : xs.length = 32) : (tL xs b).length = 32 := by simp [tL, hx]
theorem qL_len (ps : List Int) (hp : ps.length = 32) : (qL ps).length = 32 := by simp [qL, hp]
theorem qL_bytes (ps : List Int) (hb : AreBytes ps) : AreBytes (qL ps) := bytes_set hb 31 (topBit (hb.nth 31)).2
theorem tL_31 (xs : List Int) (v : Int) : nth (xs.set 0 v) 31 = nth xs 31 := nth_set_ne _ _ _ _ (by decide)
theorem tL_bytes (xs : List Int) (b : Int) (hb : AreBytes xs) (h : 0 ≤ b ∧ b ≤ 255) : AreBytes (tL xs b) := by
  unfold tL
  rw [tL_31]
  exact bytes_set (bytes_set hb 0 (low_bits (hb.nth 0) h).2) 31 (high_bits (hb.nth 31) h).2
theorem clamp_tL (xs : List Int) (b : Int) (hx : xs.length = 32) (hb : AreBytes xs) (h : 0 ≤ b ∧ b ≤ 255) : clamp (tL xs b) = clamp xs := by
  have l1 := (low_bits (hb.nth 0) h).1
  have l2 := (high_bits (hb.nth 31) h).1
  unfold tL
  rw [tL_31]
  generalize bits .xor .u8 (nth xs 0) (bits .and .u8 b 7) = u at *
  generalize bits .xor .u8 (nth xs 31) (bits .and .u8 b 192) = v at *
  have e0 : nth ((xs.set 0 u).set 31 v) 0 = u := by rw [nth_set_ne _ _ _ _ (by decide), nth_set_eq _ _ _ (by omega)]
  have e31 : nth ((xs.set 0 u).set 31 v) 31 = v := nth_set_eq _ _ _ (by simp [hx])
  unfold clamp
  rw [e0, e31, l1, l2]
  generalize nth xs 0 / 8 * 8 = m
  generalize nth xs 31 % 64 + 64 = n
  apply List.ext_getElem?
  intro i
  simp only [List.getElem?_set]
  by_cases h0 : 0 = i
  · subst h0; simp
  · by_cases h31 : 31 = i
    · subst h31; simp
    · simp [h0, h31]
theorem leAt_set (ps : List Int) (v : Int) (k : Nat) : ∀ m, m ≤ k → leAt (ps.set k v) 0 m = leAt ps 0 m
  | 0, _ => rfl
  | m + 1, h => by rw [leAt, leAt, leAt_set ps v k m (by omega), nth_set_ne _ _ _ _ (by omega)]
theorem keyNum_qL (ps : List Int) (hp : ps.length = 32) (hb : AreBytes ps) : keyNum (qL ps) = keyNum ps := by
  unfold keyNum
  congr 1
  rw [show leAt (qL ps) 0 32 = leAt (qL ps) 0 31 + nth (qL ps) (0 + 31) * 256 ^ 31 from rfl, show leAt ps 0 32 = leAt ps 0 31 + nth ps (0 + 31) * 256 ^ 31 from rfl]
  unfold qL
  rw [leAt_set ps _ 31 31 (Nat.le_refl _), Nat.zero_add, nth_set_eq _ _ _ (by omega)]
  have := (topBit (hb.nth 31)).1
  generalize bits .xor .u8 (nth ps 31) 128 = c at *
  rw [show (256 : Int) ^ 31 = 452312848583266388373324160190187140051835877600158453279131187530910662656 from rfl]
  omega
theorem agN_same (xs ps : List Int) (b : Int) (hx : xs.length = 32) (hb : AreBytes xs) (hp : ps.length = 32) (hbp : AreBytes ps) (h : 0 ≤ b ∧ b ≤ 255) : agN (tL xs b) (qL ps) = agN xs ps := by
  unfold agN
  rw [clamp_tL xs b hx hb h, keyNum_qL ps hp hbp]
theorem pubL_same (xs : List Int) (b : Int) (hx : xs.length = 32) (hb : AreBytes xs) (h : 0 ≤ b ∧ b ≤ 255) : pubL (tL xs b) = pubL xs := by
  unfold pubL
  rw [clamp_tL xs b hx hb h]
section
variable (xs ps : List Int) (b : Int) (hx : xs.length = 32) (hb : AreBytes xs) (hp : ps.length = 32) (hbp : AreBytes ps) (h : 0 ≤ b ∧ b ≤ 255)
include hx hb hp hbp h
theorem agreeT_0 (h0 : (agN xs ps == 0) = false) (w : World) : Calls Try.prog 45 #[.agg (ints .u8 (tL xs b)), .agg (ints .u8 (qL ps))] w (Ret w (.tuple #[.agg (ints .u8 (bytesOf (agN xs ps))), .nilIface])) := by
  have e := agN_same xs ps b hx hb hp hbp h
  have := agree_0 (tL xs b) (qL ps) (tL_len xs b hx) (tL_bytes xs b hb h) (qL_len ps hp) (qL_bytes ps hbp) (by rw [e]; exact h0) w
  rw [e] at this
  exact this
theorem agreeT_1 (h0 : (agN xs ps == 0) = true) (w : World) : Calls Try.prog 45 #[.agg (ints .u8 (tL xs b)), .agg (ints .u8 (qL ps))] w (Ret w (.tuple #[.agg (ints .u8 (List.replicate 32 0)), .iface 80 (.int .i64 4)])) := by
  have e := agN_same xs ps b hx hb hp hbp h
  exact agree_1 (tL xs b) (qL ps) (tL_len xs b hx) (tL_bytes xs b hb h) (qL_len ps hp) (qL_bytes ps hbp) (by rw [e]; exact h0) w
end
theorem publicT (xs : List Int) (b : Int) (hx : xs.length = 32) (hb : AreBytes xs) (h : 0 ≤ b ∧ b ≤ 255) (w : World) : Calls Try.prog 43 #[.agg (ints .u8 (tL xs b))] w (Ret w (.agg (ints .u8 (pubL xs)))) := by
  have := public_ (tL xs b) (tL_len xs b hx) (tL_bytes xs b hb h) w
  rw [pubL_same xs b hx hb h] at this
  exact this
theorem clampT (xs : List Int) (b : Int) (hx : xs.length = 32) (hb : AreBytes xs) (h : 0 ≤ b ∧ b ≤ 255) (w : World) : Calls Try.prog 39 #[.agg (ints .u8 (tL xs b))] w (Ret w (.agg (ints .u8 (clamp xs)))) := by
  have := clampC (tL xs b) (tL_len xs b hx) (tL_bytes xs b hb h) w
  rw [clamp_tL xs b hx hb h] at this
  exact this
end Go.Proofs.Ytaojnmjmmfdfjaa.Field
