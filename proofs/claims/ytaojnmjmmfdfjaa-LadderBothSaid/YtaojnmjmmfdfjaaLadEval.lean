/- The ladder by natural numbers, for the kernel to reckon with. -/
import Derived.Test.YtaojnmjmmfdfjaaLadHom
namespace Go.Proofs.Ytaojnmjmmfdfjaa.Field
open Go Go.RowKit
open Go.Proofs.Ytaojnmjmmfdfjaa.Rely Go.Proofs.Ytaojnmjmmfdfjaa.Auto Go.Proofs.Ytaojnmjmmfdfjaa.Ladder
set_option linter.unusedVariables false

def PN : Nat := 57896044618658097711785492504343953926634992332820282019728792003956564819949
theorem pn_cast : ((PN : Nat) : Int) = p := rfl
def sbN (a b : Nat) : Nat := (a + (PN - b)) % PN
def lstepN (u x z y v : Nat) : Nat × Nat × Nat × Nat :=
  let s0 := (x + z) % PN
  let s1 := sbN x z
  let s2 := (y + v) % PN
  let s3 := sbN y v
  let s4 := s0 * s0 % PN
  let s5 := s1 * s1 % PN
  let s6 := sbN s4 s5
  let s7 := s3 * s0 % PN
  let s8 := s2 * s1 % PN
  let s9 := (s7 + s8) % PN
  let s10 := sbN s7 s8
  let s11 := s4 * s5 % PN
  let s12 := s6 * 121665 % PN
  let s13 := (s4 + s12) % PN
  let s14 := s6 * s13 % PN
  let s15 := s9 * s9 % PN
  let s16 := s10 * s10 % PN
  let s17 := u * s16 % PN
  (s11, s14, s15, s17)
def lsN (k : Nat → Nat → Nat → Nat → Nat) (u x z y v : Nat) : Nat :=
  let s0 := (x + z) % PN
  let s1 := sbN x z
  let s2 := (y + v) % PN
  let s3 := sbN y v
  let s4 := s0 * s0 % PN
  let s5 := s1 * s1 % PN
  let s6 := sbN s4 s5
  let s7 := s3 * s0 % PN
  let s8 := s2 * s1 % PN
  let s9 := (s7 + s8) % PN
  let s10 := sbN s7 s8
  let s11 := s4 * s5 % PN
  let s12 := s6 * 121665 % PN
  let s13 := (s4 + s12) % PN
  let s14 := s6 * s13 % PN
  let s15 := s9 * s9 % PN
  let s16 := s10 * s10 % PN
  let s17 := u * s16 % PN
  bif Nat.ble s11 PN && Nat.ble s14 PN && Nat.ble s15 PN && Nat.ble s17 PN then k s11 s14 s15 s17 else 0
def ladN (u e : Nat) : Nat → Nat → Nat → Nat → Nat → Nat
  | 0, x, z, y, v => x * Prime.pm PN 256 z (PN - 2) % PN
  | f + 1, x, z, y, v => bif Nat.beq (e / 2 ^ f % 2) 1 then lsN (fun a b c d => ladN u e f c d a b) u y v x z else lsN (fun a b c d => ladN u e f a b c d) u x z y v
def bitsDown (e : Nat) : Nat → List Bool
  | 0 => []
  | f + 1 => Nat.beq (e / 2 ^ f % 2) 1 :: bitsDown e f

theorem sb_cast (a b : Nat) (ha : a < PN) (hb : b < PN) : ((sbN a b : Nat) : Int) = ((a : Int) - b) % p := by
  unfold sbN
  rw [← pn_cast, Int.natCast_emod, Int.natCast_add, Int.natCast_sub (Nat.le_of_lt hb), show (a : Int) + ((PN : Int) - b) = (a - b) + PN by omega, Int.add_emod_right]
theorem ad_cast (a b : Nat) : (((a + b) % PN : Nat) : Int) = ((a : Int) + b) % p := by
  rw [← pn_cast, Int.natCast_emod, Int.natCast_add]
theorem mu_cast (a b : Nat) : ((a * b % PN : Nat) : Int) = ((a : Int) * b) % p := by
  rw [← pn_cast, Int.natCast_emod, Int.natCast_mul]
theorem mod_lt (a : Nat) : a % PN < PN := Nat.mod_lt _ (by decide)
theorem sb_lt (a b : Nat) : sbN a b < PN := mod_lt _
theorem ls_cast (k : Nat → Nat → Nat → Nat → Nat) (u x z y v : Nat) (hx : x < PN) (hz : z < PN) (hy : y < PN) (hv : v < PN) :
    ∃ a b c d : Nat, a < PN ∧ b < PN ∧ c < PN ∧ d < PN ∧ lsN k u x z y v = k a b c d ∧ lstep (u : Int) x z y v = ((a : Int), (b : Int), (c : Int), (d : Int)) := by
  refine ⟨(lstepN u x z y v).1, (lstepN u x z y v).2.1, (lstepN u x z y v).2.2.1, (lstepN u x z y v).2.2.2, mod_lt _, mod_lt _, mod_lt _, mod_lt _, ?_, ?_⟩
  · have hb : ∀ a : Nat, Nat.ble (a % PN) PN = true := fun a => by
      rw [Nat.ble_eq]
      exact Nat.le_of_lt (mod_lt _)
    unfold lsN lstepN
    simp only [hb, Bool.and_true, _root_.cond_true]
  · unfold lstep lstepN
    simp only [ad_cast, mu_cast, sb_cast _ _ hx hz, sb_cast _ _ hy hv, sb_cast _ _ (mod_lt _) (mod_lt _)]
    rfl
theorem pm_inv (z : Nat) (hz : z < PN) : ((Prime.pm PN 256 z (PN - 2) : Nat) : Int) = invN z := by
  rw [Prime.pm_eq PN 256 z (PN - 2) (by decide +kernel)]
  unfold invN
  rw [pw_pow, ← pn_cast, ← cast_pow_mod]
  have hc : cnt (bitsOf (expo 235 127)) = PN - 2 := by
    have h := inv_cnt
    generalize cnt (bitsOf (expo 235 127)) = m at h
    unfold PN
    omega
  rw [hc]
theorem lad_cast (u e : Nat) : ∀ (f x z y v : Nat), x < PN → z < PN → y < PN → v < PN → ((ladN u e f x z y v : Nat) : Int) = outN u ((bitsDown e f).foldl (rung u) ((x : Int), (z : Int), (y : Int), (v : Int)))
  | 0, x, z, y, v, hx, hz, hy, hv => by
    show ((x * Prime.pm PN 256 z (PN - 2) % PN : Nat) : Int) = (x : Int) * invN z % p
    rw [mu_cast, pm_inv z hz]
  | f + 1, x, z, y, v, hx, hz, hy, hv => by
    rw [ladN, bitsDown, List.foldl_cons]
    cases Nat.beq (e / 2 ^ f % 2) 1 with
    | true =>
      rw [_root_.cond_true]
      obtain ⟨a, b, c, d, ha, hb, hc, hd, h1, h2⟩ := ls_cast (fun a b c d => ladN u e f c d a b) u y v x z hy hv hx hz
      rw [h1]
      simp only [rung, if_true, h2]
      exact lad_cast u e f c d a b hc hd ha hb
    | false =>
      rw [_root_.cond_false]
      obtain ⟨a, b, c, d, ha, hb, hc, hd, h1, h2⟩ := ls_cast (fun a b c d => ladN u e f a b c d) u x z y v hx hz hy hv
      rw [h1]
      simp only [rung, Bool.false_eq_true, if_false, h2]
      exact lad_cast u e f a b c d ha hb hc hd

def one32 : List Int := 1 :: List.replicate 31 0
theorem one_bits : ((bitsB (clamp one32)).drop 1).take (255 - 0) = bitsDown 28948022309329048855892746252171976963317496166410141009864396001978282409984 255 := by decide +kernel
theorem one_lad : ladN 9 28948022309329048855892746252171976963317496166410141009864396001978282409984 255 1 0 9 1 = 52573937849532372069814888178136277301931757964231753054399601207743438775599 := by decide +kernel
theorem one_out : outN 9 (crungs 9 (clamp one32) 0) = 52573937849532372069814888178136277301931757964231753054399601207743438775599 := by
  unfold crungs rungs
  rw [one_bits]
  have := lad_cast 9 28948022309329048855892746252171976963317496166410141009864396001978282409984 255 1 0 9 1 (by decide) (by decide) (by decide) (by decide)
  rw [one_lad] at this
  exact this.symm
end Go.Proofs.Ytaojnmjmmfdfjaa.Field
