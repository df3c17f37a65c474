/- The ladder's numbers, the document's way: the bits from the highest but one on. -/
import Derived.Test.YtaojnmjmmfdfjaaLadMath
import Derived.Test.YtaojnmjmmfdfjaaPowD
import Derived.Test.YtaojnmjmmfdfjaaRefE
import Derived.Test.YtaojnmjmmfdfjaaRefG
import Derived.Test.YtaojnmjmmfdfjaaRefH
import Derived.Test.YtaojnmjmmfdfjaaLawKit
import Derived.Test.YtaojnmjmmfdfjaaAutoI
namespace Go.Proofs.Ytaojnmjmmfdfjaa.Field
open Go Go.RowKit
open Go.Proofs.Ytaojnmjmmfdfjaa.Rely Go.Proofs.Ytaojnmjmmfdfjaa.Auto Go.Proofs.Ytaojnmjmmfdfjaa.Ladder
set_option linter.unusedVariables false

/-- behind the bits from 254 to k -/
def crungs (u : Int) (es : List Int) (k : Nat) : LSt := rungs u (((bitsB es).drop 1).take (255 - k))
def outN (u : Int) (s : LSt) : Int := s.1 * invN s.2.1 % p
theorem crungs_isL (u : Int) (hu : isN u) (es : List Int) (k : Nat) : isL (crungs u es k) := rungs_isL u hu _
theorem crungs_step (u : Int) (es : List Int) (j : Nat) (hj : j < 255) : crungs u es j = rung u (crungs u es (j + 1)) (bitB es j) := by
  unfold crungs
  rw [← rungs_snoc]
  congr 1
  have e : 255 - j = (255 - (j + 1)) + 1 := by omega
  rw [e, List.take_add_one]
  congr 1
  have h : 1 + (255 - (j + 1)) < 256 := by omega
  simp only [bitsB, List.getElem?_drop, List.getElem?_map, List.getElem?_range h, Option.map_some, Option.toList_some]
  rw [show 255 - (1 + (255 - (j + 1))) = j by omega]
theorem isN_le {n : Int} (h : isN n) : 0 ≤ n ∧ n ≤ p := ⟨h.1, Int.le_of_lt h.2⟩
theorem mulc (q : Int) (h : isN q) (w : World) : Calls Try.prog 31 #[lnum 121665, lnum q] w (Ret w (lnum (q * 121665 % p))) := by
  have := lMul 121665 q (by unfold big; decide) (isN_big h) w
  rw [Int.mul_comm] at this
  exact this
theorem u64_nat (n : Nat) (h : n < 9223372036854775808) : IntKind.u64.wrap (n : Int) = (n : Int) := wrap64 _ (by unfold isW; omega)
theorem shr8 (v : Int) (n : Nat) (h : n < 8) : v.fdiv (2 ^ min (n : Int).toNat IntKind.u8.bits) = v / 2 ^ n := by
  rw [show min ((n : Int).toNat) IntKind.u8.bits = n by show min ((n : Int).toNat) 8 = n; omega]
  exact Int.fdiv_eq_ediv_of_nonneg _ (Int.le_of_lt (Int.pow_pos (by decide)))
theorem bit_tmod (es : List Int) (j : Nat) (hb : AreBytes es) {v : Int} (h : bitAt es j = v) : Int.tmod (nth es (j / 8) / 2 ^ (j % 8)) 2 = v := by
  rw [← h]
  unfold bitAt
  exact Int.tmod_eq_emod_of_nonneg (Int.ediv_nonneg (hb.nth _).1 (Int.le_of_lt (Int.pow_pos (by decide))))
end Go.Proofs.Ytaojnmjmmfdfjaa.Field
