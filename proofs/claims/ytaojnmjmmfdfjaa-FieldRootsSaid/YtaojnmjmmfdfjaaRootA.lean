/- The roots: what they are. -/
import Derived.Test.YtaojnmjmmfdfjaaPowF
import Derived.Test.YtaojnmjmmfdfjaaPowD
namespace Go.Proofs.Ytaojnmjmmfdfjaa.Field
open Go Go.RowKit
open Go.Proofs.Ytaojnmjmmfdfjaa.Rely
set_option linter.unusedVariables false

/-- the first candidate, and what makes the second one of it -/
def rootA (a : Int) : Int := pwBits a (bitsOf (expo 254 15))
def rootI : Int := pwBits 2 (bitsOf (expo 251 31))
theorem rootA_isN (a : Int) : isN (rootA a) := pwBits_isN _ _
theorem rootI_isN : isN rootI := pwBits_isN _ _
theorem two_isN : isN 2 := by unfold isN p; decide
theorem zero_isN' : isN 0 := by unfold isN p; decide
/-- the even one of r and its negative -/
def evenOf (r : Int) : Int := if r % 2 = 1 then (0 - r) % p else r
theorem evenOf_isN (r : Int) (h : isN r) : isN (evenOf r) := by
  unfold evenOf
  split
  · exact isN_mod _
  · exact h
theorem evenOf_odd (r : Int) (hr : isN r) (h : r % 2 = 1) : evenOf r = p - r := by
  unfold evenOf
  rw [if_pos h]
  unfold isN p at *
  omega
/-- the root, and whether there is one -/
def rootB (a r : Int) : Int := if r * r % p = a then evenOf r else 0
def rootN (a : Int) : Int := if rootA a * rootA a % p = a then evenOf (rootA a) else rootB a (rootA a * rootI % p)
def hasRoot (a : Int) : Bool := decide (rootA a * rootA a % p = a) || decide (rootA a * rootI % p * (rootA a * rootI % p) % p = a)
theorem rootN_isN (a : Int) : isN (rootN a) := by
  unfold rootN rootB
  split
  · exact evenOf_isN _ (rootA_isN a)
  · split
    · exact evenOf_isN _ (isN_mod _)
    · exact zero_isN'

/-! ### Exponents of the document -/
theorem root_bits : lbits 7237005577332262213973186563042994240829374041602535252466099000494570602494 = bitsOf (expo 254 15) := by decide +kernel
theorem rootI_bits : lbits 14474011154664524427946373126085988481658748083205070504932198000989141204987 = bitsOf (expo 251 31) := by decide +kernel
/-! ### The root of a square -/
theorem cnt_root : cnt (bitsOf (expo 254 15)) = 7237005577332262213973186563042994240829374041602535252466099000494570602494 := by decide +kernel
theorem cnt_rootI : cnt (bitsOf (expo 251 31)) = 14474011154664524427946373126085988481658748083205070504932198000989141204987 := by decide +kernel
end Go.Proofs.Ytaojnmjmmfdfjaa.Field
