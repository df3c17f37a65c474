/- What the points use of the field. -/
import Derived.Test.YtaojnmjmmfdfjaaDoorFieldQ
import Derived.Test.YtaojnmjmmfdfjaaDoorAutoX
namespace Go.Proofs.YtaojnmjmmfdfjaaDoor.Field
open Go Go.RowKit
open Go.Proofs.YtaojnmjmmfdfjaaDoor.Rely Go.Proofs.YtaojnmjmmfdfjaaDoor.Auto
set_option linter.unusedVariables false

theorem num_isN (n : Nat) (h : n < 1000000 := by decide) : isN (n : Int) := by unfold isN p; omega
theorem isN_le {n : Int} (h : isN n) : 0 ≤ n ∧ n ≤ p := ⟨h.1, Int.le_of_lt h.2⟩
theorem zlen : (List.replicate 32 (0 : Int)).length = 32 := by decide
theorem small_k (n : Int) (h : 0 ≤ n ∧ n < 1000000) (w : World) : Calls Tryd.prog 32 #[.int .i64 n] w (Ret w (num n)) := by
  have := small_pos n (by omega) w
  rw [show n % p = n from Int.emod_eq_of_lt h.1 (by unfold p; omega)] at this
  exact this
theorem lAddN (x y : Int) (hx : isN x) (hy : isN y) (w : World) : Calls Tryd.prog 43 #[lnum x, lnum y] w (Ret w (lnum ((x + y) % p))) := lAdd x y (isN_big hx) (isN_big hy) w
theorem lSubN (x y : Int) (hx : isN x) (hy : isN y) (w : World) : Calls Tryd.prog 46 #[lnum x, lnum y] w (Ret w (lnum ((x - y) % p))) := lSub x y (isN_big hx) (isN_le hy) w
theorem lMulN (x y : Int) (hx : isN x) (hy : isN y) (w : World) : Calls Tryd.prog 42 #[lnum x, lnum y] w (Ret w (lnum (x * y % p))) := lMul x y (isN_big hx) (isN_big hy) w
end Go.Proofs.YtaojnmjmmfdfjaaDoor.Field
