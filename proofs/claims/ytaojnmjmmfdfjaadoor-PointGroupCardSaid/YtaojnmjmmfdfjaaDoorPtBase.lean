/- Points: the base and its negative. -/
import Derived.Test.YtaojnmjmmfdfjaaDoorPtMath
namespace Go.Proofs.YtaojnmjmmfdfjaaDoor.Field
open Go Go.RowKit
open Go.Proofs.YtaojnmjmmfdfjaaDoor.Rely Go.Proofs.YtaojnmjmmfdfjaaDoor.Auto
set_option linter.unusedVariables false

/-! ### The base and its negative -/
def blN : Int := 46316835694926478169428394003475163141307993866256225615783033603165251855959
def nbxN : Int := 42783823269122696939284341094755422415180979639778424813682678720006717057747
def baseBL : List Int := baseYL
theorem blN_isN : isN blN := by unfold isN; decide
theorem nbxN_isN : isN nbxN := by unfold isN; decide
theorem base_eq : pbaseF = (bxN, blN) := by decide +kernel
theorem base_enc : enc bxN (pyF bxN blN) = baseBL := by decide +kernel
theorem nbx_eq : pngPF bxN blN = (nbxN, blN) := by decide +kernel
theorem base_k (w : World) (tX : TypeId) (hX : w.heap[1]? = some (.cells (ints .u8 baseXL) tX)) (tY : TypeId) (hY : w.heap[2]? = some (.cells (ints .u8 baseYL) tY)) :
    Calls Tryd.prog 22 #[] w (Ret w (.agg (cat [numA bxN, numA blN]))) := by
  have := pbaseC w tX hX tY hY
  rw [base_eq] at this
  exact this
theorem base_bytes (w : World) : Calls Tryd.prog 13 #[.agg (cat [numA bxN, numA blN])] w (Ret w (.agg (ints .u8 baseBL))) := by
  have := pbytesC bxN blN bxN_isN blN_isN w
  rw [base_enc] at this
  exact this
theorem base_neg (w : World) : Calls Tryd.prog 17 #[.agg (cat [numA bxN, numA blN])] w (Ret w (.agg (cat [numA nbxN, numA blN]))) := by
  have := pngPC bxN blN bxN_isN blN_isN w
  rw [nbx_eq] at this
  exact this
theorem base_wide : ∃ v t, isN v ∧ v ≠ 0 ∧ waddF (pwideF bxN blN).1 (pwideF bxN blN).2.1 (pwideF bxN blN).2.2.1 (pwideF bxN blN).2.2.2 (pwideF nbxN blN).1 (pwideF nbxN blN).2.1 (pwideF nbxN blN).2.2.1 (pwideF nbxN blN).2.2.2 dN = (0, v, v, t) := by
  refine ⟨(waddF (pwideF bxN blN).1 (pwideF bxN blN).2.1 (pwideF bxN blN).2.2.1 (pwideF bxN blN).2.2.2 (pwideF nbxN blN).1 (pwideF nbxN blN).2.1 (pwideF nbxN blN).2.2.1 (pwideF nbxN blN).2.2.2 dN).2.1, (waddF (pwideF bxN blN).1 (pwideF bxN blN).2.1 (pwideF bxN blN).2.2.1 (pwideF bxN blN).2.2.2 (pwideF nbxN blN).1 (pwideF nbxN blN).2.1 (pwideF nbxN blN).2.2.1 (pwideF nbxN blN).2.2.2 dN).2.2.2, isN_mod _, ?_, ?_⟩ <;> decide +kernel
theorem base_sum : paddF bxN blN nbxN blN = (0, 0) := by
  obtain ⟨v, t, hv, h0, e⟩ := base_wide
  have : paddF bxN blN nbxN blN = pnarF 0 v v t := by
    unfold paddF
    simp only []
    rw [e]
  rw [this]
  show ((0 * invN v % p), (v * invN v % p - 1) % p) = (0, 0)
  rw [inv_mul v hv h0, Int.zero_mul]
  rfl
theorem base_add (w : World) (tB : TypeId) (hB : w.heap[0]? = some (.cells (ints .u8 bendL) tB)) : Calls Tryd.prog 15 #[.agg (cat [numA bxN, numA blN]), .agg (cat [numA nbxN, numA blN])] w (Ret w (.agg (cat [numA 0, numA 0]))) := by
  have := paddC bxN blN nbxN blN bxN_isN blN_isN nbxN_isN blN_isN w tB hB
  rw [base_sum] at this
  exact this
theorem base_zero (w : World) : Calls Tryd.prog 19 #[.agg (cat [numA 0, numA 0]), .agg (cat [numA 0, numA 0])] w (Ret w (.bool true)) := pequalC 0 0 0 0 (num_isN 0) (num_isN 0) (num_isN 0) (num_isN 0) w
end Go.Proofs.YtaojnmjmmfdfjaaDoor.Field
