/- Points: what the laid variables hold, and the curve's numbers. -/
import Derived.Test.YtaojnmjmmfdfjaaDoorPtKit
import Derived.Lib.LaidTab
namespace Go.Proofs.YtaojnmjmmfdfjaaDoor.Field
open Go Go.RowKit
open Go.Proofs.YtaojnmjmmfdfjaaDoor.Rely Go.Proofs.YtaojnmjmmfdfjaaDoor.Auto
set_option linter.unusedVariables false

theorem laidVars_at {P : Program} {w : World} : ∀ (laid : List (String × DataW Unit)) (ps : List MemPlace) (n : String) (d : DataW Unit), DataW.LaidVars P w laid ps → (n, d) ∈ laid →
    ∃ g t cs fuel p, P.globalNamed n = some g ∧ (P.globals[g]?).map (·.type) = some t ∧ w.var? P n = some cs ∧ DataW.trod (fun _ => ()) P w 0 (fun _ => true) false fuel t cs.toList = some (d, p) ∧ ∀ x ∈ MemPlace.row ⟨g, 0, none⟩ cs.size, x ∈ ps
  | [], _, _, _, _, h => by cases h
  | (n0, d0) :: r, ps, n, d, ⟨g, t, cs, fuel, p, q, h1, h2, h3, h4, h5, h6⟩, h => by
    subst h6
    rcases List.mem_cons.1 h with h | h
    · cases h
      exact ⟨g, t, cs, fuel, p, h1, h2, h3, h4, fun x hx => List.mem_append_left _ (List.mem_append_left _ hx)⟩
    · obtain ⟨g', t', cs', fuel', p', a, b, c, e, f⟩ := laidVars_at r q n d h5 h
      exact ⟨g', t', cs', fuel', p', a, b, c, e, fun x hx => List.mem_append_right _ (f x hx)⟩
/-- a laid variable of integers: its row -/
theorem laid_row {P : Program} {w : World} {laid : List (String × DataW Unit)} {n : String} {k : IntKind} {zs : List Int} {g : Nat} {t e : TypeId} {m : Nat} (h : laidMet P laid w) (hm : (n, Lib.tabData k zs) ∈ laid)
    (hg : P.globalNamed n = some g) (hty : (P.globals[g]?).map (·.type) = some t) (ht : P.underlying t = some (.array m e)) (he : P.underlying e = some (.int k)) (hce : P.cellsOf e = 1) (hct : P.cellsOf t = m) (h0 : 0 < zs.length) :
    ∃ t, w.heap[g]? = some (.cells (ints k zs) t) := by
  obtain ⟨ps, hL, -, hC⟩ := h
  obtain ⟨g', t', cs, fuel, p, hg', ht', hvar, hd, hin⟩ := laidVars_at _ _ _ _ hL hm
  obtain rfl := Option.some.inj (hg.symm.trans hg')
  obtain rfl := Option.some.inj (hty.symm.trans ht')
  have hcs := Lib.cells_of_tab ht he hce hct hd
  have hsz : 0 < cs.size := by rw [← Array.length_toList, hcs, List.length_map]; exact h0
  obtain ⟨⟨c, t2, hc⟩, -⟩ := hC g 0 (hin _ (List.mem_map.2 ⟨0, List.mem_range.2 hsz, rfl⟩))
  unfold World.var? at hvar
  rw [hg] at hvar
  simp only [Option.bind_some, hc, Option.some.injEq] at hvar
  subst hvar
  refine ⟨t2, hc.trans ?_⟩
  rw [show c = ints k zs from by rw [ints, ← hcs]]
def bendL : List Int := [163, 120, 89, 19, 202, 77, 235, 117, 171, 216, 65, 65, 77, 10, 112, 0, 152, 232, 121, 119, 121, 64, 199, 140, 115, 254, 111, 43, 238, 108, 3, 82]
def baseXL : List Int := [26, 213, 37, 143, 96, 45, 86, 201, 178, 167, 37, 149, 96, 199, 44, 105, 92, 220, 214, 253, 49, 226, 164, 192, 254, 83, 110, 205, 211, 54, 105, 33]
def baseYL : List Int := [88, 102, 102, 102, 102, 102, 102, 102, 102, 102, 102, 102, 102, 102, 102, 102, 102, 102, 102, 102, 102, 102, 102, 102, 102, 102, 102, 102, 102, 102, 102, 102]
/-- the curve's d -/
def dN : Int := 37095705934669439343138083508754565189542113879843219016388785533085940283555
def bxN : Int := 15112221349535400772501151409588531511454012693041857206046113283949847762202
def byN : Int := 46316835694926478169428394003475163141307993866256225615783033603165251855960
theorem dN_isN : isN dN := by unfold isN; decide
theorem bxN_isN : isN bxN := by unfold isN; decide
theorem byN_isN : isN byN := by unfold isN; decide
theorem key_d : keyNum bendL = dN := by decide +kernel
theorem key_bx : keyNum baseXL = bxN := by decide +kernel
theorem key_by : keyNum baseYL = byN := by decide +kernel
theorem bend_bytes : AreBytes bendL := by unfold AreBytes; decide
theorem baseX_bytes : AreBytes baseXL := by unfold AreBytes; decide
theorem baseY_bytes : AreBytes baseYL := by unfold AreBytes; decide
theorem from_d (w : World) : Calls Tryd.prog 29 #[.agg (ints .u8 bendL)] w (Ret w (num dN)) := by rw [← key_d]; exact from_ bendL rfl bend_bytes w
theorem from_bx (w : World) : Calls Tryd.prog 29 #[.agg (ints .u8 baseXL)] w (Ret w (num bxN)) := by rw [← key_bx]; exact from_ baseXL rfl baseX_bytes w
theorem from_by (w : World) : Calls Tryd.prog 29 #[.agg (ints .u8 baseYL)] w (Ret w (num byN)) := by rw [← key_by]; exact from_ baseYL rfl baseY_bytes w
theorem lFrom_d (w : World) : Calls Tryd.prog 39 #[.agg (ints .u8 bendL)] w (Ret w (lnum dN)) := by rw [← key_d]; exact lFrom bendL rfl bend_bytes w
end Go.Proofs.YtaojnmjmmfdfjaaDoor.Field
