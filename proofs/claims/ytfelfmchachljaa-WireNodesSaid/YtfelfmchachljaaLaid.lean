/- What laid variables hold; bytes that come in. -/
import Derived.Test.YtfelfmchachljaaAutoE
import Derived.Lib.LaidTab
namespace Go.Proofs.Ytfelfmchachljaa.Auto
open Go Go.RowKit
open Go.Proofs.Ytfelfmchachljaa.Rely
set_option linter.unusedVariables false

theorem laidVars_at {P : Program} {w : World} : ∀ (laid : List (String × DataW Unit)) (ps : List MemPlace) (n : String) (d : DataW Unit), DataW.LaidVars P w laid ps → (n, d) ∈ laid →
    ∃ g t cs fuel p, P.globalNamed n = some g ∧ (P.globals[g]?).map (·.type) = some t ∧ w.var? P n = some cs ∧ DataW.trod (fun _ => ()) P w 0 (fun _ => true) false fuel t cs.toList = some (d, p) ∧ ∀ x ∈ MemPlace.row ⟨g, 0, none⟩ cs.size, x ∈ ps
  | [], _, _, _, _, h => by cases h
  | (n0, d0) :: r, ps, n, d, ⟨g, t, cs, fuel, p, q, h1, h2, h3, h4, h5, h6⟩, h => by
    subst h6
    rcases List.mem_cons.1 h with h | h
    · cases h
      exact ⟨g, t, cs, fuel, p, h1, h2, h3, h4, fun x hx => List.mem_append_left _ (List.mem_append_left _ hx)⟩
    · obtain ⟨g', t', cs', fuel', p', a, b, c, e, f⟩ := laidVars_at r q n d h5 h
      exact ⟨g', t', cs', fuel', p', a, b, c, e, fun x hx => List.mem_append_right _ (f x hx)⟩
/-- a laid variable of integers: its row -/
theorem laid_row {P : Program} {w : World} {laid : List (String × DataW Unit)} {n : String} {k : IntKind} {zs : List Int} {g : Nat} {t e : TypeId} {m : Nat} (h : laidMet P laid w) (hm : (n, Lib.tabData k zs) ∈ laid)
    (hg : P.globalNamed n = some g) (hty : (P.globals[g]?).map (·.type) = some t) (ht : P.underlying t = some (.array m e)) (he : P.underlying e = some (.int k)) (hce : P.cellsOf e = 1) (hct : P.cellsOf t = m) (h0 : 0 < zs.length) :
    ∃ t, w.heap[g]? = some (.cells (ints k zs) t) := by
  obtain ⟨ps, hL, -, hC⟩ := h
  obtain ⟨g', t', cs, fuel, p, hg', ht', hvar, hd, hin⟩ := laidVars_at _ _ _ _ hL hm
  obtain rfl := Option.some.inj (hg.symm.trans hg')
  obtain rfl := Option.some.inj (hty.symm.trans ht')
  have hcs := Lib.cells_of_tab ht he hce hct hd
  have hsz : 0 < cs.size := by rw [← Array.length_toList, hcs, List.length_map]; exact h0
  obtain ⟨⟨c, t2, hc⟩, -⟩ := hC g 0 (hin _ (List.mem_map.2 ⟨0, List.mem_range.2 hsz, rfl⟩))
  unfold World.var? at hvar
  rw [hg] at hvar
  simp only [Option.bind_some, hc, Option.some.injEq] at hvar
  subst hvar
  refine ⟨t2, hc.trans ?_⟩
  rw [show c = ints k zs from by rw [ints, ← hcs]]
theorem bytes_wf {bs : List Int} (h : ∀ n ∈ bs, (Lit.int .u8 n).wf = true) : AreBytes bs := fun n hn => by
  have := h n hn
  simpa [Lit.wf, IntKind.min, IntKind.max, IntKind.signed, IntKind.bits] using this
end Go.Proofs.Ytfelfmchachljaa.Auto
