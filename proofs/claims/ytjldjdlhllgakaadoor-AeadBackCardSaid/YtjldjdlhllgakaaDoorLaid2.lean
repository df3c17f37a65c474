/- What a laid variable holds that is an array of arrays of integers. -/
import Derived.Test.YtjldjdlhllgakaaDoorLaid
namespace Go.Proofs.YtjldjdlhllgakaaDoor.Auto
open Go Go.RowKit
open Go.Proofs.YtjldjdlhllgakaaDoor.Rely
set_option linter.unusedVariables false

theorem chunks {α : Type} (m : Nat) : ∀ (n : Nat) (cs : List α), cs.length = n * m → ((List.range n).map fun i => (cs.drop (i * m)).take m).flatten = cs
  | 0, cs, h => by
    have : cs = [] := List.length_eq_zero_iff.1 (by simpa using h)
    subst this; rfl
  | n + 1, cs, h => by
    have hm : (n + 1) * m = n * m + m := Nat.succ_mul n m
    rw [List.range_succ, List.map_append, List.flatten_append]
    have ih := chunks m n (cs.take (n * m)) (by rw [List.length_take]; omega)
    have e1 : ((List.range n).map fun i => (cs.drop (i * m)).take m) = ((List.range n).map fun i => ((cs.take (n * m)).drop (i * m)).take m) := by
      refine List.map_congr_left fun i hi => ?_
      rw [List.mem_range] at hi
      have h1 : (i + 1) * m ≤ n * m := Nat.mul_le_mul_right m hi
      rw [Nat.succ_mul] at h1
      rw [List.drop_take, List.take_take, Nat.min_eq_left (by omega)]
    rw [e1, ih]
    simp only [List.map_cons, List.map_nil, List.flatten_cons, List.flatten_nil, List.append_nil]
    have e2 : (cs.drop (n * m)).take m = cs.drop (n * m) := List.take_of_length_le (by rw [List.length_drop]; omega)
    rw [e2, List.take_append_drop]
theorem cells_of_tab2 {H : Type} {enc : TypeId × Value → H} {P : Program} {w : World} {base : Nat} {sp : Nat → Bool} {held : Bool} {fuel : Nat} {t e i : TypeId} {n m : Nat} {k : IntKind} {cs : List Value} {zss : List (List Int)} {p : List MemPlace}
    (ht : P.underlying t = some (.array n e)) (he : P.underlying e = some (.array m i)) (hi : P.underlying i = some (.int k)) (hci : P.cellsOf i = 1) (hce : P.cellsOf e = m) (hct : P.cellsOf t = n * m)
    (h : DataW.trod enc P w base sp held fuel t cs = some (.agg (zss.map (Lib.tabData k)), p)) : cs = zss.flatten.map fun z => Value.int k z := by
  cases fuel with
  | zero => simp [DataW.trod] at h
  | succ fuel =>
    simp only [DataW.trod, ht, hce, hct] at h
    split at h
    · rename_i hl
      obtain ⟨xs, hm, hx⟩ := Option.map_eq_some_iff.1 h
      have hxs : xs.map (·.1) = zss.map fun z => (Lib.tabData k z : DataW H) := by
        have := congrArg Prod.fst hx
        simpa using this
      have hxl : xs.length = n := by simpa using Lib.mapM_length hm
      have hzl : zss.length = n := by
        have := congrArg List.length hxs
        simp at this
        omega
      rw [← chunks m n cs (by simpa using hl), List.map_flatten]
      congr 1
      apply List.ext_getElem?
      intro j
      by_cases hj : j < n
      · obtain ⟨b, hb, hf⟩ := Lib.mapM_at hm j j (by simp [hj])
        have h2 : (xs.map (·.1))[j]? = some b.1 := by simp [hb]
        rw [hxs, List.getElem?_map, List.getElem?_eq_getElem (by omega), Option.map_some, Option.some.injEq] at h2
        have h3 := Lib.cells_of_tab he hi hci hce (zs := zss[j]'(by omega)) (p := b.2) (by rw [h2]; exact hf)
        rw [List.getElem?_map, List.getElem?_map, List.getElem?_range hj, List.getElem?_eq_getElem (by omega), Option.map_some, Option.map_some, h3]
      · rw [List.getElem?_eq_none (by simp; omega), List.getElem?_eq_none (by simp; omega)]
    · cases h
theorem laid_row2 {P : Program} {w : World} {laid : List (String × DataW Unit)} {n : String} {k : IntKind} {zss : List (List Int)} {g : Nat} {t e i : TypeId} {m1 m : Nat} (h : laidMet P laid w) (hm : (n, DataW.agg (zss.map (Lib.tabData k))) ∈ laid)
    (hg : P.globalNamed n = some g) (hty : (P.globals[g]?).map (·.type) = some t) (ht : P.underlying t = some (.array m1 e)) (he : P.underlying e = some (.array m i)) (hi : P.underlying i = some (.int k)) (hci : P.cellsOf i = 1) (hce : P.cellsOf e = m) (hct : P.cellsOf t = m1 * m) (h0 : 0 < zss.flatten.length) :
    ∃ t, w.heap[g]? = some (.cells (ints k zss.flatten) t) := by
  obtain ⟨ps, hL, -, hC⟩ := h
  obtain ⟨g', t', cs, fuel, p, hg', ht', hvar, hd, hin⟩ := laidVars_at _ _ _ _ hL hm
  obtain rfl := Option.some.inj (hg.symm.trans hg')
  obtain rfl := Option.some.inj (hty.symm.trans ht')
  have hcs := cells_of_tab2 ht he hi hci hce hct hd
  have hsz : 0 < cs.size := by rw [← Array.length_toList, hcs, List.length_map]; exact h0
  obtain ⟨⟨c, t2, hc⟩, -⟩ := hC g 0 (hin _ (List.mem_map.2 ⟨0, List.mem_range.2 hsz, rfl⟩))
  unfold World.var? at hvar
  rw [hg] at hvar
  simp only [Option.bind_some, hc, Option.some.injEq] at hvar
  subst hvar
  refine ⟨t2, hc.trans ?_⟩
  rw [show c = ints k zss.flatten from by rw [ints, ← hcs]]
end Go.Proofs.YtjldjdlhllgakaaDoor.Auto
