/- A struct of digests that comes in by value: its cells are a list of bytes. For a frame. -/
import Derived.Test.YtamlhbbphnamnaaDoorStK
namespace Go.Proofs.YtamlhbbphnamnaaDoor.Auto
open Go Go.RowKit Go.WideShapes
open Go.Proofs.YtamlhbbphnamnaaDoor.Rely
set_option linter.unusedVariables false
section
variable {H : Type} {enc : TypeId × Value → H} {P : Program} {W w : World} {r : Reach} {base b0 : Nat} {sp : Nat → Bool} {held : Bool}
theorem chunks (l : List Value) : ∀ q : Nat, (∀ i, i < q → ∃ zs : List Int, (l.drop (32 * i)).take 32 = zs.map (Value.int .u8) ∧ zs.length = 32 ∧ AreBytes zs) → ∃ L : List Int, l.take (32 * q) = L.map (Value.int .u8) ∧ L.length = 32 * q ∧ AreBytes L
  | 0, _ => ⟨[], by simp, rfl, fun x hx => by simp at hx⟩
  | q + 1, h => by
    obtain ⟨L, h1, h2, h3⟩ := chunks l q fun i hi => h i (by omega)
    obtain ⟨zs, z1, z2, z3⟩ := h q (by omega)
    refine ⟨L ++ zs, ?_, by rw [List.length_append, h2, z2]; omega, fun x hx => ?_⟩
    · rw [show 32 * (q + 1) = 32 * q + 32 by omega, List.take_add, h1, z1, List.map_append]
    · rcases List.mem_append.1 hx with e | e
      · exact h3 x e
      · exact z3 x e
theorem open_sums {t a e : TypeId} {q : Nat} {v : Value} {d : DataW H} {p : List MemPlace} {fs : Array Field} (hs : P.underlying t = some (.struct fs)) (ha : P.underlying a = some (.array 32 e)) (he : P.underlying e = some (.int .u8)) (hce : P.cellsOf e = 1) (hca : P.cellsOf a = 32) (hC : P.cellsOf t = 32 * q)
    (hf : ∀ i, i < q → ∃ f, fs[i]? = some f ∧ f.type = a ∧ f.offset = 32 * i)
    (hv : Value.okWide P W r base t v) (h : DataW.Trod enc P w b0 sp held t v d p) : ∃ L : List Int, v = .agg (ints .u8 L) ∧ L.length = 32 * q ∧ AreBytes L := by
  obtain ⟨cs, rfl, hsz⟩ := okWide_struct hs hv
  obtain ⟨fuel, hfu⟩ := h
  obtain ⟨xs, n, -, -, hl, hlen, hx⟩ := DataW.trod_struct hs hfu
  obtain ⟨L, h1, h2, h3⟩ := chunks cs.toList q fun i hi => by
    obtain ⟨f, f1, f2, f3⟩ := hf i hi
    have hi2 : i < xs.length := by
      rw [hlen]
      exact (Array.getElem?_eq_some_iff.1 f1).1
    have h4 := hx i f f1
    rw [List.getElem?_eq_getElem hi2, f2, f3, hca] at h4
    obtain ⟨zs, z1, z2, z3⟩ := open_raw ha he hce hca h4
    exact ⟨zs, z1, z2, z3⟩
  refine ⟨L, ?_, h2, h3⟩
  have hl2 : cs.toList.length = 32 * q := by rw [Array.length_toList, hsz, hC]
  congr 1
  apply Array.ext'
  rw [List.take_of_length_le (by omega)] at h1
  rw [h1]
  rfl
end
end Go.Proofs.YtamlhbbphnamnaaDoor.Auto
