/- Structs of four fields that come in by value, whose fields may be arrays of bytes: opened for a frame. -/
import Derived.Test.YtfelfmchachljaaBaseN
import Derived.Lib.SmallJoins
namespace Go.Proofs.Ytfelfmchachljaa.Auto
open Go Go.RowKit Go.WideShapes
open Go.Proofs.Ytfelfmchachljaa.Rely
set_option linter.unusedVariables false
section
variable {H : Type} {enc : TypeId × Value → H} {P : Program} {W w : World} {r : Reach} {base b0 : Nat} {sp : Nat → Bool} {held : Bool}
theorem open_raw {n : Nat} {t e : TypeId} {cs : List Value} {fuel : Nat} {x : DataW H × List MemPlace} (ht : P.underlying t = some (.array n e)) (he : P.underlying e = some (.int .u8)) (hce : P.cellsOf e = 1) (hct : P.cellsOf t = n)
    (hf : DataW.trod enc P w b0 sp held fuel t cs = some x) : ∃ xs : List Int, cs = xs.map (Value.int .u8) ∧ xs.length = n ∧ AreBytes xs := by
  obtain ⟨xs, m, -, -, hl, hn, hx⟩ := DataW.trod_array ht hf
  have hcs : cs.length = n := by simpa [hct] using hl
  have each : ∀ i, i < n → ∃ z : Int, cs[i]? = some (.int .u8 z) ∧ (0 ≤ z ∧ z ≤ 255) := by
    intro i hi
    have h1 := hx i hi
    rw [hce, Nat.mul_one] at h1
    have hlt : i < cs.length := by omega
    have h2 : cs.drop i = cs[i] :: cs.drop (i + 1) := List.drop_eq_getElem_cons hlt
    have h1 : DataW.trod enc P w b0 sp held m e ((cs.drop i).take 1) = xs[i]? := h1
    rw [h2] at h1
    simp only [List.take_succ_cons, List.take_zero] at h1
    obtain ⟨y, hy⟩ : ∃ y, xs[i]? = some y := ⟨xs[i], by simp [hn, hi]⟩
    rw [hy] at h1
    obtain ⟨z, hc, -, hw⟩ := DataW.trod_int he h1
    refine ⟨z, ?_, ?_⟩
    · rw [List.getElem?_eq_getElem hlt]
      simp only [List.cons.injEq] at hc
      rw [hc.1]
    · simpa [Lit.wf, IntKind.min, IntKind.max, IntKind.signed, IntKind.bits] using hw
  have all : ∀ (l : List Value), (∀ i, i < l.length → ∃ z : Int, l[i]? = some (.int .u8 z) ∧ (0 ≤ z ∧ z ≤ 255)) → ∃ zs : List Int, l = zs.map (Value.int .u8) ∧ AreBytes zs := by
    intro l
    induction l with
    | nil => exact fun _ => ⟨[], rfl, fun x hx => by simp at hx⟩
    | cons a l ih =>
      intro h
      obtain ⟨zs, h1, h2⟩ := ih fun i hi => by simpa using h (i + 1) (by simp; omega)
      obtain ⟨z, h3, h4⟩ := h 0 (by simp)
      simp only [List.getElem?_cons_zero, Option.some.injEq] at h3
      refine ⟨z :: zs, by rw [h3, h1]; rfl, fun x hx => ?_⟩
      rcases List.mem_cons.1 hx with e | e
      · rw [e]; exact h4
      · exact h2 x e
  obtain ⟨zs, h1, h2⟩ := all cs fun i hi => each i (by omega)
  exact ⟨zs, h1, by rw [← hcs, h1, List.length_map], h2⟩
theorem open_st4 {t : TypeId} {f0 f1 f2 f3 : Field} {v : Value} {d : DataW H} {p : List MemPlace} {n0 n1 n2 n3 : Nat} (hs : P.underlying t = some (.struct #[f0, f1, f2, f3]))
    (ho : f0.offset = 0 ∧ f1.offset = n0 ∧ f2.offset = n0 + n1 ∧ f3.offset = n0 + n1 + n2) (hc : P.cellsOf f0.type = n0 ∧ P.cellsOf f1.type = n1 ∧ P.cellsOf f2.type = n2 ∧ P.cellsOf f3.type = n3) (hC : P.cellsOf t = n0 + n1 + n2 + n3)
    (hv : Value.okWide P W r base t v) (h : DataW.Trod enc P w b0 sp held t v d p) :
    ∃ (A B C D : List Value) (y0 y1 y2 y3 : DataW H × List MemPlace) (n : Nat), v = .agg (A ++ B ++ C ++ D).toArray ∧
      DataW.trod enc P w b0 sp held n f0.type A = some y0 ∧ DataW.trod enc P w b0 sp held n f1.type B = some y1 ∧ DataW.trod enc P w b0 sp held n f2.type C = some y2 ∧ DataW.trod enc P w b0 sp held n f3.type D = some y3 := by
  obtain ⟨cs, rfl, hsz⟩ := okWide_struct hs hv
  obtain ⟨fuel, hf⟩ := h
  obtain ⟨y0, y1, y2, y3, n, -, hlen, h0, h1, h2, h3⟩ := Joins.trod_struct4 hs hf
  obtain ⟨o0, o1, o2, o3⟩ := ho
  obtain ⟨c0, c1, c2, c3⟩ := hc
  rw [o0, c0] at h0
  rw [o1, c1] at h1
  rw [o2, c2] at h2
  rw [o3, c3] at h3
  refine ⟨_, _, _, _, y0, y1, y2, y3, n, ?_, h0, h1, h2, h3⟩
  congr 1
  have hl : cs.toList.length = n0 + n1 + n2 + n3 := by rw [Array.length_toList, hsz, hC]
  apply Array.ext'
  show cs.toList = _
  simp only [Value.cells, List.drop_zero]
  generalize cs.toList = l at hl
  have e1 : l.take n0 ++ (l.drop n0).take n1 = l.take (n0 + n1) := by rw [List.take_add]
  have e2 : l.take (n0 + n1) ++ (l.drop (n0 + n1)).take n2 = l.take (n0 + n1 + n2) := by rw [List.take_add (i := n0 + n1)]
  have e3 : l.take (n0 + n1 + n2) ++ (l.drop (n0 + n1 + n2)).take n3 = l.take (n0 + n1 + n2 + n3) := by rw [List.take_add (i := n0 + n1 + n2)]
  rw [e1, e2, e3, List.take_of_length_le (by omega)]
end
theorem cat_st4 (A : List Value) (b c d : Value) : (A ++ [b] ++ [c] ++ [d]).toArray = cat [A.toArray, #[b], #[c], #[d]] := by
  apply Array.ext'
  simp [cat]
end Go.Proofs.Ytfelfmchachljaa.Auto
