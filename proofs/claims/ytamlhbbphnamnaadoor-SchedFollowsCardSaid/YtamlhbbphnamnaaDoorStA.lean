/- A slice of digests that comes in: its cells are a list of bytes. For a frame. -/
import Derived.Test.YtamlhbbphnamnaaDoorStK
import Derived.Test.YtamlhbbphnamnaaDoorAutoE
namespace Go.Proofs.YtamlhbbphnamnaaDoor.Auto
open Go Go.RowKit Go.WideShapes
open Go.Proofs.YtamlhbbphnamnaaDoor.Rely
set_option linter.unusedVariables false
theorem joins (Q : Nat → List Int → Prop) : ∀ n : Nat, (∀ i, i < n → ∃ zs : List Int, zs.length = 32 ∧ AreBytes zs ∧ Q i zs) → ∃ C : List Int, C.length = n * 32 ∧ AreBytes C ∧ ∀ i, i < n → ∃ zs : List Int, Q i zs ∧ ∀ j, j < 32 → C.getD (i * 32 + j) 0 = zs.getD j 0
  | 0, _ => ⟨[], rfl, fun x hx => by simp at hx, fun i hi => absurd hi (by omega)⟩
  | n + 1, h => by
    obtain ⟨C, h1, h2, h3⟩ := joins Q n fun i hi => h i (by omega)
    obtain ⟨zs, z1, z2, z3⟩ := h n (by omega)
    refine ⟨C ++ zs, by rw [List.length_append, h1, z1]; omega, fun x hx => ?_, fun i hi => ?_⟩
    · rcases List.mem_append.1 hx with e | e
      · exact h2 x e
      · exact z2 x e
    · by_cases hin : i < n
      · obtain ⟨ys, y1, y2⟩ := h3 i hin
        refine ⟨ys, y1, fun j hj => ?_⟩
        rw [← y2 j hj, List.getD_eq_getElem?_getD, List.getD_eq_getElem?_getD, List.getElem?_append_left (by omega)]
      · obtain rfl : i = n := by omega
        refine ⟨zs, z3, fun j hj => ?_⟩
        rw [List.getD_eq_getElem?_getD, List.getD_eq_getElem?_getD, List.getElem?_append_right (by omega), h1, Nat.add_sub_cancel_left]
section
variable {H : Type} {enc : TypeId × Value → H} {P : Program} {W w : World} {r : Reach} {base b0 : Nat} {sp : Nat → Bool} {held : Bool}
theorem open_arrs {t a e : TypeId} {ad : Option Addr} {len cap : Nat} {d : DataW H} {p : List MemPlace} (hs : P.underlying t = some (.slice a)) (ha : P.underlying a = some (.array 32 e)) (he : P.underlying e = some (.int .u8)) (hce : P.cellsOf e = 1) (hca : P.cellsOf a = 32)
    (h : DataW.Trod enc P w b0 sp held t (.slice ad len cap) d p) (hm : len ≤ 1000000) : ∃ C : List Int, C.length = len * 32 ∧ AreBytes C ∧ RdK .u8 w.heap.size C (.slice ad C.length C.length) w := by
  obtain ⟨fuel, hf⟩ := h
  rcases DataW.trod_slice hs hf with ⟨hcs, -⟩ | ⟨x, l, c, elems, rest, n, -, hcs, -, hb, hl, hmx, hlen, hel, -, -⟩
  · simp [Value.cells] at hcs
    obtain ⟨rfl, rfl, rfl⟩ := hcs
    exact ⟨[], rfl, fun x hx => by simp at hx, none, 0, rfl, Nat.le_refl _, Nat.zero_le _, fun _ => rfl, .inl rfl⟩
  · simp [Value.cells] at hcs
    obtain ⟨rfl, rfl, rfl⟩ := hcs
    obtain ⟨C, h1, h2, h3⟩ := joins (fun i zs => ∀ j, j < 32 → w.cell? ((x.add (i * 32)).add j) = some (.int .u8 (zs.getD j 0))) len fun i hi => by
      have h4 := hel i hi
      rw [hca, List.getElem?_eq_getElem (by omega)] at h4
      obtain ⟨cs, hc1, hc2⟩ := Option.bind_eq_some_iff.1 h4
      obtain ⟨zs, z1, z2, z3⟩ := open_raw ha he hce hca hc2
      obtain ⟨-, q1, q2⟩ := World.cells?_some hc1
      refine ⟨zs, z2, z3, fun j hj => ?_⟩
      rw [q2 j hj, z1, List.getElem?_map, List.getD_eq_getElem?_getD, List.getElem?_eq_getElem (by omega)]
      rfl
    rcases Nat.eq_zero_or_pos len with h0 | h0
    · have hC : C = [] := List.length_eq_zero_iff.1 (by rw [h1, h0])
      subst hC
      exact ⟨[], h1, h2, some x, 0, rfl, Nat.le_refl _, Nat.zero_le _, (fun h => by cases h), .inl rfl⟩
    obtain ⟨b, off, spot⟩ := x
    have hspot : spot = none := by
      obtain ⟨zs, hq, -⟩ := h3 0 h0
      have := hq 0 (by decide)
      simpa [Addr.add] using World.cell?_spot this
    subst hspot
    have hcell : ∀ k, k < C.length → w.cell? ⟨b, off + k, none⟩ = some (.int .u8 (nth C k)) := fun k hk => by
      obtain ⟨zs, hq, hj⟩ := h3 (k / 32) (by omega)
      have h5 := hq (k % 32) (Nat.mod_lt _ (by decide))
      have h6 := hj (k % 32) (Nat.mod_lt _ (by decide))
      have hk2 : k / 32 * 32 + k % 32 = k := by omega
      rw [WideShapes.add_plain, WideShapes.add_plain, Nat.add_assoc, hk2] at h5
      rw [hk2] at h6
      rw [h5]
      unfold nth
      rw [h6]
    have hlt := lt_of_cell (hcell 0 (by omega))
    exact ⟨C, h1, h2, some ⟨b, off, none⟩, C.length, rfl, Nat.le_refl _, by rw [h1]; simp only [maxLen]; omega, (fun h => by cases h), .inr ⟨b, off, rfl, hlt, hlt, hcell⟩⟩
end
end Go.Proofs.YtamlhbbphnamnaaDoor.Auto
