/- append of noughts ('append(s, make([]T, n)...)') to a slice of integers that is one's own. -/
import Derived.Test.YtfelfmchachljaaKit3
import Derived.Lib.AppendZeros
namespace Go.Proofs.Ytfelfmchachljaa.Auto
open Go Go.RowKit
open Go.Proofs.Ytfelfmchachljaa.Rely Go.Proofs.Ytfelfmchachljaa.Own
set_option linter.unusedVariables false
set_option linter.unusedSimpArgs false

theorem zeroCells_ints (k : IntKind) (n : Nat) : Builtin.zeroCells (Value.int k 0).cells n = ints k (List.replicate n 0) := by
  apply Array.ext
  · simp [Builtin.zeroCells, Value.cells, ints]
  · intro i h1 h2
    simp [Builtin.zeroCells, Value.cells, ints, Nat.mod_one]
section
variable {P : Program} {w : World} {k kn : IntKind} {T : TypeId} {t tn ty : TypeId}
theorem run_room_Z {i : TypeInfo} (ht : P.underlying t = some (.slice T)) (htn : P.underlying tn = some (.int kn)) (hi : P.info? T = some i) (hz : i.zero = some (.int k 0)) (hs : i.size = 1) (hb : i.bytes ≤ 8)
    (g sLen sCap n : Nat) (cur : Array Value) (hg : w.heap[g]? = some (.cells cur T)) (hn9 : n ≤ 1000000000) (hroom : sLen + n ≤ sCap) (hfit : sLen + n ≤ cur.size) :
    (Builtin.append_ #[t, tn] ty #[.slice (some ⟨g, 0, none⟩) sLen sCap, .int .i64 n]).run P w =
      .ok (.slice (some ⟨g, 0, none⟩) (sLen + n) sCap) (w.setRow g (cur.toList.take sLen ++ (List.replicate n (0 : Int)).map (Value.int k) ++ cur.toList.drop (sLen + n)).toArray) := by
  have hw : IntKind.i64.wrap (n : Int) = n := by rw [IntKind.wrap_i64]; omega
  have hneg : ¬ ((n : Int) < 0) := by omega
  have h48i : ¬ (281474976710656 < (n : Int) * (i.bytes : Int)) := by
    have h1 : n * i.bytes ≤ 1000000000 * 8 := Nat.mul_le_mul hn9 hb
    rw [← Int.natCast_mul]; omega
  have hst := run_storeCells_at P g sLen T ((List.replicate n (0 : Int)).map (Value.int k)) 0 cur w hg (by simpa using hfit) (onesK k _)
  simp only [Nat.add_zero, List.length_map, List.length_replicate] at hst
  have hadd : ∀ j, (⟨g, 0, none⟩ : Addr).add j = ⟨g, j, none⟩ := fun j => by rw [WideShapes.add_plain, Nat.zero_add]
  rcases Nat.eq_zero_or_pos n with h0 | h0
  · subst h0
    have hw0 : IntKind.i64.wrap 0 = 0 := by decide
    have hroom' : sLen ≤ sCap := by omega
    simp [hw0, hroom', Builtin.append_, run_underlying ht, run_underlying htn, sizeOf, typeInfo, zeroValue, hi, hz, hs, asInt, asIntOf, hw, hneg, h48i, hroom, hadd]
    simp at hst
    rw [hst]
    simp
  · have hns : ¬ (n = 0) := by omega
    simp [Builtin.append_, run_underlying ht, run_underlying htn, sizeOf, typeInfo, zeroValue, hi, hz, hs, asInt, asIntOf, hw, hneg, h48i, hroom, hadd, hns, zeroCells_ints]
    have e : (ints k (List.replicate n 0)).toList = (List.replicate n (0 : Int)).map (Value.int k) := rfl
    simp only [e]
    rw [hst]
    simp
theorem run_grow_Z {i : TypeInfo} (ht : P.underlying t = some (.slice T)) (htn : P.underlying tn = some (.int kn)) (hi : P.info? T = some i) (hz : i.zero = some (.int k 0)) (hs : i.size = 1) (hb : i.bytes ≤ 8)
    (b : Addr) (sLen sCap n : Nat) (olds : List Value) (hlo : olds.length = sLen) (holds : ∀ j v, olds[j]? = some v → w.cell? (b.add j) = some v) (hn9 : sLen + n ≤ 1000000000) (hle : sLen ≤ sCap) (hg : sCap < sLen + n) :
    (Builtin.append_ #[t, tn] ty #[.slice (some b) sLen sCap, .int .i64 n]).run P w =
      .ok (.slice (some ⟨w.heap.size, 0, none⟩) (sLen + n) (grownCap w (sLen + n) sCap T))
        (w.drew.alloc (.cells (olds.toArray ++ ints k (List.replicate n 0) ++ ints k (List.replicate (grownCap w (sLen + n) sCap T - (sLen + n)) 0)) T)) := by
  have hw : IntKind.i64.wrap (n : Int) = n := by rw [IntKind.wrap_i64]; omega
  have hneg : ¬ ((n : Int) < 0) := by omega
  have h48i : ¬ (281474976710656 < (n : Int) * (i.bytes : Int)) := by
    have h1 : n * i.bytes ≤ 1000000000 * 8 := Nat.mul_le_mul (by omega) hb
    rw [← Int.natCast_mul]; omega
  have hn : ¬ (sLen + n ≤ sCap) := by omega
  have hns : ¬ (n = 0) := by omega
  have h63' : ¬ (9223372036854775807 < ((sLen : Int) + (n : Int))) := by omega
  have hfit : Builtin.nextslicecap (sLen + n) sCap * i.bytes ≤ 281474976710656 := growslice_fits (by omega) (by
    have : (sLen + n) * i.bytes ≤ 1000000000 * 8 := Nat.mul_le_mul hn9 hb
    omega)
  have h48' : ¬ (281474976710656 < Builtin.nextslicecap (sLen + n) sCap * i.bytes) := by omega
  have hfo := run_firstCells_some (P := P) w.drew 1 sLen b sLen sCap olds (by simpa using hlo) (by simpa using holds)
  simp [Builtin.append_, run_underlying ht, run_underlying htn, sizeOf, typeInfo, zeroValue, hi, hz, hs, asInt, asIntOf, hw, hneg, h48i, hn, hns, h63', h48', Question.forced, hfo, newRow, grownCap, zeroCells_ints]
end
theorem append_Z {P : Program} {k kn : IntKind} {T : TypeId} {b : Nat} {ρ : Operand → Value} {o : Oper} {W : World} (s x : Operand) (t tn : TypeId) (ho : o.op = .call { callee := .builtin .append, args := #[s, x], argTypes := #[t, tn] })
    (ht : P.underlying t = some (.slice T)) (htn : P.underlying tn = some (.int kn)) (hi : (P.info? T).map (fun i => (i.zero, i.size, i.bytes)) = some (some (.int k 0), 1, b)) (hb8 : b ≤ 8) {base g c n : Nat} {cur : Array Value} {xs : List Int} (hs : ρ s = .slice (some ⟨g, 0, none⟩) xs.length c) (hx : ρ x = .int .i64 (n : Int))
    (hbg : base ≤ g) (r : W.heap[g]? = some (.cells cur T)) (hc : cur.size = c) (hle : xs.length ≤ c) (hm : c ≤ maxLen) (htk : cur.toList.take xs.length = xs.map (Value.int k)) (hn : xs.length + n ≤ 1000000000) (hbase : base ≤ W.heap.size) :
    ∃ v' W', (execOp ρ o).run P W = .ok (.value v') W' ∧ OwnN k T base (xs ++ List.replicate n 0) v' W' ∧ W.grownBy W' (some g) := by
  obtain ⟨i, hq, hi1, hi2, hi3⟩ := infoK hi
  have hgo : ∀ (v' : Value) (W' : World), (Builtin.append_ #[t, tn] o.type #[.slice (some ⟨g, 0, none⟩) xs.length c, .int .i64 (n : Int)]).run P W = .ok v' W' → (execOp ρ o).run P W = .ok (.value v') W' := fun v' W' hr => by
    unfold execOp
    simp only [ho, resolve, invoke, builtin, Sem.run_bind, Sem.run_pure, Result.andThen_ok, List.map_toArray, List.map_cons, List.map_nil, hs, hx, hr]
  have hlen : (xs ++ List.replicate n (0 : Int)).length = xs.length + n := by simp
  by_cases hroom : xs.length + n ≤ c
  · refine ⟨_, _, hgo _ _ (run_room_Z ht htn hq hi1 hi2 (by omega) g xs.length c n cur r (by omega) hroom (by omega)), ?_, ⟨rfl, rfl, rfl, by simp, fun j _ hj => setRow_other W g j _ (fun e => hj (by rw [e]))⟩⟩
    refine ownN_at hlen hbg (setRow_heap W g cur _ T _ r) ?_ hroom hm ?_
    · simp only [List.size_toArray, List.length_append, List.length_take, List.length_drop, List.length_map, List.length_replicate, Array.length_toList]; omega
    · rw [htk, List.map_append]
      have e : xs.length + n = (xs.map (Value.int k) ++ (List.replicate n (0 : Int)).map (Value.int k)).length := by simp
      rw [e, List.take_left]
  · have holds : ∀ j u, (xs.map (Value.int k))[j]? = some u → W.cell? ((⟨g, 0, none⟩ : Addr).add j) = some u := fun j u hu => by
      have hj : j < xs.length := by
        rcases Nat.lt_or_ge j xs.length with hj | hj
        · exact hj
        · rw [List.getElem?_eq_none (by simpa using hj)] at hu; cases hu
      rw [WideShapes.add_plain, Nat.zero_add, row_cell r (nth_of_take htk hj), ← hu, List.getElem?_map, List.getElem?_eq_getElem hj]
      simp [nth, hj]
    refine ⟨_, _, hgo _ _ (run_grow_Z ht htn hq hi1 hi2 (by omega) ⟨g, 0, none⟩ xs.length c n (xs.map (Value.int k)) (by simp) holds hn hle (by omega)), ?_, ⟨rfl, rfl, rfl, by simp, fun j hj _ => heap_alloc_old W.drew _ hj⟩⟩
    have hge := grownCap_ge W (xs.length + n) c T
    have hcm : grownCap W (xs.length + n) c T ≤ maxLen := grownCap_le_maxLen W (xs.length + n) c T (by simp only [maxLen]; omega)
    refine ownN_at hlen hbase (heap_alloc_new W.drew _) ?_ hge hcm ?_
    · simp only [Array.size_append, List.size_toArray, ints_size, List.length_map, List.length_replicate]; omega
    · simp only [Array.toList_append, List.map_append]
      have e1 : ∀ l, (ints k l).toList = l.map (Value.int k) := fun _ => rfl
      rw [e1, e1]
      have e : xs.length + n = (xs.map (Value.int k) ++ (List.replicate n (0 : Int)).map (Value.int k)).length := by simp
      rw [e]
      exact List.take_left
end Go.Proofs.Ytfelfmchachljaa.Auto
