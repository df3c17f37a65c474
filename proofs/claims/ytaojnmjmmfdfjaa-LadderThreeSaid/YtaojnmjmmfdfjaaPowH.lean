/- The iterator over the bits of bytes, for a body that writes what lay ahead. -/
import Derived.Test.YtaojnmjmmfdfjaaPowB
namespace Go.Proofs.Ytaojnmjmmfdfjaa.Field
open Go Go.RowKit Go.Shelf
open Go.Proofs.Ytaojnmjmmfdfjaa.Rely
attribute [local go_sem] Oper.semAt_some
set_option linter.unusedVariables false

/-- one block lies as it lay -/
def Same (kb : Nat) (A B : World) : Prop := B.heap[kb]? = A.heap[kb]?
theorem Same.refl (kb : Nat) (A : World) : Same kb A A := rfl
theorem Same.trans' {kb : Nat} {A B C : World} (h : Same kb A B) (k : Same kb B C) : Same kb A C := Eq.trans k h
theorem same_book {kb : Nat} {w : World} (hk : kb < w.heap.size) (W : World) (l : Nat) (o o' : Obj) (hl : w.heap.size ≤ l) (h : W.heap[l]? = some o) (_ : o.isCells = false) (_ : o.isWalk = false) : Same kb W (W.putObj l o') :=
  World.putObj_heap_other (by omega)
set_option maxHeartbeats 2000000 in
theorem bits_stops_same (m : Nat) (hm : 1 ≤ m) (kb : Nat) (es : List Int) (hel : es.length = 32) (hb : AreBytes es) (w : World) (hkb : w.heap[kb]? = some (.cells (ints .u8 es) 23)) :
    SeqStopsK Fence.wide m Try.prog 59 #[.pointer (some ⟨kb, 0, none⟩)] (fun x : Int => #[Value.int .i64 x]) (Same kb) (fun ys => ys = bitsOf es) (fun pre => pre <+: bitsOf es) 256 w := fun l J Jx W hW hJ hJx hY h0 => by
  refine callsIn_of_wp Try.func59 rfl trivial ?_ rfl
  simp only [Try.ntmps59, List.size_toArray, List.length_cons, List.length_nil, Nat.reduceAdd, Nat.reduceSub, Array.replicate_succ, Array.replicate_zero, List.push_toArray, List.append_toArray, List.nil_append, List.cons_append]
  have hkW : W.heap[kb]? = some (.cells (ints .u8 es) 23) := (hW.block kb (row_lt hkb)).trans hkb
  gi_wp2
  gi_loopw [3] (fun i wr => ∃ k : Nat, k ≤ 256 ∧ i = .int .i64 ((k : Int) - 1) ∧ J ((bitsOf es).take (256 - k)) wr ∧ Same kb W wr) (fun i _ => (intOf i + 1).toNat)
  case atStart => exact ⟨256, by omega, rfl, by simpa using h0, Same.refl _ _⟩
  case round =>
    obtain ⟨k, hk256, rfl, hJs, hB⟩ := hrel
    rcases k with _ | j
    · gi_wp2
      go_end0
      exact ⟨⟨_, rfl⟩, .inl ⟨_, rfl, by rwa [List.take_of_length_le (by rw [bitsOf_len]; omega)] at hJs⟩⟩
    · have hj : j < 256 := by omega
      rw [show ((j + 1 : Nat) : Int) - 1 = (j : Int) by omega]
      have hkw : wr.heap[kb]? = some (.cells (ints .u8 es) 23) := hB.trans hkW
      have hX : (ints .u8 es)[j / 8]? = some (.int .u8 (nth es (j / 8))) := ints_get _ _ _ (by omega)
      have hcx := row_cell hkw hX
      obtain ⟨fn, tmps, assign, body, hy, hR⟩ := hY _ (bitAt es j) wr hJs (by rw [List.length_take, bitsOf_len]; omega)
      have hT := Lib.hid (bitsOf_take es j hj)
      have b1 := hb.nth (j / 8)
      rw [show bitAt es j = nth es (j / 8) / 2 ^ (j % 8) % 2 from rfl] at hy
      generalize bitAt es j = bt at *
      generalize nth es (j / 8) = v at *
      have q0 : (0 : Int) ≤ (j : Int) := by omega
      have q1 : (j : Int) / 8 < 32 := by omega
      have q2 : IntKind.i64.wrap ((j : Int) / 8) = (j : Int) / 8 := IntWalk.i64_in _ (by omega)
      have qm : (j : Int).tmod 8 = (j : Int) % 8 := Int.tmod_eq_emod_of_nonneg (by omega)
      have q3 : IntKind.i64.wrap ((j : Int) % 8) = (j : Int) % 8 := IntWalk.i64_in _ (by omega)
      have q4 : (0 : Int) ≤ (j : Int) / 8 := by omega
      have q5 : ((j : Int) / 8).toNat = j / 8 := by omega
      have q6 : ((j : Int) % 8).toNat = j % 8 := by omega
      have q7 : (0 : Int) ≤ (j : Int) % 8 := by omega
      have q8 : (j : Int) % 8 < 8 := by omega
      have hp : (1 : Int) ≤ 2 ^ (j % 8) := by
        have : (0 : Int) < 2 ^ (j % 8) := Int.pow_pos (by decide)
        omega
      have d1 : 0 ≤ v / 2 ^ (j % 8) := Int.ediv_nonneg b1.1 (by omega)
      have d2 : v / 2 ^ (j % 8) ≤ v := Int.ediv_le_self _ b1.1
      have w1 : IntKind.i64.wrap (v / 2 ^ (j % 8)) = v / 2 ^ (j % 8) := IntWalk.i64_in _ (by omega)
      have w2 := and_one (v / 2 ^ (j % 8)) (by omega)
      gi_wp2
      refine hR.mono ?_
      rintro e W3 (⟨rfl, hJ3, hk3⟩ | ⟨rfl, hJx3⟩)
      · gi_wp2
        go_roundw
        case rel => exact ⟨j, by omega, rfl, by rw [hT.out]; exact hJ3, hk3.trans hB⟩
        case measure => simp [intOf]
      · gi_wp2
        refine bodyPost_ret (results_none rfl _ _ _) rfl ?_
        exact ⟨⟨_, rfl⟩, .inr ⟨_, by rw [← hT.out]; exact List.take_prefix _ _, hJx3⟩⟩
end Go.Proofs.Ytaojnmjmmfdfjaa.Field
