/- Residues: the iterator over the bits of a slice. -/
import Derived.Test.YtaojnmjmmfdfjaaDoorPtKit
import Derived.Test.YtaojnmjmmfdfjaaDoorAutoS
import Derived.Test.YtaojnmjmmfdfjaaDoorPtOps
namespace Go.Proofs.YtaojnmjmmfdfjaaDoor.Field
open Go Go.RowKit Go.Shelf
open Go.Proofs.YtaojnmjmmfdfjaaDoor.Rely
attribute [local go_sem] Oper.semAt_some
set_option linter.unusedVariables false

def bitsS (bs : List Int) : List Bool := (List.range (8 * bs.length)).map fun j => bitB bs (8 * bs.length - 1 - j)
theorem bitsS_len (bs : List Int) : (bitsS bs).length = 8 * bs.length := by simp [bitsS]
theorem bitsS_take (bs : List Int) (j : Nat) (hj : j < 8 * bs.length) : (bitsS bs).take (8 * bs.length - j) = (bitsS bs).take (8 * bs.length - (j + 1)) ++ [bitB bs j] := by
  generalize hN : 8 * bs.length = N at hj
  have e : N - j = (N - (j + 1)) + 1 := by omega
  rw [e, List.take_add_one]
  congr 1
  have h : N - (j + 1) < N := by omega
  simp only [bitsS, hN, List.getElem?_map, List.getElem?_range h, Option.map_some, Option.toList_some]
  rw [show N - 1 - (N - (j + 1)) = j by omega]
/-- what lay ahead lies as it lay, and one block -/
def SameB (B g : Nat) (W W' : World) : Prop := W'.heap[g]? = W.heap[g]? ∧ ∀ k, k < B → W'.heap[k]? = W.heap[k]?
theorem SameB.refl (B g : Nat) (W : World) : SameB B g W W := ⟨rfl, fun _ _ => rfl⟩
theorem SameB.trans {B g : Nat} {a b c : World} (h : SameB B g a b) (k : SameB B g b c) : SameB B g a c := ⟨k.1.trans h.1, fun i hi => (k.2 i hi).trans (h.2 i hi)⟩
theorem sameB_book {B g : Nat} {w : World} (hg : g < w.heap.size) (hB : B ≤ w.heap.size) (W : World) (l : Nat) (o o' : Obj) (hl : w.heap.size ≤ l) (h : W.heap[l]? = some o) (_ : o.isCells = false) (_ : o.isWalk = false) : SameB B g W (W.putObj l o') :=
  ⟨World.putObj_heap_other (fun e => by omega), fun k hk => World.putObj_heap_other (fun e => by omega)⟩
theorem cell_same {B : Nat} {W W' : World} {b off : Nat} (h : ∀ k, k < B → W'.heap[k]? = W.heap[k]?) (hb : b < B) : W'.cell? ⟨b, off, none⟩ = W.cell? ⟨b, off, none⟩ := by
  unfold World.cell?
  simp only [h b hb]
set_option maxHeartbeats 2000000 in
theorem bits_stops_s (m : Nat) (hm : 1 ≤ m) (B g1 : Nat) (A : Option Addr) (n c : Nat) (bs : List Int) (hbl : bs.length = n) (hn : n ≤ 1000) (hb : AreBytes bs) (w : World)
    (hg : w.heap[g1]? = some (.cells #[.slice A n c] 52)) (hB : B ≤ w.heap.size)
    (hc : n = 0 ∨ ∃ sb so, A = some ⟨sb, so, none⟩ ∧ sb < B ∧ ∀ i, i < n → w.cell? ⟨sb, so + i, none⟩ = some (.int .u8 (nth bs i))) :
    SeqStopsK Fence.wide m Tryd.prog 76 #[.pointer (some ⟨g1, 0, none⟩)] (fun x : Bool => #[encB x]) (SameB B g1) (fun ys => ys = bitsS bs) (fun pre => pre <+: bitsS bs) (8 * n) w := fun l J Jx W hW hJ hJx hY h0 => by
  refine callsIn_of_wp Tryd.func76 rfl trivial ?_ rfl
  simp only [Tryd.ntmps76, List.size_toArray, List.length_cons, List.length_nil, Nat.reduceAdd, Nat.reduceSub, Array.replicate_succ, Array.replicate_zero, List.push_toArray, List.append_toArray, List.nil_append, List.cons_append]
  have hgW : W.heap[g1]? = some (.cells #[.slice A n c] 52) := (hW.block g1 (row_lt hg)).trans hg
  have hcW : n = 0 ∨ ∃ sb so, A = some ⟨sb, so, none⟩ ∧ sb < B ∧ ∀ i, i < n → W.cell? ⟨sb, so + i, none⟩ = some (.int .u8 (nth bs i)) := by
    refine hc.imp id ?_
    rintro ⟨sb, so, h1, h2, h3⟩
    exact ⟨sb, so, h1, h2, fun i hi => (hW.cell (by show sb < _; omega)).trans (h3 i hi)⟩
  have hc1 : W.cell? ⟨g1, 0, none⟩ = some (.slice A n c) := row_cell hgW rfl
  have qa : IntKind.i64.wrap (8 * (n : Int)) = 8 * (n : Int) := IntWalk.i64_in _ (by omega)
  have qb : IntKind.i64.wrap (8 * (n : Int) - 1) = 8 * (n : Int) - 1 := IntWalk.i64_in _ (by omega)
  have HC := Lib.hid hcW
  have HG := Lib.hid hgW
  have HL := Lib.hid hbl
  clear hcW hgW hc hg hbl
  gi_wp2
  gi_loopw [3] (fun i wr => ∃ k : Nat, k ≤ 8 * n ∧ i = .int .i64 ((k : Int) - 1) ∧ J ((bitsS bs).take (8 * n - k)) wr ∧ SameB B g1 W wr) (fun i _ => (intOf i + 1).toNat)
  case atStart => exact ⟨8 * n, by omega, by congr 1 <;> omega, by simpa using h0, SameB.refl _ _ _⟩
  case round =>
    obtain ⟨k, hkn, rfl, hJs, hS⟩ := hrel
    rcases k with _ | j
    · gi_wp2
      go_end0
      exact ⟨⟨_, rfl⟩, .inl ⟨_, rfl, by rwa [List.take_of_length_le (by rw [bitsS_len, HL.out]; omega)] at hJs⟩⟩
    · have hj : j < 8 * n := by omega
      obtain ⟨sb, so, rfl, hsb, hcell⟩ := HC.out.resolve_left (by omega)
      rw [show ((j + 1 : Nat) : Int) - 1 = (j : Int) by omega]
      have hc2 : wr.cell? ⟨g1, 0, none⟩ = some (.slice (some ⟨sb, so, none⟩) n c) := row_cell (hS.1.trans HG.out) rfl
      have hcx : wr.cell? ⟨sb, so + j / 8, none⟩ = some (.int .u8 (nth bs (j / 8))) := (cell_same hS.2 hsb).trans (hcell (j / 8) (by omega))
      have hlen : (bitsS bs).length = 8 * n := by rw [bitsS_len, HL.out]
      obtain ⟨fn, tmps, assign, body, hy, hR⟩ := hY _ (bitB bs j) wr hJs (by rw [List.length_take]; omega)
      have hT0 := bitsS_take bs j (by rw [HL.out]; exact hj)
      rw [HL.out] at hT0
      have hT := Lib.hid hT0
      have b1 := hb.nth (j / 8)
      rw [encB_bit, show bitAt bs j = nth bs (j / 8) / 2 ^ (j % 8) % 2 from rfl] at hy
      clear hT0 hlen hcell
      generalize bitB bs j = bt at *
      generalize nth bs (j / 8) = v at *
      have q0 : (0 : Int) ≤ (j : Int) := by omega
      have q1 : (j : Int) / 8 < (n : Int) := by omega
      have q2 : IntKind.i64.wrap ((j : Int) / 8) = (j : Int) / 8 := IntWalk.i64_in _ (by omega)
      have qm : (j : Int).tmod 8 = (j : Int) % 8 := Int.tmod_eq_emod_of_nonneg (by omega)
      have q3 : IntKind.i64.wrap ((j : Int) % 8) = (j : Int) % 8 := IntWalk.i64_in _ (by omega)
      have q4 : (0 : Int) ≤ (j : Int) / 8 := by omega
      have q5 : ((j : Int) / 8).toNat = j / 8 := by omega
      have q6 : ((j : Int) % 8).toNat = j % 8 := by omega
      have q7 : (0 : Int) ≤ (j : Int) % 8 := by omega
      have q8 : (j : Int) % 8 < 8 := by omega
      have hp : (1 : Int) ≤ 2 ^ (j % 8) := by
        have : (0 : Int) < 2 ^ (j % 8) := Int.pow_pos (by decide)
        omega
      have d1 : 0 ≤ v / 2 ^ (j % 8) := Int.ediv_nonneg b1.1 (by omega)
      have d2 : v / 2 ^ (j % 8) ≤ v := Int.ediv_le_self _ b1.1
      have w1 : IntKind.i64.wrap (v / 2 ^ (j % 8)) = v / 2 ^ (j % 8) := IntWalk.i64_in _ (by omega)
      have w2 := and_one (v / 2 ^ (j % 8)) (by omega)
      have hadd : (⟨sb, so, none⟩ : Addr).add (j / 8) = ⟨sb, so + j / 8, none⟩ := by unfold Addr.add; split <;> simp_all
      gi_wp2
      refine hR.mono ?_
      rintro e W3 (⟨rfl, hJ3, hk3⟩ | ⟨rfl, hJx3⟩)
      · gi_wp2
        go_roundw
        case rel => exact ⟨j, by omega, rfl, by rw [hT.out]; exact hJ3, SameB.trans hS hk3⟩
        case measure => simp [intOf]
      · gi_wp2
        refine bodyPost_ret (results_none rfl _ _ _) rfl ?_
        exact ⟨⟨_, rfl⟩, .inr ⟨_, by rw [← hT.out]; exact List.take_prefix _ _, hJx3⟩⟩
end Go.Proofs.YtaojnmjmmfdfjaaDoor.Field
