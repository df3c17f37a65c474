/- Powers by bits, and the iterator over the bits of bytes. -/
import Derived.Test.YtaojnmjmmfdfjaaLawKit
import Derived.Test.YtaojnmjmmfdfjaaRangeKit
namespace Go.Proofs.Ytaojnmjmmfdfjaa.Field
open Go Go.RowKit Go.Shelf
open Go.Proofs.Ytaojnmjmmfdfjaa.Rely
attribute [local go_sem] Oper.semAt_some
set_option linter.unusedVariables false

/-- bit i of bytes; the 256 bits, from the highest on -/
def bitAt (es : List Int) (i : Nat) : Int := nth es (i / 8) / 2 ^ (i % 8) % 2
def bitsOf (es : List Int) : List Int := (List.range 256).map fun j => bitAt es (255 - j)
theorem bitsOf_len (es : List Int) : (bitsOf es).length = 256 := by simp [bitsOf]
theorem bitsOf_take (es : List Int) (j : Nat) (hj : j < 256) : (bitsOf es).take (256 - j) = (bitsOf es).take (256 - (j + 1)) ++ [bitAt es j] := by
  have e : 256 - j = (256 - (j + 1)) + 1 := by omega
  rw [e, List.take_add_one]
  congr 1
  have h : 256 - (j + 1) < 256 := by omega
  simp only [bitsOf, List.getElem?_map, List.getElem?_range h, Option.map_some, Option.toList_some]
  rw [show 255 - (256 - (j + 1)) = j by omega]
theorem bitAt_range (es : List Int) (i : Nat) : 0 ≤ bitAt es i ∧ bitAt es i < 2 := by unfold bitAt; omega
/-- powers by bits -/
def pwStep (a o b : Int) : Int := if b = 0 then o * o % p else o * o % p * a % p
def pwBits (a : Int) (bs : List Int) : Int := bs.foldl (pwStep a) 1
theorem pwBits_snoc (a : Int) (bs : List Int) (b : Int) : pwBits a (bs ++ [b]) = pwStep a (pwBits a bs) b := by simp [pwBits]
theorem pwStep_isN (a o b : Int) : isN (pwStep a o b) := by
  unfold pwStep
  split <;> exact isN_mod _
theorem one_isN : isN 1 := by unfold isN p; decide
theorem pwBits_isN (a : Int) : ∀ bs : List Int, isN (pwBits a bs) := fun bs => by
  rcases List.eq_nil_or_concat bs with h | ⟨l, b, h⟩
  · subst h; exact one_isN
  · subst h; rw [List.concat_eq_append, pwBits_snoc]; exact pwStep_isN _ _ _
/-- what bits count to -/
def cnt (bs : List Int) : Nat := bs.foldl (fun n b => 2 * n + (if b = 0 then 0 else 1)) 0
theorem cnt_snoc (bs : List Int) (b : Int) : cnt (bs ++ [b]) = 2 * cnt bs + (if b = 0 then 0 else 1) := by simp [cnt]
theorem pw_pow (a : Int) : ∀ bs : List Int, pwBits a bs = a ^ cnt bs % p := fun bs => by
  have key : ∀ r : List Int, pwBits a r.reverse = a ^ cnt r.reverse % p := by
    intro r
    induction r with
    | nil =>
      show (1 : Int) = a ^ 0 % p
      rw [Int.pow_zero]
      decide
    | cons b r ih =>
      rw [List.reverse_cons, pwBits_snoc, cnt_snoc, ih]
      unfold pwStep
      have sq : a ^ cnt r.reverse % p * (a ^ cnt r.reverse % p) % p = a ^ (2 * cnt r.reverse) % p := by
        rw [← Int.mul_emod, ← Int.pow_add, Nat.two_mul]
      by_cases hb : b = 0
      · rw [if_pos hb, if_pos hb, sq, Nat.add_zero]
      · rw [if_neg hb, if_neg hb, sq, Int.pow_succ]
        generalize a ^ (2 * cnt r.reverse) = c
        rw [Int.mul_emod (c % p), Int.emod_emod, ← Int.mul_emod]
  have := key bs.reverse
  rwa [List.reverse_reverse] at this

theorem and_one (v : Int) (h : 0 ≤ v ∧ v ≤ 255) : bits .and .i64 v 1 = v % 2 := by
  obtain ⟨n, rfl⟩ := Int.eq_ofNat_of_zero_le h.1
  have key : ∀ n : Nat, n < 256 → bits .and .i64 (n : Int) 1 = (n : Int) % 2 := by decide +kernel
  exact key n (by omega)

set_option maxHeartbeats 2000000 in
theorem bits_stops (m : Nat) (hm : 1 ≤ m) (kb n₀ : Nat) (es : List Int) (hel : es.length = 32) (hb : AreBytes es) (w : World) (hkb : w.heap[kb]? = some (.cells (ints .u8 es) 23)) (hk : kb < n₀) (hn₀ : n₀ ≤ w.heap.size) :
    SeqStopsK Fence.wide m Try.prog 59 #[.pointer (some ⟨kb, 0, none⟩)] (fun x : Int => #[Value.int .i64 x]) (Below n₀) (fun ys => ys = bitsOf es) (fun pre => pre <+: bitsOf es) 256 w := fun l J Jx W hW hJ hJx hY h0 => by
  refine callsIn_of_wp Try.func59 rfl trivial ?_ rfl
  simp only [Try.ntmps59, List.size_toArray, List.length_cons, List.length_nil, Nat.reduceAdd, Nat.reduceSub, Array.replicate_succ, Array.replicate_zero, List.push_toArray, List.append_toArray, List.nil_append, List.cons_append]
  have hkW : W.heap[kb]? = some (.cells (ints .u8 es) 23) := (hW.block kb (row_lt hkb)).trans hkb
  gi_wp2
  gi_loopw [3] (fun i wr => ∃ k : Nat, k ≤ 256 ∧ i = .int .i64 ((k : Int) - 1) ∧ J ((bitsOf es).take (256 - k)) wr ∧ Below n₀ W wr) (fun i _ => (intOf i + 1).toNat)
  case atStart => exact ⟨256, by omega, rfl, by simpa using h0, Below.refl _ _⟩
  case round =>
    obtain ⟨k, hk256, rfl, hJs, hB⟩ := hrel
    rcases k with _ | j
    · gi_wp2
      go_end0
      exact ⟨⟨_, rfl⟩, .inl ⟨_, rfl, by rwa [List.take_of_length_le (by rw [bitsOf_len]; omega)] at hJs⟩⟩
    · have hj : j < 256 := by omega
      rw [show ((j + 1 : Nat) : Int) - 1 = (j : Int) by omega]
      have hkw : wr.heap[kb]? = some (.cells (ints .u8 es) 23) := (hB.block kb hk).trans hkW
      have hX : (ints .u8 es)[j / 8]? = some (.int .u8 (nth es (j / 8))) := ints_get _ _ _ (by omega)
      have hcx := row_cell hkw hX
      obtain ⟨fn, tmps, assign, body, hy, hR⟩ := hY _ (bitAt es j) wr hJs (by rw [List.length_take, bitsOf_len]; omega)
      have hT := Lib.hid (bitsOf_take es j hj)
      have b1 := hb.nth (j / 8)
      rw [show bitAt es j = nth es (j / 8) / 2 ^ (j % 8) % 2 from rfl] at hy
      generalize bitAt es j = bt at *
      generalize nth es (j / 8) = v at *
      have q0 : (0 : Int) ≤ (j : Int) := by omega
      have q1 : (j : Int) / 8 < 32 := by omega
      have q2 : IntKind.i64.wrap ((j : Int) / 8) = (j : Int) / 8 := IntWalk.i64_in _ (by omega)
      have qm : (j : Int).tmod 8 = (j : Int) % 8 := Int.tmod_eq_emod_of_nonneg (by omega)
      have q3 : IntKind.i64.wrap ((j : Int) % 8) = (j : Int) % 8 := IntWalk.i64_in _ (by omega)
      have q4 : (0 : Int) ≤ (j : Int) / 8 := by omega
      have q5 : ((j : Int) / 8).toNat = j / 8 := by omega
      have q6 : ((j : Int) % 8).toNat = j % 8 := by omega
      have q7 : (0 : Int) ≤ (j : Int) % 8 := by omega
      have q8 : (j : Int) % 8 < 8 := by omega
      have hp : (1 : Int) ≤ 2 ^ (j % 8) := by
        have : (0 : Int) < 2 ^ (j % 8) := Int.pow_pos (by decide)
        omega
      have d1 : 0 ≤ v / 2 ^ (j % 8) := Int.ediv_nonneg b1.1 (by omega)
      have d2 : v / 2 ^ (j % 8) ≤ v := Int.ediv_le_self _ b1.1
      have w1 : IntKind.i64.wrap (v / 2 ^ (j % 8)) = v / 2 ^ (j % 8) := IntWalk.i64_in _ (by omega)
      have w2 := and_one (v / 2 ^ (j % 8)) (by omega)
      gi_wp2
      refine hR.mono ?_
      rintro e W3 (⟨rfl, hJ3, hk3⟩ | ⟨rfl, hJx3⟩)
      · gi_wp2
        go_roundw
        case rel => exact ⟨j, by omega, rfl, by rw [hT.out]; exact hJ3, hB.trans hk3⟩
        case measure => simp [intOf]
      · gi_wp2
        refine bodyPost_ret (results_none rfl _ _ _) rfl ?_
        exact ⟨⟨_, rfl⟩, .inr ⟨_, by rw [← hT.out]; exact List.take_prefix _ _, hJx3⟩⟩
end Go.Proofs.Ytaojnmjmmfdfjaa.Field
