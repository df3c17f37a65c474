/- Windows: which numbers were accepted. -/
import Derived.Test.YtfkldohjeepbkaaLkPC
import Derived.Maps.AppendAt
namespace Go.Proofs.Ytfkldohjeepbkaa.Lk
open Go Go.RowKit
open Go.Proofs.Ytfkldohjeepbkaa.Rely Go.Proofs.Ytfkldohjeepbkaa.Auto
set_option linter.unusedVariables false

def hiT (ts : List Int) : Int := ts.foldl (fun a x => if x > a then x else a) (-1)
theorem hiT_snoc (ts : List Int) (m : Int) : hiT (ts ++ [m]) = if m > hiT ts then m else hiT ts := by unfold hiT; rw [List.foldl_append]; rfl
theorem hi_ind (ts : List Int) : ∀ m ∈ ts, m ≤ hiT ts := by
  suffices h : ∀ (r : List Int), (∀ m ∈ r.reverse, m ≤ hiT r.reverse) by have := h ts.reverse; rwa [List.reverse_reverse] at this
  intro r
  induction r with
  | nil => intro m h; cases h
  | cons x r ih =>
    intro m h
    rw [List.reverse_cons] at h ⊢
    rw [hiT_snoc]
    rcases List.mem_append.1 h with h | h
    · have := ih m h; split <;> omega
    · have : m = x := by simpa using h
      subst this; split <;> omega
theorem hi_mem (ts : List Int) : hiT ts = -1 ∨ hiT ts ∈ ts := by
  suffices h : ∀ (r : List Int), (hiT r.reverse = -1 ∨ hiT r.reverse ∈ r.reverse) by have := h ts.reverse; rwa [List.reverse_reverse] at this
  intro r
  induction r with
  | nil => exact .inl rfl
  | cons x r ih =>
    rw [List.reverse_cons, hiT_snoc]
    split
    · exact .inr (by simp)
    · rcases ih with h | h
      · exact .inl h
      · exact .inr (List.mem_append_left _ h)
def chkT (ts : List Int) (n : Int) : Int := if n < 0 ∨ 4294967294 < n then 8 else if n < hiT ts - 64 then 11 else if n ∈ ts then 7 else 0
structure WInv (nx : Int) (B : Nat) (ts : List Int) : Prop where
  hnx : 0 ≤ nx ∧ nx ≤ 4294967295
  hB : B < 18446744073709551616
  hhi : hiT ts = nx - 1
  hrng : ∀ m ∈ ts, 0 ≤ m ∧ m < 4294967295
  hbits : ∀ k : Nat, k < 64 → 0 ≤ nx - 2 - k → (B.testBit k = true ↔ (nx - 2 - k) ∈ ts)
theorem inv_start : WInv 0 0 [] := ⟨by omega, by decide, rfl, (fun m h => by cases h), (fun k hk h => by omega)⟩
theorem bit_eq (B k : Nat) : B / 2 ^ k % 2 = 1 ↔ B.testBit k = true := by rw [Nat.testBit_eq_decide_div_mod_eq]; simp
theorem chk_same {nx : Int} {B : Nat} {ts : List Int} (h : WInv nx B ts) (n : Int) : chkW nx B n = chkT ts n := by
  have hh := h.hhi
  unfold chkW chkT
  by_cases h1 : n < 0 ∨ 4294967295 ≤ n
  · rw [if_pos h1, if_pos (by omega)]
  · rw [if_neg h1, if_neg (show ¬ (n < 0 ∨ 4294967294 < n) by omega), hh]
    by_cases h2 : 64 < nx - 1 - n
    · rw [if_pos h2, if_pos (by omega)]
    · rw [if_neg h2, if_neg (show ¬ n < nx - 1 - 64 by omega)]
      by_cases h3 : n ∈ ts
      · have hle := hi_ind ts n h3
        rw [if_pos h3, if_pos ?_]
        by_cases h4 : nx - 1 - n = 0
        · exact .inl h4
        · refine .inr ⟨by omega, ?_⟩
          obtain ⟨j, hj⟩ := Int.eq_ofNat_of_zero_le (show 0 ≤ nx - 1 - n - 1 by omega)
          rw [hj, Int.toNat_natCast, bit_eq, h.hbits j (by omega) (by omega), show nx - 2 - (j : Int) = n by omega]
          exact h3
      · rw [if_neg h3, if_neg ?_]
        rintro (h4 | ⟨h4, h5⟩)
        · rcases hi_mem ts with h6 | h6
          · omega
          · exact h3 (by rw [show n = hiT ts by omega]; exact h6)
        · obtain ⟨j, hj⟩ := Int.eq_ofNat_of_zero_le (show 0 ≤ nx - 1 - n - 1 by omega)
          rw [hj, Int.toNat_natCast, bit_eq, h.hbits j (by omega) (by omega), show nx - 2 - (j : Int) = n by omega] at h5
          exact h3 h5
theorem chk_zero {ts : List Int} {n : Int} (h : chkT ts n = 0) : 0 ≤ n ∧ n < 4294967295 ∧ hiT ts - 64 ≤ n ∧ n ∉ ts := by
  unfold chkT at h
  split at h
  · omega
  · split at h
    · omega
    · split at h
      · omega
      · exact ⟨by omega, by omega, by omega, by assumption⟩
theorem or_lt (a b : Nat) (ha : a < 18446744073709551616) (hb : b < 18446744073709551616) : a ||| b < 18446744073709551616 := Nat.or_lt_two_pow (n := 64) ha hb
theorem inv_F {nx : Int} {B : Nat} {ts : List Int} (h : WInv nx B ts) {n : Int} (hc : chkT ts n = 0) (j : Nat) (hj : nx - 1 - n - 1 = (j : Int)) (hj2 : j < 64) : WInv nx (B ||| 2 ^ j) (ts ++ [n]) := by
  obtain ⟨h0, h1, h2, h3⟩ := chk_zero hc
  have hh := h.hhi
  refine ⟨h.hnx, or_lt _ _ h.hB (pow_lt j hj2), by rw [hiT_snoc, if_neg (by omega)]; exact hh, fun m hm => ?_, fun k hk hp => ?_⟩
  · rcases List.mem_append.1 hm with hm | hm
    · exact h.hrng m hm
    · have : m = n := by simpa using hm
      omega
  · rw [Nat.testBit_or, Nat.testBit_two_pow, Bool.or_eq_true, h.hbits k hk hp, List.mem_append]
    constructor
    · rintro (e | e)
      · exact .inl e
      · have : j = k := by simpa using e
        exact .inr (by simp; omega)
    · rintro (e | e)
      · exact .inl e
      · have : nx - 2 - (k : Int) = n := by simpa using e
        exact .inr (by simp; omega)
theorem inv_G {nx : Int} {B : Nat} {ts : List Int} (h : WInv nx B ts) {n : Int} (hc : chkT ts n = 0) (a : Nat) (ha : n - (nx - 1) = (a : Int)) (ha1 : 1 ≤ a) :
    WInv (n + 1) (B * 2 ^ a % 18446744073709551616 ||| 1 * 2 ^ (a - 1) % 18446744073709551616) (ts ++ [n]) := by
  obtain ⟨h0, h1, h2, h3⟩ := chk_zero hc
  have hh := h.hhi
  have hn := h.hnx
  refine ⟨by omega, or_lt _ _ (Nat.mod_lt _ (by decide)) (Nat.mod_lt _ (by decide)), by rw [hiT_snoc, if_pos (by omega)]; omega, fun m hm => ?_, fun k hk hp => ?_⟩
  · rcases List.mem_append.1 hm with hm | hm
    · exact h.hrng m hm
    · have : m = n := by simpa using hm
      omega
  · have e64 : (18446744073709551616 : Nat) = 2 ^ 64 := by decide
    rw [Nat.testBit_or, e64, Nat.testBit_mod_two_pow, Nat.testBit_mod_two_pow, Nat.one_mul, Nat.testBit_two_pow, Nat.mul_comm B, Nat.testBit_two_pow_mul, List.mem_append]
    simp only [hk, decide_true, Bool.true_and, Bool.or_eq_true, Bool.and_eq_true, decide_eq_true_eq, List.mem_singleton, ge_iff_le]
    have hne : ¬ (n + 1 - 2 - (k : Int) = n) := by omega
    constructor
    · rintro (⟨e1, e2⟩ | e)
      · left
        rw [h.hbits (k - a) (by omega) (by omega)] at e2
        rwa [show n + 1 - 2 - (k : Int) = nx - 2 - ((k - a : Nat) : Int) by omega]
      · left
        have : n + 1 - 2 - (k : Int) = hiT ts := by omega
        rw [this]
        exact (hi_mem ts).resolve_left (by omega)
    · rintro (e | e)
      · have hle := hi_ind ts _ e
        by_cases hk2 : a ≤ k
        · left
          refine ⟨hk2, ?_⟩
          rw [h.hbits (k - a) (by omega) (by omega)]
          rwa [show nx - 2 - ((k - a : Nat) : Int) = n + 1 - 2 - (k : Int) by omega]
        · right; omega
      · exact absurd e hne
theorem MarkZ {g : Nat} {nx : Int} {B : Nat} {ts : List Int} (h : WInv nx B ts) {n : Int} (hc : chkT ts n = 0) : ∃ (nx2 : Int) (B2 : Nat), WInv nx2 B2 (ts ++ [n]) ∧
    ∀ (w : World), w.heap[g]? = some (.cells (cat [#[.int .i64 nx], #[.int .u64 ((B : Nat) : Int)]]) 35) → Calls Try.prog 13 #[.pointer (some ⟨g, 0, none⟩), .int .i64 n] w fun e w' => e = .returned .nilIface ∧ ExtB g w w' ∧ w'.heap[g]? = some (.cells (cat [#[.int .i64 nx2], #[.int .u64 ((B2 : Nat) : Int)]]) 35) := by
  obtain ⟨h0, h1, h2, h3⟩ := chk_zero hc
  have hh := h.hhi
  have hcw : chkW nx B n = 0 := (chk_same h n).trans hc
  have hne : n ≠ nx - 1 := fun e => by
    rcases hi_mem ts with h6 | h6
    · omega
    · exact h3 (by rw [show n = hiT ts by omega]; exact h6)
  by_cases hl : n < nx - 1
  · obtain ⟨j, hj⟩ := Int.eq_ofNat_of_zero_le (show 0 ≤ nx - 1 - n - 1 by omega)
    exact ⟨nx, _, inv_F h hc j hj (by omega), fun w hg => MarkF g nx B n h.hnx h.hB w hg hcw j hj (by omega)⟩
  · obtain ⟨a, ha⟩ := Int.eq_ofNat_of_zero_le (show 0 ≤ n - (nx - 1) by omega)
    exact ⟨n + 1, _, inv_G h hc a ha (by omega), fun w hg => MarkG g nx B n h.hnx h.hB w hg hcw ⟨h0, h1⟩ a ha (by omega)⟩
theorem ne_types {W : World} {a b : Nat} {ca cb : Array Value} {ta tb : TypeId} (h : W.heap[a]? = some (.cells ca ta)) (k : W.heap[b]? = some (.cells cb tb)) (hne : ta ≠ tb) : a ≠ b := fun e => by
  subst e
  rw [h] at k
  injection k with k
  injection k with _ k2
  exact hne k2
theorem ExtB.of_grown {W W' : World} {g : Nat} (h : W.grownBy W' (some g)) : ExtB g W W' := ⟨h.os, h.tape, h.output, h.size, fun k hk hn => h.block k hk (fun e => hn (Option.some.inj e))⟩
theorem cells_take {W : World} {gt : Nat} {cur : Array Value} {t : TypeId} {ts : List Int} (r : W.heap[gt]? = some (.cells cur t)) (ht : cur.toList.take ts.length = ts.map (Value.int .i64)) : ∀ i, i < ts.length → W.cell? ⟨gt, 0 + i, none⟩ = some (.int .i64 (nth ts i)) := fun i hi => by
  rw [Nat.zero_add]
  refine row_cell r ?_
  have e : (cur.toList.take ts.length)[i]? = (ts.map (Value.int .i64))[i]? := by rw [ht]
  rw [List.getElem?_take_of_lt hi, List.getElem?_map, List.getElem?_eq_getElem hi] at e
  rw [← Array.getElem?_toList, e]
  simp [nth, hi]
theorem append_one {ρ : Operand → Value} {o : Oper} {W : World} (s x : Operand) (t : TypeId) (ho : o.op = .call { callee := .builtin .append, args := #[s, x], argTypes := #[t, t] })
    (ht : Try.prog.underlying t = some (.slice 3)) (base gt cap gs : Nat) (cur : Array Value) (ts : List Int) (m : Int) (hs : ρ s = .slice (some ⟨gt, 0, none⟩) ts.length cap) (hx : ρ x = .slice (some ⟨gs, 0, none⟩) 1 1)
    (hb : base ≤ gt) (r : W.heap[gt]? = some (.cells cur 3)) (hcap : cur.size = cap) (hle : ts.length ≤ cap) (hmax : cap ≤ maxLen) (htake : cur.toList.take ts.length = ts.map (Value.int .i64)) (hn : ts.length ≤ 1000)
    (rs : W.heap[gs]? = some (.cells (ints .i64 [m]) 3)) (hbase : base ≤ W.heap.size) :
    ∃ gt' cap' cur' W', (execOp ρ o).run Try.prog W = .ok (.value (.slice (some ⟨gt', 0, none⟩) (ts ++ [m]).length cap')) W' ∧ base ≤ gt' ∧ W'.heap[gt']? = some (.cells cur' 3) ∧ cur'.size = cap' ∧ (ts ++ [m]).length ≤ cap' ∧ cap' ≤ maxLen ∧
      cur'.toList.take (ts ++ [m]).length = (ts ++ [m]).map (Value.int .i64) ∧ ExtB gt W W' := by
  have hown : W.ownsRow base 3 1 (.slice (some ⟨gt, 0, none⟩) ts.length cap) ts.length (ts.map (Value.int .i64)) :=
    ⟨by simp, .inr ⟨gt, cap, cur, rfl, hb, r, hle, hmax, by omega, by rw [Nat.mul_one]; exact htake⟩⟩
  have hi : (Try.prog.info? 3).map (fun i => (i.zero, i.size, i.bytes)) = some (some (.int .i64 0), 1, 8) := by kernel_rfl
  cases hq : Try.prog.info? 3 with
  | none => rw [hq] at hi; cases hi
  | some i =>
    rw [hq] at hi
    simp only [Option.map_some, Option.some.injEq, Prod.mk.injEq] at hi
    obtain ⟨v', W', hr, h2, h3, _, _⟩ := run_append_own_at (P := Try.prog) W base t o.type 3 i (.int .i64 0) 1 8 ht hq hi.1 hi.2.1 hi.2.2 rfl (by omega) _ ts.length (ts.map (Value.int .i64)) hown ⟨gs, 0, none⟩ 1 1 [.int .i64 m] rfl
      (fun j u hu => by
        have hadd : (⟨gs, 0, none⟩ : Addr).add j = ⟨gs, j, none⟩ := by unfold Addr.add; split <;> simp_all
        rw [hadd, row_cell rs (v := u) ?_]
        rw [← hu]; simp [ints])
      (fun u hu => by have : u = .int .i64 m := by simpa using hu
                      subst this; rfl) (by simp only [maxLen]; omega) (by omega) hbase
    rcases h2.2 with ⟨_, h0⟩ | ⟨gt', cap', cur', hv, hb', hg', hle', hmax', hsz', htk'⟩
    · omega
    · subst hv
      refine ⟨gt', cap', cur', W', ?_, hb', hg', by omega, by simpa using hle', hmax', by simpa using htk', ExtB.of_grown h3⟩
      unfold execOp
      simp only [ho, resolve, invoke, builtin, Sem.run_bind, Sem.run_pure, Result.andThen_ok, List.map_toArray, List.map_cons, List.map_nil, hs, hx, hr]
      simp
end Go.Proofs.Ytfkldohjeepbkaa.Lk
