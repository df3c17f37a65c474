/- Texts of this claim, joined (K3). -/
import Derived.Test.YtibegnjaphohaaaDoorZK2
import Derived.Test.YtibegnjaphohaaaDoorRows
import Derived.Lib.TrailingZeros
import Derived.Laws.Bits64b

section
namespace Go.Proofs.YtibegnjaphohaaaDoor.Cn
open Go Go.RowKit
open Rely Auto Own Sha
set_option linter.unusedVariables false
set_option linter.unusedSimpArgs false
def hiT (ts : List Int) : Int := ts.foldl (fun a x => if x > a then x else a) (-1)
theorem QdH (ts : List Int) (m : Int) : hiT (ts ++ [m]) = if m > hiT ts then m else hiT ts := by unfold hiT; rw [List.foldl_append]; rfl
theorem QhQ (ts : List Int) : ∀ m ∈ ts, m ≤ hiT ts := by
  suffices h : ∀ (r : List Int), (∀ m ∈ r.reverse, m ≤ hiT r.reverse) by have := h ts.reverse; rwa [List.reverse_reverse] at this
  intro r
  induction r with
  | nil => intro m h; cases h
  | cons x r ih =>
    intro m h
    rw [List.reverse_cons] at h ⊢
    rw [QdH]
    rcases List.mem_append.1 h with h | h
    · have := ih m h; split <;> omega
    · have : m = x := by simpa using h
      subst this; split <;> omega
theorem Qgw (ts : List Int) : hiT ts = -1 ∨ hiT ts ∈ ts := by
  suffices h : ∀ (r : List Int), (hiT r.reverse = -1 ∨ hiT r.reverse ∈ r.reverse) by have := h ts.reverse; rwa [List.reverse_reverse] at this
  intro r
  induction r with
  | nil => exact .inl rfl
  | cons x r ih =>
    rw [List.reverse_cons, QdH]
    split
    · exact .inr (by simp)
    · rcases ih with h | h
      · exact .inl h
      · exact .inr (List.mem_append_left _ h)
def chkT (ts : List Int) (n : Int) : Int := if n < 0 ∨ 4294967294 < n then 8 else if n < hiT ts - 64 then 11 else if n ∈ ts then 7 else 0
structure WInv (nx : Int) (B : Nat) (ts : List Int) : Prop where
  hnx : 0 ≤ nx ∧ nx ≤ 4294967295
  hB : B < 18446744073709551616
  hhi : hiT ts = nx - 1
  hrng : ∀ m ∈ ts, 0 ≤ m ∧ m < 4294967295
  hbits : ∀ k : Nat, k < 64 → 0 ≤ nx - 2 - k → (B.testBit k = true ↔ (nx - 2 - k) ∈ ts)
theorem QhL : WInv 0 0 [] := ⟨by omega, by decide, rfl, (fun m h => by cases h), (fun k hk h => by omega)⟩
theorem Qju (B k : Nat) : B / 2 ^ k % 2 = 1 ↔ B.testBit k = true := by rw [Nat.testBit_eq_decide_div_mod_eq]; simp
theorem Qg1 {nx : Int} {B : Nat} {ts : List Int} (h : WInv nx B ts) (n : Int) : chkW nx B n = chkT ts n := by
  have hh := h.hhi
  unfold chkW chkT
  by_cases h1 : n < 0 ∨ 4294967295 ≤ n
  · rw [if_pos h1, if_pos (by omega)]
  · rw [if_neg h1, if_neg (show ¬ (n < 0 ∨ 4294967294 < n) by omega), hh]
    by_cases h2 : 64 < nx - 1 - n
    · rw [if_pos h2, if_pos (by omega)]
    · rw [if_neg h2, if_neg (show ¬ n < nx - 1 - 64 by omega)]
      by_cases h3 : n ∈ ts
      · have hle := QhQ ts n h3
        rw [if_pos h3, if_pos ?_]
        by_cases h4 : nx - 1 - n = 0
        · exact .inl h4
        · refine .inr ⟨by omega, ?_⟩
          obtain ⟨j, hj⟩ := Int.eq_ofNat_of_zero_le (show 0 ≤ nx - 1 - n - 1 by omega)
          rw [hj, Int.toNat_natCast, Qju, h.hbits j (by omega) (by omega), show nx - 2 - (j : Int) = n by omega]
          exact h3
      · rw [if_neg h3, if_neg ?_]
        rintro (h4 | ⟨h4, h5⟩)
        · rcases Qgw ts with h6 | h6
          · omega
          · exact h3 (by rw [show n = hiT ts by omega]; exact h6)
        · obtain ⟨j, hj⟩ := Int.eq_ofNat_of_zero_le (show 0 ≤ nx - 1 - n - 1 by omega)
          rw [hj, Int.toNat_natCast, Qju, h.hbits j (by omega) (by omega), show nx - 2 - (j : Int) = n by omega] at h5
          exact h3 h5
theorem QeU {ts : List Int} {n : Int} (h : chkT ts n = 0) : 0 ≤ n ∧ n < 4294967295 ∧ hiT ts - 64 ≤ n ∧ n ∉ ts := by
  unfold chkT at h
  split at h
  · omega
  · split at h
    · omega
    · split at h
      · omega
      · exact ⟨by omega, by omega, by omega, by assumption⟩
theorem Qli {nx : Int} {B : Nat} {ts : List Int} (h : WInv nx B ts) {n : Int} (hc : chkT ts n = 0) (j : Nat) (hj : nx - 1 - n - 1 = (j : Int)) (hj2 : j < 64) : WInv nx (B ||| 2 ^ j) (ts ++ [n]) := by
  obtain ⟨h0, h1, h2, h3⟩ := QeU hc
  have hh := h.hhi
  refine ⟨h.hnx, Qgk _ _ h.hB (Qgg j hj2), by rw [QdH, if_neg (by omega)]; exact hh, fun m hm => ?_, fun k hk hp => ?_⟩
  · rcases List.mem_append.1 hm with hm | hm
    · exact h.hrng m hm
    · have : m = n := by simpa using hm
      omega
  · rw [Nat.testBit_or, Nat.testBit_two_pow, Bool.or_eq_true, h.hbits k hk hp, List.mem_append]
    constructor
    · rintro (e | e)
      · exact .inl e
      · have : j = k := by simpa using e
        exact .inr (by simp; omega)
    · rintro (e | e)
      · exact .inl e
      · have : nx - 2 - (k : Int) = n := by simpa using e
        exact .inr (by simp; omega)
theorem Qlh {nx : Int} {B : Nat} {ts : List Int} (h : WInv nx B ts) {n : Int} (hc : chkT ts n = 0) (a : Nat) (ha : n - (nx - 1) = (a : Int)) (ha1 : 1 ≤ a) :
    WInv (n + 1) (B * 2 ^ a % 18446744073709551616 ||| 1 * 2 ^ (a - 1) % 18446744073709551616) (ts ++ [n]) := by
  obtain ⟨h0, h1, h2, h3⟩ := QeU hc
  have hh := h.hhi
  have hn := h.hnx
  refine ⟨by omega, Qgk _ _ (Nat.mod_lt _ (by decide)) (Nat.mod_lt _ (by decide)), by rw [QdH, if_pos (by omega)]; omega, fun m hm => ?_, fun k hk hp => ?_⟩
  · rcases List.mem_append.1 hm with hm | hm
    · exact h.hrng m hm
    · have : m = n := by simpa using hm
      omega
  · have e64 : (18446744073709551616 : Nat) = 2 ^ 64 := by decide
    rw [Nat.testBit_or, e64, Nat.testBit_mod_two_pow, Nat.testBit_mod_two_pow, Nat.one_mul, Nat.testBit_two_pow, Nat.mul_comm B, Nat.testBit_two_pow_mul, List.mem_append]
    simp only [hk, decide_true, Bool.true_and, Bool.or_eq_true, Bool.and_eq_true, decide_eq_true_eq, List.mem_singleton, ge_iff_le]
    have hne : ¬ (n + 1 - 2 - (k : Int) = n) := by omega
    constructor
    · rintro (⟨e1, e2⟩ | e)
      · left
        rw [h.hbits (k - a) (by omega) (by omega)] at e2
        rwa [show n + 1 - 2 - (k : Int) = nx - 2 - ((k - a : Nat) : Int) by omega]
      · left
        have : n + 1 - 2 - (k : Int) = hiT ts := by omega
        rw [this]
        exact (Qgw ts).resolve_left (by omega)
    · rintro (e | e)
      · have hle := QhQ ts _ e
        by_cases hk2 : a ≤ k
        · left
          refine ⟨hk2, ?_⟩
          rw [h.hbits (k - a) (by omega) (by omega)]
          rwa [show nx - 2 - ((k - a : Nat) : Int) = n + 1 - 2 - (k : Int) by omega]
        · right; omega
      · exact absurd e hne
structure MsIs (s0 : List Int) (pl : Nat) (ts : List Int) (ms : List (Int × List Int)) : Prop where
  all : ∀ p ∈ ms, ∃ k : Nat, k < pl ∧ p = (((k : Nat) : Int), keyV (itV s0 k)) ∧ ((k : Nat) : Int) ∉ ts ∧ pl ≤ k + 65
  each : ∀ k : Nat, k < pl → ((k : Nat) : Int) ∉ ts → pl ≤ k + 65 → (((k : Nat) : Int), keyV (itV s0 k)) ∈ ms
structure ChSt (g mg : Nat) (s0 ts : List Int) (pl : Nat) (ms : List (Int × List Int)) (W : World) : Prop where
  len : s0.length = 32
  byt : Qao s0
  row : ∃ B, WInv ((pl : Nat) : Int) B ts ∧ W.heap[g]? = some (.cells (cat [#[.int .i64 ((pl : Nat) : Int)], #[.int .u64 ((B : Nat) : Int)], ints .u8 (itV s0 pl), #[.int .i64 ((pl : Nat) : Int)], #[.map (some mg)]]) 84)
  mp : MpAt mg (ms.map mpv) W
  is : MsIs s0 pl ts ms
theorem ChSt.keep {g mg : Nat} {s0 ts : List Int} {pl : Nat} {ms : List (Int × List Int)} {W W' : World} (h : ChSt g mg s0 ts pl ms W) (e1 : W'.heap[g]? = W.heap[g]?) (e2 : W'.heap[mg]? = W.heap[mg]?) : ChSt g mg s0 ts pl ms W' := by
  obtain ⟨B, h1, h2⟩ := h.row
  exact ⟨h.len, h.byt, ⟨B, h1, e1.trans h2⟩, h.mp.keep e2, h.is⟩
theorem ChSt.glt {g mg : Nat} {s0 ts : List Int} {pl : Nat} {ms : List (Int × List Int)} {W : World} (h : ChSt g mg s0 ts pl ms W) : g < W.heap.size := by obtain ⟨B, h1, h2⟩ := h.row; exact Qat h2
theorem ChSt.ext {g mg : Nat} {s0 ts : List Int} {pl : Nat} {ms : List (Int × List Int)} {W W' : World} (h : ChSt g mg s0 ts pl ms W) (e : Ext W W') : ChSt g mg s0 ts pl ms W' := h.keep (e.block g h.glt) (e.block mg h.mp.lt)
def Qda (ms : List (Int × List Int)) (s0 : List Int) (pl n : Nat) : List (Int × List Int) := QfO (msNo ms ((n : Nat) : Int) ++ QbM (itV s0 pl) pl n (n + 1 - pl)) ((((max pl (n + 1)) : Nat) : Int) - 1 - 64)
def chkN (ts : List Int) (pl : Nat) (n : Int) : Int := if chkT ts n ≠ 0 then chkT ts n else if ((pl : Nat) : Int) + 256 < n then 12 else 0
theorem Qif {pl B : Nat} {ts : List Int} (h : WInv ((pl : Nat) : Int) B ts) (n : Int) : chkC ((pl : Nat) : Int) B pl n = chkN ts pl n := by unfold chkC chkN; rw [Qg1 h]
theorem Qie {pl : Nat} {ts : List Int} {n : Int} (h : chkN ts pl n = 0) : chkT ts n = 0 ∧ n ≤ ((pl : Nat) : Int) + 256 := by
  unfold chkN at h
  split at h
  · rename_i h1; exact absurd h h1
  · rename_i h1
    split at h
    · cases h
    · exact ⟨by simpa using h1, by omega⟩
theorem MsIs.lt {s0 : List Int} {pl : Nat} {ts : List Int} {ms : List (Int × List Int)} (h : MsIs s0 pl ts ms) : ∀ p ∈ ms, p.1 < ((pl : Nat) : Int) := fun p hp => by
  obtain ⟨k, h1, h2, -⟩ := h.all p hp
  rw [h2]; show ((k : Nat) : Int) < _; omega
theorem MsIs.ok {s0 : List Int} {pl : Nat} {ts : List Int} {ms : List (Int × List Int)} (h : MsIs s0 pl ts ms) : MsOk ms := fun p hp => by
  obtain ⟨k, h1, h2, -⟩ := h.all p hp
  rw [h2]; show (keyV (itV s0 k)).length = 44 ∧ Qao (keyV (itV s0 k)); exact ⟨QaF _, Qez _⟩
theorem MsIs.get {s0 : List Int} {pl : Nat} {ts : List Int} {ms : List (Int × List Int)} (h : MsIs s0 pl ts ms) {k : Nat} (h1 : k < pl) (h2 : ((k : Nat) : Int) ∉ ts) (h3 : pl ≤ k + 65) : lget ms ((k : Nat) : Int) = keyV (itV s0 k) := by
  have hm := h.each k h1 h2 h3
  unfold lget
  cases hf : ms.find? (fun p => p.1 == ((k : Nat) : Int)) with
  | none =>
    rw [List.find?_eq_none] at hf
    exact absurd (by simp) (hf _ hm)
  | some p =>
    obtain ⟨j, q1, q2, -⟩ := h.all p (List.mem_of_find?_eq_some hf)
    have hk := List.find?_some hf
    rw [q2] at hk
    have hjk : ((j : Nat) : Int) = ((k : Nat) : Int) := by simpa using hk
    have : j = k := by omega
    subst this
    rw [q2]; rfl
theorem Qgo (sec : List Int) (pl n : Nat) (p : Int × List Int) : ∀ k, p ∈ QbM sec pl n k ↔ ∃ j, j < k ∧ pl + j < n ∧ n ≤ pl + j + 64 ∧ p = (((pl + j : Nat) : Int), keyV (itV sec j))
  | 0 => ⟨fun h => absurd h List.not_mem_nil, fun ⟨j, h, _⟩ => absurd h (Nat.not_lt_zero _)⟩
  | k + 1 => by
    rw [QbM, List.mem_append, Qgo sec pl n p k]
    constructor
    · rintro (⟨j, h1, h2⟩ | h)
      · exact ⟨j, by omega, h2⟩
      · split at h
        · rename_i hc; rw [List.mem_singleton] at h; exact ⟨k, by omega, hc.1, hc.2, h⟩
        · cases h
    · rintro ⟨j, h1, h2, h3, h4⟩
      rcases Nat.lt_or_ge j k with h | h
      · exact .inl ⟨j, h, h2, h3, h4⟩
      · obtain rfl : j = k := by omega
        right; rw [if_pos ⟨h2, h3⟩, List.mem_singleton]; exact h4
theorem MsIs.take {s0 : List Int} {pl : Nat} {ts : List Int} {ms : List (Int × List Int)} (h : MsIs s0 pl ts ms) (n : Nat) (lim : Int) (hl : lim = (((max pl (n + 1)) : Nat) : Int) - 1 - 64) (hn : ((n : Nat) : Int) ∉ ts) (hts : ∀ m ∈ ts, m < ((pl : Nat) : Int)) : MsIs s0 (max pl (n + 1)) (ts ++ [((n : Nat) : Int)]) (QfO (msNo ms ((n : Nat) : Int) ++ QbM (itV s0 pl) pl n (n + 1 - pl)) lim) := by
  have key : ∀ p, p ∈ QfO (msNo ms ((n : Nat) : Int) ++ QbM (itV s0 pl) pl n (n + 1 - pl)) lim ↔ ((p ∈ ms ∧ p.1 ≠ ((n : Nat) : Int)) ∨ ∃ j, j < n + 1 - pl ∧ pl + j < n ∧ n ≤ pl + j + 64 ∧ p = (((pl + j : Nat) : Int), keyV (itV (itV s0 pl) j))) ∧ lim ≤ p.1 := fun p => by
    unfold QfO msNo
    rw [List.mem_filter, List.mem_append, List.mem_filter, Qgo]
    simp only [bne_iff_ne, ne_eq, decide_eq_true_eq]
  refine ⟨fun p hp => ?_, fun k h1 h2 h3 => ?_⟩
  · obtain ⟨hp1, hp2⟩ := (key p).1 hp
    rcases hp1 with ⟨q1, q2⟩ | ⟨j, q1, q2, q3, q4⟩
    · obtain ⟨k, r1, r2, r3, r4⟩ := h.all p q1
      have e1 : p.1 = ((k : Nat) : Int) := by rw [r2]
      refine ⟨k, by omega, r2, fun hm => ?_, by omega⟩
      rcases List.mem_append.1 hm with hm | hm
      · exact r3 hm
      · rw [List.mem_singleton] at hm; exact q2 (e1.trans hm)
    · have e1 : p.1 = ((pl + j : Nat) : Int) := by rw [q4]
      refine ⟨pl + j, by omega, by rw [q4, QdX], fun hm => ?_, by omega⟩
      rcases List.mem_append.1 hm with hm | hm
      · have := hts _ hm; omega
      · rw [List.mem_singleton] at hm; omega
  · refine (key _).2 ⟨?_, show lim ≤ ((k : Nat) : Int) by omega⟩
    have hk1 : ((k : Nat) : Int) ∉ ts := fun hm => h2 (List.mem_append.2 (.inl hm))
    have hk2 : k ≠ n := fun e => h2 (List.mem_append.2 (.inr (by rw [e]; exact List.mem_singleton.2 rfl)))
    rcases Nat.lt_or_ge k pl with hkp | hkp
    · exact .inl ⟨h.each k hkp hk1 (by omega), show ((k : Nat) : Int) ≠ _ by omega⟩
    · right
      refine ⟨k - pl, by omega, by omega, by omega, ?_⟩
      rw [QdX, show pl + (k - pl) = k by omega]
theorem QkG {g mg : Nat} {s0 ts : List Int} {pl : Nat} {ms : List (Int × List Int)} {w : World} (h : ChSt g mg s0 ts pl ms w) (n : Int) : Calls Tryd.prog 32 #[.pointer (some ⟨g, 0, none⟩), .int .i64 n] w (Ret w (errV (chkN ts pl n))) := by
  obtain ⟨B, h1, h2⟩ := h.row
  have := QjT g _ B n h1.hnx h1.hB (itV s0 pl) pl mg (Qaz h.len pl) w h2 (by have := h1.hnx; omega)
  rw [Qif h1] at this
  exact this
section
variable {g mg : Nat} {s0 ts : List Int} {pl : Nat} {ms : List (Int × List Int)} {w : World} (tc tq : TypeId)
theorem Qk7 {B : Nat} (h1 : WInv ((pl : Nat) : Int) B ts) : ∀ m ∈ ts, m < ((pl : Nat) : Int) := fun m hm => by
  have := QhQ ts m hm
  have := h1.hhi
  omega
theorem QkR (hc : w.heap[2]? = some (.cells (ints .u64 QaI) tc)) (hq : w.heap[1]? = some (.cells (ints .u64 Qak) tq)) (h : ChSt g mg s0 ts pl ms w) (n : Nat) (hc0 : chkN ts pl ((n : Nat) : Int) = 0) (hcg : 2 ≠ g) (hsg : 1 ≠ g) : Calls Tryd.prog 33 #[.pointer (some ⟨g, 0, none⟩), .int .i64 ((n : Nat) : Int)] w (fun e W => ∃ v, e = .returned (.tuple #[v, .nilIface]) ∧ Qal [g, mg] w W ∧ ChSt g mg s0 (ts ++ [((n : Nat) : Int)]) (max pl (n + 1)) (Qda ms s0 pl n) W ∧ QcJ w.heap.size ((n : Nat) : Int) (keyV (itV s0 n)) v W) := by
  obtain ⟨B, h1, h2⟩ := h.row
  obtain ⟨k1, k2⟩ := Qie hc0
  obtain ⟨k3, k4, k5, k6⟩ := QeU k1
  have hhi := h1.hhi
  have hnx := h1.hnx
  have hw0 : chkW ((pl : Nat) : Int) B ((n : Nat) : Int) = 0 := by rw [Qg1 h1]; exact k1
  rcases Nat.lt_or_ge n pl with hn | hn
  · have hne : ((n : Nat) : Int) ≠ ((pl : Nat) : Int) - 1 := fun e => by
      rcases Qgw ts with q | q
      · omega
      · rw [hhi, ← e] at q; exact k6 q
    obtain ⟨j, hj⟩ : ∃ j : Nat, ((pl : Nat) : Int) - 1 - ((n : Nat) : Int) - 1 = ((j : Nat) : Int) := ⟨pl - 1 - n - 1, by omega⟩
    refine (Qko g _ B h1.hnx h1.hB (itV s0 pl) pl mg (Qaz h.len pl) w h2 ms h.is.ok h.mp tc tq hc hq (Qbj h.byt pl) n (by omega) (by omega) h.is.lt hcg hsg hw0 hn j hj (by omega)).mono ?_
    rintro e W ⟨v, rfl, q1, q2, q3, q4⟩
    have ek : n + 1 - pl = 0 := by omega
    have em : max pl (n + 1) = pl := by omega
    have hI := h.is.take n _ rfl k6 (Qk7 h1)
    rw [h.is.get hn k6 (by omega)] at q4
    rw [ek] at q2
    rw [show ((pl : Nat) : Int) - 1 - 64 = (((max pl (n + 1)) : Nat) : Int) - 1 - 64 by rw [em]] at q3
    refine ⟨v, rfl, q1, ⟨h.len, h.byt, ?_, q3, hI⟩, q4⟩
    rw [em]
    exact ⟨_, Qli h1 k1 j hj (by omega), q2⟩
  · obtain ⟨a, ha⟩ : ∃ a : Nat, ((n : Nat) : Int) - (((pl : Nat) : Int) - 1) = ((a : Nat) : Int) := ⟨n + 1 - pl, by omega⟩
    refine (Qkn g _ B h1.hnx h1.hB (itV s0 pl) pl mg (Qaz h.len pl) w h2 ms h.is.ok h.mp tc tq hc hq (Qbj h.byt pl) n (by omega) (by omega) h.is.lt hcg hsg hw0 hn a ha (by omega)).mono ?_
    rintro e W ⟨v, rfl, q1, q2, q3, q4⟩
    have em : max pl (n + 1) = n + 1 := by omega
    have hI := h.is.take n _ rfl k6 (Qk7 h1)
    rw [QdX, show pl + (n - pl) = n by omega] at q4
    rw [QdX, show pl + (n + 1 - pl) = n + 1 by omega] at q2
    have hW := Qlh h1 k1 a ha (by omega)
    rw [show ((n : Nat) : Int) + 1 = ((n + 1 : Nat) : Int) by omega] at q2 hW
    rw [show ((n : Nat) : Int) + 1 - 1 - 64 = (((max pl (n + 1)) : Nat) : Int) - 1 - 64 by rw [em]; omega] at q3
    refine ⟨v, rfl, q1, ⟨h.len, h.byt, ?_, q3, hI⟩, q4⟩
    rw [em]
    exact ⟨_, hW, q2⟩
end
end Go.Proofs.YtibegnjaphohaaaDoor.Cn
end
section
namespace Go.Proofs.YtibegnjaphohaaaDoor.Cn
open Go Go.RowKit
open Rely Auto Own Sha
set_option linter.unusedVariables false
set_option linter.unusedSimpArgs false
theorem QfF {P : Program} {ρ : Operand → Value} {o : Oper} {w : World} (ty : TypeId) (x : Operand) (g off : Nat) (t : TypeId) (cs : Array Value) (v : Value) (hg : w.heap[g]? = some (.cells cs t)) (hv : cs[off]? = some v)
    (ho : o.op = .load ty x) (hx : ρ x = .pointer (some ⟨g, off, none⟩)) (hu : aggD P ty = some false) : (execOp ρ o).run P w = .ok (.value v) w := Qah ty x g off t cs v _ hg ho hx hv hu
set_option maxHeartbeats 4000000 in
theorem at_I (gc gl len cap : Nat) (lp : Array Value) (w : World) (hgc : w.heap[gc]? = some (.cells #[.slice (some ⟨gl, 0, none⟩) len cap] 70)) (hgl : w.heap[gl]? = some (.cells lp 75)) (g i : Nat) (hi : i < len) (hli : lp[i]? = some (.pointer (some ⟨g, 0, none⟩))) : Calls Tryd.prog 31 #[.pointer (some ⟨gc, 0, none⟩), .int .i64 ((i : Nat) : Int)] w (Ret w (.pointer (some ⟨g, 0, none⟩))) := by
  refine enter 27 [(0, .pointer (some ⟨gc, 0, none⟩)), (1, .int .i64 ((i : Nat) : Int))] Tryd.func31 rfl rfl kj rfl ?_
  refine sgB kj ?_
  refine wp_seq_k fun K4 hK4 => ?_
  refine sgC fun K5 hK5 => ?_
  refine sg 4 kj ?_
  refine Qaa (.bool false) 9 rfl kj (Qag (u := .bool (decide (((i : Nat) : Int) < 0))) kj (congrArg Value.bool (decide_eq_false (by omega)))) ?_
  refine sg 6 kj ?_
  refine Qaa (.slice (some ⟨gl, 0, none⟩) len cap) 16 rfl kj (Qah 68 _ gc 0 70 _ (.slice (some ⟨gl, 0, none⟩) len cap) _ hgc rfl kj kj kj) ?_
  refine sg 1 kj ?_
  refine Qaa (.bool false) 18 rfl kj (Qag (u := .bool (decide (((i : Nat) : Int) ≥ ((len : Nat) : Int)))) kj (congrArg Value.bool (decide_eq_false (by omega)))) ?_
  refine sg 1 kj ?_
  refine sgN hK5 ?_
  refine cond_false kj ?_
  refine wp_skip ?_
  refine hK4 _ _ ?_
  refine sgC fun K6 hK6 => ?_
  refine sg 3 kj ?_
  refine Qaa (.slice (some ⟨gl, 0, none⟩) len cap) 23 rfl kj (Qah 68 _ gc 0 70 _ (.slice (some ⟨gl, 0, none⟩) len cap) _ hgc rfl kj kj kj) ?_
  refine sg 1 kj ?_
  refine Qaa (.pointer (some ⟨gl, i, none⟩)) 25 rfl kj (QaX 68 _ _ .i64 i gl len cap 75 rfl kj kj kj kj hi) ?_
  refine Qaa (.pointer (some ⟨g, 0, none⟩)) 26 rfl kj (QfF 75 _ gl i 75 lp (.pointer (some ⟨g, 0, none⟩)) hgl hli rfl kj kj) ?_
  refine sg 1 kj ?_
  refine sgN hK6 ?_
  refine wp_ret ?_
  repeat (first | with_reducible refine goR1 ?_ | with_reducible refine goR2 ?_)
  exact (show bodyPost _ _ _ .ret _ _ from ret1 (.pointer (some ⟨g, 0, none⟩)) rfl (Qa7 kj) ⟨rfl, (Rely.Ext.refl w)⟩)
set_option maxHeartbeats 4000000 in
theorem at_L (gc gl len cap : Nat) (lp : Array Value) (w : World) (hgc : w.heap[gc]? = some (.cells #[.slice (some ⟨gl, 0, none⟩) len cap] 70)) (hgl : w.heap[gl]? = some (.cells lp 75)) (n : Int) (hn : n < 0) : Calls Tryd.prog 31 #[.pointer (some ⟨gc, 0, none⟩), .int .i64 n] w (Ret w (.pointer none)) := by
  refine enter 27 [(0, .pointer (some ⟨gc, 0, none⟩)), (1, .int .i64 n)] Tryd.func31 rfl rfl kj rfl ?_
  refine sgB kj ?_
  refine wp_seq_k fun K4 hK4 => ?_
  refine sgC fun K5 hK5 => ?_
  refine sg 4 kj ?_
  refine Qaa (.bool true) 9 rfl kj (Qag (u := .bool (decide (n < 0))) kj (congrArg Value.bool (decide_eq_true (by omega)))) ?_
  refine sg 10 kj ?_
  refine sgN hK5 ?_
  refine cond_true kj ?_
  refine sgB kj ?_
  refine wp_ret ?_
  repeat (first | with_reducible refine goR1 ?_ | with_reducible refine goR2 ?_)
  exact (show bodyPost _ _ _ .ret _ _ from ret1 (.pointer none) rfl (Qa7 kj) ⟨rfl, (Rely.Ext.refl w)⟩)
set_option maxHeartbeats 4000000 in
theorem at_G (gc gl len cap : Nat) (lp : Array Value) (w : World) (hgc : w.heap[gc]? = some (.cells #[.slice (some ⟨gl, 0, none⟩) len cap] 70)) (hgl : w.heap[gl]? = some (.cells lp 75)) (n : Int) (hn0 : 0 ≤ n) (hn : ((len : Nat) : Int) ≤ n) : Calls Tryd.prog 31 #[.pointer (some ⟨gc, 0, none⟩), .int .i64 n] w (Ret w (.pointer none)) := by
  refine enter 27 [(0, .pointer (some ⟨gc, 0, none⟩)), (1, .int .i64 n)] Tryd.func31 rfl rfl kj rfl ?_
  refine sgB kj ?_
  refine wp_seq_k fun K4 hK4 => ?_
  refine sgC fun K5 hK5 => ?_
  refine sg 4 kj ?_
  refine Qaa (.bool false) 9 rfl kj (Qag (u := .bool (decide (n < 0))) kj (congrArg Value.bool (decide_eq_false (by omega)))) ?_
  refine sg 6 kj ?_
  refine Qaa (.slice (some ⟨gl, 0, none⟩) len cap) 16 rfl kj (Qah 68 _ gc 0 70 _ (.slice (some ⟨gl, 0, none⟩) len cap) _ hgc rfl kj kj kj) ?_
  refine sg 1 kj ?_
  refine Qaa (.bool true) 18 rfl kj (Qag (u := .bool (decide (n ≥ ((len : Nat) : Int)))) kj (congrArg Value.bool (decide_eq_true (by omega)))) ?_
  refine sg 1 kj ?_
  refine sgN hK5 ?_
  refine cond_true kj ?_
  refine sgB kj ?_
  refine wp_ret ?_
  repeat (first | with_reducible refine goR1 ?_ | with_reducible refine goR2 ?_)
  exact (show bodyPost _ _ _ .ret _ _ from ret1 (.pointer none) rfl (Qa7 kj) ⟨rfl, (Rely.Ext.refl w)⟩)
theorem at_O (gc gl len cap : Nat) (lp : Array Value) (w : World) (hgc : w.heap[gc]? = some (.cells #[.slice (some ⟨gl, 0, none⟩) len cap] 70)) (hgl : w.heap[gl]? = some (.cells lp 75)) (n : Int) (hn : n < 0 ∨ ((len : Nat) : Int) ≤ n) : Calls Tryd.prog 31 #[.pointer (some ⟨gc, 0, none⟩), .int .i64 n] w (Ret w (.pointer none)) := by
  by_cases h : n < 0
  · exact at_L gc gl len cap lp w hgc hgl n h
  · exact at_G gc gl len cap lp w hgc hgl n (by omega) (by omega)
set_option maxHeartbeats 4000000 in
theorem Qj5 (gc gl len cap : Nat) (lp : Array Value) (w : World) (hgc : w.heap[gc]? = some (.cells #[.slice (some ⟨gl, 0, none⟩) len cap] 70)) (hgl : w.heap[gl]? = some (.cells lp 75)) (g i : Nat) (hi : i < len) (hli : lp[i]? = some (.pointer (some ⟨g, 0, none⟩))) {mg pl : Nat} {s0 ts : List Int} {ms : List (Int × List Int)} (hch : ChSt g mg s0 ts pl ms w) : Calls Tryd.prog 16 #[.pointer (some ⟨gc, 0, none⟩), .int .i64 ((i : Nat) : Int)] w (Ret w (.int .i64 ((pl : Nat) : Int))) := by
  obtain ⟨B, hW, hrg⟩ := hch.row
  refine enter 15 [(0, .pointer (some ⟨gc, 0, none⟩)), (1, .int .i64 ((i : Nat) : Int))] Tryd.func16 rfl rfl kj rfl ?_
  refine sgB kj ?_
  refine sgC fun K5 hK5 => ?_
  refine sg 2 kj ?_
  refine Qax (.pointer (some ⟨g, 0, none⟩)) 31 #[.pointer (some ⟨gc, 0, none⟩), .int .i64 ((i : Nat) : Int)] 8 rfl kj kj (at_I gc gl len cap lp _ hgc hgl g i hi hli) fun W1 e1 => ?_
  refine sg 1 kj ?_
  refine sgN hK5 ?_
  refine wp_seq_k fun K6 hK6 => ?_
  refine sgB kj ?_
  refine cond_false kj ?_
  refine wp_skip ?_
  refine hK6 _ _ ?_
  refine sgC fun K8 hK8 => ?_
  refine sg 3 kj ?_
  refine Qaa (.int .i64 ((pl : Nat) : Int)) 14 rfl kj (Qah 3 _ g 34 84 _ (.int .i64 ((pl : Nat) : Int)) _ (Qab hrg e1) rfl kj (Qa0 [#[.int .i64 ((pl : Nat) : Int)], #[.int .u64 ((B : Nat) : Int)], ints .u8 (itV s0 pl)] [#[.int .i64 ((pl : Nat) : Int)]] [#[.map (some mg)]] 34 (by rw [Qae, Qae, Qae]; simp only [Array.size_append, cat, ((Qac _ _).trans (Qaz hch.len pl))]; rfl) 0 _ rfl) kj) ?_
  refine sg 1 kj ?_
  refine sgN hK8 ?_
  refine wp_ret ?_
  repeat (first | with_reducible refine goR1 ?_ | with_reducible refine goR2 ?_)
  exact (show bodyPost _ _ _ .ret _ _ from ret1 (.int .i64 ((pl : Nat) : Int)) rfl (Qa7 kj) ⟨rfl, (Ext.tr (Rely.Ext.refl w) e1)⟩)
set_option maxHeartbeats 4000000 in
theorem Qj4 (gc gl len cap : Nat) (lp : Array Value) (w : World) (hgc : w.heap[gc]? = some (.cells #[.slice (some ⟨gl, 0, none⟩) len cap] 70)) (hgl : w.heap[gl]? = some (.cells lp 75)) (n : Int) (hn : n < 0 ∨ ((len : Nat) : Int) ≤ n) : Calls Tryd.prog 16 #[.pointer (some ⟨gc, 0, none⟩), .int .i64 n] w (Ret w (.int .i64 (-1))) := by
  refine enter 15 [(0, .pointer (some ⟨gc, 0, none⟩)), (1, .int .i64 n)] Tryd.func16 rfl rfl kj rfl ?_
  refine sgB kj ?_
  refine sgC fun K4 hK4 => ?_
  refine sg 2 kj ?_
  refine Qax (.pointer none) 31 #[.pointer (some ⟨gc, 0, none⟩), .int .i64 n] 8 rfl kj kj (at_O gc gl len cap lp _ hgc hgl n hn) fun W1 e1 => ?_
  refine sg 1 kj ?_
  refine sgN hK4 ?_
  refine wp_seq_k fun K5 hK5 => ?_
  refine sgB kj ?_
  refine cond_true kj ?_
  refine sgB kj ?_
  refine wp_ret ?_
  repeat (first | with_reducible refine goR1 ?_ | with_reducible refine goR2 ?_)
  exact (show bodyPost _ _ _ .ret _ _ from ret1 (.int .i64 (-1)) rfl (Qa7 kj) ⟨rfl, (Ext.tr (Rely.Ext.refl w) e1)⟩)
set_option maxHeartbeats 4000000 in
theorem Qjp (gc gl len cap : Nat) (lp : Array Value) (w : World) (hgc : w.heap[gc]? = some (.cells #[.slice (some ⟨gl, 0, none⟩) len cap] 70)) (hgl : w.heap[gl]? = some (.cells lp 75)) (g i : Nat) (hi : i < len) (hli : lp[i]? = some (.pointer (some ⟨g, 0, none⟩))) {mg pl : Nat} {s0 ts : List Int} {ms : List (Int × List Int)} (hch : ChSt g mg s0 ts pl ms w) : Calls Tryd.prog 17 #[.pointer (some ⟨gc, 0, none⟩), .int .i64 ((i : Nat) : Int)] w (Ret w (.int .i64 ((ms.length : Nat) : Int))) := by
  obtain ⟨B, hW, hrg⟩ := hch.row
  refine enter 16 [(0, .pointer (some ⟨gc, 0, none⟩)), (1, .int .i64 ((i : Nat) : Int))] Tryd.func17 rfl rfl kj rfl ?_
  refine sgB kj ?_
  refine sgC fun K5 hK5 => ?_
  refine sg 2 kj ?_
  refine Qax (.pointer (some ⟨g, 0, none⟩)) 31 #[.pointer (some ⟨gc, 0, none⟩), .int .i64 ((i : Nat) : Int)] 8 rfl kj kj (at_I gc gl len cap lp _ hgc hgl g i hi hli) fun W1 e1 => ?_
  have x1 := Ext.tr (Rely.Ext.refl w) e1
  refine sg 1 kj ?_
  refine sgN hK5 ?_
  refine wp_seq_k fun K6 hK6 => ?_
  refine sgB kj ?_
  refine cond_false kj ?_
  refine wp_skip ?_
  refine hK6 _ _ ?_
  refine sgC fun K8 hK8 => ?_
  refine sg 3 kj ?_
  refine Qaa (.map (some mg)) 14 rfl kj (Qah 82 _ g 35 84 _ (.map (some mg)) _ (Qab hrg e1) rfl kj (Qa0 [#[.int .i64 ((pl : Nat) : Int)], #[.int .u64 ((B : Nat) : Int)], ints .u8 (itV s0 pl), #[.int .i64 ((pl : Nat) : Int)]] [#[.map (some mg)]] [] 35 (by rw [Qae, Qae, Qae, Qae]; simp only [Array.size_append, cat, ((Qac _ _).trans (Qaz hch.len pl))]; rfl) 0 _ rfl) kj) ?_
  refine Qaa (.int .i64 ((ms.length : Nat) : Int)) 15 rfl kj ((Qir (ms := ms.map mpv) _ 82 (kt := 3) (et := 93) rfl kj kj (MpAt.ext hch.mp x1)).trans (by rw [List.length_map])) ?_
  refine sg 1 kj ?_
  refine sgN hK8 ?_
  refine wp_ret ?_
  repeat (first | with_reducible refine goR1 ?_ | with_reducible refine goR2 ?_)
  exact (show bodyPost _ _ _ .ret _ _ from ret1 (.int .i64 ((ms.length : Nat) : Int)) rfl (Qa7 kj) ⟨rfl, x1⟩)
set_option maxHeartbeats 4000000 in
theorem Qjf (gc gl len cap : Nat) (lp : Array Value) (w : World) (hgc : w.heap[gc]? = some (.cells #[.slice (some ⟨gl, 0, none⟩) len cap] 70)) (hgl : w.heap[gl]? = some (.cells lp 75)) (g i : Nat) (hi : i < len) (hli : lp[i]? = some (.pointer (some ⟨g, 0, none⟩))) (tc tq : TypeId) (hc : w.heap[2]? = some (.cells (ints .u64 QaI) tc)) (hq : w.heap[1]? = some (.cells (ints .u64 Qak) tq)) {mg pl : Nat} {s0 ts : List Int} {ms : List (Int × List Int)} (hch : ChSt g mg s0 ts pl ms w) (m : Nat) (he : chkN ts pl ((m : Nat) : Int) = 0) (hcg : 2 ≠ g) (hsg : 1 ≠ g) : Calls Tryd.prog 13 #[.pointer (some ⟨gc, 0, none⟩), .int .i64 ((i : Nat) : Int), .int .i64 ((m : Nat) : Int)] w (fun e W => ∃ v, e = .returned (.tuple #[v, .nilIface]) ∧ Qal [g, mg] w W ∧ ChSt g mg s0 (ts ++ [((m : Nat) : Int)]) (max pl (m + 1)) (Qda ms s0 pl m) W ∧ QcJ w.heap.size ((m : Nat) : Int) (keyV (itV s0 m)) v W) := by
  refine enter 29 [(0, .pointer (some ⟨gc, 0, none⟩)), (1, .int .i64 ((i : Nat) : Int)), (2, .int .i64 ((m : Nat) : Int))] Tryd.func13 rfl rfl kj rfl ?_
  refine sgC fun K7 hK7 => ?_
  refine Qar (cat [#[.int .i64 0], ints .u8 (List.replicate 32 0), #[.slice none 0 0]]) 40 6 rfl kj kj fun g8 W1 l8 e1 r8_1 => ?_
  have b8 := Nat.le_trans (Rely.Ext.refl w).size l8
  refine sg 1 kj ?_
  refine sgN hK7 ?_
  refine sgC fun K9 hK9 => ?_
  refine sg 2 kj ?_
  refine Qax (.pointer (some ⟨g, 0, none⟩)) 31 #[.pointer (some ⟨gc, 0, none⟩), .int .i64 ((i : Nat) : Int)] 12 rfl kj kj (at_I gc gl len cap lp _ (Qab hgc e1) (Qab hgl e1) g i hi hli) fun W2 e2 => ?_
  have x2 := Ext.tr (Ext.tr (Rely.Ext.refl w) e1) e2
  refine sg 1 kj ?_
  refine sgN hK9 ?_
  refine wp_seq_k fun K10 hK10 => ?_
  refine sgB kj ?_
  refine cond_false kj ?_
  refine wp_skip ?_
  refine hK10 _ _ ?_
  refine wp_seq_k fun K12 hK12 => ?_
  refine sgC fun K13 hK13 => ?_
  refine sg 2 kj ?_
  refine Qax (.nilIface) 32 #[.pointer (some ⟨g, 0, none⟩), .int .i64 ((m : Nat) : Int)] 19 rfl kj kj (Qdg he ▸ QkG (hch.ext x2) ((m : Nat) : Int)) fun W3 e3 => ?_
  have x3 := Ext.tr x2 e3
  refine sg 1 kj ?_
  refine sgN hK13 ?_
  refine sgB kj ?_
  refine cond_false kj ?_
  refine wp_skip ?_
  refine hK12 _ _ ?_
  refine sgC fun K15 hK15 => ?_
  refine sg 2 kj ?_
  refine Qa8 (fun v W' => ∃ u, v = .tuple #[u, .nilIface] ∧ Qal [g, mg] W3 W' ∧ ChSt g mg s0 (ts ++ [((m : Nat) : Int)]) (max pl (m + 1)) (Qda ms s0 pl m) W' ∧ QcJ W3.heap.size ((m : Nat) : Int) (keyV (itV s0 m)) u W') 33 #[.pointer (some ⟨g, 0, none⟩), .int .i64 ((m : Nat) : Int)] 26 rfl kj kj ((QkR tc tq (Qab (Qab (Qab hc e1) e2) e3) (Qab (Qab (Qab hq e1) e2) e3) (hch.ext x3) m he hcg hsg).mono (by rintro e w' ⟨v, rfl, q1, q2, q3⟩; exact ⟨_, rfl, _, rfl, q1, q2, q3⟩)) fun vv16 W4 hh16 => ?_
  obtain ⟨uu16, rfl, q4, hch2, u16, rfl, hu16⟩ := hh16
  obtain ⟨a16_, c16_, rfl, -⟩ := id (OwnN.rd hu16)
  have x4 : Qal [g, mg] w W4 := Qal.keeps (Qal.step (Qal.refl [g, mg] w) x3) q4 (fun c hc => .inl hc)
  refine sg 2 kj ?_
  have r8_3 := (Qab (Qab r8_1 e2) e3)
  have r8_4 := (Qal.row q4 r8_3 (Qau (Ne.symm (Nat.ne_of_lt (Nat.lt_of_lt_of_le hch.glt b8))) (Qau (Ne.symm (Nat.ne_of_lt (Nat.lt_of_lt_of_le hch.mp.lt b8))) QaG)))
  refine Qai g8 _ (cat [#[.int .i64 ((m : Nat) : Int)], ints .u8 ((keyV (itV s0 m)).take 32), #[.slice a16_ (((keyV (itV s0 m)).drop 32).length) c16_]]) 40 r8_4 rfl kj (Qaq 40 _ _ g8 40 _ _ r8_4 rfl kj kj (isz (n := 34) kj (by rw [Qae, Qae, Qae]; simp only [Array.size_append, cat, ((Qac _ _).trans (QaW (QaF _)))]; rfl)) (eqsz (n := 34) (by rw [Qae, Qae, Qae]; simp only [Array.size_append, cat, ((Qac _ _).trans (List.length_replicate (n := 32)))]; rfl) (by rw [Qae, Qae, Qae]; simp only [Array.size_append, cat, ((Qac _ _).trans (QaW (QaF _)))]; rfl)) (QbG _ (by intro a ha; simp only [List.mem_cons, List.not_mem_nil, or_false] at ha; rcases ha with rfl | rfl | rfl; exact (QaU _ rfl); exact (Qa2 _ _); exact (QaU _ rfl)))) fun W5 p5 r8_5 => ?_
  have x5 : Qal [g, mg] w W5 := Qal.puts x4 p5 (.inr b8)
  refine sg 1 kj ?_
  refine sgN hK15 ?_
  refine wp_ret ?_
  repeat (first | with_reducible refine goR1 ?_ | with_reducible refine goR2 ?_)
  exact (show bodyPost _ _ _ .ret _ _ from ret2 (.agg (cat [#[.int .i64 ((m : Nat) : Int)], ints .u8 ((keyV (itV s0 m)).take 32), #[.slice a16_ (((keyV (itV s0 m)).drop 32).length) c16_]])) (.nilIface) rfl (QaR g8 40 _ r8_5 kj kj (isz (n := 34) kj (by rw [Qae, Qae, Qae]; simp only [Array.size_append, cat, ((Qac _ _).trans (QaW (QaF _)))]; rfl))) (Qa7 kj) ⟨_, rfl, x5, (hch2.keep (p5.2.2.2.2 g (Ne.symm (Ne.symm (Nat.ne_of_lt (Nat.lt_of_lt_of_le hch.glt b8))))) (p5.2.2.2.2 mg (Ne.symm (Ne.symm (Nat.ne_of_lt (Nat.lt_of_lt_of_le hch.mp.lt b8)))))), _, rfl, OwnN.base x3.size (hu16.puts p5 (QcL hu16 (Qat r8_3)))⟩)
end Go.Proofs.YtibegnjaphohaaaDoor.Cn
end
section
namespace Go.Proofs.YtibegnjaphohaaaDoor.Seat
set_option linter.unusedVariables false
open Go Go.RowKit
open Rely
def TabAt (w : World) : Prop := 0 < w.heap.size ∧ ∀ j, j < 64 → w.cell? ⟨0, j, none⟩ = some (.int .u8 (Lib.deBruijn64tab.getD j 0))
theorem TabAt.ext {w w' : World} (h : TabAt w) (e : Ext w w') : TabAt w' := ⟨Nat.lt_of_lt_of_le h.1 e.size, fun j hj => by rw [e.cell h.1]; exact h.2 j hj⟩
theorem Qhi (x k idx : Nat) (w : World) (hx0 : ((x : Int) == 0) = false)
    (key : IntKind.u64.wrap (bits BinOp.and IntKind.u64 (x : Int) (IntKind.u64.wrap (-(x : Int))) * 285870213051353865) / 288230376151711744 = (idx : Int))
    (hi : idx < 64) (hk : k < 64) (hcell : w.cell? ⟨0, idx, none⟩ = some (.int .u8 k)) :
    Calls Tryd.prog 58 #[.int .u64 x] w fun e w' => e = .returned (.int .i64 k) ∧ w = w' := by
  go_enter Tryd.func58, Tryd.ntmps58
  go_wp2_with (simp only [key])
  go_ret
  exact ⟨rfl, rfl⟩
theorem Qio (x a : Nat) (hx : x < 18446744073709551616) (hx0 : x ≠ 0) (hlow : x &&& (18446744073709551616 - x) = a) :
    IntKind.u64.wrap (bits BinOp.and IntKind.u64 (x : Int) (IntKind.u64.wrap (-(x : Int))) * 285870213051353865) / 288230376151711744 = ((a * 285870213051353865 % 18446744073709551616 / 288230376151711744 : Nat) : Int) := by
  have e1 : IntKind.u64.wrap (-(x : Int)) = ((18446744073709551616 - x : Nat) : Int) := by rw [IntKind.wrap_u64]; omega
  rw [e1, bits_and_u64_nat x _ hx (by omega), hlow, IntKind.wrap_u64]
  omega
theorem tz64 (x : Nat) (hx : x < 18446744073709551616) (hx0 : x ≠ 0) (w : World) (hT : TabAt w) :
    Calls Tryd.prog 58 #[.int .u64 x] w fun e w' => e = .returned (.int .i64 (Lib.ctz 64 x)) ∧ w = w' := by
  obtain ⟨hlow, hk⟩ := Lib.lowest_bit 64 x hx0 hx
  obtain ⟨hi, htab⟩ := Lib.deBruijn64_at _ hk
  have hcell := hT.2 _ hi
  rw [htab] at hcell
  exact Qhi x _ _ w (by simp; omega) (Qio x _ hx hx0 hlow) hi hk hcell
def isTree (n : Int) : Bool := n == 1 || n == 2 || n == 4 || n == 8 || n == 16 || n == 32
theorem Qbz {n : Int} (h : isTree n = true) : n = 1 ∨ n = 2 ∨ n = 4 ∨ n = 8 ∨ n = 16 ∨ n = 32 := by
  simp only [isTree, Bool.or_eq_true, beq_iff_eq] at h; omega
theorem Qip (n : Int) (h : n < 1 ∨ 32 < n) (w : World) : Calls Tryd.prog 38 #[.int .i64 n] w fun e w' => e = .returned (.bool (isTree n)) ∧ w = w' := by
  have e : isTree n = false := by
    rw [Bool.eq_false_iff]; intro h'; have := Qbz h'; omega
  rw [e]
  rcases h with h | h
  · have h1 : decide (1 ≤ n) = false := decide_eq_false (by omega)
    go_enter Tryd.func38, Tryd.ntmps38
    go_wp2
    all_goals first | omega | (go_ret; exact ⟨rfl, rfl⟩)
  · have h1 : decide (1 ≤ n) = true := decide_eq_true (by omega)
    have h2 : decide (n ≤ 32) = false := decide_eq_false (by omega)
    go_enter Tryd.func38, Tryd.ntmps38
    go_wp2
    all_goals first | omega | (go_ret; exact ⟨rfl, rfl⟩)
theorem Qkc : ∀ k : Fin 33, (bits .and .i64 (k.val : Int) ((k.val : Int) - 1) == 0) = (k.val == 0 || isTree (k.val : Int)) := by decide +kernel
theorem Qjy (n : Int) (h1 : 1 ≤ n) (h2 : n ≤ 32) (w : World) : Calls Tryd.prog 38 #[.int .i64 n] w fun e w' => e = .returned (.bool (isTree n)) ∧ w = w' := by
  have key : (bits .and .i64 n (n - 1) == 0) = isTree n := by
    have := Qkc ⟨n.toNat, by omega⟩
    have e : ((n.toNat : Nat) : Int) = n := by omega
    simp only [e] at this
    rw [this]
    have : (n.toNat == 0) = false := by rw [beq_eq_false_iff_ne]; omega
    rw [this]; rfl
  have h3 : decide (1 ≤ n) = true := decide_eq_true h1
  have h4 : decide (n ≤ 32) = true := decide_eq_true h2
  go_enter Tryd.func38, Tryd.ntmps38
  go_wp2
  all_goals first | omega | (go_ret; exact ⟨rfl, rfl⟩)
theorem tree (n : Int) (w : World) : Calls Tryd.prog 38 #[.int .i64 n] w fun e w' => e = .returned (.bool (isTree n)) ∧ w = w' := by
  by_cases h : 1 ≤ n ∧ n ≤ 32
  · exact Qjy n h.1 h.2 w
  · exact Qip n (by omega) w
def i64 (n : Int) : Prop := -9223372036854775808 ≤ n ∧ n ≤ 9223372036854775807
def lvN (x : Nat) : Nat := Lib.ctz 64 (18446744073709551615 - x)
def lv (x : Int) : Int := if x < 0 then -1 else lvN x.toNat
theorem Qjn (x : Nat) (h : x ≤ 9223372036854775807) : lvN x < 64 := (Lib.lowest_bit 64 _ (by omega) (by omega)).2
theorem QjB (n : Nat) (h : n < 18446744073709551616) : bits .xor .u64 IntKind.u64.max (n : Int) = 18446744073709551615 - (n : Int) := by
  have e : IntKind.u64.max = ((18446744073709551615 : Nat) : Int) := by decide
  rw [e, u64_xor_nat _ n (by omega) h]
  have e2 : (18446744073709551615 : Nat) ^^^ n = 18446744073709551615 - n := by
    have := BitVec.toNat_not (x := BitVec.ofNat 64 n)
    have h1 : (BitVec.allOnes 64 ^^^ BitVec.ofNat 64 n) = ~~~ (BitVec.ofNat 64 n) := BitVec.allOnes_xor
    have h2 := congrArg BitVec.toNat h1
    rw [BitVec.toNat_xor, this, BitVec.toNat_allOnes, BitVec.toNat_ofNat, Nat.mod_eq_of_lt (by omega : n < 2 ^ 64)] at h2
    exact h2
  rw [e2]
  omega
theorem level (x : Int) (hx : i64 x) (w : World) (hT : TabAt w) : Calls Tryd.prog 50 #[.int .i64 x] w fun e w' => e = .returned (.int .i64 (lv x)) ∧ w = w' := by
  unfold i64 at hx
  by_cases h : x < 0
  · have e : lv x = -1 := by simp [lv, h]
    rw [e]
    go_enter Tryd.func50, Tryd.ntmps50
    go_wp2
    go_ret
    exact ⟨rfl, rfl⟩
  · have e : lv x = (lvN x.toNat : Int) := by simp [lv, h]
    rw [e]
    obtain ⟨n, rfl⟩ := Int.eq_ofNat_of_zero_le (by omega : 0 ≤ x)
    have hz := tz64 (18446744073709551615 - n) (by omega) (by omega) w hT
    have e2 : ((18446744073709551615 - n : Nat) : Int) = 18446744073709551615 - (n : Int) := by omega
    rw [e2, ← QjB n (by omega)] at hz
    rw [Int.toNat_natCast]
    have e3 : lvN n = Lib.ctz 64 (18446744073709551615 - n) := rfl
    rw [← e3] at hz
    generalize lvN n = c at *
    clear e e2 e3
    go_enter Tryd.func50, Tryd.ntmps50
    go_wp2_with (go_at_call 58; refine hz.mono ?_; rintro e w' ⟨rfl, rfl⟩)
    go_ret
    exact ⟨rfl, rfl⟩
def half (k : Int) : Int := wrap64 (2 ^ (k.toNat - 1))
def kidL (x : Int) : Int := if lv x ≤ 0 then -1 else wrap64 (x - half (lv x))
def kidR (x : Int) : Int := if lv x ≤ 0 then -1 else wrap64 (x + half (lv x))
theorem Qk1 (x : Int) (hx : i64 x) : -1 ≤ lv x ∧ lv x ≤ 63 := by
  unfold lv
  split
  · omega
  · have := Qjn x.toNat (by unfold i64 at hx; omega)
    omega
theorem children (x : Int) (hx : i64 x) (w : World) (hT : TabAt w) : Calls Tryd.prog 39 #[.int .i64 x] w fun e w' => e = .returned (.tuple #[.int .i64 (kidL x), .int .i64 (kidR x)]) ∧ w = w' := by
  have hl := level x hx w hT
  have hb := Qk1 x hx
  by_cases h : lv x ≤ 0
  · have e1 : kidL x = -1 := by simp [kidL, h]
    have e2 : kidR x = -1 := by simp [kidR, h]
    rw [e1, e2]
    generalize lv x = k at *
    clear e1 e2
    go_enter Tryd.func39, Tryd.ntmps39
    go_wp2_with (go_at_call 50; refine hl.mono ?_; rintro e w' ⟨rfl, rfl⟩)
    go_ret2
    exact ⟨rfl, rfl⟩
  · have e1 : kidL x = wrap64 (x - half (lv x)) := by simp [kidL, h]
    have e2 : kidR x = wrap64 (x + half (lv x)) := by simp [kidR, h]
    rw [e1, e2]
    generalize lv x = k at *
    clear e1 e2
    go_enter Tryd.func39, Tryd.ntmps39
    go_wp2_with (go_at_call 50; refine hl.mono ?_; rintro e w' ⟨rfl, rfl⟩)
    go_ret2
    exact ⟨rfl, rfl⟩
theorem root (n : Int) (w : World) : Calls Tryd.prog 27 #[.int .i64 n] w fun e w' => e = .returned (.int .i64 (if isTree n then n - 1 else -1)) ∧ w = w' := by
  have hn := tree n w
  cases ht : isTree n with
  | false =>
    rw [ht] at hn
    clear ht
    go_enter Tryd.func27, Tryd.ntmps27
    go_wp2_with (go_at_call 38; refine hn.mono ?_; rintro e w' ⟨rfl, rfl⟩)
    go_ret
    exact ⟨rfl, rfl⟩
  | true =>
    rw [ht] at hn
    have hc := Qbz ht
    have hb : 1 ≤ n ∧ n ≤ 32 := by omega
    clear hc ht
    go_enter Tryd.func27, Tryd.ntmps27
    go_wp2_with (go_at_call 38; refine hn.mono ?_; rintro e w' ⟨rfl, rfl⟩)
    go_ret
    exact ⟨rfl, rfl⟩
end Go.Proofs.YtibegnjaphohaaaDoor.Seat
end
section
namespace Go.Proofs.YtibegnjaphohaaaDoor.Cn
open Go Go.RowKit
open Rely Auto Own Sha
set_option linter.unusedVariables false
set_option linter.unusedSimpArgs false
open Go.Proofs.YtibegnjaphohaaaDoor
def OwnR (T : TypeId) (base : Nat) (vs : List Value) (v : Value) (W : World) : Prop := W.ownsRow base T 1 v vs.length vs ∧ vs.length ≤ maxLen
theorem OwnR.keep {T : TypeId} {base : Nat} {vs : List Value} {v : Value} {W W' : World} (h : OwnR T base vs v W) (hk : ∀ g, v.ownBlock = some g → W'.heap[g]? = W.heap[g]?) : OwnR T base vs v W' := by
  obtain ⟨⟨h1, h2⟩, hm⟩ := h
  refine ⟨⟨h1, ?_⟩, hm⟩
  rcases h2 with h2 | ⟨g, c, cur, rfl, q2, q3, q4, q5, q6, q7⟩
  · exact .inl h2
  · exact .inr ⟨g, c, cur, rfl, q2, (hk g rfl).trans q3, q4, q5, q6, q7⟩
theorem OwnR.at {T : TypeId} {base : Nat} {vs : List Value} {v : Value} {W : World} (h : OwnR T base vs v W) {g : Nat} (hg : v.ownBlock = some g) : base ≤ g ∧ ∃ cur, W.heap[g]? = some (.cells cur T) := by
  rcases h.1.2 with ⟨rfl, _⟩ | ⟨g', c, cur, rfl, q2, q3, _⟩
  · cases hg
  · obtain rfl : g' = g := Option.some.inj hg
    exact ⟨q2, cur, q3⟩
theorem Qdz {W : World} {g : Nat} {c c' : Array Value} {T T' : TypeId} (h : W.heap[g]? = some (.cells c T)) (h' : W.heap[g]? = some (.cells c' T')) (hne : T ≠ T') : False := by
  rw [h] at h'
  simp only [Option.some.injEq, Obj.cells.injEq] at h'
  exact hne h'.2.1
theorem Qlj {P : Program} {T : TypeId} {z : Value} {b : Nat} (hi : (P.info? T).map (fun i => (i.zero, i.size, i.bytes)) = some (some z, 1, b)) : ∃ i, P.info? T = some i ∧ i.zero = some z ∧ i.size = 1 ∧ i.bytes = b := by
  cases hq : P.info? T with
  | none => rw [hq] at hi; cases hi
  | some i =>
    rw [hq] at hi
    simp only [Option.map_some, Option.some.injEq, Prod.mk.injEq] at hi
    exact ⟨i, rfl, hi.1, hi.2.1, hi.2.2⟩
theorem Qit {P : Program} {ρ : Operand → Value} {o : Oper} {W : World} {T : TypeId} (base b : Nat) (s x : Operand) (t : TypeId) (ho : o.op = .call { callee := .builtin .append, args := #[s, x], argTypes := #[t, t] })
    (ht : P.underlying t = some (.slice T)) (z : Value) (hi : (P.info? T).map (fun i => (i.zero, i.size, i.bytes)) = some (some z, 1, b)) (hz : z.cells.size = 1) (hb : b ≤ 100) {v y : Value} {vs : List Value} {gy c : Nat} {Ty : TypeId}
    (hs : ρ s = v) (hx : ρ x = .slice (some ⟨gy, 0, none⟩) 1 c) (ry : W.heap[gy]? = some (.cells #[y] Ty)) (h1 : y.oneCell' = true)
    (h : OwnR T base vs v W) (hn : vs.length ≤ 100000) (hV : base ≤ W.heap.size) :
    ∃ u W', (execOp ρ o).run P W = .ok (.value u) W' ∧ OwnR T base (vs ++ [y]) u W' ∧ W.grownBy W' v.ownBlock := by
  obtain ⟨i, hq, hi1, hi2, hi3⟩ := Qlj hi
  obtain ⟨v', W', hr, h2, h3, _, h5⟩ := run_append_own_at (P := P) W base t o.type T i z 1 b ht hq hi1 hi2 hi3 hz (by omega) v vs.length vs h.1 ⟨gy, 0, none⟩ 1 c [y] (by simp)
    (fun j u hu => by
      cases j with
      | zero =>
        simp only [List.getElem?_cons_zero, Option.some.injEq] at hu
        subst hu
        rw [WideShapes.add_plain]
        exact Qcp ry rfl
      | succ j => simp at hu) (fun u hu => by rw [List.mem_singleton.1 hu]; exact h1) (by simp only [maxLen]; omega) (by
        have : (vs.length + 1) * b ≤ 100001 * 100 := Nat.mul_le_mul (by omega) hb
        omega) hV
  refine ⟨v', W', ?_, ⟨by rw [List.length_append]; exact h2, by rw [List.length_append]; simp only [maxLen]; show _ + 1 ≤ _; omega⟩, h3⟩
  unfold execOp
  simp only [ho, resolve, invoke, builtin, Sem.run_bind, Sem.run_pure, Result.andThen_ok, List.map_toArray, List.map_cons, List.map_nil, hs, hx, hr]
structure GP (base gc : Nat) (w W : World) : Prop where
  os : W.os = w.os
  tape : W.tape = w.tape
  output : W.output = w.output
  size : w.heap.size ≤ W.heap.size
  block : ∀ k, k < w.heap.size → k ≠ gc → (k < base ∨ ∀ cs fr, w.heap[k]? ≠ some (.cells cs 75 fr)) → W.heap[k]? = w.heap[k]?
theorem GP.refl (base gc : Nat) (w : World) : GP base gc w w := ⟨rfl, rfl, rfl, Nat.le_refl _, fun _ _ _ _ => rfl⟩
theorem GP.trans {base gc : Nat} {u w W : World} (h : GP base gc u w) (k : GP base gc w W) : GP base gc u W :=
  ⟨k.os.trans h.os, k.tape.trans h.tape, k.output.trans h.output, Nat.le_trans h.size k.size, fun i hi hn hc => by
    have e := h.block i hi hn hc
    refine (k.block i (Nat.lt_of_lt_of_le hi h.size) hn ?_).trans e
    rcases hc with hc | hc
    · exact .inl hc
    · exact .inr fun cs fr => by rw [e]; exact hc cs fr⟩
theorem GP.of_ext {base gc : Nat} {w W : World} (e : Ext w W) : GP base gc w W := ⟨e.os, e.tape, e.output, e.size, fun k hk _ _ => e.block k hk⟩
theorem GP.ext {base gc : Nat} {u w W : World} (h : GP base gc u w) (e : Ext w W) : GP base gc u W := h.trans (GP.of_ext e)
theorem GP.put {base gc g : Nat} {u w W : World} (h : GP base gc u w) (p : Puts w g W) (hg : u.heap.size ≤ g) : GP base gc u W :=
  ⟨p.1.trans h.os, p.2.1.trans h.tape, p.2.2.1.trans h.output, by have := h.size; have := p.2.2.2.1; omega, fun k hk hn hc => (p.2.2.2.2 k (by omega)).trans (h.block k hk hn hc)⟩
theorem GP.putg {base gc : Nat} {u w W : World} (h : GP base gc u w) (p : Puts w gc W) : GP base gc u W :=
  ⟨p.1.trans h.os, p.2.1.trans h.tape, p.2.2.1.trans h.output, by have := h.size; have := p.2.2.2.1; omega, fun k hk hn hc => (p.2.2.2.2 k hn).trans (h.block k hk hn hc)⟩
theorem GP.row {base gc g : Nat} {w W : World} {c : Array Value} {T : TypeId} (h : GP base gc w W) (r : w.heap[g]? = some (.cells c T)) (hT : T ≠ 75) (hn : g ≠ gc) : W.heap[g]? = some (.cells c T) :=
  (h.block g (Qat r) hn (.inr fun cs fr e => by rw [r] at e; simp only [Option.some.injEq, Obj.cells.injEq] at e; exact hT e.2.1)).trans r
theorem GP.low {base gc g : Nat} {w W : World} {ob : Obj} (h : GP base gc w W) (r : w.heap[g]? = some ob) (hb : g < base) (hn : g ≠ gc) : W.heap[g]? = some ob := (h.block g (Qat r) hn (.inl hb)).trans r
theorem GP.grown {base gc : Nat} {w W : World} {vs : List Value} {v : Value} (h : w.grownBy W v.ownBlock) (hv : OwnR 75 base vs v w) : GP base gc w W :=
  ⟨h.os, h.tape, h.output, h.size, fun k hk hn hc => h.block k hk fun e => by
    obtain ⟨h1, cur, h2⟩ := hv.at e.symm
    rcases hc with hc | hc
    · omega
    · exact hc _ _ h2⟩
theorem ChSt.gp {base gc g mg : Nat} {s0 ts : List Int} {pl : Nat} {ms : List (Int × List Int)} {W W' : World} (h : ChSt g mg s0 ts pl ms W) (q : GP base gc W W') (hg : g ≠ gc) (hm : mg ≠ gc) : ChSt g mg s0 ts pl ms W' := by
  obtain ⟨B, h1, h2⟩ := h.row
  obtain ⟨es, c, h3, -⟩ := id h.mp
  exact h.keep ((q.row h2 (by decide) hg).trans h2.symm) (q.block mg (Qat h3) hm (.inr fun cs fr e => by rw [h3] at e; cases e))
def GrS (base gc : Nat) (cs : List (Nat × Nat)) (W : World) : Prop := ∃ v, W.heap[gc]? = some (.cells #[v] 70) ∧ OwnR 75 base (cs.map fun p => Value.pointer (some ⟨p.1, 0, none⟩)) v W
theorem GrS.ext {base gc : Nat} {cs : List (Nat × Nat)} {W W' : World} (h : GrS base gc cs W) (e : Ext W W') : GrS base gc cs W' := by
  obtain ⟨v, h1, h2⟩ := h
  exact ⟨v, Qab h1 e, h2.keep fun g hg => by obtain ⟨-, cur, hc⟩ := h2.at hg; exact e.block g (Qat hc)⟩
def lftV (sec : List Int) : List Int := Qbm sec (strB Qfe)
def rgtV (sec : List Int) : List Int := Qbm sec (strB Qd2)
attribute [irreducible] lftV rgtV
theorem Qcs (sec : List Int) : (lftV sec).length = 32 := by unfold lftV; exact QcS _ _
theorem Qcq (sec : List Int) : (rgtV sec).length = 32 := by unfold rgtV; exact QcS _ _
theorem Qdu (sec : List Int) : Qao (lftV sec) := by unfold lftV; exact Qcv _ _
theorem Qdq (sec : List Int) : Qao (rgtV sec) := by unfold rgtV; exact Qcv _ _
def QaL (sec : List Int) : Nat → Nat → List Int
  | 0, _ => sec
  | k + 1, j => if j < 2 ^ k then QaL (lftV sec) k j else QaL (rgtV sec) k (j - 2 ^ k)
def lvOk : Nat → Int → Bool
  | 0, x => decide (0 ≤ x) && decide (x ≤ 62) && decide (Seat.kidL x < 0)
  | k + 1, x => decide (0 ≤ x) && decide (x ≤ 62) && decide (0 ≤ Seat.kidL x) && lvOk k (Seat.kidL x) && lvOk k (Seat.kidR x)
theorem QhE : ∀ k : Fin 6, lvOk k.val (((2 ^ k.val : Nat) : Int) - 1) = true := by decide +kernel
theorem Qgp {k : Nat} {x : Int} (h : lvOk k x = true) : 0 ≤ x ∧ x ≤ 62 := by
  cases k <;> (unfold lvOk at h; simp only [Bool.and_eq_true, decide_eq_true_eq] at h)
  · exact h.1
  · exact h.1.1.1
def GrR (base gc : Nat) (cs : List (Nat × Nat)) (sec : List Int) (k : Nat) (W W' : World) : Prop := GP base gc W W' ∧ ∃ ns : List (Nat × Nat), ns.length = 2 ^ k ∧ GrS base gc (cs ++ ns) W' ∧ (∀ j p, ns[j]? = some p → ChSt p.1 p.2 (QaL sec k j) [] 0 [] W' ∧ W.heap.size ≤ p.1 ∧ W.heap.size ≤ p.2) ∧ (ns.map Prod.fst).Nodup ∧ (ns.map Prod.snd).Nodup
theorem QhZ (pl : Nat → Option (Nat × Nat)) (i off n : Nat) (v : Value) (pre : List (Array Value)) (mid : Array Value) (post : List (Array Value)) (ps : List (Nat × Value)) (h1 : pl i = some (off, n)) (hoff : (cat pre).size = off) (hm : mid.size = n) (hv : v.cells.size = n) :
    Instr.fill pl (cat (pre ++ ([mid] ++ post))) ((i, v) :: ps) = Instr.fill pl (cat (pre ++ ([v.cells] ++ post))) ps := by
  have hz : (v.cells.zipIdx.foldl (fun cs (x : Value × Nat) => cs.setIfInBounds (off + x.2) x.1) (cat (pre ++ ([mid] ++ post)))) = cat (pre ++ ([v.cells] ++ post)) := by
    have e1 : v.cells.zipIdx = (v.cells.toList.zipIdx 0).toArray := by
      apply Array.ext'
      simp
    rw [e1, List.foldl_toArray', Qc6]
    · rw [Nat.add_zero]
      have := Qdy pre [mid] [v.cells] post off hoff (by show (cat [v.cells]).size = (cat [mid]).size; simp [cat, hm, hv])
      rw [show (cat [v.cells]).toList = v.cells.toList by simp [cat]] at this
      exact this
    · rfl
  rw [Instr.fill, h1]
  simp only
  have hs : (cat (pre ++ ([mid] ++ post))).size = off + (n + (cat post).size) := by rw [QaJ, Array.size_append, hoff]; show off + (cat (mid :: post)).size = _; rw [Qae, Array.size_append, hm]
  rw [if_neg (by rw [hv, hs]; simp)]
  show Instr.fill pl (v.cells.zipIdx.foldl (fun cs (x : Value × Nat) => cs.setIfInBounds (off + x.2) x.1) (cat (pre ++ ([mid] ++ post)))) ps = _
  rw [hz]
theorem QgK {P : Program} {ρ : Operand → Value} {o : Oper} {w : World} (t : TypeId) (parts : Array (Nat × Operand)) (z : Value) (places : Array (Nat × Nat)) (r zc : Array Value) (ps : List (Nat × Value)) (ho : o.op = .build t parts) (hv : (parts.map fun (i, x) => (i, ρ x)).toList = ps) (hzc : z = .agg zc) (hf : Instr.fill (fun i => places[i]?) zc ps = some r)
    (hz : (zeroValue t).run P w = .ok z w) (hu : P.underlying t = some (.struct (P.fieldsOf t))) (hm : ((P.fieldsOf t).mapM fun f => do pure (f.offset, ← sizeOf f.type) : Sem (Array (Nat × Nat))).run P w = .ok places w) :
    (execOp ρ o).run P w = .ok (.value (.agg r)) w := by
  subst hzc
  rw [← hv] at hf
  have hB : (Instr.build t (parts.map fun (i, x) => (i, ρ x))).run P w = .ok (.agg r) w := by
    unfold Instr.build
    rw [Sem.run_bind, hz, Result.andThen_ok, Sem.run_bind, run_underlying hu w, Result.andThen_ok]
    show (Sem.run P _ w) = _
    rw [Sem.run_bind, hm, Result.andThen_ok]
    simp only [show (Value.agg zc).cells = zc from rfl, hf]
    rfl
  unfold execOp
  simp only [ho, Sem.run_bind, hB, Result.andThen_ok, Sem.run_pure]
theorem Qf2 {base : Nat} {vs : List Value} {v : Value} {W W' : World} {g : Nat} {c : Array Value} {T : TypeId} (h : W.grownBy W' v.ownBlock) (hv : OwnR 75 base vs v W) (r : W.heap[g]? = some (.cells c T)) (hT : T ≠ 75) : W'.heap[g]? = some (.cells c T) :=
  (h.block g (Qat r) fun e => by obtain ⟨-, cur, h2⟩ := hv.at e.symm; exact Qdz r h2 hT).trans r
theorem QiV {g gm : Nat} {sec : List Int} {W : World} (hl : sec.length = 32) (hb : Qao sec) (r : W.heap[g]? = some (.cells (cat [#[.int .i64 0], #[.int .u64 0], ints .u8 (sec), #[.int .i64 0], #[.map (some gm)]]) 84)) (hm : W.heap[gm]? = some (.map #[] 0)) : ChSt g gm sec [] 0 [] W :=
  ⟨hl, hb, ⟨0, QhL, r⟩, ⟨_, _, hm, QjD 0⟩, ⟨fun p hp => absurd hp List.not_mem_nil, fun k hk _ _ => absurd hk (Nat.not_lt_zero _)⟩⟩
theorem QjP (pl : Nat → Option (Nat × Nat)) (h1 : pl 1 = some (2, 32)) (h3 : pl 3 = some (35, 1)) (sec : List Int) (hl : sec.length = 32) (gm : Nat) : Instr.fill pl (cat [#[.int .i64 0], #[.int .u64 0], ints .u8 (List.replicate 32 0), #[.int .i64 0], #[.map none]]) [(1, .agg (ints .u8 sec)), (3, .map (some gm))] = some (cat [#[.int .i64 0], #[.int .u64 0], ints .u8 sec, #[.int .i64 0], #[.map (some gm)]]) := by
  refine (QhZ pl 1 2 32 (.agg (ints .u8 sec)) [#[.int .i64 0], #[.int .u64 0]] (ints .u8 (List.replicate 32 0)) [#[.int .i64 0], #[.map none]] [(3, .map (some gm))] h1 rfl (by rw [Qac]; rfl) ((Qac _ _).trans hl)).trans ?_
  refine (QhZ pl 3 35 1 (.map (some gm)) [#[.int .i64 0], #[.int .u64 0], ints .u8 sec, #[.int .i64 0]] #[.map none] [] [] h3 (by rw [Qae, Qae, Qae, Qae]; simp only [Array.size_append, cat, (Qac _ _).trans hl]; rfl) rfl rfl).trans rfl
theorem OwnR.sl {T : TypeId} {base : Nat} {vs : List Value} {v : Value} {W : World} (h : OwnR T base vs v W) : ∃ a n c, v = .slice a n c := by
  rcases h.1.2 with ⟨rfl, _⟩ | ⟨g, c, cur, rfl, _⟩
  · exact ⟨_, _, _, rfl⟩
  · exact ⟨_, _, _, rfl⟩
theorem appG {P : Program} {ρ : Operand → Value} {o : Oper} {W : World} {base gc : Nat} {s x : Operand} {t : TypeId} {v y : Value} {vs : List Value} {gy c g1 g2 : Nat} {Ty T1 T2 : TypeId} {c1 c2 : Array Value} (ho : o.op = .call { callee := .builtin .append, args := #[s, x], argTypes := #[t, t] })
    (ht : P.underlying t = some (.slice 75)) (hi : (P.info? 75).map (fun i => (i.zero, i.size, i.bytes)) = some (some (.pointer none), 1, 8))
    (hs : ρ s = v) (hx : ρ x = .slice (some ⟨gy, 0, none⟩) 1 c) (ry : W.heap[gy]? = some (.cells #[y] Ty)) (h1 : y.oneCell' = true)
    (h : OwnR 75 base vs v W) (hn : vs.length ≤ 100000) (hV : base ≤ W.heap.size) (r1 : W.heap[g1]? = some (.cells c1 T1)) (n1 : T1 ≠ 75) (r2 : W.heap[g2]? = some (.cells c2 T2)) (n2 : T2 ≠ 75) :
    ∃ u W', (execOp ρ o).run P W = .ok (.value u) W' ∧ OwnR 75 base (vs ++ [y]) u W' ∧ GP base gc W W' ∧ W'.heap[g1]? = some (.cells c1 T1) ∧ W'.heap[g2]? = some (.cells c2 T2) := by
  obtain ⟨u, W', q1, q2, q3⟩ := Qit (P := P) base 8 s x t ho ht (.pointer none) hi rfl (by decide) hs hx ry h1 h hn hV
  exact ⟨u, W', q1, q2, GP.grown q3 h, Qf2 q3 h r1 n1, Qf2 q3 h r2 n2⟩
theorem gr0 {base gc g gm : Nat} {cs : List (Nat × Nat)} {sec : List Int} {w W2 W3 : World} {v0 u1 : Value} (x : GP base gc w W2) (r0 : W2.heap[gc]? = some (.cells #[v0] 70)) (hv : OwnR 75 base ((cs.map fun p => Value.pointer (some ⟨p.1, 0, none⟩)) ++ [.pointer (some ⟨g, 0, none⟩)]) u1 W2)
    (hc : ChSt g gm sec [] 0 [] W2) (p : Puts W2 gc W3) (r : W3.heap[gc]? = some (.cells #[u1] 70)) (lg : w.heap.size ≤ g) (lm : w.heap.size ≤ gm) (hl : gc < w.heap.size) : GrR base gc cs sec 0 w W3 := by
  have hk : ∀ k, k ≠ gc → W3.heap[k]? = W2.heap[k]? := fun k hn => p.2.2.2.2 k hn
  refine ⟨GP.putg x p, [(g, gm)], rfl, ⟨u1, r, ?_⟩, ?_, by simp, by simp⟩
  · rw [List.map_append]
    exact hv.keep fun k hk' => hk k fun e => by obtain ⟨-, cur, h2⟩ := hv.at hk'; rw [e] at h2; exact Qdz r0 h2 (by decide)
  · intro j q hj
    cases j with
    | succ j => cases hj
    | zero =>
      obtain rfl : (g, gm) = q := Option.some.inj hj
      exact ⟨hc.keep (hk g (by show g ≠ gc; omega)) (hk gm (by show gm ≠ gc; omega)), lg, lm⟩
theorem QjH {sec : List Int} {k j : Nat} (h : j < 2 ^ k) : QaL sec (k + 1) j = QaL (lftV sec) k j := by rw [QaL, if_pos h]
theorem QjG {sec : List Int} {k j : Nat} : QaL sec (k + 1) (2 ^ k + j) = QaL (rgtV sec) k j := by rw [QaL, if_neg (by omega), Nat.add_sub_cancel_left]
theorem grS {base gc k : Nat} {cs n1 : List (Nat × Nat)} {sec : List Int} {w W1 W2 W3 W4 : World} (x : GP base gc w W1) (q1 : GP base gc W1 W2) (l1 : n1.length = 2 ^ k) (c1 : ∀ j p, n1[j]? = some p → ChSt p.1 p.2 (QaL (lftV sec) k j) [] 0 [] W2 ∧ W1.heap.size ≤ p.1 ∧ W1.heap.size ≤ p.2) (d1 : (n1.map Prod.fst).Nodup) (d2 : (n1.map Prod.snd).Nodup) (e : GP base gc W2 W3) (h : GrR base gc (cs ++ n1) (rgtV sec) k W3 W4) (hl : gc < w.heap.size) : GrR base gc cs sec (k + 1) w W4 := by
  obtain ⟨q2, n2, l2, g2, c2, d3, d4⟩ := h
  refine ⟨(x.trans q1).trans (e.trans q2), n1 ++ n2, by rw [List.length_append, l1, l2, Nat.pow_succ]; omega, by rw [← List.append_assoc]; exact g2, ?_, ?_, ?_⟩
  · intro j p hj
    rcases Nat.lt_or_ge j (2 ^ k) with hjk | hjk
    · rw [List.getElem?_append_left (by omega)] at hj
      obtain ⟨a1, a2, a3⟩ := c1 j p hj
      have := x.size
      rw [QjH hjk]
      exact ⟨a1.gp (e.trans q2) (by omega) (by omega), by omega, by omega⟩
    · rw [List.getElem?_append_right (by omega), l1] at hj
      obtain ⟨a1, a2, a3⟩ := c2 _ p hj
      have := x.size
      have := q1.size
      have := e.size
      rw [show j = 2 ^ k + (j - 2 ^ k) by omega, QjG]
      exact ⟨a1, by omega, by omega⟩
  · rw [List.map_append]
    refine List.nodup_append.2 ⟨d1, d3, fun a ha b hb he => ?_⟩
    obtain ⟨p, hp, rfl⟩ := List.mem_map.1 ha
    obtain ⟨q, hq, rfl⟩ := List.mem_map.1 hb
    obtain ⟨i, hi⟩ := List.mem_iff_getElem?.1 hp
    obtain ⟨j, hj⟩ := List.mem_iff_getElem?.1 hq
    have h1 := (c1 i p hi).1.glt
    have h2 := (c2 j q hj).2.1
    have := e.size
    omega
  · rw [List.map_append]
    refine List.nodup_append.2 ⟨d2, d4, fun a ha b hb he => ?_⟩
    obtain ⟨p, hp, rfl⟩ := List.mem_map.1 ha
    obtain ⟨q, hq, rfl⟩ := List.mem_map.1 hb
    obtain ⟨i, hi⟩ := List.mem_iff_getElem?.1 hp
    obtain ⟨j, hj⟩ := List.mem_iff_getElem?.1 hq
    have h1 := (c1 i p hi).1.mp.lt
    have h2 := (c2 j q hj).2.2
    have := e.size
    omega
theorem Qkp {base gc : Nat} {w W : World} (h : Seat.TabAt w) (q : GP base gc w W) (hb : 0 < base) (hn : 0 ≠ gc) : Seat.TabAt W :=
  ⟨Nat.lt_of_lt_of_le h.1 q.size, fun j hj => by rw [World.cell?_of_block (q.block _ h.1 hn (.inl hb))]; exact h.2 j hj⟩
theorem Qjt (x : Int) (hx : 0 ≤ x ∧ x ≤ 62) (W : World) (hT : Seat.TabAt W) : Calls Tryd.prog 39 #[.int .i64 x] W (Ret W (.tuple #[.int .i64 (Seat.kidL x), .int .i64 (Seat.kidR x)])) :=
  (Seat.children x ⟨by omega, by omega⟩ W hT).mono fun e W' hh => ⟨hh.1, hh.2 ▸ Rely.Ext.refl _⟩
set_option maxHeartbeats 4000000 in
theorem Qk9 (base gc : Nat) (cs : List (Nat × Nat)) (sec : List Int) (x : Int) (tc tq : TypeId) (w : World) (hc : w.heap[2]? = some (.cells (ints .u64 QaI) tc)) (hq : w.heap[1]? = some (.cells (ints .u64 Qak) tq)) (hT : Seat.TabAt w) (hsl : sec.length = 32) (hsb : Qao sec) (hb : base ≤ w.heap.size) (hcn : cs.length ≤ 1000) (hgs : GrS base gc cs w) (hlv : lvOk 0 x = true) : Calls Tryd.prog 28 #[.pointer (some ⟨gc, 0, none⟩), .agg (ints .u8 sec), .int .i64 x] w (fun e W => e = .returned (.tuple #[]) ∧ GrR base gc cs sec 0 w W) := by
  obtain ⟨v0, hgc, hv0⟩ := hgs
  have hgcl := Qat hgc
  have hk0 : Seat.kidL x < 0 := by unfold lvOk at hlv; simp only [Bool.and_eq_true, decide_eq_true_eq] at hlv; exact hlv.2
  refine enter 38 [(0, .pointer (some ⟨gc, 0, none⟩)), (1, .agg (ints .u8 (sec))), (2, .int .i64 x)] Tryd.func28 rfl rfl kj rfl ?_
  refine wp_seq_k fun K2 hK2 => ?_
  refine Qad ?_
  refine Qar (ints .u8 (sec)) 23 4 rfl kj kj fun g3 W1 l3 e1 r3_1 => ?_
  have x1 : GP base gc w W1 := GP.ext (GP.refl base gc w) e1
  have b3 : w.heap.size ≤ g3 := Nat.le_trans (GP.refl base gc w).size l3
  refine Qaj ?_
  refine hK2 _ _ ?_
  refine wp_seq_k fun K4 hK4 => ?_
  refine Qad ?_
  refine Qaa (.int .i64 x) 9 rfl kj kj ?_
  have y0_1 : Ext w W1 := (Rely.Ext.trans (Rely.Ext.refl w) e1)
  refine Qax (.tuple #[.int .i64 (Seat.kidL x), .int .i64 (Seat.kidR x)]) 39 #[.int .i64 x] 10 rfl kj kj (Qjt x (Qgp hlv) _ (hT.ext y0_1)) fun W2 e2 => ?_
  have x2 : GP base gc w W2 := GP.ext x1 e2
  refine Qaa (.tuple #[.int .i64 (Seat.kidL x), .int .i64 (Seat.kidR x)]) 8 rfl kj kj ?_
  refine Qaa (.int .i64 (Seat.kidL x)) 11 rfl kj kj ?_
  refine Qaa (.int .i64 (Seat.kidR x)) 12 rfl kj kj ?_
  refine Qaa (.int .i64 (Seat.kidL x)) 6 rfl kj kj ?_
  refine Qaa (.int .i64 (Seat.kidR x)) 7 rfl kj kj ?_
  refine Qaj ?_
  refine hK4 _ _ ?_
  refine wp_seq_k fun K5 hK5 => ?_
  refine wp_seq_k fun K6 hK6 => ?_
  refine Qad ?_
  refine Qaa (.int .i64 (Seat.kidL x)) 13 rfl kj kj ?_
  refine Qaa (.bool true) 14 rfl kj (Qag (u := .bool (decide ((Seat.kidL x) < 0))) kj (congrArg Value.bool (decide_eq_true hk0))) ?_
  refine Qaj ?_
  refine hK6 _ _ ?_
  refine cond_true kj ?_
  refine wp_seq_k fun K7 hK7 => ?_
  have r1_1 := (Qab hgc e1)
  have r1_2 := (Qab r1_1 e2)
  have r3_2 := (Qab r3_1 e2)
  refine Go.Proofs.YtibegnjaphohaaaDoor.Wm.region_walkM (fun W => W.heap[gc]? = some (.cells (#[v0]) 70) ∧ W.heap[g3]? = some (.cells (ints .u8 (sec)) 23)) 13 kj fun W3 e3 => ⟨⟨Qab r1_2 e3, Qab r3_2 e3⟩, ?_⟩
  have x3 : GP base gc w W3 := GP.ext x2 e3
  refine Go.Proofs.YtibegnjaphohaaaDoor.Wm.wm_val 0 (.pointer (some ⟨gc, 0, none⟩)) 15 rfl rfl kj kj (by decide) kj (fun _ _ _ h => h) (fun W hR => by kernel_rfl) ?_
  refine Go.Proofs.YtibegnjaphohaaaDoor.Wm.wm_val 1 (.pointer (some ⟨gc, 0, none⟩)) 16 rfl rfl kj kj (by decide) kj (fun _ _ _ h => h) (fun W hR => by kernel_rfl) ?_
  refine Go.Proofs.YtibegnjaphohaaaDoor.Wm.wm_val 2 (.pointer (some ⟨gc, 0, none⟩)) 17 rfl rfl kj kj (by decide) kj (fun _ _ _ h => h) (fun W hR => by kernel_rfl) ?_
  refine Go.Proofs.YtibegnjaphohaaaDoor.Wm.wm_val 3 (.pointer (some ⟨gc, 0, none⟩)) 18 rfl rfl kj kj (by decide) kj (fun _ _ _ h => h) (fun W hR => by kernel_rfl) ?_
  refine Go.Proofs.YtibegnjaphohaaaDoor.Wm.wm_val 4 (v0) 19 rfl rfl kj kj (by decide) kj (fun _ _ _ h => h) (fun W hR => (Qah 68 _ gc 0 70 _ (v0) _ hR.1 rfl kj kj kj)) ?_
  refine Go.Proofs.YtibegnjaphohaaaDoor.Wm.wm_val 5 (.agg (ints .u8 (sec))) 20 rfl rfl kj kj (by decide) kj (fun _ _ _ h => h) (fun W hR => (Qaw 23 _ g3 23 _ _ hR.2 rfl kj kj (isz (n := 32) kj ((Qac _ _).trans hsl)))) ?_
  have r1_3 := (Qab r1_2 e3)
  have r3_3 := (Qab r3_2 e3)
  refine Go.Proofs.YtibegnjaphohaaaDoor.Wm.wm_run 6 kj rfl (fun v W' => (∃ g, v = .map (some g) ∧ W3.heap.size ≤ g ∧ W'.heap[g]? = some (.map #[] 0)) ∧ Ext W3 W') 21 rfl kj ⟨.map (some W3.heap.size), W3.alloc (.map #[] 0), kj, ⟨_, rfl, Nat.le_refl _, heap_alloc_new _ _⟩, QbF _ _⟩ (fun v W h => ⟨Qab r1_3 h.2, Qab r3_3 h.2⟩) fun vv8 W4 hh8 => ?_
  obtain ⟨⟨gm, rfl, lgm, hgm⟩, e4⟩ := hh8
  have x4 : GP base gc w W4 := GP.ext x3 e4
  have lgm0 : w.heap.size ≤ gm := Nat.le_trans x3.size lgm
  refine Go.Proofs.YtibegnjaphohaaaDoor.Wm.wm_val 7 (.agg (cat [#[.int .i64 0], #[.int .u64 0], ints .u8 (sec), #[.int .i64 0], #[.map (some gm)]])) 22 rfl rfl kj kj (by decide) kj (fun _ _ _ h => h) (fun W hR => (QgK 84 _ (.agg (cat [#[.int .i64 0], #[.int .u64 0], ints .u8 (List.replicate 32 0), #[.int .i64 0], #[.map none]])) #[(0, 2), (2, 32), (34, 1), (35, 1)] (cat [#[.int .i64 0], #[.int .u64 0], ints .u8 (sec), #[.int .i64 0], #[.map (some gm)]]) _ [(1, .agg (ints .u8 sec)), (3, .map (some gm))] rfl kj rfl (QjP (fun i => (#[(0, 2), (2, 32), (34, 1), (35, 1)] : Array (Nat × Nat))[i]?) rfl rfl sec hsl gm) kj kj kj)) ?_
  have r1_4 := (Qab r1_3 e4)
  have r3_4 := (Qab r3_3 e4)
  refine Go.Proofs.YtibegnjaphohaaaDoor.Wm.wm_run 8 kj rfl (fun v W' => (∃ g, v = .pointer (some ⟨g, 0, none⟩) ∧ W4.heap.size ≤ g ∧ W'.heap[g]? = some (.cells (cat [#[.int .i64 0], #[.int .u64 0], ints .u8 (sec), #[.int .i64 0], #[.map (some gm)]]) 84)) ∧ Ext W4 W') 23 rfl kj ⟨.pointer (some ⟨W4.heap.size, 0, none⟩), W4.alloc (.cells (cat [#[.int .i64 0], #[.int .u64 0], ints .u8 (sec), #[.int .i64 0], #[.map (some gm)]]) 84), kj, ⟨_, rfl, Nat.le_refl _, heap_alloc_new _ _⟩, QbF _ _⟩ (fun v W h => ⟨Qab r1_4 h.2, Qab r3_4 h.2⟩) fun vv10 W5 hh10 => ?_
  obtain ⟨⟨g11, rfl, l11, r11_5⟩, e5⟩ := hh10
  have x5 : GP base gc w W5 := GP.ext x4 e5
  have b11 : w.heap.size ≤ g11 := Nat.le_trans x4.size l11
  have r1_5 := (Qab r1_4 e5)
  have r3_5 := (Qab r3_4 e5)
  refine Go.Proofs.YtibegnjaphohaaaDoor.Wm.wm_run 9 kj rfl (fun v W' => (∃ g, v = .slice (some ⟨g, 0, none⟩) 1 1 ∧ W5.heap.size ≤ g ∧ W'.heap[g]? = some (.cells #[.pointer (some ⟨g11, 0, none⟩)] 75)) ∧ Ext W5 W') 24 rfl kj ⟨.slice (some ⟨W5.heap.size, 0, none⟩) 1 1, W5.alloc (.cells #[.pointer (some ⟨g11, 0, none⟩)] 75), kj, ⟨_, rfl, Nat.le_refl _, heap_alloc_new _ _⟩, QbF _ _⟩ (fun v W h => ⟨Qab r1_5 h.2, Qab r3_5 h.2⟩) fun vv12 W6 hh12 => ?_
  obtain ⟨⟨g13, rfl, l13, r13_6⟩, e6⟩ := hh12
  have x6 : GP base gc w W6 := GP.ext x5 e6
  have r1_6 := (Qab r1_5 e6)
  have r3_6 := (Qab r3_5 e6)
  have r9_5 := (Qab hgm e5)
  have r9_6 := (Qab r9_5 e6)
  have r11_6 := (Qab r11_5 e6)
  have hv1 : OwnR 75 base (cs.map fun p => Value.pointer (some ⟨p.1, 0, none⟩)) v0 W6 := OwnR.keep hv0 fun g hg => by obtain ⟨-, cur, hc9⟩ := hv0.at hg; exact (Rely.Ext.trans (Rely.Ext.trans (Rely.Ext.trans (Rely.Ext.trans (Rely.Ext.trans (Rely.Ext.trans (Rely.Ext.refl w) e1) e2) e3) e4) e5) e6).block g (Qat hc9)
  have hch1 : ChSt g11 gm sec [] 0 [] W6 := QiV hsl hsb r11_6 r9_6
  refine Go.Proofs.YtibegnjaphohaaaDoor.Wm.wm_run 10 kj rfl (fun v W' => OwnR 75 base ((cs.map fun p => Value.pointer (some ⟨p.1, 0, none⟩)) ++ [.pointer (some ⟨g11, 0, none⟩)]) v W' ∧ GP base gc W6 W' ∧ W'.heap[gc]? = some (.cells (#[v0]) 70) ∧ W'.heap[g3]? = some (.cells (ints .u8 (sec)) 23)) 25 rfl kj (appG (c := 1) (s := .tmp 19) (x := .tmp 24) (t := 68) rfl kj kj kj kj r13_6 rfl hv1 (by rw [List.length_map]; omega) (Nat.le_trans hb x6.size) r1_6 (by decide) r3_6 (by decide)) (fun v W h => h.2.2) fun u1 W7 hh14 => ?_
  obtain ⟨hv2, q7, r1_7, r3_7⟩ := hh14
  have x7 : GP base gc w W7 := GP.trans x6 q7
  have hch2 := hch1.gp q7 (by omega) (by omega)
  obtain ⟨ua, un, uc, rfl⟩ := OwnR.sl hv2
  refine Go.Proofs.YtibegnjaphohaaaDoor.Wm.wm_run 11 kj rfl (fun v W' => v = .pointer (some ⟨gc, 0, none⟩) ∧ Ext W7 W') 26 rfl kj ⟨_, _, kj, rfl, Rely.Ext.refl _⟩ (fun v W h => ⟨Qab r1_7 h.2, Qab r3_7 h.2⟩) fun vv15 W8 hh15 => ?_
  obtain ⟨rfl, e8⟩ := hh15
  have x8 : GP base gc w W8 := GP.ext x7 e8
  have hv2_8 := OwnR.keep hv2 fun g hg => by obtain ⟨-, cur, hc9⟩ := OwnR.at hv2 hg; exact e8.block g (Qat hc9)
  have hch2_8 := ChSt.ext hch2 e8
  refine Go.Proofs.YtibegnjaphohaaaDoor.Wm.wm_val 12 (.pointer (some ⟨gc, 0, none⟩)) 27 rfl rfl kj kj (by decide) kj (fun _ _ _ h => h) (fun W hR => by kernel_rfl) ?_
  have r1_8 := (Qab r1_7 e8)
  have r3_8 := (Qab r3_7 e8)
  refine Go.Proofs.YtibegnjaphohaaaDoor.Wm.wm_store gc _ (#[.slice ua un uc]) 70 r1_8 kj kj rfl rfl kj (Qb6 68 _ _ gc 0 70 _ (.slice ua un uc) r1_8 rfl kj kj kj kj kj rfl) fun W9 p9 r1_9 => ?_
  have x9 : GP base gc w W9 := GP.putg x8 p9
  refine hK7 _ _ ?_
  refine wp_ret ?_
  repeat (first | with_reducible refine goR1 ?_ | with_reducible refine goR2 ?_)
  exact (show bodyPost _ _ _ .ret _ _ from ret0 rfl ⟨rfl, gr0 x8 r1_8 hv2_8 hch2_8 p9 r1_9 b11 lgm0 hgcl⟩)
theorem Qle (sec : List Int) (tc tq : TypeId) (w : World) (hc : w.heap[2]? = some (.cells (ints .u64 QaI) tc)) (hq : w.heap[1]? = some (.cells (ints .u64 Qak) tq)) (hsl : sec.length = 32) (hsb : Qao sec) : Calls Tryd.prog 40 #[.agg (ints .u8 sec), .string Qfe] w (Ret w (.agg (ints .u8 (lftV sec)))) := by
  unfold lftV
  exact QfQ sec Qfe tc tq w hc hq hsl hsb
theorem Qla (sec : List Int) (tc tq : TypeId) (w : World) (hc : w.heap[2]? = some (.cells (ints .u64 QaI) tc)) (hq : w.heap[1]? = some (.cells (ints .u64 Qak) tq)) (hsl : sec.length = 32) (hsb : Qao sec) : Calls Tryd.prog 40 #[.agg (ints .u8 sec), .string Qd2] w (Ret w (.agg (ints .u8 (rgtV sec)))) := by
  unfold rgtV
  exact QfQ sec Qd2 tc tq w hc hq hsl hsb
set_option maxHeartbeats 4000000 in
theorem Qk8 (k : Nat) (base gc : Nat) (cs : List (Nat × Nat)) (sec : List Int) (x : Int) (tc tq : TypeId) (w : World) (hc : w.heap[2]? = some (.cells (ints .u64 QaI) tc)) (hq : w.heap[1]? = some (.cells (ints .u64 Qak) tq)) (hT : Seat.TabAt w) (hsl : sec.length = 32) (hsb : Qao sec) (hb : base ≤ w.heap.size) (hcn : cs.length + 2 ^ (k + 1) ≤ 1000) (hgs : GrS base gc cs w) (hltc : 2 < base) (hlts : 1 < base) (hltt : 0 < base) (hnec : 2 ≠ gc) (hnes : 1 ≠ gc) (hnet : 0 ≠ gc) (ih : ∀ (cs : List (Nat × Nat)) (sec : List Int) (x : Int) (w : World), w.heap[2]? = some (.cells (ints .u64 QaI) tc) → w.heap[1]? = some (.cells (ints .u64 Qak) tq) → Seat.TabAt w → sec.length = 32 → Qao sec → base ≤ w.heap.size → cs.length + 2 ^ k ≤ 1000 → GrS base gc cs w → lvOk k x = true → Calls Tryd.prog 28 #[.pointer (some ⟨gc, 0, none⟩), .agg (ints .u8 sec), .int .i64 x] w (fun e W => e = .returned (.tuple #[]) ∧ GrR base gc cs sec k w W)) (hlv : lvOk (k + 1) x = true) : Calls Tryd.prog 28 #[.pointer (some ⟨gc, 0, none⟩), .agg (ints .u8 sec), .int .i64 x] w (fun e W => e = .returned (.tuple #[]) ∧ GrR base gc cs sec (k + 1) w W) := by
  have hgcl : gc < w.heap.size := by obtain ⟨v0, hgc, -⟩ := hgs; exact Qat hgc
  have hk0 : 0 ≤ Seat.kidL x := by unfold lvOk at hlv; simp only [Bool.and_eq_true, decide_eq_true_eq] at hlv; exact hlv.1.1.2
  have hlv2 : lvOk k (Seat.kidL x) = true ∧ lvOk k (Seat.kidR x) = true := by rw [lvOk] at hlv; simp only [Bool.and_eq_true, decide_eq_true_eq] at hlv; exact ⟨hlv.1.2, hlv.2⟩
  rw [Nat.pow_succ] at hcn
  refine enter 38 [(0, .pointer (some ⟨gc, 0, none⟩)), (1, .agg (ints .u8 (sec))), (2, .int .i64 x)] Tryd.func28 rfl rfl kj rfl ?_
  refine wp_seq_k fun K4 hK4 => ?_
  refine Qad ?_
  refine Qar (ints .u8 (sec)) 23 4 rfl kj kj fun g5 W1 l5 e1 r5_1 => ?_
  have x1 : GP base gc w W1 := GP.ext (GP.refl base gc w) e1
  have b5 : w.heap.size ≤ g5 := Nat.le_trans (GP.refl base gc w).size l5
  refine Qaj ?_
  refine hK4 _ _ ?_
  refine wp_seq_k fun K6 hK6 => ?_
  refine Qad ?_
  refine Qaa (.int .i64 x) 9 rfl kj kj ?_
  have ht1_7 := (hT.ext e1)
  refine Qax (.tuple #[.int .i64 (Seat.kidL x), .int .i64 (Seat.kidR x)]) 39 #[.int .i64 x] 10 rfl kj kj (Qjt x (Qgp hlv) _ ht1_7) fun W2 e2 => ?_
  have x2 : GP base gc w W2 := GP.ext x1 e2
  refine Qaa (.tuple #[.int .i64 (Seat.kidL x), .int .i64 (Seat.kidR x)]) 8 rfl kj kj ?_
  refine Qaa (.int .i64 (Seat.kidL x)) 11 rfl kj kj ?_
  refine Qaa (.int .i64 (Seat.kidR x)) 12 rfl kj kj ?_
  refine Qaa (.int .i64 (Seat.kidL x)) 6 rfl kj kj ?_
  refine Qaa (.int .i64 (Seat.kidR x)) 7 rfl kj kj ?_
  refine Qaj ?_
  refine hK6 _ _ ?_
  refine wp_seq_k fun K8 hK8 => ?_
  refine wp_seq_k fun K9 hK9 => ?_
  refine Qad ?_
  refine Qaa (.int .i64 (Seat.kidL x)) 13 rfl kj kj ?_
  refine Qaa (.bool false) 14 rfl kj (Qag (u := .bool (decide ((Seat.kidL x) < 0))) kj (congrArg Value.bool (decide_eq_false (by omega)))) ?_
  refine Qaj ?_
  refine hK9 _ _ ?_
  refine cond_false kj ?_
  refine wp_skip ?_
  refine hK8 _ _ ?_
  refine wp_seq_k fun K10 hK10 => ?_
  refine Qad ?_
  refine Qaa (.pointer (some ⟨gc, 0, none⟩)) 28 rfl kj kj ?_
  have r5_2 := (Qab r5_1 e2)
  refine Qaa (.agg (ints .u8 (sec))) 29 rfl kj (Qaw 23 _ g5 23 _ _ r5_2 rfl kj kj (isz (n := 32) kj ((Qac _ _).trans hsl))) ?_
  have r2_1 := (Qab hc e1)
  have r2_2 := (Qab r2_1 e2)
  have r3_1 := (Qab hq e1)
  have r3_2 := (Qab r3_1 e2)
  refine Qax (.agg (ints .u8 (lftV sec))) 40 #[.agg (ints .u8 (sec)), .string Qfe] 30 rfl kj kj (Qle sec tc tq _ r2_2 r3_2 hsl hsb) fun W3 e3 => ?_
  have x3 : GP base gc w W3 := GP.ext x2 e3
  refine Qaa (.int .i64 (Seat.kidL x)) 31 rfl kj kj ?_
  have r2_3 := (Qab r2_2 e3)
  have r3_3 := (Qab r3_2 e3)
  have ht3_11 := ((ht1_7.ext e2).ext e3)
  refine Qa8 (fun v W' => v = .tuple #[] ∧ GrR base gc cs (lftV sec) k W3 W') 28 #[.pointer (some ⟨gc, 0, none⟩), .agg (ints .u8 (lftV sec)), .int .i64 (Seat.kidL x)] 32 rfl kj kj ((ih cs (lftV sec) (Seat.kidL x) W3 r2_3 r3_3 ht3_11 (Qcs _) (Qdu _) (Nat.le_trans hb x3.size) (by omega) (GrS.ext (GrS.ext (GrS.ext hgs e1) e2) e3) hlv2.1).mono (by rintro e w' ⟨rfl, h⟩; exact ⟨_, rfl, rfl, h⟩)) fun vv12 W4 hh12 => ?_
  obtain ⟨rfl, q4, n1, l1, hg1, c1, d1, d2⟩ := hh12
  have xa := x3
  have x4 : GP base gc w W4 := GP.trans x3 q4
  refine Qaj ?_
  refine hK10 _ _ ?_
  refine Qad ?_
  refine Qaa (.pointer (some ⟨gc, 0, none⟩)) 33 rfl kj kj ?_
  have r5_3 := (Qab r5_2 e3)
  have r5_4 := (GP.row q4 r5_3 (by decide) (Ne.symm (Nat.ne_of_lt (Nat.lt_of_lt_of_le hgcl b5))))
  refine Qaa (.agg (ints .u8 (sec))) 34 rfl kj (Qaw 23 _ g5 23 _ _ r5_4 rfl kj kj (isz (n := 32) kj ((Qac _ _).trans hsl))) ?_
  have r2_4 := (GP.low q4 r2_3 hltc hnec)
  have r3_4 := (GP.low q4 r3_3 hlts hnes)
  refine Qax (.agg (ints .u8 (rgtV sec))) 40 #[.agg (ints .u8 (sec)), .string Qd2] 35 rfl kj kj (Qla sec tc tq _ r2_4 r3_4 hsl hsb) fun W5 e5 => ?_
  have x5 : GP base gc w W5 := GP.ext x4 e5
  refine Qaa (.int .i64 (Seat.kidR x)) 36 rfl kj kj ?_
  have r2_5 := (Qab r2_4 e5)
  have r3_5 := (Qab r3_4 e5)
  have ht5_13 := ((Qkp ht3_11 q4 hltt hnet).ext e5)
  refine Qa8 (fun v W' => v = .tuple #[] ∧ GrR base gc (cs ++ n1) (rgtV sec) k W5 W') 28 #[.pointer (some ⟨gc, 0, none⟩), .agg (ints .u8 (rgtV sec)), .int .i64 (Seat.kidR x)] 37 rfl kj kj ((ih (cs ++ n1) (rgtV sec) (Seat.kidR x) W5 r2_5 r3_5 ht5_13 (Qcq _) (Qdq _) (Nat.le_trans hb x5.size) (by rw [List.length_append, l1]; omega) (GrS.ext hg1 e5) hlv2.2).mono (by rintro e w' ⟨rfl, h⟩; exact ⟨_, rfl, rfl, h⟩)) fun vv14 W6 hh14 => ?_
  obtain ⟨rfl, hr2⟩ := hh14
  have q6 := hr2.1
  have x6 : GP base gc w W6 := GP.trans x5 q6
  refine Qaj ?_
  repeat (first | with_reducible refine goX1 ?_ | with_reducible refine goX2 ?_ | with_reducible refine goX3 ?_)
  exact (show bodyPost _ _ _ .normal _ _ from end0 rfl ⟨rfl, grS xa q4 l1 c1 d1 d2 (GP.ext (GP.refl base gc W4) e5) hr2 hgcl⟩)
theorem QkA (base gc : Nat) (tc tq : TypeId) (hltc : 2 < base) (hlts : 1 < base) (hltt : 0 < base) (hnec : 2 ≠ gc) (hnes : 1 ≠ gc) (hnet : 0 ≠ gc) : ∀ (k : Nat) (cs : List (Nat × Nat)) (sec : List Int) (x : Int) (w : World), w.heap[2]? = some (.cells (ints .u64 QaI) tc) → w.heap[1]? = some (.cells (ints .u64 Qak) tq) → Seat.TabAt w → sec.length = 32 → Qao sec → base ≤ w.heap.size → cs.length + 2 ^ k ≤ 1000 → GrS base gc cs w → lvOk k x = true → Calls Tryd.prog 28 #[.pointer (some ⟨gc, 0, none⟩), .agg (ints .u8 sec), .int .i64 x] w (fun e W => e = .returned (.tuple #[]) ∧ GrR base gc cs sec k w W)
  | 0, cs, sec, x, w, hc, hq, hT, hsl, hsb, hb, hcn, hgs, hlv => Qk9 base gc cs sec x tc tq w hc hq hT hsl hsb hb (by omega) hgs hlv
  | k + 1, cs, sec, x, w, hc, hq, hT, hsl, hsb, hb, hcn, hgs, hlv => Qk8 k base gc cs sec x tc tq w hc hq hT hsl hsb hb hcn hgs hltc hlts hltt hnec hnes hnet (QkA base gc tc tq hltc hlts hltt hnec hnes hnet k) hlv
def NewR (sec : List Int) (k : Nat) (w : World) (v : Value) (W : World) : Prop := ∃ (gc gl cap : Nat) (lp : Array Value) (ns : List (Nat × Nat)), v = .pointer (some ⟨gc, 0, none⟩) ∧ w.heap.size ≤ gc ∧ ns.length = 2 ^ k ∧ W.heap[gc]? = some (.cells #[.slice (some ⟨gl, 0, none⟩) (2 ^ k) cap] 70) ∧ W.heap[gl]? = some (.cells lp 75) ∧ (∀ j p, ns[j]? = some p → lp[j]? = some (.pointer (some ⟨p.1, 0, none⟩)) ∧ ChSt p.1 p.2 (QaL sec k j) [] 0 [] W ∧ w.heap.size ≤ p.1 ∧ w.heap.size ≤ p.2) ∧ (ns.map Prod.fst).Nodup ∧ (ns.map Prod.snd).Nodup
theorem newR {sec : List Int} {k base gc : Nat} {w W1 W : World} (e : Ext w W1) (hb : base = W1.heap.size) (hl : w.heap.size ≤ gc) (h : GrR base gc [] sec k W1 W) : NewR sec k w (.pointer (some ⟨gc, 0, none⟩)) W := by
  obtain ⟨q, ns, l, ⟨v, h1, h2⟩, c, d1, d2⟩ := h
  rw [List.nil_append] at h2
  have hp : 0 < 2 ^ k := Nat.pow_pos (by decide)
  rcases h2.1.2 with ⟨-, q2⟩ | ⟨gl, cap, cur, rfl, q2, q3, q4, q5, q6, q7⟩
  · rw [List.length_map, l] at q2; omega
  · rw [List.length_map, l] at h1 q7
    refine ⟨gc, gl, cap, cur, ns, rfl, hl, l, h1, q3, fun j p hj => ?_, d1, d2⟩
    obtain ⟨a1, a2, a3⟩ := c j p hj
    have := e.size
    refine ⟨?_, a1, by omega, by omega⟩
    have hjl : j < ns.length := (List.getElem?_eq_some_iff.1 hj).1
    rw [Nat.mul_one] at q7
    have e2 : (cur.toList.take (2 ^ k))[j]? = (ns.map fun p => Value.pointer (some ⟨p.1, 0, none⟩))[j]? := by rw [q7]
    rw [List.getElem?_take_of_lt (by omega), List.getElem?_map, hj] at e2
    rw [← Array.getElem?_toList]
    exact e2
theorem QkB {gc : Nat} {w W1 W : World} (e : Ext w W1) (q : GP W1.heap.size gc W1 W) (hg : w.heap.size ≤ gc) : Ext w W := ⟨q.os.trans e.os, q.tape.trans e.tape, q.output.trans e.output, Nat.le_trans e.size q.size, fun k hk => (q.block k (Nat.lt_of_lt_of_le hk e.size) (by omega) (.inl (Nat.lt_of_lt_of_le hk e.size))).trans (e.block k hk)⟩
theorem QkZ (k : Nat) (hk : k ≤ 5) (W : World) : Calls Tryd.prog 27 #[.int .i64 ((2 ^ k : Nat) : Int)] W (Ret W (.int .i64 (((2 ^ k : Nat) : Int) - 1))) :=
  (Seat.root ((2 ^ k : Nat) : Int) W).mono fun e W' hh => by
    have hh' : e = .returned (.int .i64 (if Seat.isTree ((2 ^ k : Nat) : Int) = true then ((2 ^ k : Nat) : Int) - 1 else -1)) ∧ W = W' := hh
    rw [if_pos ((by decide +kernel : ∀ k : Fin 6, Seat.isTree ((2 ^ k.val : Nat) : Int) = true) ⟨k, by omega⟩)] at hh'
    exact ⟨hh'.1, hh'.2 ▸ Rely.Ext.refl _⟩
set_option maxHeartbeats 4000000 in
theorem newC (k : Nat) (hk : k ≤ 5) (sec : List Int) (tc tq : TypeId) (w : World) (hc : w.heap[2]? = some (.cells (ints .u64 QaI) tc)) (hq : w.heap[1]? = some (.cells (ints .u64 Qak) tq)) (hT : Seat.TabAt w) (hsl : sec.length = 32) (hsb : Qao sec) : Calls Tryd.prog 9 #[.agg (ints .u8 sec), .int .i64 ((2 ^ k : Nat) : Int)] w (QbH w (NewR sec k w)) := by
  refine enter 18 [(0, .agg (ints .u8 (sec))), (1, .int .i64 ((2 ^ k : Nat) : Int))] Tryd.func9 rfl rfl kj rfl ?_
  refine wp_seq_k fun K3 hK3 => ?_
  refine Qad ?_
  refine Qar (ints .u8 (sec)) 23 2 rfl kj kj fun g4 W1 l4 e1 r4_1 => ?_
  have x1 : Ext w W1 := Ext.tr (Rely.Ext.refl w) e1
  have b4 : w.heap.size ≤ g4 := Nat.le_trans (Rely.Ext.refl w).size l4
  refine Qaa (.pointer none) 4 rfl kj kj ?_
  refine Qaj ?_
  refine hK3 _ _ ?_
  refine wp_seq_k fun K5 hK5 => ?_
  refine Qad ?_
  refine Qaa (.agg (#[.slice none 0 0])) 7 rfl kj kj ?_
  refine Qar (#[.slice none 0 0]) 70 8 rfl kj kj fun g6 W2 l6 e2 r6_2 => ?_
  have x2 : Ext w W2 := Ext.tr x1 e2
  have b6 : w.heap.size ≤ g6 := Nat.le_trans x1.size l6
  refine Qaa (.pointer (some ⟨g6, 0, none⟩)) 5 rfl kj kj ?_
  refine Qaj ?_
  refine hK5 _ _ ?_
  refine wp_seq_k fun K7 hK7 => ?_
  refine wp_seq_k fun K8 hK8 => ?_
  refine Qad ?_
  refine Qaa (.int .i64 ((2 ^ k : Nat) : Int)) 9 rfl kj kj ?_
  refine Qax (.int .i64 (((2 ^ k : Nat) : Int) - 1)) 27 #[.int .i64 ((2 ^ k : Nat) : Int)] 10 rfl kj kj ((QkZ k hk) _) fun W3 e3 => ?_
  have x3 : Ext w W3 := Ext.tr x2 e3
  refine Qaa (.int .i64 (((2 ^ k : Nat) : Int) - 1)) 6 rfl kj kj ?_
  refine Qaj ?_
  refine hK8 _ _ ?_
  refine wp_seq_k fun K9 hK9 => ?_
  refine Qad ?_
  refine Qaa (.int .i64 (((2 ^ k : Nat) : Int) - 1)) 11 rfl kj kj ?_
  refine Qaa (.bool true) 12 rfl kj (Qag (u := .bool (decide ((((2 ^ k : Nat) : Int) - 1) ≥ 0))) kj (congrArg Value.bool (decide_eq_true (by have : 0 < 2 ^ k := Nat.pow_pos (by decide); omega)))) ?_
  refine Qaj ?_
  refine hK9 _ _ ?_
  refine cond_true kj ?_
  refine Qad ?_
  refine Qaa (.pointer (some ⟨g6, 0, none⟩)) 13 rfl kj kj ?_
  have r4_2 := (Qab r4_1 e2)
  have r4_3 := (Qab r4_2 e3)
  refine Qaa (.agg (ints .u8 (sec))) 14 rfl kj (Qaw 23 _ g4 23 _ _ r4_3 rfl kj kj (isz (n := 32) kj ((Qac _ _).trans hsl))) ?_
  refine Qaa (.int .i64 (((2 ^ k : Nat) : Int) - 1)) 15 rfl kj kj ?_
  have r1_1 := (Qab hc e1)
  have r1_2 := (Qab r1_1 e2)
  have r1_3 := (Qab r1_2 e3)
  have r2_1 := (Qab hq e1)
  have r2_2 := (Qab r2_1 e2)
  have r2_3 := (Qab r2_2 e3)
  have r6_3 := (Qab r6_2 e3)
  refine Qa8 (fun v W' => v = .tuple #[] ∧ GrR W3.heap.size g6 [] sec k W3 W') 28 #[.pointer (some ⟨g6, 0, none⟩), .agg (ints .u8 (sec)), .int .i64 (((2 ^ k : Nat) : Int) - 1)] 16 rfl kj kj ((QkA W3.heap.size g6 tc tq (Qat r1_3) (Qat r2_3) (hT.ext x3).1 (by have := Qat hc; have := b6; omega) (by have := Qat hq; have := b6; omega) (by have := hT.1; have := b6; omega) k [] sec (((2 ^ k : Nat) : Int) - 1) W3 r1_3 r2_3 (hT.ext x3) hsl hsb (Nat.le_refl _) (by have : 2 ^ k ≤ 2 ^ 5 := Nat.pow_le_pow_right (by decide) (by omega); simp only [List.length_nil]; omega) ⟨_, r6_3, ⟨⟨rfl, .inl ⟨rfl, rfl⟩⟩, Nat.zero_le _⟩⟩ (QhE ⟨k, by omega⟩)).mono (by rintro e w' ⟨rfl, h⟩; exact ⟨_, rfl, rfl, h⟩)) fun vv10 W4 hh10 => ?_
  obtain ⟨rfl, hgr⟩ := hh10
  have x4 : Ext w W4 := QkB x3 hgr.1 b6
  refine Qaj ?_
  refine hK7 _ _ ?_
  refine wp_seq_k fun K11 hK11 => ?_
  refine Qad ?_
  refine Qaa (.pointer (some ⟨g6, 0, none⟩)) 17 rfl kj kj ?_
  refine Qaa (.pointer (some ⟨g6, 0, none⟩)) 4 rfl kj kj ?_
  refine Qaj ?_
  refine hK11 _ _ ?_
  refine wp_ret ?_
  repeat (first | with_reducible refine goR1 ?_ | with_reducible refine goR2 ?_)
  exact (show bodyPost _ _ _ .ret _ _ from ret1 (.pointer (some ⟨g6, 0, none⟩)) rfl (Qa7 kj) ⟨_, rfl, x4, newR x3 rfl b6 hgr⟩)
end Go.Proofs.YtibegnjaphohaaaDoor.Cn
end
section
namespace Go.Proofs.YtibegnjaphohaaaDoor.Cn
open Go Go.RowKit
open Rely Auto Own Sha
set_option linter.unusedVariables false
set_option linter.unusedSimpArgs false
open Go.Proofs.YtibegnjaphohaaaDoor
theorem QcQ {g mg k : Nat} {s0 ts : List Int} {pl : Nat} {ms : List (Int × List Int)} {W W' : World} {c : Array Value} {T : TypeId} (h : ChSt g mg s0 ts pl ms W) (q : Qal [g, mg] W W') (r : W.heap[k]? = some (.cells c T)) (hT : T ≠ 84) : W'.heap[k]? = some (.cells c T) :=
  Qal.row q r (fun hm => by
    rcases List.mem_cons.1 hm with e | hm
    · obtain ⟨B, -, h2⟩ := h.row
      rw [← e] at h2; exact Qdz r h2 hT
    · rw [List.mem_singleton] at hm; exact MpAt.ne h.mp r hm)
theorem ChSt.other {g mg g2 mg2 : Nat} {s0 ts s2 ts2 : List Int} {pl pl2 : Nat} {ms ms2 : List (Int × List Int)} {W W' : World} (h : ChSt g mg s0 ts pl ms W) (q : Qal [g, mg] W W') (h2 : ChSt g2 mg2 s2 ts2 pl2 ms2 W) (n1 : g2 ≠ g) (n2 : mg2 ≠ mg) : ChSt g2 mg2 s2 ts2 pl2 ms2 W' := by
  obtain ⟨B, -, r⟩ := h.row
  obtain ⟨B2, -, r2⟩ := h2.row
  obtain ⟨es, c, hm, -⟩ := id h.mp
  obtain ⟨es2, c2, hm2, -⟩ := id h2.mp
  have a1 : g2 ≠ mg := MpAt.ne h.mp r2
  have a2 : mg2 ≠ g := fun e => by rw [e, r] at hm2; cases hm2
  exact h2.keep (q.block g2 (Qat r2) (fun hh => by rcases List.mem_cons.1 hh with e | hh; exact n1 e; exact a1 (List.mem_singleton.1 hh))) (q.block mg2 (Qat hm2) (fun hh => by rcases List.mem_cons.1 hh with e | hh; exact a2 e; exact n2 (List.mem_singleton.1 hh)))
theorem QfW {g mg : Nat} {w W W' : World} (e : Ext w W) (q : Qal [g, mg] W W') (h1 : w.heap.size ≤ g) (h2 : w.heap.size ≤ mg) : Ext w W' := Qal.ext q e (fun c hc => by
  rcases List.mem_cons.1 hc with rfl | hc
  · exact h1
  · rw [List.mem_singleton] at hc; rw [hc]; exact h2)
set_option maxHeartbeats 4000000 in
theorem Qkd (tc tq : TypeId) (w : World) (hc : w.heap[2]? = some (.cells (ints .u64 QaI) tc)) (hq : w.heap[1]? = some (.cells (ints .u64 Qak) tq)) (hT : Seat.TabAt w) : Calls Tryd.prog 8 #[] w (Ret w (.bool true)) := by
  refine enter 39 [] Tryd.func8 rfl rfl kj rfl ?_
  refine wp_seq_k fun K3 hK3 => ?_
  refine Qad ?_
  refine Qaa (.bool false) 0 rfl kj kj ?_
  refine Qaj ?_
  refine hK3 _ _ ?_
  refine wp_seq_k fun K4 hK4 => ?_
  refine Qad ?_
  refine Qaa (.agg (ints .u8 ((1 :: List.replicate 31 0)))) 4 rfl kj kj ?_
  refine Qa8 (fun v W' => (NewR ((1 :: List.replicate 31 0)) 1 w) v W' ∧ Ext w W') 9 #[.agg (ints .u8 ((1 :: List.replicate 31 0))), .int .i64 2] 5 rfl kj kj ((newC 1 (by decide) ((1 :: List.replicate 31 0)) tc tq _ hc hq (hT.ext (Rely.Ext.refl w)) (by decide) (fun x hx => by rcases List.mem_cons.1 hx with rfl | hx; decide; rw [(List.mem_replicate.1 hx).2]; decide)).mono (by rintro e w' ⟨v, rfl, e1, hv⟩; exact ⟨v, rfl, hv, e1⟩)) fun vv5 W1 hh5 => ?_
  obtain ⟨hv5, e1⟩ := hh5
  have x1 : Ext w W1 := Ext.tr (Rely.Ext.refl w) e1
  obtain ⟨gc, gl, cap, lp, ns, rfl, lgc, hns, hgc, hgl, hea, dn1, dn2⟩ := hv5
  obtain ⟨pa, hpa⟩ : ∃ p, ns[0]? = some p := ⟨_, List.getElem?_eq_getElem (show 0 < ns.length by rw [hns]; decide)⟩
  obtain ⟨hla, hsa, loa, lma⟩ := hea _ _ hpa
  obtain ⟨ga, ma⟩ := pa
  replace hsa : ChSt ga ma (QaL (1 :: List.replicate 31 0) 1 0) [] 0 [] W1 := hsa
  have lo0a : w.heap.size ≤ ga := Nat.le_trans (Rely.Ext.refl w).size loa
  have lm0a : w.heap.size ≤ ma := Nat.le_trans (Rely.Ext.refl w).size lma
  refine Qaa (.pointer (some ⟨gc, 0, none⟩)) 1 rfl kj kj ?_
  refine Qaj ?_
  refine hK4 _ _ ?_
  refine wp_seq_k fun K8 hK8 => ?_
  refine Qad ?_
  refine Qaa (.pointer (some ⟨gc, 0, none⟩)) 7 rfl kj kj ?_
  have r1_1 := (Qab hc e1)
  have r2_1 := (Qab hq e1)
  refine Qa8 (fun v W' => ∃ u, v = .tuple #[u, .nilIface] ∧ Qal [ga, ma] W1 W' ∧ ChSt ga ma (QaL (1 :: List.replicate 31 0) 1 0) [2] 3 (Qda [] (QaL (1 :: List.replicate 31 0) 1 0) 0 2) W' ∧ QcJ W1.heap.size 2 (keyV (itV (QaL (1 :: List.replicate 31 0) 1 0) 2)) u W') 13 #[.pointer (some ⟨gc, 0, none⟩), .int .i64 0, .int .i64 2] 8 rfl kj kj ((Qjf gc gl (2 ^ 1) cap lp _ hgc hgl ga 0 (by decide) hla tc tq r1_1 r2_1 hsa 2 (by decide) (Nat.ne_of_lt (Nat.lt_of_lt_of_le (Qat hc) lo0a)) (Nat.ne_of_lt (Nat.lt_of_lt_of_le (Qat hq) lo0a))).mono (by rintro e w' ⟨v, rfl, q1, q2, q3⟩; exact ⟨_, rfl, _, rfl, q1, q2, q3⟩)) fun vv9 W2 hh9 => ?_
  obtain ⟨uu9, rfl, q2, hb_a2, u9, rfl, hu9⟩ := hh9
  obtain ⟨a9_, c9_, rfl, -⟩ := id (OwnN.rd hu9)
  have x2 : Ext w W2 := QfW x1 q2 lo0a lm0a
  have hn12 : ((keyV (itV (QaL (1 :: List.replicate 31 0) 1 0) 2)).drop 32).length = 12 := by rw [List.length_drop, QaF]
  refine Qaa (.tuple #[.agg (cat [#[.int .i64 2], ints .u8 ((keyV (itV (QaL (1 :: List.replicate 31 0) 1 0) 2)).take 32), #[.slice a9_ ((keyV (itV (QaL (1 :: List.replicate 31 0) 1 0) 2)).drop 32).length c9_]]), .nilIface]) 6 rfl kj kj ?_
  refine Qaa (.agg (cat [#[.int .i64 2], ints .u8 ((keyV (itV (QaL (1 :: List.replicate 31 0) 1 0) 2)).take 32), #[.slice a9_ ((keyV (itV (QaL (1 :: List.replicate 31 0) 1 0) 2)).drop 32).length c9_]])) 9 rfl kj kj ?_
  refine Qaa (.nilIface) 10 rfl kj kj ?_
  refine Qar (cat [#[.int .i64 0], ints .u8 (List.replicate 32 0), #[.slice none 0 0]]) 40 2 rfl kj kj fun g10 W3 l10 e3 r10_3 => ?_
  have x3 : Ext w W3 := Ext.tr x2 e3
  have b10 : w.heap.size ≤ g10 := Nat.le_trans x2.size l10
  refine Qai g10 _ (cat [#[.int .i64 2], ints .u8 ((keyV (itV (QaL (1 :: List.replicate 31 0) 1 0) 2)).take 32), #[.slice a9_ ((keyV (itV (QaL (1 :: List.replicate 31 0) 1 0) 2)).drop 32).length c9_]]) 40 r10_3 rfl kj (Qaq 40 _ _ g10 40 _ _ r10_3 rfl kj kj (isz (n := 34) kj (by rw [Qae, Qae, Qae]; simp only [Array.size_append, cat, ((Qac _ _).trans (QaW (QaF _)))]; rfl)) (eqsz (n := 34) (by rw [Qae, Qae, Qae]; simp only [Array.size_append, cat, ((Qac _ _).trans (List.length_replicate (n := 32)))]; rfl) (by rw [Qae, Qae, Qae]; simp only [Array.size_append, cat, ((Qac _ _).trans (QaW (QaF _)))]; rfl)) (QbG _ (by intro a ha; simp only [List.mem_cons, List.not_mem_nil, or_false] at ha; rcases ha with rfl | rfl | rfl; exact (QaU _ rfl); exact (Qa2 _ _); exact (QaU _ rfl)))) fun W4 p4 r10_4 => ?_
  have x4 : Ext w W4 := Puts.ext p4 x3 b10
  refine Qaa (.nilIface) 3 rfl kj kj ?_
  refine Qaj ?_
  refine hK8 _ _ ?_
  refine wp_seq_k fun K11 hK11 => ?_
  refine Qad ?_
  refine Qaa (.nilIface) 11 rfl kj kj ?_
  refine Qaa (.bool true) 12 rfl kj kj ?_
  refine Qaa (.bool true) 13 rfl kj kj ?_
  refine Qaa (.pointer (some ⟨g10, 0, none⟩)) 14 rfl kj kj ?_
  refine Qaa (.int .i64 2) 15 rfl kj (Qah 3 _ g10 0 40 _ (.int .i64 2) _ r10_4 rfl kj (Qa0 [] [#[.int .i64 2]] [ints .u8 ((keyV (itV (QaL (1 :: List.replicate 31 0) 1 0) 2)).take 32), #[.slice a9_ ((keyV (itV (QaL (1 :: List.replicate 31 0) 1 0) 2)).drop 32).length c9_]] 0 kj 0 _ rfl) kj) ?_
  refine Qaa (.bool true) 16 rfl kj kj ?_
  refine Qaa (.bool true) 17 rfl kj kj ?_
  refine Qaa (.bool true) 18 rfl kj kj ?_
  refine Qaa (.pointer (some ⟨g10, 33, none⟩)) 19 rfl kj kj ?_
  refine Qaa (.slice a9_ ((keyV (itV (QaL (1 :: List.replicate 31 0) 1 0) 2)).drop 32).length c9_) 20 rfl kj (Qah 38 _ g10 33 40 _ (.slice a9_ ((keyV (itV (QaL (1 :: List.replicate 31 0) 1 0) 2)).drop 32).length c9_) _ r10_4 rfl kj (Qa0 [#[.int .i64 2], ints .u8 ((keyV (itV (QaL (1 :: List.replicate 31 0) 1 0) 2)).take 32)] [#[.slice a9_ ((keyV (itV (QaL (1 :: List.replicate 31 0) 1 0) 2)).drop 32).length c9_]] [] 33 (by rw [Qae, Qae]; simp only [Array.size_append, cat, ((Qac _ _).trans (QaW (QaF _)))]; rfl) 0 _ rfl) kj) ?_
  refine Qaa (.int .i64 ((((keyV (itV (QaL (1 :: List.replicate 31 0) 1 0) 2)).drop 32).length : Nat) : Int)) 21 rfl kj kj ?_
  refine Qaa (.bool true) 22 rfl kj (Qag (u := .bool ((((((keyV (itV (QaL (1 :: List.replicate 31 0) 1 0) 2)).drop 32).length : Nat) : Int) == 12))) kj (congrArg Value.bool (by rw [hn12]; rfl))) ?_
  refine Qaa (.bool true) 23 rfl kj kj ?_
  refine Qaa (.bool true) 24 rfl kj kj ?_
  refine Qaa (.pointer (some ⟨gc, 0, none⟩)) 25 rfl kj kj ?_
  have r6_2 := (QcQ hsa q2 hgc (by decide))
  have r6_3 := (Qab r6_2 e3)
  have r6_4 := (Puts.row p4 r6_3 (Qaf r6_2 l10))
  have r7_2 := (QcQ hsa q2 hgl (by decide))
  have r7_3 := (Qab r7_2 e3)
  have r7_4 := (Puts.row p4 r7_3 (Qaf r7_2 l10))
  have ha_3 := (ChSt.ext hb_a2 e3)
  have ha_4 := (ChSt.keep ha_3 (p4.2.2.2.2 _ (Nat.ne_of_lt (Nat.lt_of_lt_of_le (Nat.lt_of_lt_of_le hb_a2.glt (Nat.le_refl _)) l10))) (p4.2.2.2.2 _ (Nat.ne_of_lt (Nat.lt_of_lt_of_le (Nat.lt_of_lt_of_le hb_a2.mp.lt (Nat.le_refl _)) l10))))
  refine Qax (.int .i64 2) 17 #[.pointer (some ⟨gc, 0, none⟩), .int .i64 0] 26 rfl kj kj (Qjp gc gl (2 ^ 1) cap lp _ r6_4 r7_4 ga 0 (by decide) hla ha_4) fun W5 e5 => ?_
  have x5 : Ext w W5 := Ext.tr x4 e5
  refine Qaa (.bool true) 27 rfl kj kj ?_
  refine Qaa (.bool true) 28 rfl kj kj ?_
  refine Qaa (.bool true) 29 rfl kj kj ?_
  refine Qaa (.pointer (some ⟨gc, 0, none⟩)) 30 rfl kj kj ?_
  have r6_5 := (Qab r6_4 e5)
  have r7_5 := (Qab r7_4 e5)
  have ha_5 := (ChSt.ext ha_4 e5)
  refine Qax (.int .i64 3) 16 #[.pointer (some ⟨gc, 0, none⟩), .int .i64 0] 31 rfl kj kj (Qj5 gc gl (2 ^ 1) cap lp _ r6_5 r7_5 ga 0 (by decide) hla ha_5) fun W6 e6 => ?_
  have x6 : Ext w W6 := Ext.tr x5 e6
  refine Qaa (.bool true) 32 rfl kj kj ?_
  refine Qaa (.bool true) 33 rfl kj kj ?_
  refine Qaa (.bool true) 34 rfl kj kj ?_
  refine Qaa (.pointer (some ⟨gc, 0, none⟩)) 35 rfl kj kj ?_
  have r6_6 := (Qab r6_5 e6)
  have r7_6 := (Qab r7_5 e6)
  refine Qax (.int .i64 (-1)) 16 #[.pointer (some ⟨gc, 0, none⟩), .int .i64 2] 36 rfl kj kj (Qj4 gc gl (2 ^ 1) cap lp _ r6_6 r7_6 2 (.inr (by decide))) fun W7 e7 => ?_
  have x7 : Ext w W7 := Ext.tr x6 e7
  refine Qaa (.bool true) 37 rfl kj kj ?_
  refine Qaa (.bool true) 38 rfl kj kj ?_
  refine Qaa (.bool true) 0 rfl kj kj ?_
  refine Qaj ?_
  refine hK11 _ _ ?_
  refine wp_ret ?_
  repeat (first | with_reducible refine goR1 ?_ | with_reducible refine goR2 ?_)
  exact (show bodyPost _ _ _ .ret _ _ from ret1 (.bool true) rfl (Qa7 kj) ⟨rfl, x7⟩)
end Go.Proofs.YtibegnjaphohaaaDoor.Cn
end
section
namespace Go.Proofs.YtibegnjaphohaaaDoor.Cn
open Go Go.RowKit
open Rely Auto Own Sha
set_option linter.unusedVariables false
set_option linter.unusedSimpArgs false
open Go.Proofs.YtibegnjaphohaaaDoor
theorem rdK_open {k : IntKind} {B : Nat} {ys : List Int} {a : Option Addr} {n c : Nat} {W : World} (h : RdK k B ys (.slice a n c) W) (h0 : 0 < ys.length) : ∃ g o, a = some ⟨g, o, none⟩ ∧ g < B ∧ ∀ i, i < ys.length → W.cell? ⟨g, o + i, none⟩ = some (.int k (nth ys i)) := by
  obtain ⟨a', cap', e, h2, h3, h4, h5⟩ := h
  simp only [Value.slice.injEq] at e
  obtain ⟨rfl, -, -⟩ := e
  rcases h5 with h5 | ⟨g, o, q1, q2, q3, q4⟩
  · rw [h5] at h0; simp at h0
  · exact ⟨g, o, q1, q2, q4⟩
section
variable {P : Program} {ρ : Operand → Value} {o : Oper} {w : World}
theorem run_indexA (t : TypeId) (x y : Operand) (k : IntKind) (n g off len cap : Nat) (e : TypeId) (a : Option Addr) (z : Int) (ha : a = some ⟨g, off, none⟩) (hz : z = (n : Int)) (ho : o.op = .indexAddr t x y) (hx : ρ x = .slice a len cap) (hy : ρ y = .int k z)
    (hu : P.underlying t = some (.slice e)) (hs : (P.info? e).map (·.size) = some 1) (hn : n < len) : (execOp ρ o).run P w = .ok (.value (.pointer (some ⟨g, off + n, none⟩))) w := by
  subst ha; subst hz
  exact QcE t x y k n g off len cap e ho hx hy hu hs hn
end
theorem Qg9 (n : Int) : 0 ≤ IntKind.u64.wrap n := Int.emod_nonneg _ (by decide)
theorem Qj3 (at_ : Int) (n : Nat) (hn : 0 < n) : ∃ k : Nat, k < n ∧ Int.tmod (IntKind.u64.wrap at_) ((n : Nat) : Int) = (k : Int) := by
  have h0 := Qg9 at_
  have h1 := Int.emod_nonneg (IntKind.u64.wrap at_) (show ((n : Nat) : Int) ≠ 0 by omega)
  have h2 := Int.emod_lt_of_pos (IntKind.u64.wrap at_) (show (0 : Int) < ((n : Nat) : Int) by omega)
  refine ⟨(IntKind.u64.wrap at_ % (n : Int)).toNat, by omega, ?_⟩
  rw [Int.tmod_eq_emod_of_nonneg h0, Int.toNat_of_nonneg h1]
theorem Qi7 {k : IntKind} {T : TypeId} {base : Nat} {xs : List Int} {v : Value} {W : World} (h : OwnN k T base xs v W) {g : Nat} (hg : v.ownBlock = some g) : ∃ cur, W.heap[g]? = some (.cells cur T) := by
  rcases h.1.2 with ⟨rfl, _⟩ | ⟨g', c, cur, rfl, q2, q3, _⟩
  · cases hg
  · obtain rfl : g' = g := Option.some.inj hg
    exact ⟨cur, q3⟩
def onV (s0 : List Int) (k : Nat) (u : Value) : Value := .agg (cat [#[.int .i64 ((k : Nat) : Int)], ints .u8 ((keyV (itV s0 k)).take 32), #[u]])
def BySt (mB : Nat) (s0 : List Int) (i : Nat) (W : World) : Prop := ∃ es : List (Int × Value), MpAt mB es W ∧ (∀ p ∈ es, ∃ (k : Nat) (u : Value), k < i ∧ p = (((k : Nat) : Int), onV s0 k u) ∧ OwnN .u8 5 0 ((keyV (itV s0 k)).drop 32) u W) ∧ ∀ k, k < i → ∃ v, (((k : Nat) : Int), v) ∈ es
theorem Qh8 {xs : List Int} {u : Value} {W W' : World} {b base : Nat} {c : Array Value} {T : TypeId} (h : OwnN .u8 5 base xs u W) (p : Puts W b W') (r : W.heap[b]? = some (.cells c T)) (hT : T ≠ 5) : OwnN .u8 5 base xs u W' :=
  h.keep fun g hg => p.2.2.2.2 g (fun e => by obtain ⟨cur, hc⟩ := Qi7 h hg; rw [e] at hc; exact Qdz r hc hT)
theorem BySt.keepG {mB : Nat} {s0 : List Int} {i : Nat} {W W' : World} (h : BySt mB s0 i W) (hm : W'.heap[mB]? = W.heap[mB]?) (ho : ∀ xs u, OwnN .u8 5 0 xs u W → OwnN .u8 5 0 xs u W') : BySt mB s0 i W' := by
  obtain ⟨es, h1, h2, h3⟩ := h
  exact ⟨es, h1.keep hm, fun p hp => by obtain ⟨k, u, q1, q2, q3⟩ := h2 p hp; exact ⟨k, u, q1, q2, ho _ _ q3⟩, h3⟩
theorem BySt.lt {mB : Nat} {s0 : List Int} {i : Nat} {W : World} (h : BySt mB s0 i W) : mB < W.heap.size := by obtain ⟨es, h1, -⟩ := h; exact h1.lt
theorem BySt.ext {mB : Nat} {s0 : List Int} {i : Nat} {W W' : World} (h : BySt mB s0 i W) (e : Ext W W') : BySt mB s0 i W' := h.keepG (e.block mB h.lt) fun _ _ k => k.ext e
theorem BySt.get {mB : Nat} {s0 : List Int} {i k : Nat} {W : World} (h : BySt mB s0 i W) (hk : k < i) (z : Value) : ∃ es a c, MpAt mB es W ∧ mget es ((k : Nat) : Int) z = onV s0 k (.slice a ((keyV (itV s0 k)).drop 32).length c) ∧ OwnN .u8 5 0 ((keyV (itV s0 k)).drop 32) (.slice a ((keyV (itV s0 k)).drop 32).length c) W := by
  obtain ⟨es, h1, h2, h3⟩ := h
  obtain ⟨v, hv⟩ := h3 k hk
  cases hf : es.find? (fun p => p.1 == ((k : Nat) : Int)) with
  | none =>
    rw [List.find?_eq_none] at hf
    exact absurd (by simp) (hf _ hv)
  | some p =>
    obtain ⟨j, u, q1, q2, q3⟩ := h2 p (List.mem_of_find?_eq_some hf)
    have hp := List.find?_some hf
    rw [q2] at hp
    have hjk : ((j : Nat) : Int) = ((k : Nat) : Int) := by simpa using hp
    have hjk2 : j = k := by omega
    subst hjk2
    obtain ⟨a, c, rfl, -⟩ := id (OwnN.rd q3)
    refine ⟨es, a, c, h1, ?_, q3⟩
    unfold mget
    rw [hf, q2]; rfl
def upTo (i : Nat) : List Int := (List.range i).map fun k => ((k : Nat) : Int)
theorem Qhg (i : Nat) : upTo (i + 1) = upTo i ++ [((i : Nat) : Int)] := by unfold upTo; rw [List.range_succ, List.map_append]; rfl
theorem Qhh {i : Nat} {n : Int} (h : n ∈ upTo i) : n < ((i : Nat) : Int) := by
  unfold upTo at h
  obtain ⟨k, hk, rfl⟩ := List.mem_map.1 h
  have := List.mem_range.1 hk
  omega
theorem QkF {i : Nat} (h : i ≤ 1000) : chkN (upTo i) i ((i : Nat) : Int) = 0 := by
  have h1 : ((i : Nat) : Int) ∉ upTo i := fun hm => by have := Qhh hm; omega
  have h2 : hiT (upTo i) ≤ ((i : Nat) : Int) := by
    rcases Qgw (upTo i) with e | e
    · omega
    · have := Qhh e; omega
  have h0 : chkT (upTo i) ((i : Nat) : Int) = 0 := by
    unfold chkT
    rw [if_neg (by omega), if_neg (by omega), if_neg h1]
  unfold chkN
  rw [if_neg (by rw [h0]; decide), if_neg (by omega)]
section
variable {ds : List Deferred} {P : Program} {ops : Array Oper} {Q : Exit → Act → World → Prop} {rest : List Oper} {o : Oper} {N : Nat} {L : Env} {w : World}
end
namespace Wmn
open Wm
end Wmn
set_option maxHeartbeats 4000000 in
theorem QkX (x y : Value) (xs ys : List Int) (w : World) (hx : Qcb w x xs) (hy : Qcb w y ys) : Calls Tryd.prog 24 #[x, y] w (Ret w (.bool (decide (xs = ys)))) := by
  have hse : ((QcX xs).toList == (QcX ys).toList) = decide (xs = ys) := by
    obtain ⟨_, _, _, _, bx, _⟩ := hx
    obtain ⟨_, _, _, _, by', _⟩ := hy
    exact Qho bx by'
  refine enter 10 [(0, x), (1, y)] Tryd.func24 rfl rfl kj rfl ?_
  refine wp_seq_k fun K1 hK1 => ?_
  refine Qad ?_
  refine Qaa (.bool false) 4 rfl kj kj ?_
  refine Qaj ?_
  refine hK1 _ _ ?_
  refine wp_seq_k fun K2 hK2 => ?_
  refine Qad ?_
  refine Qaa (x) 5 rfl kj kj ?_
  refine Qaa (.string (QcX xs)) 6 rfl kj (Qfj _ x rfl kj xs hx) ?_
  refine Qaa (y) 7 rfl kj kj ?_
  refine Qaa (.string (QcX ys)) 8 rfl kj (Qfj _ y rfl kj ys hy) ?_
  refine Qaa (.bool (decide (xs = ys))) 9 rfl kj (Qag (u := .bool ((QcX xs).toList == (QcX ys).toList)) kj (congrArg Value.bool hse)) ?_
  refine Qaa (.bool (decide (xs = ys))) 4 rfl kj kj ?_
  refine Qaj ?_
  refine hK2 _ _ ?_
  refine wp_ret ?_
  repeat (first | with_reducible refine goR1 ?_ | with_reducible refine goR2 ?_)
  exact (show bodyPost _ _ _ .ret _ _ from ret1 (.bool (decide (xs = ys))) rfl (Qa7 kj) ⟨rfl, (Rely.Ext.refl w)⟩)
theorem QkV (x y : Value) (xs : List Int) (w : World) (hx : Qcb w x xs) (hy : Qcb w y xs) : Calls Tryd.prog 24 #[x, y] w (Ret w (.bool true)) := by
  have h := QkX x y xs xs w hx hy
  rwa [decide_eq_true rfl] at h
set_option maxHeartbeats 4000000 in
theorem Qky (gc gl len cap : Nat) (lp : Array Value) (w : World) (hgc : w.heap[gc]? = some (.cells #[.slice (some ⟨gl, 0, none⟩) len cap] 70)) (hgl : w.heap[gl]? = some (.cells lp 75)) (g i : Nat) (hi : i < len) (hli : lp[i]? = some (.pointer (some ⟨g, 0, none⟩))) (tc tq : TypeId) (hc : w.heap[2]? = some (.cells (ints .u64 QaI) tc)) (hq : w.heap[1]? = some (.cells (ints .u64 Qak) tq)) {mg pl : Nat} {s0 ts : List Int} {ms : List (Int × List Int)} (hch : ChSt g mg s0 ts pl ms w) (he : chkN ts pl ((pl : Nat) : Int) = 0) (hcg : 2 ≠ g) (hsg : 1 ≠ g) : Calls Tryd.prog 12 #[.pointer (some ⟨gc, 0, none⟩), .int .i64 ((i : Nat) : Int)] w (fun e W => ∃ v, e = .returned (.tuple #[v, .nilIface]) ∧ Qal [g, mg] w W ∧ ChSt g mg s0 (ts ++ [((pl : Nat) : Int)]) (max pl (pl + 1)) (Qda ms s0 pl pl) W ∧ QcJ w.heap.size ((pl : Nat) : Int) (keyV (itV s0 pl)) v W) := by
  obtain ⟨B, hW, hrg⟩ := hch.row
  refine enter 23 [(0, .pointer (some ⟨gc, 0, none⟩)), (1, .int .i64 ((i : Nat) : Int))] Tryd.func12 rfl rfl kj rfl ?_
  refine wp_seq_k fun K7 hK7 => ?_
  refine Qad ?_
  refine Qar (cat [#[.int .i64 0], ints .u8 (List.replicate 32 0), #[.slice none 0 0]]) 40 4 rfl kj kj fun g8 W1 l8 e1 r8_1 => ?_
  have x1 : Ext w W1 := Ext.tr (Rely.Ext.refl w) e1
  have b8 : w.heap.size ≤ g8 := Nat.le_trans (Rely.Ext.refl w).size l8
  refine Qaa (.nilIface) 5 rfl kj kj ?_
  refine Qaj ?_
  refine hK7 _ _ ?_
  refine wp_seq_k fun K9 hK9 => ?_
  refine Qad ?_
  refine Qaa (.pointer (some ⟨gc, 0, none⟩)) 7 rfl kj kj ?_
  refine Qaa (.int .i64 ((i : Nat) : Int)) 8 rfl kj kj ?_
  have r1_1 := (Qab hgc e1)
  have r2_1 := (Qab hgl e1)
  refine Qax (.pointer (some ⟨g, 0, none⟩)) 31 #[.pointer (some ⟨gc, 0, none⟩), .int .i64 ((i : Nat) : Int)] 9 rfl kj kj (at_I gc gl len cap lp _ r1_1 r2_1 g i hi hli) fun W2 e2 => ?_
  have x2 : Ext w W2 := Ext.tr x1 e2
  refine Qaa (.pointer (some ⟨g, 0, none⟩)) 6 rfl kj kj ?_
  refine Qaj ?_
  refine hK9 _ _ ?_
  refine wp_seq_k fun K10 hK10 => ?_
  refine wp_seq_k fun K11 hK11 => ?_
  refine Qad ?_
  refine Qaa (.pointer (some ⟨g, 0, none⟩)) 10 rfl kj kj ?_
  refine Qaa (.bool false) 11 rfl kj kj ?_
  refine Qaj ?_
  refine hK11 _ _ ?_
  refine cond_false kj ?_
  refine wp_skip ?_
  refine hK10 _ _ ?_
  refine wp_seq_k fun K12 hK12 => ?_
  refine Qad ?_
  refine Qaa (.pointer (some ⟨gc, 0, none⟩)) 14 rfl kj kj ?_
  refine Qaa (.int .i64 ((i : Nat) : Int)) 15 rfl kj kj ?_
  refine Qaa (.pointer (some ⟨g, 0, none⟩)) 16 rfl kj kj ?_
  refine Qaa (.pointer (some ⟨g, 0, none⟩)) 17 rfl kj kj ?_
  refine Qaa (.pointer (some ⟨g, 34, none⟩)) 18 rfl kj kj ?_
  have r5_1 := (Qab hrg e1)
  have r5_2 := (Qab r5_1 e2)
  refine Qaa (.int .i64 ((pl : Nat) : Int)) 19 rfl kj (Qah 3 _ g 34 84 _ (.int .i64 ((pl : Nat) : Int)) _ r5_2 rfl kj (Qa0 [#[.int .i64 ((pl : Nat) : Int)], #[.int .u64 ((B : Nat) : Int)], ints .u8 (itV s0 pl)] [#[.int .i64 ((pl : Nat) : Int)]] [#[.map (some mg)]] 34 (by rw [Qae, Qae, Qae]; simp only [Array.size_append, cat, ((Qac _ _).trans (Qaz hch.len pl))]; rfl) 0 _ rfl) kj) ?_
  have r3_1 := (Qab hc e1)
  have r3_2 := (Qab r3_1 e2)
  have r4_1 := (Qab hq e1)
  have r4_2 := (Qab r4_1 e2)
  have r1_2 := (Qab r1_1 e2)
  have r2_2 := (Qab r2_1 e2)
  refine Qa8 (fun v W' => ∃ u, v = .tuple #[u, .nilIface] ∧ Qal [g, mg] W2 W' ∧ ChSt g mg s0 (ts ++ [((pl : Nat) : Int)]) (max pl (pl + 1)) (Qda ms s0 pl pl) W' ∧ QcJ W2.heap.size ((pl : Nat) : Int) (keyV (itV s0 pl)) u W') 13 #[.pointer (some ⟨gc, 0, none⟩), .int .i64 ((i : Nat) : Int), .int .i64 ((pl : Nat) : Int)] 20 rfl kj kj ((Qjf gc gl len cap lp _ r1_2 r2_2 g i hi hli tc tq r3_2 r4_2 (hch.ext x2) pl he hcg hsg).mono (by rintro e w' ⟨v, rfl, q1, q2, q3⟩; exact ⟨_, rfl, _, rfl, q1, q2, q3⟩)) fun vv13 W3 hh13 => ?_
  obtain ⟨uu13, rfl, q3, hch2, u13, rfl, hu13⟩ := hh13
  obtain ⟨a13_, c13_, rfl, -⟩ := id (OwnN.rd hu13)
  have x3 : Qal [g, mg] w W3 := Qal.keeps (Qal.step (Qal.refl [g, mg] w) x2) q3 (fun c hc => .inl hc)
  refine Qaa (.agg (cat [#[.int .i64 ((pl : Nat) : Int)], ints .u8 ((keyV (itV s0 pl)).take 32), #[.slice a13_ (((keyV (itV s0 pl)).drop 32).length) c13_]])) 21 rfl kj kj ?_
  refine Qaa (.nilIface) 22 rfl kj kj ?_
  have r8_2 := (Qab r8_1 e2)
  have r8_3 := (Qal.row q3 r8_2 (Qau (Ne.symm (Nat.ne_of_lt (Nat.lt_of_lt_of_le hch.glt b8))) (Qau (Ne.symm (Nat.ne_of_lt (Nat.lt_of_lt_of_le hch.mp.lt b8))) QaG)))
  refine Qai g8 _ (cat [#[.int .i64 ((pl : Nat) : Int)], ints .u8 ((keyV (itV s0 pl)).take 32), #[.slice a13_ (((keyV (itV s0 pl)).drop 32).length) c13_]]) 40 r8_3 rfl kj (Qaq 40 _ _ g8 40 _ _ r8_3 rfl kj kj (isz (n := 34) kj (by rw [Qae, Qae, Qae]; simp only [Array.size_append, cat, ((Qac _ _).trans (QaW (QaF _)))]; rfl)) (eqsz (n := 34) (by rw [Qae, Qae, Qae]; simp only [Array.size_append, cat, ((Qac _ _).trans (List.length_replicate (n := 32)))]; rfl) (by rw [Qae, Qae, Qae]; simp only [Array.size_append, cat, ((Qac _ _).trans (QaW (QaF _)))]; rfl)) (QbG _ (by intro a ha; simp only [List.mem_cons, List.not_mem_nil, or_false] at ha; rcases ha with rfl | rfl | rfl; exact (QaU _ rfl); exact (Qa2 _ _); exact (QaU _ rfl)))) fun W4 p4 r8_4 => ?_
  have x4 : Qal [g, mg] w W4 := Qal.puts x3 p4 (.inr b8)
  refine Qaa (.nilIface) 5 rfl kj kj ?_
  refine Qaj ?_
  refine hK12 _ _ ?_
  refine wp_ret ?_
  repeat (first | with_reducible refine goR1 ?_ | with_reducible refine goR2 ?_)
  have f14_4 := (hu13.puts p4 (QcL hu13 (Qat r8_2)))
  exact (show bodyPost _ _ _ .ret _ _ from ret2 (.agg (cat [#[.int .i64 ((pl : Nat) : Int)], ints .u8 ((keyV (itV s0 pl)).take 32), #[.slice a13_ (((keyV (itV s0 pl)).drop 32).length) c13_]])) (.nilIface) rfl (QaR g8 40 _ r8_4 kj kj (isz (n := 34) kj (by rw [Qae, Qae, Qae]; simp only [Array.size_append, cat, ((Qac _ _).trans (QaW (QaF _)))]; rfl))) (Qa7 kj) ⟨_, rfl, x4, (hch2.keep (p4.2.2.2.2 g (Ne.symm (Ne.symm (Nat.ne_of_lt (Nat.lt_of_lt_of_le hch.glt b8))))) (p4.2.2.2.2 mg (Ne.symm (Ne.symm (Nat.ne_of_lt (Nat.lt_of_lt_of_le hch.mp.lt b8)))))), _, rfl, OwnN.base x2.size f14_4⟩)
end Go.Proofs.YtibegnjaphohaaaDoor.Cn
end
section
namespace Go.Proofs.YtibegnjaphohaaaDoor.Sha
open Go Go.RowKit
open Rely Auto Own
set_option linter.unusedVariables false
set_option linter.unusedSimpArgs false
set_option maxHeartbeats 4000000 in
theorem Qk5 (w : World) : Calls Tryd.prog 68 #[] w (QbH w (fun v W => ∃ g, v = .slice (some ⟨g, 0, none⟩) 80 80 ∧ w.heap.size ≤ g ∧ W.heap[g]? = some (.cells (ints .u64 QaI) 77))) := by
  refine enter 2 [] Tryd.func68 rfl rfl kj rfl ?_
  refine sgB kj ?_
  refine sgC fun K2 hK2 => ?_
  refine QaB (ints .u64 QaI) 77 80 1 rfl kj kj fun g3 W1 l3 e1 r3_1 => ?_
  refine sg 1 kj ?_
  refine sgN hK2 ?_
  refine wp_ret ?_
  repeat (first | with_reducible refine goR1 ?_ | with_reducible refine goR2 ?_)
  exact (show bodyPost _ _ _ .ret _ _ from ret1 (.slice (some ⟨g3, 0, none⟩) 80 80) rfl (Qa7 kj) ⟨_, rfl, (Ext.tr (Rely.Ext.refl w) e1), _, rfl, (Nat.le_trans (Rely.Ext.refl w).size l3), r3_1⟩)
set_option maxHeartbeats 4000000 in
theorem QkH (w : World) : Calls Tryd.prog 62 #[] w (QbH w (fun v W => ∃ g, v = .slice (some ⟨g, 0, none⟩) 8 8 ∧ w.heap.size ≤ g ∧ W.heap[g]? = some (.cells (ints .u64 Qak) 77))) := by
  refine enter 2 [] Tryd.func62 rfl rfl kj rfl ?_
  refine sgB kj ?_
  refine sgC fun K2 hK2 => ?_
  refine QaB (ints .u64 Qak) 77 8 1 rfl kj kj fun g3 W1 l3 e1 r3_1 => ?_
  refine sg 1 kj ?_
  refine sgN hK2 ?_
  refine wp_ret ?_
  repeat (first | with_reducible refine goR1 ?_ | with_reducible refine goR2 ?_)
  exact (show bodyPost _ _ _ .ret _ _ from ret1 (.slice (some ⟨g3, 0, none⟩) 8 8) rfl (Qa7 kj) ⟨_, rfl, (Ext.tr (Rely.Ext.refl w) e1), _, rfl, (Nat.le_trans (Rely.Ext.refl w).size l3), r3_1⟩)
theorem QkD (i : Nat) (h : i < 64) : IntKind.u64.wrap (Int.tdiv (nth QaI i) 4294967296) = nth QaI i / 4294967296 := by
  have : ∀ i : Fin 64, IntKind.u64.wrap (Int.tdiv (nth QaI i.1) 4294967296) = nth QaI i.1 / 4294967296 := by decide +kernel
  exact this ⟨i, h⟩
theorem Qjz {i : Nat} (h : i < 64) : (KK.take (i + 1)).map wv = (KK.take i).map wv ++ [wv (wget KK i)] := by
  have : ∀ i : Fin 64, (KK.take (i.1 + 1)).map wv = (KK.take i.1).map wv ++ [wv (wget KK i.1)] := by decide +kernel
  exact this ⟨i, h⟩
set_option maxHeartbeats 4000000 in
theorem Qj2 (w : World) : Calls Tryd.prog 63 #[] w (QbH w (OwnN .u32 113 w.heap.size (KK.map wv))) := by
 refine enter 19 [] Tryd.func63 rfl rfl kj rfl ?_
 refine sgB kj ?_
 refine sgB kj ?_
 refine sgC fun K3 hK3 => ?_
 refine Qa8 (fun v W' => (fun v W => ∃ g, v = .slice (some ⟨g, 0, none⟩) 80 80 ∧ w.heap.size ≤ g ∧ W.heap[g]? = some (.cells (ints .u64 QaI) 77)) v W' ∧ Ext w W') 68 #[] 4 rfl kj kj ((Qk5 _).mono (by rintro e w' ⟨v, rfl, e1, hv⟩; exact ⟨v, rfl, hv, e1⟩)) fun vv4 W1 hh4 => ?_
 obtain ⟨hv4, e1⟩ := hh4
 have x1 := Ext.tr (Rely.Ext.refl w) e1
 obtain ⟨gd5, rfl, ld5, rd5_1⟩ := hv4
 have b5 := Nat.le_trans (Rely.Ext.refl w).size ld5
 refine sg 1 kj ?_
 refine sgN hK3 ?_
 refine wp_seq_k fun K6 hK6 => ?_
 refine sgB kj ?_
 refine wp_block ?_
 refine Qa9 (fun (s1 : Nat × Value) => [(1, s1.2), (2, .slice (some ⟨gd5, 0, none⟩) 80 80), (3, .int .i64 ((s1.1 : Nat) : Int))]) (fun (s1 : Nat × Value) W => (s1.1 ≤ 64) ∧ (OwnN .u32 113 W1.heap.size ((KK.take s1.1).map wv) s1.2 W) ∧ (Ext W1 W) ∧ (Ext w W)) (fun (s1 : Nat × Value) => 64 - s1.1) (0, (.slice none 0 0)) ⟨kj, kj, kj, trivial⟩ ⟨(Nat.zero_le _), (Qbv _ _ _ _), (Rely.Ext.refl W1), x1⟩ fun s1 X1 V1 hI1 => ?_
 obtain ⟨i, u⟩ := s1
 obtain ⟨hi, hu, kk1, xx1⟩ := hI1
 replace hi : i ≤ 64 := hi
 replace hu : OwnN .u32 113 W1.heap.size ((KK.take i).map wv) u V1 := hu
 replace kk1 : Ext W1 V1 := kk1
 replace xx1 : Ext w V1 := xx1
 have e2 := kk1
 refine wp_seq_k fun K8 hK8 => ?_
 refine sgB kj ?_
 refine Qa5 (t := decide (((i : Nat) : Int) < 64)) kj (fun c10 => ?_) (fun c10 => ?_)
 ·skip
  have hlt6 : i < 64 := by have := of_decide_eq_true c10; omega
  refine wp_skip ?_
  refine hK8 _ _ ?_
  refine wp_seq_k fun K11 hK11 => ?_
  refine wp_block ?_
  refine Qad ?_
  refine sg 3 kj ?_
  refine Qaa (.pointer (some ⟨gd5, i, none⟩)) 12 rfl kj (QaX 111 _ _ .i64 (i) gd5 80 80 77 rfl kj kj kj kj (by omega)) ?_
  refine Qaa (.int .u64 (nth (QaI) i)) 13 rfl kj (Qah 77 _ gd5 i 77 _ (.int .u64 (nth (QaI) i)) _ (Qab rd5_1 e2) rfl kj (QaY _ _ _ (Nat.lt_of_lt_of_eq (by omega) (show QaI.length = 80 from rfl).symm)) kj) ?_
  refine Qaa (.int .u64 (nth QaI i / 4294967296)) 14 rfl kj (Qag (u := .int .u64 (IntKind.u64.wrap (Int.tdiv ((nth (QaI) i)) (4294967296)))) kj (congrArg (Value.int .u64) (QkD i hlt6))) ?_
  refine Qaa (.int .u32 (wv (wget KK i))) 15 rfl kj (Qag (u := .int .u32 (IntKind.u32.wrap (nth QaI i / 4294967296))) kj (congrArg (Value.int .u32) (Qjs i hlt6))) ?_
  refine QaB (ints .u32 ([(wv (wget KK i))])) 113 1 16 rfl kj kj fun g12 W3 l12 e3 r12_3 => ?_
  have b12 := Nat.le_trans xx1.size l12
  refine QaC (k := .u32) (T := 113) (xs := (KK.take i).map wv) (ys := [wv (wget KK i)]) (V := W1) 4 (.tmp 9) (.tmp 16) 115 rfl kj kj (by decide) 17 rfl kj kj kj (hu.ext e3) (QaK (xs := [(wv (wget KK i))]) (n := 1) rfl r12_3 (Qat r12_3) (show 1 ≤ maxLen from by decide)) (by rw [List.length_map, List.length_take]; show _ + 1 ≤ _; omega) (Rely.Ext.trans e2 e3) fun u2 W4 f14 y4 l4 => ?_
  refine sg 1 kj ?_
  refine Qaj ?_
  refine hK11 _ _ ?_
  refine Qad ?_
  refine sg 1 kj ?_
  refine Qaa (.int .i64 ((i + 1 : Nat) : Int)) 8 rfl kj (Qag (u := .int .i64 (IntKind.i64.wrap (((i : Nat) : Int) + 1))) kj (congrArg (Value.int .i64) (i64n _ _ (by omega) (by omega)))) ?_
  refine sg 1 kj ?_
  refine Qaj ?_
  repeat (first | with_reducible refine goX1 ?_ | with_reducible refine goX2 ?_ | with_reducible refine goX3 ?_)
  exact Qa4 ((i + 1), u2) ⟨kj, kj, kj, trivial⟩ ⟨(by omega), (by rw [Qjz hlt6]; exact f14), y4, (Ext.low (Ext.tr xx1 e3) l4 x1.size)⟩ (by show 64 - (i + 1) < 64 - i; omega)
 ·skip
  have heq6 : i = 64 := by have := of_decide_eq_false c10; omega
  refine wp_exit ?_
  refine hK6 _ _ ?_
  refine sgB kj ?_
  refine wp_ret ?_
  repeat (first | with_reducible refine goR1 ?_ | with_reducible refine goR2 ?_)
  exact (show bodyPost _ _ _ .ret _ _ from ret1 (u) rfl (Qa7 kj) ⟨u, rfl, xx1, OwnN.base x1.size (by rw [show KK.map wv = (KK.take i).map wv by rw [heq6, List.take_of_length_le (show KK.length ≤ 64 by decide)]]; exact hu)⟩)
end Go.Proofs.YtibegnjaphohaaaDoor.Sha
end
section
namespace Go.Proofs.YtibegnjaphohaaaDoor.Sha
open Go Go.RowKit
open Rely Auto Own
set_option linter.unusedVariables false
set_option linter.unusedSimpArgs false
theorem rdK_open {k : IntKind} {B : Nat} {ys : List Int} {a : Option Addr} {n c : Nat} {W : World} (h : RdK k B ys (.slice a n c) W) (h0 : 0 < ys.length) : ∃ g o, a = some ⟨g, o, none⟩ ∧ g < B ∧ ∀ i, i < ys.length → W.cell? ⟨g, o + i, none⟩ = some (.int k (nth ys i)) := by
  obtain ⟨a', cap', e, h2, h3, h4, h5⟩ := h
  simp only [Value.slice.injEq] at e
  obtain ⟨rfl, -, -⟩ := e
  rcases h5 with h5 | ⟨g, o, q1, q2, q3, q4⟩
  · rw [h5] at h0; simp at h0
  · exact ⟨g, o, q1, q2, q4⟩
section
variable {P : Program} {ρ : Operand → Value} {o : Oper} {w : World}
theorem run_indexA (t : TypeId) (x y : Operand) (k : IntKind) (n g off len cap : Nat) (e : TypeId) (a : Option Addr) (z : Int) (ha : a = some ⟨g, off, none⟩) (hz : z = (n : Int)) (ho : o.op = .indexAddr t x y) (hx : ρ x = .slice a len cap) (hy : ρ y = .int k z)
    (hu : P.underlying t = some (.slice e)) (hs : (P.info? e).map (·.size) = some 1) (hn : n < len) : (execOp ρ o).run P w = .ok (.value (.pointer (some ⟨g, off + n, none⟩))) w := by
  subst ha; subst hz
  exact QcE t x y k n g off len cap e ho hx hy hu hs hn
end
section
variable {ds : List Deferred} {P : Program} {ops : Array Oper} {Q : Exit → Act → World → Prop} {rest : List Oper} {o : Oper} {N : Nat} {L : Env} {W : World}
theorem QfB {k : IntKind} {T : TypeId} (b : Nat) (s x : Operand) (t : TypeId) (ho : o.op = .call { callee := .builtin .append, args := #[s, x], argTypes := #[t, t] })
    (ht : P.underlying t = some (.slice T)) (hi : (P.info? T).map (fun i => (i.zero, i.size, i.bytes)) = some (some (.int k 0), 1, b)) (hb8 : b ≤ 8) (d : Nat) (hd : o.dst = some d) (hg : Qbq ops o N L = some true) {B : Nat} {v y : Value} {xs ys : List Int} {V : World}
    (hs : Rely.look (envN N L) s = v) (hx : Rely.look (envN N L) x = y)
    (h : OwnN k T V.heap.size xs v W) (hy : RdK k B ys y W) {g9 : Nat} (hl : g9 < W.heap.size) (hne : v.ownBlock ≠ some g9) (hn : xs.length + ys.length ≤ 1000000000) (hV : Ext V W)
    (kk : ∀ (u : Value) (W' : World), OwnN k T V.heap.size (xs ++ ys) u W' → Ext V W' → Below V.heap.size W W' → (u.ownBlock ≠ some g9 ∧ g9 < W'.heap.size ∧ W'.heap[g9]? = W.heap[g9]?) → WL P ops Q rest (Qav ds N ((d, u) :: L)) W') : WL P ops Q (o :: rest) (Qav ds N L) W := by
  obtain ⟨v', W', h1, h2, h3, h4⟩ := Qdk (ρ := Rely.look (envN N L)) (o := o) (W := W) s x t ho ht hi hb8 hs hx h hy hn hV.size
  refine Qbr _ _ d hd hg h1 (kk v' W' h2 (QeT hV h h3) ⟨h3.os, h3.tape, h3.output, h3.size, fun i hi => h3.block i (Nat.lt_of_lt_of_le hi hV.size) (fun q => by have := h.ge q.symm; omega)⟩ ⟨?_, Nat.lt_of_lt_of_le hl h3.size, h3.block g9 hl (fun q => hne q.symm)⟩)
  rcases h4 with h4 | h4
  · rw [h4]; exact hne
  · rw [h4]; intro e; have := Option.some.inj e; omega
end
def leP (n j : Nat) : List Int := (List.range j).map fun i => ((8 * n / 256 ^ i % 256 : Nat) : Int)
theorem QdU (n j : Nat) : (leP n j).length = j := by simp [leP]
theorem QiD (n j : Nat) : leP n (j + 1) = leP n j ++ [((8 * n / 256 ^ j % 256 : Nat) : Int)] := by simp [leP, List.range_succ]
theorem Qlg (n j : Nat) (h : j < 8) : nth (leP n 8) (7 - j) = nth (be8 (8 * n)) j := by
  match j, h with
  | 0, _ => rfl
  | 1, _ => rfl
  | 2, _ => rfl
  | 3, _ => rfl
  | 4, _ => rfl
  | 5, _ => rfl
  | 6, _ => rfl
  | 7, _ => rfl
theorem Qkb (m j : Nat) (h : j < 8) : (be8 m).take (j + 1) = (be8 m).take j ++ [nth (be8 m) j] := by
  match j, h with
  | 0, _ => rfl
  | 1, _ => rfl
  | 2, _ => rfl
  | 3, _ => rfl
  | 4, _ => rfl
  | 5, _ => rfl
  | 6, _ => rfl
  | 7, _ => rfl
theorem Qix (t : List Int) (i : Nat) : t ++ 128 :: List.replicate (i + 1) (0 : Int) = (t ++ 128 :: List.replicate i 0) ++ [0] := by
  rw [List.append_assoc, List.cons_append, List.replicate_succ']
theorem Qi3 (t : List Int) (i : Nat) (h : i ≤ QaO t.length) : ((((t ++ 128 :: List.replicate i (0 : Int)).length % 64 : Nat) : Int) != 56) = decide (i < QaO t.length) := by
  have hl : (t ++ 128 :: List.replicate i (0 : Int)).length = t.length + (i + 1) := by simp
  rw [hl]
  unfold QaO at *
  by_cases h2 : i < (64 - (t.length + 9) % 64) % 64
  · rw [decide_eq_true h2, bne_iff_ne]; omega
  · rw [decide_eq_false h2, bne_eq_false_iff_eq]; omega
theorem QjI (n j : Nat) : decide ((((leP n j).length : Nat) : Int) < 8) = decide (j < 8) := by
  rw [QdU]
  exact decide_eq_decide.2 (by omega)
theorem QjN (j : Nat) (h : j ≤ 8) : decide ((7 : Int) - ((j : Nat) : Int) ≥ 0) = decide (j < 8) := decide_eq_decide.2 (by omega)
theorem Qlk (j : Nat) (h : j ≤ 8) : IntKind.i64.wrap ((7 : Int) - ((j : Nat) : Int) - 1) = (7 : Int) - ((j + 1 : Nat) : Int) := by
  rw [show (7 : Int) - ((j : Nat) : Int) - 1 = (7 : Int) - ((j + 1 : Nat) : Int) by omega]
  exact IntWalk.i64_in _ (by omega)
theorem le_0 (n : Nat) : IntKind.u8.wrap ((n % 32 * 8 : Nat) : Int) = ((8 * n / 256 ^ 0 % 256 : Nat) : Int) := by
  rw [Qih, Nat.pow_zero, Nat.div_one]; omega
theorem le_j (m : Nat) : IntKind.u8.wrap ((m % 256 : Nat) : Int) = ((m % 256 : Nat) : Int) := by rw [Qih]; omega
theorem q_1 (n : Nat) : 8 * n / 256 ^ 1 = n / 32 := by rw [Nat.pow_one]; omega
theorem q_j (m j : Nat) : m / 256 ^ j / 256 = m / 256 ^ (j + 1) := by rw [Nat.div_div_eq_div_mul, Nat.pow_succ]
theorem Qj7 (t : List Int) : (t ++ 128 :: List.replicate (QaO t.length) (0 : Int)) ++ (be8 (8 * t.length)).take 8 = padT t := by
  rw [List.append_assoc, List.cons_append]
  rfl
set_option maxHeartbeats 4000000 in
theorem padC (t : List Int) (v : Value) (B : Nat) (w : World) (hlen : t.length ≤ 900000000) (hr : RdK .u8 B t v w) : Calls Tryd.prog 64 #[v, .int .i64 64, .int .i64 8] w (QbH w (OwnN .u8 5 w.heap.size (padT t))) := by
 obtain ⟨a_t, c_t, rfl, -⟩ := id hr
 have hF : QaO t.length < 64 := by unfold QaO; omega
 refine enter 62 [(0, .slice a_t t.length c_t), (1, .int .i64 64), (2, .int .i64 8)] Tryd.func64 rfl rfl kj rfl ?_
 refine sgB kj ?_
 refine sgC fun K2 hK2 => ?_
 refine QaB (ints .u8 ([])) 5 0 11 rfl kj kj fun g3 W1 l3 e1 r3_1 => ?_
 have x1 := Ext.tr (Rely.Ext.refl w) e1
 have b3 := Nat.le_trans (Rely.Ext.refl w).size l3
 refine sg 1 kj ?_
 refine QaC (k := .u8) (T := 5) (xs := []) (ys := t) (V := w) 1 (.tmp 11) (.tmp 12) 38 rfl kj kj (by decide) 13 rfl kj kj kj (QbD (xs := []) rfl l3 r3_1 (by decide)) (RdK.ext hr x1) (by simp; omega) (Rely.Ext.trans (Rely.Ext.refl w) e1) fun z1 W2 f4 y2 l2 => ?_
 have x2 := Ext.low x1 l2 (Rely.Ext.refl w).size
 refine QaB (ints .u8 ([128])) 5 1 14 rfl kj kj fun g6 W3 l6 e3 r6_3 => ?_
 have b6 := Nat.le_trans x2.size l6
 refine QaC (k := .u8) (T := 5) (xs := [] ++ t) (ys := [128]) (V := w) 1 (.tmp 13) (.tmp 14) 38 rfl kj kj (by decide) 15 rfl kj kj kj (f4.ext e3) (QaK (xs := [128]) (n := 1) rfl r6_3 (Qat r6_3) (show 1 ≤ maxLen from by decide)) (by simp; omega) (Rely.Ext.trans y2 e3) fun z2 W4 f8 y4 l4 => ?_
 refine sg 1 kj ?_
 refine sgN hK2 ?_
 refine wp_seq_k fun K10 hK10 => ?_
 refine wp_block ?_
 refine Qa9 (fun (s1 : Nat × Value) => [(0, .slice a_t t.length c_t), (1, .int .i64 64), (2, .int .i64 8), (7, s1.2)]) (fun (s1 : Nat × Value) W => (s1.1 ≤ QaO t.length) ∧ (OwnN .u8 5 w.heap.size (t ++ 128 :: List.replicate s1.1 0) s1.2 W) ∧ (Ext w W)) (fun (s1 : Nat × Value) => QaO t.length - s1.1) (0, z2) ⟨kj, kj, kj, kj, trivial⟩ ⟨(Nat.zero_le _), (by have h := f8; simpa using h), (Ext.low (Ext.tr x2 e3) l4 (Rely.Ext.refl w).size)⟩ fun s1 X1 V1 hI1 => ?_
 obtain ⟨i, u⟩ := s1
 obtain ⟨hi, hu, xx1⟩ := hI1
 replace hi : i ≤ QaO t.length := hi
 replace hu : OwnN .u8 5 w.heap.size (t ++ 128 :: List.replicate i 0) u V1 := hu
 replace xx1 : Ext w V1 := xx1
 obtain ⟨a7, c7, rfl, -⟩ := id (OwnN.rd hu)
 refine wp_seq_k fun K11 hK11 => ?_
 refine sgC fun K12 hK12 => ?_
 refine sg 3 kj ?_
 refine Qaa (.int .i64 ((((t ++ 128 :: List.replicate i 0).length) % 64 : Nat) : Int)) 19 rfl kj (Qag (u := .int .i64 (Int.tmod ((((t ++ 128 :: List.replicate i 0).length : Nat) : Int)) (64))) kj (congrArg (Value.int .i64) (QbY _ 64))) ?_
 refine sg 3 kj ?_
 refine Qaa (.bool (decide (i < QaO t.length))) 23 rfl kj (Qag (u := .bool ((((((t ++ 128 :: List.replicate i 0).length) % 64 : Nat) : Int) != 56))) kj (congrArg Value.bool (Qi3 t i hi))) ?_
 refine sgN hK12 ?_
 refine Qa5 (t := decide (i < QaO t.length)) kj (fun c13 => ?_) (fun c13 => ?_)
 ·skip
  have hlt23 : i < QaO t.length := by have := of_decide_eq_true c13; omega
  refine wp_skip ?_
  refine hK11 _ _ ?_
  refine wp_block ?_
  refine Qad ?_
  refine sg 1 kj ?_
  refine QaB (ints .u8 ([0])) 5 1 25 rfl kj kj fun g14 W6 l14 e6 r14_6 => ?_
  have x6 := Ext.tr xx1 e6
  have b14 := Nat.le_trans xx1.size l14
  refine QaC (k := .u8) (T := 5) (xs := t ++ 128 :: List.replicate i 0) (ys := [0]) (V := w) 1 (.tmp 24) (.tmp 25) 38 rfl kj kj (by decide) 26 rfl kj kj kj (hu.ext e6) (QaK (xs := [0]) (n := 1) rfl r14_6 (Qat r14_6) (show 1 ≤ maxLen from by decide)) (by simp; omega) (Rely.Ext.trans xx1 e6) fun z3 W7 f16 y7 l7 => ?_
  refine sg 1 kj ?_
  refine Qaj ?_
  repeat (first | with_reducible refine goX1 ?_ | with_reducible refine goX2 ?_ | with_reducible refine goX3 ?_)
  exact Qa4 ((i + 1), z3) ⟨kj, kj, kj, kj, trivial⟩ ⟨(by omega), (by rw [Qix]; exact f16), (Ext.low x6 l7 (Rely.Ext.refl w).size)⟩ (by show QaO t.length - (i + 1) < QaO t.length - i; omega)
 ·skip
  have heq23 : i = QaO t.length := by have := of_decide_eq_false c13; omega
  subst heq23
  refine wp_exit ?_
  refine hK10 _ _ ?_
  refine sgB kj ?_
  refine sgC fun K19 hK19 => ?_
  refine sg 1 kj ?_
  refine Qaa (.int .i64 ((t.length % 32 : Nat) : Int)) 30 rfl kj (Qag (u := .int .i64 (Int.tmod (((t.length : Nat) : Int)) (32))) kj (congrArg (Value.int .i64) (QbY _ 32))) ?_
  refine Qaa (.int .i64 (((t.length % 32) * 8 : Nat) : Int)) 31 rfl kj (Qag (u := .int .i64 (IntKind.i64.wrap (((t.length % 32 : Nat) : Int) * 8))) kj (congrArg (Value.int .i64) (i64n _ _ (by omega) (by omega)))) ?_
  refine Qaa (.int .u8 (((8 * t.length / 256 ^ 0 % 256 : Nat) : Int))) 32 rfl kj (Qag (u := .int .u8 (IntKind.u8.wrap (((t.length % 32) * 8 : Nat) : Int))) kj (congrArg (Value.int .u8) (le_0 _))) ?_
  refine QaB (ints .u8 ([(((8 * t.length / 256 ^ 0 % 256 : Nat) : Int))])) 5 1 33 rfl kj kj fun g20 W6 l20 e6 r20_6 => ?_
  have x6 := Ext.tr xx1 e6
  have b20 := Nat.le_trans xx1.size l20
  refine sg 1 kj ?_
  refine sgN hK19 ?_
  refine sgC fun K21 hK21 => ?_
  refine sg 1 kj ?_
  refine Qaa (.int .i64 ((t.length / 32 : Nat) : Int)) 35 rfl kj (Qag (u := .int .i64 (IntKind.i64.wrap (Int.tdiv (((t.length : Nat) : Int)) (32)))) kj (congrArg (Value.int .i64) (Qdx _ 32 (by omega)))) ?_
  refine sg 1 kj ?_
  refine sgN hK21 ?_
  refine wp_seq_k fun K22 hK22 => ?_
  refine wp_block ?_
  refine Qa9 (fun (s2 : Nat × Value) => [(0, .slice a_t t.length c_t), (1, .int .i64 64), (2, .int .i64 8), (7, .slice a7 ((t ++ 128 :: List.replicate (QaO t.length) 0).length) c7), (8, .int .i64 ((8 * t.length / 256 ^ s2.1 : Nat) : Int)), (9, s2.2)]) (fun (s2 : Nat × Value) W => (1 ≤ s2.1) ∧ (s2.1 ≤ 8) ∧ (OwnN .u8 5 w.heap.size (t ++ 128 :: List.replicate (QaO t.length) 0) (.slice a7 ((t ++ 128 :: List.replicate (QaO t.length) 0).length) c7) W) ∧ (OwnN .u8 5 V1.heap.size (leP t.length s2.1) s2.2 W) ∧ (Ext V1 W) ∧ (Ext w W)) (fun (s2 : Nat × Value) => 8 - s2.1) (1, .slice (some ⟨g20, 0, none⟩) 1 1) ⟨kj, kj, kj, kj, (congrArg (fun z : Nat => Value.int .i64 (z : Int)) (q_1 _).symm), kj, trivial⟩ ⟨(Nat.le_refl _), (show (1 : Nat) ≤ 8 by decide), (hu.ext e6), (QbD (xs := leP t.length 1) rfl l20 r20_6 (by decide)), (Rely.Ext.trans (Rely.Ext.refl V1) e6), x6⟩ fun s2 X2 V2 hI2 => ?_
  obtain ⟨j, u⟩ := s2
  obtain ⟨hj1, hj, h7, hu9, hv9, xx2⟩ := hI2
  replace hj1 : 1 ≤ j := hj1
  replace hj : j ≤ 8 := hj
  replace h7 : OwnN .u8 5 w.heap.size (t ++ 128 :: List.replicate (QaO t.length) 0) (.slice a7 ((t ++ 128 :: List.replicate (QaO t.length) 0).length) c7) V2 := h7
  replace hu9 : OwnN .u8 5 V1.heap.size (leP t.length j) u V2 := hu9
  replace hv9 : Ext V1 V2 := hv9
  replace xx2 : Ext w V2 := xx2
  obtain ⟨a9, c9, rfl, -⟩ := id (OwnN.rd hu9)
  have hq8 : 8 * t.length / 256 ^ j ≤ 8000000000 := Nat.le_trans (Nat.div_le_self _ _) (by omega)
  refine wp_seq_k fun K24 hK24 => ?_
  refine sgC fun K25 hK25 => ?_
  refine sg 3 kj ?_
  refine Qaa (.bool (decide (j < 8))) 39 rfl kj (Qag (u := .bool (decide ((((leP t.length j).length : Nat) : Int) < 8))) kj (congrArg Value.bool (QjI _ _))) ?_
  refine sgN hK25 ?_
  refine Qa5 (t := decide (j < 8)) kj (fun c26 => ?_) (fun c26 => ?_)
  ·skip
   have hlt39 : j < 8 := by have := of_decide_eq_true c26; omega
   refine wp_skip ?_
   refine hK24 _ _ ?_
   refine wp_block ?_
   refine sgC fun K27 hK27 => ?_
   refine sg 2 kj ?_
   refine Qaa (.int .i64 (((8 * t.length / 256 ^ j) % 256 : Nat) : Int)) 42 rfl kj (Qag (u := .int .i64 (Int.tmod (((8 * t.length / 256 ^ j : Nat) : Int)) (256))) kj (congrArg (Value.int .i64) (QbY _ 256))) ?_
   refine Qaa (.int .u8 (((8 * t.length / 256 ^ j % 256 : Nat) : Int))) 43 rfl kj (Qag (u := .int .u8 (IntKind.u8.wrap (((8 * t.length / 256 ^ j) % 256 : Nat) : Int))) kj (congrArg (Value.int .u8) (le_j _))) ?_
   refine QaB (ints .u8 ([(((8 * t.length / 256 ^ j % 256 : Nat) : Int))])) 5 1 44 rfl kj kj fun g28 W8 l28 e8 r28_8 => ?_
   have b28 := Nat.le_trans xx2.size l28
   refine QaC (k := .u8) (T := 5) (xs := leP t.length j) (ys := [(((8 * t.length / 256 ^ j % 256 : Nat) : Int))]) (V := V1) 1 (.tmp 40) (.tmp 44) 38 rfl kj kj (by decide) 45 rfl kj kj kj (hu9.ext e8) (QaK (xs := [(((8 * t.length / 256 ^ j % 256 : Nat) : Int))]) (n := 1) rfl r28_8 (Qat r28_8) (show 1 ≤ maxLen from by decide)) (by rw [QdU]; show _ + 1 ≤ _; omega) (Rely.Ext.trans hv9 e8) fun z4 W9 f30 y9 l9 => ?_
   have x9 := Ext.low (Ext.tr xx2 e8) l9 xx1.size
   refine sg 1 kj ?_
   refine sgN hK27 ?_
   refine Qad ?_
   refine sg 1 kj ?_
   refine Qaa (.int .i64 (((8 * t.length / 256 ^ j) / 256 : Nat) : Int)) 47 rfl kj (Qag (u := .int .i64 (IntKind.i64.wrap (Int.tdiv (((8 * t.length / 256 ^ j : Nat) : Int)) (256)))) kj (congrArg (Value.int .i64) (Qdx _ 256 (by omega)))) ?_
   refine sg 1 kj ?_
   refine Qaj ?_
   repeat (first | with_reducible refine goX1 ?_ | with_reducible refine goX2 ?_ | with_reducible refine goX3 ?_)
   exact Qa4 ((j + 1), z4) ⟨kj, kj, kj, kj, (congrArg (fun z : Nat => Value.int .i64 (z : Int)) (q_j _ _)), kj, trivial⟩ ⟨(by omega), (by omega), (OwnN.low (n := 0) (h7.ext e8) hu l9), (by rw [QiD]; exact f30), y9, x9⟩ (by show 8 - (j + 1) < 8 - j; omega)
  ·skip
   have heq39 : j = 8 := by have := of_decide_eq_false c26; omega
   subst heq39
   refine wp_exit ?_
   refine hK22 _ _ ?_
   refine wp_seq_k fun K34 hK34 => ?_
   refine sgB kj ?_
   refine wp_block ?_
   obtain ⟨g9, o9, ha9, hl0, hc0⟩ := rdK_open (OwnN.rd hu9) (by rw [QdU]; decide)
   have hne0 : (Value.slice a7 (t ++ 128 :: List.replicate (QaO t.length) 0).length c7).ownBlock ≠ some g9 := fun e => by
    have h1 := OwnN.lt hu e
    have h2 := OwnN.ge hu9 (g := g9) (by rw [ha9]; rfl)
    omega
   refine Qa9 (fun (s3 : Nat × Value) => [(7, s3.2), (9, .slice a9 ((leP t.length 8).length) c9), (10, .int .i64 ((7 : Int) - ((s3.1 : Nat) : Int)))]) (fun (s3 : Nat × Value) W => (s3.1 ≤ 8) ∧ (OwnN .u8 5 w.heap.size (t ++ 128 :: List.replicate (QaO t.length) 0 ++ (be8 (8 * t.length)).take s3.1) s3.2 W) ∧ (g9 < W.heap.size) ∧ (s3.2.ownBlock ≠ some g9) ∧ (∀ i, i < (leP t.length 8).length → W.cell? ⟨g9, o9 + i, none⟩ = some (.int .u8 (nth (leP t.length 8) i))) ∧ (Ext w W)) (fun (s3 : Nat × Value) => 8 - s3.1) (0, .slice a7 ((t ++ 128 :: List.replicate (QaO t.length) 0).length) c7) ⟨kj, kj, kj, trivial⟩ ⟨(Nat.zero_le _), (by rw [List.take_zero, List.append_nil]; exact h7), hl0, hne0, hc0, xx2⟩ fun s3 X3 V3 hI3 => ?_
   obtain ⟨j, u⟩ := s3
   obtain ⟨hj, hu, hl, hne, hcl, xx3⟩ := hI3
   replace hj : j ≤ 8 := hj
   replace hu : OwnN .u8 5 w.heap.size (t ++ 128 :: List.replicate (QaO t.length) 0 ++ (be8 (8 * t.length)).take j) u V3 := hu
   replace hl : g9 < V3.heap.size := hl
   replace hne : u.ownBlock ≠ some g9 := hne
   replace hcl : ∀ i, i < (leP t.length 8).length → V3.cell? ⟨g9, o9 + i, none⟩ = some (.int .u8 (nth (leP t.length 8) i)) := hcl
   replace xx3 : Ext w V3 := xx3
   refine wp_seq_k fun K36 hK36 => ?_
   refine sgC fun K37 hK37 => ?_
   refine sg 1 kj ?_
   refine Qaa (.bool (decide (j < 8))) 51 rfl kj (Qag (u := .bool (decide (((7 : Int) - ((j : Nat) : Int)) ≥ 0))) kj (congrArg Value.bool (QjN j hj))) ?_
   refine sgN hK37 ?_
   refine Qa5 (t := decide (j < 8)) kj (fun c38 => ?_) (fun c38 => ?_)
   ·skip
    have hlt51 : j < 8 := by have := of_decide_eq_true c38; omega
    refine wp_skip ?_
    refine hK36 _ _ ?_
    refine wp_seq_k fun K39 hK39 => ?_
    refine wp_block ?_
    refine Qad ?_
    refine sg 3 kj ?_
    refine Qaa (.pointer (some ⟨g9, o9 + (7 - j), none⟩)) 57 rfl kj (run_indexA 38 _ _ .i64 (7 - j) g9 o9 (leP t.length 8).length c9 5 a9 ((7 : Int) - ((j : Nat) : Int)) ha9 (by omega) rfl kj kj kj kj (by rw [QdU]; omega)) ?_
    refine Qaa (.int .u8 (nth (be8 (8 * t.length)) j)) 58 rfl kj (QaA 5 _ _ (.int .u8 (nth (be8 (8 * t.length)) j)) ((hcl (7 - j) (by rw [QdU]; omega)).trans (congrArg (fun z => some (Value.int .u8 z)) (Qlg _ j hlt51))) rfl kj kj) ?_
    refine QaB (ints .u8 ([(nth (be8 (8 * t.length)) j)])) 5 1 59 rfl kj kj fun g40 W9 l40 e9 r40_9 => ?_
    have x9 := Ext.tr xx3 e9
    have b40 := Nat.le_trans xx3.size l40
    have hl4 := Nat.lt_of_lt_of_le hl e9.size
    have hb4 := e9.block g9 hl
    refine QfB (k := .u8) (T := 5) (xs := t ++ 128 :: List.replicate (QaO t.length) 0 ++ (be8 (8 * t.length)).take j) (ys := [(nth (be8 (8 * t.length)) j)]) (V := w) 1 (.tmp 54) (.tmp 59) 38 rfl kj kj (by decide) 60 rfl kj kj kj (hu.ext e9) (QaK (xs := [(nth (be8 (8 * t.length)) j)]) (n := 1) rfl r40_9 (Qat r40_9) (show 1 ≤ maxLen from by decide)) hl4 hne (by simp [be8]; unfold QaO; omega) (Rely.Ext.trans xx3 e9) fun z5 W10 f42 y10 l10 hP => ?_
    refine sg 1 kj ?_
    refine Qaj ?_
    refine hK39 _ _ ?_
    refine Qad ?_
    refine sg 1 kj ?_
    refine Qaa (.int .i64 ((7 : Int) - ((j + 1 : Nat) : Int))) 53 rfl kj (Qag (u := .int .i64 (IntKind.i64.wrap (((7 : Int) - ((j : Nat) : Int)) - 1))) kj (congrArg (Value.int .i64) (Qlk j (by omega)))) ?_
    refine sg 1 kj ?_
    refine Qaj ?_
    repeat (first | with_reducible refine goX1 ?_ | with_reducible refine goX2 ?_ | with_reducible refine goX3 ?_)
    exact Qa4 ((j + 1), z5) ⟨kj, kj, kj, trivial⟩ ⟨(by omega), (by rw [Qkb _ _ hlt51, ← List.append_assoc]; exact f42), hP.2.1, hP.1, (fun i hi => (World.cell?_of_block (hP.2.2.trans hb4)).trans (hcl i hi)), (Ext.low x9 l10 (Rely.Ext.refl w).size)⟩ (by show 8 - (j + 1) < 8 - j; omega)
   ·skip
    have heq51 : j = 8 := by have := of_decide_eq_false c38; omega
    subst heq51
    refine wp_exit ?_
    refine hK34 _ _ ?_
    refine sgB kj ?_
    refine wp_ret ?_
    repeat (first | with_reducible refine goR1 ?_ | with_reducible refine goR2 ?_)
    exact (show bodyPost _ _ _ .ret _ _ from ret1 (u) rfl (Qa7 kj) ⟨_, rfl, xx3, Qj7 t ▸ hu⟩)
end Go.Proofs.YtibegnjaphohaaaDoor.Sha
end
