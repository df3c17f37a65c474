/- The walk of the law SeatTree. -/
import Derived.Test.YticjghmgbmjkiaaDoorSeatC
namespace Go.Proofs.YticjghmgbmjkiaaDoor.Seat
open Go Go.RowKit
open Go.Proofs.YticjghmgbmjkiaaDoor.Rely

/-- what the law asks of one node -/
def nodeOk (n x : Int) : Bool :=
  if kidL x < 0 then x % 2 == 0 && (bel x n).1 == x / 2 && (bel x n).2 == x / 2
  else par (kidL x) n == x && par (kidR x) n == x && sib (kidL x) n == kidR x && sib (kidR x) n == kidL x && (bel (kidL x) n).2 + 1 == (bel (kidR x) n).1 && (bel x n).1 == (bel (kidL x) n).1 && (bel (kidR x) n).2 == (bel x n).2 && lv (kidL x) + 1 == lv x
    && decide (0 ≤ kidL x) && decide (kidL x ≤ 62) && decide (0 ≤ kidR x) && decide (kidR x ≤ 62) && decide (0 ≤ (bel (kidL x) n).2) && decide ((bel (kidL x) n).2 ≤ 62) && decide (0 ≤ lv (kidL x)) && decide (lv (kidL x) ≤ 62)
/-- how many nodes ahead of x have children, twice -/
def kidsTo : Nat → Int
  | 0 => 0
  | x + 1 => if kidL x < 0 then kidsTo x else kidsTo x + 2
theorem kidsTo_bd : ∀ x, 0 ≤ kidsTo x ∧ kidsTo x ≤ 2 * x
  | 0 => by simp [kidsTo]
  | x + 1 => by
    have := kidsTo_bd x
    simp only [kidsTo]
    split <;> omega
set_option maxRecDepth 100000 in
theorem nodeOk_all : allNodes nodeOk = true := by decide +kernel
set_option maxRecDepth 100000 in
theorem kidsTo_all : (sizes.all fun n => kidsTo (2 * n.toNat - 1) == 2 * n - 2) = true := by decide +kernel
set_option maxRecDepth 100000 in
theorem root_all : (sizes.all fun n => bel (n - 1) n == (0, n - 1)) = true := by decide +kernel

theorem pow_sizes : ∀ k : Fin 6, (2 : Int) ^ k.val ∈ sizes := by decide

/-- the number of leaves that an integer picks -/
theorem pick_size (k : Int) : ∃ N : Nat, wrap64 (2 ^ min (IntKind.u64.wrap (wrap64 ((IntKind.u64.wrap k).tmod 6))).toNat 64) = (N : Int) ∧ isTree (N : Int) = true := by
  have h0 : 0 ≤ IntKind.u64.wrap k := by rw [IntKind.wrap_u64]; omega
  rw [Int.tmod_eq_emod_of_nonneg h0]
  generalize hr : IntKind.u64.wrap k % 6 = r
  have hb : 0 ≤ r ∧ r ≤ 5 := by omega
  rw [IntWalk.wrap64_in r (by omega), IntWalk.u64_in r (by omega)]
  obtain ⟨q, rfl⟩ := Int.eq_ofNat_of_zero_le hb.1
  have hq : q ≤ 5 := by omega
  rw [Int.toNat_natCast, Nat.min_eq_left (by omega)]
  have hc : ∀ q : Fin 6, wrap64 (2 ^ q.val) = ((2 ^ q.val : Nat) : Int) ∧ isTree ((2 ^ q.val : Nat) : Int) = true := by decide +kernel
  exact ⟨2 ^ q, (hc ⟨q, by omega⟩).1, (hc ⟨q, by omega⟩).2⟩

theorem tree_end (N : Nat) (ht : isTree (N : Int) = true) : kidsTo (2 * N - 1) = 2 * (N : Int) - 2 ∧ bel ((N : Int) - 1) N = (0, (N : Int) - 1) ∧ leaves (2 * (N : Int) - 1) = N := by
  have hm := mem_sizes ht
  refine ⟨by simpa using List.all_eq_true.1 kidsTo_all _ hm, by simpa using List.all_eq_true.1 root_all _ hm, ?_⟩
  have hc := isTree_cases ht
  rw [leaves_eq _ (by unfold i64; omega)]
  unfold leavesT
  repeat' split
  all_goals omega

set_option maxRecDepth 100000 in
set_option maxHeartbeats 2000000 in
theorem treeLaw (k : Int) (w : World) (hT : TabAt w) : Calls Tryd.prog 10 #[.int .i64 k] w fun e w' => e = .returned (.bool true) ∧ w = w' := by
  have c3 := alive w hT
  obtain ⟨N, hN, ht⟩ := pick_size k
  have hc := isTree_cases ht
  have hb : 1 ≤ N ∧ N ≤ 32 := by omega
  have he := tree_end N ht
  have d1 := leavesC (2 * (N : Int) - 1) (by unfold i64; omega) w
  rw [he.2.2] at d1
  have d2 := root N w
  rw [ht] at d2
  simp only [if_true] at d2
  have d3 := below ((N : Int) - 1) N (by unfold i64; omega) w hT
  rw [he.2.1] at d3
  simp only at d3
  have HE : Hid (kidsTo (2 * N - 1) = 2 * (N : Int) - 2) := he.1
  have HT := Lib.hid hT
  have HTr := Lib.hid ht
  clear hc he hT ht
  go_enter Tryd.func10, Tryd.ntmps10
  go_wp2_with (first
    | (go_at_call 26; (with_reducible refine c3.mono ?_); rintro e w' ⟨rfl, rfl⟩)
    | (go_at_call 37; (with_reducible refine d1.mono ?_); rintro e w' ⟨rfl, rfl⟩))
  clear hN
  go_loop [37, 4] (fun i c => ∃ x : Nat, x ≤ 2 * N - 1 ∧ i = .int .i64 x ∧ c = .int .i64 (kidsTo x)) (fun i _ => 2 * N - (intOf i).toNat)
  case atStart => exact ⟨0, by omega, rfl, rfl⟩
  case round =>
    obtain ⟨x, hx, rfl, rfl⟩ := hrel
    by_cases hlt : x < 2 * N - 1
    · have hd : isNode (x : Int) N = true := by simp [isNode, HTr.out]; omega
      have hok := allNodes_spec nodeOk_all hd
      have c1 := children x (by unfold i64; omega) w HT.out
      have hkb := kidsTo_bd x
      by_cases hl : kidL x < 0
      · have hs : Hid (kidsTo (x + 1) = kidsTo x) := by rw [Hid]; simp [kidsTo, hl]
        simp only [nodeOk, hl, if_true, Bool.and_eq_true, beq_iff_eq] at hok
        obtain ⟨⟨h1, h2⟩, h3⟩ := hok
        have c2 := below x N (by unfold i64; omega) w HT.out
        rw [h2, h3] at c2
        have h1' : ((x : Int) % 2 != 0) = false := by rw [bne_eq_false_iff_eq]; exact h1
        generalize kidL x = l at *
        generalize kidR x = r at *
        generalize kidsTo x = kt at *
        clear h2 h3 hd h1
        go_wp2_with (first
          | (go_at_call 24; (with_reducible refine c1.mono ?_); rintro e w' ⟨rfl, rfl⟩)
          | (go_at_call 33; (with_reducible refine c2.mono ?_); rintro e w' ⟨rfl, rfl⟩))
        go_round
        case rel => exact ⟨x + 1, by omega, by go_num, by rw [hs.out]⟩
        case measure => simp [intOf]; omega
      · have hs : Hid (kidsTo (x + 1) = kidsTo x + 2) := by rw [Hid]; simp [kidsTo, hl]
        simp only [nodeOk, hl, if_false, Bool.and_eq_true, beq_iff_eq, decide_eq_true_eq] at hok
        obtain ⟨⟨⟨⟨⟨⟨⟨⟨⟨⟨⟨⟨⟨⟨⟨e1, e2⟩, e3⟩, e4⟩, e5⟩, e6⟩, e7⟩, e8⟩, b1⟩, b2⟩, b3⟩, b4⟩, b5⟩, b6⟩, b7⟩, b8⟩ := hok
        have hil : i64 (kidL x) := by unfold i64; omega
        have hir : i64 (kidR x) := by unfold i64; omega
        have hix : i64 (x : Int) := by unfold i64; omega
        have c2 := below (kidL x) N hil w HT.out
        have c4 := below (kidR x) N hir w HT.out
        have c5 := below x N hix w HT.out
        have c6 := parent (kidL x) N hil w HT.out
        have c7 := parent (kidR x) N hir w HT.out
        have c8 : Calls Tryd.prog 31 #[.int .i64 (kidL x), .int .i64 N] w fun e w' => e = .returned (.int .i64 (sib (kidL x) N)) ∧ w = w' := sibling (kidL x) N hil w HT.out (by rw [e1]; exact hix)
        have c9 : Calls Tryd.prog 31 #[.int .i64 (kidR x), .int .i64 N] w fun e w' => e = .returned (.int .i64 (sib (kidR x) N)) ∧ w = w' := sibling (kidR x) N hir w HT.out (by rw [e2]; exact hix)
        have c10 := level (kidL x) hil w HT.out
        have c11 := level x hix w HT.out
        rw [e1] at c6
        rw [e2] at c7
        rw [e3] at c8
        rw [e4] at c9
        rw [← e5] at c4
        rw [e6, ← e7] at c5
        rw [← e8] at c11
        generalize (bel (kidL x) N).1 = p1 at *
        generalize (bel (kidL x) N).2 = p2 at *
        generalize (bel (kidR x) N).2 = p3 at *
        generalize lv (kidL x) = kl at *
        generalize kidL x = l at *
        generalize kidR x = r at *
        generalize kidsTo x = kt at *
        clear e1 e2 e3 e4 e5 e6 e7 e8 hd hil hir hix
        go_wp2_with (first
          | (go_at_call 24; (with_reducible refine c1.mono ?_); rintro e w' ⟨rfl, rfl⟩)
          | (go_at_call 33; (with_reducible refine c2.mono ?_); rintro e w' ⟨rfl, rfl⟩)
          | (go_at_call 33; (with_reducible refine c4.mono ?_); rintro e w' ⟨rfl, rfl⟩)
          | (go_at_call 33; (with_reducible refine c5.mono ?_); rintro e w' ⟨rfl, rfl⟩)
          | (go_at_call 29; (with_reducible refine c6.mono ?_); rintro e w' ⟨rfl, rfl⟩)
          | (go_at_call 29; (with_reducible refine c7.mono ?_); rintro e w' ⟨rfl, rfl⟩)
          | (go_at_call 31; (with_reducible refine c8.mono ?_); rintro e w' ⟨rfl, rfl⟩)
          | (go_at_call 31; (with_reducible refine c9.mono ?_); rintro e w' ⟨rfl, rfl⟩)
          | (go_at_call 27; (with_reducible refine c10.mono ?_); rintro e w' ⟨rfl, rfl⟩)
          | (go_at_call 27; (with_reducible refine c11.mono ?_); rintro e w' ⟨rfl, rfl⟩))
        go_round
        case rel => exact ⟨x + 1, by omega, by go_num, by rw [hs.out]⟩
        case measure => simp [intOf]; omega
    · obtain rfl : x = 2 * N - 1 := by omega
      have hkt := HE.out
      have hcast : (((2 * N - 1 : Nat) : Nat) : Int) = 2 * (N : Int) - 1 := by omega
      rw [hkt, hcast]
      clear hkt hcast hx hlt
      go_wp2_with (first
        | (go_at_call 36; (with_reducible refine d2.mono ?_); rintro e w' ⟨rfl, rfl⟩)
        | (go_at_call 33; (with_reducible refine d3.mono ?_); rintro e w' ⟨rfl, rfl⟩))
      go_ret
      exact ⟨rfl, rfl⟩
end Go.Proofs.YticjghmgbmjkiaaDoor.Seat
