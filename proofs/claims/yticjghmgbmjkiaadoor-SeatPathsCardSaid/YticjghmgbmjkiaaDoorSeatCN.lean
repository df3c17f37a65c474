/- The reference of package seat, on: below, leaves. -/
import Derived.Test.YticjghmgbmjkiaaDoorSeatBN
namespace Go.Proofs.YticjghmgbmjkiaaDoor.Seat
set_option linter.unusedVariables false
open Go Go.RowKit
open Go.Proofs.YticjghmgbmjkiaaDoor.Rely

def fl (x n : Int) : Nat → Int × Int
  | 0 => (-1, -1)
  | k + 1 => if abv x (2 * k) n then ((if (fl x n k).1 < 0 then (k : Int) else (fl x n k).1), (k : Int)) else fl x n k
set_option maxRecDepth 100000 in
theorem fl_all : allNodes (fun n x => fl x n n.toNat == bel x n) = true := by decide +kernel
theorem fl_bd (x n : Int) : ∀ k, (-1 ≤ (fl x n k).1 ∧ (fl x n k).1 ≤ k) ∧ (-1 ≤ (fl x n k).2 ∧ (fl x n k).2 ≤ k)
  | 0 => by simp [fl]
  | k + 1 => by
    have h := fl_bd x n k
    simp only [fl]
    split
    · simp only
      split <;> omega
    · omega

theorem rbelow (x n : Int) (w : World) : Calls Tryd.prog 34 #[.int .i64 x, .int .i64 n] w fun e w' => e = .returned (.tuple #[.int .i64 (bel x n).1, .int .i64 (bel x n).2]) ∧ w = w' := by
  have hn := rnode x n w
  cases hd : isNode x n with
  | false =>
    have e : bel x n = (-1, -1) := by simp [bel, hd]
    rw [e]
    rw [hd] at hn
    clear hd e
    by_cases h0 : 0 < n
    · go_enter Tryd.func34, Tryd.ntmps34
      go_wp2
      refine wp_loop_rounds 1 ?_
      rw [rounds_succ]
      go_wp2_with (go_at_call 53; refine hn.mono ?_; rintro e w' ⟨rfl, rfl⟩)
      go_ret2
      exact ⟨rfl, rfl⟩
    · have hd : decide (0 < n) = false := decide_eq_false h0
      go_enter Tryd.func34, Tryd.ntmps34
      go_wp2
      refine wp_loop_rounds 1 ?_
      rw [rounds_succ]
      go_wp2
      all_goals first | omega | (go_ret2; exact ⟨rfl, rfl⟩)
  | true =>
    rw [hd] at hn
    have hb := node_bd hd
    have e : fl x n n.toNat = bel x n := by simpa using allNodes_spec fl_all hd
    have K := Lib.hid e
    obtain ⟨N, hN⟩ := Int.eq_ofNat_of_zero_le (by omega : 0 ≤ n)
    subst hN
    have hb' : 1 ≤ N ∧ N ≤ 32 := by omega
    clear hd e hb
    go_enter Tryd.func34, Tryd.ntmps34
    go_wp2
    go_loop [6, 7, 8] (fun a b i => ∃ k : Nat, k ≤ N ∧ i = .int .i64 k ∧ a = .int .i64 (fl x N k).1 ∧ b = .int .i64 (fl x N k).2) (fun _ _ i => N - (intOf i).toNat)
    case atStart => exact ⟨0, by omega, rfl, rfl, rfl⟩
    case round =>
      obtain ⟨k, hk, rfl, rfl, rfl⟩ := hrel
      by_cases hlt : k < N
      · have ha := rabove x (2 * k) N w
        have hf := fl_bd x N k
        cases hab : abv x (2 * k) N with
        | true =>
          rw [hab] at ha
          by_cases h1 : (fl x N k).1 < 0
          · have hs : Hid (fl x N (k + 1) = ((k : Int), (k : Int))) := by rw [Hid]; simp [fl, hab, h1]
            generalize fl x N k = q at *
            clear hab
            go_wp2_with (first | (go_at_call 53; refine hn.mono ?_; rintro e w' ⟨rfl, rfl⟩) | (go_at_call 54; refine ha.mono ?_; rintro e w' ⟨rfl, rfl⟩))
            go_round
            case rel => exact ⟨k + 1, by omega, by go_num, by rw [hs.out], by rw [hs.out]⟩
            case measure => simp [intOf]; omega
          · have hs : Hid (fl x N (k + 1) = ((fl x N k).1, (k : Int))) := by rw [Hid]; simp [fl, hab, h1]
            generalize fl x N k = q at *
            clear hab
            go_wp2_with (first | (go_at_call 53; refine hn.mono ?_; rintro e w' ⟨rfl, rfl⟩) | (go_at_call 54; refine ha.mono ?_; rintro e w' ⟨rfl, rfl⟩))
            go_round
            case rel => exact ⟨k + 1, by omega, by go_num, by rw [hs.out], by rw [hs.out]⟩
            case measure => simp [intOf]; omega
        | false =>
          rw [hab] at ha
          have hs : Hid (fl x N (k + 1) = fl x N k) := by rw [Hid]; simp [fl, hab]
          clear hab
          go_wp2_with (first | (go_at_call 53; refine hn.mono ?_; rintro e w' ⟨rfl, rfl⟩) | (go_at_call 54; refine ha.mono ?_; rintro e w' ⟨rfl, rfl⟩))
          go_round
          case rel => exact ⟨k + 1, by omega, by go_num, by rw [hs.out], by rw [hs.out]⟩
          case measure => simp [intOf]; omega
      · have hkn : k = N := by omega
        subst hkn
        have hd : decide ((k : Int) < (k : Int)) = false := by simp
        have K2 : Hid (fl x k k = bel x k) := K.out
        clear K
        go_wp2
        all_goals first | omega | (go_ret2; exact ⟨by rw [← K2.out]; rfl, rfl⟩)

def leavesT (m : Int) : Int := if m = 1 then 1 else if m = 3 then 2 else if m = 7 then 4 else if m = 15 then 8 else if m = 31 then 16 else if m = 63 then 32 else 0
theorem leaves_eq (m : Int) (hm : i64 m) : leaves m = leavesT m := by
  unfold i64 at hm
  unfold leaves leavesT
  by_cases h0 : 0 ≤ m
  · rw [Int.tdiv_eq_ediv_of_nonneg h0, Int.tmod_eq_emod_of_nonneg h0]
    have hw : wrap64 (m / 2 + 1) = m / 2 + 1 := IntWalk.wrap64_in _ (by omega)
    rw [hw]
    by_cases h1 : m % 2 = 1
    · have e1 : (m % 2 != 1) = false := by simp [h1]
      rw [e1]
      simp only [Bool.false_eq_true, if_false]
      cases ht : isTree (m / 2 + 1) with
      | true =>
        have := isTree_cases ht
        simp only [if_true]
        repeat' split
        all_goals omega
      | false =>
        have h2 : ∀ q : Int, isTree q = true → m / 2 + 1 ≠ q := fun q hq he => by rw [he, hq] at ht; cases ht
        have a1 := h2 1 rfl
        have a2 := h2 2 rfl
        have a3 := h2 4 rfl
        have a4 := h2 8 rfl
        have a5 := h2 16 rfl
        have a6 := h2 32 rfl
        simp only [Bool.false_eq_true, if_false]
        repeat' split
        all_goals omega
    · have e1 : (m % 2 != 1) = true := by simp [h1]
      rw [e1]
      simp only [if_true]
      repeat' split
      all_goals omega
  · have e : m.tmod 2 ≠ 1 := by
      have h1 : m.tmod 2 = -((-m) % 2) := by
        rw [← Int.tmod_eq_emod_of_nonneg (by omega : 0 ≤ -m), Int.neg_tmod]; omega
      omega
    have e1 : (m.tmod 2 != 1) = true := by simp [e]
    rw [e1]
    simp only [if_true]
    repeat' split
    all_goals omega

theorem rleaves (m : Int) (w : World) : Calls Tryd.prog 38 #[.int .i64 m] w fun e w' => e = .returned (.int .i64 (leavesT m)) ∧ w = w' := by
  by_cases h : m = 1 ∨ m = 3 ∨ m = 7 ∨ m = 15 ∨ m = 31 ∨ m = 63
  · rcases h with rfl | rfl | rfl | rfl | rfl | rfl
    all_goals
      go_enter Tryd.func38, Tryd.ntmps38
      go_wp2
      refine wp_loop_rounds 7 ?_
      repeat (rw [rounds_succ]; go_wp2)
      go_ret
      exact ⟨rfl, rfl⟩
  · have e : leavesT m = 0 := by
      unfold leavesT
      repeat' split
      all_goals omega
    rw [e]
    have h1 : (m == 1) = false := by rw [beq_eq_false_iff_ne]; omega
    have h2 : (m == 3) = false := by rw [beq_eq_false_iff_ne]; omega
    have h3 : (m == 7) = false := by rw [beq_eq_false_iff_ne]; omega
    have h4 : (m == 15) = false := by rw [beq_eq_false_iff_ne]; omega
    have h5 : (m == 31) = false := by rw [beq_eq_false_iff_ne]; omega
    have h6 : (m == 63) = false := by rw [beq_eq_false_iff_ne]; omega
    clear h e
    go_enter Tryd.func38, Tryd.ntmps38
    go_wp2
    refine wp_loop_rounds 7 ?_
    repeat (rw [rounds_succ]; go_wp2)
    go_ret
    exact ⟨rfl, rfl⟩

theorem alive (w : World) (hT : TabAt w) : Calls Tryd.prog 26 #[] w fun e w' => e = .returned (.bool true) ∧ w = w' := by
  have h1 := children 3 (by unfold i64; omega) w hT
  have h2 := root 4 w
  have h3 := parent 4 4 (by unfold i64; omega) w hT
  rw [show kidL 3 = 1 from by decide +kernel, show kidR 3 = 5 from by decide +kernel] at h1
  rw [show (if isTree 4 then (4 : Int) - 1 else -1) = 3 from by decide +kernel] at h2
  rw [show par 4 4 = 5 from by decide +kernel] at h3
  go_enter Tryd.func26, Tryd.ntmps26
  go_wp2_with (first | (go_at_call 24; refine h1.mono ?_; rintro e w' ⟨rfl, rfl⟩) | (go_at_call 36; refine h2.mono ?_; rintro e w' ⟨rfl, rfl⟩) | (go_at_call 29; refine h3.mono ?_; rintro e w' ⟨rfl, rfl⟩))
  go_ret
  exact ⟨rfl, rfl⟩
end Go.Proofs.YticjghmgbmjkiaaDoor.Seat
