/- The writer: number, leaf, bytes. -/
import Derived.Test.YtfelfmchachljaaWrB
namespace Go.Proofs.Ytfelfmchachljaa.Wr
open Go Go.RowKit
open Go.Proofs.Ytfelfmchachljaa.Rely Go.Proofs.Ytfelfmchachljaa.Auto Go.Proofs.Ytfelfmchachljaa.Own Go.Proofs.Ytfelfmchachljaa.Sha
set_option linter.unusedVariables false
set_option linter.unusedSimpArgs false

theorem shrZ (n : Int) (k : Nat) (hk : k ≤ 4) : n.fdiv (2 ^ min (((8 * k : Nat) : Int)).toNat IntKind.i64.bits) = n.fdiv (2 ^ (8 * k)) := by
  rw [Int.toNat_natCast, Nat.min_eq_left (show 8 * k ≤ IntKind.i64.bits by show 8 * k ≤ 64; omega)]
set_option maxHeartbeats 4000000 in
theorem number_P (base gw : Nat) (s : Option (List Int)) (n : Int) (size : Nat) (w : World) (hbw : base ≤ w.heap.size) (h : WSt base gw s w) (hsz : size ≤ 4) (hn : 0 ≤ n) : Calls Try.prog 105 #[.pointer (some ⟨gw, 0, none⟩), .int .i64 n, .int .i64 ((size : Nat) : Int)] w (fun e W => e = .returned (.tuple #[]) ∧ GW base gw w W ∧ WSt base gw (numS s n size) W) := by
  have hgw := h.lt
  have hok : okN n size = (n.fdiv (2 ^ (8 * size)) == 0) := by unfold okN; simp [hn]
  refine enter 29 [(0, .pointer (some ⟨gw, 0, none⟩)), (1, .int .i64 n), (2, .int .i64 ((size : Nat) : Int))] Try.func105 rfl rfl kj rfl ?_
  refine wp_seq_k fun K1 hK1 => ?_
  refine region_lit ?_
  refine seq_val (.pointer (some ⟨gw, 0, none⟩)) 6 rfl kj kj ?_
  refine seq_val (.int .i64 n) 7 rfl kj kj ?_
  refine seq_val (.bool true) 8 rfl kj (run_eq (u := .bool (decide (n ≥ 0))) kj (congrArg Value.bool (decide_eq_true (by omega)))) ?_
  refine seq_val (.bool true) 9 rfl kj kj ?_
  refine seq_val (.int .i64 n) 10 rfl kj kj ?_
  refine seq_val (.int .i64 ((size : Nat) : Int)) 11 rfl kj kj ?_
  refine seq_val (.int .i64 ((8 * size : Nat) : Int)) 12 rfl kj (run_eq (u := .int .i64 (IntKind.i64.wrap (8 * ((size : Nat) : Int)))) kj (congrArg (Value.int .i64) (i64n _ _ (by omega) (by omega)))) ?_
  refine seq_val (.int .i64 (n.fdiv (2 ^ (8 * size)))) 13 rfl kj (run_bin .shr _ _ _ _ .i64 .i64 _ _ _ rfl kj kj (b_shr _ _ _ _ _ _ (by omega) (shrZ n size (by omega)))) ?_
  refine seq_val (.bool (n.fdiv (2 ^ (8 * size)) == 0)) 14 rfl kj (run_eq (u := .bool (((n.fdiv (2 ^ (8 * size))) == 0))) kj (congrArg Value.bool rfl)) ?_
  refine seq_val (.bool (n.fdiv (2 ^ (8 * size)) == 0)) 15 rfl kj kj ?_
  refine seq_callR (fun v W' => v = .tuple #[] ∧ GW base gw w W' ∧ WSt base gw (mustS s (n.fdiv (2 ^ (8 * size)) == 0)) W') 98 #[.pointer (some ⟨gw, 0, none⟩), .bool (n.fdiv (2 ^ (8 * size)) == 0)] 16 rfl kj kj ((mustW base gw s (n.fdiv (2 ^ (8 * size)) == 0) _ h).mono (by rintro e w' ⟨rfl, h1, h2⟩; exact ⟨_, rfl, rfl, h1, h2⟩)) fun v2 W1 h2 => ?_
  obtain ⟨rfl, q1, ws2⟩ := h2
  have x1 : GW base gw w W1 := GW.trans (GW.refl base gw w) q1
  refine seq_nil ?_
  refine hK1 _ _ ?_
  try clear hK1 K1
  refine wp_block ?_
  refine loop_auto (fun (s1 : Nat × Option (List Int)) => [(0, .pointer (some ⟨gw, 0, none⟩)), (1, .int .i64 n), (2, .int .i64 ((s1.1 : Nat) : Int))]) (fun (s1 : Nat × Option (List Int)) W => (s1.1 ≤ size) ∧ (WSt base gw s1.2 W) ∧ (numR n s1.1 s1.2 = numR n size (mustS s (n.fdiv (2 ^ (8 * size)) == 0))) ∧ (GW base gw w W)) (fun (s1 : Nat × Option (List Int)) => s1.1) (size, mustS s (n.fdiv (2 ^ (8 * size)) == 0)) ⟨rfl, rfl, rfl, trivial⟩ ⟨(Nat.le_refl _), ws2, rfl, x1⟩ fun s1 X1 V1 hI1 => ?_
  obtain ⟨j, sc⟩ := s1
  obtain ⟨hj, hws, hnum, xx1⟩ := hI1
  replace hj : j ≤ size := hj
  replace hws : WSt base gw sc V1 := hws
  replace hnum : numR n j sc = numR n size (mustS s (n.fdiv (2 ^ (8 * size)) == 0)) := hnum
  replace xx1 : GW base gw w V1 := xx1
  refine wp_seq_k fun K3 hK3 => ?_
  refine wp_seq_k fun K4 hK4 => ?_
  refine region_lit ?_
  refine seq_val (.int .i64 ((j : Nat) : Int)) 17 rfl kj kj ?_
  refine seq_val (.bool (decide (((j : Nat) : Int) > 0))) 18 rfl kj kj ?_
  refine seq_nil ?_
  refine hK4 _ _ ?_
  try clear hK4 K4
  refine cond_split (t := decide (((j : Nat) : Int) > 0)) kj (fun c5 => ?_) (fun c5 => ?_)
  · skip
    obtain ⟨jp, hjp⟩ : ∃ jp, j = jp + 1 := ⟨j - 1, by have := of_decide_eq_true c5; omega⟩
    refine wp_skip ?_
    refine hK3 _ _ ?_
    try clear hK3 K3
    refine wp_block ?_
    refine wp_seq_k fun K6 hK6 => ?_
    refine region_lit ?_
    refine seq_val (.int .i64 ((j : Nat) : Int)) 19 rfl kj kj ?_
    refine seq_val (.int .i64 (((jp : Nat) : Int))) 20 rfl kj (run_eq (u := .int .i64 (IntKind.i64.wrap (((j : Nat) : Int) - 1))) kj (congrArg (Value.int .i64) (by rw [show ((j : Nat) : Int) - 1 = ((jp : Nat) : Int) by omega]; exact IntWalk.i64_in _ (by omega)))) ?_
    refine seq_val (.int .i64 (((jp : Nat) : Int))) 2 rfl kj kj ?_
    refine seq_nil ?_
    refine hK6 _ _ ?_
    try clear hK6 K6
    refine region_lit ?_
    refine seq_val (.pointer (some ⟨gw, 0, none⟩)) 21 rfl kj kj ?_
    refine seq_val (.int .i64 n) 22 rfl kj kj ?_
    refine seq_val (.int .i64 (((jp : Nat) : Int))) 23 rfl kj kj ?_
    refine seq_val (.int .i64 ((8 * jp : Nat) : Int)) 24 rfl kj (run_eq (u := .int .i64 (IntKind.i64.wrap (8 * (((jp : Nat) : Int))))) kj (congrArg (Value.int .i64) (i64n _ _ (by omega) (by omega)))) ?_
    refine seq_val (.int .i64 (n.fdiv (2 ^ (8 * jp)))) 25 rfl kj (run_bin .shr _ _ _ _ .i64 .i64 _ _ _ rfl kj kj (b_shr _ _ _ _ _ _ (by omega) (shrZ n jp (by omega)))) ?_
    refine seq_val (.int .u8 (byV n jp)) 26 rfl kj (run_eq (u := .int .u8 (IntKind.u8.wrap (n.fdiv (2 ^ (8 * jp))))) kj (congrArg (Value.int .u8) rfl)) ?_
    refine seq_makeS (ints .u8 ([(byV n jp)])) 5 1 27 rfl kj kj fun g7 W3 l7 e3 r7_3 => ?_
    have x3 : GW base gw w W3 := GW.ext xx1 e3
    have ws8 := WSt.ext hws e3
    have b7 : w.heap.size ≤ g7 := Nat.le_trans xx1.size l7
    refine seq_callR (fun v W' => v = .tuple #[] ∧ GW base gw W3 W' ∧ WSt base gw (rawS sc [byV n jp]) W') 104 #[.pointer (some ⟨gw, 0, none⟩), .slice (some ⟨g7, 0, none⟩) 1 1] 28 rfl kj kj ((rawW base gw sc [byV n jp] _ _ (Nat.le_trans hbw x3.size) ws8 (by show 1 ≤ 1000000; decide) (byV_bytes n jp) (fun W e => rdK_ints (xs := [byV n jp]) (n := 1) rfl (ExtB.row e r7_3 (Ne.symm (Nat.ne_of_lt (Nat.lt_of_lt_of_le hgw b7)))) (row_lt (ExtB.row e r7_3 (Ne.symm (Nat.ne_of_lt (Nat.lt_of_lt_of_le hgw b7))))) (by decide))).mono (by rintro e w' ⟨rfl, h1, h2⟩; exact ⟨_, rfl, rfl, h1, h2⟩)) fun v9 W4 h9 => ?_
    obtain ⟨rfl, q4, ws9⟩ := h9
    have x4 : GW base gw w W4 := GW.trans x3 q4
    refine seq_nil ?_
    repeat (first | with_reducible refine goX1 ?_ | with_reducible refine goX2 ?_ | with_reducible refine goX3 ?_)
    exact goes_then (jp, rawS sc [byV n jp]) ⟨rfl, rfl, rfl, trivial⟩ ⟨(by omega), ws9, (by have h7 := hnum; rw [hjp] at h7; exact h7), x4⟩ (by omega)
  · skip
    have hj0 : j = 0 := by have := of_decide_eq_false c5; omega
    refine wp_exit ?_
    repeat (first | with_reducible refine goX1 ?_ | with_reducible refine goX2 ?_ | with_reducible refine goX3 ?_)
    exact (show bodyPost _ _ _ .normal _ _ from end0 rfl ⟨rfl, xx1, by have h9 : sc = numR n size (mustS s (n.fdiv (2 ^ (8 * size)) == 0)) := (by have h7 := hnum; rw [hj0] at h7; exact h7); rw [h9] at hws; have h8 : okN n size = (n.fdiv (2 ^ (8 * size)) == 0) := hok; unfold numS; rw [h8]; exact hws⟩)
set_option maxHeartbeats 4000000 in
theorem number_N (base gw : Nat) (s : Option (List Int)) (n : Int) (size : Nat) (w : World) (hbw : base ≤ w.heap.size) (h : WSt base gw s w) (hsz : size ≤ 4) (hn : n < 0) : Calls Try.prog 105 #[.pointer (some ⟨gw, 0, none⟩), .int .i64 n, .int .i64 ((size : Nat) : Int)] w (fun e W => e = .returned (.tuple #[]) ∧ GW base gw w W ∧ WSt base gw (numS s n size) W) := by
  have hgw := h.lt
  have hok : okN n size = false := by unfold okN; simp [show ¬ 0 ≤ n by omega]
  refine enter 29 [(0, .pointer (some ⟨gw, 0, none⟩)), (1, .int .i64 n), (2, .int .i64 ((size : Nat) : Int))] Try.func105 rfl rfl kj rfl ?_
  refine wp_seq_k fun K1 hK1 => ?_
  refine region_lit ?_
  refine seq_val (.pointer (some ⟨gw, 0, none⟩)) 6 rfl kj kj ?_
  refine seq_val (.int .i64 n) 7 rfl kj kj ?_
  refine seq_val (.bool false) 8 rfl kj (run_eq (u := .bool (decide (n ≥ 0))) kj (congrArg Value.bool (decide_eq_false (by omega)))) ?_
  refine seq_val (.bool false) 9 rfl kj kj ?_
  refine seq_skip 10 rfl kj ?_
  refine seq_skip 11 rfl kj ?_
  refine seq_skip 12 rfl kj ?_
  refine seq_skip 13 rfl kj ?_
  refine seq_skip 14 rfl kj ?_
  refine seq_val (.bool false) 15 rfl kj kj ?_
  refine seq_callR (fun v W' => v = .tuple #[] ∧ GW base gw w W' ∧ WSt base gw (mustS s false) W') 98 #[.pointer (some ⟨gw, 0, none⟩), .bool false] 16 rfl kj kj ((mustW base gw s false _ h).mono (by rintro e w' ⟨rfl, h1, h2⟩; exact ⟨_, rfl, rfl, h1, h2⟩)) fun v2 W1 h2 => ?_
  obtain ⟨rfl, q1, ws2⟩ := h2
  have x1 : GW base gw w W1 := GW.trans (GW.refl base gw w) q1
  refine seq_nil ?_
  refine hK1 _ _ ?_
  try clear hK1 K1
  refine wp_block ?_
  refine loop_auto (fun (s1 : Nat × Option (List Int)) => [(0, .pointer (some ⟨gw, 0, none⟩)), (1, .int .i64 n), (2, .int .i64 ((s1.1 : Nat) : Int))]) (fun (s1 : Nat × Option (List Int)) W => (s1.1 ≤ size) ∧ (WSt base gw s1.2 W) ∧ (numR n s1.1 s1.2 = numR n size (mustS s false)) ∧ (GW base gw w W)) (fun (s1 : Nat × Option (List Int)) => s1.1) (size, mustS s false) ⟨rfl, rfl, rfl, trivial⟩ ⟨(Nat.le_refl _), ws2, rfl, x1⟩ fun s1 X1 V1 hI1 => ?_
  obtain ⟨j, sc⟩ := s1
  obtain ⟨hj, hws, hnum, xx1⟩ := hI1
  replace hj : j ≤ size := hj
  replace hws : WSt base gw sc V1 := hws
  replace hnum : numR n j sc = numR n size (mustS s false) := hnum
  replace xx1 : GW base gw w V1 := xx1
  refine wp_seq_k fun K3 hK3 => ?_
  refine wp_seq_k fun K4 hK4 => ?_
  refine region_lit ?_
  refine seq_val (.int .i64 ((j : Nat) : Int)) 17 rfl kj kj ?_
  refine seq_val (.bool (decide (((j : Nat) : Int) > 0))) 18 rfl kj kj ?_
  refine seq_nil ?_
  refine hK4 _ _ ?_
  try clear hK4 K4
  refine cond_split (t := decide (((j : Nat) : Int) > 0)) kj (fun c5 => ?_) (fun c5 => ?_)
  · skip
    obtain ⟨jp, hjp⟩ : ∃ jp, j = jp + 1 := ⟨j - 1, by have := of_decide_eq_true c5; omega⟩
    refine wp_skip ?_
    refine hK3 _ _ ?_
    try clear hK3 K3
    refine wp_block ?_
    refine wp_seq_k fun K6 hK6 => ?_
    refine region_lit ?_
    refine seq_val (.int .i64 ((j : Nat) : Int)) 19 rfl kj kj ?_
    refine seq_val (.int .i64 (((jp : Nat) : Int))) 20 rfl kj (run_eq (u := .int .i64 (IntKind.i64.wrap (((j : Nat) : Int) - 1))) kj (congrArg (Value.int .i64) (by rw [show ((j : Nat) : Int) - 1 = ((jp : Nat) : Int) by omega]; exact IntWalk.i64_in _ (by omega)))) ?_
    refine seq_val (.int .i64 (((jp : Nat) : Int))) 2 rfl kj kj ?_
    refine seq_nil ?_
    refine hK6 _ _ ?_
    try clear hK6 K6
    refine region_lit ?_
    refine seq_val (.pointer (some ⟨gw, 0, none⟩)) 21 rfl kj kj ?_
    refine seq_val (.int .i64 n) 22 rfl kj kj ?_
    refine seq_val (.int .i64 (((jp : Nat) : Int))) 23 rfl kj kj ?_
    refine seq_val (.int .i64 ((8 * jp : Nat) : Int)) 24 rfl kj (run_eq (u := .int .i64 (IntKind.i64.wrap (8 * (((jp : Nat) : Int))))) kj (congrArg (Value.int .i64) (i64n _ _ (by omega) (by omega)))) ?_
    refine seq_val (.int .i64 (n.fdiv (2 ^ (8 * jp)))) 25 rfl kj (run_bin .shr _ _ _ _ .i64 .i64 _ _ _ rfl kj kj (b_shr _ _ _ _ _ _ (by omega) (shrZ n jp (by omega)))) ?_
    refine seq_val (.int .u8 (byV n jp)) 26 rfl kj (run_eq (u := .int .u8 (IntKind.u8.wrap (n.fdiv (2 ^ (8 * jp))))) kj (congrArg (Value.int .u8) rfl)) ?_
    refine seq_makeS (ints .u8 ([(byV n jp)])) 5 1 27 rfl kj kj fun g7 W3 l7 e3 r7_3 => ?_
    have x3 : GW base gw w W3 := GW.ext xx1 e3
    have ws8 := WSt.ext hws e3
    have b7 : w.heap.size ≤ g7 := Nat.le_trans xx1.size l7
    refine seq_callR (fun v W' => v = .tuple #[] ∧ GW base gw W3 W' ∧ WSt base gw (rawS sc [byV n jp]) W') 104 #[.pointer (some ⟨gw, 0, none⟩), .slice (some ⟨g7, 0, none⟩) 1 1] 28 rfl kj kj ((rawW base gw sc [byV n jp] _ _ (Nat.le_trans hbw x3.size) ws8 (by show 1 ≤ 1000000; decide) (byV_bytes n jp) (fun W e => rdK_ints (xs := [byV n jp]) (n := 1) rfl (ExtB.row e r7_3 (Ne.symm (Nat.ne_of_lt (Nat.lt_of_lt_of_le hgw b7)))) (row_lt (ExtB.row e r7_3 (Ne.symm (Nat.ne_of_lt (Nat.lt_of_lt_of_le hgw b7))))) (by decide))).mono (by rintro e w' ⟨rfl, h1, h2⟩; exact ⟨_, rfl, rfl, h1, h2⟩)) fun v9 W4 h9 => ?_
    obtain ⟨rfl, q4, ws9⟩ := h9
    have x4 : GW base gw w W4 := GW.trans x3 q4
    refine seq_nil ?_
    repeat (first | with_reducible refine goX1 ?_ | with_reducible refine goX2 ?_ | with_reducible refine goX3 ?_)
    exact goes_then (jp, rawS sc [byV n jp]) ⟨rfl, rfl, rfl, trivial⟩ ⟨(by omega), ws9, (by have h7 := hnum; rw [hjp] at h7; exact h7), x4⟩ (by omega)
  · skip
    have hj0 : j = 0 := by have := of_decide_eq_false c5; omega
    refine wp_exit ?_
    repeat (first | with_reducible refine goX1 ?_ | with_reducible refine goX2 ?_ | with_reducible refine goX3 ?_)
    exact (show bodyPost _ _ _ .normal _ _ from end0 rfl ⟨rfl, xx1, by have h9 : sc = numR n size (mustS s false) := (by have h7 := hnum; rw [hj0] at h7; exact h7); rw [h9] at hws; have h8 : okN n size = false := hok; unfold numS; rw [h8]; exact hws⟩)
theorem numberW (base gw : Nat) (s : Option (List Int)) (n : Int) (size : Nat) (w : World) (hbw : base ≤ w.heap.size) (h : WSt base gw s w) (hsz : size ≤ 4) : Calls Try.prog 105 #[.pointer (some ⟨gw, 0, none⟩), .int .i64 n, .int .i64 ((size : Nat) : Int)] w (fun e W => e = .returned (.tuple #[]) ∧ GW base gw w W ∧ WSt base gw (numS s n size) W) := by
  by_cases hn : 0 ≤ n
  · exact number_P base gw s n size w hbw h hsz hn
  · exact number_N base gw s n size w hbw h hsz (by omega)
set_option maxHeartbeats 4000000 in
theorem leafW (base gw : Nat) (s : Option (List Int)) (n : Int) (w : World) (hbw : base ≤ w.heap.size) (h : WSt base gw s w) : Calls Try.prog 106 #[.pointer (some ⟨gw, 0, none⟩), .int .i64 n] w (fun e W => e = .returned (.tuple #[]) ∧ GW base gw w W ∧ WSt base gw (leafS s n) W) := by
  have hgw := h.lt
  refine enter 11 [(0, .pointer (some ⟨gw, 0, none⟩)), (1, .int .i64 n)] Try.func106 rfl rfl kj rfl ?_
  refine wp_seq_k fun K1 hK1 => ?_
  refine region_lit ?_
  refine seq_val (.pointer (some ⟨gw, 0, none⟩)) 4 rfl kj kj ?_
  refine seq_val (.int .i64 n) 5 rfl kj kj ?_
  refine seq_val (.bool (decide (n < 32))) 6 rfl kj kj ?_
  refine seq_callR (fun v W' => v = .tuple #[] ∧ GW base gw w W' ∧ WSt base gw (mustS s (decide (n < 32))) W') 98 #[.pointer (some ⟨gw, 0, none⟩), .bool (decide (n < 32))] 7 rfl kj kj ((mustW base gw s (decide (n < 32)) _ h).mono (by rintro e w' ⟨rfl, h1, h2⟩; exact ⟨_, rfl, rfl, h1, h2⟩)) fun v2 W1 h2 => ?_
  obtain ⟨rfl, q1, ws2⟩ := h2
  have x1 : GW base gw w W1 := GW.trans (GW.refl base gw w) q1
  refine seq_nil ?_
  refine hK1 _ _ ?_
  try clear hK1 K1
  refine region_lit ?_
  refine seq_val (.pointer (some ⟨gw, 0, none⟩)) 8 rfl kj kj ?_
  refine seq_val (.int .i64 n) 9 rfl kj kj ?_
  refine seq_callR (fun v W' => v = .tuple #[] ∧ GW base gw W1 W' ∧ WSt base gw (numS (mustS s (decide (n < 32))) n 1) W') 105 #[.pointer (some ⟨gw, 0, none⟩), .int .i64 n, .int .i64 1] 10 rfl kj kj ((numberW base gw _ n 1 _ (Nat.le_trans hbw x1.size) ws2 (by decide)).mono (by rintro e w' ⟨rfl, h1, h2⟩; exact ⟨_, rfl, rfl, h1, h2⟩)) fun v3 W2 h3 => ?_
  obtain ⟨rfl, q2, ws3⟩ := h3
  have x2 : GW base gw w W2 := GW.trans x1 q2
  refine seq_nil ?_
  repeat (first | with_reducible refine goX1 ?_ | with_reducible refine goX2 ?_ | with_reducible refine goX3 ?_)
  exact (show bodyPost _ _ _ .normal _ _ from end0 rfl ⟨rfl, x2, ws3⟩)
set_option maxHeartbeats 4000000 in
theorem bytesW (base gw : Nat) (s : Option (List Int)) (ys : List Int) (v : Value) (w : World) (hbw : base ≤ w.heap.size) (hbg : base ≤ gw) (h : WSt base gw s w) (hyl : ys.length ≤ 1000000) (hyb : AreBytes ys) (hy : RdK .u8 base ys v w) : Calls Try.prog 117 #[.pointer (some ⟨gw, 0, none⟩), v] w (fun e W => e = .returned (.tuple #[]) ∧ GW base gw w W ∧ WSt base gw (bytS s ys) W) := by
  have hgw := h.lt
  obtain ⟨a_y, c_y, rfl, -⟩ := id hy
  refine enter 11 [(0, .pointer (some ⟨gw, 0, none⟩)), (1, .slice a_y ys.length c_y)] Try.func117 rfl rfl kj rfl ?_
  refine wp_seq_k fun K1 hK1 => ?_
  refine region_lit ?_
  refine seq_val (.pointer (some ⟨gw, 0, none⟩)) 4 rfl kj kj ?_
  refine seq_val (.slice a_y ys.length c_y) 5 rfl kj kj ?_
  refine seq_val (.int .i64 ((ys.length : Nat) : Int)) 6 rfl kj kj ?_
  refine seq_callR (fun v W' => v = .tuple #[] ∧ GW base gw w W' ∧ WSt base gw (numS (s) ((ys.length : Nat) : Int) 2) W') 105 #[.pointer (some ⟨gw, 0, none⟩), .int .i64 ((ys.length : Nat) : Int), .int .i64 2] 7 rfl kj kj ((numberW base gw _ ((ys.length : Nat) : Int) 2 _ (Nat.le_trans hbw (GW.refl base gw w).size) h (by decide)).mono (by rintro e w' ⟨rfl, h1, h2⟩; exact ⟨_, rfl, rfl, h1, h2⟩)) fun v2 W1 h2 => ?_
  obtain ⟨rfl, q1, ws2⟩ := h2
  have x1 : GW base gw w W1 := GW.trans (GW.refl base gw w) q1
  refine seq_nil ?_
  refine hK1 _ _ ?_
  try clear hK1 K1
  refine region_lit ?_
  refine seq_val (.pointer (some ⟨gw, 0, none⟩)) 8 rfl kj kj ?_
  refine seq_val (.slice a_y ys.length c_y) 9 rfl kj kj ?_
  refine seq_callR (fun v W' => v = .tuple #[] ∧ GW base gw W1 W' ∧ WSt base gw (rawS (numS (s) ((ys.length : Nat) : Int) 2) ys) W') 104 #[.pointer (some ⟨gw, 0, none⟩), .slice a_y ys.length c_y] 10 rfl kj kj ((rawW base gw _ ys _ _ (Nat.le_trans hbw x1.size) ws2 (by omega) hyb (fun W e => RdK.here (RdK.extB (rd_gw hy x1 hbg) e hbg))).mono (by rintro e w' ⟨rfl, h1, h2⟩; exact ⟨_, rfl, rfl, h1, h2⟩)) fun v3 W2 h3 => ?_
  obtain ⟨rfl, q2, ws3⟩ := h3
  have x2 : GW base gw w W2 := GW.trans x1 q2
  refine seq_nil ?_
  repeat (first | with_reducible refine goX1 ?_ | with_reducible refine goX2 ?_ | with_reducible refine goX3 ?_)
  exact (show bodyPost _ _ _ .normal _ _ from end0 rfl ⟨rfl, x2, ws3⟩)

end Go.Proofs.Ytfelfmchachljaa.Wr
