/- Paths: the nodes above, one after another. -/
import Derived.Test.YticjghmgbmjkiaaDoorSeatCN
import Derived.Test.YticjghmgbmjkiaaDoorIter
namespace Go.Proofs.YticjghmgbmjkiaaDoor.Seat
open Go Go.RowKit
open Go.Proofs.YticjghmgbmjkiaaDoor.Rely Go.Proofs.YticjghmgbmjkiaaDoor.Auto Go.Proofs.YticjghmgbmjkiaaDoor.Own
set_option linter.unusedVariables false
set_option linter.unusedSimpArgs false

theorem quiet {P : Program} {f : FuncId} {args : Array Value} {w : World} {v : Value} (h : Calls P f args w fun e w' => e = .returned v ∧ w = w') : Calls P f args w (Ret w v) := h.mono fun e w' ⟨h1, h2⟩ => ⟨h1, h2 ▸ Rely.Ext.refl w⟩
/-- the nodes above -/
def upn (x n : Int) : Nat → Int
  | 0 => par x n
  | k + 1 => par (upn x n k) n
theorem par_i64 (x n : Int) : i64 (par x n) := by have := par_bd x n; unfold i64; omega
theorem upn_i64 (x n : Int) : ∀ k, i64 (upn x n k)
  | 0 => par_i64 x n
  | k + 1 => par_i64 _ n
theorem upn_lv (x n : Int) : ∀ k, 0 ≤ upn x n k → isNode (upn x n k) n = true ∧ (k : Int) + 1 ≤ lv (upn x n k)
  | 0, h => by
    have h : 0 ≤ par x n := h
    cases hd : isNode x n with
    | false => rw [par_out hd] at h; omega
    | true =>
      rcases par_node hd with h2 | h2
      · omega
      · have h3 : 0 ≤ lv x := (lv_node hd).1
        exact ⟨h2.1, by show ((0 : Nat) : Int) + 1 ≤ lv (par x n); omega⟩
  | k + 1, h => by
    have h : 0 ≤ par (upn x n k) n := h
    have h0 : 0 ≤ upn x n k := by
      rcases Int.lt_or_le (upn x n k) 0 with h1 | h1
      · have : isNode (upn x n k) n = false := by
          cases hd : isNode (upn x n k) n with
          | false => rfl
          | true => have := node_bd hd; omega
        rw [par_out this] at h; omega
      · exact h1
    have h1 := upn_lv x n k h0
    rcases par_node h1.1 with h2 | h2
    · omega
    · refine ⟨h2.1, ?_⟩
      show ((k + 1 : Nat) : Int) + 1 ≤ lv (par (upn x n k) n)
      omega
theorem upn_lt {x n : Int} {k : Nat} (h : 0 ≤ upn x n k) : k < 6 := by
  have h1 := upn_lv x n k h
  have h2 := lv_node h1.1
  omega
theorem TabAt.keepC {gs : List Nat} {A B : World} (h : TabAt A) (k : KeepC gs A B) (n : 2 ∉ gs) : TabAt B := ⟨Nat.lt_of_lt_of_le h.1 k.1, fun j hj => k.cell (h.2 j hj) n⟩
def SP (x n : Int) (ys : List Nat) : Prop := ∃ k, ys = List.range k ∧ upn x n k < 0 ∧ ∀ i, i < k → 0 ≤ upn x n i
def SPp (x n : Int) (ys : List Nat) : Prop := ∃ k, ys = List.range k ∧ ∀ i, i < k → 0 ≤ upn x n i
set_option maxHeartbeats 4000000 in
theorem path_stops (m : Nat) (gs : List Nat) (g1 g2 : Nat) (x n : Int) (hx : i64 x) (w : World) (hTw : TabAt w) (r1w : w.heap[g1]? = some (.cells #[.int .i64 x] 3)) (r2w : w.heap[g2]? = some (.cells #[.int .i64 n] 3)) (n1 : g1 ∉ gs) (n2 : g2 ∉ gs) (nT : 2 ∉ gs) :
    SeqStopsK Fence.wide m Tryd.prog 56 #[.pointer (some ⟨g1, 0, none⟩), .pointer (some ⟨g2, 0, none⟩)] (fun i : Nat => #[Value.int .i64 (upn x n i)]) (KeepC gs) (SP x n) (SPp x n) 7 w := fun l J Jx Wi hW hJ hJx hY h0 => by
  refine callsIn_wide.2 ?_
  have hT : TabAt Wi := hTw.ext hW
  have r1 := row_ext r1w hW
  have r2 := row_ext r2w hW
  refine enter 17 [(0, .func (.yield l) #[] #[]), (1, .pointer (some ⟨g1, 0, none⟩)), (2, .pointer (some ⟨g2, 0, none⟩))] Tryd.func56 rfl rfl (by kernel_rfl) rfl ?_
  refine wp_seq_k fun K3 hK3 => ?_
  refine region_lit ?_
  refine seq_val (.int .i64 x) 5 rfl (by kernel_rfl) (run_loadC1 3 _ g1 0 3 _ (.int .i64 x) _ r1 rfl (by kernel_rfl) (by kernel_rfl) (by kernel_rfl)) ?_
  refine seq_val (.int .i64 n) 6 rfl (by kernel_rfl) (run_loadC1 3 _ g2 0 3 _ (.int .i64 n) _ r2 rfl (by kernel_rfl) (by kernel_rfl) (by kernel_rfl)) ?_
  refine seq_call (.int .i64 (upn x n 0)) 29 #[.int .i64 x, .int .i64 n] 7 rfl (by kernel_rfl) (by kernel_rfl) ((fun W hT => quiet (parent x n hx W hT)) _ hT) fun W1 e1 => ?_
  have x1 : Grew Wi W1 := Grew.ext (Grew.refl Wi) e1
  refine seq_val (.int .i64 (upn x n 0)) 4 rfl (by kernel_rfl) (by kernel_rfl) ?_
  refine seq_nil ?_
  refine hK3 _ _ ?_
  try clear hK3 K3
  refine wp_block ?_
  have f4_1 := (abides_ext hJ h0 e1)
  have r1_1 := (row_ext r1 e1)
  have r2_1 := (row_ext r2 e1)
  have f5_1 := (TabAt.ext hT e1)
  refine loop_auto (fun (s1 : Nat) => [(0, .func (.yield l) #[] #[]), (1, .pointer (some ⟨g1, 0, none⟩)), (2, .pointer (some ⟨g2, 0, none⟩)), (4, .int .i64 (upn x n s1))]) (fun (s1 : Nat) W => (s1 ≤ 6) ∧ (∀ i, i < s1 → 0 ≤ upn x n i) ∧ (J (List.range s1) W) ∧ (W.heap[g1]? = some (.cells #[.int .i64 x] 3)) ∧ (W.heap[g2]? = some (.cells #[.int .i64 n] 3)) ∧ (TabAt W) ∧ (Grew Wi W)) (fun (s1 : Nat) => 6 - s1) 0 ⟨rfl, rfl, rfl, rfl, trivial⟩ ⟨(by omega), (fun i hi => by omega), (show J (List.range 0) _ from f4_1), r1_1, r2_1, f5_1, x1⟩ fun s1 X1 V1 hI1 => ?_
  obtain ⟨k, hs1⟩ : ∃ z, z = s1 := ⟨_, rfl⟩
  subst hs1
  obtain ⟨hk, hall, hJ1, rr1, rr2, hT1, xx1⟩ := hI1
  replace hk : k ≤ 6 := hk
  replace hall : ∀ i, i < k → 0 ≤ upn x n i := hall
  replace hJ1 : J (List.range k) V1 := hJ1
  replace rr1 : V1.heap[g1]? = some (.cells #[.int .i64 x] 3) := rr1
  replace rr2 : V1.heap[g2]? = some (.cells #[.int .i64 n] 3) := rr2
  replace hT1 : TabAt V1 := hT1
  replace xx1 : Grew Wi V1 := xx1
  refine wp_seq_k fun K6 hK6 => ?_
  refine wp_seq_k fun K7 hK7 => ?_
  refine region_lit ?_
  refine seq_val (.int .i64 (upn x n k)) 8 rfl (by kernel_rfl) (by kernel_rfl) ?_
  refine seq_val (.bool (decide ((upn x n k) ≥ 0))) 9 rfl (by kernel_rfl) (by kernel_rfl) ?_
  refine seq_nil ?_
  refine hK7 _ _ ?_
  try clear hK7 K7
  refine cond_split (t := decide ((upn x n k) ≥ 0)) (by kernel_rfl) (fun c8 => ?_) (fun c8 => ?_)
  · skip
    have hk0 : 0 ≤ upn x n k := of_decide_eq_true c8
    have hk6 := upn_lt hk0
    refine wp_skip ?_
    refine hK6 _ _ ?_
    try clear hK6 K6
    refine wp_seq_k fun K9 hK9 => ?_
    refine wp_block ?_
    refine wp_seq_k fun K10 hK10 => ?_
    refine (wpIn_wide (n := m)).1 ?_
    refine region_litIn ?_
    refine in_val (.func (.yield l) #[] #[]) 13 rfl (free_wide0 _ _) rfl (by kernel_rfl) (by kernel_rfl) ?_
    refine in_val (.int .i64 (upn x n k)) 14 rfl (free_wide0 _ _) rfl (by kernel_rfl) (by kernel_rfl) ?_
    refine in_yield (m := m) (l := l) (args := #[.int .i64 (upn x n k)]) 15 rfl rfl (by kernel_rfl) (by kernel_rfl) (hY (List.range k) k V1 hJ1 (by rw [List.length_range]; omega)) (fun W' hA => ?_) (fun W' hA => ?_)
    · skip
      obtain ⟨W3, hW3⟩ : ∃ z, z = W' := ⟨_, rfl⟩
      rw [← hW3] at hA ⊢
      obtain ⟨hj11, hk11⟩ := hA
      have x3 : Grew Wi W3 := Grew.keepC xx1 hk11
      refine in_val (.bool false) 16 rfl (free_wide0 _ _) rfl (by kernel_rfl) (by kernel_rfl) ?_
      refine in_nil ?_
      refine hK10 _ _ ?_
      try clear hK10 K10
      refine cond_false (by kernel_rfl) ?_
      refine wp_skip ?_
      refine hK9 _ _ ?_
      try clear hK9 K9
      refine region_lit ?_
      refine seq_val (.int .i64 (upn x n k)) 10 rfl (by kernel_rfl) (by kernel_rfl) ?_
      have r2_3 := (KeepC.row hk11 rr2 n2)
      refine seq_val (.int .i64 n) 11 rfl (by kernel_rfl) (run_loadC1 3 _ g2 0 3 _ (.int .i64 n) _ r2_3 rfl (by kernel_rfl) (by kernel_rfl) (by kernel_rfl)) ?_
      have f12_3 := (TabAt.keepC hT1 hk11 nT)
      refine seq_call (.int .i64 (upn x n (k + 1))) 29 #[.int .i64 (upn x n k), .int .i64 n] 12 rfl (by kernel_rfl) (by kernel_rfl) ((fun W hT => quiet (parent (upn x n k) n (upn_i64 x n k) W hT)) _ f12_3) fun W4 e4 => ?_
      have x4 : Grew Wi W4 := Grew.ext x3 e4
      refine seq_val (.int .i64 (upn x n (k + 1))) 4 rfl (by kernel_rfl) (by kernel_rfl) ?_
      refine seq_nil ?_
      have f13_4 := (abides_ext hJ hj11 e4)
      have r1_3 := (KeepC.row hk11 rr1 n1)
      have r1_4 := (row_ext r1_3 e4)
      have r2_4 := (row_ext r2_3 e4)
      have f14_4 := (TabAt.ext f12_3 e4)
      repeat (first | with_reducible refine goX1 ?_ | with_reducible refine goX2 ?_ | with_reducible refine goX3 ?_)
      exact goes_then (k + 1) ⟨rfl, rfl, rfl, rfl, trivial⟩ ⟨(by omega), (fun i hi => by rcases Nat.lt_or_ge i k with h | h; exact hall i h; rw [show i = k by omega]; exact hk0), (by rw [List.range_succ]; exact f13_4), r1_4, r2_4, f14_4, x4⟩ (by show 6 - (k + 1) < 6 - k; omega)
    · skip
      obtain ⟨W3, hW3⟩ : ∃ z, z = W' := ⟨_, rfl⟩
      rw [← hW3] at hA ⊢
      refine in_val (.bool true) 16 rfl (free_wide0 _ _) rfl (by kernel_rfl) (by kernel_rfl) ?_
      refine in_nil ?_
      refine hK10 _ _ ?_
      try clear hK10 K10
      refine cond_true (by kernel_rfl) ?_
      refine wp_ret ?_
      repeat (first | with_reducible refine goR1 ?_ | with_reducible refine goR2 ?_)
      exact (show bodyPost _ _ _ .ret _ _ from ret0 rfl ⟨⟨_, rfl⟩, .inr ⟨_, ⟨k + 1, List.range_succ.symm, fun i hi => by rcases Nat.lt_or_ge i k with h | h; exact hall i h; rw [show i = k by omega]; exact hk0⟩, hA⟩⟩)
  · skip
    have hk0 : upn x n k < 0 := by have := of_decide_eq_false c8; omega
    refine wp_exit ?_
    repeat (first | with_reducible refine goX1 ?_ | with_reducible refine goX2 ?_ | with_reducible refine goX3 ?_)
    exact (show bodyPost _ _ _ .normal _ _ from end0 rfl ⟨⟨_, rfl⟩, .inl ⟨_, ⟨k, rfl, hk0, hall⟩, hJ1⟩⟩)

end Go.Proofs.YticjghmgbmjkiaaDoor.Seat
