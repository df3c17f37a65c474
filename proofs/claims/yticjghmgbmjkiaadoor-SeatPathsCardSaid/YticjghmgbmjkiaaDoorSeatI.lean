/- Paths: the list of the nodes above. -/
import Derived.Test.YticjghmgbmjkiaaDoorSeatG
namespace Go.Proofs.YticjghmgbmjkiaaDoor.Seat
open Go Go.RowKit
open Go.Proofs.YticjghmgbmjkiaaDoor.Rely Go.Proofs.YticjghmgbmjkiaaDoor.Auto Go.Proofs.YticjghmgbmjkiaaDoor.Own
set_option linter.unusedVariables false
set_option linter.unusedSimpArgs false

def upL (x n : Int) (k : Nat) : List Int := (List.range k).map (upn x n)
theorem upL_succ (x n : Int) (k : Nat) : upL x n (k + 1) = upL x n k ++ [upn x n k] := by simp [upL, List.range_succ]
theorem upL_len (x n : Int) (k : Nat) : (upL x n k).length = k := by simp [upL]
theorem upL_get {x n : Int} {K k : Nat} (h : k < K) : nth (upL x n K) k = upn x n k := by simp [nth, upL, h]
/-- how many nodes are above -/
theorem up_end (x n : Int) : ∃ K, K ≤ 6 ∧ upn x n K < 0 ∧ ∀ i, i < K → 0 ≤ upn x n i := by
  have go : ∀ m, m ≤ 6 → (∀ i, i < 6 - m → 0 ≤ upn x n i) → ∃ K, K ≤ 6 ∧ upn x n K < 0 ∧ ∀ i, i < K → 0 ≤ upn x n i := by
    intro m
    induction m with
    | zero =>
      intro _ h
      refine ⟨6, Nat.le_refl _, ?_, fun i hi => h i (by omega)⟩
      rcases Int.lt_or_le (upn x n 6) 0 with h6 | h6
      · exact h6
      · have := upn_lt h6; omega
    | succ m ih =>
      intro hm h
      rcases Int.lt_or_le (upn x n (6 - (m + 1))) 0 with h6 | h6
      · exact ⟨6 - (m + 1), by omega, h6, h⟩
      · exact ih (by omega) (fun i hi => by
          rcases Nat.lt_or_ge i (6 - (m + 1)) with h1 | h1
          · exact h i h1
          · rw [show i = 6 - (m + 1) by omega]; exact h6)
  exact go 6 (by omega) (fun i hi => by omega)
theorem rdK_grown {k : IntKind} {B : Nat} {ys : List Int} {v : Value} {W W' : World} {row : Option Nat} (h : RdK k B ys v W) (hg : W.grownBy W' row) (hr : ∀ r, row = some r → ∃ o : Obj, W.heap[r]? = some o ∧ o.isCells = false) : RdK k B ys v W' := by
  obtain ⟨a, cap, rfl, h2, h3, h4, h5⟩ := h
  refine ⟨a, cap, rfl, h2, h3, h4, ?_⟩
  rcases h5 with h5 | ⟨g, o, q1, q2, q3, q4⟩
  · exact .inl h5
  · refine .inr ⟨g, o, q1, q2, Nat.lt_of_lt_of_le q3 hg.size, fun i hi => ?_⟩
    rw [← q4 i hi]
    refine World.cell?_of_block (hg.block g q3 fun e => ?_)
    obtain ⟨ob, h6, h7⟩ := hr g e.symm
    have hc := q4 i hi
    unfold World.cell? at hc
    simp only [h6] at hc
    cases ob <;> first | (cases h7; done) | exact absurd hc (by simp)
theorem run_minI {P : Program} {ρ : Operand → Value} {o : Oper} {w : World} (ts : Array TypeId) (x y : Operand) (k : IntKind) (a b c : Int) (ho : o.op = .call { callee := .builtin .min, args := #[x, y], argTypes := ts }) (hx : ρ x = .int k a) (hy : ρ y = .int k b) (h : (if b < a then b else a) = c) : (execOp ρ o).run P w = .ok (.value (.int k c)) w := by
  subst h
  unfold execOp
  simp only [ho, resolve, invoke, builtin, Sem.run_bind, Sem.run_pure, Result.andThen_ok, List.map_toArray, List.map_cons, List.map_nil, hx, hy, run_min_int2]
theorem RdK.putsO {k : IntKind} {B c : Nat} {ys : List Int} {v : Value} {W W' : World} (h : RdK k B ys v W) (p : Puts W c W') (hn : ys = [] ∨ v.ownBlock ≠ some c) : RdK k B ys v W' := by
  rcases hn with hn | hn
  · obtain ⟨a, cap, rfl, h2, h3, h4, h5⟩ := h
    exact ⟨a, cap, rfl, h2, h3, h4, .inl hn⟩
  · exact h.putsN p hn
set_option maxHeartbeats 4000000 in
theorem rpathC (x n : Int) (K : Nat) (hK : K ≤ 6) (hneg : upn x n K < 0) (hall : ∀ i, i < K → 0 ≤ upn x n i) (w : World) : Calls Tryd.prog 39 #[.int .i64 x, .int .i64 n] w (Gives w (OwnN .i64 3 w.heap.size (upL x n K))) := by
  refine enter 20 [(0, .int .i64 x), (1, .int .i64 n)] Tryd.func39 rfl rfl (by kernel_rfl) rfl ?_
  refine wp_seq_k fun K1 hK1 => ?_
  refine region_lit ?_
  refine seq_val (.slice none 0 0) 4 rfl (by kernel_rfl) (by kernel_rfl) ?_
  refine seq_nil ?_
  refine hK1 _ _ ?_
  try clear hK1 K1
  refine wp_seq_k fun K2 hK2 => ?_
  refine region_lit ?_
  refine seq_val (.slice none 0 0) 5 rfl (by kernel_rfl) (by kernel_rfl) ?_
  refine seq_nil ?_
  refine hK2 _ _ ?_
  try clear hK2 K2
  refine wp_seq_k fun K3 hK3 => ?_
  refine wp_seq_k fun K4 hK4 => ?_
  refine region_lit ?_
  refine seq_val (.int .i64 x) 7 rfl (by kernel_rfl) (by kernel_rfl) ?_
  refine seq_val (.int .i64 n) 8 rfl (by kernel_rfl) (by kernel_rfl) ?_
  refine seq_call (.int .i64 (upn x n 0)) 30 #[.int .i64 x, .int .i64 n] 9 rfl (by kernel_rfl) (by kernel_rfl) ((rparentR x n) _) fun W1 e1 => ?_
  have x1 : Ext w W1 := Ext.tr (Rely.Ext.refl w) e1
  refine seq_val (.int .i64 (upn x n 0)) 6 rfl (by kernel_rfl) (by kernel_rfl) ?_
  refine seq_nil ?_
  refine hK4 _ _ ?_
  try clear hK4 K4
  refine wp_block ?_
  refine loop_auto (fun (s1 : Nat × Value) => [(1, .int .i64 n), (5, s1.2), (6, .int .i64 (upn x n s1.1))]) (fun (s1 : Nat × Value) W => (s1.1 ≤ K) ∧ (OwnN .i64 3 W1.heap.size (upL x n s1.1) s1.2 W) ∧ (Ext W1 W) ∧ (Ext w W)) (fun (s1 : Nat × Value) => K - s1.1) (0, (.slice none 0 0)) ⟨rfl, rfl, rfl, trivial⟩ ⟨(Nat.zero_le _), (ownN_nil _ _ _ _), (Rely.Ext.refl W1), x1⟩ fun s1 X1 V1 hI1 => ?_
  obtain ⟨k, u⟩ := s1
  obtain ⟨hkk, hu, kk1, xx1⟩ := hI1
  replace hkk : k ≤ K := hkk
  replace hu : OwnN .i64 3 W1.heap.size (upL x n k) u V1 := hu
  replace kk1 : Ext W1 V1 := kk1
  replace xx1 : Ext w V1 := xx1
  have e2 := kk1
  refine wp_seq_k fun K5 hK5 => ?_
  refine wp_seq_k fun K6 hK6 => ?_
  refine region_lit ?_
  refine seq_val (.int .i64 (upn x n k)) 10 rfl (by kernel_rfl) (by kernel_rfl) ?_
  refine seq_val (.bool (decide ((upn x n k) ≥ 0))) 11 rfl (by kernel_rfl) (by kernel_rfl) ?_
  refine seq_nil ?_
  refine hK6 _ _ ?_
  try clear hK6 K6
  refine cond_split (t := decide ((upn x n k) ≥ 0)) (by kernel_rfl) (fun c7 => ?_) (fun c7 => ?_)
  · skip
    have h0 : 0 ≤ upn x n k := by have := of_decide_eq_true c7; omega
    have hkK : k < K := by
      rcases Nat.lt_or_ge k K with h | h
      · exact h
      · rw [show k = K by omega] at h0; omega
    refine wp_skip ?_
    refine hK5 _ _ ?_
    try clear hK5 K5
    refine wp_seq_k fun K8 hK8 => ?_
    refine wp_block ?_
    refine region_lit ?_
    refine seq_val (u) 15 rfl (by kernel_rfl) (by kernel_rfl) ?_
    refine seq_val (.int .i64 (upn x n k)) 16 rfl (by kernel_rfl) (by kernel_rfl) ?_
    refine seq_makeS (ints .i64 ([(upn x n k)])) 3 1 17 rfl (by kernel_rfl) (by kernel_rfl) fun g9 W3 l9 e3 r9_3 => ?_
    have x3 : Ext w W3 := Ext.tr xx1 e3
    have b9 : w.heap.size ≤ g9 := Nat.le_trans xx1.size l9
    have f10_3 := (hu.ext e3)
    have y1_3 : Ext W1 W3 := (Rely.Ext.trans e2 e3)
    refine seq_appendN (k := .i64) (T := 3) (xs := upL x n k) (ys := [upn x n k]) (V := W1) 8 (.tmp 15) (.tmp 17) 57 rfl (by kernel_rfl) (by kernel_rfl) (by decide) 18 rfl (by kernel_rfl) (by kernel_rfl) (by kernel_rfl) f10_3 (rdK_ints (xs := [(upn x n k)]) (n := 1) rfl r9_3 (row_lt r9_3) (show 1 ≤ maxLen from by decide)) (by rw [upL_len]; show k + 1 ≤ 1000000000; omega) y1_3 fun u2 W4 f11 y4 l4 => ?_
    have x4 : Ext w W4 := Ext.low x3 l4 x1.size
    refine seq_val (u2) 5 rfl (by kernel_rfl) (by kernel_rfl) ?_
    refine seq_nil ?_
    refine hK8 _ _ ?_
    try clear hK8 K8
    refine region_lit ?_
    refine seq_val (.int .i64 (upn x n k)) 12 rfl (by kernel_rfl) (by kernel_rfl) ?_
    refine seq_val (.int .i64 n) 13 rfl (by kernel_rfl) (by kernel_rfl) ?_
    refine seq_call (.int .i64 (upn x n (k + 1))) 30 #[.int .i64 (upn x n k), .int .i64 n] 14 rfl (by kernel_rfl) (by kernel_rfl) ((rparentR (upn x n k) n) _) fun W5 e5 => ?_
    have x5 : Ext w W5 := Ext.tr x4 e5
    refine seq_val (.int .i64 (upn x n (k + 1))) 6 rfl (by kernel_rfl) (by kernel_rfl) ?_
    refine seq_nil ?_
    have f12_5 := (f11.ext e5)
    have y1_5 : Ext W1 W5 := (Rely.Ext.trans y4 e5)
    repeat (first | with_reducible refine goX1 ?_ | with_reducible refine goX2 ?_ | with_reducible refine goX3 ?_)
    exact goes_then ((k + 1), u2) ⟨rfl, rfl, rfl, trivial⟩ ⟨(by omega), (by rw [upL_succ]; exact f12_5), y1_5, x5⟩ (by show K - (k + 1) < K - k; omega)
  · skip
    have h0 : upn x n k < 0 := by have := of_decide_eq_false c7; omega
    have hkK : k = K := by
      rcases Nat.lt_or_ge k K with h | h
      · have := hall k h; omega
      · omega
    refine wp_exit ?_
    refine hK3 _ _ ?_
    try clear hK3 K3
    refine wp_seq_k fun K13 hK13 => ?_
    refine region_lit ?_
    refine seq_val (u) 19 rfl (by kernel_rfl) (by kernel_rfl) ?_
    refine seq_val (u) 4 rfl (by kernel_rfl) (by kernel_rfl) ?_
    refine seq_nil ?_
    refine hK13 _ _ ?_
    try clear hK13 K13
    refine wp_ret ?_
    repeat (first | with_reducible refine goR1 ?_ | with_reducible refine goR2 ?_)
    exact (show bodyPost _ _ _ .ret _ _ from ret1 (u) rfl (res_tmp (by kernel_rfl)) ⟨u, rfl, xx1, by rw [← hkK]; exact OwnN.base x1.size hu⟩)

end Go.Proofs.YticjghmgbmjkiaaDoor.Seat
