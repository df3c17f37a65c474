/- Paths: the law SeatPaths. -/
import Derived.Test.YticjghmgbmjkiaaDoorSeatI
namespace Go.Proofs.YticjghmgbmjkiaaDoor.Seat
open Go Go.RowKit
open Go.Proofs.YticjghmgbmjkiaaDoor.Rely Go.Proofs.YticjghmgbmjkiaaDoor.Auto Go.Proofs.YticjghmgbmjkiaaDoor.Own
set_option linter.unusedVariables false
set_option linter.unusedSimpArgs false

theorem rdK_open {k : IntKind} {B : Nat} {ys : List Int} {a : Option Addr} {n c : Nat} {W : World} (h : RdK k B ys (.slice a n c) W) (h0 : 0 < ys.length) : ∃ g o, a = some ⟨g, o, none⟩ ∧ g < B ∧ ∀ i, i < ys.length → W.cell? ⟨g, o + i, none⟩ = some (.int k (nth ys i)) := by
  obtain ⟨a', cap', e, h2, h3, h4, h5⟩ := h
  simp only [Value.slice.injEq] at e
  obtain ⟨rfl, -, -⟩ := e
  rcases h5 with h5 | ⟨g, o, q1, q2, q3, q4⟩
  · rw [h5] at h0; simp at h0
  · exact ⟨g, o, q1, q2, q4⟩
theorem up_unique {x n : Int} {k K : Nat} (h1 : upn x n k < 0) (h2 : ∀ i, i < k → 0 ≤ upn x n i) (h3 : upn x n K < 0) (h4 : ∀ i, i < K → 0 ≤ upn x n i) : k = K := by
  rcases Nat.lt_trichotomy k K with h | h | h
  · have := h4 k h; omega
  · exact h
  · have := h2 K h; omega
theorem up_le {x n : Int} {k K : Nat} (h2 : ∀ i, i < k → 0 ≤ upn x n i) (h3 : upn x n K < 0) : k ≤ K := by
  rcases Nat.lt_or_ge K k with h | h
  · have := h2 K h; omega
  · exact h
theorem u64_natP (k : Int) : ∃ K : Nat, IntKind.u64.wrap k = (K : Int) ∧ K < 18446744073709551616 := by
  have : IntKind.u64.wrap k = k % 2 ^ 64 := rfl
  exact ⟨(k % 2 ^ 64).toNat, by rw [this]; omega, by omega⟩
set_option maxHeartbeats 16000000 in
theorem lawPaths (x n most : Int) (hxi : i64 x) (w : World) (hT : TabAt w) : Calls Tryd.prog 8 #[.int .i64 x, .int .i64 n, .int .i64 most] w (Ret w (.bool true)) := by
  obtain ⟨K, hK, hneg, hall⟩ := up_end x n
  obtain ⟨M, hM, hM2⟩ := u64_natP most
  obtain ⟨mo, hmo⟩ : ∃ mo : Nat, mo = 1 + M % 8 := ⟨_, rfl⟩
  have hmo1 : 0 < mo := by omega
  refine enterM 47 [(0, .int .i64 x), (1, .int .i64 n), (2, .int .i64 most)] Tryd.func8 rfl rfl (by kernel_rfl) rfl ?_
  refine wp_seq_k fun K1 hK1 => ?_
  refine region_lit ?_
  refine seq_alloc (#[.int .i64 most]) 3 5 rfl (by kernel_rfl) (by kernel_rfl) fun g2 W1 l2 e1 r2_1 => ?_
  have x1 : Ext w W1 := Ext.tr (Rely.Ext.refl w) e1
  have b2 : w.heap.size ≤ g2 := Nat.le_trans (Rely.Ext.refl w).size l2
  refine seq_alloc (#[.bool false]) 4 6 rfl (by kernel_rfl) (by kernel_rfl) fun g3 W2 l3 e2 r3_2 => ?_
  have x2 : Ext w W2 := Ext.tr x1 e2
  have b3 : w.heap.size ≤ g3 := Nat.le_trans x1.size l3
  refine seq_nil ?_
  refine hK1 _ _ ?_
  try clear hK1 K1
  refine wp_seq_k fun K4 hK4 => ?_
  refine wp_seq_k fun K5 hK5 => ?_
  refine region_lit ?_
  refine seq_call (.bool true) 26 #[] 10 rfl (by kernel_rfl) (by kernel_rfl) (aliveR _ (TabAt.ext hT x2)) fun W3 e3 => ?_
  have x3 : Ext w W3 := Ext.tr x2 e3
  refine seq_val (.bool false) 11 rfl (by kernel_rfl) (by kernel_rfl) ?_
  refine seq_nil ?_
  refine hK5 _ _ ?_
  try clear hK5 K5
  refine cond_false (by kernel_rfl) ?_
  refine wp_skip ?_
  refine hK4 _ _ ?_
  try clear hK4 K4
  refine wp_seq_k fun K6 hK6 => ?_
  refine region_lit ?_
  refine seq_val (.int .i64 x) 12 rfl (by kernel_rfl) (by kernel_rfl) ?_
  refine seq_val (.int .i64 n) 13 rfl (by kernel_rfl) (by kernel_rfl) ?_
  refine seq_callR (fun v W' => (OwnN .i64 3 W3.heap.size (upL x n K)) v W' ∧ Ext W3 W') 39 #[.int .i64 x, .int .i64 n] 14 rfl (by kernel_rfl) (by kernel_rfl) ((rpathC x n K hK hneg hall _).mono (by rintro e w' ⟨v, rfl, e1, hv⟩; exact ⟨v, rfl, hv, e1⟩)) fun vv7 W4 hh7 => ?_
  obtain ⟨hv7, e4⟩ := hh7
  have x4 : Ext w W4 := Ext.tr x3 e4
  have hr0 := OwnN.rd hv7
  have hrb : ∀ {g : Nat}, W4.heap.size ≤ g → upL x n K = [] ∨ Value.ownBlock vv7 ≠ some g := fun hg => hr0.nb hg
  have hob : ∀ g, g < W3.heap.size → Value.ownBlock vv7 ≠ some g := fun g hg => OwnN.nb hv7 hg
  obtain ⟨aw, cw, hvw, -⟩ := id hr0
  subst hvw
  have hr1 : RdK .i64 W4.heap.size (upL x n K) (.slice aw (upL x n K).length cw) W4 := hr0
  refine seq_alloc (#[.slice none 0 0]) 57 7 rfl (by kernel_rfl) (by kernel_rfl) fun g8 W5 l8 e5 r8_5 => ?_
  have x5 : Ext w W5 := Ext.tr x4 e5
  have b8 : w.heap.size ≤ g8 := Nat.le_trans x4.size l8
  refine seq_store g8 _ (#[.slice aw ((upL x n K).length) cw]) 57 r8_5 rfl (by kernel_rfl) (run_storeC1 57 _ _ g8 0 57 _ (.slice aw ((upL x n K).length) cw) r8_5 rfl (by kernel_rfl) (by kernel_rfl) (by kernel_rfl) (by kernel_rfl) (by kernel_rfl) rfl) fun W6 p6 r8_6 => ?_
  have x6 : Ext w W6 := Puts.ext p6 x5 b8
  refine seq_nil ?_
  refine hK6 _ _ ?_
  try clear hK6 K6
  refine wp_seq_k fun K9 hK9 => ?_
  refine region_lit ?_
  have r2_2 := (row_ext r2_1 e2)
  have r2_3 := (row_ext r2_2 e3)
  have r2_4 := (row_ext r2_3 e4)
  have r2_5 := (row_ext r2_4 e5)
  have r2_6 := (Puts.row p6 r2_5 (ne_of_old r2_4 l8))
  refine seq_val (.int .i64 most) 15 rfl (by kernel_rfl) (run_loadC1 3 _ g2 0 3 _ (.int .i64 most) _ r2_6 rfl (by kernel_rfl) (by kernel_rfl) (by kernel_rfl)) ?_
  refine seq_val (.int .u64 (((M : Nat) : Int))) 16 rfl (by kernel_rfl) (run_eq (u := .int .u64 (IntKind.u64.wrap (most))) (by kernel_rfl) (congrArg (Value.int .u64) hM)) ?_
  refine seq_val (.int .u64 (((M % 8 : Nat) : Int))) 17 rfl (by kernel_rfl) (run_eq (u := .int .u64 (Int.tmod (((M : Nat) : Int)) (8))) (by kernel_rfl) (congrArg (Value.int .u64) (nat_rem _ 8))) ?_
  refine seq_val (.int .i64 (((M % 8 : Nat) : Int))) 18 rfl (by kernel_rfl) (run_eq (u := .int .i64 (IntKind.i64.wrap (((M % 8 : Nat) : Int)))) (by kernel_rfl) (congrArg (Value.int .i64) (i64n _ _ rfl (by omega)))) ?_
  refine seq_val (.int .i64 (((mo : Nat) : Int))) 19 rfl (by kernel_rfl) (run_eq (u := .int .i64 (IntKind.i64.wrap (1 + ((M % 8 : Nat) : Int)))) (by kernel_rfl) (congrArg (Value.int .i64) (i64n _ _ (by omega) (by omega)))) ?_
  refine seq_store g2 _ (#[.int .i64 (((mo : Nat) : Int))]) 3 r2_6 rfl (by kernel_rfl) (run_storeC1 3 _ _ g2 0 3 _ (.int .i64 (((mo : Nat) : Int))) r2_6 rfl (by kernel_rfl) (by kernel_rfl) (by kernel_rfl) (by kernel_rfl) (by kernel_rfl) rfl) fun W7 p7 r2_7 => ?_
  have x7 : Ext w W7 := Puts.ext p7 x6 b2
  refine seq_nil ?_
  refine hK9 _ _ ?_
  try clear hK9 K9
  refine wp_seq_k fun K10 hK10 => ?_
  refine region_lit ?_
  refine seq_alloc (#[.int .i64 0]) 3 8 rfl (by kernel_rfl) (by kernel_rfl) fun g11 W8 l11 e8 r11_8 => ?_
  have x8 : Ext w W8 := Ext.tr x7 e8
  have b11 : w.heap.size ≤ g11 := Nat.le_trans x7.size l11
  refine seq_store g11 _ (#[.int .i64 0]) 3 r11_8 rfl (by kernel_rfl) (run_storeC1 3 _ _ g11 0 3 _ (.int .i64 0) r11_8 rfl (by kernel_rfl) (by kernel_rfl) (by kernel_rfl) (by kernel_rfl) (by kernel_rfl) rfl) fun W9 p9 r11_9 => ?_
  have x9 : Ext w W9 := Puts.ext p9 x8 b11
  refine seq_nil ?_
  refine hK10 _ _ ?_
  try clear hK10 K10
  refine wp_seq_k fun K12 hK12 => ?_
  refine wp_seq_k fun K13 hK13 => ?_
  refine region_lit ?_
  refine seq_val (.int .i64 x) 20 rfl (by kernel_rfl) (by kernel_rfl) ?_
  refine seq_val (.int .i64 n) 21 rfl (by kernel_rfl) (by kernel_rfl) ?_
  refine seq_callR (fun v W' => (fun v W => ∃ g1 g2, v = .func (.func 56) #[] #[.pointer (some ⟨g1, 0, none⟩), .pointer (some ⟨g2, 0, none⟩)] ∧ W9.heap.size ≤ g1 ∧ W9.heap.size ≤ g2 ∧ W.heap[g1]? = some (.cells #[.int .i64 x] 3) ∧ W.heap[g2]? = some (.cells #[.int .i64 n] 3)) v W' ∧ Ext W9 W') 40 #[.int .i64 x, .int .i64 n] 22 rfl (by kernel_rfl) (by kernel_rfl) ((pathC x n _).mono (by rintro e w' ⟨v, rfl, e1, hv⟩; exact ⟨v, rfl, hv, e1⟩)) fun vv14 W10 hh14 => ?_
  obtain ⟨hv14, e10⟩ := hh14
  have x10 : Ext w W10 := Ext.tr x9 e10
  obtain ⟨gp1, gp2, rfl, lp1, lp2, rp1, rp2⟩ := hv14
  have nb56 : g2 ≠ g3 := (ne_of_old r2_1 l3)
  have nb57 : g2 ≠ g8 := (ne_of_old r2_4 l8)
  have nb58 : g2 ≠ g11 := (ne_of_old r2_7 l11)
  have nb65 : g3 ≠ g2 := (ne_of_new r2_1 l3)
  have r3_3 := (row_ext r3_2 e3)
  have r3_4 := (row_ext r3_3 e4)
  have nb67 : g3 ≠ g8 := (ne_of_old r3_4 l8)
  have r3_5 := (row_ext r3_4 e5)
  have r3_6 := (Puts.row p6 r3_5 (ne_of_old r3_4 l8))
  have r3_7 := (Puts.row p7 r3_6 (ne_of_new r2_1 l3))
  have nb68 : g3 ≠ g11 := (ne_of_old r3_7 l11)
  have nb75 : g8 ≠ g2 := (ne_of_new r2_4 l8)
  have nb76 : g8 ≠ g3 := (ne_of_new r3_4 l8)
  have r8_7 := (Puts.row p7 r8_6 (ne_of_new r2_4 l8))
  have nb78 : g8 ≠ g11 := (ne_of_old r8_7 l11)
  have nb85 : g11 ≠ g2 := (ne_of_new r2_7 l11)
  have nb86 : g11 ≠ g3 := (ne_of_new r3_7 l11)
  have nb87 : g11 ≠ g8 := (ne_of_new r8_7 l11)
  have r3_8 := (row_ext r3_7 e8)
  have r3_9 := (Puts.row p9 r3_8 (ne_of_old r3_7 l11))
  have np1 : gp1 ∉ [g3, g11] := nm_cons (Nat.ne_of_gt (Nat.lt_of_lt_of_le (row_lt r3_9) lp1)) (nm_cons (Nat.ne_of_gt (Nat.lt_of_lt_of_le (row_lt r11_9) lp1)) nm_nil)
  have np2 : gp2 ∉ [g3, g11] := nm_cons (Nat.ne_of_gt (Nat.lt_of_lt_of_le (row_lt r3_9) lp2)) (nm_cons (Nat.ne_of_gt (Nat.lt_of_lt_of_le (row_lt r11_9) lp2)) nm_nil)
  have nTb : 2 ∉ [g3, g11] := nm_cons (Nat.ne_of_lt (Nat.lt_of_lt_of_le hT.1 b3)) (nm_cons (Nat.ne_of_lt (Nat.lt_of_lt_of_le hT.1 b11)) nm_nil)
  have hn8 := hrb (g := g11) (Nat.le_trans (Nat.le_trans (Nat.le_trans (Nat.le_trans (Nat.le_refl _) e5.size) (Nat.le_of_eq p6.2.2.2.1.symm)) (Nat.le_of_eq p7.2.2.2.1.symm)) l11)
  refine seq_nil ?_
  refine hK13 _ _ ?_
  try clear hK13 K13
  refine wp_block ?_
  have r2_8 := (row_ext r2_7 e8)
  have r2_9 := (Puts.row p9 r2_8 (ne_of_old r2_7 l11))
  have r2_10 := (row_ext r2_9 e10)
  have r3_10 := (row_ext r3_9 e10)
  have r8_8 := (row_ext r8_7 e8)
  have r8_9 := (Puts.row p9 r8_8 (ne_of_old r8_7 l11))
  have r8_10 := (row_ext r8_9 e10)
  have r11_10 := (row_ext r11_9 e10)
  have f15_5 := (hr1.ext e5)
  have f16_6 := (RdK.putsO f15_5 p6 (hrb (Nat.le_trans (Nat.le_refl _) l8)))
  have f17_7 := (RdK.putsO f16_6 p7 (.inr (hob _ (row_lt r2_3))))
  have f18_8 := (f17_7.ext e8)
  have f19_9 := (RdK.putsO f18_8 p9 (hrb (Nat.le_trans (Nat.le_trans (Nat.le_trans (Nat.le_trans (Nat.le_refl _) e5.size) (Nat.le_of_eq p6.2.2.2.1.symm)) (Nat.le_of_eq p7.2.2.2.1.symm)) l11)))
  have f20_10 := (f19_9.ext e10)
  refine range_auto (gf := 56) (lb := #[.pointer (some ⟨gp1, 0, none⟩), .pointer (some ⟨gp2, 0, none⟩)]) (enc := fun z : Nat => .int .i64 (upn x n z)) (by kernel_rfl) (enters_of Tryd.func56 (by kernel_rfl) rfl) (path_stops 2 [g3, g11] gp1 gp2 x n hxi W10 (TabAt.ext hT x10) rp1 rp2 np1 np2 nTb) (fun h k => KeepC.trans h k) KeepC.book (Below.refl _ _)
      (fun pre W => ((W.heap[g2]? = some (.cells (#[.int .i64 ((mo : Nat) : Int)]) 3)) ∧ (W.heap[g3]? = some (.cells (#[.bool false]) 4)) ∧ (W.heap[g8]? = some (.cells (#[.slice aw (upL x n K).length cw]) 57)) ∧ (W.heap[g11]? = some (.cells (#[.int .i64 ((pre.length : Nat) : Int)]) 3)) ∧ RdK .i64 W4.heap.size (upL x n K) (.slice aw (upL x n K).length cw) W ∧ pre.length < mo) ∧ Ext w W)
      (fun c pre W => ((c = .ret ∧ ∃ q z, pre = q ++ [z] ∧ (K ≤ q.length ∨ upn x n z ≠ upn x n q.length)) ∨ (c = .exit 0 ∧ pre.length = mo ∧ (W.heap[g2]? = some (.cells (#[.int .i64 ((mo : Nat) : Int)]) 3)) ∧ (W.heap[g3]? = some (.cells (#[.bool false]) 4)) ∧ (W.heap[g8]? = some (.cells (#[.slice aw (upL x n K).length cw]) 57)) ∧ (W.heap[g11]? = some (.cells (#[.int .i64 ((pre.length : Nat) : Int)]) 3)))) ∧ Ext w W) (OwnFrom.and (Own.from (fun s A B row hs hg hr => ⟨row_kept hs.1 hg hr, row_kept hs.2.1 hg hr, row_kept hs.2.2.1 hg hr, row_kept hs.2.2.2.1 hg hr, rdK_grown hs.2.2.2.2.1 hg hr, hs.2.2.2.2.2⟩) _) (ownFrom_below (Nat.le_refl _) x10.size)) (fun c => OwnFrom.and (Own.from (fun s A B row hs hg hr => by rcases hs with h | ⟨h1, h2, h5, h6, h7, h8⟩; exact .inl h; exact .inr ⟨h1, h2, row_kept h5 hg hr, row_kept h6 hg hr, row_kept h7 hg hr, row_kept h8 hg hr⟩) _) (ownFrom_below (Nat.le_refl _) x10.size)) ⟨⟨r2_10, r3_10, r8_10, r11_10, f20_10, hmo1⟩, x10⟩ (fun z => [(9, .int .i64 (upn x n z)), (23, .int .i64 (upn x n z))]) (fun l z W K hK => ?_) (fun l pre z W hI hp => ?_) (fun D ys W lD hS hI rD => ?_) (fun D c pre W lD hSp hIx rD => ?_)
  · refine region_litIn ?_
    refine in_val (.int .i64 (upn x n z)) 9 rfl (free_wide l 1 _) rfl (by kernel_rfl) (by kernel_rfl) ?_
    refine in_nil ?_
    exact hK
  · skip
    obtain ⟨⟨q5, q6, q7, q8, hrW, hlm⟩, xx⟩ := hI
    have hp7 : pre.length < 7 := hp
    refine wpIn_block ?_
    refine wpIn_seq_k fun K505 hK505 => ?_
    refine wpIn_seq_k fun K506 hK506 => ?_
    have hlenK := upL_len x n K
    rcases (show K ≤ pre.length ∨ (pre.length < K ∧ upn x n z ≠ upn x n pre.length) ∨ (pre.length < K ∧ upn x n z = upn x n pre.length) by omega) with hcs | hcs | hcs
    · skip
      refine region_litIn ?_
      refine in_val (.int .i64 ((pre.length : Nat) : Int)) 24 rfl (free_wide l 1 _) rfl (by kernel_rfl) (run_loadC1 3 _ g11 0 3 _ (.int .i64 ((pre.length : Nat) : Int)) _ q8 rfl (by kernel_rfl) (by kernel_rfl) (by kernel_rfl)) ?_
      refine in_val (.slice aw (upL x n K).length cw) 25 rfl (free_wide l 1 _) rfl (by kernel_rfl) (run_loadC1 57 _ g8 0 57 _ (.slice aw (upL x n K).length cw) _ q7 rfl (by kernel_rfl) (by kernel_rfl) (by kernel_rfl)) ?_
      refine in_val (.int .i64 (((upL x n K).length : Nat) : Int)) 26 rfl (free_wide l 1 _) rfl (by kernel_rfl) (by kernel_rfl) ?_
      refine in_val (.bool true) 27 rfl (free_wide l 1 _) rfl (by kernel_rfl) (run_eq (u := .bool (decide (((pre.length : Nat) : Int) ≥ (((upL x n K).length : Nat) : Int)))) (by kernel_rfl) (congrArg Value.bool (decide_eq_true (by omega)))) ?_
      refine in_val (.bool true) 28 rfl (free_wide l 1 _) rfl (by kernel_rfl) (by kernel_rfl) ?_
      refine in_skip 29 rfl (free_wide l 1 _) rfl (by kernel_rfl) ?_
      refine in_skip 30 rfl (free_wide l 1 _) rfl (by kernel_rfl) ?_
      refine in_skip 31 rfl (free_wide l 1 _) rfl (by kernel_rfl) ?_
      refine in_skip 32 rfl (free_wide l 1 _) rfl (by kernel_rfl) ?_
      refine in_skip 33 rfl (free_wide l 1 _) rfl (by kernel_rfl) ?_
      refine in_skip 34 rfl (free_wide l 1 _) rfl (by kernel_rfl) ?_
      refine in_val (.bool true) 35 rfl (free_wide l 1 _) rfl (by kernel_rfl) (by kernel_rfl) ?_
      refine in_nil ?_
      refine hK506 _ _ ?_
      try clear hK506 K506
      refine in_cond_true (by kernel_rfl) ?_
      refine wpIn_seq_k fun K507 hK507 => ?_
      refine region_litIn ?_
      refine in_store g3 _ (#[.bool false]) 4 q6 rfl (free_wide l 1 _) rfl (by kernel_rfl) (run_storeC1 4 _ _ g3 0 4 _ (.bool false) q6 rfl (by kernel_rfl) (by kernel_rfl) (by kernel_rfl) (by kernel_rfl) (by kernel_rfl) rfl) fun W1 p1 r502_1 => ?_
      have x1 : Ext w W1 := Puts.ext p1 xx b3
      refine in_nil ?_
      refine hK507 _ _ ?_
      try clear hK507 K507
      refine wpIn_ret ?_
      repeat (first | with_reducible refine goR1 ?_ | with_reducible refine goR2 ?_)
      exact ⟨(keeps_puts p1 q6), .inl ⟨rfl, pre, z, rfl, .inl hcs⟩, x1⟩
    · skip
      obtain ⟨gw, ow, haw, -, hcell⟩ := rdK_open hrW (by omega)
      refine region_litIn ?_
      refine in_val (.int .i64 ((pre.length : Nat) : Int)) 24 rfl (free_wide l 1 _) rfl (by kernel_rfl) (run_loadC1 3 _ g11 0 3 _ (.int .i64 ((pre.length : Nat) : Int)) _ q8 rfl (by kernel_rfl) (by kernel_rfl) (by kernel_rfl)) ?_
      refine in_val (.slice aw (upL x n K).length cw) 25 rfl (free_wide l 1 _) rfl (by kernel_rfl) (run_loadC1 57 _ g8 0 57 _ (.slice aw (upL x n K).length cw) _ q7 rfl (by kernel_rfl) (by kernel_rfl) (by kernel_rfl)) ?_
      refine in_val (.int .i64 (((upL x n K).length : Nat) : Int)) 26 rfl (free_wide l 1 _) rfl (by kernel_rfl) (by kernel_rfl) ?_
      refine in_val (.bool false) 27 rfl (free_wide l 1 _) rfl (by kernel_rfl) (run_eq (u := .bool (decide (((pre.length : Nat) : Int) ≥ (((upL x n K).length : Nat) : Int)))) (by kernel_rfl) (congrArg Value.bool (decide_eq_false (by omega)))) ?_
      refine in_val (.bool false) 28 rfl (free_wide l 1 _) rfl (by kernel_rfl) (by kernel_rfl) ?_
      refine in_val (.int .i64 (upn x n z)) 29 rfl (free_wide l 1 _) rfl (by kernel_rfl) (by kernel_rfl) ?_
      refine in_val (.slice aw (upL x n K).length cw) 30 rfl (free_wide l 1 _) rfl (by kernel_rfl) (run_loadC1 57 _ g8 0 57 _ (.slice aw (upL x n K).length cw) _ q7 rfl (by kernel_rfl) (by kernel_rfl) (by kernel_rfl)) ?_
      refine in_val (.int .i64 ((pre.length : Nat) : Int)) 31 rfl (free_wide l 1 _) rfl (by kernel_rfl) (run_loadC1 3 _ g11 0 3 _ (.int .i64 ((pre.length : Nat) : Int)) _ q8 rfl (by kernel_rfl) (by kernel_rfl) (by kernel_rfl)) ?_
      refine in_val (.pointer (some ⟨gw, ow + pre.length, none⟩)) 32 rfl (free_wide l 1 _) rfl (by kernel_rfl) (run_indexS 57 _ _ .i64 pre.length gw ow (upL x n K).length cw 3 rfl (Eq.trans (b := Value.slice aw (upL x n K).length cw) (by kernel_rfl) (by rw [haw])) (by kernel_rfl) (by kernel_rfl) (by kernel_rfl) (by omega)) ?_
      refine in_val (.int .i64 (upn x n pre.length)) 33 rfl (free_wide l 1 _) rfl (by kernel_rfl) (run_loadCell 3 _ _ (.int .i64 (upn x n pre.length)) (by rw [hcell pre.length (by omega), upL_get hcs.1]) rfl (by kernel_rfl) (by kernel_rfl)) ?_
      refine in_val (.bool true) 34 rfl (free_wide l 1 _) rfl (by kernel_rfl) (run_eq (u := .bool (((upn x n z) != (upn x n pre.length)))) (by kernel_rfl) (congrArg Value.bool (bne_iff_ne.2 hcs.2))) ?_
      refine in_val (.bool true) 35 rfl (free_wide l 1 _) rfl (by kernel_rfl) (by kernel_rfl) ?_
      refine in_nil ?_
      refine hK506 _ _ ?_
      try clear hK506 K506
      refine in_cond_true (by kernel_rfl) ?_
      refine wpIn_seq_k fun K508 hK508 => ?_
      refine region_litIn ?_
      refine in_store g3 _ (#[.bool false]) 4 q6 rfl (free_wide l 1 _) rfl (by kernel_rfl) (run_storeC1 4 _ _ g3 0 4 _ (.bool false) q6 rfl (by kernel_rfl) (by kernel_rfl) (by kernel_rfl) (by kernel_rfl) (by kernel_rfl) rfl) fun W1 p1 r502_1 => ?_
      have x1 : Ext w W1 := Puts.ext p1 xx b3
      refine in_nil ?_
      refine hK508 _ _ ?_
      try clear hK508 K508
      refine wpIn_ret ?_
      repeat (first | with_reducible refine goR1 ?_ | with_reducible refine goR2 ?_)
      exact ⟨(keeps_puts p1 q6), .inl ⟨rfl, pre, z, rfl, .inr hcs.2⟩, x1⟩
    · skip
      obtain ⟨gw, ow, haw, -, hcell⟩ := rdK_open hrW (by omega)
      refine region_litIn ?_
      refine in_val (.int .i64 ((pre.length : Nat) : Int)) 24 rfl (free_wide l 1 _) rfl (by kernel_rfl) (run_loadC1 3 _ g11 0 3 _ (.int .i64 ((pre.length : Nat) : Int)) _ q8 rfl (by kernel_rfl) (by kernel_rfl) (by kernel_rfl)) ?_
      refine in_val (.slice aw (upL x n K).length cw) 25 rfl (free_wide l 1 _) rfl (by kernel_rfl) (run_loadC1 57 _ g8 0 57 _ (.slice aw (upL x n K).length cw) _ q7 rfl (by kernel_rfl) (by kernel_rfl) (by kernel_rfl)) ?_
      refine in_val (.int .i64 (((upL x n K).length : Nat) : Int)) 26 rfl (free_wide l 1 _) rfl (by kernel_rfl) (by kernel_rfl) ?_
      refine in_val (.bool false) 27 rfl (free_wide l 1 _) rfl (by kernel_rfl) (run_eq (u := .bool (decide (((pre.length : Nat) : Int) ≥ (((upL x n K).length : Nat) : Int)))) (by kernel_rfl) (congrArg Value.bool (decide_eq_false (by omega)))) ?_
      refine in_val (.bool false) 28 rfl (free_wide l 1 _) rfl (by kernel_rfl) (by kernel_rfl) ?_
      refine in_val (.int .i64 (upn x n z)) 29 rfl (free_wide l 1 _) rfl (by kernel_rfl) (by kernel_rfl) ?_
      refine in_val (.slice aw (upL x n K).length cw) 30 rfl (free_wide l 1 _) rfl (by kernel_rfl) (run_loadC1 57 _ g8 0 57 _ (.slice aw (upL x n K).length cw) _ q7 rfl (by kernel_rfl) (by kernel_rfl) (by kernel_rfl)) ?_
      refine in_val (.int .i64 ((pre.length : Nat) : Int)) 31 rfl (free_wide l 1 _) rfl (by kernel_rfl) (run_loadC1 3 _ g11 0 3 _ (.int .i64 ((pre.length : Nat) : Int)) _ q8 rfl (by kernel_rfl) (by kernel_rfl) (by kernel_rfl)) ?_
      refine in_val (.pointer (some ⟨gw, ow + pre.length, none⟩)) 32 rfl (free_wide l 1 _) rfl (by kernel_rfl) (run_indexS 57 _ _ .i64 pre.length gw ow (upL x n K).length cw 3 rfl (Eq.trans (b := Value.slice aw (upL x n K).length cw) (by kernel_rfl) (by rw [haw])) (by kernel_rfl) (by kernel_rfl) (by kernel_rfl) (by omega)) ?_
      refine in_val (.int .i64 (upn x n pre.length)) 33 rfl (free_wide l 1 _) rfl (by kernel_rfl) (run_loadCell 3 _ _ (.int .i64 (upn x n pre.length)) (by rw [hcell pre.length (by omega), upL_get hcs.1]) rfl (by kernel_rfl) (by kernel_rfl)) ?_
      refine in_val (.bool false) 34 rfl (free_wide l 1 _) rfl (by kernel_rfl) (run_eq (u := .bool (((upn x n z) != (upn x n pre.length)))) (by kernel_rfl) (congrArg Value.bool (by rw [hcs.2]; exact bne_self_eq_false _))) ?_
      refine in_val (.bool false) 35 rfl (free_wide l 1 _) rfl (by kernel_rfl) (by kernel_rfl) ?_
      refine in_nil ?_
      refine hK506 _ _ ?_
      try clear hK506 K506
      refine in_cond_false (by kernel_rfl) ?_
      refine wpIn_skip ?_
      refine hK505 _ _ ?_
      try clear hK505 K505
      refine wpIn_seq_k fun K509 hK509 => ?_
      refine region_litIn ?_
      refine in_val (.int .i64 ((pre.length : Nat) : Int)) 36 rfl (free_wide l 1 _) rfl (by kernel_rfl) (run_loadC1 3 _ g11 0 3 _ (.int .i64 ((pre.length : Nat) : Int)) _ q8 rfl (by kernel_rfl) (by kernel_rfl) (by kernel_rfl)) ?_
      refine in_val (.int .i64 ((pre.length + 1 : Nat) : Int)) 37 rfl (free_wide l 1 _) rfl (by kernel_rfl) (run_eq (u := .int .i64 (IntKind.i64.wrap (((pre.length : Nat) : Int) + 1))) (by kernel_rfl) (congrArg (Value.int .i64) (i64n _ _ (by omega) (by omega)))) ?_
      refine in_store g11 _ (#[.int .i64 ((pre.length + 1 : Nat) : Int)]) 3 q8 rfl (free_wide l 1 _) rfl (by kernel_rfl) (run_storeC1 3 _ _ g11 0 3 _ (.int .i64 ((pre.length + 1 : Nat) : Int)) q8 rfl (by kernel_rfl) (by kernel_rfl) (by kernel_rfl) (by kernel_rfl) (by kernel_rfl) rfl) fun W1 p1 r504_1 => ?_
      have x1 : Ext w W1 := Puts.ext p1 xx b11
      refine in_nil ?_
      refine hK509 _ _ ?_
      try clear hK509 K509
      refine wpIn_seq_k fun K510 hK510 => ?_
      refine region_litIn ?_
      refine in_val (.int .i64 ((pre.length + 1 : Nat) : Int)) 38 rfl (free_wide l 1 _) rfl (by kernel_rfl) (run_loadC1 3 _ g11 0 3 _ (.int .i64 ((pre.length + 1 : Nat) : Int)) _ r504_1 rfl (by kernel_rfl) (by kernel_rfl) (by kernel_rfl)) ?_
      have r501_1 := (Puts.row p1 q5 nb58)
      refine in_val (.int .i64 ((mo : Nat) : Int)) 39 rfl (free_wide l 1 _) rfl (by kernel_rfl) (run_loadC1 3 _ g2 0 3 _ (.int .i64 ((mo : Nat) : Int)) _ r501_1 rfl (by kernel_rfl) (by kernel_rfl) (by kernel_rfl)) ?_
      refine in_val (.bool ((((pre.length + 1 : Nat) : Int) == ((mo : Nat) : Int)))) 40 rfl (free_wide l 1 _) rfl (by kernel_rfl) (by kernel_rfl) ?_
      refine in_nil ?_
      refine hK510 _ _ ?_
      try clear hK510 K510
      refine in_cond_split (t := (((pre.length + 1 : Nat) : Int) == ((mo : Nat) : Int))) (by kernel_rfl) (fun c511 => ?_) (fun c511 => ?_)
      · skip
        have hkm : pre.length + 1 = mo := by have h := c511; have h2 := eq_of_beq h; omega
        refine wpIn_exit ?_
        repeat (first | with_reducible refine goX1 ?_ | with_reducible refine goXo1 (by decide) ?_ | with_reducible refine goXo2 (by decide) ?_)
        have hl1 : (pre ++ [z]).length = pre.length + 1 := by simp
        have r502_1 := (Puts.row p1 q6 nb68)
        have r503_1 := (Puts.row p1 q7 nb78)
        exact ⟨(keeps_puts p1 q8), .inr ⟨rfl, by rw [hl1]; exact hkm, r501_1, r502_1, r503_1, by rw [hl1]; exact r504_1⟩, x1⟩
      · skip
        have hkm : pre.length + 1 ≠ mo := by have h := c511; intro e; rw [e] at h; rw [beq_self_eq_true] at h; exact absurd h (by decide)
        refine wpIn_skip ?_
        repeat (first | with_reducible refine goX1 ?_ | with_reducible refine goX2 ?_ | with_reducible refine goX3 ?_)
        have hl1 : (pre ++ [z]).length = pre.length + 1 := by simp
        have r502_1 := (Puts.row p1 q6 nb68)
        have r503_1 := (Puts.row p1 q7 nb78)
        exact ⟨(keeps_puts p1 q8), (KeepC.keeps (Keeps.puts (Keeps.refl [g3, g11] W) p1 (.inl (by simp)))), ⟨r501_1, r502_1, r503_1, by rw [hl1]; exact r504_1, RdK.putsO hrW p1 hn8, by rw [hl1]; omega⟩, x1⟩
  · obtain ⟨⟨q5, q6, q7, q8, -, hlm⟩, xx⟩ := hI
    obtain ⟨k1, rfl, hneg1, hall1⟩ := hS
    obtain rfl := up_unique hneg1 hall1 hneg hall
    rw [List.length_range] at q8 hlm
    have bD : w.heap.size ≤ D := Nat.le_trans x10.size lD
    have hlenK := upL_len x n k1
    refine hK12 _ _ ?_
    try clear hK12 K12
    refine wp_seq_k fun K22 hK22 => ?_
    refine region_lit ?_
    refine seq_val (.int .i64 ((k1 : Nat) : Int)) 41 rfl (by kernel_rfl) (run_loadC1 3 _ g11 0 3 _ (.int .i64 ((k1 : Nat) : Int)) _ q8 rfl (by kernel_rfl) (by kernel_rfl) (by kernel_rfl)) ?_
    refine seq_val (.int .i64 ((mo : Nat) : Int)) 42 rfl (by kernel_rfl) (run_loadC1 3 _ g2 0 3 _ (.int .i64 ((mo : Nat) : Int)) _ q5 rfl (by kernel_rfl) (by kernel_rfl) (by kernel_rfl)) ?_
    refine seq_val (.slice aw (upL x n k1).length cw) 43 rfl (by kernel_rfl) (run_loadC1 57 _ g8 0 57 _ (.slice aw (upL x n k1).length cw) _ q7 rfl (by kernel_rfl) (by kernel_rfl) (by kernel_rfl)) ?_
    refine seq_val (.int .i64 (((upL x n k1).length : Nat) : Int)) 44 rfl (by kernel_rfl) (by kernel_rfl) ?_
    refine seq_val (.int .i64 ((k1 : Nat) : Int)) 45 rfl (by kernel_rfl) (run_minI #[3, 3] (.tmp 42) (.tmp 44) .i64 ((mo : Nat) : Int) (((upL x n k1).length : Nat) : Int) _ rfl (by kernel_rfl) (by kernel_rfl) (by rw [if_pos (by omega)]; omega)) ?_
    refine seq_val (.bool true) 46 rfl (by kernel_rfl) (run_eq (u := .bool ((((k1 : Nat) : Int) == ((k1 : Nat) : Int)))) (by kernel_rfl) (congrArg Value.bool (beq_self_eq_true _))) ?_
    refine seq_store g3 _ (#[.bool true]) 4 q6 rfl (by kernel_rfl) (run_storeC1 4 _ _ g3 0 4 _ (.bool true) q6 rfl (by kernel_rfl) (by kernel_rfl) (by kernel_rfl) (by kernel_rfl) (by kernel_rfl) rfl) fun W12 p12 r3_12 => ?_
    have x12 : Ext w W12 := Puts.ext p12 xx b3
    refine seq_nil ?_
    refine hK22 _ _ ?_
    try clear hK22 K22
    refine wp_ret ?_
    repeat (first | with_reducible refine goR1 ?_ | with_reducible refine goR2 ?_)
    have r21_12 := (Puts.row p12 rD (ne_mark q6 rD))
    exact (show bodyPostM _ _ _ _ _ .ret _ _ from retM1 (.bool true) rfl r21_12 (res_cell1 g3 4 _ (.bool true) (putD_row r3_12 r21_12 _) (by kernel_rfl) (by kernel_rfl) rfl) ⟨rfl, putD_ext x12 bD r21_12 _⟩)
  · rcases hIx with ⟨⟨rfl, q, z, rfl, hbad⟩ | ⟨rfl, hlen, q5, q6, q7, q8⟩, xx⟩
    · exfalso
      obtain ⟨k0, e0, hall0⟩ := hSp
      obtain ⟨rfl, rfl⟩ := snoc_range e0
      have h1 := up_le hall0 hneg
      rw [List.length_range] at hbad
      rcases hbad with h2 | h2
      · omega
      · exact h2 rfl
    · obtain ⟨k0, rfl, hall0⟩ := hSp
      rw [List.length_range] at hlen q8
      subst hlen
      have hle := up_le hall0 hneg
      have bD : w.heap.size ≤ D := Nat.le_trans x10.size lD
      have hlenK := upL_len x n K
      refine wp_exit ?_
      refine hK12 _ _ ?_
      try clear hK12 K12
      refine wp_seq_k fun K24 hK24 => ?_
      refine region_lit ?_
      refine seq_val (.int .i64 ((k0 : Nat) : Int)) 41 rfl (by kernel_rfl) (run_loadC1 3 _ g11 0 3 _ (.int .i64 ((k0 : Nat) : Int)) _ q8 rfl (by kernel_rfl) (by kernel_rfl) (by kernel_rfl)) ?_
      refine seq_val (.int .i64 ((k0 : Nat) : Int)) 42 rfl (by kernel_rfl) (run_loadC1 3 _ g2 0 3 _ (.int .i64 ((k0 : Nat) : Int)) _ q5 rfl (by kernel_rfl) (by kernel_rfl) (by kernel_rfl)) ?_
      refine seq_val (.slice aw (upL x n K).length cw) 43 rfl (by kernel_rfl) (run_loadC1 57 _ g8 0 57 _ (.slice aw (upL x n K).length cw) _ q7 rfl (by kernel_rfl) (by kernel_rfl) (by kernel_rfl)) ?_
      refine seq_val (.int .i64 (((upL x n K).length : Nat) : Int)) 44 rfl (by kernel_rfl) (by kernel_rfl) ?_
      refine seq_val (.int .i64 ((k0 : Nat) : Int)) 45 rfl (by kernel_rfl) (run_minI #[3, 3] (.tmp 42) (.tmp 44) .i64 ((k0 : Nat) : Int) (((upL x n K).length : Nat) : Int) _ rfl (by kernel_rfl) (by kernel_rfl) (by rw [if_neg (by omega)])) ?_
      refine seq_val (.bool true) 46 rfl (by kernel_rfl) (run_eq (u := .bool ((((k0 : Nat) : Int) == ((k0 : Nat) : Int)))) (by kernel_rfl) (congrArg Value.bool (beq_self_eq_true _))) ?_
      refine seq_store g3 _ (#[.bool true]) 4 q6 rfl (by kernel_rfl) (run_storeC1 4 _ _ g3 0 4 _ (.bool true) q6 rfl (by kernel_rfl) (by kernel_rfl) (by kernel_rfl) (by kernel_rfl) (by kernel_rfl) rfl) fun W12 p12 r3_12 => ?_
      have x12 : Ext w W12 := Puts.ext p12 xx b3
      refine seq_nil ?_
      refine hK24 _ _ ?_
      try clear hK24 K24
      refine wp_ret ?_
      repeat (first | with_reducible refine goR1 ?_ | with_reducible refine goR2 ?_)
      have r23_12 := (Puts.row p12 rD (ne_mark q6 rD))
      exact (show bodyPostM _ _ _ _ _ .ret _ _ from retM1 (.bool true) rfl r23_12 (res_cell1 g3 4 _ (.bool true) (putD_row r3_12 r23_12 _) (by kernel_rfl) (by kernel_rfl) rfl) ⟨rfl, putD_ext x12 bD r23_12 _⟩)

end Go.Proofs.YticjghmgbmjkiaaDoor.Seat
