/- The ladder's climb. -/
import Derived.Test.YtaojnmjmmfdfjaaAutoT
import Derived.Test.YtaojnmjmmfdfjaaClamp
import Derived.Test.YtaojnmjmmfdfjaaLadMath
import Derived.Test.YtaojnmjmmfdfjaaAutoR
import Derived.Test.YtaojnmjmmfdfjaaBitsB
namespace Go.Proofs.Ytaojnmjmmfdfjaa.Field
open Go Go.RowKit
open Go.Proofs.Ytaojnmjmmfdfjaa.Rely Go.Proofs.Ytaojnmjmmfdfjaa.Auto Go.Proofs.Ytaojnmjmmfdfjaa.Ladder
set_option linter.unusedVariables false

set_option maxHeartbeats 4000000 in
theorem climb (xs : List Int) (hx : xs.length = 32) (hb : AreBytes xs) (u : Int) (hu : isN u) (w : World) :
    Calls Try.prog 61 #[.agg (ints .u8 xs), num u] w (Ret w (num (ladOut u (bitsB (clamp xs))))) := by
  have hcs := hcs_ xs hx
  have hxs : (ints .u8 xs).size = 32 := by rw [ints_size, hx]
  have hcl : (clamp xs).length = 32 := by simp [clamp, hx]
  have hcb := clamp_bytes xs hx hb
  refine enterM 43 [(0, .agg (ints .u8 xs)), (1, .agg (numA (u)))] Try.func61 rfl rfl (by kernel_rfl) rfl ?_
  refine wp_seq_k fun K1 hK1 => ?_
  refine region_lit ?_
  refine seq_alloc (ints .u8 xs) 23 2 rfl (by kernel_rfl) (by kernel_rfl) fun g2 W1 l2 e1 r2_1 => ?_
  have x1 : Ext w W1 := Ext.tr (Rely.Ext.refl w) e1
  have b2 : w.heap.size ≤ g2 := Nat.le_trans (Rely.Ext.refl w).size l2
  refine seq_alloc (numA (u)) 29 3 rfl (by kernel_rfl) (by kernel_rfl) fun g3 W2 l3 e2 r3_2 => ?_
  have x2 : Ext w W2 := Ext.tr x1 e2
  have b3 : w.heap.size ≤ g3 := Nat.le_trans x1.size l3
  refine seq_alloc (numA (0)) 29 4 rfl (by kernel_rfl) (by kernel_rfl) fun g4 W3 l4 e3 r4_3 => ?_
  have x3 : Ext w W3 := Ext.tr x2 e3
  have b4 : w.heap.size ≤ g4 := Nat.le_trans x2.size l4
  refine seq_nil ?_
  refine hK1 _ _ ?_
  try clear hK1 K1
  refine wp_seq_k fun K5 hK5 => ?_
  refine any_regionD 8 [⟨none, []⟩, ⟨none, []⟩, ⟨none, [(7, some 0), (8, some 1)]⟩, ⟨none, [(3, none)]⟩, ⟨none, []⟩, ⟨none, [(10, some 3), (11, some 4)]⟩, ⟨none, [(9, some 2), (12, some 5)]⟩, ⟨none, []⟩] [7] (by kernel_rfl) (by kernel_rfl) (by kernel_rfl) fun F hF => ?_
  refine any_call (.agg (numA (1))) 22 #[.int .i64 1] (by kernel_rfl) (by kernel_rfl) (fun W => by kernel_rfl) (fun W hR => (small_k 1 (by decide)) W) ?_
  refine any_call (.agg (numA (0))) 22 #[.int .i64 0] (by kernel_rfl) (by kernel_rfl) (fun W => by kernel_rfl) (fun W hR => (small_k 0 (by decide)) W) ?_
  refine any_val (.agg (cat [numA (1), numA (0)])) (by kernel_rfl) (by kernel_rfl) (fun W => by kernel_rfl) ?_
  have r3_3 := (row_ext r3_2 e3)
  refine any_read (.agg (numA (u))) (by kernel_rfl) (by kernel_rfl) (fun W hR => (run_load_row 29 _ g3 29 _ _ (row_ext (row_ext r3_3 (ext_drew _)) hR) rfl (by kernel_rfl) (by kernel_rfl) (isz (n := 4) (by kernel_rfl) (by kernel_rfl)))) ?_
  refine any_call (.agg (numA (1))) 22 #[.int .i64 1] (by kernel_rfl) (by kernel_rfl) (fun W => by kernel_rfl) (fun W hR => (small_k 1 (by decide)) W) ?_
  refine any_val (.agg (cat [numA (u), numA (1)])) (by kernel_rfl) (by kernel_rfl) (fun W => by kernel_rfl) ?_
  refine any_val (.agg (cat [numA (1), numA (0), numA (u), numA (1)])) (by kernel_rfl) (by kernel_rfl) (fun W => by kernel_rfl) ?_
  refine any_new (cat [numA (0), numA (0), numA (0), numA (0)]) 86 (by kernel_rfl) (Nat.le_refl _) (by kernel_rfl) (fun W => by kernel_rfl) ?_
  refine steps_nil (hF _ (by kernel_rfl) fun W4 e4 => ?_)
  simp only [fins, up, List.take_succ_cons, List.take_zero, List.drop_succ_cons, List.drop_zero, List.nil_append, List.cons_append]
  intro g6 l6 r6_4 n6
  have b6 : w.heap.size ≤ g6 := Nat.le_trans x3.size l6
  clear hF
  have x4 : Ext w W4 := Ext.tr x3 e4
  refine seq_store g6 _ (cat [numA (1), numA (0), numA (u), numA (1)]) 86 r6_4 rfl (by kernel_rfl) (run_store_row 86 _ _ g6 86 _ _ r6_4 rfl (by kernel_rfl) (by kernel_rfl) (isz (n := 16) (by kernel_rfl) (by kernel_rfl)) (eqsz (n := 16) (by kernel_rfl) (by kernel_rfl)) (by kernel_rfl)) fun W5 p5 r6_5 => ?_
  have x5 : Ext w W5 := Puts.ext p5 x4 b6
  refine seq_nil ?_
  refine hK5 _ _ ?_
  try clear hK5 K5
  refine wp_seq_k fun K7 hK7 => ?_
  refine wp_seq_k fun K8 hK8 => ?_
  refine region_lit ?_
  have r2_3 := (row_ext (row_ext r2_1 e2) e3)
  have r2_5 := (Puts.row p5 (row_ext (row_ext (row_ext r2_1 e2) e3) e4) (ne_of_old r2_3 l6))
  refine seq_val (.agg (ints .u8 xs)) 14 rfl (by kernel_rfl) (run_load_row 23 _ g2 23 _ _ r2_5 rfl (by kernel_rfl) (by kernel_rfl) (isz (n := 32) (by kernel_rfl) hxs)) ?_
  refine seq_call (.agg (ints .u8 (clamp xs))) 39 #[.agg (ints .u8 xs)] 15 rfl (by kernel_rfl) (by kernel_rfl) ((clampC xs hx hb) _) fun W6 e6 => ?_
  have x6 : Ext w W6 := Ext.tr x5 e6
  refine seq_callR (fun v W' => Ext W6 W' ∧ ∃ kb, W6.heap.size ≤ kb ∧ v = .func (.func 59) #[] #[.pointer (some ⟨kb, 0, none⟩)] ∧ W'.heap[kb]? = some (.cells (ints .u8 (clamp xs)) 23)) 36 #[.agg (ints .u8 (clamp xs))] 16 rfl (by kernel_rfl) (by kernel_rfl) (bits_callK _ _) fun v W7 h => ?_
  obtain ⟨e7, kb, lk, rfl, r9_7⟩ := h
  have x7 : Ext w W7 := Ext.tr x6 e7
  refine seq_nil ?_
  refine hK8 _ _ ?_
  try clear hK8 K8
  refine wp_block ?_
  have r6_7 := (row_ext (row_ext r6_5 e6) e7)
  have r3_7 := (row_ext (row_ext (Puts.row p5 (row_ext r3_3 e4) (ne_of_old r3_3 l6)) e6) e7)
  have r4_7 := (row_ext (row_ext (Puts.row p5 (row_ext r4_3 e4) (ne_of_old r4_3 l6)) e6) e7)
  have n_gu_gs : g3 ≠ g6 := (ne_of_old r3_3 l6)
  have n_gr_gs : g4 ≠ g6 := (ne_of_old r4_3 l6)
  have r6_6 := (row_ext r6_5 e6)
  have n_kb_gs : kb ≠ g6 := (ne_of_new r6_6 lk)
  refine range_auto (gf := 59) (lb := #[.pointer (some ⟨kb, 0, none⟩)]) (enc := encB) (by kernel_rfl) (enters_of Try.func59 (by kernel_rfl) rfl) (bits_stops_b _ (by omega) kb (clamp xs) hcl hcb W7 r9_7) (fun h k => Same.trans' h k) (same_book (row_lt r9_7)) (Below.refl _ _)
      (fun pre W => (W.heap[g6]? = some (.cells (cat [numA (rungs u pre).1, numA (rungs u pre).2.1, numA (rungs u pre).2.2.1, numA (rungs u pre).2.2.2]) 86) ∧ W.heap[g3]? = some (.cells (numA u) 29) ∧ W.heap[g4]? = some (.cells (numA 0) 29) ∧ W.heap[kb]? = some (.cells (ints .u8 (clamp xs)) 23)) ∧ Ext w W)
      (fun _ _ _ => False) (OwnFrom.and (Own.from (fun s A B row hs hg hr => ⟨row_kept hs.1 hg hr, row_kept hs.2.1 hg hr, row_kept hs.2.2.1 hg hr, row_kept hs.2.2.2 hg hr⟩) _) (ownFrom_below (Nat.le_refl _) x7.size)) (fun _ _ _ _ _ h _ _ => h) ⟨⟨r6_7, r3_7, r4_7, r9_7⟩, x7⟩ (fun x => [(6, encB x), (17, encB x)]) (fun l x W K hK => ?_) (fun l pre x W hI hp => ?_) (fun D ys W lD hS hI rD => ?_) (fun _ _ _ _ _ _ h _ => h.elim)
  · refine region_litIn ?_
    refine in_val (encB x) 6 rfl (free_wide l 1 _) rfl (by kernel_rfl) (by kernel_rfl) ?_
    refine in_nil ?_
    exact hK
  · obtain ⟨⟨rs, ru, rr, rk⟩, xx⟩ := hI
    have hS0 := rungs_snoc u pre x
    have hL := rungs_isL u hu pre
    generalize rungs u pre = st at hS0 hL rs
    obtain ⟨a, b, c, d⟩ := st
    cases x
    · have cs := step u a b c d hu hL.1 hL.2.1 hL.2.2.1 hL.2.2.2
      generalize hn : lstep u a b c d = r at cs
      obtain ⟨n1, n2, n3, n4⟩ := r
      have hS : rungs u (pre ++ [false]) = (n1, n2, n3, n4) := by
        rw [hS0]
        simp only [rung, hn, Bool.false_eq_true, if_false]
      clear hS0 hn
      have ls := b6
      refine wpIn_block ?_
      refine in_regionT (fun W => True) [⟨none, [(6, none)]⟩, ⟨none, [(6, none)]⟩, ⟨none, [(20, some 1)]⟩, ⟨none, [(3, none)]⟩, ⟨none, [(6, none)]⟩, ⟨none, [(5, none), (23, some 4)]⟩, ⟨none, [(24, some 5)]⟩, ⟨none, [(6, none)]⟩, ⟨none, [(26, some 7)]⟩, ⟨none, [(5, none), (27, some 8)]⟩, ⟨none, [(28, some 9)]⟩, ⟨none, [(22, some 3), (25, some 6), (29, some 10)]⟩, ⟨none, [(30, some 11)]⟩, ⟨none, [(18, some 12)]⟩, ⟨none, [(18, some 12)]⟩, ⟨none, [(5, none), (19, some 0)]⟩, ⟨none, [(33, some 15), (31, some 13)]⟩, ⟨none, [(5, none), (21, some 2)]⟩, ⟨none, [(34, some 17), (32, some 14)]⟩] [] [1, 2, 14, 17] (free_wide l 1 _) rfl (by kernel_rfl) (by kernel_rfl) (by kernel_rfl) (fun W hR => trivial) fun F hF => ?_
      refine t_val (.int .i64 0) (by kernel_rfl) (by kernel_rfl) rfl (fun W => by kernel_rfl) ?_
      refine t_val (.int .i64 0) (by kernel_rfl) (by kernel_rfl) rfl (fun W => by kernel_rfl) ?_
      refine t_val (.int .i64 1) (by kernel_rfl) (by kernel_rfl) rfl (fun W => by kernel_rfl) ?_
      refine t_read (.agg (numA (u))) (by kernel_rfl) (by kernel_rfl) (by kernel_rfl) rfl (fun W hR => (run_load_row 29 _ g3 29 _ _ (row_ext (row_ext ru (ext_drew _)) hR) rfl (by kernel_rfl) (by kernel_rfl) (isz (n := 4) (by kernel_rfl) (by kernel_rfl)))) ?_
      refine t_val (.int .i64 0) (by kernel_rfl) (by kernel_rfl) rfl (fun W => by kernel_rfl) ?_
      refine t_val (.pointer (some ⟨g6, 0, none⟩)) (by kernel_rfl) (by kernel_rfl) rfl (fun W => by kernel_rfl) ?_
      refine t_read (.agg (cat [numA (a), numA (b)])) (by kernel_rfl) (by kernel_rfl) (by kernel_rfl) rfl (fun W hR => (run_load_part 85 _ g6 0 86 _ _ _ (row_ext (row_ext rs (ext_drew _)) hR) rfl (by kernel_rfl) (cat_part [] [numA (a), numA (b)] [numA (c), numA (d)] 0 (by kernel_rfl)) (by kernel_rfl) (isz (n := 8) (by kernel_rfl) (by kernel_rfl)))) ?_
      refine t_val (.int .i64 0) (by kernel_rfl) (by kernel_rfl) rfl (fun W => by kernel_rfl) ?_
      refine t_val (.int .i64 1) (by kernel_rfl) (by kernel_rfl) rfl (fun W => by kernel_rfl) ?_
      refine t_val (.pointer (some ⟨g6, 8, none⟩)) (by kernel_rfl) (by kernel_rfl) rfl (fun W => by kernel_rfl) ?_
      refine t_read (.agg (cat [numA (c), numA (d)])) (by kernel_rfl) (by kernel_rfl) (by kernel_rfl) rfl (fun W hR => (run_load_part 85 _ g6 8 86 _ _ _ (row_ext (row_ext rs (ext_drew _)) hR) rfl (by kernel_rfl) (cat_part [numA (a), numA (b)] [numA (c), numA (d)] [] 8 (by kernel_rfl)) (by kernel_rfl) (isz (n := 8) (by kernel_rfl) (by kernel_rfl)))) ?_
      refine t_call (.tuple #[.agg (cat [numA (n1), numA (n2)]), .agg (cat [numA (n3), numA (n4)])]) 64 #[.agg (numA (u)), .agg (cat [numA (a), numA (b)]), .agg (cat [numA (c), numA (d)])] (by kernel_rfl) (by kernel_rfl) (by kernel_rfl) rfl (fun W => by kernel_rfl) (fun W hR => cs W) ?_
      refine t_val (.tuple #[.agg (cat [numA (n1), numA (n2)]), .agg (cat [numA (n3), numA (n4)])]) (by kernel_rfl) (by kernel_rfl) rfl (fun W => by kernel_rfl) ?_
      refine t_val (.agg (cat [numA (n1), numA (n2)])) (by kernel_rfl) (by kernel_rfl) rfl (fun W => by kernel_rfl) ?_
      refine t_val (.agg (cat [numA (n3), numA (n4)])) (by kernel_rfl) (by kernel_rfl) rfl (fun W => by kernel_rfl) ?_
      refine t_val (.pointer (some ⟨g6, 0, none⟩)) (by kernel_rfl) (by kernel_rfl) rfl (fun W => by kernel_rfl) ?_
      refine t_store rfl ?_
      refine t_val (.pointer (some ⟨g6, 8, none⟩)) (by kernel_rfl) (by kernel_rfl) rfl (fun W => by kernel_rfl) ?_
      refine t_store rfl ?_
      refine t_nil (hF _ (by kernel_rfl) fun W1 e1 => ?_)
      simp only [List.nil_append, List.cons_append, fins, up]
      clear hF
      have x1 : Ext w W1 := Ext.tr xx e1
      have r102_1 := (row_ext rs e1)
      refine te_store _ g6 _ (cat [numA (n1), numA (n2), numA (c), numA (d)]) 86 r102_1 rfl (run_store_cat 85 _ _ g6 0 86 [] [numA (a), numA (b)] [numA (n1), numA (n2)] [numA (c), numA (d)] r102_1 rfl (by kernel_rfl) (by kernel_rfl) (isz (n := 8) (by kernel_rfl) (by kernel_rfl)) (by kernel_rfl) (eqsz (n := 8) (by kernel_rfl) (by kernel_rfl)) (by kernel_rfl)) (fun W hp => trivial) fun W2 p2 r102_2 => ?_
      have x2 : Ext w W2 := Puts.ext p2 x1 ls
      refine te_store _ g6 _ (cat [numA (n1), numA (n2), numA (n3), numA (n4)]) 86 r102_2 rfl (run_store_cat 85 _ _ g6 8 86 [numA (n1), numA (n2)] [numA (c), numA (d)] [numA (n3), numA (n4)] [] r102_2 rfl (by kernel_rfl) (by kernel_rfl) (isz (n := 8) (by kernel_rfl) (by kernel_rfl)) (by kernel_rfl) (eqsz (n := 8) (by kernel_rfl) (by kernel_rfl)) (by kernel_rfl)) (fun W hp => trivial) fun W3 p3 r102_3 => ?_
      have x3 : Ext w W3 := Puts.ext p3 x2 ls
      refine te_nil ?_
      have r101_3 := (Puts.row p3 (Puts.row p2 (row_ext ru e1) n_gu_gs) n_gu_gs)
      have r103_3 := (Puts.row p3 (Puts.row p2 (row_ext rr e1) n_gr_gs) n_gr_gs)
      have r104_3 := (Puts.row p3 (Puts.row p2 (row_ext rk e1) n_kb_gs) n_kb_gs)
      exact ⟨(((keeps_ext e1).trans (keeps_puts p2 r102_1)).trans (keeps_puts p3 r102_2)), r104_3.trans rk.symm, ⟨by rw [hS]; exact r102_3, r101_3, r103_3, r104_3⟩, x3⟩
    · have cs := step u c d a b hu hL.2.2.1 hL.2.2.2 hL.1 hL.2.1
      generalize hn : lstep u c d a b = r at cs
      obtain ⟨n1, n2, n3, n4⟩ := r
      have hS : rungs u (pre ++ [true]) = (n3, n4, n1, n2) := by
        rw [hS0]
        simp only [rung, hn, if_true]
      clear hS0 hn
      have ls := b6
      refine wpIn_block ?_
      refine in_regionT (fun W => True) [⟨none, [(6, none)]⟩, ⟨none, [(6, none)]⟩, ⟨none, [(20, some 1)]⟩, ⟨none, [(3, none)]⟩, ⟨none, [(6, none)]⟩, ⟨none, [(5, none), (23, some 4)]⟩, ⟨none, [(24, some 5)]⟩, ⟨none, [(6, none)]⟩, ⟨none, [(26, some 7)]⟩, ⟨none, [(5, none), (27, some 8)]⟩, ⟨none, [(28, some 9)]⟩, ⟨none, [(22, some 3), (25, some 6), (29, some 10)]⟩, ⟨none, [(30, some 11)]⟩, ⟨none, [(18, some 12)]⟩, ⟨none, [(18, some 12)]⟩, ⟨none, [(5, none), (19, some 0)]⟩, ⟨none, [(33, some 15), (31, some 13)]⟩, ⟨none, [(5, none), (21, some 2)]⟩, ⟨none, [(34, some 17), (32, some 14)]⟩] [] [1, 2, 14, 17] (free_wide l 1 _) rfl (by kernel_rfl) (by kernel_rfl) (by kernel_rfl) (fun W hR => trivial) fun F hF => ?_
      refine t_val (.int .i64 1) (by kernel_rfl) (by kernel_rfl) rfl (fun W => by kernel_rfl) ?_
      refine t_val (.int .i64 1) (by kernel_rfl) (by kernel_rfl) rfl (fun W => by kernel_rfl) ?_
      refine t_val (.int .i64 0) (by kernel_rfl) (by kernel_rfl) rfl (fun W => by kernel_rfl) ?_
      refine t_read (.agg (numA (u))) (by kernel_rfl) (by kernel_rfl) (by kernel_rfl) rfl (fun W hR => (run_load_row 29 _ g3 29 _ _ (row_ext (row_ext ru (ext_drew _)) hR) rfl (by kernel_rfl) (by kernel_rfl) (isz (n := 4) (by kernel_rfl) (by kernel_rfl)))) ?_
      refine t_val (.int .i64 1) (by kernel_rfl) (by kernel_rfl) rfl (fun W => by kernel_rfl) ?_
      refine t_val (.pointer (some ⟨g6, 8, none⟩)) (by kernel_rfl) (by kernel_rfl) rfl (fun W => by kernel_rfl) ?_
      refine t_read (.agg (cat [numA (c), numA (d)])) (by kernel_rfl) (by kernel_rfl) (by kernel_rfl) rfl (fun W hR => (run_load_part 85 _ g6 8 86 _ _ _ (row_ext (row_ext rs (ext_drew _)) hR) rfl (by kernel_rfl) (cat_part [numA (a), numA (b)] [numA (c), numA (d)] [] 8 (by kernel_rfl)) (by kernel_rfl) (isz (n := 8) (by kernel_rfl) (by kernel_rfl)))) ?_
      refine t_val (.int .i64 1) (by kernel_rfl) (by kernel_rfl) rfl (fun W => by kernel_rfl) ?_
      refine t_val (.int .i64 0) (by kernel_rfl) (by kernel_rfl) rfl (fun W => by kernel_rfl) ?_
      refine t_val (.pointer (some ⟨g6, 0, none⟩)) (by kernel_rfl) (by kernel_rfl) rfl (fun W => by kernel_rfl) ?_
      refine t_read (.agg (cat [numA (a), numA (b)])) (by kernel_rfl) (by kernel_rfl) (by kernel_rfl) rfl (fun W hR => (run_load_part 85 _ g6 0 86 _ _ _ (row_ext (row_ext rs (ext_drew _)) hR) rfl (by kernel_rfl) (cat_part [] [numA (a), numA (b)] [numA (c), numA (d)] 0 (by kernel_rfl)) (by kernel_rfl) (isz (n := 8) (by kernel_rfl) (by kernel_rfl)))) ?_
      refine t_call (.tuple #[.agg (cat [numA (n1), numA (n2)]), .agg (cat [numA (n3), numA (n4)])]) 64 #[.agg (numA (u)), .agg (cat [numA (c), numA (d)]), .agg (cat [numA (a), numA (b)])] (by kernel_rfl) (by kernel_rfl) (by kernel_rfl) rfl (fun W => by kernel_rfl) (fun W hR => cs W) ?_
      refine t_val (.tuple #[.agg (cat [numA (n1), numA (n2)]), .agg (cat [numA (n3), numA (n4)])]) (by kernel_rfl) (by kernel_rfl) rfl (fun W => by kernel_rfl) ?_
      refine t_val (.agg (cat [numA (n1), numA (n2)])) (by kernel_rfl) (by kernel_rfl) rfl (fun W => by kernel_rfl) ?_
      refine t_val (.agg (cat [numA (n3), numA (n4)])) (by kernel_rfl) (by kernel_rfl) rfl (fun W => by kernel_rfl) ?_
      refine t_val (.pointer (some ⟨g6, 8, none⟩)) (by kernel_rfl) (by kernel_rfl) rfl (fun W => by kernel_rfl) ?_
      refine t_store rfl ?_
      refine t_val (.pointer (some ⟨g6, 0, none⟩)) (by kernel_rfl) (by kernel_rfl) rfl (fun W => by kernel_rfl) ?_
      refine t_store rfl ?_
      refine t_nil (hF _ (by kernel_rfl) fun W1 e1 => ?_)
      simp only [List.nil_append, List.cons_append, fins, up]
      clear hF
      have x1 : Ext w W1 := Ext.tr xx e1
      have r102_1 := (row_ext rs e1)
      refine te_store _ g6 _ (cat [numA (a), numA (b), numA (n1), numA (n2)]) 86 r102_1 rfl (run_store_cat 85 _ _ g6 8 86 [numA (a), numA (b)] [numA (c), numA (d)] [numA (n1), numA (n2)] [] r102_1 rfl (by kernel_rfl) (by kernel_rfl) (isz (n := 8) (by kernel_rfl) (by kernel_rfl)) (by kernel_rfl) (eqsz (n := 8) (by kernel_rfl) (by kernel_rfl)) (by kernel_rfl)) (fun W hp => trivial) fun W2 p2 r102_2 => ?_
      have x2 : Ext w W2 := Puts.ext p2 x1 ls
      refine te_store _ g6 _ (cat [numA (n3), numA (n4), numA (n1), numA (n2)]) 86 r102_2 rfl (run_store_cat 85 _ _ g6 0 86 [] [numA (a), numA (b)] [numA (n3), numA (n4)] [numA (n1), numA (n2)] r102_2 rfl (by kernel_rfl) (by kernel_rfl) (isz (n := 8) (by kernel_rfl) (by kernel_rfl)) (by kernel_rfl) (eqsz (n := 8) (by kernel_rfl) (by kernel_rfl)) (by kernel_rfl)) (fun W hp => trivial) fun W3 p3 r102_3 => ?_
      have x3 : Ext w W3 := Puts.ext p3 x2 ls
      refine te_nil ?_
      have r101_3 := (Puts.row p3 (Puts.row p2 (row_ext ru e1) n_gu_gs) n_gu_gs)
      have r103_3 := (Puts.row p3 (Puts.row p2 (row_ext rr e1) n_gr_gs) n_gr_gs)
      have r104_3 := (Puts.row p3 (Puts.row p2 (row_ext rk e1) n_kb_gs) n_kb_gs)
      exact ⟨(((keeps_ext e1).trans (keeps_puts p2 r102_1)).trans (keeps_puts p3 r102_2)), r104_3.trans rk.symm, ⟨by rw [hS]; exact r102_3, r101_3, r103_3, r104_3⟩, x3⟩
  obtain ⟨⟨rs, ru, rr, rk⟩, xx⟩ := hI
  subst hS
  have hL := rungs_isL u hu (bitsB (clamp xs))
  have bD : w.heap.size ≤ D := Nat.le_trans x7.size lD
  refine hK7 _ _ ?_
  try clear hK7 K7
  refine wp_seq_k fun K11 hK11 => ?_
  refine any_region 8 [⟨none, [(5, none)]⟩, ⟨none, [(35, some 0)]⟩, ⟨none, [(36, some 1)]⟩, ⟨none, [(5, none)]⟩, ⟨none, [(38, some 3)]⟩, ⟨none, [(39, some 4)]⟩, ⟨none, [(40, some 5)]⟩, ⟨none, [(37, some 2), (41, some 6)]⟩] (by kernel_rfl) (by kernel_rfl) fun F hF => ?_
  refine any_val (.pointer (some ⟨g6, 0, none⟩)) (by kernel_rfl) (by kernel_rfl) (fun W => by kernel_rfl) ?_
  refine any_val (.pointer (some ⟨g6, 0, none⟩)) (by kernel_rfl) (by kernel_rfl) (fun W => by kernel_rfl) ?_
  refine any_read (.agg (numA ((rungs u (bitsB (clamp xs))).1))) (by kernel_rfl) (by kernel_rfl) (fun W hR => (run_load_part 29 _ g6 0 86 _ _ _ (row_ext (row_ext rs (ext_drew _)) hR) rfl (by kernel_rfl) (cat_part [] [numA ((rungs u (bitsB (clamp xs))).1)] [numA ((rungs u (bitsB (clamp xs))).2.1), numA ((rungs u (bitsB (clamp xs))).2.2.1), numA ((rungs u (bitsB (clamp xs))).2.2.2)] 0 (by kernel_rfl)) (by kernel_rfl) (isz (n := 4) (by kernel_rfl) (by kernel_rfl)))) ?_
  refine any_val (.pointer (some ⟨g6, 0, none⟩)) (by kernel_rfl) (by kernel_rfl) (fun W => by kernel_rfl) ?_
  refine any_val (.pointer (some ⟨g6, 4, none⟩)) (by kernel_rfl) (by kernel_rfl) (fun W => by kernel_rfl) ?_
  refine any_read (.agg (numA ((rungs u (bitsB (clamp xs))).2.1))) (by kernel_rfl) (by kernel_rfl) (fun W hR => (run_load_part 29 _ g6 4 86 _ _ _ (row_ext (row_ext rs (ext_drew _)) hR) rfl (by kernel_rfl) (cat_part [numA ((rungs u (bitsB (clamp xs))).1)] [numA ((rungs u (bitsB (clamp xs))).2.1)] [numA ((rungs u (bitsB (clamp xs))).2.2.1), numA ((rungs u (bitsB (clamp xs))).2.2.2)] 4 (by kernel_rfl)) (by kernel_rfl) (isz (n := 4) (by kernel_rfl) (by kernel_rfl)))) ?_
  refine any_call (.agg (numA (invN (rungs u (bitsB (clamp xs))).2.1))) 32 #[.agg (numA ((rungs u (bitsB (clamp xs))).2.1))] (by kernel_rfl) (by kernel_rfl) (fun W => by kernel_rfl) (fun W hR => (inv _ hL.2.1) W) ?_
  refine any_call (.agg (numA (ladOut u (bitsB (clamp xs))))) 30 #[.agg (numA ((rungs u (bitsB (clamp xs))).1)), .agg (numA (invN (rungs u (bitsB (clamp xs))).2.1))] (by kernel_rfl) (by kernel_rfl) (fun W => by kernel_rfl) (fun W hR => (mul _ _ hL.1 (invN_isN _)) W) ?_
  refine steps_nil (hF _ (by kernel_rfl) fun W9 e9 => ?_)
  simp only [ups, up, Kn.val, List.take_succ_cons, List.take_zero, List.drop_succ_cons, List.drop_zero, List.nil_append, List.cons_append]
  clear hF
  have x9 : Ext w W9 := Ext.tr xx e9
  have r4_9 := (row_ext rr e9)
  refine seq_store g4 _ (numA (ladOut u (bitsB (clamp xs)))) 29 r4_9 rfl (by kernel_rfl) (run_store_row 29 _ _ g4 29 _ _ r4_9 rfl (by kernel_rfl) (by kernel_rfl) (isz (n := 4) (by kernel_rfl) (by kernel_rfl)) (eqsz (n := 4) (by kernel_rfl) (by kernel_rfl)) (by kernel_rfl)) fun W10 p10 r4_10 => ?_
  have x10 : Ext w W10 := Puts.ext p10 x9 b4
  refine seq_nil ?_
  refine hK11 _ _ ?_
  try clear hK11 K11
  refine wp_ret ?_
  have r10_10 := (Puts.row p10 (row_ext rD e9) (ne_mark rr rD))
  exact (show bodyPostM _ _ _ _ _ .ret _ _ from retM1 (.agg (numA (ladOut u (bitsB (clamp xs))))) rfl r10_10 (res_cell g4 29 _ (putD_row r4_10 r10_10 _) (by kernel_rfl) (by kernel_rfl) (isz (n := 4) (by kernel_rfl) (by kernel_rfl))) ⟨rfl, putD_ext x10 bD r10_10 _⟩)
end Go.Proofs.Ytaojnmjmmfdfjaa.Field
