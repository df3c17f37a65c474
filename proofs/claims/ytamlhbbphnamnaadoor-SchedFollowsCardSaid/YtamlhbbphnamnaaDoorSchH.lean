/- The key schedule: secrets compared; tags. -/
import Derived.Test.YtamlhbbphnamnaaDoorSchF
namespace Go.Proofs.YtamlhbbphnamnaaDoor.Sha
open Go Go.RowKit
open Go.Proofs.YtamlhbbphnamnaaDoor.Rely Go.Proofs.YtamlhbbphnamnaaDoor.Auto Go.Proofs.YtamlhbbphnamnaaDoor.Own
set_option linter.unusedVariables false
set_option linter.unusedSimpArgs false

theorem run_part_arr {P : Program} (w : World) {t e : TypeId} {n : Nat} {i : TypeInfo} (ht : P.underlying t = some (.array n e)) (hi : P.info? t = some i) (xs : Array Value) (off : Nat) : (part t xs off).run P w = .ok (.agg (xs.extract off (off + P.cellsOf t))) w := by
  have h1 : (isAgg t).run P w = .ok true w := by simp [isAgg, run_underlying ht]
  unfold part
  rw [Sem.run_bind, h1, Result.andThen_ok, if_pos rfl, Sem.run_bind, run_sizeOf w hi, Result.andThen_ok]
  rfl
theorem eqFields_same {P : Program} (w : World) (d : Nat) (xs : Array Value) : ∀ fs : List Field, (∀ f ∈ fs, ∃ u, (part f.type xs f.offset).run P w = .ok u w ∧ (Op.equalIn d f.type u u).run P w = .ok true w) → (Op.eqFields d xs xs fs).run P w = .ok true w
  | [], _ => rfl
  | f :: fs, h => by
    obtain ⟨u, h1, h2⟩ := h f (List.mem_cons_self ..)
    have ih := eqFields_same w d xs fs fun g hg => h g (List.mem_cons_of_mem _ hg)
    unfold Op.eqFields
    by_cases hn : f.name ≠ "_"
    · rw [if_pos hn]
      simp only [Sem.run_bind, h1, h2, Result.andThen_ok, Bool.not_true, Bool.false_eq_true, if_false]
      exact ih
    · rw [if_neg hn]
      exact ih
theorem ints_app (a b : List Int) : ints .u8 a ++ ints .u8 b = ints .u8 (a ++ b) := by unfold ints; rw [List.map_append, List.append_toArray]
theorem cat_ints : ∀ ls : List (List Int), cat (ls.map (ints .u8)) = ints .u8 ls.flatten
  | [] => rfl
  | l :: ls => by
    rw [List.map_cons, List.flatten_cons, ← ints_app, ← cat_ints ls, cat_cons]
theorem ints_part (L : List Int) (o n : Nat) : (ints .u8 L).extract o (o + n) = ints .u8 ((L.drop o).take n) := by
  apply Array.ext'
  unfold ints
  rw [Array.toList_extract, List.extract_eq_take_drop, List.map_take, List.map_drop, Nat.add_sub_cancel_left]
/-- structs of arrays of bytes: the same cells -/
theorem eql_st {P : Program} (w : World) {t a e : TypeId} {m n : Nat} (L : List Int) (hL : L.length = m) (ht : P.underlying t = some (.struct (P.fieldsOf t))) (hp : P.stoodInHeld t = false) (ha : P.underlying a = some (.array n e)) (hca : P.cellsOf a = n) (he : P.underlying e = some (.int .u8)) (hc : P.cellsOf e = 1)
    (hf : ((P.fieldsOf t).toList.all fun f => f.type == a && decide (f.offset + n ≤ m)) = true) {U : Array Value} (hU : U = ints .u8 L) : (binOp .eql t (.agg U) (.agg U)).run P w = .ok (.bool true) w := by
  obtain ⟨i, hi⟩ := info_of_underlying ha
  have key : (Op.equalIn 10000 t (.agg U) (.agg U)).run P w = .ok true w := by
    rw [run_equalIn_struct w 9999 t U U ht hp]
    refine eqFields_same w 9999 U _ fun f hf1 => ?_
    have h1 := List.all_eq_true.1 hf f hf1
    simp only [Bool.and_eq_true, beq_iff_eq, decide_eq_true_eq] at h1
    obtain ⟨h2, h3⟩ := h1
    rw [h2]
    refine ⟨_, run_part_arr w ha hi U f.offset, ?_⟩
    rw [hU, hca, ints_part]
    have hl : ((L.drop f.offset).take n).length = n := by rw [List.length_take, List.length_drop]; omega
    rw [equalIn_ints w 9997 ha he hc _ _ hl hl]
    simp
  rw [run_eql_struct, key]
  rfl
set_option maxRecDepth 100000 in
set_option maxHeartbeats 4000000 in
theorem tagS (j jw ep f3 f4 f5 f6 c : List Int) (hjl : j.length = 32) (ljw : jw.length = 32) (lep : ep.length = 32) (lf3 : f3.length = 32) (lf4 : f4.length = 32) (lf5 : f5.length = 32) (lf6 : f6.length = 32) (hcl : c.length = 32) (h3b : AreBytes f3) (hcb : AreBytes c) (tc tq : TypeId) (w : World) (hc : w.heap[1]? = some (.cells (ints .u64 cubesI) tc)) (hq : w.heap[0]? = some (.cells (ints .u64 squaresI) tq)) : Calls Tryd.prog 34 #[.agg (cat [ints .u8 j, ints .u8 jw, ints .u8 ep, ints .u8 f3, ints .u8 f4, ints .u8 f5, ints .u8 f6]), .agg (ints .u8 c)] w (Ret w (.agg (ints .u8 (hmac f3 c)))) := by
  refine enter 10 [(0, .agg (cat [ints .u8 (j), ints .u8 (jw), ints .u8 (ep), ints .u8 (f3), ints .u8 (f4), ints .u8 (f5), ints .u8 (f6)])), (1, .agg (ints .u8 (c)))] Tryd.func34 rfl rfl kj rfl ?_
  refine wp_seq_k fun K3 hK3 => ?_
  refine region_lit ?_
  refine seq_alloc (cat [ints .u8 (j), ints .u8 (jw), ints .u8 (ep), ints .u8 (f3), ints .u8 (f4), ints .u8 (f5), ints .u8 (f6)]) 56 2 rfl kj kj fun g4 W1 l4 e1 r4_1 => ?_
  have x1 : Ext w W1 := Ext.tr (Rely.Ext.refl w) e1
  have b4 : w.heap.size ≤ g4 := Nat.le_trans (Rely.Ext.refl w).size l4
  refine seq_alloc (ints .u8 (c)) 26 3 rfl kj kj fun g5 W2 l5 e2 r5_2 => ?_
  have x2 : Ext w W2 := Ext.tr x1 e2
  have b5 : w.heap.size ≤ g5 := Nat.le_trans x1.size l5
  refine seq_alloc (ints .u8 (List.replicate 32 0)) 26 4 rfl kj kj fun g6 W3 l6 e3 r6_3 => ?_
  have x3 : Ext w W3 := Ext.tr x2 e3
  have b6 : w.heap.size ≤ g6 := Nat.le_trans x2.size l6
  refine seq_nil ?_
  refine hK3 _ _ ?_
  try clear hK3 K3
  refine wp_seq_k fun K7 hK7 => ?_
  have r4_2 := (row_ext r4_1 e2)
  have r4_3 := (row_ext r4_2 e3)
  have hk3 : RdK .u8 W3.heap.size f3 (.slice (some ⟨g4, 96, none⟩) 32 32) W3 := rdK_row 96 lf3 r4_3 (fun i hi => get_part [ints .u8 (j), ints .u8 (jw), ints .u8 (ep)] [ints .u8 (f4), ints .u8 (f5), ints .u8 (f6)] f3 96 i (96 + i) (by rw [cat_cons, cat_cons, cat_cons]; simp only [Array.size_append, cat, ((ints_size _ _).trans hjl), ((ints_size _ _).trans lep), ((ints_size _ _).trans ljw)]; rfl) rfl (by rw [lf3]; exact hi)) (row_lt r4_3) (Nat.le_refl _) (by decide)
  refine any_regionE 5 [⟨none, [(2, none)]⟩, ⟨none, [(5, some 0)]⟩, ⟨none, [(3, none)]⟩, ⟨none, [(7, some 2)]⟩, ⟨none, [(6, some 1), (8, some 3)]⟩] kj kj fun F hF => ?_
  refine e_val (rl_ext _) (.pointer (some ⟨g4, 96, none⟩)) kj kj (fun W => by kernel_rfl) ?_
  refine e_val (rl_ext _) (.slice (some ⟨g4, 96, none⟩) 32 32) kj kj (fun W => by kernel_rfl) ?_
  refine e_val (rl_ext _) (.slice (some ⟨g5, 0, none⟩) 32 32) kj kj (fun W => by kernel_rfl) ?_
  refine e_newS (rl_ext _) (#[.slice (some ⟨g5, 0, none⟩) 32 32]) 22 1 (NewS.stable _ _ _ _) kj kj (fun W => by kernel_rfl) ?_
  have r5_3 := (row_ext r5_2 e3)
  have r1_1 := (row_ext hc e1)
  have r1_2 := (row_ext r1_1 e2)
  have r1_3 := (row_ext r1_2 e3)
  have r2_1 := (row_ext hq e1)
  have r2_2 := (row_ext r2_1 e2)
  have r2_3 := (row_ext r2_2 e3)
  refine e_callX (rl_ext _) (.agg (ints .u8 (hmac (f3) (c)))) 15 (fun ρ W hR hh => ?_) ?_
  · skip
    have e6 : ρ 6 = .slice (some ⟨g4, 96, none⟩) 32 32 := hh.1
    obtain ⟨gs8, e8, lo8, rr8⟩ : NewS W3.drew.heap.size (#[.slice (some ⟨g5, 0, none⟩) 32 32]) 22 1 (ρ 8) W := hh.2.1
    refine ⟨#[.slice (some ⟨g4, 96, none⟩) 32 32, .slice (some ⟨gs8, 0, none⟩) 1 1], Eq.trans (b := Result.ok (Next.enter 15 #[ρ 6, ρ 8]) W) kj (by rw [e6, e8]), ?_⟩
    have hps9 : ∀ p ∈ ([(.slice (some ⟨g5, 0, none⟩) 32 32, c)] : List (Value × List Int)), RdK .u8 W.heap.size p.2 p.1 W ∧ AreBytes p.2 := by
      intro p hp
      simp only [List.mem_cons, List.not_mem_nil, or_false] at hp
      rcases hp with rfl
      · exact ⟨RdK.here (((rdK_ints (xs := c) (n := 32) hcl r5_3 (row_lt r5_3) (show 32 ≤ maxLen from by decide))).ext (Rely.Ext.trans (ext_drew _) hR)), hcb⟩
    have htg9 := tagC (f3) (.slice (some ⟨g4, 96, none⟩) 32 32) _ gs8 1 _ ([(.slice (some ⟨g5, 0, none⟩) 32 32, c)] : List (Value × List Int)) rfl (by decide) tc tq W (row_ext (row_ext r1_3 (ext_drew _)) hR) (row_ext (row_ext r2_3 (ext_drew _)) hR) h3b (by omega) ((hk3).ext (Rely.Ext.trans (ext_drew _) hR)) rr8 hps9 (by simp only [List.map_cons, List.map_nil, List.flatten_cons, List.flatten_nil, List.append_nil, List.length_append]; omega)
    rw [show ((List.map Prod.snd ([(.slice (some ⟨g5, 0, none⟩) 32 32, c)] : List (Value × List Int))).flatten) = c by simp only [List.map_cons, List.map_nil, List.flatten_cons, List.flatten_nil, List.append_nil, List.append_assoc]] at htg9
    exact htg9
  refine e_nil (hF _ fun W4 e4 => ?_)
  simp only [List.nil_append, List.cons_append, List.take_succ_cons, List.take_zero, List.drop_succ_cons, List.drop_zero, finE, up]
  intro vv8 hv8
  clear hF
  have x4 : Ext w W4 := Ext.tr x3 e4
  obtain ⟨g8, rfl, l8, r8_4⟩ := hv8
  have b8 : w.heap.size ≤ g8 := Nat.le_trans x3.size l8
  have r6_4 := (row_ext r6_3 e4)
  refine seq_store g6 _ (ints .u8 (hmac (f3) (c))) 26 r6_4 rfl kj (run_store_row 26 _ _ g6 26 _ _ r6_4 rfl kj kj (isz (n := 32) kj ((ints_size _ _).trans (hmac_len _ _))) (eqsz (n := 32) ((ints_size _ _).trans (List.length_replicate (n := 32))) ((ints_size _ _).trans (hmac_len _ _))) (ints_one _ _)) fun W5 p5 r6_5 => ?_
  have x5 : Ext w W5 := Puts.ext p5 x4 b6
  refine seq_nil ?_
  refine hK7 _ _ ?_
  try clear hK7 K7
  refine wp_ret ?_
  repeat (first | with_reducible refine goR1 ?_ | with_reducible refine goR2 ?_)
  exact (show bodyPost _ _ _ .ret _ _ from ret1 (.agg (ints .u8 (hmac (f3) (c)))) rfl (res_cell g6 26 _ r6_5 kj kj (isz (n := 32) kj ((ints_size _ _).trans (hmac_len _ _)))) ⟨rfl, x5⟩)
set_option maxRecDepth 100000 in
set_option maxHeartbeats 4000000 in
theorem rtagS (j jw ep f3 f4 f5 f6 c : List Int) (hjl : j.length = 32) (ljw : jw.length = 32) (lep : ep.length = 32) (lf3 : f3.length = 32) (lf4 : f4.length = 32) (lf5 : f5.length = 32) (lf6 : f6.length = 32) (hcl : c.length = 32) (h3b : AreBytes f3) (hcb : AreBytes c) (w : World) : Calls Tryd.prog 35 #[.agg (cat [ints .u8 j, ints .u8 jw, ints .u8 ep, ints .u8 f3, ints .u8 f4, ints .u8 f5, ints .u8 f6]), .agg (ints .u8 c)] w (Ret w (.agg (ints .u8 (hmac f3 c)))) := by
  refine enter 9 [(0, .agg (cat [ints .u8 (j), ints .u8 (jw), ints .u8 (ep), ints .u8 (f3), ints .u8 (f4), ints .u8 (f5), ints .u8 (f6)])), (1, .agg (ints .u8 (c)))] Tryd.func35 rfl rfl kj rfl ?_
  refine wp_seq_k fun K1 hK1 => ?_
  refine region_lit ?_
  refine seq_alloc (cat [ints .u8 (j), ints .u8 (jw), ints .u8 (ep), ints .u8 (f3), ints .u8 (f4), ints .u8 (f5), ints .u8 (f6)]) 56 2 rfl kj kj fun g2 W1 l2 e1 r2_1 => ?_
  have x1 : Ext w W1 := Ext.tr (Rely.Ext.refl w) e1
  have b2 : w.heap.size ≤ g2 := Nat.le_trans (Rely.Ext.refl w).size l2
  refine seq_alloc (ints .u8 (c)) 26 3 rfl kj kj fun g3 W2 l3 e2 r3_2 => ?_
  have x2 : Ext w W2 := Ext.tr x1 e2
  have b3 : w.heap.size ≤ g3 := Nat.le_trans x1.size l3
  refine seq_alloc (ints .u8 (List.replicate 32 0)) 26 4 rfl kj kj fun g4 W3 l4 e3 r4_3 => ?_
  have x3 : Ext w W3 := Ext.tr x2 e3
  have b4 : w.heap.size ≤ g4 := Nat.le_trans x2.size l4
  refine seq_nil ?_
  refine hK1 _ _ ?_
  try clear hK1 K1
  refine wp_seq_k fun K5 hK5 => ?_
  have r2_2 := (row_ext r2_1 e2)
  have r2_3 := (row_ext r2_2 e3)
  have hk3 : RdK .u8 W3.heap.size f3 (.slice (some ⟨g2, 96, none⟩) 32 32) W3 := rdK_row 96 lf3 r2_3 (fun i hi => get_part [ints .u8 (j), ints .u8 (jw), ints .u8 (ep)] [ints .u8 (f4), ints .u8 (f5), ints .u8 (f6)] f3 96 i (96 + i) (by rw [cat_cons, cat_cons, cat_cons]; simp only [Array.size_append, cat, ((ints_size _ _).trans hjl), ((ints_size _ _).trans lep), ((ints_size _ _).trans ljw)]; rfl) rfl (by rw [lf3]; exact hi)) (row_lt r2_3) (Nat.le_refl _) (by decide)
  refine any_regionE 4 [⟨none, [(2, none)]⟩, ⟨none, [(5, some 0)]⟩, ⟨none, [(3, none)]⟩, ⟨none, [(6, some 1), (7, some 2)]⟩] kj kj fun F hF => ?_
  refine e_val (rl_ext _) (.pointer (some ⟨g2, 96, none⟩)) kj kj (fun W => by kernel_rfl) ?_
  refine e_val (rl_ext _) (.slice (some ⟨g2, 96, none⟩) 32 32) kj kj (fun W => by kernel_rfl) ?_
  refine e_val (rl_ext _) (.slice (some ⟨g3, 0, none⟩) 32 32) kj kj (fun W => by kernel_rfl) ?_
  have r3_3 := (row_ext r3_2 e3)
  refine e_call (rl_ext _) (.agg (ints .u8 (hmac f3 c))) 16 #[.slice (some ⟨g2, 96, none⟩) 32 32, .slice (some ⟨g3, 0, none⟩) 32 32] kj kj (fun W => by kernel_rfl) (fun W hR => (by have h3 := (row_ext (row_ext r3_3 (ext_drew _)) hR); exact rtagC f3 c _ _ _ _ W (by omega) (by omega) h3b hcb (hk3.ext (Rely.Ext.trans (ext_drew _) hR)) (rdK_ints (xs := c) (n := 32) hcl h3 (row_lt h3) (by decide)))) ?_
  refine e_nil (hF _ fun W4 e4 => ?_)
  simp only [List.nil_append, List.cons_append, List.take_succ_cons, List.take_zero, List.drop_succ_cons, List.drop_zero, finE, up]
  clear hF
  have x4 : Ext w W4 := Ext.tr x3 e4
  have r4_4 := (row_ext r4_3 e4)
  refine seq_store g4 _ (ints .u8 (hmac f3 c)) 26 r4_4 rfl kj (run_store_row 26 _ _ g4 26 _ _ r4_4 rfl kj kj (isz (n := 32) kj ((ints_size _ _).trans (hmac_len _ _))) (eqsz (n := 32) ((ints_size _ _).trans (List.length_replicate (n := 32))) ((ints_size _ _).trans (hmac_len _ _))) (ints_one _ _)) fun W5 p5 r4_5 => ?_
  have x5 : Ext w W5 := Puts.ext p5 x4 b4
  refine seq_nil ?_
  refine hK5 _ _ ?_
  try clear hK5 K5
  refine wp_ret ?_
  repeat (first | with_reducible refine goR1 ?_ | with_reducible refine goR2 ?_)
  exact (show bodyPost _ _ _ .ret _ _ from ret1 (.agg (ints .u8 (hmac f3 c))) rfl (res_cell g4 26 _ r4_5 kj kj (isz (n := 32) kj ((ints_size _ _).trans (hmac_len _ _)))) ⟨rfl, x5⟩)

end Go.Proofs.YtamlhbbphnamnaaDoor.Sha
