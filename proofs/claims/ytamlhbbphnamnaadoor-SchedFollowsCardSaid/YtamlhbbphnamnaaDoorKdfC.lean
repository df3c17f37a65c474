/- HMAC: the fixed fact. -/
import Derived.Test.YtamlhbbphnamnaaDoorKdfB
namespace Go.Proofs.YtamlhbbphnamnaaDoor.Sha
open Go Go.RowKit
open Go.Proofs.YtamlhbbphnamnaaDoor.Rely Go.Proofs.YtamlhbbphnamnaaDoor.Auto Go.Proofs.YtamlhbbphnamnaaDoor.Own
set_option linter.unusedVariables false
set_option linter.unusedSimpArgs false

theorem bytes_dec (l : List Int) (h : (l.all fun x => decide (0 ≤ x) && decide (x ≤ 255)) = true) : AreBytes l := fun x hx => by
  have := List.all_eq_true.1 h x hx
  simpa using this
theorem aliveV : nth (hmac [107, 101, 121] ([84, 104, 101, 32, 113, 117, 105, 99, 107, 32, 98, 114, 111, 119, 110, 32, 102, 111, 120, 32] ++ [106, 117, 109, 112, 115, 32, 111, 118, 101, 114, 32, 116, 104, 101, 32, 108, 97, 122, 121, 32, 100, 111, 103])) 0 = 247 ∧ nth (hmac [107, 101, 121] ([84, 104, 101, 32, 113, 117, 105, 99, 107, 32, 98, 114, 111, 119, 110, 32, 102, 111, 120, 32] ++ [106, 117, 109, 112, 115, 32, 111, 118, 101, 114, 32, 116, 104, 101, 32, 108, 97, 122, 121, 32, 100, 111, 103])) 1 = 188 ∧ nth (hmac [107, 101, 121] ([84, 104, 101, 32, 113, 117, 105, 99, 107, 32, 98, 114, 111, 119, 110, 32, 102, 111, 120, 32] ++ [106, 117, 109, 112, 115, 32, 111, 118, 101, 114, 32, 116, 104, 101, 32, 108, 97, 122, 121, 32, 100, 111, 103])) 31 = 216 := by decide +kernel
set_option maxHeartbeats 4000000 in
theorem alive02 (tc tq : TypeId) (w : World) (hc : w.heap[1]? = some (.cells (ints .u64 cubesI) tc)) (hq : w.heap[0]? = some (.cells (ints .u64 squaresI) tq)) : Calls Tryd.prog 13 #[] w (Ret w (.bool true)) := by
  refine enter 23 [] Tryd.func13 rfl rfl kj rfl ?_
  refine wp_seq_k fun K3 hK3 => ?_
  refine region_lit ?_
  refine seq_val (.bool false) 0 rfl kj kj ?_
  refine seq_nil ?_
  refine hK3 _ _ ?_
  try clear hK3 K3
  refine wp_seq_k fun K4 hK4 => ?_
  refine region_lit ?_
  refine seq_makeS (ints .u8 ([107, 101, 121])) 5 3 2 rfl kj kj fun g5 W1 l5 e1 r5_1 => ?_
  have x1 : Ext w W1 := Ext.tr (Rely.Ext.refl w) e1
  have b5 : w.heap.size ≤ g5 := Nat.le_trans (Rely.Ext.refl w).size l5
  refine seq_convB (xs := [107, 101, 121]) 22 5 (.tmp 2) 3 rfl rfl kj kj kj kj rfl (show 3 ≤ maxLen by decide) r5_1 fun W2 p2 r5_2 rd6 => ?_
  have x2 : Ext w W2 := Puts.ext p2 x1 b5
  refine seq_makeS (ints .u8 ([84, 104, 101, 32, 113, 117, 105, 99, 107, 32, 98, 114, 111, 119, 110, 32, 102, 111, 120, 32])) 5 20 4 rfl kj kj fun g7 W3 l7 e3 r7_3 => ?_
  have x3 : Ext w W3 := Ext.tr x2 e3
  have b7 : w.heap.size ≤ g7 := Nat.le_trans x2.size l7
  refine seq_convB (xs := [84, 104, 101, 32, 113, 117, 105, 99, 107, 32, 98, 114, 111, 119, 110, 32, 102, 111, 120, 32]) 22 5 (.tmp 4) 5 rfl rfl kj kj kj kj rfl (show 20 ≤ maxLen by decide) r7_3 fun W4 p4 r7_4 rd8 => ?_
  have x4 : Ext w W4 := Puts.ext p4 x3 b7
  refine seq_makeS (ints .u8 ([106, 117, 109, 112, 115, 32, 111, 118, 101, 114, 32, 116, 104, 101, 32, 108, 97, 122, 121, 32, 100, 111, 103])) 5 23 6 rfl kj kj fun g9 W5 l9 e5 r9_5 => ?_
  have x5 : Ext w W5 := Ext.tr x4 e5
  have b9 : w.heap.size ≤ g9 := Nat.le_trans x4.size l9
  refine seq_convB (xs := [106, 117, 109, 112, 115, 32, 111, 118, 101, 114, 32, 116, 104, 101, 32, 108, 97, 122, 121, 32, 100, 111, 103]) 22 5 (.tmp 6) 7 rfl rfl kj kj kj kj rfl (show 23 ≤ maxLen by decide) r9_5 fun W6 p6 r9_6 rd10 => ?_
  have x6 : Ext w W6 := Puts.ext p6 x5 b9
  refine seq_makeS (#[.slice (some ⟨g7, 0, none⟩) 20 20, .slice (some ⟨g9, 0, none⟩) 23 23]) 22 2 8 rfl kj kj fun g11 W7 l11 e7 r11_7 => ?_
  have x7 : Ext w W7 := Ext.tr x6 e7
  have b11 : w.heap.size ≤ g11 := Nat.le_trans x6.size l11
  have f13_3 := (rd6.ext e3)
  have f14_4 := (RdK.putsP f13_3 p4 (.inr (fun e => (ne_of_old r5_2 l7) (Option.some.inj e))))
  have f15_5 := (f14_4.ext e5)
  have r5_3 := (row_ext r5_2 e3)
  have r5_4 := (Puts.row p4 r5_3 (ne_of_old r5_2 l7))
  have f16_6 := (RdK.putsP f15_5 p6 (.inr (fun e => (ne_of_old r5_4 l9) (Option.some.inj e))))
  have f17_7 := (f16_6.ext e7)
  have f18_5 := (rd8.ext e5)
  have f19_6 := (RdK.putsP f18_5 p6 (.inr (fun e => (ne_of_old r7_4 l9) (Option.some.inj e))))
  have f20_7 := (f19_6.ext e7)
  have f21_7 := (rd10.ext e7)
  have r1_1 := (row_ext hc e1)
  have r1_2 := (Puts.row p2 r1_1 (ne_of_old hc l5))
  have r1_3 := (row_ext r1_2 e3)
  have r1_4 := (Puts.row p4 r1_3 (ne_of_old r1_2 l7))
  have r1_5 := (row_ext r1_4 e5)
  have r1_6 := (Puts.row p6 r1_5 (ne_of_old r1_4 l9))
  have r1_7 := (row_ext r1_6 e7)
  have r2_1 := (row_ext hq e1)
  have r2_2 := (Puts.row p2 r2_1 (ne_of_old hq l5))
  have r2_3 := (row_ext r2_2 e3)
  have r2_4 := (Puts.row p4 r2_3 (ne_of_old r2_2 l7))
  have r2_5 := (row_ext r2_4 e5)
  have r2_6 := (Puts.row p6 r2_5 (ne_of_old r2_4 l9))
  have r2_7 := (row_ext r2_6 e7)
  have hps12 : ∀ p ∈ ([(.slice (some ⟨g7, 0, none⟩) 20 20, [84, 104, 101, 32, 113, 117, 105, 99, 107, 32, 98, 114, 111, 119, 110, 32, 102, 111, 120, 32]), (.slice (some ⟨g9, 0, none⟩) 23 23, [106, 117, 109, 112, 115, 32, 111, 118, 101, 114, 32, 116, 104, 101, 32, 108, 97, 122, 121, 32, 100, 111, 103])] : List (Value × List Int)), RdK .u8 W7.heap.size p.2 p.1 W7 ∧ AreBytes p.2 := by
    intro p hp
    simp only [List.mem_cons, List.not_mem_nil, or_false] at hp
    rcases hp with rfl | rfl
    · exact ⟨RdK.here f20_7, (bytes_dec [84, 104, 101, 32, 113, 117, 105, 99, 107, 32, 98, 114, 111, 119, 110, 32, 102, 111, 120, 32] (by decide))⟩
    · exact ⟨RdK.here f21_7, (bytes_dec [106, 117, 109, 112, 115, 32, 111, 118, 101, 114, 32, 116, 104, 101, 32, 108, 97, 122, 121, 32, 100, 111, 103] (by decide))⟩
  have htg12 := tagC ([107, 101, 121]) (.slice (some ⟨g5, 0, none⟩) 3 3) _ g11 2 _ ([(.slice (some ⟨g7, 0, none⟩) 20 20, [84, 104, 101, 32, 113, 117, 105, 99, 107, 32, 98, 114, 111, 119, 110, 32, 102, 111, 120, 32]), (.slice (some ⟨g9, 0, none⟩) 23 23, [106, 117, 109, 112, 115, 32, 111, 118, 101, 114, 32, 116, 104, 101, 32, 108, 97, 122, 121, 32, 100, 111, 103])] : List (Value × List Int)) rfl (by decide) tc tq W7 r1_7 r2_7 (bytes_dec [107, 101, 121] (by decide)) (by decide) f17_7 r11_7 hps12 (by simp only [List.map_cons, List.map_nil, List.flatten_cons, List.flatten_nil, List.append_nil, List.length_append]; decide)
  rw [show ((List.map Prod.snd ([(.slice (some ⟨g7, 0, none⟩) 20 20, [84, 104, 101, 32, 113, 117, 105, 99, 107, 32, 98, 114, 111, 119, 110, 32, 102, 111, 120, 32]), (.slice (some ⟨g9, 0, none⟩) 23 23, [106, 117, 109, 112, 115, 32, 111, 118, 101, 114, 32, 116, 104, 101, 32, 108, 97, 122, 121, 32, 100, 111, 103])] : List (Value × List Int))).flatten) = ([84, 104, 101, 32, 113, 117, 105, 99, 107, 32, 98, 114, 111, 119, 110, 32, 102, 111, 120, 32]) ++ ([106, 117, 109, 112, 115, 32, 111, 118, 101, 114, 32, 116, 104, 101, 32, 108, 97, 122, 121, 32, 100, 111, 103]) by simp only [List.map_cons, List.map_nil, List.flatten_cons, List.flatten_nil, List.append_nil]] at htg12
  refine seq_call (.agg (ints .u8 (hmac ([107, 101, 121]) (([84, 104, 101, 32, 113, 117, 105, 99, 107, 32, 98, 114, 111, 119, 110, 32, 102, 111, 120, 32]) ++ ([106, 117, 109, 112, 115, 32, 111, 118, 101, 114, 32, 116, 104, 101, 32, 108, 97, 122, 121, 32, 100, 111, 103]))))) 15 #[.slice (some ⟨g5, 0, none⟩) 3 3, .slice (some ⟨g11, 0, none⟩) 2 2] 9 rfl kj kj htg12 fun W8 e8 => ?_
  have x8 : Ext w W8 := Ext.tr x7 e8
  refine seq_alloc (ints .u8 (List.replicate 32 0)) 26 1 rfl kj kj fun g22 W9 l22 e9 r22_9 => ?_
  have x9 : Ext w W9 := Ext.tr x8 e9
  have b22 : w.heap.size ≤ g22 := Nat.le_trans x8.size l22
  refine seq_store g22 _ (ints .u8 (hmac ([107, 101, 121]) (([84, 104, 101, 32, 113, 117, 105, 99, 107, 32, 98, 114, 111, 119, 110, 32, 102, 111, 120, 32]) ++ ([106, 117, 109, 112, 115, 32, 111, 118, 101, 114, 32, 116, 104, 101, 32, 108, 97, 122, 121, 32, 100, 111, 103])))) 26 r22_9 rfl kj (run_store_row 26 _ _ g22 26 _ _ r22_9 rfl kj kj (isz (n := 32) kj ((ints_size _ _).trans (hmac_len _ _))) (eqsz (n := 32) ((ints_size _ _).trans (List.length_replicate (n := 32))) ((ints_size _ _).trans (hmac_len _ _))) (ints_one _ _)) fun W10 p10 r22_10 => ?_
  have x10 : Ext w W10 := Puts.ext p10 x9 b22
  refine seq_nil ?_
  refine hK4 _ _ ?_
  try clear hK4 K4
  refine wp_seq_k fun K23 hK23 => ?_
  refine region_lit ?_
  refine seq_val (.pointer (some ⟨g22, 0, none⟩)) 10 rfl kj kj ?_
  refine seq_val (.int .u8 (247)) 11 rfl kj (run_loadC1 5 _ g22 0 26 _ (.int .u8 (247)) _ r22_10 rfl kj ((ints_get _ _ _ (Nat.lt_of_lt_of_eq (by decide) (hmac_len _ _).symm)).trans (congrArg (fun z => some (Value.int .u8 z)) aliveV.1)) kj) ?_
  refine seq_val (.bool true) 12 rfl kj kj ?_
  refine seq_val (.bool true) 13 rfl kj kj ?_
  refine seq_val (.pointer (some ⟨g22, 1, none⟩)) 14 rfl kj kj ?_
  refine seq_val (.int .u8 (188)) 15 rfl kj (run_loadC1 5 _ g22 1 26 _ (.int .u8 (188)) _ r22_10 rfl kj ((ints_get _ _ _ (Nat.lt_of_lt_of_eq (by decide) (hmac_len _ _).symm)).trans (congrArg (fun z => some (Value.int .u8 z)) aliveV.2.1)) kj) ?_
  refine seq_val (.bool true) 16 rfl kj kj ?_
  refine seq_val (.bool true) 17 rfl kj kj ?_
  refine seq_val (.bool true) 18 rfl kj kj ?_
  refine seq_val (.pointer (some ⟨g22, 31, none⟩)) 19 rfl kj kj ?_
  refine seq_val (.int .u8 (216)) 20 rfl kj (run_loadC1 5 _ g22 31 26 _ (.int .u8 (216)) _ r22_10 rfl kj ((ints_get _ _ _ (Nat.lt_of_lt_of_eq (by decide) (hmac_len _ _).symm)).trans (congrArg (fun z => some (Value.int .u8 z)) aliveV.2.2)) kj) ?_
  refine seq_val (.bool true) 21 rfl kj kj ?_
  refine seq_val (.bool true) 22 rfl kj kj ?_
  refine seq_val (.bool true) 0 rfl kj kj ?_
  refine seq_nil ?_
  refine hK23 _ _ ?_
  try clear hK23 K23
  refine wp_ret ?_
  repeat (first | with_reducible refine goR1 ?_ | with_reducible refine goR2 ?_)
  exact (show bodyPost _ _ _ .ret _ _ from ret1 (.bool true) rfl (res_tmp kj) ⟨rfl, x10⟩)

end Go.Proofs.YtamlhbbphnamnaaDoor.Sha
