/- The key schedule: all secrets that follow, both ways. -/
import Derived.Test.YtamlhbbphnamnaaDoorSchB
namespace Go.Proofs.YtamlhbbphnamnaaDoor.Sha
open Go Go.RowKit
open Go.Proofs.YtamlhbbphnamnaaDoor.Rely Go.Proofs.YtamlhbbphnamnaaDoor.Auto Go.Proofs.YtamlhbbphnamnaaDoor.Own
set_option linter.unusedVariables false
set_option linter.unusedSimpArgs false

set_option maxRecDepth 100000 in
set_option maxHeartbeats 4000000 in
theorem rjoinedN (j ctx : List Int) (v2 : Value) (B2 : Nat) (w : World)   (hjl : j.length = 32) (hjb : AreBytes j) (hxb : AreBytes ctx) (hx : RdK .u8 B2 ctx v2 w) (jw ep f3 f4 f5 f6 : List Int) (ejw : jw = deriveV j (strB sWelcome)) (eep : ep = labV j (strB sEpoch) ctx) (ef3 : f3 = deriveV ep (strB sConfirm)) (ef4 : f4 = deriveV ep (strB sPackets)) (ef5 : f5 = deriveV ep (strB sExport)) (ef6 : f6 = deriveV ep (strB sInit)) : Calls Tryd.prog 33 #[.agg (ints .u8 j), v2] w (Ret w (.agg (cat [ints .u8 j, ints .u8 jw, ints .u8 ep, ints .u8 f3, ints .u8 f4, ints .u8 f5, ints .u8 f6]))) := by
  obtain ⟨a_ctx, c_ctx, rfl, -⟩ := id hx
  have ljw : jw.length = 32 := by rw [ejw]; exact deriveV_len _ _
  have lep : ep.length = 32 := by rw [eep]; exact labV_len _ _ _
  have lf3 : f3.length = 32 := by rw [ef3]; exact deriveV_len _ _
  have lf4 : f4.length = 32 := by rw [ef4]; exact deriveV_len _ _
  have lf5 : f5.length = 32 := by rw [ef5]; exact deriveV_len _ _
  have lf6 : f6.length = 32 := by rw [ef6]; exact deriveV_len _ _
  have bep : AreBytes ep := by rw [eep]; exact labV_bytes _ _ _
  refine enter 32 [(0, .agg (ints .u8 (j))), (1, .slice a_ctx ctx.length c_ctx)] Tryd.func33 rfl rfl kj rfl ?_
  refine wp_seq_k fun K1 hK1 => ?_
  refine region_lit ?_
  refine seq_alloc (ints .u8 (j)) 26 2 rfl kj kj fun g2 W1 l2 e1 r2_1 => ?_
  have x1 : Ext w W1 := Ext.tr (Rely.Ext.refl w) e1
  have b2 : w.heap.size ≤ g2 := Nat.le_trans (Rely.Ext.refl w).size l2
  refine seq_alloc (cat [ints .u8 (List.replicate 32 0), ints .u8 (List.replicate 32 0), ints .u8 (List.replicate 32 0), ints .u8 (List.replicate 32 0), ints .u8 (List.replicate 32 0), ints .u8 (List.replicate 32 0), ints .u8 (List.replicate 32 0)]) 56 4 rfl kj kj fun g3 W2 l3 e2 r3_2 => ?_
  have x2 : Ext w W2 := Ext.tr x1 e2
  have b3 : w.heap.size ≤ g3 := Nat.le_trans x1.size l3
  refine seq_nil ?_
  refine hK1 _ _ ?_
  try clear hK1 K1
  refine wp_seq_k fun K4 hK4 => ?_
  refine region_lit ?_
  refine seq_alloc (cat [ints .u8 (List.replicate 32 0), ints .u8 (List.replicate 32 0), ints .u8 (List.replicate 32 0), ints .u8 (List.replicate 32 0), ints .u8 (List.replicate 32 0), ints .u8 (List.replicate 32 0), ints .u8 (List.replicate 32 0)]) 56 5 rfl kj kj fun g5 W3 l5 e3 r5_3 => ?_
  have x3 : Ext w W3 := Ext.tr x2 e3
  have b5 : w.heap.size ≤ g5 := Nat.le_trans x2.size l5
  refine seq_nil ?_
  refine hK4 _ _ ?_
  try clear hK4 K4
  refine wp_seq_k fun K6 hK6 => ?_
  refine region_lit ?_
  have r2_2 := (row_ext r2_1 e2)
  have r2_3 := (row_ext r2_2 e3)
  refine seq_val (.agg (ints .u8 (j))) 6 rfl kj (run_load_row 26 _ g2 26 _ _ r2_3 rfl kj kj (isz (n := 32) kj ((ints_size _ _).trans hjl))) ?_
  refine seq_val (.pointer (some ⟨g5, 0, none⟩)) 7 rfl kj kj ?_
  refine seq_store g5 _ (cat [ints .u8 (j), ints .u8 (List.replicate 32 0), ints .u8 (List.replicate 32 0), ints .u8 (List.replicate 32 0), ints .u8 (List.replicate 32 0), ints .u8 (List.replicate 32 0), ints .u8 (List.replicate 32 0)]) 56 r5_3 rfl kj (run_store_cat 26 _ _ g5 0 56 [] [ints .u8 (List.replicate 32 0)] [ints .u8 (j)] [ints .u8 (List.replicate 32 0), ints .u8 (List.replicate 32 0), ints .u8 (List.replicate 32 0), ints .u8 (List.replicate 32 0), ints .u8 (List.replicate 32 0), ints .u8 (List.replicate 32 0)] r5_3 rfl kj kj (isz (n := 32) kj ((ints_size _ _).trans hjl)) kj (eqsz (n := 32) ((ints_size _ _).trans hjl) ((ints_size _ _).trans (List.length_replicate (n := 32)))) (ints_one _ _)) fun W4 p4 r5_4 => ?_
  have x4 : Ext w W4 := Puts.ext p4 x3 b5
  refine seq_nil ?_
  refine hK6 _ _ ?_
  try clear hK6 K6
  refine wp_seq_k fun K7 hK7 => ?_
  refine region_lit ?_
  have r2_4 := (Puts.row p4 r2_3 (ne_of_old r2_2 l5))
  refine seq_val (.agg (ints .u8 (j))) 8 rfl kj (run_load_row 26 _ g2 26 _ _ r2_4 rfl kj kj (isz (n := 32) kj ((ints_size _ _).trans hjl))) ?_
  refine seq_call (.agg (ints .u8 (jw))) 50 #[.agg (ints .u8 (j)), .string sWelcome] 9 rfl kj kj ((by rw [ejw]; exact rderiveC j sWelcome _ hjl hjb)) fun W5 e5 => ?_
  have x5 : Ext w W5 := Ext.tr x4 e5
  refine seq_val (.pointer (some ⟨g5, 32, none⟩)) 10 rfl kj kj ?_
  have r5_5 := (row_ext r5_4 e5)
  refine seq_store g5 _ (cat [ints .u8 (j), ints .u8 (jw), ints .u8 (List.replicate 32 0), ints .u8 (List.replicate 32 0), ints .u8 (List.replicate 32 0), ints .u8 (List.replicate 32 0), ints .u8 (List.replicate 32 0)]) 56 r5_5 rfl kj (run_store_cat 26 _ _ g5 32 56 [ints .u8 (j)] [ints .u8 (List.replicate 32 0)] [ints .u8 (jw)] [ints .u8 (List.replicate 32 0), ints .u8 (List.replicate 32 0), ints .u8 (List.replicate 32 0), ints .u8 (List.replicate 32 0), ints .u8 (List.replicate 32 0)] r5_5 rfl kj kj (isz (n := 32) kj ((ints_size _ _).trans ljw)) ((ints_size _ _).trans hjl) (eqsz (n := 32) ((ints_size _ _).trans ljw) ((ints_size _ _).trans (List.length_replicate (n := 32)))) (ints_one _ _)) fun W6 p6 r5_6 => ?_
  have x6 : Ext w W6 := Puts.ext p6 x5 b5
  refine seq_nil ?_
  refine hK7 _ _ ?_
  try clear hK7 K7
  refine wp_seq_k fun K8 hK8 => ?_
  refine region_lit ?_
  have r2_5 := (row_ext r2_4 e5)
  have r2_6 := (Puts.row p6 r2_5 (ne_of_old r2_2 l5))
  refine seq_val (.agg (ints .u8 (j))) 11 rfl kj (run_load_row 26 _ g2 26 _ _ r2_6 rfl kj kj (isz (n := 32) kj ((ints_size _ _).trans hjl))) ?_
  refine seq_val (.slice a_ctx ctx.length c_ctx) 12 rfl kj kj ?_
  refine seq_call (.agg (ints .u8 (ep))) 52 #[.agg (ints .u8 (j)), .string sEpoch, .slice a_ctx ctx.length c_ctx] 13 rfl kj kj ((by rw [eep]; exact rlabelledC j ctx sEpoch _ B2 _ hjl hjb hxb (RdK.ext hx x6))) fun W7 e7 => ?_
  have x7 : Ext w W7 := Ext.tr x6 e7
  refine seq_val (.pointer (some ⟨g5, 64, none⟩)) 14 rfl kj kj ?_
  have r5_7 := (row_ext r5_6 e7)
  refine seq_store g5 _ (cat [ints .u8 (j), ints .u8 (jw), ints .u8 (ep), ints .u8 (List.replicate 32 0), ints .u8 (List.replicate 32 0), ints .u8 (List.replicate 32 0), ints .u8 (List.replicate 32 0)]) 56 r5_7 rfl kj (run_store_cat 26 _ _ g5 64 56 [ints .u8 (j), ints .u8 (jw)] [ints .u8 (List.replicate 32 0)] [ints .u8 (ep)] [ints .u8 (List.replicate 32 0), ints .u8 (List.replicate 32 0), ints .u8 (List.replicate 32 0), ints .u8 (List.replicate 32 0)] r5_7 rfl kj kj (isz (n := 32) kj ((ints_size _ _).trans lep)) (by rw [cat_cons, cat_cons]; simp only [Array.size_append, cat, ((ints_size _ _).trans hjl), ((ints_size _ _).trans ljw)]; rfl) (eqsz (n := 32) ((ints_size _ _).trans lep) ((ints_size _ _).trans (List.length_replicate (n := 32)))) (ints_one _ _)) fun W8 p8 r5_8 => ?_
  have x8 : Ext w W8 := Puts.ext p8 x7 b5
  refine seq_nil ?_
  refine hK8 _ _ ?_
  try clear hK8 K8
  refine wp_seq_k fun K9 hK9 => ?_
  refine region_lit ?_
  refine seq_val (.pointer (some ⟨g5, 64, none⟩)) 15 rfl kj kj ?_
  refine seq_val (.agg (ints .u8 (ep))) 16 rfl kj (run_load_part 26 _ g5 64 56 _ _ _ r5_8 rfl kj (cat_part [ints .u8 (j), ints .u8 (jw)] [ints .u8 (ep)] [ints .u8 (List.replicate 32 0), ints .u8 (List.replicate 32 0), ints .u8 (List.replicate 32 0), ints .u8 (List.replicate 32 0)] 64 (by rw [cat_cons, cat_cons]; simp only [Array.size_append, cat, ((ints_size _ _).trans hjl), ((ints_size _ _).trans ljw)]; rfl)) kj (isz (n := 32) kj ((ints_size _ _).trans lep))) ?_
  refine seq_call (.agg (ints .u8 (f3))) 50 #[.agg (ints .u8 (ep)), .string sConfirm] 17 rfl kj kj ((by rw [ef3]; exact rderiveC ep sConfirm _ lep bep)) fun W9 e9 => ?_
  have x9 : Ext w W9 := Ext.tr x8 e9
  refine seq_val (.pointer (some ⟨g5, 96, none⟩)) 18 rfl kj kj ?_
  have r5_9 := (row_ext r5_8 e9)
  refine seq_store g5 _ (cat [ints .u8 (j), ints .u8 (jw), ints .u8 (ep), ints .u8 (f3), ints .u8 (List.replicate 32 0), ints .u8 (List.replicate 32 0), ints .u8 (List.replicate 32 0)]) 56 r5_9 rfl kj (run_store_cat 26 _ _ g5 96 56 [ints .u8 (j), ints .u8 (jw), ints .u8 (ep)] [ints .u8 (List.replicate 32 0)] [ints .u8 (f3)] [ints .u8 (List.replicate 32 0), ints .u8 (List.replicate 32 0), ints .u8 (List.replicate 32 0)] r5_9 rfl kj kj (isz (n := 32) kj ((ints_size _ _).trans lf3)) (by rw [cat_cons, cat_cons, cat_cons]; simp only [Array.size_append, cat, ((ints_size _ _).trans hjl), ((ints_size _ _).trans lep), ((ints_size _ _).trans ljw)]; rfl) (eqsz (n := 32) ((ints_size _ _).trans lf3) ((ints_size _ _).trans (List.length_replicate (n := 32)))) (ints_one _ _)) fun W10 p10 r5_10 => ?_
  have x10 : Ext w W10 := Puts.ext p10 x9 b5
  refine seq_nil ?_
  refine hK9 _ _ ?_
  try clear hK9 K9
  refine wp_seq_k fun K10 hK10 => ?_
  refine region_lit ?_
  refine seq_val (.pointer (some ⟨g5, 64, none⟩)) 19 rfl kj kj ?_
  refine seq_val (.agg (ints .u8 (ep))) 20 rfl kj (run_load_part 26 _ g5 64 56 _ _ _ r5_10 rfl kj (cat_part [ints .u8 (j), ints .u8 (jw)] [ints .u8 (ep)] [ints .u8 (f3), ints .u8 (List.replicate 32 0), ints .u8 (List.replicate 32 0), ints .u8 (List.replicate 32 0)] 64 (by rw [cat_cons, cat_cons]; simp only [Array.size_append, cat, ((ints_size _ _).trans hjl), ((ints_size _ _).trans ljw)]; rfl)) kj (isz (n := 32) kj ((ints_size _ _).trans lep))) ?_
  refine seq_call (.agg (ints .u8 (f4))) 50 #[.agg (ints .u8 (ep)), .string sPackets] 21 rfl kj kj ((by rw [ef4]; exact rderiveC ep sPackets _ lep bep)) fun W11 e11 => ?_
  have x11 : Ext w W11 := Ext.tr x10 e11
  refine seq_val (.pointer (some ⟨g5, 128, none⟩)) 22 rfl kj kj ?_
  have r5_11 := (row_ext r5_10 e11)
  refine seq_store g5 _ (cat [ints .u8 (j), ints .u8 (jw), ints .u8 (ep), ints .u8 (f3), ints .u8 (f4), ints .u8 (List.replicate 32 0), ints .u8 (List.replicate 32 0)]) 56 r5_11 rfl kj (run_store_cat 26 _ _ g5 128 56 [ints .u8 (j), ints .u8 (jw), ints .u8 (ep), ints .u8 (f3)] [ints .u8 (List.replicate 32 0)] [ints .u8 (f4)] [ints .u8 (List.replicate 32 0), ints .u8 (List.replicate 32 0)] r5_11 rfl kj kj (isz (n := 32) kj ((ints_size _ _).trans lf4)) (by rw [cat_cons, cat_cons, cat_cons, cat_cons]; simp only [Array.size_append, cat, ((ints_size _ _).trans hjl), ((ints_size _ _).trans lep), ((ints_size _ _).trans lf3), ((ints_size _ _).trans ljw)]; rfl) (eqsz (n := 32) ((ints_size _ _).trans lf4) ((ints_size _ _).trans (List.length_replicate (n := 32)))) (ints_one _ _)) fun W12 p12 r5_12 => ?_
  have x12 : Ext w W12 := Puts.ext p12 x11 b5
  refine seq_nil ?_
  refine hK10 _ _ ?_
  try clear hK10 K10
  refine wp_seq_k fun K11 hK11 => ?_
  refine region_lit ?_
  refine seq_val (.pointer (some ⟨g5, 64, none⟩)) 23 rfl kj kj ?_
  refine seq_val (.agg (ints .u8 (ep))) 24 rfl kj (run_load_part 26 _ g5 64 56 _ _ _ r5_12 rfl kj (cat_part [ints .u8 (j), ints .u8 (jw)] [ints .u8 (ep)] [ints .u8 (f3), ints .u8 (f4), ints .u8 (List.replicate 32 0), ints .u8 (List.replicate 32 0)] 64 (by rw [cat_cons, cat_cons]; simp only [Array.size_append, cat, ((ints_size _ _).trans hjl), ((ints_size _ _).trans ljw)]; rfl)) kj (isz (n := 32) kj ((ints_size _ _).trans lep))) ?_
  refine seq_call (.agg (ints .u8 (f5))) 50 #[.agg (ints .u8 (ep)), .string sExport] 25 rfl kj kj ((by rw [ef5]; exact rderiveC ep sExport _ lep bep)) fun W13 e13 => ?_
  have x13 : Ext w W13 := Ext.tr x12 e13
  refine seq_val (.pointer (some ⟨g5, 160, none⟩)) 26 rfl kj kj ?_
  have r5_13 := (row_ext r5_12 e13)
  refine seq_store g5 _ (cat [ints .u8 (j), ints .u8 (jw), ints .u8 (ep), ints .u8 (f3), ints .u8 (f4), ints .u8 (f5), ints .u8 (List.replicate 32 0)]) 56 r5_13 rfl kj (run_store_cat 26 _ _ g5 160 56 [ints .u8 (j), ints .u8 (jw), ints .u8 (ep), ints .u8 (f3), ints .u8 (f4)] [ints .u8 (List.replicate 32 0)] [ints .u8 (f5)] [ints .u8 (List.replicate 32 0)] r5_13 rfl kj kj (isz (n := 32) kj ((ints_size _ _).trans lf5)) (by rw [cat_cons, cat_cons, cat_cons, cat_cons, cat_cons]; simp only [Array.size_append, cat, ((ints_size _ _).trans hjl), ((ints_size _ _).trans lep), ((ints_size _ _).trans lf3), ((ints_size _ _).trans lf4), ((ints_size _ _).trans ljw)]; rfl) (eqsz (n := 32) ((ints_size _ _).trans lf5) ((ints_size _ _).trans (List.length_replicate (n := 32)))) (ints_one _ _)) fun W14 p14 r5_14 => ?_
  have x14 : Ext w W14 := Puts.ext p14 x13 b5
  refine seq_nil ?_
  refine hK11 _ _ ?_
  try clear hK11 K11
  refine wp_seq_k fun K12 hK12 => ?_
  refine region_lit ?_
  refine seq_val (.pointer (some ⟨g5, 64, none⟩)) 27 rfl kj kj ?_
  refine seq_val (.agg (ints .u8 (ep))) 28 rfl kj (run_load_part 26 _ g5 64 56 _ _ _ r5_14 rfl kj (cat_part [ints .u8 (j), ints .u8 (jw)] [ints .u8 (ep)] [ints .u8 (f3), ints .u8 (f4), ints .u8 (f5), ints .u8 (List.replicate 32 0)] 64 (by rw [cat_cons, cat_cons]; simp only [Array.size_append, cat, ((ints_size _ _).trans hjl), ((ints_size _ _).trans ljw)]; rfl)) kj (isz (n := 32) kj ((ints_size _ _).trans lep))) ?_
  refine seq_call (.agg (ints .u8 (f6))) 50 #[.agg (ints .u8 (ep)), .string sInit] 29 rfl kj kj ((by rw [ef6]; exact rderiveC ep sInit _ lep bep)) fun W15 e15 => ?_
  have x15 : Ext w W15 := Ext.tr x14 e15
  refine seq_val (.pointer (some ⟨g5, 192, none⟩)) 30 rfl kj kj ?_
  have r5_15 := (row_ext r5_14 e15)
  refine seq_store g5 _ (cat [ints .u8 (j), ints .u8 (jw), ints .u8 (ep), ints .u8 (f3), ints .u8 (f4), ints .u8 (f5), ints .u8 (f6)]) 56 r5_15 rfl kj (run_store_cat 26 _ _ g5 192 56 [ints .u8 (j), ints .u8 (jw), ints .u8 (ep), ints .u8 (f3), ints .u8 (f4), ints .u8 (f5)] [ints .u8 (List.replicate 32 0)] [ints .u8 (f6)] [] r5_15 rfl kj kj (isz (n := 32) kj ((ints_size _ _).trans lf6)) (by rw [cat_cons, cat_cons, cat_cons, cat_cons, cat_cons, cat_cons]; simp only [Array.size_append, cat, ((ints_size _ _).trans hjl), ((ints_size _ _).trans lep), ((ints_size _ _).trans lf3), ((ints_size _ _).trans lf4), ((ints_size _ _).trans lf5), ((ints_size _ _).trans ljw)]; rfl) (eqsz (n := 32) ((ints_size _ _).trans lf6) ((ints_size _ _).trans (List.length_replicate (n := 32)))) (ints_one _ _)) fun W16 p16 r5_16 => ?_
  have x16 : Ext w W16 := Puts.ext p16 x15 b5
  refine seq_nil ?_
  refine hK12 _ _ ?_
  try clear hK12 K12
  refine wp_seq_k fun K13 hK13 => ?_
  refine region_lit ?_
  refine seq_val (.agg (cat [ints .u8 (j), ints .u8 (jw), ints .u8 (ep), ints .u8 (f3), ints .u8 (f4), ints .u8 (f5), ints .u8 (f6)])) 31 rfl kj (run_load_row 56 _ g5 56 _ _ r5_16 rfl kj kj (isz (n := 224) kj (by rw [cat_cons, cat_cons, cat_cons, cat_cons, cat_cons, cat_cons, cat_cons]; simp only [Array.size_append, cat, ((ints_size _ _).trans hjl), ((ints_size _ _).trans lep), ((ints_size _ _).trans lf3), ((ints_size _ _).trans lf4), ((ints_size _ _).trans lf5), ((ints_size _ _).trans lf6), ((ints_size _ _).trans ljw)]; rfl))) ?_
  have r3_3 := (row_ext r3_2 e3)
  have r3_4 := (Puts.row p4 r3_3 (ne_of_old r3_2 l5))
  have r3_5 := (row_ext r3_4 e5)
  have r3_6 := (Puts.row p6 r3_5 (ne_of_old r3_2 l5))
  have r3_7 := (row_ext r3_6 e7)
  have r3_8 := (Puts.row p8 r3_7 (ne_of_old r3_2 l5))
  have r3_9 := (row_ext r3_8 e9)
  have r3_10 := (Puts.row p10 r3_9 (ne_of_old r3_2 l5))
  have r3_11 := (row_ext r3_10 e11)
  have r3_12 := (Puts.row p12 r3_11 (ne_of_old r3_2 l5))
  have r3_13 := (row_ext r3_12 e13)
  have r3_14 := (Puts.row p14 r3_13 (ne_of_old r3_2 l5))
  have r3_15 := (row_ext r3_14 e15)
  have r3_16 := (Puts.row p16 r3_15 (ne_of_old r3_2 l5))
  refine seq_store g3 _ (cat [ints .u8 (j), ints .u8 (jw), ints .u8 (ep), ints .u8 (f3), ints .u8 (f4), ints .u8 (f5), ints .u8 (f6)]) 56 r3_16 rfl kj (run_store_row 56 _ _ g3 56 _ _ r3_16 rfl kj kj (isz (n := 224) kj (by rw [cat_cons, cat_cons, cat_cons, cat_cons, cat_cons, cat_cons, cat_cons]; simp only [Array.size_append, cat, ((ints_size _ _).trans hjl), ((ints_size _ _).trans lep), ((ints_size _ _).trans lf3), ((ints_size _ _).trans lf4), ((ints_size _ _).trans lf5), ((ints_size _ _).trans lf6), ((ints_size _ _).trans ljw)]; rfl)) (eqsz (n := 224) (by rw [cat_cons, cat_cons, cat_cons, cat_cons, cat_cons, cat_cons, cat_cons]; simp only [Array.size_append, cat, ((ints_size _ _).trans (List.length_replicate (n := 32)))]; rfl) (by rw [cat_cons, cat_cons, cat_cons, cat_cons, cat_cons, cat_cons, cat_cons]; simp only [Array.size_append, cat, ((ints_size _ _).trans hjl), ((ints_size _ _).trans lep), ((ints_size _ _).trans lf3), ((ints_size _ _).trans lf4), ((ints_size _ _).trans lf5), ((ints_size _ _).trans lf6), ((ints_size _ _).trans ljw)]; rfl)) (cat_one _ (by intro a ha; simp only [List.mem_cons, List.not_mem_nil, or_false] at ha; rcases ha with rfl | rfl | rfl | rfl | rfl | rfl | rfl; exact (ints_one _ _); exact (ints_one _ _); exact (ints_one _ _); exact (ints_one _ _); exact (ints_one _ _); exact (ints_one _ _); exact (ints_one _ _)))) fun W17 p17 r3_17 => ?_
  have x17 : Ext w W17 := Puts.ext p17 x16 b3
  refine seq_nil ?_
  refine hK13 _ _ ?_
  try clear hK13 K13
  refine wp_ret ?_
  repeat (first | with_reducible refine goR1 ?_ | with_reducible refine goR2 ?_)
  exact (show bodyPost _ _ _ .ret _ _ from ret1 (.agg (cat [ints .u8 (j), ints .u8 (jw), ints .u8 (ep), ints .u8 (f3), ints .u8 (f4), ints .u8 (f5), ints .u8 (f6)])) rfl (res_cell g3 56 _ r3_17 kj kj (isz (n := 224) kj (by rw [cat_cons, cat_cons, cat_cons, cat_cons, cat_cons, cat_cons, cat_cons]; simp only [Array.size_append, cat, ((ints_size _ _).trans hjl), ((ints_size _ _).trans lep), ((ints_size _ _).trans lf3), ((ints_size _ _).trans lf4), ((ints_size _ _).trans lf5), ((ints_size _ _).trans lf6), ((ints_size _ _).trans ljw)]; rfl))) ⟨rfl, x17⟩)
def secsOf (j jw ep f3 f4 f5 f6 : List Int) : Array Value := cat [ints .u8 j, ints .u8 jw, ints .u8 ep, ints .u8 f3, ints .u8 f4, ints .u8 f5, ints .u8 f6]
def epV (j ctx : List Int) : List Int := labV j (strB sEpoch) ctx
def secsV (j ctx : List Int) : Array Value := secsOf j (deriveV j (strB sWelcome)) (epV j ctx) (deriveV (epV j ctx) (strB sConfirm)) (deriveV (epV j ctx) (strB sPackets)) (deriveV (epV j ctx) (strB sExport)) (deriveV (epV j ctx) (strB sInit))
theorem joinedC (j ctx : List Int) (v2 : Value) (B2 : Nat) (tc tq : TypeId) (w : World) (hc : w.heap[1]? = some (.cells (ints .u64 cubesI) tc)) (hq : w.heap[0]? = some (.cells (ints .u64 squaresI) tq)) (hjl : j.length = 32) (hjb : AreBytes j) (hxb : AreBytes ctx) (hx : RdK .u8 B2 ctx v2 w) : Calls Tryd.prog 32 #[.agg (ints .u8 j), v2] w (Ret w (.agg (secsV j ctx))) :=
  joinedN j ctx v2 B2 tc tq w hc hq hjl hjb hxb hx _ _ _ _ _ _ rfl rfl rfl rfl rfl rfl
theorem rjoinedC (j ctx : List Int) (v2 : Value) (B2 : Nat) (w : World)   (hjl : j.length = 32) (hjb : AreBytes j) (hxb : AreBytes ctx) (hx : RdK .u8 B2 ctx v2 w) : Calls Tryd.prog 33 #[.agg (ints .u8 j), v2] w (Ret w (.agg (secsV j ctx))) :=
  rjoinedN j ctx v2 B2 w hjl hjb hxb hx _ _ _ _ _ _ rfl rfl rfl rfl rfl rfl

end Go.Proofs.YtamlhbbphnamnaaDoor.Sha
