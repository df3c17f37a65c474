/- The key schedule: the law SchedJoins. -/
import Derived.Test.YtamlhbbphnamnaaDoorSchG
import Derived.Test.YtamlhbbphnamnaaDoorSchH
namespace Go.Proofs.YtamlhbbphnamnaaDoor.Sha
open Go Go.RowKit
open Go.Proofs.YtamlhbbphnamnaaDoor.Rely Go.Proofs.YtamlhbbphnamnaaDoor.Auto Go.Proofs.YtamlhbbphnamnaaDoor.Own
set_option linter.unusedVariables false
set_option linter.unusedSimpArgs false

set_option maxRecDepth 100000 in
set_option maxHeartbeats 4000000 in
theorem lawJoin (ini com : List Int) (hil : ini.length = 32) (hib : AreBytes ini) (hol : com.length = 32) (hob : AreBytes com)  (g t c : List Int) (e : Int) (tc tq : TypeId) (w : World) (hc : w.heap[1]? = some (.cells (ints .u64 cubesI) tc)) (hq : w.heap[0]? = some (.cells (ints .u64 squaresI) tq)) (hgl : g.length = 32) (htl : t.length = 32) (hcl : c.length = 32) (hgb : AreBytes g) (htb : AreBytes t) (hcb : AreBytes c) : Calls Tryd.prog 10 #[.agg (ints .u8 ini), .agg (ints .u8 com), .agg (cat [ints .u8 g, #[.int .i64 e], ints .u8 t, ints .u8 c])] w (Ret w (.bool true)) := by
  obtain ⟨ctx, ectx⟩ : ∃ z : List Int, z = ctxL g e t c := ⟨_, rfl⟩
  have hcx : ∀ W : World, Calls Tryd.prog 28 #[.agg (ints .u8 g), .int .i64 e, .agg (ints .u8 t), .agg (ints .u8 c)] W (Gives W (OwnN .u8 5 W.heap.size ctx)) := fun W => by rw [ectx]; exact contextC g t c e W hgl htl hcl
  have hxb : AreBytes ctx := by rw [ectx]; exact ctxL_bytes _ _ _ _ hgb htb hcb
  obtain ⟨hm, ehm⟩ : ∃ z : List Int, z = hmac ini com := ⟨_, rfl⟩
  obtain ⟨j, ej⟩ : ∃ z : List Int, z = labV hm (strB sJoiner) ctx := ⟨_, rfl⟩
  obtain ⟨jw, ejw⟩ : ∃ z : List Int, z = deriveV j (strB sWelcome) := ⟨_, rfl⟩
  obtain ⟨ep, eep⟩ : ∃ z : List Int, z = labV j (strB sEpoch) ctx := ⟨_, rfl⟩
  obtain ⟨f3, ef3⟩ : ∃ z : List Int, z = deriveV ep (strB sConfirm) := ⟨_, rfl⟩
  obtain ⟨f4, ef4⟩ : ∃ z : List Int, z = deriveV ep (strB sPackets) := ⟨_, rfl⟩
  obtain ⟨f5, ef5⟩ : ∃ z : List Int, z = deriveV ep (strB sExport) := ⟨_, rfl⟩
  obtain ⟨f6, ef6⟩ : ∃ z : List Int, z = deriveV ep (strB sInit) := ⟨_, rfl⟩
  have lhm : hm.length = 32 := by rw [ehm]; exact hmac_len _ _
  have bhm : AreBytes hm := by rw [ehm]; exact hmac_bytes _ _
  have hjl : j.length = 32 := by rw [ej]; exact labV_len _ _ _
  have hjb : AreBytes j := by rw [ej]; exact labV_bytes _ _ _
  have ljw : jw.length = 32 := by rw [ejw]; exact deriveV_len _ _
  have lep : ep.length = 32 := by rw [eep]; exact labV_len _ _ _
  have lf3 : f3.length = 32 := by rw [ef3]; exact deriveV_len _ _
  have lf4 : f4.length = 32 := by rw [ef4]; exact deriveV_len _ _
  have lf5 : f5.length = 32 := by rw [ef5]; exact deriveV_len _ _
  have lf6 : f6.length = 32 := by rw [ef6]; exact deriveV_len _ _
  have bep : AreBytes ep := by rw [eep]; exact labV_bytes _ _ _
  have h3b : AreBytes f3 := by rw [ef3]; exact deriveV_bytes _ _
  refine enter 43 [(0, .agg (ints .u8 (ini))), (1, .agg (ints .u8 (com))), (2, .agg (cat [ints .u8 (g), #[.int .i64 e], ints .u8 (t), ints .u8 (c)]))] Tryd.func10 rfl rfl kj rfl ?_
  refine wp_seq_k fun K3 hK3 => ?_
  refine region_lit ?_
  refine seq_alloc (ints .u8 (ini)) 26 3 rfl kj kj fun g4 W1 l4 e1 r4_1 => ?_
  have x1 : Ext w W1 := Ext.tr (Rely.Ext.refl w) e1
  have b4 : w.heap.size ≤ g4 := Nat.le_trans (Rely.Ext.refl w).size l4
  refine seq_alloc (ints .u8 (com)) 26 4 rfl kj kj fun g5 W2 l5 e2 r5_2 => ?_
  have x2 : Ext w W2 := Ext.tr x1 e2
  have b5 : w.heap.size ≤ g5 := Nat.le_trans x1.size l5
  refine seq_alloc (cat [ints .u8 (g), #[.int .i64 e], ints .u8 (t), ints .u8 (c)]) 52 5 rfl kj kj fun g6 W3 l6 e3 r6_3 => ?_
  have x3 : Ext w W3 := Ext.tr x2 e3
  have b6 : w.heap.size ≤ g6 := Nat.le_trans x2.size l6
  refine seq_val (.bool false) 6 rfl kj kj ?_
  refine seq_nil ?_
  refine hK3 _ _ ?_
  try clear hK3 K3
  refine wp_seq_k fun K7 hK7 => ?_
  refine wp_seq_k fun K8 hK8 => ?_
  refine region_lit ?_
  have r1_1 := (row_ext hc e1)
  have r1_2 := (row_ext r1_1 e2)
  have r1_3 := (row_ext r1_2 e3)
  have r2_1 := (row_ext hq e1)
  have r2_2 := (row_ext r2_1 e2)
  have r2_3 := (row_ext r2_2 e3)
  refine seq_call (.bool true) 27 #[] 10 rfl kj kj (alive18 tc tq _ r1_3 r2_3) fun W4 e4 => ?_
  have x4 : Ext w W4 := Ext.tr x3 e4
  refine seq_val (.bool false) 11 rfl kj kj ?_
  refine seq_nil ?_
  refine hK8 _ _ ?_
  try clear hK8 K8
  refine cond_false kj ?_
  refine wp_skip ?_
  refine hK7 _ _ ?_
  try clear hK7 K7
  refine wp_seq_k fun K9 hK9 => ?_
  refine region_lit ?_
  refine seq_val (.pointer (some ⟨g6, 0, none⟩)) 12 rfl kj kj ?_
  have r6_4 := (row_ext r6_3 e4)
  refine seq_val (.agg (ints .u8 (g))) 13 rfl kj (run_load_part 26 _ g6 0 52 _ _ _ r6_4 rfl kj (cat_part [] [ints .u8 (g)] [#[.int .i64 e], ints .u8 (t), ints .u8 (c)] 0 kj) kj (isz (n := 32) kj ((ints_size _ _).trans hgl))) ?_
  refine seq_val (.pointer (some ⟨g6, 32, none⟩)) 14 rfl kj kj ?_
  refine seq_val (.int .i64 e) 15 rfl kj (run_loadC1 3 _ g6 32 52 _ (.int .i64 e) _ r6_4 rfl kj (cat_part [ints .u8 (g)] [#[.int .i64 e]] [ints .u8 (t), ints .u8 (c)] 32 ((ints_size _ _).trans hgl) 0 _ rfl) kj) ?_
  refine seq_val (.pointer (some ⟨g6, 33, none⟩)) 16 rfl kj kj ?_
  refine seq_val (.agg (ints .u8 (t))) 17 rfl kj (run_load_part 26 _ g6 33 52 _ _ _ r6_4 rfl kj (cat_part [ints .u8 (g), #[.int .i64 e]] [ints .u8 (t)] [ints .u8 (c)] 33 (by rw [cat_cons, cat_cons]; simp only [Array.size_append, cat, ((ints_size _ _).trans hgl)]; rfl)) kj (isz (n := 32) kj ((ints_size _ _).trans htl))) ?_
  refine seq_val (.pointer (some ⟨g6, 65, none⟩)) 18 rfl kj kj ?_
  refine seq_val (.agg (ints .u8 (c))) 19 rfl kj (run_load_part 26 _ g6 65 52 _ _ _ r6_4 rfl kj (cat_part [ints .u8 (g), #[.int .i64 e], ints .u8 (t)] [ints .u8 (c)] [] 65 (by rw [cat_cons, cat_cons, cat_cons]; simp only [Array.size_append, cat, ((ints_size _ _).trans hgl), ((ints_size _ _).trans htl)]; rfl)) kj (isz (n := 32) kj ((ints_size _ _).trans hcl))) ?_
  refine seq_callR (fun v W' => (OwnN .u8 5 W4.heap.size ctx) v W' ∧ Ext W4 W') 28 #[.agg (ints .u8 (g)), .int .i64 e, .agg (ints .u8 (t)), .agg (ints .u8 (c))] 20 rfl kj kj ((hcx _).mono (by rintro e w' ⟨v, rfl, e1, hv⟩; exact ⟨v, rfl, hv, e1⟩)) fun vv10 W5 hh10 => ?_
  obtain ⟨hv10, e5⟩ := hh10
  have x5 : Ext w W5 := Ext.tr x4 e5
  obtain ⟨au11, cu11, rfl, -⟩ := id (OwnN.rd hv10)
  refine seq_val (.slice au11 ctx.length cu11) 7 rfl kj kj ?_
  refine seq_nil ?_
  refine hK9 _ _ ?_
  try clear hK9 K9
  refine wp_seq_k fun K12 hK12 => ?_
  refine region_lit ?_
  have r4_2 := (row_ext r4_1 e2)
  have r4_3 := (row_ext r4_2 e3)
  have r4_4 := (row_ext r4_3 e4)
  have r4_5 := (row_ext r4_4 e5)
  refine seq_val (.agg (ints .u8 (ini))) 21 rfl kj (run_load_row 26 _ g4 26 _ _ r4_5 rfl kj kj (isz (n := 32) kj ((ints_size _ _).trans hil))) ?_
  have r5_3 := (row_ext r5_2 e3)
  have r5_4 := (row_ext r5_3 e4)
  have r5_5 := (row_ext r5_4 e5)
  refine seq_val (.agg (ints .u8 (com))) 22 rfl kj (run_load_row 26 _ g5 26 _ _ r5_5 rfl kj kj (isz (n := 32) kj ((ints_size _ _).trans hol))) ?_
  refine seq_val (.slice au11 ctx.length cu11) 23 rfl kj kj ?_
  have r1_4 := (row_ext r1_3 e4)
  have r1_5 := (row_ext r1_4 e5)
  have r2_4 := (row_ext r2_3 e4)
  have r2_5 := (row_ext r2_4 e5)
  refine seq_call (.agg (cat [ints .u8 (j), ints .u8 (jw), ints .u8 (ep), ints .u8 (f3), ints .u8 (f4), ints .u8 (f5), ints .u8 (f6)])) 30 #[.agg (ints .u8 (ini)), .agg (ints .u8 (com)), .slice au11 ctx.length cu11] 24 rfl kj kj ((nextN ini com ctx _ _ tc tq _ r1_5 r2_5 hil hib hol hob hxb (OwnN.rd hv10) hm j jw ep f3 f4 f5 f6 ehm ej ejw eep ef3 ef4 ef5 ef6)) fun W6 e6 => ?_
  have x6 : Ext w W6 := Ext.tr x5 e6
  refine seq_alloc (cat [ints .u8 (List.replicate 32 0), ints .u8 (List.replicate 32 0), ints .u8 (List.replicate 32 0), ints .u8 (List.replicate 32 0), ints .u8 (List.replicate 32 0), ints .u8 (List.replicate 32 0), ints .u8 (List.replicate 32 0)]) 56 8 rfl kj kj fun g13 W7 l13 e7 r13_7 => ?_
  have x7 : Ext w W7 := Ext.tr x6 e7
  have b13 : w.heap.size ≤ g13 := Nat.le_trans x6.size l13
  refine seq_store g13 _ (cat [ints .u8 (j), ints .u8 (jw), ints .u8 (ep), ints .u8 (f3), ints .u8 (f4), ints .u8 (f5), ints .u8 (f6)]) 56 r13_7 rfl kj (run_store_row 56 _ _ g13 56 _ _ r13_7 rfl kj kj (isz (n := 224) kj (by rw [cat_cons, cat_cons, cat_cons, cat_cons, cat_cons, cat_cons, cat_cons]; simp only [Array.size_append, cat, ((ints_size _ _).trans hjl), ((ints_size _ _).trans lep), ((ints_size _ _).trans lf3), ((ints_size _ _).trans lf4), ((ints_size _ _).trans lf5), ((ints_size _ _).trans lf6), ((ints_size _ _).trans ljw)]; rfl)) (eqsz (n := 224) (by rw [cat_cons, cat_cons, cat_cons, cat_cons, cat_cons, cat_cons, cat_cons]; simp only [Array.size_append, cat, ((ints_size _ _).trans (List.length_replicate (n := 32)))]; rfl) (by rw [cat_cons, cat_cons, cat_cons, cat_cons, cat_cons, cat_cons, cat_cons]; simp only [Array.size_append, cat, ((ints_size _ _).trans hjl), ((ints_size _ _).trans lep), ((ints_size _ _).trans lf3), ((ints_size _ _).trans lf4), ((ints_size _ _).trans lf5), ((ints_size _ _).trans lf6), ((ints_size _ _).trans ljw)]; rfl)) (cat_one _ (by intro a ha; simp only [List.mem_cons, List.not_mem_nil, or_false] at ha; rcases ha with rfl | rfl | rfl | rfl | rfl | rfl | rfl; exact (ints_one _ _); exact (ints_one _ _); exact (ints_one _ _); exact (ints_one _ _); exact (ints_one _ _); exact (ints_one _ _); exact (ints_one _ _)))) fun W8 p8 r13_8 => ?_
  have x8 : Ext w W8 := Puts.ext p8 x7 b13
  refine seq_nil ?_
  refine hK12 _ _ ?_
  try clear hK12 K12
  refine wp_seq_k fun K14 hK14 => ?_
  refine region_lit ?_
  refine seq_val (.pointer (some ⟨g13, 0, none⟩)) 25 rfl kj kj ?_
  refine seq_val (.agg (ints .u8 (j))) 26 rfl kj (run_load_part 26 _ g13 0 56 _ _ _ r13_8 rfl kj (cat_part [] [ints .u8 (j)] [ints .u8 (jw), ints .u8 (ep), ints .u8 (f3), ints .u8 (f4), ints .u8 (f5), ints .u8 (f6)] 0 kj) kj (isz (n := 32) kj ((ints_size _ _).trans hjl))) ?_
  refine seq_val (.slice au11 ctx.length cu11) 27 rfl kj kj ?_
  have y5_6 : Ext W5 W6 := (Rely.Ext.trans (Rely.Ext.refl W5) e6)
  have y5_7 : Ext W5 W7 := (Rely.Ext.trans y5_6 e7)
  have y5_8 : Ext W5 W8 := (Puts.ext p8 y5_7 (Nat.le_trans y5_6.size l13))
  have r1_6 := (row_ext r1_5 e6)
  have r1_7 := (row_ext r1_6 e7)
  have r1_8 := (Puts.row p8 r1_7 (ne_of_old r1_6 l13))
  have r2_6 := (row_ext r2_5 e6)
  have r2_7 := (row_ext r2_6 e7)
  have r2_8 := (Puts.row p8 r2_7 (ne_of_old r2_6 l13))
  refine seq_call (.agg (cat [ints .u8 (j), ints .u8 (jw), ints .u8 (ep), ints .u8 (f3), ints .u8 (f4), ints .u8 (f5), ints .u8 (f6)])) 32 #[.agg (ints .u8 (j)), .slice au11 ctx.length cu11] 28 rfl kj kj ((joinedN j ctx _ _ tc tq _ r1_8 r2_8 hjl hjb hxb (OwnN.rd (OwnN.ext hv10 y5_8)) jw ep f3 f4 f5 f6 ejw eep ef3 ef4 ef5 ef6)) fun W9 e9 => ?_
  have x9 : Ext w W9 := Ext.tr x8 e9
  refine seq_alloc (cat [ints .u8 (List.replicate 32 0), ints .u8 (List.replicate 32 0), ints .u8 (List.replicate 32 0), ints .u8 (List.replicate 32 0), ints .u8 (List.replicate 32 0), ints .u8 (List.replicate 32 0), ints .u8 (List.replicate 32 0)]) 56 9 rfl kj kj fun g15 W10 l15 e10 r15_10 => ?_
  have x10 : Ext w W10 := Ext.tr x9 e10
  have b15 : w.heap.size ≤ g15 := Nat.le_trans x9.size l15
  refine seq_store g15 _ (cat [ints .u8 (j), ints .u8 (jw), ints .u8 (ep), ints .u8 (f3), ints .u8 (f4), ints .u8 (f5), ints .u8 (f6)]) 56 r15_10 rfl kj (run_store_row 56 _ _ g15 56 _ _ r15_10 rfl kj kj (isz (n := 224) kj (by rw [cat_cons, cat_cons, cat_cons, cat_cons, cat_cons, cat_cons, cat_cons]; simp only [Array.size_append, cat, ((ints_size _ _).trans hjl), ((ints_size _ _).trans lep), ((ints_size _ _).trans lf3), ((ints_size _ _).trans lf4), ((ints_size _ _).trans lf5), ((ints_size _ _).trans lf6), ((ints_size _ _).trans ljw)]; rfl)) (eqsz (n := 224) (by rw [cat_cons, cat_cons, cat_cons, cat_cons, cat_cons, cat_cons, cat_cons]; simp only [Array.size_append, cat, ((ints_size _ _).trans (List.length_replicate (n := 32)))]; rfl) (by rw [cat_cons, cat_cons, cat_cons, cat_cons, cat_cons, cat_cons, cat_cons]; simp only [Array.size_append, cat, ((ints_size _ _).trans hjl), ((ints_size _ _).trans lep), ((ints_size _ _).trans lf3), ((ints_size _ _).trans lf4), ((ints_size _ _).trans lf5), ((ints_size _ _).trans lf6), ((ints_size _ _).trans ljw)]; rfl)) (cat_one _ (by intro a ha; simp only [List.mem_cons, List.not_mem_nil, or_false] at ha; rcases ha with rfl | rfl | rfl | rfl | rfl | rfl | rfl; exact (ints_one _ _); exact (ints_one _ _); exact (ints_one _ _); exact (ints_one _ _); exact (ints_one _ _); exact (ints_one _ _); exact (ints_one _ _)))) fun W11 p11 r15_11 => ?_
  have x11 : Ext w W11 := Puts.ext p11 x10 b15
  refine seq_nil ?_
  refine hK14 _ _ ?_
  try clear hK14 K14
  refine wp_seq_k fun K16 hK16 => ?_
  refine any_regionE 11 [⟨none, [(8, none)]⟩, ⟨none, [(9, none)]⟩, ⟨none, [(29, some 0), (30, some 1)]⟩, ⟨none, [(31, some 2)]⟩, ⟨some (32, true), [(8, none), (32, some 3)]⟩, ⟨some (32, true), [(5, none), (32, some 3)]⟩, ⟨some (32, true), [(34, some 5), (32, some 3)]⟩, ⟨some (32, true), [(33, some 4), (35, some 6), (32, some 3)]⟩, ⟨some (32, true), [(9, none), (32, some 3)]⟩, ⟨some (32, true), [(5, none), (32, some 3)]⟩, ⟨some (32, true), [(38, some 9), (32, some 3)]⟩] kj kj fun F hF => ?_
  have r13_9 := (row_ext r13_8 e9)
  have r13_10 := (row_ext r13_9 e10)
  have r13_11 := (Puts.row p11 r13_10 (ne_of_old r13_9 l15))
  refine e_read (rl_ext _) (.agg (cat [ints .u8 (j), ints .u8 (jw), ints .u8 (ep), ints .u8 (f3), ints .u8 (f4), ints .u8 (f5), ints .u8 (f6)])) kj kj (fun W hR => (run_load_row 56 _ g13 56 _ _ (row_ext (row_ext r13_11 (ext_drew _)) hR) rfl kj kj (isz (n := 224) kj (by rw [cat_cons, cat_cons, cat_cons, cat_cons, cat_cons, cat_cons, cat_cons]; simp only [Array.size_append, cat, ((ints_size _ _).trans hjl), ((ints_size _ _).trans lep), ((ints_size _ _).trans lf3), ((ints_size _ _).trans lf4), ((ints_size _ _).trans lf5), ((ints_size _ _).trans lf6), ((ints_size _ _).trans ljw)]; rfl)))) ?_
  refine e_read (rl_ext _) (.agg (cat [ints .u8 (j), ints .u8 (jw), ints .u8 (ep), ints .u8 (f3), ints .u8 (f4), ints .u8 (f5), ints .u8 (f6)])) kj kj (fun W hR => (run_load_row 56 _ g15 56 _ _ (row_ext (row_ext r15_11 (ext_drew _)) hR) rfl kj kj (isz (n := 224) kj (by rw [cat_cons, cat_cons, cat_cons, cat_cons, cat_cons, cat_cons, cat_cons]; simp only [Array.size_append, cat, ((ints_size _ _).trans hjl), ((ints_size _ _).trans lep), ((ints_size _ _).trans lf3), ((ints_size _ _).trans lf4), ((ints_size _ _).trans lf5), ((ints_size _ _).trans lf6), ((ints_size _ _).trans ljw)]; rfl)))) ?_
  refine e_val (rl_ext _) (.bool true) kj kj (fun W => (run_eql_agg 56 _ _ _ _ _ (.bool true) rfl kj kj kj (eql_st _ (a := 26) (e := 5) (m := 224) (n := 32) ([j, jw, ep, f3, f4, f5, f6] : List (List Int)).flatten (by simp only [List.flatten_cons, List.flatten_nil, List.length_append, List.length_nil, hjl, lep, lf3, lf4, lf5, lf6, ljw]) kj kj kj kj kj kj kj (cat_ints [j, jw, ep, f3, f4, f5, f6])))) ?_
  refine e_val (rl_ext _) (.bool true) kj kj (fun W => by kernel_rfl) ?_
  refine e_read (rl_ext _) (.agg (cat [ints .u8 (j), ints .u8 (jw), ints .u8 (ep), ints .u8 (f3), ints .u8 (f4), ints .u8 (f5), ints .u8 (f6)])) kj kj (fun W hR => (run_load_row 56 _ g13 56 _ _ (row_ext (row_ext r13_11 (ext_drew _)) hR) rfl kj kj (isz (n := 224) kj (by rw [cat_cons, cat_cons, cat_cons, cat_cons, cat_cons, cat_cons, cat_cons]; simp only [Array.size_append, cat, ((ints_size _ _).trans hjl), ((ints_size _ _).trans lep), ((ints_size _ _).trans lf3), ((ints_size _ _).trans lf4), ((ints_size _ _).trans lf5), ((ints_size _ _).trans lf6), ((ints_size _ _).trans ljw)]; rfl)))) ?_
  refine e_val (rl_ext _) (.pointer (some ⟨g6, 65, none⟩)) kj kj (fun W => by kernel_rfl) ?_
  have r6_5 := (row_ext r6_4 e5)
  have r6_6 := (row_ext r6_5 e6)
  have r6_7 := (row_ext r6_6 e7)
  have r6_8 := (Puts.row p8 r6_7 (ne_of_old r6_6 l13))
  have r6_9 := (row_ext r6_8 e9)
  have r6_10 := (row_ext r6_9 e10)
  have r6_11 := (Puts.row p11 r6_10 (ne_of_old r6_9 l15))
  refine e_read (rl_ext _) (.agg (ints .u8 (c))) kj kj (fun W hR => (run_load_part 26 _ g6 65 52 _ _ _ (row_ext (row_ext r6_11 (ext_drew _)) hR) rfl kj (cat_part [ints .u8 (g), #[.int .i64 e], ints .u8 (t)] [ints .u8 (c)] [] 65 (by rw [cat_cons, cat_cons, cat_cons]; simp only [Array.size_append, cat, ((ints_size _ _).trans hgl), ((ints_size _ _).trans htl)]; rfl)) kj (isz (n := 32) kj ((ints_size _ _).trans hcl)))) ?_
  have r1_9 := (row_ext r1_8 e9)
  have r1_10 := (row_ext r1_9 e10)
  have r1_11 := (Puts.row p11 r1_10 (ne_of_old r1_9 l15))
  have r2_9 := (row_ext r2_8 e9)
  have r2_10 := (row_ext r2_9 e10)
  have r2_11 := (Puts.row p11 r2_10 (ne_of_old r2_9 l15))
  refine e_call (rl_ext _) (.agg (ints .u8 (hmac f3 c))) 34 #[.agg (cat [ints .u8 (j), ints .u8 (jw), ints .u8 (ep), ints .u8 (f3), ints .u8 (f4), ints .u8 (f5), ints .u8 (f6)]), .agg (ints .u8 (c))] kj kj (fun W => by kernel_rfl) (fun W hR => (tagS j jw ep f3 f4 f5 f6 c hjl ljw lep lf3 lf4 lf5 lf6 hcl h3b hcb tc tq W (row_ext (row_ext r1_11 (ext_drew _)) hR) (row_ext (row_ext r2_11 (ext_drew _)) hR))) ?_
  refine e_read (rl_ext _) (.agg (cat [ints .u8 (j), ints .u8 (jw), ints .u8 (ep), ints .u8 (f3), ints .u8 (f4), ints .u8 (f5), ints .u8 (f6)])) kj kj (fun W hR => (run_load_row 56 _ g15 56 _ _ (row_ext (row_ext r15_11 (ext_drew _)) hR) rfl kj kj (isz (n := 224) kj (by rw [cat_cons, cat_cons, cat_cons, cat_cons, cat_cons, cat_cons, cat_cons]; simp only [Array.size_append, cat, ((ints_size _ _).trans hjl), ((ints_size _ _).trans lep), ((ints_size _ _).trans lf3), ((ints_size _ _).trans lf4), ((ints_size _ _).trans lf5), ((ints_size _ _).trans lf6), ((ints_size _ _).trans ljw)]; rfl)))) ?_
  refine e_val (rl_ext _) (.pointer (some ⟨g6, 65, none⟩)) kj kj (fun W => by kernel_rfl) ?_
  refine e_read (rl_ext _) (.agg (ints .u8 (c))) kj kj (fun W hR => (run_load_part 26 _ g6 65 52 _ _ _ (row_ext (row_ext r6_11 (ext_drew _)) hR) rfl kj (cat_part [ints .u8 (g), #[.int .i64 e], ints .u8 (t)] [ints .u8 (c)] [] 65 (by rw [cat_cons, cat_cons, cat_cons]; simp only [Array.size_append, cat, ((ints_size _ _).trans hgl), ((ints_size _ _).trans htl)]; rfl)) kj (isz (n := 32) kj ((ints_size _ _).trans hcl)))) ?_
  refine e_nil (hF _ fun W12 e12 => ?_)
  simp only [List.nil_append, List.cons_append, List.take_succ_cons, List.take_zero, List.drop_succ_cons, List.drop_zero, finE, up]
  clear hF
  have x12 : Ext w W12 := Ext.tr x11 e12
  have r1_12 := (row_ext r1_11 e12)
  have r2_12 := (row_ext r2_11 e12)
  refine seq_call (.agg (ints .u8 (hmac f3 c))) 34 #[.agg (cat [ints .u8 (j), ints .u8 (jw), ints .u8 (ep), ints .u8 (f3), ints .u8 (f4), ints .u8 (f5), ints .u8 (f6)]), .agg (ints .u8 (c))] 40 rfl kj kj ((tagS j jw ep f3 f4 f5 f6 c hjl ljw lep lf3 lf4 lf5 lf6 hcl h3b hcb tc tq _ r1_12 r2_12)) fun W13 e13 => ?_
  have x13 : Ext w W13 := Ext.tr x12 e13
  refine seq_val (.bool true) 41 rfl kj (run_eql_agg 26 _ _ _ _ _ (.bool true) rfl kj kj kj (eql_lists 26 (e := 5) (k := .u8) (hmac f3 c) (hmac f3 c) (decide_eq_true rfl) (hmac_len _ _) (hmac_len _ _) kj kj kj _)) ?_
  refine seq_val (.bool true) 42 rfl kj kj ?_
  refine seq_val (.bool true) 6 rfl kj kj ?_
  refine seq_nil ?_
  refine hK16 _ _ ?_
  try clear hK16 K16
  refine wp_ret ?_
  repeat (first | with_reducible refine goR1 ?_ | with_reducible refine goR2 ?_)
  exact (show bodyPost _ _ _ .ret _ _ from ret1 (.bool true) rfl (res_tmp kj) ⟨rfl, x13⟩)

end Go.Proofs.YtamlhbbphnamnaaDoor.Sha
