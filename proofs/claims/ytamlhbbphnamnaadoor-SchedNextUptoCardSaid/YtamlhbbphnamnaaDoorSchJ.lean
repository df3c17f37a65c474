/- The key schedule: the law SchedNext. -/
import Derived.Test.YtamlhbbphnamnaaDoorSchG
import Derived.Test.YtamlhbbphnamnaaDoorSchH
namespace Go.Proofs.YtamlhbbphnamnaaDoor.Sha
open Go Go.RowKit
open Go.Proofs.YtamlhbbphnamnaaDoor.Rely Go.Proofs.YtamlhbbphnamnaaDoor.Auto Go.Proofs.YtamlhbbphnamnaaDoor.Own
set_option linter.unusedVariables false
set_option linter.unusedSimpArgs false

set_option maxRecDepth 100000 in
set_option maxHeartbeats 4000000 in
theorem next_A (ini com ctx : List Int) (v2 : Value) (B2 : Nat) (tc tq : TypeId) (w : World) (hc : w.heap[1]? = some (.cells (ints .u64 cubesI) tc)) (hq : w.heap[0]? = some (.cells (ints .u64 squaresI) tq)) (hil : ini.length = 32) (hib : AreBytes ini) (hol : com.length = 32) (hob : AreBytes com) (hxb : AreBytes ctx) (hx : RdK .u8 B2 ctx v2 w) (h1 : 1000 < ctx.length) (h2 : ctx.length ≤ 65536) : Calls Tryd.prog 9 #[.agg (ints .u8 ini), .agg (ints .u8 com), v2] w (Ret w (.bool true)) := by
  obtain ⟨a_ctx, c_ctx, rfl, -⟩ := id hx
  refine enter 45 [(0, .agg (ints .u8 (ini))), (1, .agg (ints .u8 (com))), (2, .slice a_ctx ctx.length c_ctx)] Tryd.func9 rfl rfl kj rfl ?_
  refine wp_seq_k fun K3 hK3 => ?_
  refine region_lit ?_
  refine seq_alloc (ints .u8 (ini)) 26 3 rfl kj kj fun g4 W1 l4 e1 r4_1 => ?_
  have x1 : Ext w W1 := Ext.tr (Rely.Ext.refl w) e1
  have b4 : w.heap.size ≤ g4 := Nat.le_trans (Rely.Ext.refl w).size l4
  refine seq_alloc (ints .u8 (com)) 26 4 rfl kj kj fun g5 W2 l5 e2 r5_2 => ?_
  have x2 : Ext w W2 := Ext.tr x1 e2
  have b5 : w.heap.size ≤ g5 := Nat.le_trans x1.size l5
  refine seq_val (.bool false) 6 rfl kj kj ?_
  refine seq_nil ?_
  refine hK3 _ _ ?_
  try clear hK3 K3
  refine wp_seq_k fun K6 hK6 => ?_
  refine wp_seq_k fun K7 hK7 => ?_
  refine region_lit ?_
  have r1_1 := (row_ext hc e1)
  have r1_2 := (row_ext r1_1 e2)
  have r2_1 := (row_ext hq e1)
  have r2_2 := (row_ext r2_1 e2)
  refine seq_call (.bool true) 27 #[] 9 rfl kj kj (alive18 tc tq _ r1_2 r2_2) fun W3 e3 => ?_
  have x3 : Ext w W3 := Ext.tr x2 e3
  refine seq_val (.bool false) 10 rfl kj kj ?_
  refine seq_nil ?_
  refine hK7 _ _ ?_
  try clear hK7 K7
  refine cond_false kj ?_
  refine wp_skip ?_
  refine hK6 _ _ ?_
  try clear hK6 K6
  refine wp_seq_k fun K8 hK8 => ?_
  refine wp_seq_k fun K9 hK9 => ?_
  refine region_lit ?_
  refine seq_val (.slice a_ctx ctx.length c_ctx) 11 rfl kj kj ?_
  refine seq_val (.int .i64 ((ctx.length : Nat) : Int)) 12 rfl kj kj ?_
  refine seq_val (.bool true) 13 rfl kj (run_eq (u := .bool (decide (((ctx.length : Nat) : Int) > 1000))) kj (congrArg Value.bool (decide_eq_true (by omega)))) ?_
  refine seq_val (.bool true) 14 rfl kj kj ?_
  refine seq_val (.slice a_ctx ctx.length c_ctx) 15 rfl kj kj ?_
  refine seq_val (.int .i64 ((ctx.length : Nat) : Int)) 16 rfl kj kj ?_
  refine seq_val (.bool true) 17 rfl kj (run_eq (u := .bool (decide (((ctx.length : Nat) : Int) ≤ 65536))) kj (congrArg Value.bool (decide_eq_true (by omega)))) ?_
  refine seq_val (.bool true) 18 rfl kj kj ?_
  refine seq_nil ?_
  refine hK9 _ _ ?_
  try clear hK9 K9
  refine cond_true kj ?_
  refine wp_seq_k fun K10 hK10 => ?_
  refine region_lit ?_
  refine seq_val (.bool true) 6 rfl kj kj ?_
  refine seq_nil ?_
  refine hK10 _ _ ?_
  try clear hK10 K10
  refine wp_ret ?_
  repeat (first | with_reducible refine goR1 ?_ | with_reducible refine goR2 ?_)
  exact (show bodyPost _ _ _ .ret _ _ from ret1 (.bool true) rfl (res_tmp kj) ⟨rfl, x3⟩)
set_option maxRecDepth 100000 in
set_option maxHeartbeats 4000000 in
theorem next_B (ini com ctx : List Int) (v2 : Value) (B2 : Nat) (tc tq : TypeId) (w : World) (hc : w.heap[1]? = some (.cells (ints .u64 cubesI) tc)) (hq : w.heap[0]? = some (.cells (ints .u64 squaresI) tq)) (hil : ini.length = 32) (hib : AreBytes ini) (hol : com.length = 32) (hob : AreBytes com) (hxb : AreBytes ctx) (hx : RdK .u8 B2 ctx v2 w) (h1 : ctx.length ≤ 1000) : Calls Tryd.prog 9 #[.agg (ints .u8 ini), .agg (ints .u8 com), v2] w (Ret w (.bool true)) := by
  obtain ⟨a_ctx, c_ctx, rfl, -⟩ := id hx
  obtain ⟨hm, ehm⟩ : ∃ z : List Int, z = hmac ini com := ⟨_, rfl⟩
  obtain ⟨j, ej⟩ : ∃ z : List Int, z = labV hm (strB sJoiner) ctx := ⟨_, rfl⟩
  obtain ⟨jw, ejw⟩ : ∃ z : List Int, z = deriveV j (strB sWelcome) := ⟨_, rfl⟩
  obtain ⟨ep, eep⟩ : ∃ z : List Int, z = labV j (strB sEpoch) ctx := ⟨_, rfl⟩
  obtain ⟨f3, ef3⟩ : ∃ z : List Int, z = deriveV ep (strB sConfirm) := ⟨_, rfl⟩
  obtain ⟨f4, ef4⟩ : ∃ z : List Int, z = deriveV ep (strB sPackets) := ⟨_, rfl⟩
  obtain ⟨f5, ef5⟩ : ∃ z : List Int, z = deriveV ep (strB sExport) := ⟨_, rfl⟩
  obtain ⟨f6, ef6⟩ : ∃ z : List Int, z = deriveV ep (strB sInit) := ⟨_, rfl⟩
  obtain ⟨kw, ekw⟩ : ∃ z : List Int, z = deriveV ini (strB sWelcome) := ⟨_, rfl⟩
  obtain ⟨kp, ekp⟩ : ∃ z : List Int, z = labV ini (strB sEpoch) ctx := ⟨_, rfl⟩
  obtain ⟨k3, ek3⟩ : ∃ z : List Int, z = deriveV kp (strB sConfirm) := ⟨_, rfl⟩
  obtain ⟨k4, ek4⟩ : ∃ z : List Int, z = deriveV kp (strB sPackets) := ⟨_, rfl⟩
  obtain ⟨k5, ek5⟩ : ∃ z : List Int, z = deriveV kp (strB sExport) := ⟨_, rfl⟩
  obtain ⟨k6, ek6⟩ : ∃ z : List Int, z = deriveV kp (strB sInit) := ⟨_, rfl⟩
  have lhm : hm.length = 32 := by rw [ehm]; exact hmac_len _ _
  have bhm : AreBytes hm := by rw [ehm]; exact hmac_bytes _ _
  have hjl : j.length = 32 := by rw [ej]; exact labV_len _ _ _
  have hjb : AreBytes j := by rw [ej]; exact labV_bytes _ _ _
  have ljw : jw.length = 32 := by rw [ejw]; exact deriveV_len _ _
  have lep : ep.length = 32 := by rw [eep]; exact labV_len _ _ _
  have lf3 : f3.length = 32 := by rw [ef3]; exact deriveV_len _ _
  have lf4 : f4.length = 32 := by rw [ef4]; exact deriveV_len _ _
  have lf5 : f5.length = 32 := by rw [ef5]; exact deriveV_len _ _
  have lf6 : f6.length = 32 := by rw [ef6]; exact deriveV_len _ _
  have bep : AreBytes ep := by rw [eep]; exact labV_bytes _ _ _
  have lkw : kw.length = 32 := by rw [ekw]; exact deriveV_len _ _
  have lkp : kp.length = 32 := by rw [ekp]; exact labV_len _ _ _
  have lk3 : k3.length = 32 := by rw [ek3]; exact deriveV_len _ _
  have lk4 : k4.length = 32 := by rw [ek4]; exact deriveV_len _ _
  have lk5 : k5.length = 32 := by rw [ek5]; exact deriveV_len _ _
  have lk6 : k6.length = 32 := by rw [ek6]; exact deriveV_len _ _
  refine enter 45 [(0, .agg (ints .u8 (ini))), (1, .agg (ints .u8 (com))), (2, .slice a_ctx ctx.length c_ctx)] Tryd.func9 rfl rfl kj rfl ?_
  refine wp_seq_k fun K3 hK3 => ?_
  refine region_lit ?_
  refine seq_alloc (ints .u8 (ini)) 26 3 rfl kj kj fun g4 W1 l4 e1 r4_1 => ?_
  have x1 : Ext w W1 := Ext.tr (Rely.Ext.refl w) e1
  have b4 : w.heap.size ≤ g4 := Nat.le_trans (Rely.Ext.refl w).size l4
  refine seq_alloc (ints .u8 (com)) 26 4 rfl kj kj fun g5 W2 l5 e2 r5_2 => ?_
  have x2 : Ext w W2 := Ext.tr x1 e2
  have b5 : w.heap.size ≤ g5 := Nat.le_trans x1.size l5
  refine seq_val (.bool false) 6 rfl kj kj ?_
  refine seq_nil ?_
  refine hK3 _ _ ?_
  try clear hK3 K3
  refine wp_seq_k fun K6 hK6 => ?_
  refine wp_seq_k fun K7 hK7 => ?_
  refine region_lit ?_
  have r1_1 := (row_ext hc e1)
  have r1_2 := (row_ext r1_1 e2)
  have r2_1 := (row_ext hq e1)
  have r2_2 := (row_ext r2_1 e2)
  refine seq_call (.bool true) 27 #[] 9 rfl kj kj (alive18 tc tq _ r1_2 r2_2) fun W3 e3 => ?_
  have x3 : Ext w W3 := Ext.tr x2 e3
  refine seq_val (.bool false) 10 rfl kj kj ?_
  refine seq_nil ?_
  refine hK7 _ _ ?_
  try clear hK7 K7
  refine cond_false kj ?_
  refine wp_skip ?_
  refine hK6 _ _ ?_
  try clear hK6 K6
  refine wp_seq_k fun K8 hK8 => ?_
  refine wp_seq_k fun K9 hK9 => ?_
  refine region_lit ?_
  refine seq_val (.slice a_ctx ctx.length c_ctx) 11 rfl kj kj ?_
  refine seq_val (.int .i64 ((ctx.length : Nat) : Int)) 12 rfl kj kj ?_
  refine seq_val (.bool false) 13 rfl kj (run_eq (u := .bool (decide (((ctx.length : Nat) : Int) > 1000))) kj (congrArg Value.bool (decide_eq_false (by omega)))) ?_
  refine seq_val (.bool false) 14 rfl kj kj ?_
  refine seq_skip 15 rfl kj ?_
  refine seq_skip 16 rfl kj ?_
  refine seq_skip 17 rfl kj ?_
  refine seq_val (.bool false) 18 rfl kj kj ?_
  refine seq_nil ?_
  refine hK9 _ _ ?_
  try clear hK9 K9
  refine cond_false kj ?_
  refine wp_skip ?_
  refine hK8 _ _ ?_
  try clear hK8 K8
  refine wp_seq_k fun K10 hK10 => ?_
  refine region_lit ?_
  refine seq_val (.slice a_ctx ctx.length c_ctx) 19 rfl kj kj ?_
  refine seq_callR (fun v W' => (CopyN 5 W3.heap.size (ctx)) v W' ∧ Ext W3 W') 14 #[.slice a_ctx ctx.length c_ctx] 20 rfl kj kj ((copyC (ctx) _ _ _ (by omega) (RdK.ext hx x3)).mono (by rintro e w' ⟨v, rfl, e1, hv⟩; exact ⟨v, rfl, hv, e1⟩)) fun vv11 W4 hh11 => ?_
  obtain ⟨hv11, e4⟩ := hh11
  have x4 : Ext w W4 := Ext.tr x3 e4
  have hq12 := hv11
  obtain ⟨gk12, ck12, rfl, -⟩ := hq12
  refine seq_val (.slice (some ⟨gk12, 0, none⟩) (ctx).length ck12) 7 rfl kj kj ?_
  refine seq_nil ?_
  refine hK10 _ _ ?_
  try clear hK10 K10
  refine wp_seq_k fun K13 hK13 => ?_
  refine region_lit ?_
  have r4_2 := (row_ext r4_1 e2)
  have r4_3 := (row_ext r4_2 e3)
  have r4_4 := (row_ext r4_3 e4)
  refine seq_val (.agg (ints .u8 (ini))) 21 rfl kj (run_load_row 26 _ g4 26 _ _ r4_4 rfl kj kj (isz (n := 32) kj ((ints_size _ _).trans hil))) ?_
  have r5_3 := (row_ext r5_2 e3)
  have r5_4 := (row_ext r5_3 e4)
  refine seq_val (.agg (ints .u8 (com))) 22 rfl kj (run_load_row 26 _ g5 26 _ _ r5_4 rfl kj kj (isz (n := 32) kj ((ints_size _ _).trans hol))) ?_
  refine seq_val (.slice (some ⟨gk12, 0, none⟩) (ctx).length ck12) 23 rfl kj kj ?_
  have r1_3 := (row_ext r1_2 e3)
  have r1_4 := (row_ext r1_3 e4)
  have r2_3 := (row_ext r2_2 e3)
  have r2_4 := (row_ext r2_3 e4)
  refine seq_call (.agg (cat [ints .u8 (j), ints .u8 (jw), ints .u8 (ep), ints .u8 (f3), ints .u8 (f4), ints .u8 (f5), ints .u8 (f6)])) 30 #[.agg (ints .u8 (ini)), .agg (ints .u8 (com)), .slice (some ⟨gk12, 0, none⟩) (ctx).length ck12] 24 rfl kj kj ((nextN ini com ctx _ _ tc tq _ r1_4 r2_4 hil hib hol hob hxb (RdK.ext (CopyN.rd hv11) (Rely.Ext.refl W4)) hm j jw ep f3 f4 f5 f6 ehm ej ejw eep ef3 ef4 ef5 ef6)) fun W5 e5 => ?_
  have x5 : Ext w W5 := Ext.tr x4 e5
  refine seq_alloc (cat [ints .u8 (List.replicate 32 0), ints .u8 (List.replicate 32 0), ints .u8 (List.replicate 32 0), ints .u8 (List.replicate 32 0), ints .u8 (List.replicate 32 0), ints .u8 (List.replicate 32 0), ints .u8 (List.replicate 32 0)]) 56 8 rfl kj kj fun g14 W6 l14 e6 r14_6 => ?_
  have x6 : Ext w W6 := Ext.tr x5 e6
  have b14 : w.heap.size ≤ g14 := Nat.le_trans x5.size l14
  refine seq_store g14 _ (cat [ints .u8 (j), ints .u8 (jw), ints .u8 (ep), ints .u8 (f3), ints .u8 (f4), ints .u8 (f5), ints .u8 (f6)]) 56 r14_6 rfl kj (run_store_row 56 _ _ g14 56 _ _ r14_6 rfl kj kj (isz (n := 224) kj (by rw [cat_cons, cat_cons, cat_cons, cat_cons, cat_cons, cat_cons, cat_cons]; simp only [Array.size_append, cat, ((ints_size _ _).trans hjl), ((ints_size _ _).trans lep), ((ints_size _ _).trans lf3), ((ints_size _ _).trans lf4), ((ints_size _ _).trans lf5), ((ints_size _ _).trans lf6), ((ints_size _ _).trans ljw)]; rfl)) (eqsz (n := 224) (by rw [cat_cons, cat_cons, cat_cons, cat_cons, cat_cons, cat_cons, cat_cons]; simp only [Array.size_append, cat, ((ints_size _ _).trans (List.length_replicate (n := 32)))]; rfl) (by rw [cat_cons, cat_cons, cat_cons, cat_cons, cat_cons, cat_cons, cat_cons]; simp only [Array.size_append, cat, ((ints_size _ _).trans hjl), ((ints_size _ _).trans lep), ((ints_size _ _).trans lf3), ((ints_size _ _).trans lf4), ((ints_size _ _).trans lf5), ((ints_size _ _).trans lf6), ((ints_size _ _).trans ljw)]; rfl)) (cat_one _ (by intro a ha; simp only [List.mem_cons, List.not_mem_nil, or_false] at ha; rcases ha with rfl | rfl | rfl | rfl | rfl | rfl | rfl; exact (ints_one _ _); exact (ints_one _ _); exact (ints_one _ _); exact (ints_one _ _); exact (ints_one _ _); exact (ints_one _ _); exact (ints_one _ _)))) fun W7 p7 r14_7 => ?_
  have x7 : Ext w W7 := Puts.ext p7 x6 b14
  refine seq_nil ?_
  refine hK13 _ _ ?_
  try clear hK13 K13
  refine wp_seq_k fun K15 hK15 => ?_
  refine any_regionE 17 [⟨none, [(8, none)]⟩, ⟨none, [(3, none)]⟩, ⟨none, [(4, none)]⟩, ⟨none, [(2, none)]⟩, ⟨none, [(26, some 1), (27, some 2), (28, some 3)]⟩, ⟨none, [(25, some 0), (29, some 4)]⟩, ⟨none, [(30, some 5)]⟩, ⟨some (31, true), [(7, none), (31, some 6)]⟩, ⟨some (31, true), [(2, none), (31, some 6)]⟩, ⟨some (31, true), [(32, some 7), (33, some 8), (31, some 6)]⟩, ⟨none, [(31, some 6), (34, some 9)]⟩, ⟨none, [(35, some 10)]⟩, ⟨some (36, true), [(3, none), (36, some 11)]⟩, ⟨some (36, true), [(7, none), (36, some 11)]⟩, ⟨some (36, true), [(37, some 12), (38, some 13), (36, some 11)]⟩, ⟨some (36, true), [(3, none), (36, some 11)]⟩, ⟨some (36, true), [(2, none), (36, some 11)]⟩] kj kj fun F hF => ?_
  refine e_read (rl_ext _) (.agg (cat [ints .u8 (j), ints .u8 (jw), ints .u8 (ep), ints .u8 (f3), ints .u8 (f4), ints .u8 (f5), ints .u8 (f6)])) kj kj (fun W hR => (run_load_row 56 _ g14 56 _ _ (row_ext (row_ext r14_7 (ext_drew _)) hR) rfl kj kj (isz (n := 224) kj (by rw [cat_cons, cat_cons, cat_cons, cat_cons, cat_cons, cat_cons, cat_cons]; simp only [Array.size_append, cat, ((ints_size _ _).trans hjl), ((ints_size _ _).trans lep), ((ints_size _ _).trans lf3), ((ints_size _ _).trans lf4), ((ints_size _ _).trans lf5), ((ints_size _ _).trans lf6), ((ints_size _ _).trans ljw)]; rfl)))) ?_
  have r4_5 := (row_ext r4_4 e5)
  have r4_6 := (row_ext r4_5 e6)
  have r4_7 := (Puts.row p7 r4_6 (ne_of_old r4_5 l14))
  refine e_read (rl_ext _) (.agg (ints .u8 (ini))) kj kj (fun W hR => (run_load_row 26 _ g4 26 _ _ (row_ext (row_ext r4_7 (ext_drew _)) hR) rfl kj kj (isz (n := 32) kj ((ints_size _ _).trans hil)))) ?_
  have r5_5 := (row_ext r5_4 e5)
  have r5_6 := (row_ext r5_5 e6)
  have r5_7 := (Puts.row p7 r5_6 (ne_of_old r5_5 l14))
  refine e_read (rl_ext _) (.agg (ints .u8 (com))) kj kj (fun W hR => (run_load_row 26 _ g5 26 _ _ (row_ext (row_ext r5_7 (ext_drew _)) hR) rfl kj kj (isz (n := 32) kj ((ints_size _ _).trans hol)))) ?_
  refine e_val (rl_ext _) (.slice a_ctx ctx.length c_ctx) kj kj (fun W => by kernel_rfl) ?_
  refine e_call (rl_ext _) (.agg (cat [ints .u8 (j), ints .u8 (jw), ints .u8 (ep), ints .u8 (f3), ints .u8 (f4), ints .u8 (f5), ints .u8 (f6)])) 31 #[.agg (ints .u8 (ini)), .agg (ints .u8 (com)), .slice a_ctx ctx.length c_ctx] kj kj (fun W => by kernel_rfl) (fun W hR => (rnextN ini com ctx _ _ W hil hib hol hob hxb ((RdK.ext hx x7).ext (Rely.Ext.trans (ext_drew _) hR)) hm j jw ep f3 f4 f5 f6 ehm ej ejw eep ef3 ef4 ef5 ef6)) ?_
  refine e_val (rl_ext _) (.bool true) kj kj (fun W => (run_eql_agg 56 _ _ _ _ _ (.bool true) rfl kj kj kj (eql_st _ (a := 26) (e := 5) (m := 224) (n := 32) ([j, jw, ep, f3, f4, f5, f6] : List (List Int)).flatten (by simp only [List.flatten_cons, List.flatten_nil, List.length_append, List.length_nil, hjl, lep, lf3, lf4, lf5, lf6, ljw]) kj kj kj kj kj kj kj (cat_ints [j, jw, ep, f3, f4, f5, f6])))) ?_
  refine e_val (rl_ext _) (.bool true) kj kj (fun W => by kernel_rfl) ?_
  refine e_val (rl_ext _) (.slice (some ⟨gk12, 0, none⟩) (ctx).length ck12) kj kj (fun W => by kernel_rfl) ?_
  refine e_val (rl_ext _) (.slice a_ctx ctx.length c_ctx) kj kj (fun W => by kernel_rfl) ?_
  have y4_5 : Ext W4 W5 := (Rely.Ext.trans (Rely.Ext.refl W4) e5)
  have y4_6 : Ext W4 W6 := (Rely.Ext.trans y4_5 e6)
  have y4_7 : Ext W4 W7 := (Puts.ext p7 y4_6 (Nat.le_trans y4_5.size l14))
  refine e_call (rl_ext _) (.bool true) 18 #[.slice (some ⟨gk12, 0, none⟩) (ctx).length ck12, .slice a_ctx ctx.length c_ctx] kj kj (fun W => by kernel_rfl) (fun W hR => (keptC ctx _ _ _ _ W (by omega) hxb (CopyN.ext (CopyN.ext hv11 y4_7) (Rely.Ext.trans (ext_drew _) hR)) ((RdK.ext hx x7).ext (Rely.Ext.trans (ext_drew _) hR)))) ?_
  refine e_val (rl_ext _) (.bool true) kj kj (fun W => by kernel_rfl) ?_
  refine e_val (rl_ext _) (.bool true) kj kj (fun W => by kernel_rfl) ?_
  refine e_read (rl_ext _) (.agg (ints .u8 (ini))) kj kj (fun W hR => (run_load_row 26 _ g4 26 _ _ (row_ext (row_ext r4_7 (ext_drew _)) hR) rfl kj kj (isz (n := 32) kj ((ints_size _ _).trans hil)))) ?_
  refine e_val (rl_ext _) (.slice (some ⟨gk12, 0, none⟩) (ctx).length ck12) kj kj (fun W => by kernel_rfl) ?_
  have r1_5 := (row_ext r1_4 e5)
  have r1_6 := (row_ext r1_5 e6)
  have r1_7 := (Puts.row p7 r1_6 (ne_of_old r1_5 l14))
  have r2_5 := (row_ext r2_4 e5)
  have r2_6 := (row_ext r2_5 e6)
  have r2_7 := (Puts.row p7 r2_6 (ne_of_old r2_5 l14))
  refine e_call (rl_ext _) (.agg (cat [ints .u8 (ini), ints .u8 (kw), ints .u8 (kp), ints .u8 (k3), ints .u8 (k4), ints .u8 (k5), ints .u8 (k6)])) 32 #[.agg (ints .u8 (ini)), .slice (some ⟨gk12, 0, none⟩) (ctx).length ck12] kj kj (fun W => by kernel_rfl) (fun W hR => (joinedN ini ctx _ _ tc tq W (row_ext (row_ext r1_7 (ext_drew _)) hR) (row_ext (row_ext r2_7 (ext_drew _)) hR) hil hib hxb ((RdK.ext (CopyN.rd hv11) y4_7).ext (Rely.Ext.trans (ext_drew _) hR)) kw kp k3 k4 k5 k6 ekw ekp ek3 ek4 ek5 ek6)) ?_
  refine e_read (rl_ext _) (.agg (ints .u8 (ini))) kj kj (fun W hR => (run_load_row 26 _ g4 26 _ _ (row_ext (row_ext r4_7 (ext_drew _)) hR) rfl kj kj (isz (n := 32) kj ((ints_size _ _).trans hil)))) ?_
  refine e_val (rl_ext _) (.slice a_ctx ctx.length c_ctx) kj kj (fun W => by kernel_rfl) ?_
  refine e_nil (hF _ fun W8 e8 => ?_)
  simp only [List.nil_append, List.cons_append, List.take_succ_cons, List.take_zero, List.drop_succ_cons, List.drop_zero, finE, up]
  clear hF
  have x8 : Ext w W8 := Ext.tr x7 e8
  refine seq_call (.agg (cat [ints .u8 (ini), ints .u8 (kw), ints .u8 (kp), ints .u8 (k3), ints .u8 (k4), ints .u8 (k5), ints .u8 (k6)])) 33 #[.agg (ints .u8 (ini)), .slice a_ctx ctx.length c_ctx] 42 rfl kj kj ((rjoinedN ini ctx _ _ _ hil hib hxb (RdK.ext hx x8) kw kp k3 k4 k5 k6 ekw ekp ek3 ek4 ek5 ek6)) fun W9 e9 => ?_
  have x9 : Ext w W9 := Ext.tr x8 e9
  refine seq_val (.bool true) 43 rfl kj (run_eql_agg 56 _ _ _ _ _ (.bool true) rfl kj kj kj (eql_st _ (a := 26) (e := 5) (m := 224) (n := 32) ([ini, kw, kp, k3, k4, k5, k6] : List (List Int)).flatten (by simp only [List.flatten_cons, List.flatten_nil, List.length_append, List.length_nil, hil, lk3, lk4, lk5, lk6, lkp, lkw]) kj kj kj kj kj kj kj (cat_ints [ini, kw, kp, k3, k4, k5, k6]))) ?_
  refine seq_val (.bool true) 44 rfl kj kj ?_
  refine seq_val (.bool true) 6 rfl kj kj ?_
  refine seq_nil ?_
  refine hK15 _ _ ?_
  try clear hK15 K15
  refine wp_ret ?_
  repeat (first | with_reducible refine goR1 ?_ | with_reducible refine goR2 ?_)
  exact (show bodyPost _ _ _ .ret _ _ from ret1 (.bool true) rfl (res_tmp kj) ⟨rfl, x9⟩)
set_option maxRecDepth 100000 in
set_option maxHeartbeats 4000000 in
theorem next_C (ini com ctx : List Int) (v2 : Value) (B2 : Nat) (tc tq : TypeId) (w : World) (hc : w.heap[1]? = some (.cells (ints .u64 cubesI) tc)) (hq : w.heap[0]? = some (.cells (ints .u64 squaresI) tq)) (hil : ini.length = 32) (hib : AreBytes ini) (hol : com.length = 32) (hob : AreBytes com) (hxb : AreBytes ctx) (hx : RdK .u8 B2 ctx v2 w) (h1 : 65536 < ctx.length) (h2 : ctx.length ≤ 900000000) : Calls Tryd.prog 9 #[.agg (ints .u8 ini), .agg (ints .u8 com), v2] w (Ret w (.bool true)) := by
  obtain ⟨a_ctx, c_ctx, rfl, -⟩ := id hx
  obtain ⟨hm, ehm⟩ : ∃ z : List Int, z = hmac ini com := ⟨_, rfl⟩
  obtain ⟨j, ej⟩ : ∃ z : List Int, z = labV hm (strB sJoiner) ctx := ⟨_, rfl⟩
  obtain ⟨jw, ejw⟩ : ∃ z : List Int, z = deriveV j (strB sWelcome) := ⟨_, rfl⟩
  obtain ⟨ep, eep⟩ : ∃ z : List Int, z = labV j (strB sEpoch) ctx := ⟨_, rfl⟩
  obtain ⟨f3, ef3⟩ : ∃ z : List Int, z = deriveV ep (strB sConfirm) := ⟨_, rfl⟩
  obtain ⟨f4, ef4⟩ : ∃ z : List Int, z = deriveV ep (strB sPackets) := ⟨_, rfl⟩
  obtain ⟨f5, ef5⟩ : ∃ z : List Int, z = deriveV ep (strB sExport) := ⟨_, rfl⟩
  obtain ⟨f6, ef6⟩ : ∃ z : List Int, z = deriveV ep (strB sInit) := ⟨_, rfl⟩
  obtain ⟨kw, ekw⟩ : ∃ z : List Int, z = deriveV ini (strB sWelcome) := ⟨_, rfl⟩
  obtain ⟨kp, ekp⟩ : ∃ z : List Int, z = labV ini (strB sEpoch) ctx := ⟨_, rfl⟩
  obtain ⟨k3, ek3⟩ : ∃ z : List Int, z = deriveV kp (strB sConfirm) := ⟨_, rfl⟩
  obtain ⟨k4, ek4⟩ : ∃ z : List Int, z = deriveV kp (strB sPackets) := ⟨_, rfl⟩
  obtain ⟨k5, ek5⟩ : ∃ z : List Int, z = deriveV kp (strB sExport) := ⟨_, rfl⟩
  obtain ⟨k6, ek6⟩ : ∃ z : List Int, z = deriveV kp (strB sInit) := ⟨_, rfl⟩
  have lhm : hm.length = 32 := by rw [ehm]; exact hmac_len _ _
  have bhm : AreBytes hm := by rw [ehm]; exact hmac_bytes _ _
  have hjl : j.length = 32 := by rw [ej]; exact labV_len _ _ _
  have hjb : AreBytes j := by rw [ej]; exact labV_bytes _ _ _
  have ljw : jw.length = 32 := by rw [ejw]; exact deriveV_len _ _
  have lep : ep.length = 32 := by rw [eep]; exact labV_len _ _ _
  have lf3 : f3.length = 32 := by rw [ef3]; exact deriveV_len _ _
  have lf4 : f4.length = 32 := by rw [ef4]; exact deriveV_len _ _
  have lf5 : f5.length = 32 := by rw [ef5]; exact deriveV_len _ _
  have lf6 : f6.length = 32 := by rw [ef6]; exact deriveV_len _ _
  have bep : AreBytes ep := by rw [eep]; exact labV_bytes _ _ _
  have lkw : kw.length = 32 := by rw [ekw]; exact deriveV_len _ _
  have lkp : kp.length = 32 := by rw [ekp]; exact labV_len _ _ _
  have lk3 : k3.length = 32 := by rw [ek3]; exact deriveV_len _ _
  have lk4 : k4.length = 32 := by rw [ek4]; exact deriveV_len _ _
  have lk5 : k5.length = 32 := by rw [ek5]; exact deriveV_len _ _
  have lk6 : k6.length = 32 := by rw [ek6]; exact deriveV_len _ _
  refine enter 45 [(0, .agg (ints .u8 (ini))), (1, .agg (ints .u8 (com))), (2, .slice a_ctx ctx.length c_ctx)] Tryd.func9 rfl rfl kj rfl ?_
  refine wp_seq_k fun K3 hK3 => ?_
  refine region_lit ?_
  refine seq_alloc (ints .u8 (ini)) 26 3 rfl kj kj fun g4 W1 l4 e1 r4_1 => ?_
  have x1 : Ext w W1 := Ext.tr (Rely.Ext.refl w) e1
  have b4 : w.heap.size ≤ g4 := Nat.le_trans (Rely.Ext.refl w).size l4
  refine seq_alloc (ints .u8 (com)) 26 4 rfl kj kj fun g5 W2 l5 e2 r5_2 => ?_
  have x2 : Ext w W2 := Ext.tr x1 e2
  have b5 : w.heap.size ≤ g5 := Nat.le_trans x1.size l5
  refine seq_val (.bool false) 6 rfl kj kj ?_
  refine seq_nil ?_
  refine hK3 _ _ ?_
  try clear hK3 K3
  refine wp_seq_k fun K6 hK6 => ?_
  refine wp_seq_k fun K7 hK7 => ?_
  refine region_lit ?_
  have r1_1 := (row_ext hc e1)
  have r1_2 := (row_ext r1_1 e2)
  have r2_1 := (row_ext hq e1)
  have r2_2 := (row_ext r2_1 e2)
  refine seq_call (.bool true) 27 #[] 9 rfl kj kj (alive18 tc tq _ r1_2 r2_2) fun W3 e3 => ?_
  have x3 : Ext w W3 := Ext.tr x2 e3
  refine seq_val (.bool false) 10 rfl kj kj ?_
  refine seq_nil ?_
  refine hK7 _ _ ?_
  try clear hK7 K7
  refine cond_false kj ?_
  refine wp_skip ?_
  refine hK6 _ _ ?_
  try clear hK6 K6
  refine wp_seq_k fun K8 hK8 => ?_
  refine wp_seq_k fun K9 hK9 => ?_
  refine region_lit ?_
  refine seq_val (.slice a_ctx ctx.length c_ctx) 11 rfl kj kj ?_
  refine seq_val (.int .i64 ((ctx.length : Nat) : Int)) 12 rfl kj kj ?_
  refine seq_val (.bool true) 13 rfl kj (run_eq (u := .bool (decide (((ctx.length : Nat) : Int) > 1000))) kj (congrArg Value.bool (decide_eq_true (by omega)))) ?_
  refine seq_val (.bool true) 14 rfl kj kj ?_
  refine seq_val (.slice a_ctx ctx.length c_ctx) 15 rfl kj kj ?_
  refine seq_val (.int .i64 ((ctx.length : Nat) : Int)) 16 rfl kj kj ?_
  refine seq_val (.bool false) 17 rfl kj (run_eq (u := .bool (decide (((ctx.length : Nat) : Int) ≤ 65536))) kj (congrArg Value.bool (decide_eq_false (by omega)))) ?_
  refine seq_val (.bool false) 18 rfl kj kj ?_
  refine seq_nil ?_
  refine hK9 _ _ ?_
  try clear hK9 K9
  refine cond_false kj ?_
  refine wp_skip ?_
  refine hK8 _ _ ?_
  try clear hK8 K8
  refine wp_seq_k fun K10 hK10 => ?_
  refine region_lit ?_
  refine seq_val (.slice a_ctx ctx.length c_ctx) 19 rfl kj kj ?_
  refine seq_callR (fun v W' => (CopyN 5 W3.heap.size (ctx)) v W' ∧ Ext W3 W') 14 #[.slice a_ctx ctx.length c_ctx] 20 rfl kj kj ((copyC (ctx) _ _ _ (by omega) (RdK.ext hx x3)).mono (by rintro e w' ⟨v, rfl, e1, hv⟩; exact ⟨v, rfl, hv, e1⟩)) fun vv11 W4 hh11 => ?_
  obtain ⟨hv11, e4⟩ := hh11
  have x4 : Ext w W4 := Ext.tr x3 e4
  have hq12 := hv11
  obtain ⟨gk12, ck12, rfl, -⟩ := hq12
  refine seq_val (.slice (some ⟨gk12, 0, none⟩) (ctx).length ck12) 7 rfl kj kj ?_
  refine seq_nil ?_
  refine hK10 _ _ ?_
  try clear hK10 K10
  refine wp_seq_k fun K13 hK13 => ?_
  refine region_lit ?_
  have r4_2 := (row_ext r4_1 e2)
  have r4_3 := (row_ext r4_2 e3)
  have r4_4 := (row_ext r4_3 e4)
  refine seq_val (.agg (ints .u8 (ini))) 21 rfl kj (run_load_row 26 _ g4 26 _ _ r4_4 rfl kj kj (isz (n := 32) kj ((ints_size _ _).trans hil))) ?_
  have r5_3 := (row_ext r5_2 e3)
  have r5_4 := (row_ext r5_3 e4)
  refine seq_val (.agg (ints .u8 (com))) 22 rfl kj (run_load_row 26 _ g5 26 _ _ r5_4 rfl kj kj (isz (n := 32) kj ((ints_size _ _).trans hol))) ?_
  refine seq_val (.slice (some ⟨gk12, 0, none⟩) (ctx).length ck12) 23 rfl kj kj ?_
  have r1_3 := (row_ext r1_2 e3)
  have r1_4 := (row_ext r1_3 e4)
  have r2_3 := (row_ext r2_2 e3)
  have r2_4 := (row_ext r2_3 e4)
  refine seq_call (.agg (cat [ints .u8 (j), ints .u8 (jw), ints .u8 (ep), ints .u8 (f3), ints .u8 (f4), ints .u8 (f5), ints .u8 (f6)])) 30 #[.agg (ints .u8 (ini)), .agg (ints .u8 (com)), .slice (some ⟨gk12, 0, none⟩) (ctx).length ck12] 24 rfl kj kj ((nextN ini com ctx _ _ tc tq _ r1_4 r2_4 hil hib hol hob hxb (RdK.ext (CopyN.rd hv11) (Rely.Ext.refl W4)) hm j jw ep f3 f4 f5 f6 ehm ej ejw eep ef3 ef4 ef5 ef6)) fun W5 e5 => ?_
  have x5 : Ext w W5 := Ext.tr x4 e5
  refine seq_alloc (cat [ints .u8 (List.replicate 32 0), ints .u8 (List.replicate 32 0), ints .u8 (List.replicate 32 0), ints .u8 (List.replicate 32 0), ints .u8 (List.replicate 32 0), ints .u8 (List.replicate 32 0), ints .u8 (List.replicate 32 0)]) 56 8 rfl kj kj fun g14 W6 l14 e6 r14_6 => ?_
  have x6 : Ext w W6 := Ext.tr x5 e6
  have b14 : w.heap.size ≤ g14 := Nat.le_trans x5.size l14
  refine seq_store g14 _ (cat [ints .u8 (j), ints .u8 (jw), ints .u8 (ep), ints .u8 (f3), ints .u8 (f4), ints .u8 (f5), ints .u8 (f6)]) 56 r14_6 rfl kj (run_store_row 56 _ _ g14 56 _ _ r14_6 rfl kj kj (isz (n := 224) kj (by rw [cat_cons, cat_cons, cat_cons, cat_cons, cat_cons, cat_cons, cat_cons]; simp only [Array.size_append, cat, ((ints_size _ _).trans hjl), ((ints_size _ _).trans lep), ((ints_size _ _).trans lf3), ((ints_size _ _).trans lf4), ((ints_size _ _).trans lf5), ((ints_size _ _).trans lf6), ((ints_size _ _).trans ljw)]; rfl)) (eqsz (n := 224) (by rw [cat_cons, cat_cons, cat_cons, cat_cons, cat_cons, cat_cons, cat_cons]; simp only [Array.size_append, cat, ((ints_size _ _).trans (List.length_replicate (n := 32)))]; rfl) (by rw [cat_cons, cat_cons, cat_cons, cat_cons, cat_cons, cat_cons, cat_cons]; simp only [Array.size_append, cat, ((ints_size _ _).trans hjl), ((ints_size _ _).trans lep), ((ints_size _ _).trans lf3), ((ints_size _ _).trans lf4), ((ints_size _ _).trans lf5), ((ints_size _ _).trans lf6), ((ints_size _ _).trans ljw)]; rfl)) (cat_one _ (by intro a ha; simp only [List.mem_cons, List.not_mem_nil, or_false] at ha; rcases ha with rfl | rfl | rfl | rfl | rfl | rfl | rfl; exact (ints_one _ _); exact (ints_one _ _); exact (ints_one _ _); exact (ints_one _ _); exact (ints_one _ _); exact (ints_one _ _); exact (ints_one _ _)))) fun W7 p7 r14_7 => ?_
  have x7 : Ext w W7 := Puts.ext p7 x6 b14
  refine seq_nil ?_
  refine hK13 _ _ ?_
  try clear hK13 K13
  refine wp_seq_k fun K15 hK15 => ?_
  refine any_regionE 17 [⟨none, [(8, none)]⟩, ⟨none, [(3, none)]⟩, ⟨none, [(4, none)]⟩, ⟨none, [(2, none)]⟩, ⟨none, [(26, some 1), (27, some 2), (28, some 3)]⟩, ⟨none, [(25, some 0), (29, some 4)]⟩, ⟨none, [(30, some 5)]⟩, ⟨some (31, true), [(7, none), (31, some 6)]⟩, ⟨some (31, true), [(2, none), (31, some 6)]⟩, ⟨some (31, true), [(32, some 7), (33, some 8), (31, some 6)]⟩, ⟨none, [(31, some 6), (34, some 9)]⟩, ⟨none, [(35, some 10)]⟩, ⟨some (36, true), [(3, none), (36, some 11)]⟩, ⟨some (36, true), [(7, none), (36, some 11)]⟩, ⟨some (36, true), [(37, some 12), (38, some 13), (36, some 11)]⟩, ⟨some (36, true), [(3, none), (36, some 11)]⟩, ⟨some (36, true), [(2, none), (36, some 11)]⟩] kj kj fun F hF => ?_
  refine e_read (rl_ext _) (.agg (cat [ints .u8 (j), ints .u8 (jw), ints .u8 (ep), ints .u8 (f3), ints .u8 (f4), ints .u8 (f5), ints .u8 (f6)])) kj kj (fun W hR => (run_load_row 56 _ g14 56 _ _ (row_ext (row_ext r14_7 (ext_drew _)) hR) rfl kj kj (isz (n := 224) kj (by rw [cat_cons, cat_cons, cat_cons, cat_cons, cat_cons, cat_cons, cat_cons]; simp only [Array.size_append, cat, ((ints_size _ _).trans hjl), ((ints_size _ _).trans lep), ((ints_size _ _).trans lf3), ((ints_size _ _).trans lf4), ((ints_size _ _).trans lf5), ((ints_size _ _).trans lf6), ((ints_size _ _).trans ljw)]; rfl)))) ?_
  have r4_5 := (row_ext r4_4 e5)
  have r4_6 := (row_ext r4_5 e6)
  have r4_7 := (Puts.row p7 r4_6 (ne_of_old r4_5 l14))
  refine e_read (rl_ext _) (.agg (ints .u8 (ini))) kj kj (fun W hR => (run_load_row 26 _ g4 26 _ _ (row_ext (row_ext r4_7 (ext_drew _)) hR) rfl kj kj (isz (n := 32) kj ((ints_size _ _).trans hil)))) ?_
  have r5_5 := (row_ext r5_4 e5)
  have r5_6 := (row_ext r5_5 e6)
  have r5_7 := (Puts.row p7 r5_6 (ne_of_old r5_5 l14))
  refine e_read (rl_ext _) (.agg (ints .u8 (com))) kj kj (fun W hR => (run_load_row 26 _ g5 26 _ _ (row_ext (row_ext r5_7 (ext_drew _)) hR) rfl kj kj (isz (n := 32) kj ((ints_size _ _).trans hol)))) ?_
  refine e_val (rl_ext _) (.slice a_ctx ctx.length c_ctx) kj kj (fun W => by kernel_rfl) ?_
  refine e_call (rl_ext _) (.agg (cat [ints .u8 (j), ints .u8 (jw), ints .u8 (ep), ints .u8 (f3), ints .u8 (f4), ints .u8 (f5), ints .u8 (f6)])) 31 #[.agg (ints .u8 (ini)), .agg (ints .u8 (com)), .slice a_ctx ctx.length c_ctx] kj kj (fun W => by kernel_rfl) (fun W hR => (rnextN ini com ctx _ _ W hil hib hol hob hxb ((RdK.ext hx x7).ext (Rely.Ext.trans (ext_drew _) hR)) hm j jw ep f3 f4 f5 f6 ehm ej ejw eep ef3 ef4 ef5 ef6)) ?_
  refine e_val (rl_ext _) (.bool true) kj kj (fun W => (run_eql_agg 56 _ _ _ _ _ (.bool true) rfl kj kj kj (eql_st _ (a := 26) (e := 5) (m := 224) (n := 32) ([j, jw, ep, f3, f4, f5, f6] : List (List Int)).flatten (by simp only [List.flatten_cons, List.flatten_nil, List.length_append, List.length_nil, hjl, lep, lf3, lf4, lf5, lf6, ljw]) kj kj kj kj kj kj kj (cat_ints [j, jw, ep, f3, f4, f5, f6])))) ?_
  refine e_val (rl_ext _) (.bool true) kj kj (fun W => by kernel_rfl) ?_
  refine e_val (rl_ext _) (.slice (some ⟨gk12, 0, none⟩) (ctx).length ck12) kj kj (fun W => by kernel_rfl) ?_
  refine e_val (rl_ext _) (.slice a_ctx ctx.length c_ctx) kj kj (fun W => by kernel_rfl) ?_
  have y4_5 : Ext W4 W5 := (Rely.Ext.trans (Rely.Ext.refl W4) e5)
  have y4_6 : Ext W4 W6 := (Rely.Ext.trans y4_5 e6)
  have y4_7 : Ext W4 W7 := (Puts.ext p7 y4_6 (Nat.le_trans y4_5.size l14))
  refine e_call (rl_ext _) (.bool true) 18 #[.slice (some ⟨gk12, 0, none⟩) (ctx).length ck12, .slice a_ctx ctx.length c_ctx] kj kj (fun W => by kernel_rfl) (fun W hR => (keptC ctx _ _ _ _ W (by omega) hxb (CopyN.ext (CopyN.ext hv11 y4_7) (Rely.Ext.trans (ext_drew _) hR)) ((RdK.ext hx x7).ext (Rely.Ext.trans (ext_drew _) hR)))) ?_
  refine e_val (rl_ext _) (.bool true) kj kj (fun W => by kernel_rfl) ?_
  refine e_val (rl_ext _) (.bool true) kj kj (fun W => by kernel_rfl) ?_
  refine e_read (rl_ext _) (.agg (ints .u8 (ini))) kj kj (fun W hR => (run_load_row 26 _ g4 26 _ _ (row_ext (row_ext r4_7 (ext_drew _)) hR) rfl kj kj (isz (n := 32) kj ((ints_size _ _).trans hil)))) ?_
  refine e_val (rl_ext _) (.slice (some ⟨gk12, 0, none⟩) (ctx).length ck12) kj kj (fun W => by kernel_rfl) ?_
  have r1_5 := (row_ext r1_4 e5)
  have r1_6 := (row_ext r1_5 e6)
  have r1_7 := (Puts.row p7 r1_6 (ne_of_old r1_5 l14))
  have r2_5 := (row_ext r2_4 e5)
  have r2_6 := (row_ext r2_5 e6)
  have r2_7 := (Puts.row p7 r2_6 (ne_of_old r2_5 l14))
  refine e_call (rl_ext _) (.agg (cat [ints .u8 (ini), ints .u8 (kw), ints .u8 (kp), ints .u8 (k3), ints .u8 (k4), ints .u8 (k5), ints .u8 (k6)])) 32 #[.agg (ints .u8 (ini)), .slice (some ⟨gk12, 0, none⟩) (ctx).length ck12] kj kj (fun W => by kernel_rfl) (fun W hR => (joinedN ini ctx _ _ tc tq W (row_ext (row_ext r1_7 (ext_drew _)) hR) (row_ext (row_ext r2_7 (ext_drew _)) hR) hil hib hxb ((RdK.ext (CopyN.rd hv11) y4_7).ext (Rely.Ext.trans (ext_drew _) hR)) kw kp k3 k4 k5 k6 ekw ekp ek3 ek4 ek5 ek6)) ?_
  refine e_read (rl_ext _) (.agg (ints .u8 (ini))) kj kj (fun W hR => (run_load_row 26 _ g4 26 _ _ (row_ext (row_ext r4_7 (ext_drew _)) hR) rfl kj kj (isz (n := 32) kj ((ints_size _ _).trans hil)))) ?_
  refine e_val (rl_ext _) (.slice a_ctx ctx.length c_ctx) kj kj (fun W => by kernel_rfl) ?_
  refine e_nil (hF _ fun W8 e8 => ?_)
  simp only [List.nil_append, List.cons_append, List.take_succ_cons, List.take_zero, List.drop_succ_cons, List.drop_zero, finE, up]
  clear hF
  have x8 : Ext w W8 := Ext.tr x7 e8
  refine seq_call (.agg (cat [ints .u8 (ini), ints .u8 (kw), ints .u8 (kp), ints .u8 (k3), ints .u8 (k4), ints .u8 (k5), ints .u8 (k6)])) 33 #[.agg (ints .u8 (ini)), .slice a_ctx ctx.length c_ctx] 42 rfl kj kj ((rjoinedN ini ctx _ _ _ hil hib hxb (RdK.ext hx x8) kw kp k3 k4 k5 k6 ekw ekp ek3 ek4 ek5 ek6)) fun W9 e9 => ?_
  have x9 : Ext w W9 := Ext.tr x8 e9
  refine seq_val (.bool true) 43 rfl kj (run_eql_agg 56 _ _ _ _ _ (.bool true) rfl kj kj kj (eql_st _ (a := 26) (e := 5) (m := 224) (n := 32) ([ini, kw, kp, k3, k4, k5, k6] : List (List Int)).flatten (by simp only [List.flatten_cons, List.flatten_nil, List.length_append, List.length_nil, hil, lk3, lk4, lk5, lk6, lkp, lkw]) kj kj kj kj kj kj kj (cat_ints [ini, kw, kp, k3, k4, k5, k6]))) ?_
  refine seq_val (.bool true) 44 rfl kj kj ?_
  refine seq_val (.bool true) 6 rfl kj kj ?_
  refine seq_nil ?_
  refine hK15 _ _ ?_
  try clear hK15 K15
  refine wp_ret ?_
  repeat (first | with_reducible refine goR1 ?_ | with_reducible refine goR2 ?_)
  exact (show bodyPost _ _ _ .ret _ _ from ret1 (.bool true) rfl (res_tmp kj) ⟨rfl, x9⟩)
theorem lawNext (ini com ctx : List Int) (v2 : Value) (B2 : Nat) (tc tq : TypeId) (w : World) (hc : w.heap[1]? = some (.cells (ints .u64 cubesI) tc)) (hq : w.heap[0]? = some (.cells (ints .u64 squaresI) tq)) (hil : ini.length = 32) (hib : AreBytes ini) (hol : com.length = 32) (hob : AreBytes com) (hxb : AreBytes ctx) (hx : RdK .u8 B2 ctx v2 w) (hl : ctx.length ≤ 900000000) : Calls Tryd.prog 9 #[.agg (ints .u8 ini), .agg (ints .u8 com), v2] w (Ret w (.bool true)) := by
  by_cases h1 : ctx.length ≤ 1000
  · exact next_B ini com ctx v2 B2 tc tq w hc hq hil hib hol hob hxb hx h1
  by_cases h2 : ctx.length ≤ 65536
  · exact next_A ini com ctx v2 B2 tc tq w hc hq hil hib hol hob hxb hx (by omega) h2
  · exact next_C ini com ctx v2 B2 tc tq w hc hq hil hib hol hob hxb hx (by omega) hl

end Go.Proofs.YtamlhbbphnamnaaDoor.Sha
