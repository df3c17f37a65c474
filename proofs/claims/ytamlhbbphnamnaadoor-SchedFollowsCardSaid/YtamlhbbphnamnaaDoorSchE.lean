/- The key schedule: the next epoch. -/
import Derived.Test.YtamlhbbphnamnaaDoorSchD
namespace Go.Proofs.YtamlhbbphnamnaaDoor.Sha
open Go Go.RowKit
open Go.Proofs.YtamlhbbphnamnaaDoor.Rely Go.Proofs.YtamlhbbphnamnaaDoor.Auto Go.Proofs.YtamlhbbphnamnaaDoor.Own
set_option linter.unusedVariables false
set_option linter.unusedSimpArgs false

set_option maxRecDepth 100000 in
set_option maxHeartbeats 4000000 in
theorem nextN (ini com ctx : List Int) (v2 : Value) (B2 : Nat) (tc tq : TypeId) (w : World) (hc : w.heap[1]? = some (.cells (ints .u64 cubesI) tc)) (hq : w.heap[0]? = some (.cells (ints .u64 squaresI) tq)) (hil : ini.length = 32) (hib : AreBytes ini) (hcl : com.length = 32) (hcb : AreBytes com) (hxb : AreBytes ctx) (hx : RdK .u8 B2 ctx v2 w) (hm j jw ep f3 f4 f5 f6 : List Int) (ehm : hm = hmac ini com) (ej : j = labV hm (strB sJoiner) ctx) (ejw : jw = deriveV j (strB sWelcome)) (eep : ep = labV j (strB sEpoch) ctx) (ef3 : f3 = deriveV ep (strB sConfirm)) (ef4 : f4 = deriveV ep (strB sPackets)) (ef5 : f5 = deriveV ep (strB sExport)) (ef6 : f6 = deriveV ep (strB sInit)) : Calls Tryd.prog 30 #[.agg (ints .u8 ini), .agg (ints .u8 com), v2] w (Ret w (.agg (cat [ints .u8 j, ints .u8 jw, ints .u8 ep, ints .u8 f3, ints .u8 f4, ints .u8 f5, ints .u8 f6]))) := by
  obtain ⟨a_ctx, c_ctx, rfl, -⟩ := id hx
  have lhm : hm.length = 32 := by rw [ehm]; exact hmac_len _ _
  have bhm : AreBytes hm := by rw [ehm]; exact hmac_bytes _ _
  have hjl : j.length = 32 := by rw [ej]; exact labV_len _ _ _
  have hjb : AreBytes j := by rw [ej]; exact labV_bytes _ _ _
  have ljw : jw.length = 32 := by rw [ejw]; exact deriveV_len _ _
  have lep : ep.length = 32 := by rw [eep]; exact labV_len _ _ _
  have lf3 : f3.length = 32 := by rw [ef3]; exact deriveV_len _ _
  have lf4 : f4.length = 32 := by rw [ef4]; exact deriveV_len _ _
  have lf5 : f5.length = 32 := by rw [ef5]; exact deriveV_len _ _
  have lf6 : f6.length = 32 := by rw [ef6]; exact deriveV_len _ _
  have bep : AreBytes ep := by rw [eep]; exact labV_bytes _ _ _
  refine enter 14 [(0, .agg (ints .u8 (ini))), (1, .agg (ints .u8 (com))), (2, .slice a_ctx ctx.length c_ctx)] Tryd.func30 rfl rfl kj rfl ?_
  refine wp_seq_k fun K3 hK3 => ?_
  refine region_lit ?_
  refine seq_alloc (ints .u8 (ini)) 26 3 rfl kj kj fun g4 W1 l4 e1 r4_1 => ?_
  have x1 : Ext w W1 := Ext.tr (Rely.Ext.refl w) e1
  have b4 : w.heap.size ≤ g4 := Nat.le_trans (Rely.Ext.refl w).size l4
  refine seq_alloc (ints .u8 (com)) 26 4 rfl kj kj fun g5 W2 l5 e2 r5_2 => ?_
  have x2 : Ext w W2 := Ext.tr x1 e2
  have b5 : w.heap.size ≤ g5 := Nat.le_trans x1.size l5
  refine seq_alloc (cat [ints .u8 (List.replicate 32 0), ints .u8 (List.replicate 32 0), ints .u8 (List.replicate 32 0), ints .u8 (List.replicate 32 0), ints .u8 (List.replicate 32 0), ints .u8 (List.replicate 32 0), ints .u8 (List.replicate 32 0)]) 56 6 rfl kj kj fun g6 W3 l6 e3 r6_3 => ?_
  have x3 : Ext w W3 := Ext.tr x2 e3
  have b6 : w.heap.size ≤ g6 := Nat.le_trans x2.size l6
  refine seq_nil ?_
  refine hK3 _ _ ?_
  try clear hK3 K3
  refine wp_seq_k fun K7 hK7 => ?_
  refine any_regionE 7 [⟨none, [(3, none)]⟩, ⟨none, [(4, none)]⟩, ⟨none, [(7, some 0), (8, some 1)]⟩, ⟨none, [(2, none)]⟩, ⟨none, [(9, some 2), (10, some 3)]⟩, ⟨none, [(2, none)]⟩, ⟨none, [(11, some 4), (12, some 5)]⟩] kj kj fun F hF => ?_
  refine e_val (rl_ext _) (.slice (some ⟨g4, 0, none⟩) 32 32) kj kj (fun W => by kernel_rfl) ?_
  refine e_val (rl_ext _) (.slice (some ⟨g5, 0, none⟩) 32 32) kj kj (fun W => by kernel_rfl) ?_
  have r4_2 := (row_ext r4_1 e2)
  have r4_3 := (row_ext r4_2 e3)
  have r5_3 := (row_ext r5_2 e3)
  have r1_1 := (row_ext hc e1)
  have r1_2 := (row_ext r1_1 e2)
  have r1_3 := (row_ext r1_2 e3)
  have r2_1 := (row_ext hq e1)
  have r2_2 := (row_ext r2_1 e2)
  have r2_3 := (row_ext r2_2 e3)
  refine e_call (rl_ext _) (.agg (ints .u8 (hm))) 17 #[.slice (some ⟨g4, 0, none⟩) 32 32, .slice (some ⟨g5, 0, none⟩) 32 32] kj kj (fun W => by kernel_rfl) (fun W hR => (by have h3 := (row_ext (row_ext r4_3 (ext_drew _)) hR); have h4 := (row_ext (row_ext r5_3 (ext_drew _)) hR); rw [ehm]; exact extractC ini com _ _ _ _ tc tq W (row_ext (row_ext r1_3 (ext_drew _)) hR) (row_ext (row_ext r2_3 (ext_drew _)) hR) (by omega) (by omega) hib hcb (rdK_ints (xs := ini) (n := 32) hil h3 (row_lt h3) (by decide)) (rdK_ints (xs := com) (n := 32) hcl h4 (row_lt h4) (by decide)))) ?_
  refine e_val (rl_ext _) (.slice a_ctx ctx.length c_ctx) kj kj (fun W => by kernel_rfl) ?_
  refine e_call (rl_ext _) (.agg (ints .u8 (j))) 51 #[.agg (ints .u8 (hm)), .string sJoiner, .slice a_ctx ctx.length c_ctx] kj kj (fun W => by kernel_rfl) (fun W hR => (by rw [ej]; exact labelledC hm ctx sJoiner _ B2 tc tq W (row_ext (row_ext r1_3 (ext_drew _)) hR) (row_ext (row_ext r2_3 (ext_drew _)) hR) lhm bhm hxb ((RdK.ext hx x3).ext (Rely.Ext.trans (ext_drew _) hR)))) ?_
  refine e_val (rl_ext _) (.slice a_ctx ctx.length c_ctx) kj kj (fun W => by kernel_rfl) ?_
  refine e_call (rl_ext _) (.agg (cat [ints .u8 (j), ints .u8 (jw), ints .u8 (ep), ints .u8 (f3), ints .u8 (f4), ints .u8 (f5), ints .u8 (f6)])) 32 #[.agg (ints .u8 (j)), .slice a_ctx ctx.length c_ctx] kj kj (fun W => by kernel_rfl) (fun W hR => (joinedN j ctx _ B2 tc tq W (row_ext (row_ext r1_3 (ext_drew _)) hR) (row_ext (row_ext r2_3 (ext_drew _)) hR) hjl hjb hxb ((RdK.ext hx x3).ext (Rely.Ext.trans (ext_drew _) hR)) jw ep f3 f4 f5 f6 ejw eep ef3 ef4 ef5 ef6)) ?_
  refine e_nil (hF _ fun W4 e4 => ?_)
  simp only [List.nil_append, List.cons_append, List.take_succ_cons, List.take_zero, List.drop_succ_cons, List.drop_zero, finE, up]
  clear hF
  have x4 : Ext w W4 := Ext.tr x3 e4
  have r6_4 := (row_ext r6_3 e4)
  refine seq_store g6 _ (cat [ints .u8 (j), ints .u8 (jw), ints .u8 (ep), ints .u8 (f3), ints .u8 (f4), ints .u8 (f5), ints .u8 (f6)]) 56 r6_4 rfl kj (run_store_row 56 _ _ g6 56 _ _ r6_4 rfl kj kj (isz (n := 224) kj (by rw [cat_cons, cat_cons, cat_cons, cat_cons, cat_cons, cat_cons, cat_cons]; simp only [Array.size_append, cat, ((ints_size _ _).trans hjl), ((ints_size _ _).trans lep), ((ints_size _ _).trans lf3), ((ints_size _ _).trans lf4), ((ints_size _ _).trans lf5), ((ints_size _ _).trans lf6), ((ints_size _ _).trans ljw)]; rfl)) (eqsz (n := 224) (by rw [cat_cons, cat_cons, cat_cons, cat_cons, cat_cons, cat_cons, cat_cons]; simp only [Array.size_append, cat, ((ints_size _ _).trans (List.length_replicate (n := 32)))]; rfl) (by rw [cat_cons, cat_cons, cat_cons, cat_cons, cat_cons, cat_cons, cat_cons]; simp only [Array.size_append, cat, ((ints_size _ _).trans hjl), ((ints_size _ _).trans lep), ((ints_size _ _).trans lf3), ((ints_size _ _).trans lf4), ((ints_size _ _).trans lf5), ((ints_size _ _).trans lf6), ((ints_size _ _).trans ljw)]; rfl)) (cat_one _ (by intro a ha; simp only [List.mem_cons, List.not_mem_nil, or_false] at ha; rcases ha with rfl | rfl | rfl | rfl | rfl | rfl | rfl; exact (ints_one _ _); exact (ints_one _ _); exact (ints_one _ _); exact (ints_one _ _); exact (ints_one _ _); exact (ints_one _ _); exact (ints_one _ _)))) fun W5 p5 r6_5 => ?_
  have x5 : Ext w W5 := Puts.ext p5 x4 b6
  refine seq_nil ?_
  refine hK7 _ _ ?_
  try clear hK7 K7
  refine wp_ret ?_
  repeat (first | with_reducible refine goR1 ?_ | with_reducible refine goR2 ?_)
  exact (show bodyPost _ _ _ .ret _ _ from ret1 (.agg (cat [ints .u8 (j), ints .u8 (jw), ints .u8 (ep), ints .u8 (f3), ints .u8 (f4), ints .u8 (f5), ints .u8 (f6)])) rfl (res_cell g6 56 _ r6_5 kj kj (isz (n := 224) kj (by rw [cat_cons, cat_cons, cat_cons, cat_cons, cat_cons, cat_cons, cat_cons]; simp only [Array.size_append, cat, ((ints_size _ _).trans hjl), ((ints_size _ _).trans lep), ((ints_size _ _).trans lf3), ((ints_size _ _).trans lf4), ((ints_size _ _).trans lf5), ((ints_size _ _).trans lf6), ((ints_size _ _).trans ljw)]; rfl))) ⟨rfl, x5⟩)
set_option maxRecDepth 100000 in
set_option maxHeartbeats 4000000 in
theorem rnextN (ini com ctx : List Int) (v2 : Value) (B2 : Nat) (w : World)   (hil : ini.length = 32) (hib : AreBytes ini) (hcl : com.length = 32) (hcb : AreBytes com) (hxb : AreBytes ctx) (hx : RdK .u8 B2 ctx v2 w) (hm j jw ep f3 f4 f5 f6 : List Int) (ehm : hm = hmac ini com) (ej : j = labV hm (strB sJoiner) ctx) (ejw : jw = deriveV j (strB sWelcome)) (eep : ep = labV j (strB sEpoch) ctx) (ef3 : f3 = deriveV ep (strB sConfirm)) (ef4 : f4 = deriveV ep (strB sPackets)) (ef5 : f5 = deriveV ep (strB sExport)) (ef6 : f6 = deriveV ep (strB sInit)) : Calls Tryd.prog 31 #[.agg (ints .u8 ini), .agg (ints .u8 com), v2] w (Ret w (.agg (cat [ints .u8 j, ints .u8 jw, ints .u8 ep, ints .u8 f3, ints .u8 f4, ints .u8 f5, ints .u8 f6]))) := by
  obtain ⟨a_ctx, c_ctx, rfl, -⟩ := id hx
  have lhm : hm.length = 32 := by rw [ehm]; exact hmac_len _ _
  have bhm : AreBytes hm := by rw [ehm]; exact hmac_bytes _ _
  have hjl : j.length = 32 := by rw [ej]; exact labV_len _ _ _
  have hjb : AreBytes j := by rw [ej]; exact labV_bytes _ _ _
  have ljw : jw.length = 32 := by rw [ejw]; exact deriveV_len _ _
  have lep : ep.length = 32 := by rw [eep]; exact labV_len _ _ _
  have lf3 : f3.length = 32 := by rw [ef3]; exact deriveV_len _ _
  have lf4 : f4.length = 32 := by rw [ef4]; exact deriveV_len _ _
  have lf5 : f5.length = 32 := by rw [ef5]; exact deriveV_len _ _
  have lf6 : f6.length = 32 := by rw [ef6]; exact deriveV_len _ _
  have bep : AreBytes ep := by rw [eep]; exact labV_bytes _ _ _
  refine enter 14 [(0, .agg (ints .u8 (ini))), (1, .agg (ints .u8 (com))), (2, .slice a_ctx ctx.length c_ctx)] Tryd.func31 rfl rfl kj rfl ?_
  refine wp_seq_k fun K1 hK1 => ?_
  refine region_lit ?_
  refine seq_alloc (ints .u8 (ini)) 26 3 rfl kj kj fun g2 W1 l2 e1 r2_1 => ?_
  have x1 : Ext w W1 := Ext.tr (Rely.Ext.refl w) e1
  have b2 : w.heap.size ≤ g2 := Nat.le_trans (Rely.Ext.refl w).size l2
  refine seq_alloc (ints .u8 (com)) 26 4 rfl kj kj fun g3 W2 l3 e2 r3_2 => ?_
  have x2 : Ext w W2 := Ext.tr x1 e2
  have b3 : w.heap.size ≤ g3 := Nat.le_trans x1.size l3
  refine seq_alloc (cat [ints .u8 (List.replicate 32 0), ints .u8 (List.replicate 32 0), ints .u8 (List.replicate 32 0), ints .u8 (List.replicate 32 0), ints .u8 (List.replicate 32 0), ints .u8 (List.replicate 32 0), ints .u8 (List.replicate 32 0)]) 56 6 rfl kj kj fun g4 W3 l4 e3 r4_3 => ?_
  have x3 : Ext w W3 := Ext.tr x2 e3
  have b4 : w.heap.size ≤ g4 := Nat.le_trans x2.size l4
  refine seq_nil ?_
  refine hK1 _ _ ?_
  try clear hK1 K1
  refine wp_seq_k fun K5 hK5 => ?_
  refine any_regionE 7 [⟨none, [(3, none)]⟩, ⟨none, [(4, none)]⟩, ⟨none, [(7, some 0), (8, some 1)]⟩, ⟨none, [(2, none)]⟩, ⟨none, [(9, some 2), (10, some 3)]⟩, ⟨none, [(2, none)]⟩, ⟨none, [(11, some 4), (12, some 5)]⟩] kj kj fun F hF => ?_
  refine e_val (rl_ext _) (.slice (some ⟨g2, 0, none⟩) 32 32) kj kj (fun W => by kernel_rfl) ?_
  refine e_val (rl_ext _) (.slice (some ⟨g3, 0, none⟩) 32 32) kj kj (fun W => by kernel_rfl) ?_
  have r2_2 := (row_ext r2_1 e2)
  have r2_3 := (row_ext r2_2 e3)
  have r3_3 := (row_ext r3_2 e3)
  refine e_call (rl_ext _) (.agg (ints .u8 (hm))) 16 #[.slice (some ⟨g2, 0, none⟩) 32 32, .slice (some ⟨g3, 0, none⟩) 32 32] kj kj (fun W => by kernel_rfl) (fun W hR => (by have h3 := (row_ext (row_ext r2_3 (ext_drew _)) hR); have h4 := (row_ext (row_ext r3_3 (ext_drew _)) hR); rw [ehm]; exact rtagC ini com _ _ _ _ W  (by omega) (by omega) hib hcb (rdK_ints (xs := ini) (n := 32) hil h3 (row_lt h3) (by decide)) (rdK_ints (xs := com) (n := 32) hcl h4 (row_lt h4) (by decide)))) ?_
  refine e_val (rl_ext _) (.slice a_ctx ctx.length c_ctx) kj kj (fun W => by kernel_rfl) ?_
  refine e_call (rl_ext _) (.agg (ints .u8 (j))) 52 #[.agg (ints .u8 (hm)), .string sJoiner, .slice a_ctx ctx.length c_ctx] kj kj (fun W => by kernel_rfl) (fun W hR => (by rw [ej]; exact rlabelledC hm ctx sJoiner _ B2 W  lhm bhm hxb ((RdK.ext hx x3).ext (Rely.Ext.trans (ext_drew _) hR)))) ?_
  refine e_val (rl_ext _) (.slice a_ctx ctx.length c_ctx) kj kj (fun W => by kernel_rfl) ?_
  refine e_call (rl_ext _) (.agg (cat [ints .u8 (j), ints .u8 (jw), ints .u8 (ep), ints .u8 (f3), ints .u8 (f4), ints .u8 (f5), ints .u8 (f6)])) 33 #[.agg (ints .u8 (j)), .slice a_ctx ctx.length c_ctx] kj kj (fun W => by kernel_rfl) (fun W hR => (rjoinedN j ctx _ B2 W  hjl hjb hxb ((RdK.ext hx x3).ext (Rely.Ext.trans (ext_drew _) hR)) jw ep f3 f4 f5 f6 ejw eep ef3 ef4 ef5 ef6)) ?_
  refine e_nil (hF _ fun W4 e4 => ?_)
  simp only [List.nil_append, List.cons_append, List.take_succ_cons, List.take_zero, List.drop_succ_cons, List.drop_zero, finE, up]
  clear hF
  have x4 : Ext w W4 := Ext.tr x3 e4
  have r4_4 := (row_ext r4_3 e4)
  refine seq_store g4 _ (cat [ints .u8 (j), ints .u8 (jw), ints .u8 (ep), ints .u8 (f3), ints .u8 (f4), ints .u8 (f5), ints .u8 (f6)]) 56 r4_4 rfl kj (run_store_row 56 _ _ g4 56 _ _ r4_4 rfl kj kj (isz (n := 224) kj (by rw [cat_cons, cat_cons, cat_cons, cat_cons, cat_cons, cat_cons, cat_cons]; simp only [Array.size_append, cat, ((ints_size _ _).trans hjl), ((ints_size _ _).trans lep), ((ints_size _ _).trans lf3), ((ints_size _ _).trans lf4), ((ints_size _ _).trans lf5), ((ints_size _ _).trans lf6), ((ints_size _ _).trans ljw)]; rfl)) (eqsz (n := 224) (by rw [cat_cons, cat_cons, cat_cons, cat_cons, cat_cons, cat_cons, cat_cons]; simp only [Array.size_append, cat, ((ints_size _ _).trans (List.length_replicate (n := 32)))]; rfl) (by rw [cat_cons, cat_cons, cat_cons, cat_cons, cat_cons, cat_cons, cat_cons]; simp only [Array.size_append, cat, ((ints_size _ _).trans hjl), ((ints_size _ _).trans lep), ((ints_size _ _).trans lf3), ((ints_size _ _).trans lf4), ((ints_size _ _).trans lf5), ((ints_size _ _).trans lf6), ((ints_size _ _).trans ljw)]; rfl)) (cat_one _ (by intro a ha; simp only [List.mem_cons, List.not_mem_nil, or_false] at ha; rcases ha with rfl | rfl | rfl | rfl | rfl | rfl | rfl; exact (ints_one _ _); exact (ints_one _ _); exact (ints_one _ _); exact (ints_one _ _); exact (ints_one _ _); exact (ints_one _ _); exact (ints_one _ _)))) fun W5 p5 r4_5 => ?_
  have x5 : Ext w W5 := Puts.ext p5 x4 b4
  refine seq_nil ?_
  refine hK5 _ _ ?_
  try clear hK5 K5
  refine wp_ret ?_
  repeat (first | with_reducible refine goR1 ?_ | with_reducible refine goR2 ?_)
  exact (show bodyPost _ _ _ .ret _ _ from ret1 (.agg (cat [ints .u8 (j), ints .u8 (jw), ints .u8 (ep), ints .u8 (f3), ints .u8 (f4), ints .u8 (f5), ints .u8 (f6)])) rfl (res_cell g4 56 _ r4_5 kj kj (isz (n := 224) kj (by rw [cat_cons, cat_cons, cat_cons, cat_cons, cat_cons, cat_cons, cat_cons]; simp only [Array.size_append, cat, ((ints_size _ _).trans hjl), ((ints_size _ _).trans lep), ((ints_size _ _).trans lf3), ((ints_size _ _).trans lf4), ((ints_size _ _).trans lf5), ((ints_size _ _).trans lf6), ((ints_size _ _).trans ljw)]; rfl))) ⟨rfl, x5⟩)
def joinerV (ini com ctx : List Int) : List Int := labV (hmac ini com) (strB sJoiner) ctx
theorem nextC (ini com ctx : List Int) (v2 : Value) (B2 : Nat) (tc tq : TypeId) (w : World) (hc : w.heap[1]? = some (.cells (ints .u64 cubesI) tc)) (hq : w.heap[0]? = some (.cells (ints .u64 squaresI) tq)) (hil : ini.length = 32) (hib : AreBytes ini) (hcl : com.length = 32) (hcb : AreBytes com) (hxb : AreBytes ctx) (hx : RdK .u8 B2 ctx v2 w) : Calls Tryd.prog 30 #[.agg (ints .u8 ini), .agg (ints .u8 com), v2] w (Ret w (.agg (secsV (joinerV ini com ctx) ctx))) :=
  nextN ini com ctx v2 B2 tc tq w hc hq hil hib hcl hcb hxb hx _ _ _ _ _ _ _ _ rfl rfl rfl rfl rfl rfl rfl rfl
theorem rnextC (ini com ctx : List Int) (v2 : Value) (B2 : Nat) (w : World)   (hil : ini.length = 32) (hib : AreBytes ini) (hcl : com.length = 32) (hcb : AreBytes com) (hxb : AreBytes ctx) (hx : RdK .u8 B2 ctx v2 w) : Calls Tryd.prog 31 #[.agg (ints .u8 ini), .agg (ints .u8 com), v2] w (Ret w (.agg (secsV (joinerV ini com ctx) ctx))) :=
  rnextN ini com ctx v2 B2 w hil hib hcl hcb hxb hx _ _ _ _ _ _ _ _ rfl rfl rfl rfl rfl rfl rfl rfl

end Go.Proofs.YtamlhbbphnamnaaDoor.Sha
