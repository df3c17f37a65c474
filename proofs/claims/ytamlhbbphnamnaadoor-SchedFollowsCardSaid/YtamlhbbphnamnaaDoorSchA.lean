/- The key schedule: labelled secrets of 32 bytes. -/
import Derived.Test.YtamlhbbphnamnaaDoorKexN
namespace Go.Proofs.YtamlhbbphnamnaaDoor.Sha
open Go Go.RowKit
open Go.Proofs.YtamlhbbphnamnaaDoor.Rely Go.Proofs.YtamlhbbphnamnaaDoor.Auto Go.Proofs.YtamlhbbphnamnaaDoor.Own
set_option linter.unusedVariables false
set_option linter.unusedSimpArgs false

def labV (sec lab ctx : List Int) : List Int := if lab.length ≤ 255 ∧ ctx.length ≤ 65536 then kx sec (infoL lab ctx 32) 32 else List.replicate 32 0
theorem labV_len (sec lab ctx : List Int) : (labV sec lab ctx).length = 32 := by
  unfold labV
  split
  · exact kx_len _ _ _
  · exact List.length_replicate
theorem zeros_bytes : AreBytes (List.replicate 32 (0 : Int)) := fun x hx => by rw [(List.mem_replicate.1 hx).2]; decide
theorem labV_bytes (sec lab ctx : List Int) : AreBytes (labV sec lab ctx) := by
  unfold labV
  split
  · exact kx_bytes _ _ _
  · exact zeros_bytes
theorem deriveV_bytes (sec lab : List Int) : AreBytes (deriveV sec lab) := by
  unfold deriveV
  split
  · exact kx_bytes _ _ _
  · exact zeros_bytes
set_option maxHeartbeats 4000000 in
theorem labelled_A (sec ctx : List Int) (s : ByteArray) (v2 : Value) (B2 : Nat) (tc tq : TypeId) (w : World) (hc : w.heap[1]? = some (.cells (ints .u64 cubesI) tc)) (hq : w.heap[0]? = some (.cells (ints .u64 squaresI) tq)) (hsl : sec.length = 32) (hsb : AreBytes sec) (hxb : AreBytes ctx) (hx : RdK .u8 B2 ctx v2 w) (h : (strB s).length ≤ 255) (h2 : ctx.length ≤ 65536) : Calls Tryd.prog 51 #[.agg (ints .u8 sec), .string s, v2] w (Ret w (.agg (ints .u8 (labV sec (strB s) ctx)))) := by
  obtain ⟨a_ctx, c_ctx, rfl, -⟩ := id hx
  refine enter 22 [(0, .agg (ints .u8 (sec))), (1, .string s), (2, .slice a_ctx ctx.length c_ctx)] Tryd.func51 rfl rfl kj rfl ?_
  refine wp_seq_k fun K3 hK3 => ?_
  refine region_lit ?_
  refine seq_alloc (ints .u8 (sec)) 26 3 rfl kj kj fun g4 W1 l4 e1 r4_1 => ?_
  have x1 : Ext w W1 := Ext.tr (Rely.Ext.refl w) e1
  have b4 : w.heap.size ≤ g4 := Nat.le_trans (Rely.Ext.refl w).size l4
  refine seq_alloc (ints .u8 (List.replicate 32 0)) 26 6 rfl kj kj fun g5 W2 l5 e2 r5_2 => ?_
  have x2 : Ext w W2 := Ext.tr x1 e2
  have b5 : w.heap.size ≤ g5 := Nat.le_trans x1.size l5
  refine seq_nil ?_
  refine hK3 _ _ ?_
  try clear hK3 K3
  refine wp_seq_k fun K6 hK6 => ?_
  refine region_lit ?_
  have r4_2 := (row_ext r4_1 e2)
  refine seq_val (.agg (ints .u8 (sec))) 10 rfl kj (run_load_row 26 _ g4 26 _ _ r4_2 rfl kj kj (isz (n := 32) kj ((ints_size _ _).trans hsl))) ?_
  refine seq_val (.string s) 11 rfl kj kj ?_
  refine seq_val (.slice a_ctx ctx.length c_ctx) 12 rfl kj kj ?_
  have r1_1 := (row_ext hc e1)
  have r1_2 := (row_ext r1_1 e2)
  have r2_1 := (row_ext hq e1)
  have r2_2 := (row_ext r2_1 e2)
  refine seq_callR (fun v W' => (fun v W => ∃ u, v = .tuple #[u, .nilIface] ∧ OwnN .u8 5 W2.heap.size (kx sec (infoL (strB s) ctx 32) 32) u W) v W' ∧ Ext W2 W') 47 #[.agg (ints .u8 (sec)), .string s, .slice a_ctx ctx.length c_ctx, .int .i64 32] 13 rfl kj kj ((labelC sec ctx s _ B2 tc tq _ r1_2 r2_2 hsl hsb hxb (RdK.ext hx x2) 32 (by decide) h h2).mono (by rintro e w' ⟨v, rfl, e1, hv⟩; exact ⟨v, rfl, hv, e1⟩)) fun vv7 W3 hh7 => ?_
  obtain ⟨hv7, e3⟩ := hh7
  have x3 : Ext w W3 := Ext.tr x2 e3
  obtain ⟨uu, rfl, huu⟩ := hv7
  obtain ⟨gu, cu, curu, rfl, -, hru, -, -, -, htu⟩ := ownN_open huu (by rw [kx_len]; decide)
  refine seq_val (.tuple #[.slice (some ⟨gu, 0, none⟩) (kx sec (infoL (strB s) ctx 32) 32).length cu, .nilIface]) 9 rfl kj kj ?_
  refine seq_val (.slice (some ⟨gu, 0, none⟩) (kx sec (infoL (strB s) ctx 32) 32).length cu) 14 rfl kj kj ?_
  refine seq_val (.nilIface) 15 rfl kj kj ?_
  refine seq_val (.slice (some ⟨gu, 0, none⟩) (kx sec (infoL (strB s) ctx 32) 32).length cu) 7 rfl kj kj ?_
  refine seq_val (.nilIface) 8 rfl kj kj ?_
  refine seq_nil ?_
  refine hK6 _ _ ?_
  try clear hK6 K6
  refine wp_seq_k fun K8 hK8 => ?_
  refine wp_seq_k fun K9 hK9 => ?_
  refine region_lit ?_
  refine seq_val (.nilIface) 16 rfl kj kj ?_
  refine seq_val (.bool false) 17 rfl kj kj ?_
  refine seq_nil ?_
  refine hK9 _ _ ?_
  try clear hK9 K9
  refine cond_false kj ?_
  refine wp_skip ?_
  refine hK8 _ _ ?_
  try clear hK8 K8
  refine wp_seq_k fun K10 hK10 => ?_
  refine region_lit ?_
  refine seq_val (.slice (some ⟨gu, 0, none⟩) (kx sec (infoL (strB s) ctx 32) 32).length cu) 19 rfl kj kj ?_
  refine seq_val (.pointer (some ⟨gu, 0, none⟩)) 20 rfl kj (run_sap 26 _ 32 5 (a := some ⟨gu, 0, none⟩) (len := (kx sec (infoL (strB s) ctx 32) 32).length) (cap := cu) rfl kj kj (by rw [kx_len]; exact Nat.le_refl _)) ?_
  refine seq_val (.agg (ints .u8 (kx sec (infoL (strB s) ctx 32) 32))) 21 rfl kj (run_load_part 26 _ gu 0 5 _ _ _ (row_ext hru (Rely.Ext.refl W3)) rfl kj (ints_take htu) kj (isz (n := 32) kj ((ints_size _ _).trans (kx_len _ _ _)))) ?_
  have r5_3 := (row_ext r5_2 e3)
  refine seq_store g5 _ (ints .u8 (kx sec (infoL (strB s) ctx 32) 32)) 26 r5_3 rfl kj (run_store_row 26 _ _ g5 26 _ _ r5_3 rfl kj kj (isz (n := 32) kj ((ints_size _ _).trans (kx_len _ _ _))) (eqsz (n := 32) ((ints_size _ _).trans (List.length_replicate (n := 32))) ((ints_size _ _).trans (kx_len _ _ _))) (ints_one _ _)) fun W4 p4 r5_4 => ?_
  have x4 : Ext w W4 := Puts.ext p4 x3 b5
  refine seq_nil ?_
  refine hK10 _ _ ?_
  try clear hK10 K10
  refine wp_ret ?_
  repeat (first | with_reducible refine goR1 ?_ | with_reducible refine goR2 ?_)
  exact (show bodyPost _ _ _ .ret _ _ from ret1 (.agg (ints .u8 (kx sec (infoL (strB s) ctx 32) 32))) rfl (res_cell g5 26 _ r5_4 kj kj (isz (n := 32) kj ((ints_size _ _).trans (kx_len _ _ _)))) ⟨congrArg (fun z => Ending.returned (.agg (ints .u8 z))) (show _ = labV sec (strB s) ctx by unfold labV; rw [if_pos ⟨h, h2⟩]), x4⟩)
set_option maxHeartbeats 4000000 in
theorem labelled_B (sec ctx : List Int) (s : ByteArray) (v2 : Value) (B2 : Nat) (tc tq : TypeId) (w : World) (hc : w.heap[1]? = some (.cells (ints .u64 cubesI) tc)) (hq : w.heap[0]? = some (.cells (ints .u64 squaresI) tq)) (hsl : sec.length = 32) (hsb : AreBytes sec) (hxb : AreBytes ctx) (hx : RdK .u8 B2 ctx v2 w) (h : ¬ ((strB s).length ≤ 255 ∧ ctx.length ≤ 65536)) : Calls Tryd.prog 51 #[.agg (ints .u8 sec), .string s, v2] w (Ret w (.agg (ints .u8 (labV sec (strB s) ctx)))) := by
  obtain ⟨a_ctx, c_ctx, rfl, -⟩ := id hx
  refine enter 22 [(0, .agg (ints .u8 (sec))), (1, .string s), (2, .slice a_ctx ctx.length c_ctx)] Tryd.func51 rfl rfl kj rfl ?_
  refine wp_seq_k fun K3 hK3 => ?_
  refine region_lit ?_
  refine seq_alloc (ints .u8 (sec)) 26 3 rfl kj kj fun g4 W1 l4 e1 r4_1 => ?_
  have x1 : Ext w W1 := Ext.tr (Rely.Ext.refl w) e1
  have b4 : w.heap.size ≤ g4 := Nat.le_trans (Rely.Ext.refl w).size l4
  refine seq_alloc (ints .u8 (List.replicate 32 0)) 26 6 rfl kj kj fun g5 W2 l5 e2 r5_2 => ?_
  have x2 : Ext w W2 := Ext.tr x1 e2
  have b5 : w.heap.size ≤ g5 := Nat.le_trans x1.size l5
  refine seq_nil ?_
  refine hK3 _ _ ?_
  try clear hK3 K3
  refine wp_seq_k fun K6 hK6 => ?_
  refine region_lit ?_
  have r4_2 := (row_ext r4_1 e2)
  refine seq_val (.agg (ints .u8 (sec))) 10 rfl kj (run_load_row 26 _ g4 26 _ _ r4_2 rfl kj kj (isz (n := 32) kj ((ints_size _ _).trans hsl))) ?_
  refine seq_val (.string s) 11 rfl kj kj ?_
  refine seq_val (.slice a_ctx ctx.length c_ctx) 12 rfl kj kj ?_
  have r1_1 := (row_ext hc e1)
  have r1_2 := (row_ext r1_1 e2)
  have r2_1 := (row_ext hq e1)
  have r2_2 := (row_ext r2_1 e2)
  refine seq_call (.tuple #[.slice none 0 0, .iface 38 (.int .i64 4)]) 47 #[.agg (ints .u8 (sec)), .string s, .slice a_ctx ctx.length c_ctx, .int .i64 32] 13 rfl kj kj ((fun W hc hq hx => labelN sec ctx s _ B2 tc tq W hc hq hsl hsb hxb hx 32 (by omega)) _ r1_2 r2_2 (RdK.ext hx x2)) fun W3 e3 => ?_
  have x3 : Ext w W3 := Ext.tr x2 e3
  refine seq_val (.tuple #[.slice none 0 0, .iface 38 (.int .i64 4)]) 9 rfl kj kj ?_
  refine seq_val (.slice none 0 0) 14 rfl kj kj ?_
  refine seq_val (.iface 38 (.int .i64 4)) 15 rfl kj kj ?_
  refine seq_val (.slice none 0 0) 7 rfl kj kj ?_
  refine seq_val (.iface 38 (.int .i64 4)) 8 rfl kj kj ?_
  refine seq_nil ?_
  refine hK6 _ _ ?_
  try clear hK6 K6
  refine wp_seq_k fun K7 hK7 => ?_
  refine wp_seq_k fun K8 hK8 => ?_
  refine region_lit ?_
  refine seq_val (.iface 38 (.int .i64 4)) 16 rfl kj kj ?_
  refine seq_val (.bool true) 17 rfl kj kj ?_
  refine seq_nil ?_
  refine hK8 _ _ ?_
  try clear hK8 K8
  refine cond_true kj ?_
  refine wp_seq_k fun K9 hK9 => ?_
  refine region_lit ?_
  refine seq_val (.agg (ints .u8 (List.replicate 32 0))) 18 rfl kj kj ?_
  have r5_3 := (row_ext r5_2 e3)
  refine seq_store g5 _ (ints .u8 (List.replicate 32 0)) 26 r5_3 rfl kj (run_store_row 26 _ _ g5 26 _ _ r5_3 rfl kj kj (isz (n := 32) kj ((ints_size _ _).trans (List.length_replicate (n := 32)))) (eqsz (n := 32) ((ints_size _ _).trans (List.length_replicate (n := 32))) ((ints_size _ _).trans (List.length_replicate (n := 32)))) (ints_one _ _)) fun W4 p4 r5_4 => ?_
  have x4 : Ext w W4 := Puts.ext p4 x3 b5
  refine seq_nil ?_
  refine hK9 _ _ ?_
  try clear hK9 K9
  refine wp_ret ?_
  repeat (first | with_reducible refine goR1 ?_ | with_reducible refine goR2 ?_)
  exact (show bodyPost _ _ _ .ret _ _ from ret1 (.agg (ints .u8 (List.replicate 32 0))) rfl (res_cell g5 26 _ r5_4 kj kj (isz (n := 32) kj ((ints_size _ _).trans (List.length_replicate (n := 32))))) ⟨congrArg (fun z => Ending.returned (.agg (ints .u8 z))) (show _ = labV sec (strB s) ctx by unfold labV; rw [if_neg (by omega)]), x4⟩)
set_option maxHeartbeats 4000000 in
theorem rlabelled_A (sec ctx : List Int) (s : ByteArray) (v2 : Value) (B2 : Nat) (w : World)   (hsl : sec.length = 32) (hsb : AreBytes sec) (hxb : AreBytes ctx) (hx : RdK .u8 B2 ctx v2 w) (h : (strB s).length ≤ 255) (h2 : ctx.length ≤ 65536) : Calls Tryd.prog 52 #[.agg (ints .u8 sec), .string s, v2] w (Ret w (.agg (ints .u8 (labV sec (strB s) ctx)))) := by
  obtain ⟨a_ctx, c_ctx, rfl, -⟩ := id hx
  refine enter 31 [(0, .agg (ints .u8 (sec))), (1, .string s), (2, .slice a_ctx ctx.length c_ctx)] Tryd.func52 rfl rfl kj rfl ?_
  refine wp_seq_k fun K1 hK1 => ?_
  refine region_lit ?_
  refine seq_alloc (ints .u8 (sec)) 26 3 rfl kj kj fun g2 W1 l2 e1 r2_1 => ?_
  have x1 : Ext w W1 := Ext.tr (Rely.Ext.refl w) e1
  have b2 : w.heap.size ≤ g2 := Nat.le_trans (Rely.Ext.refl w).size l2
  refine seq_alloc (ints .u8 (List.replicate 32 0)) 26 6 rfl kj kj fun g3 W2 l3 e2 r3_2 => ?_
  have x2 : Ext w W2 := Ext.tr x1 e2
  have b3 : w.heap.size ≤ g3 := Nat.le_trans x1.size l3
  refine seq_nil ?_
  refine hK1 _ _ ?_
  try clear hK1 K1
  refine wp_seq_k fun K4 hK4 => ?_
  refine region_lit ?_
  refine seq_alloc (ints .u8 (List.replicate 32 0)) 26 7 rfl kj kj fun g5 W3 l5 e3 r5_3 => ?_
  have x3 : Ext w W3 := Ext.tr x2 e3
  have b5 : w.heap.size ≤ g5 := Nat.le_trans x2.size l5
  refine seq_nil ?_
  refine hK4 _ _ ?_
  try clear hK4 K4
  refine wp_seq_k fun K6 hK6 => ?_
  refine region_lit ?_
  have r2_2 := (row_ext r2_1 e2)
  have r2_3 := (row_ext r2_2 e3)
  refine seq_val (.agg (ints .u8 (sec))) 12 rfl kj (run_load_row 26 _ g2 26 _ _ r2_3 rfl kj kj (isz (n := 32) kj ((ints_size _ _).trans hsl))) ?_
  refine seq_val (.string s) 13 rfl kj kj ?_
  refine seq_val (.slice a_ctx ctx.length c_ctx) 14 rfl kj kj ?_
  refine seq_callR (fun v W' => (fun v W => ∃ u, v = .tuple #[u, .bool true] ∧ OwnN .u8 5 W3.heap.size (kx sec (infoL (strB s) ctx 32) 32) u W) v W' ∧ Ext W3 W') 48 #[.agg (ints .u8 (sec)), .string s, .slice a_ctx ctx.length c_ctx, .int .i64 32] 15 rfl kj kj ((rlabelC sec ctx s _ B2 _ hsl hsb hxb (RdK.ext hx x3) 32 (by decide) h h2).mono (by rintro e w' ⟨v, rfl, e1, hv⟩; exact ⟨v, rfl, hv, e1⟩)) fun vv7 W4 hh7 => ?_
  obtain ⟨hv7, e4⟩ := hh7
  have x4 : Ext w W4 := Ext.tr x3 e4
  obtain ⟨uu, rfl, huu⟩ := hv7
  obtain ⟨au, cu, rfl, -⟩ := id (OwnN.rd huu)
  have nb5 : (Value.slice au (kx sec (infoL (strB s) ctx 32) 32).length cu).ownBlock ≠ some g5 := fun e => by have h1 := OwnN.ge huu e; have h2 := row_lt r5_3; omega
  refine seq_val (.tuple #[.slice au ((kx sec (infoL (strB s) ctx 32) 32).length) cu, .bool true]) 11 rfl kj kj ?_
  refine seq_val (.slice au ((kx sec (infoL (strB s) ctx 32) 32).length) cu) 16 rfl kj kj ?_
  refine seq_val (.bool true) 17 rfl kj kj ?_
  refine seq_val (.slice au ((kx sec (infoL (strB s) ctx 32) 32).length) cu) 8 rfl kj kj ?_
  refine seq_val (.bool true) 9 rfl kj kj ?_
  refine seq_nil ?_
  refine hK6 _ _ ?_
  try clear hK6 K6
  refine wp_seq_k fun K8 hK8 => ?_
  refine wp_seq_k fun K9 hK9 => ?_
  refine region_lit ?_
  refine seq_val (.int .i64 0) 10 rfl kj kj ?_
  refine seq_nil ?_
  refine hK9 _ _ ?_
  try clear hK9 K9
  refine wp_block ?_
  have hkl := kx_len sec (infoL (strB s) ctx 32) 32
  have r5_4 := (row_ext r5_3 e4)
  refine loop_auto (fun (s1 : Nat) => [(0, .agg (ints .u8 (sec))), (1, .string s), (2, .slice a_ctx ctx.length c_ctx), (3, .pointer (some ⟨g2, 0, none⟩)), (6, .pointer (some ⟨g3, 0, none⟩)), (7, .pointer (some ⟨g5, 0, none⟩)), (8, .slice au ((kx sec (infoL (strB s) ctx 32) 32).length) cu), (9, .bool true), (10, .int .i64 ((s1 : Nat) : Int))]) (fun (s1 : Nat) W => (s1 ≤ 32) ∧ (W.heap[g5]? = some (.cells (ints .u8 (fillL (kx sec (infoL (strB s) ctx 32) 32) 32 s1)) 26)) ∧ (Keeps [g5] W4 W) ∧ (Ext w W)) (fun (s1 : Nat) => 32 - s1) 0 ⟨rfl, rfl, rfl, rfl, rfl, rfl, rfl, rfl, rfl, trivial⟩ ⟨(by decide), (row_eq r5_4 (fillL_zero (kx sec (infoL (strB s) ctx 32) 32) 32)), (Keeps.refl [g5] W4), x4⟩ fun s1 X1 V1 hI1 => ?_
  obtain ⟨i, hs1⟩ : ∃ z, z = s1 := ⟨_, rfl⟩
  subst hs1
  obtain ⟨hi, q5_1, kk1, xx1⟩ := hI1
  replace hi : i ≤ 32 := hi
  replace q5_1 : V1.heap[g5]? = some (.cells (ints .u8 (fillL (kx sec (infoL (strB s) ctx 32) 32) 32 i)) 26) := q5_1
  replace kk1 : Keeps [g5] W4 V1 := kk1
  replace xx1 : Ext w V1 := xx1
  have q5 := kk1
  refine wp_seq_k fun K10 hK10 => ?_
  refine wp_seq_k fun K11 hK11 => ?_
  refine region_lit ?_
  refine seq_val (.int .i64 ((i : Nat) : Int)) 18 rfl kj kj ?_
  refine seq_val (.slice au ((kx sec (infoL (strB s) ctx 32) 32).length) cu) 19 rfl kj kj ?_
  refine seq_val (.int .i64 (((kx sec (infoL (strB s) ctx 32) 32).length : Nat) : Int)) 20 rfl kj kj ?_
  refine seq_val (.bool (decide (((i : Nat) : Int) < (((kx sec (infoL (strB s) ctx 32) 32).length : Nat) : Int)))) 21 rfl kj kj ?_
  refine seq_nil ?_
  refine hK11 _ _ ?_
  try clear hK11 K11
  refine cond_split (t := decide (((i : Nat) : Int) < (((kx sec (infoL (strB s) ctx 32) 32).length : Nat) : Int))) kj (fun c12 => ?_) (fun c12 => ?_)
  · skip
    have hlt : i < 32 := by have := of_decide_eq_true c12; omega
    refine wp_skip ?_
    refine hK10 _ _ ?_
    try clear hK10 K10
    refine wp_seq_k fun K13 hK13 => ?_
    refine wp_block ?_
    refine region_lit ?_
    refine seq_val (.int .i64 ((i : Nat) : Int)) 24 rfl kj kj ?_
    refine seq_val (.slice au ((kx sec (infoL (strB s) ctx 32) 32).length) cu) 25 rfl kj kj ?_
    refine seq_val (.int .i64 ((i : Nat) : Int)) 26 rfl kj kj ?_
    have f15_5 := (OwnN.keepsL huu q5 (nb_cons nb5 nb_nil))
    have hnu_14 : (kx sec (infoL (strB s) ctx 32) 32).length = 32 := (kx_len _ _ _)
    obtain ⟨gcu_14, ocu_14, hau_14, hlu_14, hcu_14⟩ := rdK_open (OwnN.rd f15_5) (by rw [hnu_14]; omega)
    refine seq_val (.pointer (some ⟨gcu_14, ocu_14 + i, none⟩)) 27 rfl kj (run_indexA 22 _ _ .i64 i gcu_14 ocu_14 ((kx sec (infoL (strB s) ctx 32) 32).length) cu 5 au _ hau_14 rfl rfl kj kj kj kj (Nat.lt_of_lt_of_eq (show i < 32 by omega) hnu_14.symm)) ?_
    refine seq_val (.int .u8 (nth (kx sec (infoL (strB s) ctx 32) 32) (i))) 28 rfl kj (run_loadCell 5 _ _ (.int .u8 (nth (kx sec (infoL (strB s) ctx 32) 32) (i))) (hcu_14 i (Nat.lt_of_lt_of_eq (show i < 32 by omega) hnu_14.symm)) rfl kj kj) ?_
    refine seq_val (.pointer (some ⟨g5, i, none⟩)) 29 rfl kj (run_index0 _ _ _ .i64 (i) _ 32 5 rfl kj kj kj kj (by omega)) ?_
    refine seq_store g5 _ (ints .u8 ((fillL (kx sec (infoL (strB s) ctx 32) 32) 32 i).set i (nth (kx sec (infoL (strB s) ctx 32) 32) (i)))) 26 q5_1 rfl kj (run_storeI 5 _ _ g5 i 26 _ _ q5_1 rfl kj kj kj (Nat.lt_of_lt_of_eq (by omega) (fillL_len _ 32 i (kx_len _ _ _) hi).symm)) fun W6 p6 r5_6 => ?_
    have x6 : Ext w W6 := Puts.ext p6 xx1 b5
    refine seq_nil ?_
    refine hK13 _ _ ?_
    try clear hK13 K13
    refine region_lit ?_
    refine seq_val (.int .i64 ((i : Nat) : Int)) 22 rfl kj kj ?_
    refine seq_val (.int .i64 ((i + 1 : Nat) : Int)) 23 rfl kj (run_eq (u := .int .i64 (IntKind.i64.wrap (((i : Nat) : Int) + 1))) kj (congrArg (Value.int .i64) (i64n _ _ (by omega) (by omega)))) ?_
    refine seq_val (.int .i64 ((i + 1 : Nat) : Int)) 10 rfl kj kj ?_
    refine seq_nil ?_
    repeat (first | with_reducible refine goX1 ?_ | with_reducible refine goX2 ?_ | with_reducible refine goX3 ?_)
    exact goes_then (i + 1) ⟨rfl, rfl, rfl, rfl, rfl, rfl, rfl, rfl, rfl, trivial⟩ ⟨(by omega), (row_eq r5_6 (fillL_step _ 32 i (kx_len _ _ _) hlt)), (Keeps.puts q5 p6 (.inl (by simp))), x6⟩ (by show 32 - (i + 1) < 32 - i; omega)
  · skip
    have hie : i = 32 := by have := of_decide_eq_false c12; omega
    subst hie
    have r5_5_16 : V1.heap[g5]? = some (.cells (ints .u8 (kx sec (infoL (strB s) ctx 32) 32)) 26) := row_eq q5_1 (fillL_full _ 32 (kx_len _ _ _))
    refine wp_exit ?_
    refine hK8 _ _ ?_
    try clear hK8 K8
    refine wp_seq_k fun K17 hK17 => ?_
    refine region_lit ?_
    refine seq_val (.agg (ints .u8 (kx sec (infoL (strB s) ctx 32) 32))) 30 rfl kj (run_load_row 26 _ g5 26 _ _ r5_5_16 rfl kj kj (isz (n := 32) kj ((ints_size _ _).trans (kx_len _ _ _)))) ?_
    have r3_3 := (row_ext r3_2 e3)
    have r3_4 := (row_ext r3_3 e4)
    have r3_5 := (Keeps.row q5 r3_4 (nm_cons (ne_of_old r3_2 l5) nm_nil))
    refine seq_store g3 _ (ints .u8 (kx sec (infoL (strB s) ctx 32) 32)) 26 r3_5 rfl kj (run_store_row 26 _ _ g3 26 _ _ r3_5 rfl kj kj (isz (n := 32) kj ((ints_size _ _).trans (kx_len _ _ _))) (eqsz (n := 32) ((ints_size _ _).trans (List.length_replicate (n := 32))) ((ints_size _ _).trans (kx_len _ _ _))) (ints_one _ _)) fun W6 p6 r3_6 => ?_
    have x6 : Ext w W6 := Puts.ext p6 xx1 b3
    refine seq_nil ?_
    refine hK17 _ _ ?_
    try clear hK17 K17
    refine wp_ret ?_
    repeat (first | with_reducible refine goR1 ?_ | with_reducible refine goR2 ?_)
    exact (show bodyPost _ _ _ .ret _ _ from ret1 (.agg (ints .u8 (kx sec (infoL (strB s) ctx 32) 32))) rfl (res_cell g3 26 _ r3_6 kj kj (isz (n := 32) kj ((ints_size _ _).trans (kx_len _ _ _)))) ⟨congrArg (fun z => Ending.returned (.agg (ints .u8 z))) (show _ = labV sec (strB s) ctx by unfold labV; rw [if_pos ⟨h, h2⟩]), x6⟩)
set_option maxHeartbeats 4000000 in
theorem rlabelled_B (sec ctx : List Int) (s : ByteArray) (v2 : Value) (B2 : Nat) (w : World)   (hsl : sec.length = 32) (hsb : AreBytes sec) (hxb : AreBytes ctx) (hx : RdK .u8 B2 ctx v2 w) (h : ¬ ((strB s).length ≤ 255 ∧ ctx.length ≤ 65536)) : Calls Tryd.prog 52 #[.agg (ints .u8 sec), .string s, v2] w (Ret w (.agg (ints .u8 (labV sec (strB s) ctx)))) := by
  obtain ⟨a_ctx, c_ctx, rfl, -⟩ := id hx
  refine enter 31 [(0, .agg (ints .u8 (sec))), (1, .string s), (2, .slice a_ctx ctx.length c_ctx)] Tryd.func52 rfl rfl kj rfl ?_
  refine wp_seq_k fun K1 hK1 => ?_
  refine region_lit ?_
  refine seq_alloc (ints .u8 (sec)) 26 3 rfl kj kj fun g2 W1 l2 e1 r2_1 => ?_
  have x1 : Ext w W1 := Ext.tr (Rely.Ext.refl w) e1
  have b2 : w.heap.size ≤ g2 := Nat.le_trans (Rely.Ext.refl w).size l2
  refine seq_alloc (ints .u8 (List.replicate 32 0)) 26 6 rfl kj kj fun g3 W2 l3 e2 r3_2 => ?_
  have x2 : Ext w W2 := Ext.tr x1 e2
  have b3 : w.heap.size ≤ g3 := Nat.le_trans x1.size l3
  refine seq_nil ?_
  refine hK1 _ _ ?_
  try clear hK1 K1
  refine wp_seq_k fun K4 hK4 => ?_
  refine region_lit ?_
  refine seq_alloc (ints .u8 (List.replicate 32 0)) 26 7 rfl kj kj fun g5 W3 l5 e3 r5_3 => ?_
  have x3 : Ext w W3 := Ext.tr x2 e3
  have b5 : w.heap.size ≤ g5 := Nat.le_trans x2.size l5
  refine seq_nil ?_
  refine hK4 _ _ ?_
  try clear hK4 K4
  refine wp_seq_k fun K6 hK6 => ?_
  refine region_lit ?_
  have r2_2 := (row_ext r2_1 e2)
  have r2_3 := (row_ext r2_2 e3)
  refine seq_val (.agg (ints .u8 (sec))) 12 rfl kj (run_load_row 26 _ g2 26 _ _ r2_3 rfl kj kj (isz (n := 32) kj ((ints_size _ _).trans hsl))) ?_
  refine seq_val (.string s) 13 rfl kj kj ?_
  refine seq_val (.slice a_ctx ctx.length c_ctx) 14 rfl kj kj ?_
  refine seq_call (.tuple #[.slice none 0 0, .bool false]) 48 #[.agg (ints .u8 (sec)), .string s, .slice a_ctx ctx.length c_ctx, .int .i64 32] 15 rfl kj kj ((fun W hx => rlabelN sec ctx s _ B2 W hsl hsb hxb hx 32 (by omega)) _ (RdK.ext hx x3)) fun W4 e4 => ?_
  have x4 : Ext w W4 := Ext.tr x3 e4
  refine seq_val (.tuple #[.slice none 0 0, .bool false]) 11 rfl kj kj ?_
  refine seq_val (.slice none 0 0) 16 rfl kj kj ?_
  refine seq_val (.bool false) 17 rfl kj kj ?_
  refine seq_val (.slice none 0 0) 8 rfl kj kj ?_
  refine seq_val (.bool false) 9 rfl kj kj ?_
  refine seq_nil ?_
  refine hK6 _ _ ?_
  try clear hK6 K6
  refine wp_seq_k fun K7 hK7 => ?_
  refine wp_seq_k fun K8 hK8 => ?_
  refine region_lit ?_
  refine seq_val (.int .i64 0) 10 rfl kj kj ?_
  refine seq_nil ?_
  refine hK8 _ _ ?_
  try clear hK8 K8
  refine wp_block ?_
  refine wp_loop_rounds 1 ?_
  show Code.wp _ _ (Exit.then (Code.rounds _ _ _ 0) _) _ _
  refine wp_seq_k fun K9 hK9 => ?_
  refine wp_seq_k fun K10 hK10 => ?_
  refine region_lit ?_
  refine seq_val (.int .i64 0) 18 rfl kj kj ?_
  refine seq_val (.slice none 0 0) 19 rfl kj kj ?_
  refine seq_val (.int .i64 0) 20 rfl kj kj ?_
  refine seq_val (.bool false) 21 rfl kj kj ?_
  refine seq_nil ?_
  refine hK10 _ _ ?_
  try clear hK10 K10
  refine cond_false kj ?_
  refine wp_exit ?_
  refine hK7 _ _ ?_
  try clear hK7 K7
  refine wp_seq_k fun K11 hK11 => ?_
  refine region_lit ?_
  have r5_4 := (row_ext r5_3 e4)
  refine seq_val (.agg (ints .u8 (List.replicate 32 0))) 30 rfl kj (run_load_row 26 _ g5 26 _ _ r5_4 rfl kj kj (isz (n := 32) kj ((ints_size _ _).trans (List.length_replicate (n := 32))))) ?_
  have r3_3 := (row_ext r3_2 e3)
  have r3_4 := (row_ext r3_3 e4)
  refine seq_store g3 _ (ints .u8 (List.replicate 32 0)) 26 r3_4 rfl kj (run_store_row 26 _ _ g3 26 _ _ r3_4 rfl kj kj (isz (n := 32) kj ((ints_size _ _).trans (List.length_replicate (n := 32)))) (eqsz (n := 32) ((ints_size _ _).trans (List.length_replicate (n := 32))) ((ints_size _ _).trans (List.length_replicate (n := 32)))) (ints_one _ _)) fun W5 p5 r3_5 => ?_
  have x5 : Ext w W5 := Puts.ext p5 x4 b3
  refine seq_nil ?_
  refine hK11 _ _ ?_
  try clear hK11 K11
  refine wp_ret ?_
  repeat (first | with_reducible refine goR1 ?_ | with_reducible refine goR2 ?_)
  exact (show bodyPost _ _ _ .ret _ _ from ret1 (.agg (ints .u8 (List.replicate 32 0))) rfl (res_cell g3 26 _ r3_5 kj kj (isz (n := 32) kj ((ints_size _ _).trans (List.length_replicate (n := 32))))) ⟨congrArg (fun z => Ending.returned (.agg (ints .u8 z))) (show _ = labV sec (strB s) ctx by unfold labV; rw [if_neg (by omega)]), x5⟩)
theorem labelledC (sec ctx : List Int) (s : ByteArray) (v2 : Value) (B2 : Nat) (tc tq : TypeId) (w : World) (hc : w.heap[1]? = some (.cells (ints .u64 cubesI) tc)) (hq : w.heap[0]? = some (.cells (ints .u64 squaresI) tq)) (hsl : sec.length = 32) (hsb : AreBytes sec) (hxb : AreBytes ctx) (hx : RdK .u8 B2 ctx v2 w) : Calls Tryd.prog 51 #[.agg (ints .u8 sec), .string s, v2] w (Ret w (.agg (ints .u8 (labV sec (strB s) ctx)))) := by
  by_cases h : (strB s).length ≤ 255 ∧ ctx.length ≤ 65536
  · exact labelled_A sec ctx s v2 B2 tc tq w hc hq hsl hsb hxb hx h.1 h.2
  · exact labelled_B sec ctx s v2 B2 tc tq w hc hq hsl hsb hxb hx h
theorem rlabelledC (sec ctx : List Int) (s : ByteArray) (v2 : Value) (B2 : Nat) (w : World)   (hsl : sec.length = 32) (hsb : AreBytes sec) (hxb : AreBytes ctx) (hx : RdK .u8 B2 ctx v2 w) : Calls Tryd.prog 52 #[.agg (ints .u8 sec), .string s, v2] w (Ret w (.agg (ints .u8 (labV sec (strB s) ctx)))) := by
  by_cases h : (strB s).length ≤ 255 ∧ ctx.length ≤ 65536
  · exact rlabelled_A sec ctx s v2 B2 w hsl hsb hxb hx h.1 h.2
  · exact rlabelled_B sec ctx s v2 B2 w hsl hsb hxb hx h

end Go.Proofs.YtamlhbbphnamnaaDoor.Sha
