/- The fixed fact. -/
import Derived.Test.YtfelfmchachljaaWrV
namespace Go.Proofs.Ytfelfmchachljaa.Wr
open Go Go.RowKit
open Go.Proofs.Ytfelfmchachljaa.Rely Go.Proofs.Ytfelfmchachljaa.Auto Go.Proofs.Ytfelfmchachljaa.Own Go.Proofs.Ytfelfmchachljaa.Sha
set_option linter.unusedVariables false
set_option linter.unusedSimpArgs false

set_option maxHeartbeats 4000000 in
theorem alive9 (w : World) : Calls Try.prog 12 #[] w (Ret w (.bool true)) := by
  refine enter 40 [] Try.func12 rfl rfl kj rfl ?_
  refine wp_seq_k fun K1 hK1 => ?_
  refine region_lit ?_
  refine seq_val (.bool false) 0 rfl kj kj ?_
  refine seq_nil ?_
  refine hK1 _ _ ?_
  try clear hK1 K1
  refine wp_seq_k fun K2 hK2 => ?_
  refine region_lit ?_
  refine seq_val (.agg (cat [(Array.replicate 32 (.int .u8 0)), #[.int .i64 0], #[.int .i64 0], #[.int .i64 0], #[.slice none 0 0]])) 7 rfl kj kj ?_
  refine seq_callR (fun v W' => (PutR w.heap.size (some (List.replicate 43 (0 : Int)))) v W' ∧ Ext w W') 34 #[.agg (cat [(Array.replicate 32 (.int .u8 0)), #[.int .i64 0], #[.int .i64 0], #[.int .i64 0], #[.slice none 0 0]])] 8 rfl kj kj ((PutPacket_S (List.replicate 32 0) 0 0 0 [] none 0 _ rfl (fun x hx => by rw [(List.mem_replicate.1 hx).2]; decide) (by decide) bytes_nil (nilRd _ _) (List.replicate 43 (0 : Int)) (by decide +kernel)).mono (by rintro e w' ⟨v, rfl, e1, hv⟩; exact ⟨v, rfl, hv, e1⟩)) fun vv3 W1 hh3 => ?_
  obtain ⟨hv3, e1⟩ := hh3
  have x1 : Ext w W1 := Ext.tr (Rely.Ext.refl w) e1
  obtain ⟨ub, rfl, hub⟩ := hv3
  obtain ⟨ab, cb, rfl, hcb, -⟩ := id (OwnN.rd hub)
  have hb43 : OwnN .u8 5 w.heap.size (List.replicate 43 (0 : Int)) (.slice ab 43 cb) W1 := hub
  replace hcb : 43 ≤ cb := hcb
  refine seq_val (.tuple #[.slice ab 43 cb, .nilIface]) 6 rfl kj kj ?_
  refine seq_val (.slice ab 43 cb) 9 rfl kj kj ?_
  refine seq_val (.nilIface) 10 rfl kj kj ?_
  refine seq_val (.slice ab 43 cb) 1 rfl kj kj ?_
  refine seq_val (.nilIface) 2 rfl kj kj ?_
  refine seq_nil ?_
  refine hK2 _ _ ?_
  try clear hK2 K2
  refine wp_seq_k fun K4 hK4 => ?_
  refine wp_seq_k fun K5 hK5 => ?_
  refine region_lit ?_
  refine seq_val (.nilIface) 11 rfl kj kj ?_
  refine seq_val (.bool false) 12 rfl kj kj ?_
  refine seq_val (.bool false) 13 rfl kj kj ?_
  refine seq_val (.slice ab 43 cb) 14 rfl kj kj ?_
  refine seq_val (.int .i64 43) 15 rfl kj kj ?_
  refine seq_val (.bool false) 16 rfl kj kj ?_
  refine seq_val (.bool false) 17 rfl kj kj ?_
  refine seq_nil ?_
  refine hK5 _ _ ?_
  try clear hK5 K5
  refine cond_false kj ?_
  refine wp_skip ?_
  refine hK4 _ _ ?_
  try clear hK4 K4
  refine wp_seq_k fun K6 hK6 => ?_
  refine region_lit ?_
  refine seq_val (.slice ab 43 cb) 19 rfl kj kj ?_
  refine seq_callR (fun v W' => (fun v W => ∃ (a_s : Option Addr) (c_s : Nat), v = .tuple #[.agg (cat [ints .u8 (pGrp (startS (List.replicate 43 (0 : Int)))), #[.int .i64 (pEp (startS (List.replicate 43 (0 : Int))))], #[.int .i64 (pFr (startS (List.replicate 43 (0 : Int))))], #[.int .i64 (pNo (startS (List.replicate 43 (0 : Int))))], #[.slice a_s (pSe (startS (List.replicate 43 (0 : Int)))).length c_s]]), .nilIface] ∧ OwnN .u8 5 W1.heap.size (pSe (startS (List.replicate 43 (0 : Int)))) (.slice a_s (pSe (startS (List.replicate 43 (0 : Int)))).length c_s) W ∧ AreBytes (pSe (startS (List.replicate 43 (0 : Int)))) ∧ (pSe (startS (List.replicate 43 (0 : Int)))).length ≤ 65535) v W' ∧ Ext W1 W') 36 #[.slice ab 43 cb] 20 rfl kj kj ((rTakePacket_B (List.replicate 43 (0 : Int)) _ _ _ (fun x hx => by rw [(List.mem_replicate.1 hx).2]; decide) (RdK.here (OwnN.rd hb43)) (by decide +kernel)).mono (by rintro e w' ⟨v, rfl, e1, hv⟩; exact ⟨v, rfl, hv, e1⟩)) fun vv7 W2 hh7 => ?_
  obtain ⟨hv7, e2⟩ := hh7
  have x2 : Ext w W2 := Ext.tr x1 e2
  obtain ⟨as1, cs1, rfl, hs1, -, -⟩ := hv7
  refine seq_val (.tuple #[.agg (cat [ints .u8 (pGrp (startS (List.replicate 43 (0 : Int)))), #[.int .i64 (pEp (startS (List.replicate 43 (0 : Int))))], #[.int .i64 (pFr (startS (List.replicate 43 (0 : Int))))], #[.int .i64 (pNo (startS (List.replicate 43 (0 : Int))))], #[.slice as1 ((pSe (startS (List.replicate 43 (0 : Int)))).length) cs1]]), .nilIface]) 18 rfl kj kj ?_
  refine seq_val (.agg (cat [ints .u8 (pGrp (startS (List.replicate 43 (0 : Int)))), #[.int .i64 (pEp (startS (List.replicate 43 (0 : Int))))], #[.int .i64 (pFr (startS (List.replicate 43 (0 : Int))))], #[.int .i64 (pNo (startS (List.replicate 43 (0 : Int))))], #[.slice as1 ((pSe (startS (List.replicate 43 (0 : Int)))).length) cs1]])) 21 rfl kj kj ?_
  refine seq_val (.nilIface) 22 rfl kj kj ?_
  refine seq_alloc (cat [(Array.replicate 32 (.int .u8 0)), #[.int .i64 0], #[.int .i64 0], #[.int .i64 0], #[.slice none 0 0]]) 81 3 rfl kj kj fun g8 W3 l8 e3 r8_3 => ?_
  have x3 : Ext w W3 := Ext.tr x2 e3
  have b8 : w.heap.size ≤ g8 := Nat.le_trans x2.size l8
  refine seq_store g8 _ (cat [ints .u8 (pGrp (startS (List.replicate 43 (0 : Int)))), #[.int .i64 (pEp (startS (List.replicate 43 (0 : Int))))], #[.int .i64 (pFr (startS (List.replicate 43 (0 : Int))))], #[.int .i64 (pNo (startS (List.replicate 43 (0 : Int))))], #[.slice as1 ((pSe (startS (List.replicate 43 (0 : Int)))).length) cs1]]) 81 r8_3 rfl kj (run_store_row 81 _ _ g8 81 _ _ r8_3 rfl kj kj (isz (n := 36) kj (by rw [cat_cons, cat_cons, cat_cons, cat_cons, cat_cons]; simp only [Array.size_append, cat, ((ints_size _ _).trans (pGrp_len (startS (List.replicate 43 (0 : Int)))))]; rfl)) (eqsz (n := 36) kj (by rw [cat_cons, cat_cons, cat_cons, cat_cons, cat_cons]; simp only [Array.size_append, cat, ((ints_size _ _).trans (pGrp_len (startS (List.replicate 43 (0 : Int)))))]; rfl)) (cat_one _ (by intro a ha; simp only [List.mem_cons, List.not_mem_nil, or_false] at ha; rcases ha with rfl | rfl | rfl | rfl | rfl; exact (ints_one _ _); exact (one_leaf _ rfl); exact (one_leaf _ rfl); exact (one_leaf _ rfl); exact (one_leaf _ rfl)))) fun W4 p4 r8_4 => ?_
  have x4 : Ext w W4 := Puts.ext p4 x3 b8
  refine seq_val (.nilIface) 2 rfl kj kj ?_
  refine seq_nil ?_
  refine hK6 _ _ ?_
  try clear hK6 K6
  refine wp_seq_k fun K9 hK9 => ?_
  refine region_lit ?_
  refine seq_val (.slice ab 43 cb) 24 rfl kj kj ?_
  refine seq_val (.slice (restA ab cb 1) (43 - 1) (cb - 1)) 25 rfl kj (run_sliceD 26 _ _ 1 5 rfl (a := ab) (len := 43) (cap := cb) kj kj kj .i64 kj (by decide) hcb) ?_
  have f10_2 := (hb43.ext e2)
  have f11_3 := (f10_2.ext e3)
  have f12_4 := (f11_3.puts p4 (nb_new f10_2 l8))
  refine seq_call (.tuple #[.agg (cat [(Array.replicate 32 (.int .u8 0)), #[.int .i64 0], #[.int .i64 0], #[.int .i64 0], #[.slice none 0 0]]), .iface 102 (.int .i64 3)]) 36 #[.slice (restA ab cb 1) (43 - 1) (cb - 1)] 26 rfl kj kj (rTakePacketN ((List.replicate 43 (0 : Int)).drop 1) _ _ _ (bytes_drop (fun x hx => by rw [(List.mem_replicate.1 hx).2]; decide) 1) (RdK.here (rdK_drop (OwnN.rd f12_4) 1 (by decide))) (by decide +kernel)) fun W5 e5 => ?_
  have x5 : Ext w W5 := Ext.tr x4 e5
  refine seq_val (.tuple #[.agg (cat [(Array.replicate 32 (.int .u8 0)), #[.int .i64 0], #[.int .i64 0], #[.int .i64 0], #[.slice none 0 0]]), .iface 102 (.int .i64 3)]) 23 rfl kj kj ?_
  refine seq_val (.agg (cat [(Array.replicate 32 (.int .u8 0)), #[.int .i64 0], #[.int .i64 0], #[.int .i64 0], #[.slice none 0 0]])) 27 rfl kj kj ?_
  refine seq_val (.iface 102 (.int .i64 3)) 28 rfl kj kj ?_
  refine seq_alloc (cat [(Array.replicate 32 (.int .u8 0)), #[.int .i64 0], #[.int .i64 0], #[.int .i64 0], #[.slice none 0 0]]) 81 4 rfl kj kj fun g13 W6 l13 e6 r13_6 => ?_
  have x6 : Ext w W6 := Ext.tr x5 e6
  have b13 : w.heap.size ≤ g13 := Nat.le_trans x5.size l13
  refine seq_store g13 _ (cat [(Array.replicate 32 (.int .u8 0)), #[.int .i64 0], #[.int .i64 0], #[.int .i64 0], #[.slice none 0 0]]) 81 r13_6 rfl kj (run_store_row 81 _ _ g13 81 _ _ r13_6 rfl kj kj (isz (n := 36) kj kj) (eqsz (n := 36) kj kj) kj) fun W7 p7 r13_7 => ?_
  have x7 : Ext w W7 := Puts.ext p7 x6 b13
  refine seq_val (.iface 102 (.int .i64 3)) 5 rfl kj kj ?_
  refine seq_nil ?_
  refine hK9 _ _ ?_
  try clear hK9 K9
  refine wp_seq_k fun K14 hK14 => ?_
  refine region_lit ?_
  refine seq_val (.nilIface) 29 rfl kj kj ?_
  refine seq_val (.bool true) 30 rfl kj kj ?_
  refine seq_val (.bool true) 31 rfl kj kj ?_
  refine seq_val (.pointer (some ⟨g8, 32, none⟩)) 32 rfl kj kj ?_
  have r8_5 := (row_ext r8_4 e5)
  have r8_6 := (row_ext r8_5 e6)
  have r8_7 := (Puts.row p7 r8_6 (ne_of_old r8_5 l13))
  refine seq_val (.int .i64 (pEp (startS (List.replicate 43 (0 : Int))))) 33 rfl kj (run_loadC1 3 _ g8 32 81 _ (.int .i64 (pEp (startS (List.replicate 43 (0 : Int))))) _ r8_7 rfl kj (cat_part [ints .u8 (pGrp (startS (List.replicate 43 (0 : Int))))] [#[.int .i64 (pEp (startS (List.replicate 43 (0 : Int))))]] [#[.int .i64 (pFr (startS (List.replicate 43 (0 : Int))))], #[.int .i64 (pNo (startS (List.replicate 43 (0 : Int))))], #[.slice as1 ((pSe (startS (List.replicate 43 (0 : Int)))).length) cs1]] 32 ((ints_size _ _).trans (pGrp_len (startS (List.replicate 43 (0 : Int))))) 0 _ rfl) kj) ?_
  refine seq_val (.bool true) 34 rfl kj kj ?_
  refine seq_val (.bool true) 35 rfl kj kj ?_
  refine seq_val (.bool true) 36 rfl kj kj ?_
  refine seq_val (.iface 102 (.int .i64 3)) 37 rfl kj kj ?_
  refine seq_call (.bool true) 45 #[.iface 102 (.int .i64 3), .int .i64 3] 38 rfl kj kj ((is3) _) fun W8 e8 => ?_
  have x8 : Ext w W8 := Ext.tr x7 e8
  refine seq_val (.bool true) 39 rfl kj kj ?_
  refine seq_val (.bool true) 0 rfl kj kj ?_
  refine seq_nil ?_
  refine hK14 _ _ ?_
  try clear hK14 K14
  refine wp_ret ?_
  repeat (first | with_reducible refine goR1 ?_ | with_reducible refine goR2 ?_)
  exact (show bodyPost _ _ _ .ret _ _ from ret1 (.bool true) rfl (res_tmp kj) ⟨rfl, x8⟩)

end Go.Proofs.Ytfelfmchachljaa.Wr
