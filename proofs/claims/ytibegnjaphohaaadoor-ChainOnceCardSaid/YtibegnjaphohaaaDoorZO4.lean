/- Texts of this claim, joined (O4). -/
import Derived.Test.YtibegnjaphohaaaDoorZO3
import Derived.Lib.LaidTab

section
namespace Go.Proofs.YtibegnjaphohaaaDoor.Cn
open Go Go.RowKit
open Rely Auto Own Sha
set_option linter.unusedVariables false
set_option linter.unusedSimpArgs false
open Go.Proofs.YtibegnjaphohaaaDoor
theorem QbF {g mg b : Nat} {s0 ts : List Int} {pl : Nat} {ms : List (Int × List Int)} {W W' : World} {c : Array Value} {T : TypeId} (h : ChSt g mg s0 ts pl ms W) (p : Puts W b W') (r : W.heap[b]? = some (.cells c T)) (hT : T ≠ 84) : ChSt g mg s0 ts pl ms W' :=
  h.keep (p.2.2.2.2 g (fun e => by obtain ⟨B, -, h2⟩ := h.row; rw [e] at h2; exact Qck r h2 hT)) (p.2.2.2.2 mg (Ne.symm (MpAt.ne h.mp r)))
set_option maxHeartbeats 4000000 in
theorem Qji (sec : List Int) (hsl : sec.length = 32) (hsb : Qao sec) (x : Int) (zs : List Int) (a_z : Option Addr) (c_z : Nat) (tc tq : TypeId) (w : World) (hc : w.heap[2]? = some (.cells (ints .u64 QaD) tc)) (hq : w.heap[1]? = some (.cells (ints .u64 Qam) tq)) (hT : Seat.TabAt w) (hz : RdK .i64 w.heap.size zs (.slice a_z zs.length c_z) w) (h1 : 60 < zs.length) : Calls Tryd.prog 4 #[.agg (ints .u8 sec), .int .i64 x, .slice a_z zs.length c_z] w (Ret w (.bool true)) := by
  refine enter 137 [(0, .agg (ints .u8 (sec))), (1, .int .i64 x), (2, .slice a_z zs.length c_z)] Tryd.func4 rfl rfl kj rfl ?_
  refine wp_seq_k fun K3 hK3 => ?_
  refine Qab ?_
  refine Qas (ints .u8 (sec)) 23 3 rfl kj kj fun g4 W1 l4 e1 r4_1 => ?_
  have x1 : Ext w W1 := Ext.tr (Rely.Ext.refl w) e1
  have b4 : w.heap.size ≤ g4 := Nat.le_trans (Rely.Ext.refl w).size l4
  refine Qaa (.bool false) 6 rfl kj kj ?_
  refine Qac ?_
  refine hK3 _ _ ?_
  refine wp_seq_k fun K5 hK5 => ?_
  refine wp_seq_k fun K6 hK6 => ?_
  refine Qab ?_
  have r1_1 := (Qad hc e1)
  have r2_1 := (Qad hq e1)
  refine Qau (.bool true) 8 #[] 22 rfl kj kj (Qhm tc tq _ r1_1 r2_1 (hT.ext x1)) fun W2 e2 => ?_
  have x2 : Ext w W2 := Ext.tr x1 e2
  refine Qaa (.bool false) 23 rfl kj kj ?_
  refine Qac ?_
  refine hK6 _ _ ?_
  refine cond_false kj ?_
  refine wp_skip ?_
  refine hK5 _ _ ?_
  refine wp_seq_k fun K7 hK7 => ?_
  refine wp_seq_k fun K8 hK8 => ?_
  refine Qab ?_
  refine Qaa (.slice a_z zs.length c_z) 24 rfl kj kj ?_
  refine Qaa (.int .i64 ((zs.length : Nat) : Int)) 25 rfl kj kj ?_
  refine Qaa (.bool true) 26 rfl kj (Qah (u := .bool (decide (((zs.length : Nat) : Int) > 60))) kj (congrArg Value.bool (decide_eq_true (by omega)))) ?_
  refine Qac ?_
  refine hK8 _ _ ?_
  refine cond_true kj ?_
  refine wp_seq_k fun K9 hK9 => ?_
  refine Qab ?_
  refine Qaa (.bool true) 6 rfl kj kj ?_
  refine Qac ?_
  refine hK9 _ _ ?_
  refine wp_ret ?_
  repeat (first | with_reducible refine goR1 ?_ | with_reducible refine goR2 ?_)
  exact (show bodyPost _ _ _ .ret _ _ from ret1 (.bool true) rfl (Qa9 kj) ⟨rfl, x2⟩)
set_option maxHeartbeats 4000000 in
theorem Qjh (sec : List Int) (hsl : sec.length = 32) (hsb : Qao sec) (x : Int) (zs : List Int) (a_z : Option Addr) (c_z : Nat) (tc tq : TypeId) (w : World) (hc : w.heap[2]? = some (.cells (ints .u64 QaD) tc)) (hq : w.heap[1]? = some (.cells (ints .u64 Qam) tq)) (hT : Seat.TabAt w) (hz : RdK .i64 w.heap.size zs (.slice a_z zs.length c_z) w) (h1 : zs.length ≤ 60) : Calls Tryd.prog 4 #[.agg (ints .u8 sec), .int .i64 x, .slice a_z zs.length c_z] w (Ret w (.bool true)) := by
 refine enter 137 [(0, .agg (ints .u8 (sec))), (1, .int .i64 x), (2, .slice a_z zs.length c_z)] Tryd.func4 rfl rfl kj rfl ?_
 refine wp_seq_k fun K3 hK3 => ?_
 refine Qab ?_
 refine Qas (ints .u8 (sec)) 23 3 rfl kj kj fun g4 W1 l4 e1 r4_1 => ?_
 have x1 : Ext w W1 := Ext.tr (Rely.Ext.refl w) e1
 have b4 : w.heap.size ≤ g4 := Nat.le_trans (Rely.Ext.refl w).size l4
 refine Qaa (.bool false) 6 rfl kj kj ?_
 refine Qac ?_
 refine hK3 _ _ ?_
 refine wp_seq_k fun K5 hK5 => ?_
 refine wp_seq_k fun K6 hK6 => ?_
 refine Qab ?_
 have r1_1 := (Qad hc e1)
 have r2_1 := (Qad hq e1)
 refine Qau (.bool true) 8 #[] 22 rfl kj kj (Qhm tc tq _ r1_1 r2_1 (hT.ext x1)) fun W2 e2 => ?_
 have x2 : Ext w W2 := Ext.tr x1 e2
 refine Qaa (.bool false) 23 rfl kj kj ?_
 refine Qac ?_
 refine hK6 _ _ ?_
 refine cond_false kj ?_
 refine wp_skip ?_
 refine hK5 _ _ ?_
 refine wp_seq_k fun K7 hK7 => ?_
 refine wp_seq_k fun K8 hK8 => ?_
 refine Qab ?_
 refine Qaa (.slice a_z zs.length c_z) 24 rfl kj kj ?_
 refine Qaa (.int .i64 ((zs.length : Nat) : Int)) 25 rfl kj kj ?_
 refine Qaa (.bool false) 26 rfl kj (Qah (u := .bool (decide (((zs.length : Nat) : Int) > 60))) kj (congrArg Value.bool (decide_eq_false (by omega)))) ?_
 refine Qac ?_
 refine hK8 _ _ ?_
 refine cond_false kj ?_
 refine wp_skip ?_
 refine hK7 _ _ ?_
 refine wp_seq_k fun K9 hK9 => ?_
 skip
 ·skip
  obtain ⟨j, hj, hje⟩ := QgF x 4 (by decide)
  refine Qab ?_
  refine Qaa (.int .i64 x) 27 rfl kj kj ?_
  refine Qaa (.int .u64 (IntKind.u64.wrap (x))) 28 rfl kj kj ?_
  refine Qaa (.int .u64 (((j : Nat) : Int))) 29 rfl kj (Qah (u := .int .u64 (Int.tmod ((IntKind.u64.wrap (x))) (4))) kj (congrArg (Value.int .u64) (show Int.tmod _ (4 : Int) = _ from hje))) ?_
  refine Qaa (.int .i64 (((j : Nat) : Int))) 30 rfl kj (Qah (u := .int .i64 (IntKind.i64.wrap (((j : Nat) : Int)))) kj (congrArg (Value.int .i64) (QgW j (by omega)))) ?_
  refine Qaa (.int .i64 (((j : Nat) : Int))) 1 rfl kj kj ?_
  refine Qac ?_
  refine hK9 _ _ ?_
  refine wp_seq_k fun K10 hK10 => ?_
  have r4_2 := (Qad r4_1 e2)
  refine Go.Proofs.YtibegnjaphohaaaDoor.Wm.region_walkM (fun W => W.heap[g4]? = some (.cells (ints .u8 (sec)) 23)) 5 kj fun W3 e3 => ⟨Qad r4_2 e3, ?_⟩
  have x3 : Ext w W3 := Ext.tr x2 e3
  refine Go.Proofs.YtibegnjaphohaaaDoor.Wm.wm_val 0 (.agg (ints .u8 (sec))) 31 rfl rfl kj kj (by decide) kj (fun _ _ _ h => h) (fun W hR => (Qay 23 _ g4 23 _ _ hR rfl kj kj (isz (n := 32) kj ((Qaf _ _).trans hsl)))) ?_
  refine Go.Proofs.YtibegnjaphohaaaDoor.Wm.wm_val 2 (.agg (ints .u8 (sec))) 33 rfl rfl kj kj (by decide) kj (fun _ _ _ h => h) (fun W hR => (Qay 23 _ g4 23 _ _ hR rfl kj kj (isz (n := 32) kj ((Qaf _ _).trans hsl)))) ?_
  have r4_3 := (Qad r4_2 e3)
  have r1_2 := (Qad r1_1 e2)
  have r1_3 := (Qad r1_2 e3)
  have r2_2 := (Qad r2_1 e2)
  have r2_3 := (Qad r2_2 e3)
  refine Go.Proofs.YtibegnjaphohaaaDoor.Wm.wm_call 1 kj rfl (fun v W' => (NewR (sec) 2 W3) v W' ∧ Ext W3 W') 9 #[.agg (ints .u8 (sec)), .int .i64 4] 32 rfl kj kj ((newC 2 (by decide) (sec) tc tq _ r1_3 r2_3 (hT.ext x3) hsl hsb).mono (by rintro e w' ⟨v, rfl, e1, hv⟩; exact ⟨v, rfl, hv, e1⟩)) (fun v W h => Qad r4_3 h.2) fun vv11 W4 hh11 => ?_
  obtain ⟨hv11, e4⟩ := hh11
  have x4 : Ext w W4 := Ext.tr x3 e4
  obtain ⟨gcA, glA, capA, lpA, nsA, rfl, lgcA, hnsA, hgcA, hglA, heaA, dn1A, dn2A⟩ := hv11
  obtain ⟨pa, hpa⟩ : ∃ p, nsA[j]? = some p := ⟨_, List.getElem?_eq_getElem (show j < nsA.length by rw [hnsA]; exact hj)⟩
  obtain ⟨hla, hsa, loa, lma⟩ := heaA _ _ hpa
  obtain ⟨ga, ma⟩ := pa
  replace hsa : ChSt ga ma (Qa5 sec 2 j) [] 0 [] W4 := hsa
  have lo0a : w.heap.size ≤ ga := Nat.le_trans x3.size loa
  have lm0a : w.heap.size ≤ ma := Nat.le_trans x3.size lma
  have r4_4 := (Qad r4_3 e4)
  have r1_4 := (Qad r1_3 e4)
  have r2_4 := (Qad r2_3 e4)
  refine Go.Proofs.YtibegnjaphohaaaDoor.Wm.wm_call 3 kj rfl (fun v W' => (NewR (sec) 2 W4) v W' ∧ Ext W4 W') 9 #[.agg (ints .u8 (sec)), .int .i64 4] 34 rfl kj kj ((newC 2 (by decide) (sec) tc tq _ r1_4 r2_4 (hT.ext x4) hsl hsb).mono (by rintro e w' ⟨v, rfl, e1, hv⟩; exact ⟨v, rfl, hv, e1⟩)) (fun v W h => Qad r4_4 h.2) fun vv14 W5 hh14 => ?_
  obtain ⟨hv14, e5⟩ := hh14
  have x5 : Ext w W5 := Ext.tr x4 e5
  obtain ⟨gcB, glB, capB, lpB, nsB, rfl, lgcB, hnsB, hgcB, hglB, heaB, dn1B, dn2B⟩ := hv14
  obtain ⟨pb, hpb⟩ : ∃ p, nsB[j]? = some p := ⟨_, List.getElem?_eq_getElem (show j < nsB.length by rw [hnsB]; exact hj)⟩
  obtain ⟨hlb, hsb, lob, lmb⟩ := heaB _ _ hpb
  obtain ⟨gb, mb⟩ := pb
  replace hsb : ChSt gb mb (Qa5 sec 2 j) [] 0 [] W5 := hsb
  have lo0b : w.heap.size ≤ gb := Nat.le_trans x4.size lob
  have lm0b : w.heap.size ≤ mb := Nat.le_trans x4.size lmb
  have nab : ga ≠ gb := Nat.ne_of_lt (Nat.lt_of_lt_of_le hsa.glt lob)
  have nmab : ma ≠ mb := Nat.ne_of_lt (Nat.lt_of_lt_of_le hsa.mp.lt lmb)
  refine Go.Proofs.YtibegnjaphohaaaDoor.Wm.wm_val 4 (.pointer (some ⟨gcA, 0, none⟩)) 7 rfl rfl kj kj (by decide) kj (fun _ _ _ h => h) (fun W hR => by kernel_rfl) ?_
  have r4_5 := (Qad r4_4 e5)
  refine Go.Proofs.YtibegnjaphohaaaDoor.Wm.wm_run 5 kj rfl (fun v W' => v = .pointer (some ⟨gcB, 0, none⟩) ∧ Ext W5 W') 8 rfl kj ⟨_, _, kj, rfl, Rely.Ext.refl _⟩ (fun v W h => Qad r4_5 h.2) fun vv17 W6 hh17 => ?_
  obtain ⟨rfl, e6⟩ := hh17
  have x6 : Ext w W6 := Ext.tr x5 e6
  refine Wmn.wm_nil kj ?_
  refine hK10 _ _ ?_
  refine wp_seq_k fun K18 hK18 => ?_
  refine Qab ?_
  have hb_6 := (ChSt.ext hsb e6)
  have ha_5 := (ChSt.ext hsa e5)
  have ha_6 := (ChSt.ext ha_5 e6)
  refine Qez 35 rfl kj kj fun mB W7 lmB e7 rmB => ?_
  have x7 : Ext w W7 := Ext.tr x6 e7
  have l0mB : w.heap.size ≤ mB := Nat.le_trans x6.size lmB
  have nbmB : gb ≠ mB := Nat.ne_of_lt (Nat.lt_of_lt_of_le hb_6.glt lmB)
  have nmbmB : mb ≠ mB := Nat.ne_of_lt (Nat.lt_of_lt_of_le hb_6.mp.lt lmB)
  have namB : ga ≠ mB := Nat.ne_of_lt (Nat.lt_of_lt_of_le ha_6.glt lmB)
  have nmamB : ma ≠ mB := Nat.ne_of_lt (Nat.lt_of_lt_of_le ha_6.mp.lt lmB)
  have hby0 : BySt mB (Qa5 sec 2 j) 0 W7 := Qj6 rmB
  refine Qaa (.map (some mB)) 9 rfl kj kj ?_
  refine Qac ?_
  refine hK18 _ _ ?_
  refine wp_seq_k fun K20 hK20 => ?_
  refine wp_seq_k fun K21 hK21 => ?_
  refine Qab ?_
  refine Qaa (.int .i64 0) 36 rfl kj kj ?_
  refine Qac ?_
  refine hK21 _ _ ?_
  refine wp_block ?_
  have ha_7 := (ChSt.ext ha_6 e7)
  have hb_7 := (ChSt.ext hb_6 e7)
  have r12_5 := (Qad hgcA e5)
  have r12_6 := (Qad r12_5 e6)
  have r12_7 := (Qad r12_6 e7)
  have ng_gcA_1 : gcA ≠ ga := fun e => by obtain ⟨B, -, h9⟩ := (ha_7).row; have h8 := r12_7; rw [e] at h8; exact Qck h8 h9 (by decide)
  have nm_gcA_1 : gcA ≠ ma := MpAt.ne (ha_7).mp r12_7
  have nx_gcA_1 : gcA ≠ mB := MpAt.ne ((hby0).choose_spec.1) r12_7
  have r13_5 := (Qad hglA e5)
  have r13_6 := (Qad r13_5 e6)
  have r13_7 := (Qad r13_6 e7)
  have ng_glA_1 : glA ≠ ga := fun e => by obtain ⟨B, -, h9⟩ := (ha_7).row; have h8 := r13_7; rw [e] at h8; exact Qck h8 h9 (by decide)
  have nm_glA_1 : glA ≠ ma := MpAt.ne (ha_7).mp r13_7
  have nx_glA_1 : glA ≠ mB := MpAt.ne ((hby0).choose_spec.1) r13_7
  have r15_6 := (Qad hgcB e6)
  have r15_7 := (Qad r15_6 e7)
  have ng_gcB_1 : gcB ≠ ga := fun e => by obtain ⟨B, -, h9⟩ := (ha_7).row; have h8 := r15_7; rw [e] at h8; exact Qck h8 h9 (by decide)
  have nm_gcB_1 : gcB ≠ ma := MpAt.ne (ha_7).mp r15_7
  have nx_gcB_1 : gcB ≠ mB := MpAt.ne ((hby0).choose_spec.1) r15_7
  have r16_6 := (Qad hglB e6)
  have r16_7 := (Qad r16_6 e7)
  have ng_glB_1 : glB ≠ ga := fun e => by obtain ⟨B, -, h9⟩ := (ha_7).row; have h8 := r16_7; rw [e] at h8; exact Qck h8 h9 (by decide)
  have nm_glB_1 : glB ≠ ma := MpAt.ne (ha_7).mp r16_7
  have nx_glB_1 : glB ≠ mB := MpAt.ne ((hby0).choose_spec.1) r16_7
  refine QaM (fun (s1 : Nat × List (Int × List Int)) => [(1, .int .i64 (((j : Nat) : Int))), (2, .slice a_z zs.length c_z), (7, .pointer (some ⟨gcA, 0, none⟩)), (8, .pointer (some ⟨gcB, 0, none⟩)), (9, .map (some mB)), (36, .int .i64 ((s1.1 : Nat) : Int))]) (fun (s1 : Nat × List (Int × List Int)) W => (s1.1 ≤ 70) ∧ (ChSt ga ma (Qa5 sec 2 j) (upTo s1.1) s1.1 s1.2 W) ∧ (ChSt gb mb (Qa5 sec 2 j) [] 0 [] W) ∧ (BySt mB (Qa5 sec 2 j) s1.1 W) ∧ (Qai [ga, ma, mB] W7 W) ∧ (Ext w W)) (fun (s1 : Nat × List (Int × List Int)) => 70 - s1.1) (0, []) ⟨rfl, rfl, rfl, rfl, rfl, rfl, trivial⟩ ⟨(Nat.zero_le _), ha_7, hb_7, hby0, (Qai.refl [ga, ma, mB] W7), x7⟩ fun s1 X1 V1 hI1 => ?_
  obtain ⟨i, ms⟩ := s1
  obtain ⟨hi, hsa_, hsb_, hby_, kk1, xx1⟩ := hI1
  replace hi : i ≤ 70 := hi
  replace hsa_ : ChSt ga ma (Qa5 sec 2 j) (upTo i) i ms V1 := hsa_
  replace hsb_ : ChSt gb mb (Qa5 sec 2 j) [] 0 [] V1 := hsb_
  replace hby_ : BySt mB (Qa5 sec 2 j) i V1 := hby_
  replace kk1 : Qai [ga, ma, mB] W7 V1 := kk1
  replace xx1 : Ext w V1 := xx1
  have q8 := kk1
  refine wp_seq_k fun K24 hK24 => ?_
  refine Qab ?_
  refine Qaa (.bool (decide (((i : Nat) : Int) < 70))) 37 rfl kj kj ?_
  refine Qac ?_
  refine hK24 _ _ ?_
  refine wp_seq_k fun K25 hK25 => ?_
  refine QaE (t := decide (((i : Nat) : Int) < 70)) kj (fun c26 => ?_) (fun c26 => ?_)
  ·skip
   have hlt37 : i < 70 := by have := of_decide_eq_true c26; omega
   refine wp_skip ?_
   refine hK25 _ _ ?_
   refine wp_seq_k fun K27 hK27 => ?_
   refine wp_block ?_
   refine wp_seq_k fun K28 hK28 => ?_
   refine Qab ?_
   refine Qaa (.int .i64 ((i : Nat) : Int)) 38 rfl kj kj ?_
   refine Qaa (.int .i64 ((i : Nat) : Int)) 10 rfl kj kj ?_
   refine Qac ?_
   refine hK28 _ _ ?_
   refine wp_seq_k fun K29 hK29 => ?_
   refine Qab ?_
   refine Qaa (.pointer (some ⟨gcA, 0, none⟩)) 40 rfl kj kj ?_
   refine Qaa (.int .i64 (((j : Nat) : Int))) 41 rfl kj kj ?_
   have r12_8 := (Qai.row q8 r12_7 (Qan ng_gcA_1 (Qan nm_gcA_1 (Qan nx_gcA_1 Qa6))))
   have r13_8 := (Qai.row q8 r13_7 (Qan ng_glA_1 (Qan nm_glA_1 (Qan nx_glA_1 Qa6))))
   have r1_5 := (Qad r1_4 e5)
   have r1_6 := (Qad r1_5 e6)
   have r1_7 := (Qad r1_6 e7)
   have r1_8 := (Qai.row q8 r1_7 (Qan (Nat.ne_of_lt (Nat.lt_of_lt_of_le (Qar hc) lo0a)) (Qan (Nat.ne_of_lt (Nat.lt_of_lt_of_le (Qar hc) lm0a)) (Qan (Nat.ne_of_lt (Nat.lt_of_lt_of_le (Qar hc) l0mB)) Qa6))))
   have r2_5 := (Qad r2_4 e5)
   have r2_6 := (Qad r2_5 e6)
   have r2_7 := (Qad r2_6 e7)
   have r2_8 := (Qai.row q8 r2_7 (Qan (Nat.ne_of_lt (Nat.lt_of_lt_of_le (Qar hq) lo0a)) (Qan (Nat.ne_of_lt (Nat.lt_of_lt_of_le (Qar hq) lm0a)) (Qan (Nat.ne_of_lt (Nat.lt_of_lt_of_le (Qar hq) l0mB)) Qa6))))
   refine Qa8 (fun v W' => ∃ u, v = .tuple #[u, .nilIface] ∧ Qai [ga, ma] V1 W' ∧ ChSt ga ma (Qa5 sec 2 j) (upTo i ++ [((i : Nat) : Int)]) (max i (i + 1)) (Qc5 ms (Qa5 sec 2 j) i i) W' ∧ QbO V1.heap.size ((i : Nat) : Int) (keyV (itV (Qa5 sec 2 j) i)) u W') 12 #[.pointer (some ⟨gcA, 0, none⟩), .int .i64 (((j : Nat) : Int))] 42 rfl kj kj ((Qjl gcA glA (2 ^ 2) capA lpA _ r12_8 r13_8 ga j hj hla tc tq r1_8 r2_8 hsa_ (Qj4 (by omega)) (Nat.ne_of_lt (Nat.lt_of_lt_of_le (Qar hc) lo0a)) (Nat.ne_of_lt (Nat.lt_of_lt_of_le (Qar hq) lo0a))).mono (by rintro e w' ⟨v, rfl, q1, q2, q3⟩; exact ⟨_, rfl, _, rfl, q1, q2, q3⟩)) fun vv30 W9 hh30 => ?_
   obtain ⟨uu30, rfl, q9, hb_a9, u30, rfl, hu30⟩ := hh30
   obtain ⟨a30_, c30_, rfl, -⟩ := id (OwnN.rd hu30)
   have x9 : Ext w W9 := Qea xx1 q9 lo0a lm0a
   refine Qaa (.tuple #[.agg (cat [#[.int .i64 ((i : Nat) : Int)], ints .u8 ((keyV (itV (Qa5 sec 2 j) i)).take 32), #[.slice a30_ ((keyV (itV (Qa5 sec 2 j) i)).drop 32).length c30_]]), .nilIface]) 39 rfl kj kj ?_
   refine Qaa (.agg (cat [#[.int .i64 ((i : Nat) : Int)], ints .u8 ((keyV (itV (Qa5 sec 2 j) i)).take 32), #[.slice a30_ ((keyV (itV (Qa5 sec 2 j) i)).drop 32).length c30_]])) 43 rfl kj kj ?_
   refine Qaa (.nilIface) 44 rfl kj kj ?_
   refine Qas (cat [#[.int .i64 0], ints .u8 (List.replicate 32 0), #[.slice none 0 0]]) 40 11 rfl kj kj fun g31 W10 l31 e10 r31_10 => ?_
   have x10 : Ext w W10 := Ext.tr x9 e10
   have b31 : w.heap.size ≤ g31 := Nat.le_trans x9.size l31
   refine Qaj g31 _ (cat [#[.int .i64 ((i : Nat) : Int)], ints .u8 ((keyV (itV (Qa5 sec 2 j) i)).take 32), #[.slice a30_ ((keyV (itV (Qa5 sec 2 j) i)).drop 32).length c30_]]) 40 r31_10 rfl kj (Qap 40 _ _ g31 40 _ _ r31_10 rfl kj kj (isz (n := 34) kj (by rw [Qae, Qae, Qae]; simp only [Array.size_append, cat, ((Qaf _ _).trans (QaG (Qa7 _)))]; rfl)) (eqsz (n := 34) (by rw [Qae, Qae, Qae]; simp only [Array.size_append, cat, ((Qaf _ _).trans (List.length_replicate (n := 32)))]; rfl) (by rw [Qae, Qae, Qae]; simp only [Array.size_append, cat, ((Qaf _ _).trans (QaG (Qa7 _)))]; rfl)) (QaY _ (by intro a ha; simp only [List.mem_cons, List.not_mem_nil, or_false] at ha; rcases ha with rfl | rfl | rfl; exact (QaA _ rfl); exact (Qa0 _ _); exact (QaA _ rfl)))) fun W11 p11 r31_11 => ?_
   have x11 : Ext w W11 := Puts.ext p11 x10 b31
   refine Qaa (.nilIface) 12 rfl kj kj ?_
   refine Qac ?_
   refine hK29 _ _ ?_
   refine wp_seq_k fun K32 hK32 => ?_
   refine wp_seq_k fun K33 hK33 => ?_
   refine Qab ?_
   refine Qaa (.nilIface) 45 rfl kj kj ?_
   refine Qaa (.bool false) 46 rfl kj kj ?_
   refine Qaa (.bool false) 47 rfl kj kj ?_
   refine Qaa (.pointer (some ⟨g31, 0, none⟩)) 48 rfl kj kj ?_
   refine Qaa (.int .i64 ((i : Nat) : Int)) 49 rfl kj (Qal 3 _ g31 0 40 _ (.int .i64 ((i : Nat) : Int)) _ r31_11 rfl kj (Qat [] [#[.int .i64 ((i : Nat) : Int)]] [ints .u8 ((keyV (itV (Qa5 sec 2 j) i)).take 32), #[.slice a30_ ((keyV (itV (Qa5 sec 2 j) i)).drop 32).length c30_]] 0 kj 0 _ rfl) kj) ?_
   refine Qaa (.int .i64 ((i : Nat) : Int)) 50 rfl kj kj ?_
   refine Qaa (.bool false) 51 rfl kj (Qah (u := .bool ((((i : Nat) : Int) != ((i : Nat) : Int)))) kj (congrArg Value.bool (by simp))) ?_
   refine Qaa (.bool false) 52 rfl kj kj ?_
   refine Qac ?_
   refine hK33 _ _ ?_
   refine cond_false kj ?_
   refine wp_skip ?_
   refine hK32 _ _ ?_
   refine Qab ?_
   refine Qaa (.map (some mB)) 53 rfl kj kj ?_
   refine Qaa (.int .i64 ((i : Nat) : Int)) 54 rfl kj kj ?_
   refine Qaa (.agg (cat [#[.int .i64 ((i : Nat) : Int)], ints .u8 ((keyV (itV (Qa5 sec 2 j) i)).take 32), #[.slice a30_ ((keyV (itV (Qa5 sec 2 j) i)).drop 32).length c30_]])) 55 rfl kj (Qay 40 _ g31 40 _ _ r31_11 rfl kj kj (isz (n := 34) kj (by rw [Qae, Qae, Qae]; simp only [Array.size_append, cat, ((Qaf _ _).trans (QaG (Qa7 _)))]; rfl))) ?_
   have hby_9 := BySt.tk hby_ hsa_ q9 (Ne.symm nmamB)
   have hby_10 := BySt.ext hby_9 e10
   have hby_11 := BySt.putc hby_10 p11 r31_10 (by decide)
   have hon30_10 := OwnN.ext (OwnN.base (Nat.zero_le _) hu30) e10
   have hon30_11 := Qd2 hon30_10 p11 r31_10 (by decide)
   refine QgA (i := i) (u := .slice a30_ ((keyV (itV (Qa5 sec 2 j) i)).drop 32).length c30_) (.tmp 53) (.tmp 54) (.tmp 55) 60 (kt := 3) (et := 40) rfl kj kj rfl kj kj hby_11 hon30_11 rfl kj fun W12 p12 hby_12 => ?_
   have x12 : Ext w W12 := Puts.ext p12 x11 l0mB
   refine Qac ?_
   refine hK27 _ _ ?_
   refine Qab ?_
   refine Qaa (.int .i64 ((i + 1 : Nat) : Int)) 56 rfl kj (Qah (u := .int .i64 (IntKind.i64.wrap (((i : Nat) : Int) + 1))) kj (congrArg (Value.int .i64) (i64n _ _ (by omega) (by omega)))) ?_
   refine Qaa (.int .i64 ((i + 1 : Nat) : Int)) 36 rfl kj kj ?_
   refine Qac ?_
   have ha_10 := (ChSt.ext hb_a9 e10)
   have ha_11 := (QbF ha_10 p11 r31_10 (by decide))
   have ha_12 := (ChSt.keep ha_11 (p12.2.2.2.2 _ namB) (p12.2.2.2.2 _ nmamB))
   have hsa9 := ha_12
   rw [← Qgz, show max i (i + 1) = i + 1 by omega] at hsa9
   have hb_9 := (ChSt.other hsa_ q9 hsb_ (Ne.symm nab) (Ne.symm nmab))
   have hb_10 := (ChSt.ext hb_9 e10)
   have hb_11 := (QbF hb_10 p11 r31_10 (by decide))
   have hb_12 := (ChSt.keep hb_11 (p12.2.2.2.2 _ nbmB) (p12.2.2.2.2 _ nmbmB))
   repeat (first | with_reducible refine goX1 ?_ | with_reducible refine goX2 ?_ | with_reducible refine goX3 ?_)
   exact QaB ((i + 1), (Qc5 ms (Qa5 sec 2 j) i i)) ⟨rfl, rfl, rfl, rfl, rfl, rfl, trivial⟩ ⟨(by omega), hsa9, hb_12, hby_12, (Qai.puts (Qai.puts (Qai.step (Qai.keeps q8 q9 (fun c hc => .inl (by simp only [List.mem_cons, List.not_mem_nil, or_false] at hc ⊢; omega))) e10) p11 (.inr (Nat.le_trans (Qai.size q8) (Nat.le_trans (Nat.le_trans (Nat.le_refl _) (Qai.size q9)) l31)))) p12 (.inl (by simp))), x12⟩ (by omega)
  ·skip
   have heq37 : i = 70 := by have := of_decide_eq_false c26; omega
   subst heq37
   refine wp_exit ?_
   refine hK20 _ _ ?_
   refine wp_seq_k fun K34 hK34 => ?_
   refine Qab ?_
   refine Qez 57 rfl kj kj fun mT W9 lmT e9 rmT => ?_
   have x9 : Ext w W9 := Ext.tr xx1 e9
   have l0mT : w.heap.size ≤ mT := Nat.le_trans xx1.size lmT
   have nbmT : gb ≠ mT := Nat.ne_of_lt (Nat.lt_of_lt_of_le hsb_.glt lmT)
   have nmbmT : mb ≠ mT := Nat.ne_of_lt (Nat.lt_of_lt_of_le hsb_.mp.lt lmT)
   have nBT : mB ≠ mT := Nat.ne_of_lt (Nat.lt_of_lt_of_le hby_.lt lmT)
   have htm0 : MpAt mT (([] : List Int).map tmv) W9 := Qik rmT
   refine Qaa (.map (some mT)) 13 rfl kj kj ?_
   refine Qac ?_
   refine hK34 _ _ ?_
   refine wp_seq_k fun K36 hK36 => ?_
   refine Qab ?_
   refine Qaa (.int .i64 (-1)) 14 rfl kj kj ?_
   refine Qac ?_
   refine hK36 _ _ ?_
   refine wp_seq_k fun K37 hK37 => ?_
   refine wp_seq_k fun K38 hK38 => ?_
   refine Qab ?_
   refine Qaa (.slice a_z zs.length c_z) 58 rfl kj kj ?_
   refine Qaa (.int .i64 ((zs.length : Nat) : Int)) 59 rfl kj kj ?_
   refine Qaa (.int .i64 0) 60 rfl kj kj ?_
   refine Qac ?_
   refine hK38 _ _ ?_
   refine wp_block ?_
   have hby_9 := BySt.ext hby_ e9
   have hb_9 := (ChSt.ext hsb_ e9)
   have r15_8 := (Qai.row q8 r15_7 (Qan ng_gcB_1 (Qan nm_gcB_1 (Qan nx_gcB_1 Qa6))))
   have r15_9 := (Qad r15_8 e9)
   have ng_gcB_2 : gcB ≠ gb := fun e => by obtain ⟨B, -, h9⟩ := (hb_9).row; have h8 := r15_9; rw [e] at h8; exact Qck h8 h9 (by decide)
   have nm_gcB_2 : gcB ≠ mb := MpAt.ne (hb_9).mp r15_9
   have nx_gcB_2 : gcB ≠ mT := MpAt.ne htm0 r15_9
   have r16_8 := (Qai.row q8 r16_7 (Qan ng_glB_1 (Qan nm_glB_1 (Qan nx_glB_1 Qa6))))
   have r16_9 := (Qad r16_8 e9)
   have ng_glB_2 : glB ≠ gb := fun e => by obtain ⟨B, -, h9⟩ := (hb_9).row; have h8 := r16_9; rw [e] at h8; exact Qck h8 h9 (by decide)
   have nm_glB_2 : glB ≠ mb := MpAt.ne (hb_9).mp r16_9
   have nx_glB_2 : glB ≠ mT := MpAt.ne htm0 r16_9
   refine QaM (fun (s2 : Nat × List Int × Nat × List (Int × List Int)) => [(1, .int .i64 (((j : Nat) : Int))), (8, .pointer (some ⟨gcB, 0, none⟩)), (9, .map (some mB)), (13, .map (some mT)), (58, .slice a_z zs.length c_z), (59, .int .i64 ((zs.length : Nat) : Int)), (14, .int .i64 (hiT s2.2.1)), (60, .int .i64 ((s2.1 : Nat) : Int))]) (fun (s2 : Nat × List Int × Nat × List (Int × List Int)) W => (s2.1 ≤ zs.length) ∧ (ChSt gb mb (Qa5 sec 2 j) s2.2.1 s2.2.2.1 s2.2.2.2 W) ∧ (BySt mB (Qa5 sec 2 j) 70 W) ∧ (MpAt mT (s2.2.1.map tmv) W) ∧ (Qai [gb, mb, mT] W9 W) ∧ (Ext w W)) (fun (s2 : Nat × List Int × Nat × List (Int × List Int)) => zs.length - s2.1) (0, [], 0, []) ⟨rfl, rfl, rfl, rfl, rfl, rfl, rfl, rfl, trivial⟩ ⟨(Nat.zero_le _), hb_9, hby_9, htm0, (Qai.refl [gb, mb, mT] W9), x9⟩ fun s2 X2 V2 hI2 => ?_
   obtain ⟨n2, ts2, pl2, ms2⟩ := s2
   obtain ⟨hi2, hsb2, hby2, htm2, kk2, xx2⟩ := hI2
   replace hi2 : n2 ≤ zs.length := hi2
   replace hsb2 : ChSt gb mb (Qa5 sec 2 j) ts2 pl2 ms2 V2 := hsb2
   replace hby2 : BySt mB (Qa5 sec 2 j) 70 V2 := hby2
   replace htm2 : MpAt mT (ts2.map tmv) V2 := htm2
   replace kk2 : Qai [gb, mb, mT] W9 V2 := kk2
   replace xx2 : Ext w V2 := xx2
   have q10 := kk2
   refine wp_seq_k fun K41 hK41 => ?_
   refine Qab ?_
   refine Qaa (.bool (decide (((n2 : Nat) : Int) < ((zs.length : Nat) : Int)))) 61 rfl kj kj ?_
   refine Qac ?_
   refine hK41 _ _ ?_
   refine wp_seq_k fun K42 hK42 => ?_
   refine QaE (t := decide (((n2 : Nat) : Int) < ((zs.length : Nat) : Int))) kj (fun c43 => ?_) (fun c43 => ?_)
   ·skip
    have hlt61 : n2 < zs.length := by have := of_decide_eq_true c43; omega
    have hnz_44 : (zs).length = zs.length := rfl
    obtain ⟨gcz_44, ocz_44, haz_44, hlz_44, hcz_44⟩ := Qh3 (RdK.ext hz xx2) (by rw [hnz_44]; omega)
    refine wp_skip ?_
    refine hK42 _ _ ?_
    refine wp_seq_k fun K45 hK45 => ?_
    refine wp_block ?_
    refine wp_seq_k fun K46 hK46 => ?_
    refine Qab ?_
    refine Qaa (.pointer (some ⟨gcz_44, ocz_44 + n2, none⟩)) 62 rfl kj (Qga 32 _ _ .i64 n2 gcz_44 ocz_44 zs.length c_z 3 a_z _ haz_44 rfl rfl kj kj kj kj (Nat.lt_of_lt_of_eq (show n2 < zs.length by omega) hnz_44.symm)) ?_
    refine Qaa (.int .i64 (nth (zs) (n2))) 63 rfl kj (Qcn 3 _ _ (.int .i64 (nth (zs) (n2))) (hcz_44 n2 (Nat.lt_of_lt_of_eq (show n2 < zs.length by omega) hnz_44.symm)) rfl kj kj) ?_
    refine Qaa (.int .i64 (nth (zs) (n2))) 16 rfl kj kj ?_
    refine Qac ?_
    refine hK46 _ _ ?_
    refine wp_seq_k fun K47 hK47 => ?_
    skip
    ·skip
     obtain ⟨m, hm, hme⟩ := QgF (nth (zs) (n2)) 70 (by decide)
     obtain ⟨hhi1, hhi2⟩ := QiG hsb2
     refine Qab ?_
     refine Qaa (.int .i64 (nth (zs) (n2))) 64 rfl kj kj ?_
     refine Qaa (.int .u64 (IntKind.u64.wrap (nth (zs) (n2)))) 65 rfl kj kj ?_
     refine Qaa (.int .u64 (((m : Nat) : Int))) 66 rfl kj (Qah (u := .int .u64 (Int.tmod ((IntKind.u64.wrap (nth (zs) (n2)))) (70))) kj (congrArg (Value.int .u64) (show Int.tmod _ (70 : Int) = _ from hme))) ?_
     refine Qaa (.int .i64 (((m : Nat) : Int))) 67 rfl kj (Qah (u := .int .i64 (IntKind.i64.wrap (((m : Nat) : Int)))) kj (congrArg (Value.int .i64) (QgW m (by omega)))) ?_
     refine Qaa (.int .i64 (((m : Nat) : Int))) 17 rfl kj kj ?_
     refine Qac ?_
     refine hK47 _ _ ?_
     refine wp_seq_k fun K48 hK48 => ?_
     rcases (show chkN ts2 pl2 ((m : Nat) : Int) = 0 ∨ chkN ts2 pl2 ((m : Nat) : Int) ≠ 0 from Decidable.em _) with hec | hec
     ·skip
      have hni := (QcN (QdG hec).1).2.2.2
      refine Qab ?_
      refine Qaa (.pointer (some ⟨gcB, 0, none⟩)) 69 rfl kj kj ?_
      refine Qaa (.int .i64 (((j : Nat) : Int))) 70 rfl kj kj ?_
      refine Qaa (.int .i64 (((m : Nat) : Int))) 71 rfl kj kj ?_
      have r15_10 := (Qai.row q10 r15_9 (Qan ng_gcB_2 (Qan nm_gcB_2 (Qan nx_gcB_2 Qa6))))
      have r16_10 := (Qai.row q10 r16_9 (Qan ng_glB_2 (Qan nm_glB_2 (Qan nx_glB_2 Qa6))))
      have r1_5 := (Qad r1_4 e5)
      have r1_6 := (Qad r1_5 e6)
      have r1_7 := (Qad r1_6 e7)
      have r1_8 := (Qai.row q8 r1_7 (Qan (Nat.ne_of_lt (Nat.lt_of_lt_of_le (Qar hc) lo0a)) (Qan (Nat.ne_of_lt (Nat.lt_of_lt_of_le (Qar hc) lm0a)) (Qan (Nat.ne_of_lt (Nat.lt_of_lt_of_le (Qar hc) l0mB)) Qa6))))
      have r1_9 := (Qad r1_8 e9)
      have r1_10 := (Qai.row q10 r1_9 (Qan (Nat.ne_of_lt (Nat.lt_of_lt_of_le (Qar hc) lo0b)) (Qan (Nat.ne_of_lt (Nat.lt_of_lt_of_le (Qar hc) lm0b)) (Qan (Nat.ne_of_lt (Nat.lt_of_lt_of_le (Qar hc) l0mT)) Qa6))))
      have r2_5 := (Qad r2_4 e5)
      have r2_6 := (Qad r2_5 e6)
      have r2_7 := (Qad r2_6 e7)
      have r2_8 := (Qai.row q8 r2_7 (Qan (Nat.ne_of_lt (Nat.lt_of_lt_of_le (Qar hq) lo0a)) (Qan (Nat.ne_of_lt (Nat.lt_of_lt_of_le (Qar hq) lm0a)) (Qan (Nat.ne_of_lt (Nat.lt_of_lt_of_le (Qar hq) l0mB)) Qa6))))
      have r2_9 := (Qad r2_8 e9)
      have r2_10 := (Qai.row q10 r2_9 (Qan (Nat.ne_of_lt (Nat.lt_of_lt_of_le (Qar hq) lo0b)) (Qan (Nat.ne_of_lt (Nat.lt_of_lt_of_le (Qar hq) lm0b)) (Qan (Nat.ne_of_lt (Nat.lt_of_lt_of_le (Qar hq) l0mT)) Qa6))))
      refine Qa8 (fun v W' => (fun v W => ∃ u, v = .tuple #[u, .nilIface] ∧ QbO V2.heap.size ((m : Nat) : Int) (keyV (itV (Qa5 sec 2 j) m)) u W) v W' ∧ Ext V2 W') 14 #[.pointer (some ⟨gcB, 0, none⟩), .int .i64 (((j : Nat) : Int)), .int .i64 (((m : Nat) : Int))] 72 rfl kj kj ((Qjr gcB glB (2 ^ 2) capB lpB _ r15_10 r16_10 gb j hj hlb tc tq r1_10 r2_10 hsb2 m hec).mono (by rintro e w' ⟨v, rfl, e1, hv⟩; exact ⟨v, rfl, hv, e1⟩)) fun vv49 W11 hh49 => ?_
      obtain ⟨hv49, e11⟩ := hh49
      have x11 : Ext w W11 := Ext.tr xx2 e11
      obtain ⟨uu50, rfl, u50, rfl, hu50⟩ := hv49
      obtain ⟨a50_, c50_, rfl, -⟩ := id (OwnN.rd hu50)
      refine Qaa (.tuple #[.agg (cat [#[.int .i64 ((m : Nat) : Int)], ints .u8 ((keyV (itV (Qa5 sec 2 j) m)).take 32), #[.slice a50_ ((keyV (itV (Qa5 sec 2 j) m)).drop 32).length c50_]]), .nilIface]) 68 rfl kj kj ?_
      refine Qaa (.agg (cat [#[.int .i64 ((m : Nat) : Int)], ints .u8 ((keyV (itV (Qa5 sec 2 j) m)).take 32), #[.slice a50_ ((keyV (itV (Qa5 sec 2 j) m)).drop 32).length c50_]])) 73 rfl kj kj ?_
      refine Qaa (.nilIface) 74 rfl kj kj ?_
      refine Qas (cat [#[.int .i64 0], ints .u8 (List.replicate 32 0), #[.slice none 0 0]]) 40 18 rfl kj kj fun g51 W12 l51 e12 r51_12 => ?_
      have x12 : Ext w W12 := Ext.tr x11 e12
      have b51 : w.heap.size ≤ g51 := Nat.le_trans x11.size l51
      refine Qaj g51 _ (cat [#[.int .i64 ((m : Nat) : Int)], ints .u8 ((keyV (itV (Qa5 sec 2 j) m)).take 32), #[.slice a50_ ((keyV (itV (Qa5 sec 2 j) m)).drop 32).length c50_]]) 40 r51_12 rfl kj (Qap 40 _ _ g51 40 _ _ r51_12 rfl kj kj (isz (n := 34) kj (by rw [Qae, Qae, Qae]; simp only [Array.size_append, cat, ((Qaf _ _).trans (QaG (Qa7 _)))]; rfl)) (eqsz (n := 34) (by rw [Qae, Qae, Qae]; simp only [Array.size_append, cat, ((Qaf _ _).trans (List.length_replicate (n := 32)))]; rfl) (by rw [Qae, Qae, Qae]; simp only [Array.size_append, cat, ((Qaf _ _).trans (QaG (Qa7 _)))]; rfl)) (QaY _ (by intro a ha; simp only [List.mem_cons, List.not_mem_nil, or_false] at ha; rcases ha with rfl | rfl | rfl; exact (QaA _ rfl); exact (Qa0 _ _); exact (QaA _ rfl)))) fun W13 p13 r51_13 => ?_
      have x13 : Ext w W13 := Puts.ext p13 x12 b51
      refine Qaa (.nilIface) 19 rfl kj kj ?_
      refine Qac ?_
      refine hK48 _ _ ?_
      refine wp_seq_k fun K52 hK52 => ?_
      refine Qab ?_
      refine Qaa (.pointer (some ⟨gcB, 0, none⟩)) 76 rfl kj kj ?_
      refine Qaa (.int .i64 (((j : Nat) : Int))) 77 rfl kj kj ?_
      refine Qaa (.int .i64 (((m : Nat) : Int))) 78 rfl kj kj ?_
      have r15_11 := (Qad r15_10 e11)
      have r15_12 := (Qad r15_11 e12)
      have r15_13 := (Puts.row p13 r15_12 (Qag r15_11 l51))
      have r16_11 := (Qad r16_10 e11)
      have r16_12 := (Qad r16_11 e12)
      have r16_13 := (Puts.row p13 r16_12 (Qag r16_11 l51))
      have r1_11 := (Qad r1_10 e11)
      have r1_12 := (Qad r1_11 e12)
      have r1_13 := (Puts.row p13 r1_12 (Qag r1_11 l51))
      have r2_11 := (Qad r2_10 e11)
      have r2_12 := (Qad r2_11 e12)
      have r2_13 := (Puts.row p13 r2_12 (Qag r2_11 l51))
      have hb_11 := (ChSt.ext hsb2 e11)
      have hb_12 := (ChSt.ext hb_11 e12)
      have hb_13 := (QbF hb_12 p13 r51_12 (by decide))
      refine Qa8 (fun v W' => ∃ u, v = .tuple #[u, .nilIface] ∧ Qai [gb, mb] W13 W' ∧ ChSt gb mb (Qa5 sec 2 j) (ts2 ++ [((m : Nat) : Int)]) (max pl2 (m + 1)) (Qc5 ms2 (Qa5 sec 2 j) pl2 m) W' ∧ QbO W13.heap.size ((m : Nat) : Int) (keyV (itV (Qa5 sec 2 j) m)) u W') 13 #[.pointer (some ⟨gcB, 0, none⟩), .int .i64 (((j : Nat) : Int)), .int .i64 (((m : Nat) : Int))] 79 rfl kj kj ((Qg2 gcB glB (2 ^ 2) capB lpB _ r15_13 r16_13 gb j hj hlb tc tq r1_13 r2_13 hb_13 m hec (Nat.ne_of_lt (Nat.lt_of_lt_of_le (Qar hc) lo0b)) (Nat.ne_of_lt (Nat.lt_of_lt_of_le (Qar hq) lo0b))).mono (by rintro e w' ⟨v, rfl, q1, q2, q3⟩; exact ⟨_, rfl, _, rfl, q1, q2, q3⟩)) fun vv53 W14 hh53 => ?_
      obtain ⟨uu53, rfl, q14, hb_b14, u53, rfl, hu53⟩ := hh53
      obtain ⟨a53_, c53_, rfl, -⟩ := id (OwnN.rd hu53)
      have x14 : Ext w W14 := Qea x13 q14 lo0b lm0b
      refine Qaa (.tuple #[.agg (cat [#[.int .i64 ((m : Nat) : Int)], ints .u8 ((keyV (itV (Qa5 sec 2 j) m)).take 32), #[.slice a53_ ((keyV (itV (Qa5 sec 2 j) m)).drop 32).length c53_]]), .nilIface]) 75 rfl kj kj ?_
      refine Qaa (.agg (cat [#[.int .i64 ((m : Nat) : Int)], ints .u8 ((keyV (itV (Qa5 sec 2 j) m)).take 32), #[.slice a53_ ((keyV (itV (Qa5 sec 2 j) m)).drop 32).length c53_]])) 80 rfl kj kj ?_
      refine Qaa (.nilIface) 81 rfl kj kj ?_
      refine Qas (cat [#[.int .i64 0], ints .u8 (List.replicate 32 0), #[.slice none 0 0]]) 40 20 rfl kj kj fun g54 W15 l54 e15 r54_15 => ?_
      have x15 : Ext w W15 := Ext.tr x14 e15
      have b54 : w.heap.size ≤ g54 := Nat.le_trans x14.size l54
      refine Qaj g54 _ (cat [#[.int .i64 ((m : Nat) : Int)], ints .u8 ((keyV (itV (Qa5 sec 2 j) m)).take 32), #[.slice a53_ ((keyV (itV (Qa5 sec 2 j) m)).drop 32).length c53_]]) 40 r54_15 rfl kj (Qap 40 _ _ g54 40 _ _ r54_15 rfl kj kj (isz (n := 34) kj (by rw [Qae, Qae, Qae]; simp only [Array.size_append, cat, ((Qaf _ _).trans (QaG (Qa7 _)))]; rfl)) (eqsz (n := 34) (by rw [Qae, Qae, Qae]; simp only [Array.size_append, cat, ((Qaf _ _).trans (List.length_replicate (n := 32)))]; rfl) (by rw [Qae, Qae, Qae]; simp only [Array.size_append, cat, ((Qaf _ _).trans (QaG (Qa7 _)))]; rfl)) (QaY _ (by intro a ha; simp only [List.mem_cons, List.not_mem_nil, or_false] at ha; rcases ha with rfl | rfl | rfl; exact (QaA _ rfl); exact (Qa0 _ _); exact (QaA _ rfl)))) fun W16 p16 r54_16 => ?_
      have x16 : Ext w W16 := Puts.ext p16 x15 b54
      refine Qaa (.nilIface) 21 rfl kj kj ?_
      refine Qac ?_
      refine hK52 _ _ ?_
      refine wp_seq_k fun K55 hK55 => ?_
      refine wp_seq_k fun K56 hK56 => ?_
      refine QaN 12 [⟨none, [(19, none)]⟩, ⟨none, [(82, some 0)]⟩, ⟨none, [(21, none)]⟩, ⟨none, [(84, some 2)]⟩, ⟨none, [(83, some 1), (85, some 3)]⟩, ⟨none, [(86, some 4)]⟩, ⟨some (87, false), [(18, none), (87, some 5)]⟩, ⟨some (87, false), [(88, some 6), (87, some 5)]⟩, ⟨some (87, false), [(20, none), (87, some 5)]⟩, ⟨some (87, false), [(90, some 8), (87, some 5)]⟩, ⟨some (87, false), [(89, some 7), (91, some 9), (87, some 5)]⟩, ⟨none, [(87, some 5), (92, some 10)]⟩] kj kj fun F hF => ?_
      refine Qak (.nilIface) kj kj (fun W => by kernel_rfl) ?_
      refine Qak (.bool true) kj kj (fun W => by kernel_rfl) ?_
      refine Qak (.nilIface) kj kj (fun W => by kernel_rfl) ?_
      refine Qak (.bool true) kj kj (fun W => by kernel_rfl) ?_
      refine Qak (.bool false) kj kj (fun W => by kernel_rfl) ?_
      refine Qak (.bool false) kj kj (fun W => by kernel_rfl) ?_
      refine Qak (.pointer (some ⟨g51, 1, none⟩)) kj kj (fun W => by kernel_rfl) ?_
      have r51_14 := (QbZ hb_13 q14 r51_13 (by decide))
      have r51_15 := (Qad r51_14 e15)
      have r51_16 := (Puts.row p16 r51_15 (Qag r51_14 l54))
      refine QaI (.agg (ints .u8 ((keyV (itV (Qa5 sec 2 j) m)).take 32))) kj kj (fun W hR => (Qa3 37 _ g51 1 40 _ _ _ (Qad (Qad r51_16 (Qa2 _)) hR) rfl kj (Qat [#[.int .i64 ((m : Nat) : Int)]] [ints .u8 ((keyV (itV (Qa5 sec 2 j) m)).take 32)] [#[.slice a50_ ((keyV (itV (Qa5 sec 2 j) m)).drop 32).length c50_]] 1 kj) kj (isz (n := 32) kj ((Qaf _ _).trans (QaG (Qa7 _)))))) ?_
      refine Qak (.pointer (some ⟨g54, 1, none⟩)) kj kj (fun W => by kernel_rfl) ?_
      refine QaI (.agg (ints .u8 ((keyV (itV (Qa5 sec 2 j) m)).take 32))) kj kj (fun W hR => (Qa3 37 _ g54 1 40 _ _ _ (Qad (Qad r54_16 (Qa2 _)) hR) rfl kj (Qat [#[.int .i64 ((m : Nat) : Int)]] [ints .u8 ((keyV (itV (Qa5 sec 2 j) m)).take 32)] [#[.slice a53_ ((keyV (itV (Qa5 sec 2 j) m)).drop 32).length c53_]] 1 kj) kj (isz (n := 32) kj ((Qaf _ _).trans (QaG (Qa7 _)))))) ?_
      refine Qak (.bool false) kj kj (fun W => (Qc7 37 _ _ _ _ _ (.bool false) rfl kj kj kj (Qd6 37 (e := 5) (k := .u8) ((keyV (itV (Qa5 sec 2 j) m)).take 32) ((keyV (itV (Qa5 sec 2 j) m)).take 32) (decide_eq_true rfl) (QaG (Qa7 _)) (QaG (Qa7 _)) kj kj kj _))) ?_
      refine Qak (.bool false) kj kj (fun W => by kernel_rfl) ?_
      refine QaQ (hF _ kj fun W17 e17 => ?_)
      simp only [ups, up, Kn.val, List.take_succ_cons, List.take_zero, List.drop_succ_cons, List.drop_zero, List.nil_append, List.cons_append]
      clear hF
      have x17 : Ext w W17 := Ext.tr x16 e17
      refine Qac ?_
      refine hK56 _ _ ?_
      refine cond_false kj ?_
      refine wp_skip ?_
      refine hK55 _ _ ?_
      refine wp_seq_k fun K57 hK57 => ?_
      refine Qab ?_
      refine Qaa (.nilIface) 94 rfl kj kj ?_
      refine Qaa (.bool true) 95 rfl kj kj ?_
      refine Qac ?_
      refine hK57 _ _ ?_
      refine cond_true kj ?_
      refine wp_seq_k fun K58 hK58 => ?_
      refine Qab ?_
      refine Qaa (.map (some mT)) 96 rfl kj kj ?_
      refine Qaa (.int .i64 (((m : Nat) : Int))) 97 rfl kj kj ?_
      have htm_11 := MpAt.ext htm2 e11
      have htm_12 := MpAt.ext htm_11 e12
      have htm_13 := QcW htm_12 p13 r51_12
      have htm_14 := Qjm htm_13 hb_13 q14 (Ne.symm nmbmT)
      have htm_15 := MpAt.ext htm_14 e15
      have htm_16 := QcW htm_15 p16 r54_15
      have htm_17 := MpAt.ext htm_16 e17
      refine Qaa (.int .i64 0) 98 rfl kj ((QbB (n := ((m : Nat) : Int)) (z := .int .i64 0) 61 (.tmp 96) (.tmp 97) (kt := 3) (et := 3) rfl kj kj kj kj htm_17 kj).trans (by rw [Qie hni])) ?_
      refine Qaa (.int .i64 1) 99 rfl kj kj ?_
      refine Qg7 (ts := ts2) (n := ((m : Nat) : Int)) (.tmp 96) (.tmp 97) (.tmp 99) 61 (kt := 3) (et := 3) rfl kj kj kj kj kj htm_17 hni rfl kj fun W18 p18 htm_18 => ?_
      have x18 : Ext w W18 := Puts.ext p18 x17 l0mT
      refine Qac ?_
      refine hK58 _ _ ?_
      refine wp_seq_k fun K59 hK59 => ?_
      refine Qab ?_
      refine Qaa (.int .i64 (hiT ts2)) 100 rfl kj kj ?_
      refine Qaa (.int .i64 (((m : Nat) : Int))) 101 rfl kj kj ?_
      refine Qaa (.int .i64 (hiT (ts2 ++ [((m : Nat) : Int)]))) 102 rfl kj (Qhy #[3, 3] (.tmp 100) (.tmp 101) .i64 (hiT ts2) ((m : Nat) : Int) _ rfl kj kj (QcI ts2 ((m : Nat) : Int)).symm) ?_
      refine Qaa (.int .i64 (hiT (ts2 ++ [((m : Nat) : Int)]))) 14 rfl kj kj ?_
      refine Qac ?_
      refine hK59 _ _ ?_
      refine wp_seq_k fun K60 hK60 => ?_
      refine Qab ?_
      refine Qaa (.map (some mT)) 103 rfl kj kj ?_
      refine Qaa (.int .i64 (((m : Nat) : Int))) 104 rfl kj kj ?_
      refine Qaa (.int .i64 1) 105 rfl kj ((QbB (n := ((m : Nat) : Int)) (z := .int .i64 0) 61 (.tmp 103) (.tmp 104) (kt := 3) (et := 3) rfl kj kj kj kj htm_18 kj).trans (by rw [QiZ (List.mem_append.2 (.inr (List.mem_singleton.2 rfl)))])) ?_
      refine Qaa (.bool false) 106 rfl kj kj ?_
      refine Qaa (.bool false) 107 rfl kj kj ?_
      refine Qaa (.pointer (some ⟨g54, 1, none⟩)) 108 rfl kj kj ?_
      have r54_17 := (Qad r54_16 e17)
      have r54_18 := (Puts.row p18 r54_17 (MpAt.ne htm_17 r54_17))
      refine Qaa (.agg (ints .u8 ((keyV (itV (Qa5 sec 2 j) m)).take 32))) 109 rfl kj (Qa3 37 _ g54 1 40 _ _ _ r54_18 rfl kj (Qat [#[.int .i64 ((m : Nat) : Int)]] [ints .u8 ((keyV (itV (Qa5 sec 2 j) m)).take 32)] [#[.slice a53_ ((keyV (itV (Qa5 sec 2 j) m)).drop 32).length c53_]] 1 kj) kj (isz (n := 32) kj ((Qaf _ _).trans (QaG (Qa7 _))))) ?_
      refine Qaa (.map (some mB)) 110 rfl kj kj ?_
      refine Qaa (.int .i64 (((m : Nat) : Int))) 111 rfl kj kj ?_
      have hby_11 := BySt.ext hby2 e11
      have hby_12 := BySt.ext hby_11 e12
      have hby_13 := BySt.putc hby_12 p13 r51_12 (by decide)
      have hby_14 := BySt.tk hby_13 hb_13 q14 (Ne.symm nmbmB)
      have hby_15 := BySt.ext hby_14 e15
      have hby_16 := BySt.putc hby_15 p16 r54_15 (by decide)
      have hby_17 := BySt.ext hby_16 e17
      have hby_18 := BySt.putm hby_17 p18 htm_17 nBT
      obtain ⟨es61, ab61, cb61, hme61, hge61, hoe61⟩ := BySt.get hby_18 hm (.agg (cat [#[.int .i64 0], ints .u8 (List.replicate 32 0), #[.slice none 0 0]]))
      refine Qaa (.agg (cat [#[.int .i64 ((m : Nat) : Int)], ints .u8 ((keyV (itV (Qa5 sec 2 j) m)).take 32), #[.slice ab61 ((keyV (itV (Qa5 sec 2 j) m)).drop 32).length cb61]])) 112 rfl kj ((QbB (n := ((m : Nat) : Int)) (z := .agg (cat [#[.int .i64 0], ints .u8 (List.replicate 32 0), #[.slice none 0 0]])) 60 (.tmp 110) (.tmp 111) (kt := 3) (et := 40) rfl kj kj kj kj hme61 kj).trans (by rw [hge61]; rfl)) ?_
      refine Qaa (.agg (ints .u8 ((keyV (itV (Qa5 sec 2 j) m)).take 32))) 113 rfl kj kj ?_
      refine Qaa (.bool false) 114 rfl kj (Qc7 37 _ _ _ _ _ (.bool false) rfl kj kj kj (Qd6 37 (e := 5) (k := .u8) ((keyV (itV (Qa5 sec 2 j) m)).take 32) ((keyV (itV (Qa5 sec 2 j) m)).take 32) (decide_eq_true rfl) (QaG (Qa7 _)) (QaG (Qa7 _)) kj kj kj _)) ?_
      refine Qaa (.bool false) 115 rfl kj kj ?_
      refine Qaa (.bool false) 116 rfl kj kj ?_
      refine Qaa (.pointer (some ⟨g54, 33, none⟩)) 117 rfl kj kj ?_
      refine Qaa (.slice a53_ ((keyV (itV (Qa5 sec 2 j) m)).drop 32).length c53_) 118 rfl kj (Qal 38 _ g54 33 40 _ (.slice a53_ ((keyV (itV (Qa5 sec 2 j) m)).drop 32).length c53_) _ r54_18 rfl kj (Qat [#[.int .i64 ((m : Nat) : Int)], ints .u8 ((keyV (itV (Qa5 sec 2 j) m)).take 32)] [#[.slice a53_ ((keyV (itV (Qa5 sec 2 j) m)).drop 32).length c53_]] [] 33 (by rw [Qae, Qae]; simp only [Array.size_append, cat, ((Qaf _ _).trans (QaG (Qa7 _)))]; rfl) 0 _ rfl) kj) ?_
      refine Qaa (.map (some mB)) 119 rfl kj kj ?_
      refine Qaa (.int .i64 (((m : Nat) : Int))) 120 rfl kj kj ?_
      obtain ⟨es62, ab62, cb62, hme62, hge62, hoe62⟩ := BySt.get hby_18 hm (.agg (cat [#[.int .i64 0], ints .u8 (List.replicate 32 0), #[.slice none 0 0]]))
      refine Qaa (.agg (cat [#[.int .i64 ((m : Nat) : Int)], ints .u8 ((keyV (itV (Qa5 sec 2 j) m)).take 32), #[.slice ab62 ((keyV (itV (Qa5 sec 2 j) m)).drop 32).length cb62]])) 121 rfl kj ((QbB (n := ((m : Nat) : Int)) (z := .agg (cat [#[.int .i64 0], ints .u8 (List.replicate 32 0), #[.slice none 0 0]])) 60 (.tmp 119) (.tmp 120) (kt := 3) (et := 40) rfl kj kj kj kj hme62 kj).trans (by rw [hge62]; rfl)) ?_
      refine Qaa (.slice ab62 ((keyV (itV (Qa5 sec 2 j) m)).drop 32).length cb62) 122 rfl kj kj ?_
      have hon53_15 := OwnN.ext (OwnN.base (Nat.zero_le _) hu53) e15
      have hon53_16 := Qd2 hon53_15 p16 r54_15 (by decide)
      have hon53_17 := OwnN.ext hon53_16 e17
      have hon53_18 := QcE hon53_17 p18 htm_17
      refine Qau (.bool true) 24 #[.slice a53_ ((keyV (itV (Qa5 sec 2 j) m)).drop 32).length c53_, .slice ab62 ((keyV (itV (Qa5 sec 2 j) m)).drop 32).length cb62] 123 rfl kj kj (QjL (.slice a53_ ((keyV (itV (Qa5 sec 2 j) m)).drop 32).length c53_) (.slice ab62 ((keyV (itV (Qa5 sec 2 j) m)).drop 32).length cb62) ((keyV (itV (Qa5 sec 2 j) m)).drop 32) _ (RdK.bytes (OwnN.rd hon53_18) (fun x hx => QcY _ x (List.mem_of_mem_drop hx))) (RdK.bytes (OwnN.rd hoe62) (fun x hx => QcY _ x (List.mem_of_mem_drop hx)))) fun W19 e19 => ?_
      have x19 : Ext w W19 := Ext.tr x18 e19
      refine Qaa (.bool false) 124 rfl kj kj ?_
      refine Qaa (.bool false) 125 rfl kj kj ?_
      refine Qac ?_
      refine hK60 _ _ ?_
      refine cond_false kj ?_
      refine wp_skip ?_
      refine hK45 _ _ ?_
      refine Qab ?_
      refine Qaa (.int .i64 ((n2 + 1 : Nat) : Int)) 136 rfl kj (Qah (u := .int .i64 (IntKind.i64.wrap (((n2 : Nat) : Int) + 1))) kj (congrArg (Value.int .i64) (i64n _ _ (by omega) (by omega)))) ?_
      refine Qaa (.int .i64 ((n2 + 1 : Nat) : Int)) 60 rfl kj kj ?_
      refine Qac ?_
      have hb_15 := (ChSt.ext hb_b14 e15)
      have hb_16 := (QbF hb_15 p16 r54_15 (by decide))
      have hb_17 := (ChSt.ext hb_16 e17)
      have hb_18 := (ChSt.keep hb_17 (p18.2.2.2.2 _ nbmT) (p18.2.2.2.2 _ nmbmT))
      have hb_19 := (ChSt.ext hb_18 e19)
      have hby_19 := BySt.ext hby_18 e19
      have htm_19 := MpAt.ext htm_18 e19
      repeat (first | with_reducible refine goX1 ?_ | with_reducible refine goX2 ?_ | with_reducible refine goX3 ?_)
      exact QaB ((n2 + 1), (ts2 ++ [((m : Nat) : Int)]), (max pl2 (m + 1)), (Qc5 ms2 (Qa5 sec 2 j) pl2 m)) ⟨rfl, rfl, rfl, rfl, rfl, rfl, rfl, rfl, trivial⟩ ⟨(by omega), hb_19, hby_19, htm_19, (Qai.step (Qai.puts (Qai.step (Qai.puts (Qai.step (Qai.keeps (Qai.puts (Qai.step (Qai.step q10 e11) e12) p13 (.inr (Nat.le_trans (Qai.size q10) (Nat.le_trans (Nat.le_trans (Nat.le_refl _) e11.size) l51)))) q14 (fun c hc => .inl (by simp only [List.mem_cons, List.not_mem_nil, or_false] at hc ⊢; omega))) e15) p16 (.inr (Nat.le_trans (Qai.size q10) (Nat.le_trans (Nat.le_trans (Nat.le_trans (Nat.le_trans (Nat.le_trans (Nat.le_refl _) e11.size) e12.size) (Nat.le_of_eq p13.2.2.2.1.symm)) (Qai.size q14)) l54)))) e17) p18 (.inl (by simp))) e19), x19⟩ (by omega)
     ·skip
      refine Qab ?_
      refine Qaa (.pointer (some ⟨gcB, 0, none⟩)) 69 rfl kj kj ?_
      refine Qaa (.int .i64 (((j : Nat) : Int))) 70 rfl kj kj ?_
      refine Qaa (.int .i64 (((m : Nat) : Int))) 71 rfl kj kj ?_
      have r15_10 := (Qai.row q10 r15_9 (Qan ng_gcB_2 (Qan nm_gcB_2 (Qan nx_gcB_2 Qa6))))
      have r16_10 := (Qai.row q10 r16_9 (Qan ng_glB_2 (Qan nm_glB_2 (Qan nx_glB_2 Qa6))))
      have r1_5 := (Qad r1_4 e5)
      have r1_6 := (Qad r1_5 e6)
      have r1_7 := (Qad r1_6 e7)
      have r1_8 := (Qai.row q8 r1_7 (Qan (Nat.ne_of_lt (Nat.lt_of_lt_of_le (Qar hc) lo0a)) (Qan (Nat.ne_of_lt (Nat.lt_of_lt_of_le (Qar hc) lm0a)) (Qan (Nat.ne_of_lt (Nat.lt_of_lt_of_le (Qar hc) l0mB)) Qa6))))
      have r1_9 := (Qad r1_8 e9)
      have r1_10 := (Qai.row q10 r1_9 (Qan (Nat.ne_of_lt (Nat.lt_of_lt_of_le (Qar hc) lo0b)) (Qan (Nat.ne_of_lt (Nat.lt_of_lt_of_le (Qar hc) lm0b)) (Qan (Nat.ne_of_lt (Nat.lt_of_lt_of_le (Qar hc) l0mT)) Qa6))))
      have r2_5 := (Qad r2_4 e5)
      have r2_6 := (Qad r2_5 e6)
      have r2_7 := (Qad r2_6 e7)
      have r2_8 := (Qai.row q8 r2_7 (Qan (Nat.ne_of_lt (Nat.lt_of_lt_of_le (Qar hq) lo0a)) (Qan (Nat.ne_of_lt (Nat.lt_of_lt_of_le (Qar hq) lm0a)) (Qan (Nat.ne_of_lt (Nat.lt_of_lt_of_le (Qar hq) l0mB)) Qa6))))
      have r2_9 := (Qad r2_8 e9)
      have r2_10 := (Qai.row q10 r2_9 (Qan (Nat.ne_of_lt (Nat.lt_of_lt_of_le (Qar hq) lo0b)) (Qan (Nat.ne_of_lt (Nat.lt_of_lt_of_le (Qar hq) lm0b)) (Qan (Nat.ne_of_lt (Nat.lt_of_lt_of_le (Qar hq) l0mT)) Qa6))))
      refine Qau (.tuple #[.agg (cat [#[.int .i64 0], ints .u8 (List.replicate 32 0), #[.slice none 0 0]]), .iface 47 (.int .i64 (chkN ts2 pl2 ((m : Nat) : Int)))]) 14 #[.pointer (some ⟨gcB, 0, none⟩), .int .i64 (((j : Nat) : Int)), .int .i64 (((m : Nat) : Int))] 72 rfl kj kj (Qjs gcB glB (2 ^ 2) capB lpB _ r15_10 r16_10 gb j hj hlb tc tq r1_10 r2_10 hsb2 ((m : Nat) : Int) hec) fun W11 e11 => ?_
      have x11 : Ext w W11 := Ext.tr xx2 e11
      refine Qaa (.tuple #[.agg (cat [#[.int .i64 0], ints .u8 (List.replicate 32 0), #[.slice none 0 0]]), .iface 47 (.int .i64 (chkN ts2 pl2 ((m : Nat) : Int)))]) 68 rfl kj kj ?_
      refine Qaa (.agg (cat [#[.int .i64 0], ints .u8 (List.replicate 32 0), #[.slice none 0 0]])) 73 rfl kj kj ?_
      refine Qaa (.iface 47 (.int .i64 (chkN ts2 pl2 ((m : Nat) : Int)))) 74 rfl kj kj ?_
      refine Qas (cat [#[.int .i64 0], ints .u8 (List.replicate 32 0), #[.slice none 0 0]]) 40 18 rfl kj kj fun g63 W12 l63 e12 r63_12 => ?_
      have x12 : Ext w W12 := Ext.tr x11 e12
      have b63 : w.heap.size ≤ g63 := Nat.le_trans x11.size l63
      refine Qaj g63 _ (cat [#[.int .i64 0], ints .u8 (List.replicate 32 0), #[.slice none 0 0]]) 40 r63_12 rfl kj (Qap 40 _ _ g63 40 _ _ r63_12 rfl kj kj (isz (n := 34) kj (by rw [Qae, Qae, Qae]; simp only [Array.size_append, cat, ((Qaf _ _).trans (List.length_replicate (n := 32)))]; rfl)) (eqsz (n := 34) (by rw [Qae, Qae, Qae]; simp only [Array.size_append, cat, ((Qaf _ _).trans (List.length_replicate (n := 32)))]; rfl) (by rw [Qae, Qae, Qae]; simp only [Array.size_append, cat, ((Qaf _ _).trans (List.length_replicate (n := 32)))]; rfl)) (QaY _ (by intro a ha; simp only [List.mem_cons, List.not_mem_nil, or_false] at ha; rcases ha with rfl | rfl | rfl; exact (QaA _ rfl); exact (Qa0 _ _); exact (QaA _ rfl)))) fun W13 p13 r63_13 => ?_
      have x13 : Ext w W13 := Puts.ext p13 x12 b63
      refine Qaa (.iface 47 (.int .i64 (chkN ts2 pl2 ((m : Nat) : Int)))) 19 rfl kj kj ?_
      refine Qac ?_
      refine hK48 _ _ ?_
      refine wp_seq_k fun K64 hK64 => ?_
      refine Qab ?_
      refine Qaa (.pointer (some ⟨gcB, 0, none⟩)) 76 rfl kj kj ?_
      refine Qaa (.int .i64 (((j : Nat) : Int))) 77 rfl kj kj ?_
      refine Qaa (.int .i64 (((m : Nat) : Int))) 78 rfl kj kj ?_
      have r15_11 := (Qad r15_10 e11)
      have r15_12 := (Qad r15_11 e12)
      have r15_13 := (Puts.row p13 r15_12 (Qag r15_11 l63))
      have r16_11 := (Qad r16_10 e11)
      have r16_12 := (Qad r16_11 e12)
      have r16_13 := (Puts.row p13 r16_12 (Qag r16_11 l63))
      have r1_11 := (Qad r1_10 e11)
      have r1_12 := (Qad r1_11 e12)
      have r1_13 := (Puts.row p13 r1_12 (Qag r1_11 l63))
      have r2_11 := (Qad r2_10 e11)
      have r2_12 := (Qad r2_11 e12)
      have r2_13 := (Puts.row p13 r2_12 (Qag r2_11 l63))
      have hb_11 := (ChSt.ext hsb2 e11)
      have hb_12 := (ChSt.ext hb_11 e12)
      have hb_13 := (QbF hb_12 p13 r63_12 (by decide))
      refine Qau (.tuple #[.agg (cat [#[.int .i64 0], ints .u8 (List.replicate 32 0), #[.slice none 0 0]]), .iface 47 (.int .i64 (chkN ts2 pl2 ((m : Nat) : Int)))]) 13 #[.pointer (some ⟨gcB, 0, none⟩), .int .i64 (((j : Nat) : Int)), .int .i64 (((m : Nat) : Int))] 79 rfl kj kj (Qja gcB glB (2 ^ 2) capB lpB _ r15_13 r16_13 gb j hj hlb tc tq r1_13 r2_13 hb_13 ((m : Nat) : Int) hec) fun W14 e14 => ?_
      have x14 : Ext w W14 := Ext.tr x13 e14
      refine Qaa (.tuple #[.agg (cat [#[.int .i64 0], ints .u8 (List.replicate 32 0), #[.slice none 0 0]]), .iface 47 (.int .i64 (chkN ts2 pl2 ((m : Nat) : Int)))]) 75 rfl kj kj ?_
      refine Qaa (.agg (cat [#[.int .i64 0], ints .u8 (List.replicate 32 0), #[.slice none 0 0]])) 80 rfl kj kj ?_
      refine Qaa (.iface 47 (.int .i64 (chkN ts2 pl2 ((m : Nat) : Int)))) 81 rfl kj kj ?_
      refine Qas (cat [#[.int .i64 0], ints .u8 (List.replicate 32 0), #[.slice none 0 0]]) 40 20 rfl kj kj fun g65 W15 l65 e15 r65_15 => ?_
      have x15 : Ext w W15 := Ext.tr x14 e15
      have b65 : w.heap.size ≤ g65 := Nat.le_trans x14.size l65
      refine Qaj g65 _ (cat [#[.int .i64 0], ints .u8 (List.replicate 32 0), #[.slice none 0 0]]) 40 r65_15 rfl kj (Qap 40 _ _ g65 40 _ _ r65_15 rfl kj kj (isz (n := 34) kj (by rw [Qae, Qae, Qae]; simp only [Array.size_append, cat, ((Qaf _ _).trans (List.length_replicate (n := 32)))]; rfl)) (eqsz (n := 34) (by rw [Qae, Qae, Qae]; simp only [Array.size_append, cat, ((Qaf _ _).trans (List.length_replicate (n := 32)))]; rfl) (by rw [Qae, Qae, Qae]; simp only [Array.size_append, cat, ((Qaf _ _).trans (List.length_replicate (n := 32)))]; rfl)) (QaY _ (by intro a ha; simp only [List.mem_cons, List.not_mem_nil, or_false] at ha; rcases ha with rfl | rfl | rfl; exact (QaA _ rfl); exact (Qa0 _ _); exact (QaA _ rfl)))) fun W16 p16 r65_16 => ?_
      have x16 : Ext w W16 := Puts.ext p16 x15 b65
      refine Qaa (.iface 47 (.int .i64 (chkN ts2 pl2 ((m : Nat) : Int)))) 21 rfl kj kj ?_
      refine Qac ?_
      refine hK64 _ _ ?_
      refine wp_seq_k fun K66 hK66 => ?_
      refine wp_seq_k fun K67 hK67 => ?_
      refine QaN 12 [⟨none, [(19, none)]⟩, ⟨none, [(82, some 0)]⟩, ⟨none, [(21, none)]⟩, ⟨none, [(84, some 2)]⟩, ⟨none, [(83, some 1), (85, some 3)]⟩, ⟨none, [(86, some 4)]⟩, ⟨some (87, false), [(18, none), (87, some 5)]⟩, ⟨some (87, false), [(88, some 6), (87, some 5)]⟩, ⟨some (87, false), [(20, none), (87, some 5)]⟩, ⟨some (87, false), [(90, some 8), (87, some 5)]⟩, ⟨some (87, false), [(89, some 7), (91, some 9), (87, some 5)]⟩, ⟨none, [(87, some 5), (92, some 10)]⟩] kj kj fun F hF => ?_
      refine Qak (.iface 47 (.int .i64 (chkN ts2 pl2 ((m : Nat) : Int)))) kj kj (fun W => by kernel_rfl) ?_
      refine Qak (.bool false) kj kj (fun W => by kernel_rfl) ?_
      refine Qak (.iface 47 (.int .i64 (chkN ts2 pl2 ((m : Nat) : Int)))) kj kj (fun W => by kernel_rfl) ?_
      refine Qak (.bool false) kj kj (fun W => by kernel_rfl) ?_
      refine Qak (.bool false) kj kj (fun W => by kernel_rfl) ?_
      refine Qak (.bool false) kj kj (fun W => by kernel_rfl) ?_
      refine Qak (.pointer (some ⟨g63, 1, none⟩)) kj kj (fun W => by kernel_rfl) ?_
      have r63_14 := (Qad r63_13 e14)
      have r63_15 := (Qad r63_14 e15)
      have r63_16 := (Puts.row p16 r63_15 (Qag r63_14 l65))
      refine QaI (.agg (ints .u8 (List.replicate 32 0))) kj kj (fun W hR => (Qa3 37 _ g63 1 40 _ _ _ (Qad (Qad r63_16 (Qa2 _)) hR) rfl kj (Qat [#[.int .i64 0]] [ints .u8 (List.replicate 32 0)] [#[.slice none 0 0]] 1 kj) kj (isz (n := 32) kj ((Qaf _ _).trans (List.length_replicate (n := 32)))))) ?_
      refine Qak (.pointer (some ⟨g65, 1, none⟩)) kj kj (fun W => by kernel_rfl) ?_
      refine QaI (.agg (ints .u8 (List.replicate 32 0))) kj kj (fun W hR => (Qa3 37 _ g65 1 40 _ _ _ (Qad (Qad r65_16 (Qa2 _)) hR) rfl kj (Qat [#[.int .i64 0]] [ints .u8 (List.replicate 32 0)] [#[.slice none 0 0]] 1 kj) kj (isz (n := 32) kj ((Qaf _ _).trans (List.length_replicate (n := 32)))))) ?_
      refine Qak (.bool false) kj kj (fun W => (Qc7 37 _ _ _ _ _ (.bool false) rfl kj kj kj (Qd6 37 (e := 5) (k := .u8) (List.replicate 32 0) (List.replicate 32 0) (decide_eq_true rfl) (List.length_replicate (n := 32)) (List.length_replicate (n := 32)) kj kj kj _))) ?_
      refine Qak (.bool false) kj kj (fun W => by kernel_rfl) ?_
      refine QaQ (hF _ kj fun W17 e17 => ?_)
      simp only [ups, up, Kn.val, List.take_succ_cons, List.take_zero, List.drop_succ_cons, List.drop_zero, List.nil_append, List.cons_append]
      clear hF
      have x17 : Ext w W17 := Ext.tr x16 e17
      refine Qac ?_
      refine hK67 _ _ ?_
      refine cond_false kj ?_
      refine wp_skip ?_
      refine hK66 _ _ ?_
      refine wp_seq_k fun K68 hK68 => ?_
      refine Qab ?_
      refine Qaa (.iface 47 (.int .i64 (chkN ts2 pl2 ((m : Nat) : Int)))) 94 rfl kj kj ?_
      refine Qaa (.bool false) 95 rfl kj kj ?_
      refine Qac ?_
      refine hK68 _ _ ?_
      refine cond_false kj ?_
      refine wp_seq_k fun K69 hK69 => ?_
      rcases Qj5 hm hec with hin | hin
      ·skip
       refine Qab ?_
       refine Qaa (.map (some mT)) 126 rfl kj kj ?_
       refine Qaa (.int .i64 (((m : Nat) : Int))) 127 rfl kj kj ?_
       have htm_11 := MpAt.ext htm2 e11
       have htm_12 := MpAt.ext htm_11 e12
       have htm_13 := QcW htm_12 p13 r63_12
       have htm_14 := MpAt.ext htm_13 e14
       have htm_15 := MpAt.ext htm_14 e15
       have htm_16 := QcW htm_15 p16 r65_15
       have htm_17 := MpAt.ext htm_16 e17
       refine Qaa (.int .i64 1) 128 rfl kj ((QbB (n := ((m : Nat) : Int)) (z := .int .i64 0) 61 (.tmp 126) (.tmp 127) (kt := 3) (et := 3) rfl kj kj kj kj htm_17 kj).trans (by rw [QiZ hin])) ?_
       refine Qaa (.bool false) 129 rfl kj kj ?_
       refine Qaa (.bool false) 130 rfl kj kj ?_
       refine Qax 131 rfl kj ?_
       refine Qax 132 rfl kj ?_
       refine Qax 133 rfl kj ?_
       refine Qax 134 rfl kj ?_
       refine Qaa (.bool false) 135 rfl kj kj ?_
       refine Qac ?_
       refine hK69 _ _ ?_
       refine cond_false kj ?_
       refine wp_skip ?_
       refine hK45 _ _ ?_
       refine Qab ?_
       refine Qaa (.int .i64 ((n2 + 1 : Nat) : Int)) 136 rfl kj (Qah (u := .int .i64 (IntKind.i64.wrap (((n2 : Nat) : Int) + 1))) kj (congrArg (Value.int .i64) (i64n _ _ (by omega) (by omega)))) ?_
       refine Qaa (.int .i64 ((n2 + 1 : Nat) : Int)) 60 rfl kj kj ?_
       refine Qac ?_
       have hb_14 := (ChSt.ext hb_13 e14)
       have hb_15 := (ChSt.ext hb_14 e15)
       have hb_16 := (QbF hb_15 p16 r65_15 (by decide))
       have hb_17 := (ChSt.ext hb_16 e17)
       have hby_11 := BySt.ext hby2 e11
       have hby_12 := BySt.ext hby_11 e12
       have hby_13 := BySt.putc hby_12 p13 r63_12 (by decide)
       have hby_14 := BySt.ext hby_13 e14
       have hby_15 := BySt.ext hby_14 e15
       have hby_16 := BySt.putc hby_15 p16 r65_15 (by decide)
       have hby_17 := BySt.ext hby_16 e17
       repeat (first | with_reducible refine goX1 ?_ | with_reducible refine goX2 ?_ | with_reducible refine goX3 ?_)
       exact QaB ((n2 + 1), ts2, pl2, ms2) ⟨rfl, rfl, rfl, rfl, rfl, rfl, rfl, rfl, trivial⟩ ⟨(by omega), hb_17, hby_17, htm_17, (Qai.step (Qai.puts (Qai.step (Qai.step (Qai.puts (Qai.step (Qai.step q10 e11) e12) p13 (.inr (Nat.le_trans (Qai.size q10) (Nat.le_trans (Nat.le_trans (Nat.le_refl _) e11.size) l63)))) e14) e15) p16 (.inr (Nat.le_trans (Qai.size q10) (Nat.le_trans (Nat.le_trans (Nat.le_trans (Nat.le_trans (Nat.le_trans (Nat.le_refl _) e11.size) e12.size) (Nat.le_of_eq p13.2.2.2.1.symm)) e14.size) l65)))) e17), x17⟩ (by omega)
      ·skip
       refine Qab ?_
       refine Qaa (.map (some mT)) 126 rfl kj kj ?_
       refine Qaa (.int .i64 (((m : Nat) : Int))) 127 rfl kj kj ?_
       have htm_11 := MpAt.ext htm2 e11
       have htm_12 := MpAt.ext htm_11 e12
       have htm_13 := QcW htm_12 p13 r63_12
       have htm_14 := MpAt.ext htm_13 e14
       have htm_15 := MpAt.ext htm_14 e15
       have htm_16 := QcW htm_15 p16 r65_15
       have htm_17 := MpAt.ext htm_16 e17
       refine Qaa (.int .i64 0) 128 rfl kj ((QbB (n := ((m : Nat) : Int)) (z := .int .i64 0) 61 (.tmp 126) (.tmp 127) (kt := 3) (et := 3) rfl kj kj kj kj htm_17 kj).trans (by rw [Qie hin.1])) ?_
       refine Qaa (.bool true) 129 rfl kj kj ?_
       refine Qaa (.bool true) 130 rfl kj kj ?_
       refine Qaa (.int .i64 (((m : Nat) : Int))) 131 rfl kj kj ?_
       refine Qaa (.int .i64 (hiT ts2)) 132 rfl kj kj ?_
       refine Qaa (.int .i64 (hiT ts2 - 64)) 133 rfl kj (Qah (u := .int .i64 (IntKind.i64.wrap ((hiT ts2) - 64))) kj (congrArg (Value.int .i64) (Qbo _ (by omega)))) ?_
       refine Qaa (.bool false) 134 rfl kj (Qah (u := .bool (decide (((m : Nat) : Int) ≥ (hiT ts2 - 64)))) kj (congrArg Value.bool (decide_eq_false (by omega)))) ?_
       refine Qaa (.bool false) 135 rfl kj kj ?_
       refine Qac ?_
       refine hK69 _ _ ?_
       refine cond_false kj ?_
       refine wp_skip ?_
       refine hK45 _ _ ?_
       refine Qab ?_
       refine Qaa (.int .i64 ((n2 + 1 : Nat) : Int)) 136 rfl kj (Qah (u := .int .i64 (IntKind.i64.wrap (((n2 : Nat) : Int) + 1))) kj (congrArg (Value.int .i64) (i64n _ _ (by omega) (by omega)))) ?_
       refine Qaa (.int .i64 ((n2 + 1 : Nat) : Int)) 60 rfl kj kj ?_
       refine Qac ?_
       have hb_14 := (ChSt.ext hb_13 e14)
       have hb_15 := (ChSt.ext hb_14 e15)
       have hb_16 := (QbF hb_15 p16 r65_15 (by decide))
       have hb_17 := (ChSt.ext hb_16 e17)
       have hby_11 := BySt.ext hby2 e11
       have hby_12 := BySt.ext hby_11 e12
       have hby_13 := BySt.putc hby_12 p13 r63_12 (by decide)
       have hby_14 := BySt.ext hby_13 e14
       have hby_15 := BySt.ext hby_14 e15
       have hby_16 := BySt.putc hby_15 p16 r65_15 (by decide)
       have hby_17 := BySt.ext hby_16 e17
       repeat (first | with_reducible refine goX1 ?_ | with_reducible refine goX2 ?_ | with_reducible refine goX3 ?_)
       exact QaB ((n2 + 1), ts2, pl2, ms2) ⟨rfl, rfl, rfl, rfl, rfl, rfl, rfl, rfl, trivial⟩ ⟨(by omega), hb_17, hby_17, htm_17, (Qai.step (Qai.puts (Qai.step (Qai.step (Qai.puts (Qai.step (Qai.step q10 e11) e12) p13 (.inr (Nat.le_trans (Qai.size q10) (Nat.le_trans (Nat.le_trans (Nat.le_refl _) e11.size) l63)))) e14) e15) p16 (.inr (Nat.le_trans (Qai.size q10) (Nat.le_trans (Nat.le_trans (Nat.le_trans (Nat.le_trans (Nat.le_trans (Nat.le_refl _) e11.size) e12.size) (Nat.le_of_eq p13.2.2.2.1.symm)) e14.size) l65)))) e17), x17⟩ (by omega)
   ·skip
    have heq61 : n2 = zs.length := by have := of_decide_eq_false c43; omega
    refine wp_exit ?_
    refine hK37 _ _ ?_
    refine wp_seq_k fun K70 hK70 => ?_
    refine Qab ?_
    refine Qaa (.bool true) 6 rfl kj kj ?_
    refine Qac ?_
    refine hK70 _ _ ?_
    refine wp_ret ?_
    repeat (first | with_reducible refine goR1 ?_ | with_reducible refine goR2 ?_)
    exact (show bodyPost _ _ _ .ret _ _ from ret1 (.bool true) rfl (Qa9 kj) ⟨rfl, xx2⟩)
theorem lawOnce (sec : List Int) (hsl : sec.length = 32) (hsb : Qao sec) (x : Int) (zs : List Int) (a_z : Option Addr) (c_z : Nat) (tc tq : TypeId) (w : World) (hc : w.heap[2]? = some (.cells (ints .u64 QaD) tc)) (hq : w.heap[1]? = some (.cells (ints .u64 Qam) tq)) (hT : Seat.TabAt w) (hz : RdK .i64 w.heap.size zs (.slice a_z zs.length c_z) w) : Calls Tryd.prog 4 #[.agg (ints .u8 sec), .int .i64 x, .slice a_z zs.length c_z] w (Ret w (.bool true)) := by
  by_cases h1 : 60 < zs.length
  · exact Qji sec hsl hsb x zs a_z c_z tc tq w hc hq hT hz h1
  · exact Qjh sec hsl hsb x zs a_z c_z tc tq w hc hq hT hz (by omega)
end Go.Proofs.YtibegnjaphohaaaDoor.Cn
end
section
namespace Go.Proofs.YtibegnjaphohaaaDoor.Auto
open Go Go.RowKit
open Rely
set_option linter.unusedVariables false
theorem Qd7 {P : Program} {w : World} : ∀ (laid : List (String × DataW Unit)) (ps : List MemPlace) (n : String) (d : DataW Unit), DataW.LaidVars P w laid ps → (n, d) ∈ laid →
    ∃ g t cs fuel p, P.globalNamed n = some g ∧ (P.globals[g]?).map (·.type) = some t ∧ w.var? P n = some cs ∧ DataW.trod (fun _ => ()) P w 0 (fun _ => true) false fuel t cs.toList = some (d, p) ∧ ∀ x ∈ MemPlace.row ⟨g, 0, none⟩ cs.size, x ∈ ps
  | [], _, _, _, _, h => by cases h
  | (n0, d0) :: r, ps, n, d, ⟨g, t, cs, fuel, p, q, h1, h2, h3, h4, h5, h6⟩, h => by
    subst h6
    rcases List.mem_cons.1 h with h | h
    · cases h
      exact ⟨g, t, cs, fuel, p, h1, h2, h3, h4, fun x hx => List.mem_append_left _ (List.mem_append_left _ hx)⟩
    · obtain ⟨g', t', cs', fuel', p', a, b, c, e, f⟩ := Qd7 r q n d h5 h
      exact ⟨g', t', cs', fuel', p', a, b, c, e, fun x hx => List.mem_append_right _ (f x hx)⟩
theorem Qep {P : Program} {w : World} {laid : List (String × DataW Unit)} {n : String} {k : IntKind} {zs : List Int} {g : Nat} {t e : TypeId} {m : Nat} (h : laidMet P laid w) (hm : (n, Lib.tabData k zs) ∈ laid)
    (hg : P.globalNamed n = some g) (hty : (P.globals[g]?).map (·.type) = some t) (ht : P.underlying t = some (.array m e)) (he : P.underlying e = some (.int k)) (hce : P.cellsOf e = 1) (hct : P.cellsOf t = m) (h0 : 0 < zs.length) :
    ∃ t, w.heap[g]? = some (.cells (ints k zs) t) := by
  obtain ⟨ps, hL, -, hC⟩ := h
  obtain ⟨g', t', cs, fuel, p, hg', ht', hvar, hd, hin⟩ := Qd7 _ _ _ _ hL hm
  obtain rfl := Option.some.inj (hg.symm.trans hg')
  obtain rfl := Option.some.inj (hty.symm.trans ht')
  have hcs := Lib.cells_of_tab ht he hce hct hd
  have hsz : 0 < cs.size := by rw [← Array.length_toList, hcs, List.length_map]; exact h0
  obtain ⟨⟨c, t2, hc⟩, -⟩ := hC g 0 (hin _ (List.mem_map.2 ⟨0, List.mem_range.2 hsz, rfl⟩))
  unfold World.var? at hvar
  rw [hg] at hvar
  simp only [Option.bind_some, hc, Option.some.injEq] at hvar
  subst hvar
  refine ⟨t2, hc.trans ?_⟩
  rw [show c = ints k zs from by rw [ints, ← hcs]]
end Go.Proofs.YtibegnjaphohaaaDoor.Auto
end
