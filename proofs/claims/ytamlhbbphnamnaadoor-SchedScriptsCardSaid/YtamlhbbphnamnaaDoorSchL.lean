/- The key schedule: the law SchedScripts. -/
import Derived.Test.YtamlhbbphnamnaaDoorSchG
import Derived.Test.YtamlhbbphnamnaaDoorSchK
namespace Go.Proofs.YtamlhbbphnamnaaDoor.Sha
open Go Go.RowKit
open Go.Proofs.YtamlhbbphnamnaaDoor.Rely Go.Proofs.YtamlhbbphnamnaaDoor.Auto Go.Proofs.YtamlhbbphnamnaaDoor.Own
set_option linter.unusedVariables false
set_option linter.unusedSimpArgs false

def sigL (t : List Int) : List Int := (List.replicate 64 (0 : Int)).take 0 ++ t.take (min t.length 64) ++ (List.replicate 64 (0 : Int)).drop (0 + (min t.length 64))
theorem sigL_len (t : List Int) : (sigL t).length = 64 := by
  unfold sigL
  simp only [List.length_append, List.length_take, List.length_drop, List.length_replicate]; omega
theorem sigL_bytes {t : List Int} (h : AreBytes t) : AreBytes (sigL t) := by
  unfold sigL
  refine bytes_app (bytes_app (fun x hx => by simp at hx) fun x hx => h x (List.mem_of_mem_take hx)) fun x hx => ?_
  have := List.mem_replicate.1 (List.mem_of_mem_drop hx)
  omega
theorem split7 (L : List Int) (h : L.length = 224) (hb : AreBytes L) : ∃ j jw ep f3 f4 f5 f6 : List Int, ints .u8 L = cat [ints .u8 j, ints .u8 jw, ints .u8 ep, ints .u8 f3, ints .u8 f4, ints .u8 f5, ints .u8 f6] ∧ j.length = 32 ∧ jw.length = 32 ∧ ep.length = 32 ∧ f3.length = 32 ∧ f4.length = 32 ∧ f5.length = 32 ∧ f6.length = 32 ∧ AreBytes f3 ∧ AreBytes f5 := by
  have s : ∀ n m, n + 32 = m → (L.drop n).take 32 ++ L.drop m = L.drop n := fun n m hm => by
    subst hm
    rw [← List.drop_drop]
    exact List.take_append_drop 32 (L.drop n)
  have e : [(L.drop 0).take 32, (L.drop 32).take 32, (L.drop 64).take 32, (L.drop 96).take 32, (L.drop 128).take 32, (L.drop 160).take 32, (L.drop 192).take 32].flatten = L := by
    simp only [List.flatten_cons, List.flatten_nil]
    rw [← (List.drop_of_length_le (by omega) : L.drop 224 = []), s 192 224 rfl, s 160 192 rfl, s 128 160 rfl, s 96 128 rfl, s 64 96 rfl, s 32 64 rfl, s 0 32 rfl]
    rfl
  refine ⟨(L.drop 0).take 32, (L.drop 32).take 32, (L.drop 64).take 32, (L.drop 96).take 32, (L.drop 128).take 32, (L.drop 160).take 32, (L.drop 192).take 32, ?_, ?_, ?_, ?_, ?_, ?_, ?_, ?_, ?_, ?_⟩
  · have h2 := cat_ints [(L.drop 0).take 32, (L.drop 32).take 32, (L.drop 64).take 32, (L.drop 96).take 32, (L.drop 128).take 32, (L.drop 160).take 32, (L.drop 192).take 32]
    rw [e] at h2
    exact h2.symm
  all_goals first | (rw [List.length_take, List.length_drop]; omega) | exact fun x hx => hb x (List.mem_of_mem_drop (List.mem_of_mem_take hx))
set_option maxRecDepth 100000 in
set_option maxHeartbeats 4000000 in
theorem scr_A (j jw ep f3 f4 f5 f6 a text : List Int) (v2 : Value) (B2 : Nat) (tc tq : TypeId) (w : World) (hc : w.heap[1]? = some (.cells (ints .u64 cubesI) tc)) (hq : w.heap[0]? = some (.cells (ints .u64 squaresI) tq)) (hjl : j.length = 32) (ljw : jw.length = 32) (lep : ep.length = 32) (lf3 : f3.length = 32) (lf4 : f4.length = 32) (lf5 : f5.length = 32) (lf6 : f6.length = 32) (h3b : AreBytes f3) (h5b : AreBytes f5) (hal : a.length = 32) (hab : AreBytes a) (htb : AreBytes text) (hx : RdK .u8 B2 text v2 w) (h : 3000 < text.length) : Calls Tryd.prog 11 #[.agg (cat [ints .u8 j, ints .u8 jw, ints .u8 ep, ints .u8 f3, ints .u8 f4, ints .u8 f5, ints .u8 f6]), .agg (ints .u8 a), v2] w (Ret w (.bool true)) := by
  obtain ⟨a_text, c_text, rfl, -⟩ := id hx
  refine enter 54 [(0, .agg (cat [ints .u8 (j), ints .u8 (jw), ints .u8 (ep), ints .u8 (f3), ints .u8 (f4), ints .u8 (f5), ints .u8 (f6)])), (1, .agg (ints .u8 (a))), (2, .slice a_text text.length c_text)] Tryd.func11 rfl rfl kj rfl ?_
  refine wp_seq_k fun K3 hK3 => ?_
  refine region_lit ?_
  refine seq_alloc (cat [ints .u8 (j), ints .u8 (jw), ints .u8 (ep), ints .u8 (f3), ints .u8 (f4), ints .u8 (f5), ints .u8 (f6)]) 56 3 rfl kj kj fun g4 W1 l4 e1 r4_1 => ?_
  have x1 : Ext w W1 := Ext.tr (Rely.Ext.refl w) e1
  have b4 : w.heap.size ≤ g4 := Nat.le_trans (Rely.Ext.refl w).size l4
  refine seq_alloc (ints .u8 (a)) 26 4 rfl kj kj fun g5 W2 l5 e2 r5_2 => ?_
  have x2 : Ext w W2 := Ext.tr x1 e2
  have b5 : w.heap.size ≤ g5 := Nat.le_trans x1.size l5
  refine seq_val (.bool false) 6 rfl kj kj ?_
  refine seq_nil ?_
  refine hK3 _ _ ?_
  try clear hK3 K3
  refine wp_seq_k fun K6 hK6 => ?_
  refine wp_seq_k fun K7 hK7 => ?_
  refine region_lit ?_
  have r1_1 := (row_ext hc e1)
  have r1_2 := (row_ext r1_1 e2)
  have r2_1 := (row_ext hq e1)
  have r2_2 := (row_ext r2_1 e2)
  refine seq_call (.bool true) 27 #[] 9 rfl kj kj (alive18 tc tq _ r1_2 r2_2) fun W3 e3 => ?_
  have x3 : Ext w W3 := Ext.tr x2 e3
  refine seq_val (.bool false) 10 rfl kj kj ?_
  refine seq_nil ?_
  refine hK7 _ _ ?_
  try clear hK7 K7
  refine cond_false kj ?_
  refine wp_skip ?_
  refine hK6 _ _ ?_
  try clear hK6 K6
  refine wp_seq_k fun K8 hK8 => ?_
  refine wp_seq_k fun K9 hK9 => ?_
  refine region_lit ?_
  refine seq_val (.slice a_text text.length c_text) 11 rfl kj kj ?_
  refine seq_val (.int .i64 ((text.length : Nat) : Int)) 12 rfl kj kj ?_
  refine seq_val (.bool true) 13 rfl kj (run_eq (u := .bool (decide (((text.length : Nat) : Int) > 3000))) kj (congrArg Value.bool (decide_eq_true (by omega)))) ?_
  refine seq_nil ?_
  refine hK9 _ _ ?_
  try clear hK9 K9
  refine cond_true kj ?_
  refine wp_seq_k fun K10 hK10 => ?_
  refine region_lit ?_
  refine seq_val (.bool true) 6 rfl kj kj ?_
  refine seq_nil ?_
  refine hK10 _ _ ?_
  try clear hK10 K10
  refine wp_ret ?_
  repeat (first | with_reducible refine goR1 ?_ | with_reducible refine goR2 ?_)
  exact (show bodyPost _ _ _ .ret _ _ from ret1 (.bool true) rfl (res_tmp kj) ⟨rfl, x3⟩)
set_option maxRecDepth 100000 in
set_option maxHeartbeats 4000000 in
theorem scr_B (j jw ep f3 f4 f5 f6 a text : List Int) (v2 : Value) (B2 : Nat) (tc tq : TypeId) (w : World) (hc : w.heap[1]? = some (.cells (ints .u64 cubesI) tc)) (hq : w.heap[0]? = some (.cells (ints .u64 squaresI) tq)) (hjl : j.length = 32) (ljw : jw.length = 32) (lep : ep.length = 32) (lf3 : f3.length = 32) (lf4 : f4.length = 32) (lf5 : f5.length = 32) (lf6 : f6.length = 32) (h3b : AreBytes f3) (h5b : AreBytes f5) (hal : a.length = 32) (hab : AreBytes a) (htb : AreBytes text) (hx : RdK .u8 B2 text v2 w) (h : text.length ≤ 3000) : Calls Tryd.prog 11 #[.agg (cat [ints .u8 j, ints .u8 jw, ints .u8 ep, ints .u8 f3, ints .u8 f4, ints .u8 f5, ints .u8 f6]), .agg (ints .u8 a), v2] w (Ret w (.bool true)) := by
  obtain ⟨a_text, c_text, rfl, -⟩ := id hx
  refine enter 54 [(0, .agg (cat [ints .u8 (j), ints .u8 (jw), ints .u8 (ep), ints .u8 (f3), ints .u8 (f4), ints .u8 (f5), ints .u8 (f6)])), (1, .agg (ints .u8 (a))), (2, .slice a_text text.length c_text)] Tryd.func11 rfl rfl kj rfl ?_
  refine wp_seq_k fun K3 hK3 => ?_
  refine region_lit ?_
  refine seq_alloc (cat [ints .u8 (j), ints .u8 (jw), ints .u8 (ep), ints .u8 (f3), ints .u8 (f4), ints .u8 (f5), ints .u8 (f6)]) 56 3 rfl kj kj fun g4 W1 l4 e1 r4_1 => ?_
  have x1 : Ext w W1 := Ext.tr (Rely.Ext.refl w) e1
  have b4 : w.heap.size ≤ g4 := Nat.le_trans (Rely.Ext.refl w).size l4
  refine seq_alloc (ints .u8 (a)) 26 4 rfl kj kj fun g5 W2 l5 e2 r5_2 => ?_
  have x2 : Ext w W2 := Ext.tr x1 e2
  have b5 : w.heap.size ≤ g5 := Nat.le_trans x1.size l5
  refine seq_val (.bool false) 6 rfl kj kj ?_
  refine seq_nil ?_
  refine hK3 _ _ ?_
  try clear hK3 K3
  refine wp_seq_k fun K6 hK6 => ?_
  refine wp_seq_k fun K7 hK7 => ?_
  refine region_lit ?_
  have r1_1 := (row_ext hc e1)
  have r1_2 := (row_ext r1_1 e2)
  have r2_1 := (row_ext hq e1)
  have r2_2 := (row_ext r2_1 e2)
  refine seq_call (.bool true) 27 #[] 9 rfl kj kj (alive18 tc tq _ r1_2 r2_2) fun W3 e3 => ?_
  have x3 : Ext w W3 := Ext.tr x2 e3
  refine seq_val (.bool false) 10 rfl kj kj ?_
  refine seq_nil ?_
  refine hK7 _ _ ?_
  try clear hK7 K7
  refine cond_false kj ?_
  refine wp_skip ?_
  refine hK6 _ _ ?_
  try clear hK6 K6
  refine wp_seq_k fun K8 hK8 => ?_
  refine wp_seq_k fun K9 hK9 => ?_
  refine region_lit ?_
  refine seq_val (.slice a_text text.length c_text) 11 rfl kj kj ?_
  refine seq_val (.int .i64 ((text.length : Nat) : Int)) 12 rfl kj kj ?_
  refine seq_val (.bool false) 13 rfl kj (run_eq (u := .bool (decide (((text.length : Nat) : Int) > 3000))) kj (congrArg Value.bool (decide_eq_false (by omega)))) ?_
  refine seq_nil ?_
  refine hK9 _ _ ?_
  try clear hK9 K9
  refine cond_false kj ?_
  refine wp_skip ?_
  refine hK8 _ _ ?_
  try clear hK8 K8
  refine wp_seq_k fun K10 hK10 => ?_
  refine region_lit ?_
  refine seq_val (.slice a_text text.length c_text) 14 rfl kj kj ?_
  refine seq_callR (fun v W' => (CopyN 5 W3.heap.size (text)) v W' ∧ Ext W3 W') 14 #[.slice a_text text.length c_text] 15 rfl kj kj ((copyC (text) _ _ _ (by omega) (RdK.ext hx x3)).mono (by rintro e w' ⟨v, rfl, e1, hv⟩; exact ⟨v, rfl, hv, e1⟩)) fun vv11 W4 hh11 => ?_
  obtain ⟨hv11, e4⟩ := hh11
  have x4 : Ext w W4 := Ext.tr x3 e4
  have hq12 := hv11
  obtain ⟨gk12, ck12, rfl, -⟩ := hq12
  refine seq_val (.slice (some ⟨gk12, 0, none⟩) (text).length ck12) 7 rfl kj kj ?_
  refine seq_nil ?_
  refine hK10 _ _ ?_
  try clear hK10 K10
  refine wp_seq_k fun K13 hK13 => ?_
  refine region_lit ?_
  refine seq_val (.agg (ints .u8 (List.replicate 64 0))) 16 rfl kj kj ?_
  refine seq_alloc (ints .u8 (List.replicate 64 0)) 63 8 rfl kj kj fun g14 W5 l14 e5 r14_5 => ?_
  have x5 : Ext w W5 := Ext.tr x4 e5
  have b14 : w.heap.size ≤ g14 := Nat.le_trans x4.size l14
  refine seq_store g14 _ (ints .u8 (List.replicate 64 0)) 63 r14_5 rfl kj (run_store_row 63 _ _ g14 63 _ _ r14_5 rfl kj kj (isz (n := 64) kj ((ints_size _ _).trans (List.length_replicate (n := 64)))) (eqsz (n := 64) ((ints_size _ _).trans (List.length_replicate (n := 64))) ((ints_size _ _).trans (List.length_replicate (n := 64)))) (ints_one _ _)) fun W6 p6 r14_6 => ?_
  have x6 : Ext w W6 := Puts.ext p6 x5 b14
  refine seq_nil ?_
  refine hK13 _ _ ?_
  try clear hK13 K13
  refine wp_seq_k fun K15 hK15 => ?_
  refine region_lit ?_
  refine seq_val (.slice (some ⟨g14, 0, none⟩) 64 64) 17 rfl kj kj ?_
  refine seq_val (.slice a_text text.length c_text) 18 rfl kj kj ?_
  refine seq_copyI (k := .u8) (e := 5) (z := text) (.tmp 17) (.tmp 18) 22 22 19 rfl kj kj rfl kj (off := 0) (dl := 64) (dc := 64) (n := (min text.length 64)) (xs := List.replicate 64 0) kj kj (RdK.ext hx x6) r14_6 (Nat.le_trans (show 0 + (64) ≤ 64 from (by omega)) (Nat.le_of_eq (List.length_replicate (n := 64)).symm)) rfl fun W7 p7 r14_7 => ?_
  have x7 : Ext w W7 := Puts.ext p7 x6 b14
  refine seq_nil ?_
  refine hK15 _ _ ?_
  try clear hK15 K15
  refine wp_seq_k fun K16 hK16 => ?_
  have r14_7_17 : W7.heap[g14]? = some (.cells (ints .u8 (sigL text)) 63) := row_eq r14_7 rfl
  refine any_regionE 32 [⟨none, [(3, none)]⟩, ⟨none, [(4, none)]⟩, ⟨none, [(20, some 0), (21, some 1)]⟩, ⟨none, [(3, none)]⟩, ⟨none, [(4, none)]⟩, ⟨none, [(23, some 3), (24, some 4)]⟩, ⟨none, [(22, some 2), (25, some 5)]⟩, ⟨none, [(26, some 6)]⟩, ⟨some (27, true), [(4, none), (27, some 7)]⟩, ⟨some (27, true), [(7, none), (27, some 7)]⟩, ⟨some (27, true), [(8, none), (27, some 7)]⟩, ⟨some (27, true), [(28, some 8), (29, some 9), (30, some 10), (27, some 7)]⟩, ⟨some (27, true), [(4, none), (27, some 7)]⟩, ⟨some (27, true), [(2, none), (27, some 7)]⟩, ⟨some (27, true), [(8, none), (27, some 7)]⟩, ⟨some (27, true), [(32, some 12), (33, some 13), (34, some 14), (27, some 7)]⟩, ⟨some (27, true), [(31, some 11), (35, some 15), (27, some 7)]⟩, ⟨none, [(27, some 7), (36, some 16)]⟩, ⟨none, [(37, some 17)]⟩, ⟨some (38, true), [(4, none), (38, some 18)]⟩, ⟨some (38, true), [(3, none), (38, some 18)]⟩, ⟨some (38, true), [(40, some 20), (38, some 18)]⟩, ⟨some (38, true), [(39, some 19), (41, some 21), (38, some 18)]⟩, ⟨some (38, true), [(4, none), (38, some 18)]⟩, ⟨some (38, true), [(3, none), (38, some 18)]⟩, ⟨some (38, true), [(44, some 24), (38, some 18)]⟩, ⟨some (38, true), [(43, some 23), (45, some 25), (38, some 18)]⟩, ⟨some (38, true), [(42, some 22), (46, some 26), (38, some 18)]⟩, ⟨none, [(38, some 18), (47, some 27)]⟩, ⟨none, [(48, some 28)]⟩, ⟨some (49, true), [(7, none), (49, some 29)]⟩, ⟨some (49, true), [(2, none), (49, some 29)]⟩] kj kj fun F hF => ?_
  have r4_2 := (row_ext r4_1 e2)
  have r4_3 := (row_ext r4_2 e3)
  have r4_4 := (row_ext r4_3 e4)
  have r4_5 := (row_ext r4_4 e5)
  have r4_6 := (Puts.row p6 r4_5 (ne_of_old r4_4 l14))
  have r4_7 := (Puts.row p7 r4_6 (ne_of_old r4_4 l14))
  refine e_read (rl_ext _) (.agg (cat [ints .u8 (j), ints .u8 (jw), ints .u8 (ep), ints .u8 (f3), ints .u8 (f4), ints .u8 (f5), ints .u8 (f6)])) kj kj (fun W hR => (run_load_row 56 _ g4 56 _ _ (row_ext (row_ext r4_7 (ext_drew _)) hR) rfl kj kj (isz (n := 224) kj (by rw [cat_cons, cat_cons, cat_cons, cat_cons, cat_cons, cat_cons, cat_cons]; simp only [Array.size_append, cat, ((ints_size _ _).trans hjl), ((ints_size _ _).trans lep), ((ints_size _ _).trans lf3), ((ints_size _ _).trans lf4), ((ints_size _ _).trans lf5), ((ints_size _ _).trans lf6), ((ints_size _ _).trans ljw)]; rfl)))) ?_
  have r5_3 := (row_ext r5_2 e3)
  have r5_4 := (row_ext r5_3 e4)
  have r5_5 := (row_ext r5_4 e5)
  have r5_6 := (Puts.row p6 r5_5 (ne_of_old r5_4 l14))
  have r5_7 := (Puts.row p7 r5_6 (ne_of_old r5_4 l14))
  refine e_read (rl_ext _) (.agg (ints .u8 (a))) kj kj (fun W hR => (run_load_row 26 _ g5 26 _ _ (row_ext (row_ext r5_7 (ext_drew _)) hR) rfl kj kj (isz (n := 32) kj ((ints_size _ _).trans hal)))) ?_
  have r1_3 := (row_ext r1_2 e3)
  have r1_4 := (row_ext r1_3 e4)
  have r1_5 := (row_ext r1_4 e5)
  have r1_6 := (Puts.row p6 r1_5 (ne_of_old r1_4 l14))
  have r1_7 := (Puts.row p7 r1_6 (ne_of_old r1_4 l14))
  have r2_3 := (row_ext r2_2 e3)
  have r2_4 := (row_ext r2_3 e4)
  have r2_5 := (row_ext r2_4 e5)
  have r2_6 := (Puts.row p6 r2_5 (ne_of_old r2_4 l14))
  have r2_7 := (Puts.row p7 r2_6 (ne_of_old r2_4 l14))
  refine e_call (rl_ext _) (.agg (ints .u8 (hmac f3 a))) 34 #[.agg (cat [ints .u8 (j), ints .u8 (jw), ints .u8 (ep), ints .u8 (f3), ints .u8 (f4), ints .u8 (f5), ints .u8 (f6)]), .agg (ints .u8 (a))] kj kj (fun W => by kernel_rfl) (fun W hR => (tagS j jw ep f3 f4 f5 f6 a hjl ljw lep lf3 lf4 lf5 lf6 hal h3b hab tc tq W (row_ext (row_ext r1_7 (ext_drew _)) hR) (row_ext (row_ext r2_7 (ext_drew _)) hR))) ?_
  refine e_read (rl_ext _) (.agg (cat [ints .u8 (j), ints .u8 (jw), ints .u8 (ep), ints .u8 (f3), ints .u8 (f4), ints .u8 (f5), ints .u8 (f6)])) kj kj (fun W hR => (run_load_row 56 _ g4 56 _ _ (row_ext (row_ext r4_7 (ext_drew _)) hR) rfl kj kj (isz (n := 224) kj (by rw [cat_cons, cat_cons, cat_cons, cat_cons, cat_cons, cat_cons, cat_cons]; simp only [Array.size_append, cat, ((ints_size _ _).trans hjl), ((ints_size _ _).trans lep), ((ints_size _ _).trans lf3), ((ints_size _ _).trans lf4), ((ints_size _ _).trans lf5), ((ints_size _ _).trans lf6), ((ints_size _ _).trans ljw)]; rfl)))) ?_
  refine e_read (rl_ext _) (.agg (ints .u8 (a))) kj kj (fun W hR => (run_load_row 26 _ g5 26 _ _ (row_ext (row_ext r5_7 (ext_drew _)) hR) rfl kj kj (isz (n := 32) kj ((ints_size _ _).trans hal)))) ?_
  refine e_call (rl_ext _) (.agg (ints .u8 (hmac f3 a))) 35 #[.agg (cat [ints .u8 (j), ints .u8 (jw), ints .u8 (ep), ints .u8 (f3), ints .u8 (f4), ints .u8 (f5), ints .u8 (f6)]), .agg (ints .u8 (a))] kj kj (fun W => by kernel_rfl) (fun W hR => (rtagS j jw ep f3 f4 f5 f6 a hjl ljw lep lf3 lf4 lf5 lf6 hal h3b hab W)) ?_
  refine e_val (rl_ext _) (.bool true) kj kj (fun W => (run_eql_agg 26 _ _ _ _ _ (.bool true) rfl kj kj kj (eql_lists 26 (e := 5) (k := .u8) (hmac f3 a) (hmac f3 a) (decide_eq_true rfl) (hmac_len _ _) (hmac_len _ _) kj kj kj _))) ?_
  refine e_val (rl_ext _) (.bool true) kj kj (fun W => by kernel_rfl) ?_
  refine e_read (rl_ext _) (.agg (ints .u8 (a))) kj kj (fun W hR => (run_load_row 26 _ g5 26 _ _ (row_ext (row_ext r5_7 (ext_drew _)) hR) rfl kj kj (isz (n := 32) kj ((ints_size _ _).trans hal)))) ?_
  refine e_val (rl_ext _) (.slice (some ⟨gk12, 0, none⟩) (text).length ck12) kj kj (fun W => by kernel_rfl) ?_
  refine e_read (rl_ext _) (.agg (ints .u8 (sigL text))) kj kj (fun W hR => (run_load_row 63 _ g14 63 _ _ (row_ext (row_ext r14_7_17 (ext_drew _)) hR) rfl kj kj (isz (n := 64) kj ((ints_size _ _).trans (sigL_len text))))) ?_
  have y4_5 : Ext W4 W5 := (Rely.Ext.trans (Rely.Ext.refl W4) e5)
  have y4_6 : Ext W4 W6 := (Puts.ext p6 y4_5 l14)
  have y4_7 : Ext W4 W7 := (Puts.ext p7 y4_6 l14)
  refine e_call (rl_ext _) (.agg (ints .u8 (dig ((([1] ++ a) ++ text) ++ sigL text)))) 36 #[.agg (ints .u8 (a)), .slice (some ⟨gk12, 0, none⟩) (text).length ck12, .agg (ints .u8 (sigL text))] kj kj (fun W => by kernel_rfl) (fun W hR => (confirmedC a text (sigL text) _ _ tc tq W (row_ext (row_ext r1_7 (ext_drew _)) hR) (row_ext (row_ext r2_7 (ext_drew _)) hR) hal hab (by omega) htb (sigL_len _) (sigL_bytes htb) ((RdK.ext (CopyN.rd hv11) y4_7).ext (Rely.Ext.trans (ext_drew _) hR)))) ?_
  refine e_read (rl_ext _) (.agg (ints .u8 (a))) kj kj (fun W hR => (run_load_row 26 _ g5 26 _ _ (row_ext (row_ext r5_7 (ext_drew _)) hR) rfl kj kj (isz (n := 32) kj ((ints_size _ _).trans hal)))) ?_
  refine e_val (rl_ext _) (.slice a_text text.length c_text) kj kj (fun W => by kernel_rfl) ?_
  refine e_read (rl_ext _) (.agg (ints .u8 (sigL text))) kj kj (fun W hR => (run_load_row 63 _ g14 63 _ _ (row_ext (row_ext r14_7_17 (ext_drew _)) hR) rfl kj kj (isz (n := 64) kj ((ints_size _ _).trans (sigL_len text))))) ?_
  refine e_call (rl_ext _) (.agg (ints .u8 (dig ((([1] ++ a) ++ text) ++ sigL text)))) 37 #[.agg (ints .u8 (a)), .slice a_text text.length c_text, .agg (ints .u8 (sigL text))] kj kj (fun W => by kernel_rfl) (fun W hR => (rconfirmedC a text (sigL text) _ _ W hal hab (by omega) htb (sigL_len _) (sigL_bytes htb) ((RdK.ext hx x7).ext (Rely.Ext.trans (ext_drew _) hR)))) ?_
  refine e_val (rl_ext _) (.bool true) kj kj (fun W => (run_eql_agg 26 _ _ _ _ _ (.bool true) rfl kj kj kj (eql_lists 26 (e := 5) (k := .u8) (dig ((([1] ++ a) ++ text) ++ sigL text)) (dig ((([1] ++ a) ++ text) ++ sigL text)) (decide_eq_true rfl) (dig_len _) (dig_len _) kj kj kj _))) ?_
  refine e_val (rl_ext _) (.bool true) kj kj (fun W => by kernel_rfl) ?_
  refine e_val (rl_ext _) (.bool true) kj kj (fun W => by kernel_rfl) ?_
  refine e_read (rl_ext _) (.agg (ints .u8 (a))) kj kj (fun W hR => (run_load_row 26 _ g5 26 _ _ (row_ext (row_ext r5_7 (ext_drew _)) hR) rfl kj kj (isz (n := 32) kj ((ints_size _ _).trans hal)))) ?_
  refine e_val (rl_ext _) (.pointer (some ⟨g4, 160, none⟩)) kj kj (fun W => by kernel_rfl) ?_
  refine e_read (rl_ext _) (.agg (ints .u8 (f5))) kj kj (fun W hR => (run_load_part 26 _ g4 160 56 _ _ _ (row_ext (row_ext r4_7 (ext_drew _)) hR) rfl kj (cat_part [ints .u8 (j), ints .u8 (jw), ints .u8 (ep), ints .u8 (f3), ints .u8 (f4)] [ints .u8 (f5)] [ints .u8 (f6)] 160 (by rw [cat_cons, cat_cons, cat_cons, cat_cons, cat_cons]; simp only [Array.size_append, cat, ((ints_size _ _).trans hjl), ((ints_size _ _).trans lep), ((ints_size _ _).trans lf3), ((ints_size _ _).trans lf4), ((ints_size _ _).trans ljw)]; rfl)) kj (isz (n := 32) kj ((ints_size _ _).trans lf5)))) ?_
  refine e_call (rl_ext _) (.agg (ints .u8 (dig (([2] ++ a) ++ f5)))) 38 #[.agg (ints .u8 (a)), .agg (ints .u8 (f5))] kj kj (fun W => by kernel_rfl) (fun W hR => (interimC a f5 tc tq W (row_ext (row_ext r1_7 (ext_drew _)) hR) (row_ext (row_ext r2_7 (ext_drew _)) hR) hal hab lf5 h5b)) ?_
  refine e_read (rl_ext _) (.agg (ints .u8 (a))) kj kj (fun W hR => (run_load_row 26 _ g5 26 _ _ (row_ext (row_ext r5_7 (ext_drew _)) hR) rfl kj kj (isz (n := 32) kj ((ints_size _ _).trans hal)))) ?_
  refine e_val (rl_ext _) (.pointer (some ⟨g4, 160, none⟩)) kj kj (fun W => by kernel_rfl) ?_
  refine e_read (rl_ext _) (.agg (ints .u8 (f5))) kj kj (fun W hR => (run_load_part 26 _ g4 160 56 _ _ _ (row_ext (row_ext r4_7 (ext_drew _)) hR) rfl kj (cat_part [ints .u8 (j), ints .u8 (jw), ints .u8 (ep), ints .u8 (f3), ints .u8 (f4)] [ints .u8 (f5)] [ints .u8 (f6)] 160 (by rw [cat_cons, cat_cons, cat_cons, cat_cons, cat_cons]; simp only [Array.size_append, cat, ((ints_size _ _).trans hjl), ((ints_size _ _).trans lep), ((ints_size _ _).trans lf3), ((ints_size _ _).trans lf4), ((ints_size _ _).trans ljw)]; rfl)) kj (isz (n := 32) kj ((ints_size _ _).trans lf5)))) ?_
  refine e_call (rl_ext _) (.agg (ints .u8 (dig (([2] ++ a) ++ f5)))) 39 #[.agg (ints .u8 (a)), .agg (ints .u8 (f5))] kj kj (fun W => by kernel_rfl) (fun W hR => (rinterimC a f5 W hal hab lf5 h5b)) ?_
  refine e_val (rl_ext _) (.bool true) kj kj (fun W => (run_eql_agg 26 _ _ _ _ _ (.bool true) rfl kj kj kj (eql_lists 26 (e := 5) (k := .u8) (dig (([2] ++ a) ++ f5)) (dig (([2] ++ a) ++ f5)) (decide_eq_true rfl) (dig_len _) (dig_len _) kj kj kj _))) ?_
  refine e_val (rl_ext _) (.bool true) kj kj (fun W => by kernel_rfl) ?_
  refine e_val (rl_ext _) (.bool true) kj kj (fun W => by kernel_rfl) ?_
  refine e_val (rl_ext _) (.slice (some ⟨gk12, 0, none⟩) (text).length ck12) kj kj (fun W => by kernel_rfl) ?_
  refine e_val (rl_ext _) (.slice a_text text.length c_text) kj kj (fun W => by kernel_rfl) ?_
  refine e_nil (hF _ fun W8 e8 => ?_)
  simp only [List.nil_append, List.cons_append, List.take_succ_cons, List.take_zero, List.drop_succ_cons, List.drop_zero, finE, up]
  clear hF
  have x8 : Ext w W8 := Ext.tr x7 e8
  have y4_8 : Ext W4 W8 := (Rely.Ext.trans y4_7 e8)
  refine seq_call (.bool true) 18 #[.slice (some ⟨gk12, 0, none⟩) (text).length ck12, .slice a_text text.length c_text] 52 rfl kj kj ((keptC text _ _ _ _ _ (by omega) htb (CopyN.ext hv11 y4_8) (RdK.ext hx x8))) fun W9 e9 => ?_
  have x9 : Ext w W9 := Ext.tr x8 e9
  refine seq_val (.bool true) 53 rfl kj kj ?_
  refine seq_val (.bool true) 6 rfl kj kj ?_
  refine seq_nil ?_
  refine hK16 _ _ ?_
  try clear hK16 K16
  refine wp_ret ?_
  repeat (first | with_reducible refine goR1 ?_ | with_reducible refine goR2 ?_)
  exact (show bodyPost _ _ _ .ret _ _ from ret1 (.bool true) rfl (res_tmp kj) ⟨rfl, x9⟩)
theorem lawScr (L a text : List Int) (v2 : Value) (B2 : Nat) (tc tq : TypeId) (w : World) (hc : w.heap[1]? = some (.cells (ints .u64 cubesI) tc)) (hq : w.heap[0]? = some (.cells (ints .u64 squaresI) tq)) (hL : L.length = 224) (hLb : AreBytes L) (hal : a.length = 32) (hab : AreBytes a) (htb : AreBytes text) (hx : RdK .u8 B2 text v2 w) : Calls Tryd.prog 11 #[.agg (ints .u8 L), .agg (ints .u8 a), v2] w (Ret w (.bool true)) := by
  obtain ⟨j, jw, ep, f3, f4, f5, f6, e, l0, l1, l2, l3, l4, l5, l6, b3, b5⟩ := split7 L hL hLb
  rw [e]
  by_cases h : 3000 < text.length
  · exact scr_A j jw ep f3 f4 f5 f6 a text v2 B2 tc tq w hc hq l0 l1 l2 l3 l4 l5 l6 b3 b5 hal hab htb hx h
  · exact scr_B j jw ep f3 f4 f5 f6 a text v2 B2 tc tq w hc hq l0 l1 l2 l3 l4 l5 l6 b3 b5 hal hab htb hx (by omega)

end Go.Proofs.YtamlhbbphnamnaaDoor.Sha
