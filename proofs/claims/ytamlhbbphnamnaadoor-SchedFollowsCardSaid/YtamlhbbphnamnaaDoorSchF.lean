/- The key schedule: the fixed fact. -/
import Derived.Test.YtamlhbbphnamnaaDoorSchE
namespace Go.Proofs.YtamlhbbphnamnaaDoor.Sha
open Go Go.RowKit
open Go.Proofs.YtamlhbbphnamnaaDoor.Rely Go.Proofs.YtamlhbbphnamnaaDoor.Auto Go.Proofs.YtamlhbbphnamnaaDoor.Own
set_option linter.unusedVariables false
set_option linter.unusedSimpArgs false

def i1 : List Int := 1 :: List.replicate 31 0
def i2 : List Int := 2 :: List.replicate 31 0
theorem i1_len : i1.length = 32 := by decide
theorem i2_len : i2.length = 32 := by decide
theorem i1_bytes : AreBytes i1 := bytes_dec i1 (by decide)
theorem i2_bytes : AreBytes i2 := bytes_dec i2 (by decide)
def aV : List Int := joinerV i1 i2 []
def aE : List Int := epV aV []
set_option maxRecDepth 100000 in
set_option maxHeartbeats 4000000 in
theorem aliveN (tc tq : TypeId) (w : World) (hc : w.heap[1]? = some (.cells (ints .u64 cubesI) tc)) (hq : w.heap[0]? = some (.cells (ints .u64 squaresI) tq)) (hm j jw ep f3 f4 f5 f6 : List Int) (ehm : hm = hmac i1 i2) (ej : j = labV hm (strB sJoiner) []) (ejw : jw = deriveV j (strB sWelcome)) (eep : ep = labV j (strB sEpoch) []) (ef3 : f3 = deriveV ep (strB sConfirm)) (ef4 : f4 = deriveV ep (strB sPackets)) (ef5 : f5 = deriveV ep (strB sExport)) (ef6 : f6 = deriveV ep (strB sInit)) (n1 : decide (j = ep) = false) (n2 : decide (f6 = f4) = false) (n3 : decide (f6 = List.replicate 32 0) = false) : Calls Tryd.prog 27 #[] w (Ret w (.bool true)) := by
  have lhm : hm.length = 32 := by rw [ehm]; exact hmac_len _ _
  have bhm : AreBytes hm := by rw [ehm]; exact hmac_bytes _ _
  have hjl : j.length = 32 := by rw [ej]; exact labV_len _ _ _
  have hjb : AreBytes j := by rw [ej]; exact labV_bytes _ _ _
  have ljw : jw.length = 32 := by rw [ejw]; exact deriveV_len _ _
  have lep : ep.length = 32 := by rw [eep]; exact labV_len _ _ _
  have lf3 : f3.length = 32 := by rw [ef3]; exact deriveV_len _ _
  have lf4 : f4.length = 32 := by rw [ef4]; exact deriveV_len _ _
  have lf5 : f5.length = 32 := by rw [ef5]; exact deriveV_len _ _
  have lf6 : f6.length = 32 := by rw [ef6]; exact deriveV_len _ _
  have bep : AreBytes ep := by rw [eep]; exact labV_bytes _ _ _
  refine enter 31 [] Tryd.func27 rfl rfl kj rfl ?_
  refine wp_seq_k fun K3 hK3 => ?_
  refine region_lit ?_
  refine seq_val (.bool false) 0 rfl kj kj ?_
  refine seq_nil ?_
  refine hK3 _ _ ?_
  try clear hK3 K3
  refine wp_seq_k fun K4 hK4 => ?_
  refine region_lit ?_
  refine seq_val (.agg (ints .u8 (i1))) 2 rfl kj kj ?_
  refine seq_val (.agg (ints .u8 (i2))) 3 rfl kj kj ?_
  refine seq_call (.agg (cat [ints .u8 (j), ints .u8 (jw), ints .u8 (ep), ints .u8 (f3), ints .u8 (f4), ints .u8 (f5), ints .u8 (f6)])) 30 #[.agg (ints .u8 (i1)), .agg (ints .u8 (i2)), .slice none 0 0] 4 rfl kj kj (nextN i1 i2 [] _ _ tc tq _ hc hq i1_len i1_bytes i2_len i2_bytes (fun x hx => by cases hx) (nilrd _) hm j jw ep f3 f4 f5 f6 ehm ej ejw eep ef3 ef4 ef5 ef6) fun W1 e1 => ?_
  have x1 : Ext w W1 := Ext.tr (Rely.Ext.refl w) e1
  refine seq_alloc (cat [ints .u8 (List.replicate 32 0), ints .u8 (List.replicate 32 0), ints .u8 (List.replicate 32 0), ints .u8 (List.replicate 32 0), ints .u8 (List.replicate 32 0), ints .u8 (List.replicate 32 0), ints .u8 (List.replicate 32 0)]) 56 1 rfl kj kj fun g5 W2 l5 e2 r5_2 => ?_
  have x2 : Ext w W2 := Ext.tr x1 e2
  have b5 : w.heap.size ≤ g5 := Nat.le_trans x1.size l5
  refine seq_store g5 _ (cat [ints .u8 (j), ints .u8 (jw), ints .u8 (ep), ints .u8 (f3), ints .u8 (f4), ints .u8 (f5), ints .u8 (f6)]) 56 r5_2 rfl kj (run_store_row 56 _ _ g5 56 _ _ r5_2 rfl kj kj (isz (n := 224) kj (by rw [cat_cons, cat_cons, cat_cons, cat_cons, cat_cons, cat_cons, cat_cons]; simp only [Array.size_append, cat, ((ints_size _ _).trans hjl), ((ints_size _ _).trans lep), ((ints_size _ _).trans lf3), ((ints_size _ _).trans lf4), ((ints_size _ _).trans lf5), ((ints_size _ _).trans lf6), ((ints_size _ _).trans ljw)]; rfl)) (eqsz (n := 224) (by rw [cat_cons, cat_cons, cat_cons, cat_cons, cat_cons, cat_cons, cat_cons]; simp only [Array.size_append, cat, ((ints_size _ _).trans (List.length_replicate (n := 32)))]; rfl) (by rw [cat_cons, cat_cons, cat_cons, cat_cons, cat_cons, cat_cons, cat_cons]; simp only [Array.size_append, cat, ((ints_size _ _).trans hjl), ((ints_size _ _).trans lep), ((ints_size _ _).trans lf3), ((ints_size _ _).trans lf4), ((ints_size _ _).trans lf5), ((ints_size _ _).trans lf6), ((ints_size _ _).trans ljw)]; rfl)) (cat_one _ (by intro a ha; simp only [List.mem_cons, List.not_mem_nil, or_false] at ha; rcases ha with rfl | rfl | rfl | rfl | rfl | rfl | rfl; exact (ints_one _ _); exact (ints_one _ _); exact (ints_one _ _); exact (ints_one _ _); exact (ints_one _ _); exact (ints_one _ _); exact (ints_one _ _)))) fun W3 p3 r5_3 => ?_
  have x3 : Ext w W3 := Puts.ext p3 x2 b5
  refine seq_nil ?_
  refine hK4 _ _ ?_
  try clear hK4 K4
  refine wp_seq_k fun K6 hK6 => ?_
  refine region_lit ?_
  refine seq_val (.agg (ints .u8 (List.replicate 32 0))) 5 rfl kj kj ?_
  refine seq_val (.agg (ints .u8 (List.replicate 32 0))) 6 rfl kj kj ?_
  refine seq_val (.agg (ints .u8 (List.replicate 32 0))) 7 rfl kj kj ?_
  refine seq_callR (fun v W' => (OwnN .u8 5 W3.heap.size (ctxL (List.replicate 32 0) 1 (List.replicate 32 0) (List.replicate 32 0))) v W' ∧ Ext W3 W') 28 #[.agg (ints .u8 (List.replicate 32 0)), .int .i64 1, .agg (ints .u8 (List.replicate 32 0)), .agg (ints .u8 (List.replicate 32 0))] 8 rfl kj kj ((contextC (List.replicate 32 0) (List.replicate 32 0) (List.replicate 32 0) 1 _ zer_len zer_len zer_len).mono (by rintro e w' ⟨v, rfl, e1, hv⟩; exact ⟨v, rfl, hv, e1⟩)) fun vv7 W4 hh7 => ?_
  obtain ⟨hv7, e4⟩ := hh7
  have x4 : Ext w W4 := Ext.tr x3 e4
  have huu := hv7
  obtain ⟨au, cu, rfl, -⟩ := id (OwnN.rd huu)
  refine seq_val (.int .i64 (((ctxL (List.replicate 32 0) 1 (List.replicate 32 0) (List.replicate 32 0)).length : Nat) : Int)) 9 rfl kj kj ?_
  refine seq_val (.bool true) 10 rfl kj (run_eq (u := .bool (((((ctxL (List.replicate 32 0) 1 (List.replicate 32 0) (List.replicate 32 0)).length : Nat) : Int) == 100))) kj (congrArg Value.bool (decide_eq_true (by rw [ctxL_len _ _ _ _ zer_len zer_len zer_len]; rfl)))) ?_
  refine seq_val (.bool true) 11 rfl kj kj ?_
  refine seq_val (.pointer (some ⟨g5, 0, none⟩)) 12 rfl kj kj ?_
  have r5_4 := (row_ext r5_3 e4)
  refine seq_val (.agg (ints .u8 (j))) 13 rfl kj (run_load_part 26 _ g5 0 56 _ _ _ r5_4 rfl kj (cat_part [] [ints .u8 (j)] [ints .u8 (jw), ints .u8 (ep), ints .u8 (f3), ints .u8 (f4), ints .u8 (f5), ints .u8 (f6)] 0 kj) kj (isz (n := 32) kj ((ints_size _ _).trans hjl))) ?_
  refine seq_val (.pointer (some ⟨g5, 64, none⟩)) 14 rfl kj kj ?_
  refine seq_val (.agg (ints .u8 (ep))) 15 rfl kj (run_load_part 26 _ g5 64 56 _ _ _ r5_4 rfl kj (cat_part [ints .u8 (j), ints .u8 (jw)] [ints .u8 (ep)] [ints .u8 (f3), ints .u8 (f4), ints .u8 (f5), ints .u8 (f6)] 64 (by rw [cat_cons, cat_cons]; simp only [Array.size_append, cat, ((ints_size _ _).trans hjl), ((ints_size _ _).trans ljw)]; rfl)) kj (isz (n := 32) kj ((ints_size _ _).trans lep))) ?_
  refine seq_val (.bool true) 16 rfl kj (run_neq_agg 26 _ _ _ _ _ (.bool true) rfl kj kj kj (neq_lists 26 (e := 5) (k := .u8) (j) (ep) n1 hjl lep kj kj kj _)) ?_
  refine seq_val (.bool true) 17 rfl kj kj ?_
  refine seq_val (.bool true) 18 rfl kj kj ?_
  refine seq_val (.pointer (some ⟨g5, 192, none⟩)) 19 rfl kj kj ?_
  refine seq_val (.agg (ints .u8 (f6))) 20 rfl kj (run_load_part 26 _ g5 192 56 _ _ _ r5_4 rfl kj (cat_part [ints .u8 (j), ints .u8 (jw), ints .u8 (ep), ints .u8 (f3), ints .u8 (f4), ints .u8 (f5)] [ints .u8 (f6)] [] 192 (by rw [cat_cons, cat_cons, cat_cons, cat_cons, cat_cons, cat_cons]; simp only [Array.size_append, cat, ((ints_size _ _).trans hjl), ((ints_size _ _).trans lep), ((ints_size _ _).trans lf3), ((ints_size _ _).trans lf4), ((ints_size _ _).trans lf5), ((ints_size _ _).trans ljw)]; rfl)) kj (isz (n := 32) kj ((ints_size _ _).trans lf6))) ?_
  refine seq_val (.pointer (some ⟨g5, 128, none⟩)) 21 rfl kj kj ?_
  refine seq_val (.agg (ints .u8 (f4))) 22 rfl kj (run_load_part 26 _ g5 128 56 _ _ _ r5_4 rfl kj (cat_part [ints .u8 (j), ints .u8 (jw), ints .u8 (ep), ints .u8 (f3)] [ints .u8 (f4)] [ints .u8 (f5), ints .u8 (f6)] 128 (by rw [cat_cons, cat_cons, cat_cons, cat_cons]; simp only [Array.size_append, cat, ((ints_size _ _).trans hjl), ((ints_size _ _).trans lep), ((ints_size _ _).trans lf3), ((ints_size _ _).trans ljw)]; rfl)) kj (isz (n := 32) kj ((ints_size _ _).trans lf4))) ?_
  refine seq_val (.bool true) 23 rfl kj (run_neq_agg 26 _ _ _ _ _ (.bool true) rfl kj kj kj (neq_lists 26 (e := 5) (k := .u8) (f6) (f4) n2 lf6 lf4 kj kj kj _)) ?_
  refine seq_val (.bool true) 24 rfl kj kj ?_
  refine seq_val (.bool true) 25 rfl kj kj ?_
  refine seq_val (.pointer (some ⟨g5, 192, none⟩)) 26 rfl kj kj ?_
  refine seq_val (.agg (ints .u8 (f6))) 27 rfl kj (run_load_part 26 _ g5 192 56 _ _ _ r5_4 rfl kj (cat_part [ints .u8 (j), ints .u8 (jw), ints .u8 (ep), ints .u8 (f3), ints .u8 (f4), ints .u8 (f5)] [ints .u8 (f6)] [] 192 (by rw [cat_cons, cat_cons, cat_cons, cat_cons, cat_cons, cat_cons]; simp only [Array.size_append, cat, ((ints_size _ _).trans hjl), ((ints_size _ _).trans lep), ((ints_size _ _).trans lf3), ((ints_size _ _).trans lf4), ((ints_size _ _).trans lf5), ((ints_size _ _).trans ljw)]; rfl)) kj (isz (n := 32) kj ((ints_size _ _).trans lf6))) ?_
  refine seq_val (.agg (ints .u8 (List.replicate 32 0))) 28 rfl kj kj ?_
  refine seq_val (.bool true) 29 rfl kj (run_neq_agg 26 _ _ _ _ _ (.bool true) rfl kj kj kj (neq_lists 26 (e := 5) (k := .u8) (f6) (List.replicate 32 0) n3 lf6 (List.length_replicate (n := 32)) kj kj kj _)) ?_
  refine seq_val (.bool true) 30 rfl kj kj ?_
  refine seq_val (.bool true) 0 rfl kj kj ?_
  refine seq_nil ?_
  refine hK6 _ _ ?_
  try clear hK6 K6
  refine wp_ret ?_
  repeat (first | with_reducible refine goR1 ?_ | with_reducible refine goR2 ?_)
  exact (show bodyPost _ _ _ .ret _ _ from ret1 (.bool true) rfl (res_tmp kj) ⟨rfl, x4⟩)
theorem aliveI : ((decide (joinerV i1 i2 [] = epV (joinerV i1 i2 []) []) == false) && ((decide (deriveV (epV (joinerV i1 i2 []) []) (strB sInit) = deriveV (epV (joinerV i1 i2 []) []) (strB sPackets)) == false) && (decide (deriveV (epV (joinerV i1 i2 []) []) (strB sInit) = List.replicate 32 0) == false))) = true := by decide +kernel
theorem andB {a b : Bool} (h : (a && b) = true) : a = true ∧ b = true := by simpa using h
theorem isF {a : Bool} (h : (a == false) = true) : a = false := by simpa using h
theorem alive18 (tc tq : TypeId) (w : World) (hc : w.heap[1]? = some (.cells (ints .u64 cubesI) tc)) (hq : w.heap[0]? = some (.cells (ints .u64 squaresI) tq)) : Calls Tryd.prog 27 #[] w (Ret w (.bool true)) :=
  aliveN tc tq w hc hq _ _ _ _ _ _ _ _ rfl rfl rfl rfl rfl rfl rfl rfl (isF (andB aliveI).1) (isF (andB (andB aliveI).2).1) (isF (andB (andB aliveI).2).2)

end Go.Proofs.YtamlhbbphnamnaaDoor.Sha
