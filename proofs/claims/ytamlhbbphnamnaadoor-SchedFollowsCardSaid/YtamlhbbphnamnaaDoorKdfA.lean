/- HMAC: the pads of a key. -/
import Derived.Test.YtamlhbbphnamnaaDoorKdfM
namespace Go.Proofs.YtamlhbbphnamnaaDoor.Sha
open Go Go.RowKit
open Go.Proofs.YtamlhbbphnamnaaDoor.Rely Go.Proofs.YtamlhbbphnamnaaDoor.Auto Go.Proofs.YtamlhbbphnamnaaDoor.Own
set_option linter.unusedVariables false
set_option linter.unusedSimpArgs false

set_option maxHeartbeats 4000000 in
theorem padsC (key : List Int) (v : Value) (B : Nat) (tc tq : TypeId) (w : World) (hc : w.heap[1]? = some (.cells (ints .u64 cubesI) tc)) (hq : w.heap[0]? = some (.cells (ints .u64 squaresI) tq)) (hkb : AreBytes key) (hkl : key.length ≤ 800000000) (hk : RdK .u8 B key v w) :
    Calls Tryd.prog 40 #[v] w (Ret w (.tuple #[.agg (ints .u8 (padX 54 key)), .agg (ints .u8 (padX 92 key))])) := by
  obtain ⟨a_key, c_key, rfl, -⟩ := id hk
  refine enter 35 [(0, .slice a_key key.length c_key)] Tryd.func40 rfl rfl kj rfl ?_
  refine wp_seq_k fun K3 hK3 => ?_
  refine region_lit ?_
  refine seq_alloc (ints .u8 (List.replicate 64 0)) 62 2 rfl kj kj fun g4 W1 l4 e1 r4_1 => ?_
  have x1 : Ext w W1 := Ext.tr (Rely.Ext.refl w) e1
  have b4 : w.heap.size ≤ g4 := Nat.le_trans (Rely.Ext.refl w).size l4
  refine seq_alloc (ints .u8 (List.replicate 64 0)) 62 3 rfl kj kj fun g5 W2 l5 e2 r5_2 => ?_
  have x2 : Ext w W2 := Ext.tr x1 e2
  have b5 : w.heap.size ≤ g5 := Nat.le_trans x1.size l5
  refine seq_nil ?_
  refine hK3 _ _ ?_
  try clear hK3 K3
  refine wp_seq_k fun K6 hK6 => ?_
  refine wp_seq_k fun K7 hK7 => ?_
  refine region_lit ?_
  refine seq_val (.slice a_key key.length c_key) 7 rfl kj kj ?_
  refine seq_val (.int .i64 ((key.length : Nat) : Int)) 8 rfl kj kj ?_
  refine seq_val (.bool (decide (((key.length : Nat) : Int) > 64))) 9 rfl kj kj ?_
  refine seq_nil ?_
  refine hK7 _ _ ?_
  try clear hK7 K7
  refine cond_split (t := decide (((key.length : Nat) : Int) > 64)) kj (fun c8 => ?_) (fun c8 => ?_)
  · skip
    have hlong : 64 < key.length := by have := of_decide_eq_true c8; omega
    refine wp_seq_k fun K9 hK9 => ?_
    refine region_lit ?_
    refine seq_val (.slice a_key key.length c_key) 10 rfl kj kj ?_
    refine seq_makeS (#[.slice a_key key.length c_key]) 22 1 11 rfl kj kj fun g10 W3 l10 e3 r10_3 => ?_
    have x3 : Ext w W3 := Ext.tr x2 e3
    have b10 : w.heap.size ≤ g10 := Nat.le_trans x2.size l10
    have f11_1 := (hk.ext e1)
    have f12_2 := (f11_1.ext e2)
    have f13_3 := (f12_2.ext e3)
    have r1_1 := (row_ext hc e1)
    have r1_2 := (row_ext r1_1 e2)
    have r1_3 := (row_ext r1_2 e3)
    have r2_1 := (row_ext hq e1)
    have r2_2 := (row_ext r2_1 e2)
    have r2_3 := (row_ext r2_2 e3)
    have hps14 : ∀ p ∈ ([(.slice a_key key.length c_key, key)] : List (Value × List Int)), RdK .u8 W3.heap.size p.2 p.1 W3 ∧ AreBytes p.2 := by
      intro p hp
      simp only [List.mem_cons, List.not_mem_nil, or_false] at hp
      rcases hp with rfl
      · exact ⟨RdK.here f13_3, hkb⟩
    have hsh14 := shortC g10 1 _ ([(.slice a_key key.length c_key, key)] : List (Value × List Int)) rfl (by decide) tc tq W3 r1_3 r2_3 r10_3 hps14 (by simp only [List.map_cons, List.map_nil, List.flatten_cons, List.flatten_nil, List.append_nil, List.length_append]; omega)
    rw [show ((List.map Prod.snd ([(.slice a_key key.length c_key, key)] : List (Value × List Int))).flatten) = key by simp only [List.map_cons, List.map_nil, List.flatten_cons, List.flatten_nil, List.append_nil]] at hsh14
    refine seq_call (.agg (ints .u8 (dig (key)))) 26 #[.slice (some ⟨g10, 0, none⟩) 1 1] 12 rfl kj kj hsh14 fun W4 e4 => ?_
    have x4 : Ext w W4 := Ext.tr x3 e4
    refine seq_alloc (ints .u8 (List.replicate 32 0)) 26 4 rfl kj kj fun g15 W5 l15 e5 r15_5 => ?_
    have x5 : Ext w W5 := Ext.tr x4 e5
    have b15 : w.heap.size ≤ g15 := Nat.le_trans x4.size l15
    refine seq_store g15 _ (ints .u8 (dig (key))) 26 r15_5 rfl kj (run_store_row 26 _ _ g15 26 _ _ r15_5 rfl kj kj (isz (n := 32) kj ((ints_size _ _).trans (dig_len _))) (eqsz (n := 32) ((ints_size _ _).trans (List.length_replicate (n := 32))) ((ints_size _ _).trans (dig_len _))) (ints_one _ _)) fun W6 p6 r15_6 => ?_
    have x6 : Ext w W6 := Puts.ext p6 x5 b15
    refine seq_nil ?_
    refine hK9 _ _ ?_
    try clear hK9 K9
    refine any_regionE 2 [⟨none, [(2, none)]⟩, ⟨none, [(4, none)]⟩] kj kj fun F hF => ?_
    refine e_val (rl_ext _) (.slice (some ⟨g4, 0, none⟩) 64 64) kj kj (fun W => by kernel_rfl) ?_
    refine e_val (rl_ext _) (.slice (some ⟨g15, 0, none⟩) 32 32) kj kj (fun W => by kernel_rfl) ?_
    refine e_nil (hF _ fun W7 e7 => ?_)
    simp only [List.nil_append, List.cons_append, List.take_succ_cons, List.take_zero, List.drop_succ_cons, List.drop_zero, finE, up]
    clear hF
    have x7 : Ext w W7 := Ext.tr x6 e7
    have r4_2 := (row_ext r4_1 e2)
    have r4_3 := (row_ext r4_2 e3)
    have r4_4 := (row_ext r4_3 e4)
    have r4_5 := (row_ext r4_4 e5)
    have r4_6 := (Puts.row p6 r4_5 (ne_of_old r4_4 l15))
    have r4_7 := (row_ext r4_6 e7)
    have r15_7 := (row_ext r15_6 e7)
    refine seq_copyI (k := .u8) (e := 5) (z := dig (key)) (.tmp 13) (.tmp 14) 22 22 15 rfl kj kj rfl kj (off := 0) (dl := 64) (dc := 64) (n := 32) (xs := List.replicate 64 0) kj kj (rdK_ints (xs := dig (key)) (n := 32) (dig_len _) r15_7 (row_lt r15_7) (show 32 ≤ maxLen from by decide)) r4_7 (Nat.le_trans (show 0 + (64) ≤ 64 from (by omega)) (Nat.le_of_eq (List.length_replicate (n := 64)).symm)) (by rw [dig_len]; rfl) fun W8 p8 r4_8 => ?_
    have x8 : Ext w W8 := Puts.ext p8 x7 b4
    refine seq_nil ?_
    refine hK6 _ _ ?_
    try clear hK6 K6
    refine wp_seq_k fun K16 hK16 => ?_
    refine wp_seq_k fun K17 hK17 => ?_
    refine region_lit ?_
    have r4_8_18 : W8.heap[g4]? = some (.cells (ints .u8 (keyB key)) 62) := row_eq r4_8 (keyB_long hlong)
    refine seq_val (.agg (ints .u8 (keyB key))) 19 rfl kj (run_load_row 62 _ g4 62 _ _ r4_8_18 rfl kj kj (isz (n := 64) kj ((ints_size _ _).trans (keyB_len key)))) ?_
    refine seq_val (.int .i64 0) 20 rfl kj kj ?_
    refine seq_nil ?_
    refine hK17 _ _ ?_
    try clear hK17 K17
    refine wp_block ?_
    have n_4_5 : g4 ≠ g5 := (ne_of_old r4_1 l5)
    have n_5_4 : g5 ≠ g4 := (ne_of_new r4_1 l5)
    have r5_3 := (row_ext r5_2 e3)
    have r5_4 := (row_ext r5_3 e4)
    have r5_5 := (row_ext r5_4 e5)
    have r5_6 := (Puts.row p6 r5_5 (ne_of_old r5_4 l15))
    have r5_7 := (row_ext r5_6 e7)
    have r5_8 := (Puts.row p8 r5_7 n_5_4)
    refine loop_auto (fun (s1 : Nat) => [(2, .pointer (some ⟨g4, 0, none⟩)), (3, .pointer (some ⟨g5, 0, none⟩)), (19, .agg (ints .u8 (keyB key))), (20, .int .i64 ((s1 : Nat) : Int))]) (fun (s1 : Nat) W => (s1 ≤ 64) ∧ (W.heap[g4]? = some (.cells (ints .u8 (puts (padX 54 key) (keyB key) s1)) 62)) ∧ (W.heap[g5]? = some (.cells (ints .u8 (fill (padX 92 key) 64 s1)) 62)) ∧ (Keeps [g4, g5] W8 W) ∧ (Ext w W)) (fun (s1 : Nat) => 64 - s1) 0 ⟨rfl, rfl, rfl, rfl, trivial⟩ ⟨(Nat.zero_le _), (row_eq r4_8_18 (puts_zero _ _).symm), (row_eq r5_8 (fill_zero _ 64).symm), (Keeps.refl [g4, g5] W8), x8⟩ fun s1 X1 V1 hI1 => ?_
    obtain ⟨i, hs1⟩ : ∃ z, z = s1 := ⟨_, rfl⟩
    subst hs1
    obtain ⟨hi, q4_1, q5_1, kk1, xx1⟩ := hI1
    replace hi : i ≤ 64 := hi
    replace q4_1 : V1.heap[g4]? = some (.cells (ints .u8 (puts (padX 54 key) (keyB key) i)) 62) := q4_1
    replace q5_1 : V1.heap[g5]? = some (.cells (ints .u8 (fill (padX 92 key) 64 i)) 62) := q5_1
    replace kk1 : Keeps [g4, g5] W8 V1 := kk1
    replace xx1 : Ext w V1 := xx1
    have q9 := kk1
    refine wp_seq_k fun K19 hK19 => ?_
    refine region_lit ?_
    refine seq_val (.bool (decide (((i : Nat) : Int) < 64))) 21 rfl kj kj ?_
    refine seq_nil ?_
    refine hK19 _ _ ?_
    try clear hK19 K19
    refine wp_seq_k fun K20 hK20 => ?_
    refine cond_split (t := decide (((i : Nat) : Int) < 64)) kj (fun c21 => ?_) (fun c21 => ?_)
    · skip
      have hlt21 : i < 64 := by have := of_decide_eq_true c21; omega
      refine wp_skip ?_
      refine hK20 _ _ ?_
      try clear hK20 K20
      refine wp_seq_k fun K22 hK22 => ?_
      refine wp_block ?_
      refine wp_seq_k fun K23 hK23 => ?_
      refine region_lit ?_
      refine seq_val (.int .i64 ((i : Nat) : Int)) 22 rfl kj kj ?_
      refine seq_val (.int .u8 (nth (keyB key) i)) 23 rfl kj (run_index_il 62 _ _ .i64 .u8 (keyB key) i 64 5 (nth (keyB key) i) rfl kj kj kj kj kj (keyB_len key) (by omega) rfl) ?_
      refine seq_val (.int .i64 ((i : Nat) : Int)) 5 rfl kj kj ?_
      refine seq_val (.int .u8 (nth (keyB key) i)) 6 rfl kj kj ?_
      refine seq_nil ?_
      refine hK23 _ _ ?_
      try clear hK23 K23
      refine region_lit ?_
      refine seq_val (.int .i64 ((i : Nat) : Int)) 24 rfl kj kj ?_
      refine seq_val (.int .i64 ((i : Nat) : Int)) 25 rfl kj kj ?_
      refine seq_val (.int .u8 (nth (keyB key) i)) 26 rfl kj kj ?_
      refine seq_val (.int .u8 (nth (padX 54 key) i)) 27 rfl kj (run_eq (u := .int .u8 (bits .xor .u8 ((nth (keyB key) i)) (54))) kj (congrArg (Value.int .u8) (nth_padX 54 key hlt21).symm)) ?_
      refine seq_val (.int .u8 (nth (keyB key) i)) 28 rfl kj kj ?_
      refine seq_val (.int .u8 (nth (padX 92 key) i)) 29 rfl kj (run_eq (u := .int .u8 (bits .xor .u8 ((nth (keyB key) i)) (92))) kj (congrArg (Value.int .u8) (nth_padX 92 key hlt21).symm)) ?_
      refine seq_val (.pointer (some ⟨g4, i, none⟩)) 30 rfl kj (run_index0 _ _ _ .i64 (i) _ 64 5 rfl kj kj kj kj (by omega)) ?_
      refine seq_store g4 _ (ints .u8 ((puts (padX 54 key) (keyB key) i).set i (nth (padX 54 key) i))) 62 q4_1 rfl kj (run_storeI 5 _ _ g4 i 62 _ _ q4_1 rfl kj kj kj (Nat.lt_of_lt_of_eq (by omega) (puts_len (padX_len 54 key) (keyB_len key) (by omega)).symm)) fun W10 p10 r4_10 => ?_
      have x10 : Ext w W10 := Puts.ext p10 xx1 b4
      refine seq_val (.pointer (some ⟨g5, i, none⟩)) 31 rfl kj (run_index0 _ _ _ .i64 (i) _ 64 5 rfl kj kj kj kj (by omega)) ?_
      have r5_10 := (Puts.row p10 q5_1 n_5_4)
      refine seq_store g5 _ (ints .u8 ((fill (padX 92 key) 64 i).set i (nth (padX 92 key) i))) 62 r5_10 rfl kj (run_storeI 5 _ _ g5 i 62 _ _ r5_10 rfl kj kj kj (Nat.lt_of_lt_of_eq (by omega) (fill_len (padX_len 92 key) (by omega)).symm)) fun W11 p11 r5_11 => ?_
      have x11 : Ext w W11 := Puts.ext p11 x10 b5
      refine seq_nil ?_
      refine hK22 _ _ ?_
      try clear hK22 K22
      refine region_lit ?_
      refine seq_val (.int .i64 ((i + 1 : Nat) : Int)) 32 rfl kj (run_eq (u := .int .i64 (IntKind.i64.wrap (((i : Nat) : Int) + 1))) kj (congrArg (Value.int .i64) (i64n _ _ (by omega) (by omega)))) ?_
      refine seq_val (.int .i64 ((i + 1 : Nat) : Int)) 20 rfl kj kj ?_
      refine seq_nil ?_
      have r4_11 := (Puts.row p11 r4_10 n_4_5)
      repeat (first | with_reducible refine goX1 ?_ | with_reducible refine goX2 ?_ | with_reducible refine goX3 ?_)
      exact goes_then (i + 1) ⟨rfl, rfl, rfl, rfl, trivial⟩ ⟨(by omega), (row_eq r4_11 (puts_set (padX_len 54 key) (keyB_len key) hlt21)), (row_eq r5_11 (fill_set (padX_len 92 key) hlt21)), (Keeps.puts (Keeps.puts q9 p10 (.inl (by simp))) p11 (.inl (by simp))), x11⟩ (by omega)
    · skip
      have heq21 : i = 64 := by have := of_decide_eq_false c21; omega
      have r4_9_24 : V1.heap[g4]? = some (.cells (ints .u8 (padX 54 key)) 62) := row_eq q4_1 (by rw [heq21]; exact puts_full (padX_len 54 key) (keyB_len key))
      have r5_9_25 : V1.heap[g5]? = some (.cells (ints .u8 (padX 92 key)) 62) := row_eq q5_1 (by rw [heq21]; exact fill_full (padX_len 92 key))
      refine wp_exit ?_
      refine hK16 _ _ ?_
      try clear hK16 K16
      refine wp_seq_k fun K26 hK26 => ?_
      refine any_regionT (fun W => W.heap[g5]? = some (.cells (ints .u8 (padX 92 key)) 62)) [⟨none, [(2, none)]⟩, ⟨none, [(3, none)]⟩, ⟨none, [(2, none), (33, some 0)]⟩, ⟨none, [(3, none), (34, some 1)]⟩] [] [1] kj kj kj (fun W hR => row_ext r5_9_25 hR) fun F hF => ?_
      refine t_read (.agg (ints .u8 (padX 54 key))) kj kj kj rfl (fun W hR => (run_load_row 62 _ g4 62 _ _ (row_ext (row_ext r4_9_24 (ext_drew _)) hR) rfl kj kj (isz (n := 64) kj ((ints_size _ _).trans (padX_len 54 key))))) ?_
      refine t_readU (.agg (ints .u8 (padX 92 key))) kj kj kj rfl (fun W hW => (run_load_row 62 _ g5 62 _ _ hW rfl kj kj (isz (n := 64) kj ((ints_size _ _).trans (padX_len 92 key))))) ?_
      refine t_store rfl ?_
      refine t_store rfl ?_
      refine t_nil (hF _ kj fun W10 e10 => ?_)
      simp only [List.nil_append, List.cons_append, fins, up]
      clear hF
      have x10 : Ext w W10 := Ext.tr xx1 e10
      have r4_10 := (row_ext r4_9_24 e10)
      have r5_10 := (row_ext r5_9_25 e10)
      refine te_store _ g4 _ (ints .u8 (padX 54 key)) 62 r4_10 rfl (run_store_row 62 _ _ g4 62 _ _ r4_10 rfl kj kj (isz (n := 64) kj ((ints_size _ _).trans (padX_len 54 key))) (eqsz (n := 64) ((ints_size _ _).trans (padX_len 54 key)) ((ints_size _ _).trans (padX_len 54 key))) (ints_one _ _)) (fun W hp => Puts.row hp r5_10 n_5_4) fun W11 p11 r4_11 => ?_
      have x11 : Ext w W11 := Puts.ext p11 x10 b4
      have r5_11 := (Puts.row p11 r5_10 n_5_4)
      refine te_storeR _ g5 _ (ints .u8 (padX 92 key)) 62 r5_11 rfl (run_store_row 62 _ _ g5 62 _ _ r5_11 rfl kj kj (isz (n := 64) kj ((ints_size _ _).trans (padX_len 92 key))) (eqsz (n := 64) ((ints_size _ _).trans (padX_len 92 key)) ((ints_size _ _).trans (padX_len 92 key))) (ints_one _ _)) (fun W hp hrw => hrw) fun W12 p12 r5_12 => ?_
      have x12 : Ext w W12 := Puts.ext p12 x11 b5
      refine te_nil ?_
      refine hK26 _ _ ?_
      try clear hK26 K26
      refine wp_ret ?_
      repeat (first | with_reducible refine goR1 ?_ | with_reducible refine goR2 ?_)
      have r4_12 := (Puts.row p12 r4_11 n_4_5)
      exact (show bodyPost _ _ _ .ret _ _ from ret2 (.agg (ints .u8 (padX 54 key))) (.agg (ints .u8 (padX 92 key))) rfl (res_cell g4 62 _ r4_12 kj kj (isz (n := 64) kj ((ints_size _ _).trans (padX_len 54 key)))) (res_cell g5 62 _ r5_12 kj kj (isz (n := 64) kj ((ints_size _ _).trans (padX_len 92 key)))) ⟨rfl, x12⟩)
  · skip
    have hlong : ¬ 64 < key.length := by have := of_decide_eq_false c8; omega
    refine region_lit ?_
    refine seq_val (.slice (some ⟨g4, 0, none⟩) 64 64) 16 rfl kj kj ?_
    refine seq_val (.slice a_key key.length c_key) 17 rfl kj kj ?_
    have r4_2 := (row_ext r4_1 e2)
    have f27_1 := (hk.ext e1)
    have f28_2 := (f27_1.ext e2)
    refine seq_copyI (k := .u8) (e := 5) (z := key) (.tmp 16) (.tmp 17) 22 22 18 rfl kj kj rfl kj (off := 0) (dl := 64) (dc := 64) (n := (min key.length 64)) (xs := List.replicate 64 0) kj kj f28_2 r4_2 (Nat.le_trans (show 0 + (64) ≤ 64 from (by omega)) (Nat.le_of_eq (List.length_replicate (n := 64)).symm)) rfl fun W3 p3 r4_3 => ?_
    have x3 : Ext w W3 := Puts.ext p3 x2 b4
    refine seq_nil ?_
    refine hK6 _ _ ?_
    try clear hK6 K6
    refine wp_seq_k fun K29 hK29 => ?_
    refine wp_seq_k fun K30 hK30 => ?_
    refine region_lit ?_
    have r4_3_31 : W3.heap[g4]? = some (.cells (ints .u8 (keyB key)) 62) := row_eq r4_3 (keyB_short hlong _ rfl)
    refine seq_val (.agg (ints .u8 (keyB key))) 19 rfl kj (run_load_row 62 _ g4 62 _ _ r4_3_31 rfl kj kj (isz (n := 64) kj ((ints_size _ _).trans (keyB_len key)))) ?_
    refine seq_val (.int .i64 0) 20 rfl kj kj ?_
    refine seq_nil ?_
    refine hK30 _ _ ?_
    try clear hK30 K30
    refine wp_block ?_
    have n_4_5 : g4 ≠ g5 := (ne_of_old r4_1 l5)
    have n_5_4 : g5 ≠ g4 := (ne_of_new r4_1 l5)
    have r5_3 := (Puts.row p3 r5_2 n_5_4)
    refine loop_auto (fun (s2 : Nat) => [(2, .pointer (some ⟨g4, 0, none⟩)), (3, .pointer (some ⟨g5, 0, none⟩)), (19, .agg (ints .u8 (keyB key))), (20, .int .i64 ((s2 : Nat) : Int))]) (fun (s2 : Nat) W => (s2 ≤ 64) ∧ (W.heap[g4]? = some (.cells (ints .u8 (puts (padX 54 key) (keyB key) s2)) 62)) ∧ (W.heap[g5]? = some (.cells (ints .u8 (fill (padX 92 key) 64 s2)) 62)) ∧ (Keeps [g4, g5] W3 W) ∧ (Ext w W)) (fun (s2 : Nat) => 64 - s2) 0 ⟨rfl, rfl, rfl, rfl, trivial⟩ ⟨(Nat.zero_le _), (row_eq r4_3_31 (puts_zero _ _).symm), (row_eq r5_3 (fill_zero _ 64).symm), (Keeps.refl [g4, g5] W3), x3⟩ fun s2 X2 V2 hI2 => ?_
    obtain ⟨i, hs2⟩ : ∃ z, z = s2 := ⟨_, rfl⟩
    subst hs2
    obtain ⟨hi, q4_2, q5_2, kk2, xx2⟩ := hI2
    replace hi : i ≤ 64 := hi
    replace q4_2 : V2.heap[g4]? = some (.cells (ints .u8 (puts (padX 54 key) (keyB key) i)) 62) := q4_2
    replace q5_2 : V2.heap[g5]? = some (.cells (ints .u8 (fill (padX 92 key) 64 i)) 62) := q5_2
    replace kk2 : Keeps [g4, g5] W3 V2 := kk2
    replace xx2 : Ext w V2 := xx2
    have q4 := kk2
    refine wp_seq_k fun K32 hK32 => ?_
    refine region_lit ?_
    refine seq_val (.bool (decide (((i : Nat) : Int) < 64))) 21 rfl kj kj ?_
    refine seq_nil ?_
    refine hK32 _ _ ?_
    try clear hK32 K32
    refine wp_seq_k fun K33 hK33 => ?_
    refine cond_split (t := decide (((i : Nat) : Int) < 64)) kj (fun c34 => ?_) (fun c34 => ?_)
    · skip
      have hlt21 : i < 64 := by have := of_decide_eq_true c34; omega
      refine wp_skip ?_
      refine hK33 _ _ ?_
      try clear hK33 K33
      refine wp_seq_k fun K35 hK35 => ?_
      refine wp_block ?_
      refine wp_seq_k fun K36 hK36 => ?_
      refine region_lit ?_
      refine seq_val (.int .i64 ((i : Nat) : Int)) 22 rfl kj kj ?_
      refine seq_val (.int .u8 (nth (keyB key) i)) 23 rfl kj (run_index_il 62 _ _ .i64 .u8 (keyB key) i 64 5 (nth (keyB key) i) rfl kj kj kj kj kj (keyB_len key) (by omega) rfl) ?_
      refine seq_val (.int .i64 ((i : Nat) : Int)) 5 rfl kj kj ?_
      refine seq_val (.int .u8 (nth (keyB key) i)) 6 rfl kj kj ?_
      refine seq_nil ?_
      refine hK36 _ _ ?_
      try clear hK36 K36
      refine region_lit ?_
      refine seq_val (.int .i64 ((i : Nat) : Int)) 24 rfl kj kj ?_
      refine seq_val (.int .i64 ((i : Nat) : Int)) 25 rfl kj kj ?_
      refine seq_val (.int .u8 (nth (keyB key) i)) 26 rfl kj kj ?_
      refine seq_val (.int .u8 (nth (padX 54 key) i)) 27 rfl kj (run_eq (u := .int .u8 (bits .xor .u8 ((nth (keyB key) i)) (54))) kj (congrArg (Value.int .u8) (nth_padX 54 key hlt21).symm)) ?_
      refine seq_val (.int .u8 (nth (keyB key) i)) 28 rfl kj kj ?_
      refine seq_val (.int .u8 (nth (padX 92 key) i)) 29 rfl kj (run_eq (u := .int .u8 (bits .xor .u8 ((nth (keyB key) i)) (92))) kj (congrArg (Value.int .u8) (nth_padX 92 key hlt21).symm)) ?_
      refine seq_val (.pointer (some ⟨g4, i, none⟩)) 30 rfl kj (run_index0 _ _ _ .i64 (i) _ 64 5 rfl kj kj kj kj (by omega)) ?_
      refine seq_store g4 _ (ints .u8 ((puts (padX 54 key) (keyB key) i).set i (nth (padX 54 key) i))) 62 q4_2 rfl kj (run_storeI 5 _ _ g4 i 62 _ _ q4_2 rfl kj kj kj (Nat.lt_of_lt_of_eq (by omega) (puts_len (padX_len 54 key) (keyB_len key) (by omega)).symm)) fun W5 p5 r4_5 => ?_
      have x5 : Ext w W5 := Puts.ext p5 xx2 b4
      refine seq_val (.pointer (some ⟨g5, i, none⟩)) 31 rfl kj (run_index0 _ _ _ .i64 (i) _ 64 5 rfl kj kj kj kj (by omega)) ?_
      have r5_5 := (Puts.row p5 q5_2 n_5_4)
      refine seq_store g5 _ (ints .u8 ((fill (padX 92 key) 64 i).set i (nth (padX 92 key) i))) 62 r5_5 rfl kj (run_storeI 5 _ _ g5 i 62 _ _ r5_5 rfl kj kj kj (Nat.lt_of_lt_of_eq (by omega) (fill_len (padX_len 92 key) (by omega)).symm)) fun W6 p6 r5_6 => ?_
      have x6 : Ext w W6 := Puts.ext p6 x5 b5
      refine seq_nil ?_
      refine hK35 _ _ ?_
      try clear hK35 K35
      refine region_lit ?_
      refine seq_val (.int .i64 ((i + 1 : Nat) : Int)) 32 rfl kj (run_eq (u := .int .i64 (IntKind.i64.wrap (((i : Nat) : Int) + 1))) kj (congrArg (Value.int .i64) (i64n _ _ (by omega) (by omega)))) ?_
      refine seq_val (.int .i64 ((i + 1 : Nat) : Int)) 20 rfl kj kj ?_
      refine seq_nil ?_
      have r4_6 := (Puts.row p6 r4_5 n_4_5)
      repeat (first | with_reducible refine goX1 ?_ | with_reducible refine goX2 ?_ | with_reducible refine goX3 ?_)
      exact goes_then (i + 1) ⟨rfl, rfl, rfl, rfl, trivial⟩ ⟨(by omega), (row_eq r4_6 (puts_set (padX_len 54 key) (keyB_len key) hlt21)), (row_eq r5_6 (fill_set (padX_len 92 key) hlt21)), (Keeps.puts (Keeps.puts q4 p5 (.inl (by simp))) p6 (.inl (by simp))), x6⟩ (by omega)
    · skip
      have heq21 : i = 64 := by have := of_decide_eq_false c34; omega
      have r4_4_37 : V2.heap[g4]? = some (.cells (ints .u8 (padX 54 key)) 62) := row_eq q4_2 (by rw [heq21]; exact puts_full (padX_len 54 key) (keyB_len key))
      have r5_4_38 : V2.heap[g5]? = some (.cells (ints .u8 (padX 92 key)) 62) := row_eq q5_2 (by rw [heq21]; exact fill_full (padX_len 92 key))
      refine wp_exit ?_
      refine hK29 _ _ ?_
      try clear hK29 K29
      refine wp_seq_k fun K39 hK39 => ?_
      refine any_regionT (fun W => W.heap[g5]? = some (.cells (ints .u8 (padX 92 key)) 62)) [⟨none, [(2, none)]⟩, ⟨none, [(3, none)]⟩, ⟨none, [(2, none), (33, some 0)]⟩, ⟨none, [(3, none), (34, some 1)]⟩] [] [1] kj kj kj (fun W hR => row_ext r5_4_38 hR) fun F hF => ?_
      refine t_read (.agg (ints .u8 (padX 54 key))) kj kj kj rfl (fun W hR => (run_load_row 62 _ g4 62 _ _ (row_ext (row_ext r4_4_37 (ext_drew _)) hR) rfl kj kj (isz (n := 64) kj ((ints_size _ _).trans (padX_len 54 key))))) ?_
      refine t_readU (.agg (ints .u8 (padX 92 key))) kj kj kj rfl (fun W hW => (run_load_row 62 _ g5 62 _ _ hW rfl kj kj (isz (n := 64) kj ((ints_size _ _).trans (padX_len 92 key))))) ?_
      refine t_store rfl ?_
      refine t_store rfl ?_
      refine t_nil (hF _ kj fun W5 e5 => ?_)
      simp only [List.nil_append, List.cons_append, fins, up]
      clear hF
      have x5 : Ext w W5 := Ext.tr xx2 e5
      have r4_5 := (row_ext r4_4_37 e5)
      have r5_5 := (row_ext r5_4_38 e5)
      refine te_store _ g4 _ (ints .u8 (padX 54 key)) 62 r4_5 rfl (run_store_row 62 _ _ g4 62 _ _ r4_5 rfl kj kj (isz (n := 64) kj ((ints_size _ _).trans (padX_len 54 key))) (eqsz (n := 64) ((ints_size _ _).trans (padX_len 54 key)) ((ints_size _ _).trans (padX_len 54 key))) (ints_one _ _)) (fun W hp => Puts.row hp r5_5 n_5_4) fun W6 p6 r4_6 => ?_
      have x6 : Ext w W6 := Puts.ext p6 x5 b4
      have r5_6 := (Puts.row p6 r5_5 n_5_4)
      refine te_storeR _ g5 _ (ints .u8 (padX 92 key)) 62 r5_6 rfl (run_store_row 62 _ _ g5 62 _ _ r5_6 rfl kj kj (isz (n := 64) kj ((ints_size _ _).trans (padX_len 92 key))) (eqsz (n := 64) ((ints_size _ _).trans (padX_len 92 key)) ((ints_size _ _).trans (padX_len 92 key))) (ints_one _ _)) (fun W hp hrw => hrw) fun W7 p7 r5_7 => ?_
      have x7 : Ext w W7 := Puts.ext p7 x6 b5
      refine te_nil ?_
      refine hK39 _ _ ?_
      try clear hK39 K39
      refine wp_ret ?_
      repeat (first | with_reducible refine goR1 ?_ | with_reducible refine goR2 ?_)
      have r4_7 := (Puts.row p7 r4_6 n_4_5)
      exact (show bodyPost _ _ _ .ret _ _ from ret2 (.agg (ints .u8 (padX 54 key))) (.agg (ints .u8 (padX 92 key))) rfl (res_cell g4 62 _ r4_7 kj kj (isz (n := 64) kj ((ints_size _ _).trans (padX_len 54 key)))) (res_cell g5 62 _ r5_7 kj kj (isz (n := 64) kj ((ints_size _ _).trans (padX_len 92 key)))) ⟨rfl, x7⟩)

end Go.Proofs.YtamlhbbphnamnaaDoor.Sha
