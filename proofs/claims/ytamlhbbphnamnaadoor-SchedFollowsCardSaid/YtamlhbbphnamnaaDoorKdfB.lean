/- HMAC: the tag of parts. -/
import Derived.Test.YtamlhbbphnamnaaDoorKdfA
namespace Go.Proofs.YtamlhbbphnamnaaDoor.Sha
open Go Go.RowKit
open Go.Proofs.YtamlhbbphnamnaaDoor.Rely Go.Proofs.YtamlhbbphnamnaaDoor.Auto Go.Proofs.YtamlhbbphnamnaaDoor.Own
set_option linter.unusedVariables false
set_option linter.unusedSimpArgs false

set_option maxHeartbeats 4000000 in
theorem tagC (key : List Int) (v : Value) (B : Nat) (gp n : Nat) (Tp : TypeId) (ps : List (Value × List Int)) (hn : ps.length = n) (hn9 : n ≤ 1000000) (tc tq : TypeId) (w : World) (hc : w.heap[1]? = some (.cells (ints .u64 cubesI) tc)) (hq : w.heap[0]? = some (.cells (ints .u64 squaresI) tq)) (hkb : AreBytes key) (hkl : key.length ≤ 800000000) (hk : RdK .u8 B key v w) (hrow : w.heap[gp]? = some (.cells (ps.map Prod.fst).toArray Tp)) (hps : ∀ p ∈ ps, RdK .u8 w.heap.size p.2 p.1 w ∧ AreBytes p.2) (hlen : ((ps.map Prod.snd).flatten).length ≤ 800000000) :
    Calls Tryd.prog 15 #[v, .slice (some ⟨gp, 0, none⟩) n n] w (Ret w (.agg (ints .u8 (hmac key ((ps.map Prod.snd).flatten))))) := by
  obtain ⟨a_key, c_key, rfl, -⟩ := id hk
  refine enter 36 [(0, .slice a_key key.length c_key), (1, .slice (some ⟨gp, 0, none⟩) n n)] Tryd.func15 rfl rfl kj rfl ?_
  refine wp_seq_k fun K4 hK4 => ?_
  refine region_lit ?_
  refine seq_alloc (ints .u8 (List.replicate 32 0)) 26 4 rfl kj kj fun g5 W1 l5 e1 r5_1 => ?_
  have x1 : Ext w W1 := Ext.tr (Rely.Ext.refl w) e1
  have b5 : w.heap.size ≤ g5 := Nat.le_trans (Rely.Ext.refl w).size l5
  refine seq_nil ?_
  refine hK4 _ _ ?_
  try clear hK4 K4
  refine wp_seq_k fun K6 hK6 => ?_
  refine region_lit ?_
  refine seq_val (.slice a_key key.length c_key) 12 rfl kj kj ?_
  have r1_1 := (row_ext hc e1)
  have r2_1 := (row_ext hq e1)
  have f7_1 := (hk.ext e1)
  refine seq_call (.tuple #[.agg (ints .u8 (padX 54 key)), .agg (ints .u8 (padX 92 key))]) 40 #[.slice a_key key.length c_key] 13 rfl kj kj (padsC key _ B tc tq _ r1_1 r2_1 hkb (by omega) f7_1) fun W2 e2 => ?_
  have x2 : Ext w W2 := Ext.tr x1 e2
  refine seq_val (.tuple #[.agg (ints .u8 (padX 54 key)), .agg (ints .u8 (padX 92 key))]) 11 rfl kj kj ?_
  refine seq_val (.agg (ints .u8 (padX 54 key))) 14 rfl kj kj ?_
  refine seq_val (.agg (ints .u8 (padX 92 key))) 15 rfl kj kj ?_
  refine seq_alloc (ints .u8 (List.replicate 64 0)) 62 5 rfl kj kj fun g8 W3 l8 e3 r8_3 => ?_
  have x3 : Ext w W3 := Ext.tr x2 e3
  have b8 : w.heap.size ≤ g8 := Nat.le_trans x2.size l8
  refine seq_alloc (ints .u8 (List.replicate 64 0)) 62 6 rfl kj kj fun g9 W4 l9 e4 r9_4 => ?_
  have x4 : Ext w W4 := Ext.tr x3 e4
  have b9 : w.heap.size ≤ g9 := Nat.le_trans x3.size l9
  have r8_4 := (row_ext r8_3 e4)
  refine seq_store g8 _ (ints .u8 (padX 54 key)) 62 r8_4 rfl kj (run_store_row 62 _ _ g8 62 _ _ r8_4 rfl kj kj (isz (n := 64) kj ((ints_size _ _).trans (padX_len 54 key))) (eqsz (n := 64) ((ints_size _ _).trans (List.length_replicate (n := 64))) ((ints_size _ _).trans (padX_len 54 key))) (ints_one _ _)) fun W5 p5 r8_5 => ?_
  have x5 : Ext w W5 := Puts.ext p5 x4 b8
  have r9_5 := (Puts.row p5 r9_4 (ne_of_new r8_3 l9))
  refine seq_store g9 _ (ints .u8 (padX 92 key)) 62 r9_5 rfl kj (run_store_row 62 _ _ g9 62 _ _ r9_5 rfl kj kj (isz (n := 64) kj ((ints_size _ _).trans (padX_len 92 key))) (eqsz (n := 64) ((ints_size _ _).trans (List.length_replicate (n := 64))) ((ints_size _ _).trans (padX_len 92 key))) (ints_one _ _)) fun W6 p6 r9_6 => ?_
  have x6 : Ext w W6 := Puts.ext p6 x5 b9
  refine seq_nil ?_
  refine hK6 _ _ ?_
  try clear hK6 K6
  refine wp_seq_k fun K10 hK10 => ?_
  refine region_lit ?_
  have r2_2 := (row_ext r2_1 e2)
  have r2_3 := (row_ext r2_2 e3)
  have r2_4 := (row_ext r2_3 e4)
  have r2_5 := (Puts.row p5 r2_4 (ne_of_old r2_2 l8))
  have r2_6 := (Puts.row p6 r2_5 (ne_of_old r2_3 l9))
  refine seq_callR (fun v W' => (fun v W => ∃ g, v = .pointer (some ⟨g, 0, none⟩) ∧ W6.heap.size ≤ g ∧ HasD g [] W) v W' ∧ Ext W6 W') 41 #[] 16 rfl kj kj ((newC tq _ r2_6).mono (by rintro e w' ⟨v, rfl, e1, hv⟩; exact ⟨v, rfl, hv, e1⟩)) fun vv11 W7 hh11 => ?_
  obtain ⟨hv11, e7⟩ := hh11
  have x7 : Ext w W7 := Ext.tr x6 e7
  obtain ⟨gd12, rfl, ld12, hD12⟩ := hv11
  have b12 : w.heap.size ≤ gd12 := Nat.le_trans x6.size ld12
  refine seq_val (.pointer (some ⟨gd12, 0, none⟩)) 7 rfl kj kj ?_
  refine seq_nil ?_
  refine hK10 _ _ ?_
  try clear hK10 K10
  refine wp_seq_k fun K13 hK13 => ?_
  refine region_lit ?_
  refine seq_val (.pointer (some ⟨gd12, 0, none⟩)) 17 rfl kj kj ?_
  refine seq_val (.slice (some ⟨g8, 0, none⟩) 64 64) 18 rfl kj kj ?_
  have r1_2 := (row_ext r1_1 e2)
  have r1_3 := (row_ext r1_2 e3)
  have r1_4 := (row_ext r1_3 e4)
  have r1_5 := (Puts.row p5 r1_4 (ne_of_old r1_2 l8))
  have r1_6 := (Puts.row p6 r1_5 (ne_of_old r1_3 l9))
  have r1_7 := (row_ext r1_6 e7)
  have r8_6 := (Puts.row p6 r8_5 (ne_of_old r8_3 l9))
  have r8_7 := (row_ext r8_6 e7)
  refine seq_callR (fun v W' => v = .tuple #[] ∧ ExtB gd12 W7 W' ∧ HasD gd12 (padX 54 key) W') 42 #[.pointer (some ⟨gd12, 0, none⟩), .slice (some ⟨g8, 0, none⟩) 64 64] 19 rfl kj kj ((addC gd12 _ [] (padX 54 key) (.slice (some ⟨g8, 0, none⟩) 64 64) tc _ r1_7 (Nat.ne_of_lt (Nat.lt_of_lt_of_le (row_lt hc) b12)) (.inr (fun e => (ne_of_old r8_6 ld12) (Option.some.inj e))) (padX_bytes _ _) (by rw [padX_len]; decide) (hD12) (rdK_ints (xs := padX 54 key) (n := 64) (padX_len 54 key) r8_7 (row_lt r8_7) (show 64 ≤ maxLen from by decide))).mono fun e w' h => ⟨_, h.1, rfl, h.2⟩) fun v W8 h => ?_
  obtain ⟨rfl, q8, hDp⟩ := h
  have x8 : Ext w W8 := ExtB.up x7 q8 b12
  refine seq_nil ?_
  refine hK13 _ _ ?_
  try clear hK13 K13
  refine wp_seq_k fun K14 hK14 => ?_
  refine wp_seq_k fun K15 hK15 => ?_
  refine region_lit ?_
  refine seq_val (.slice (some ⟨gp, 0, none⟩) n n) 20 rfl kj kj ?_
  refine seq_val (.int .i64 ((n : Nat) : Int)) 21 rfl kj kj ?_
  refine seq_val (.int .i64 0) 22 rfl kj kj ?_
  refine seq_nil ?_
  refine hK15 _ _ ?_
  try clear hK15 K15
  refine wp_block ?_
  refine loop_auto (fun (s1 : Nat) => [(20, .slice (some ⟨gp, 0, none⟩) n n), (21, .int .i64 ((n : Nat) : Int)), (22, .int .i64 ((s1 : Nat) : Int)), (7, .pointer (some ⟨gd12, 0, none⟩)), (4, .pointer (some ⟨g5, 0, none⟩)), (6, .pointer (some ⟨g9, 0, none⟩))]) (fun (s1 : Nat) W => (s1 ≤ n) ∧ (HasD gd12 (padX 54 key ++ flat ps s1) W) ∧ (Keeps [gd12] W8 W) ∧ (Ext w W)) (fun (s1 : Nat) => n - s1) 0 ⟨rfl, rfl, rfl, rfl, rfl, rfl, trivial⟩ ⟨(Nat.zero_le _), (show HasD _ (padX 54 key ++ flat ps 0) _ from (List.append_nil (padX 54 key)).symm ▸ hDp), (Keeps.refl [gd12] W8), x8⟩ fun s1 X1 V1 hI1 => ?_
  obtain ⟨i, hs1⟩ : ∃ z, z = s1 := ⟨_, rfl⟩
  subst hs1
  obtain ⟨hi, hDi, kk1, xx1⟩ := hI1
  replace hi : i ≤ n := hi
  replace hDi : HasD gd12 (padX 54 key ++ flat ps i) V1 := hDi
  replace kk1 : Keeps [gd12] W8 V1 := kk1
  replace xx1 : Ext w V1 := xx1
  have q9 := kk1
  refine wp_seq_k fun K16 hK16 => ?_
  refine region_lit ?_
  refine seq_val (.bool (decide (((i : Nat) : Int) < ((n : Nat) : Int)))) 23 rfl kj kj ?_
  refine seq_nil ?_
  refine hK16 _ _ ?_
  try clear hK16 K16
  refine wp_seq_k fun K17 hK17 => ?_
  refine cond_split (t := decide (((i : Nat) : Int) < ((n : Nat) : Int))) kj (fun c18 => ?_) (fun c18 => ?_)
  · skip
    have hlt23 : i < n := by have := of_decide_eq_true c18; omega
    refine wp_skip ?_
    refine hK17 _ _ ?_
    try clear hK17 K17
    refine wp_seq_k fun K19 hK19 => ?_
    refine wp_block ?_
    refine wp_seq_k fun K20 hK20 => ?_
    refine region_lit ?_
    have hi2 : i < ps.length := by omega
    refine seq_val (.pointer (some ⟨gp, i, none⟩)) 24 rfl kj (run_indexS0 40 _ _ .i64 i gp n n 22 rfl kj kj kj kj hlt23) ?_
    have r3_1 := (row_ext hrow e1)
    have r3_2 := (row_ext r3_1 e2)
    have r3_3 := (row_ext r3_2 e3)
    have r3_4 := (row_ext r3_3 e4)
    have r3_5 := (Puts.row p5 r3_4 (ne_of_old r3_2 l8))
    have r3_6 := (Puts.row p6 r3_5 (ne_of_old r3_3 l9))
    have r3_7 := (row_ext r3_6 e7)
    have r3_8 := (ExtB.row q8 r3_7 (ne_of_old r3_6 ld12))
    have r3_9 := (Keeps.row q9 r3_8 (nm_cons (ne_of_old r3_6 ld12) nm_nil))
    refine seq_val ((pat ps i).1) 25 rfl kj (run_loadCell 22 _ _ ((pat ps i).1) (row_cell r3_9 (ps_get hi2)) rfl kj kj) ?_
    refine seq_val ((pat ps i).1) 9 rfl kj kj ?_
    refine seq_nil ?_
    refine hK20 _ _ ?_
    try clear hK20 K20
    refine region_lit ?_
    refine seq_val (.pointer (some ⟨gd12, 0, none⟩)) 26 rfl kj kj ?_
    refine seq_val ((pat ps i).1) 27 rfl kj kj ?_
    have r1_8 := (ExtB.row q8 r1_7 (ne_of_old r1_6 ld12))
    have r1_9 := (Keeps.row q9 r1_8 (nm_cons (ne_of_old r1_6 ld12) nm_nil))
    have hp6 := (hps _ (pat_mem hi2)).1.ext xx1
    have hl6 := flat_le hi2
    refine seq_callR (fun v W' => v = .tuple #[] ∧ ExtB gd12 V1 W' ∧ HasD gd12 ((padX 54 key ++ flat ps i) ++ (pat ps i).2) W') 42 #[.pointer (some ⟨gd12, 0, none⟩), (pat ps i).1] 28 rfl kj kj ((addC gd12 _ _ _ _ tc _ r1_9 (Nat.ne_of_lt (Nat.lt_of_lt_of_le (row_lt hc) b12)) (hp6.nb b12) (hps _ (pat_mem hi2)).2 (by rw [List.length_append, padX_len]; omega) hDi hp6).mono fun e w' h => ⟨_, h.1, rfl, h.2⟩) fun v W10 h => ?_
    obtain ⟨rfl, q10, hDn⟩ := h
    have x10 : Ext w W10 := ExtB.up xx1 q10 b12
    refine seq_nil ?_
    refine hK19 _ _ ?_
    try clear hK19 K19
    refine region_lit ?_
    refine seq_val (.int .i64 ((i + 1 : Nat) : Int)) 29 rfl kj (run_eq (u := .int .i64 (IntKind.i64.wrap (((i : Nat) : Int) + 1))) kj (congrArg (Value.int .i64) (i64n _ _ (by omega) (by omega)))) ?_
    refine seq_val (.int .i64 ((i + 1 : Nat) : Int)) 22 rfl kj kj ?_
    refine seq_nil ?_
    repeat (first | with_reducible refine goX1 ?_ | with_reducible refine goX2 ?_ | with_reducible refine goX3 ?_)
    exact goes_then (i + 1) ⟨rfl, rfl, rfl, rfl, rfl, rfl, trivial⟩ ⟨(by omega), (by rw [flat_succ hi2, ← List.append_assoc]; exact hDn), (Keeps.but q9 q10 (.inl (by simp))), x10⟩ (by omega)
  · skip
    have heq23 : i = n := by have := of_decide_eq_false c18; omega
    refine wp_exit ?_
    refine hK14 _ _ ?_
    try clear hK14 K14
    refine wp_seq_k fun K21 hK21 => ?_
    refine region_lit ?_
    refine seq_val (.pointer (some ⟨gd12, 0, none⟩)) 30 rfl kj kj ?_
    have r1_8 := (ExtB.row q8 r1_7 (ne_of_old r1_6 ld12))
    have r1_9 := (Keeps.row q9 r1_8 (nm_cons (ne_of_old r1_6 ld12) nm_nil))
    refine seq_call (.agg (ints .u8 (dig (padX 54 key ++ flat ps i)))) 43 #[.pointer (some ⟨gd12, 0, none⟩)] 31 rfl kj kj (sumC gd12 _ tc _ r1_9 (by rw [heq23, flat_full hn, List.length_append, padX_len]; omega) hDi) fun W10 e10 => ?_
    have x10 : Ext w W10 := Ext.tr xx1 e10
    refine seq_alloc (ints .u8 (List.replicate 32 0)) 26 10 rfl kj kj fun g22 W11 l22 e11 r22_11 => ?_
    have x11 : Ext w W11 := Ext.tr x10 e11
    have b22 : w.heap.size ≤ g22 := Nat.le_trans x10.size l22
    refine seq_store g22 _ (ints .u8 (dig (padX 54 key ++ flat ps i))) 26 r22_11 rfl kj (run_store_row 26 _ _ g22 26 _ _ r22_11 rfl kj kj (isz (n := 32) kj ((ints_size _ _).trans (dig_len _))) (eqsz (n := 32) ((ints_size _ _).trans (List.length_replicate (n := 32))) ((ints_size _ _).trans (dig_len _))) (ints_one _ _)) fun W12 p12 r22_12 => ?_
    have x12 : Ext w W12 := Puts.ext p12 x11 b22
    refine seq_nil ?_
    refine hK21 _ _ ?_
    try clear hK21 K21
    refine wp_seq_k fun K23 hK23 => ?_
    refine any_regionE 2 [⟨none, [(6, none)]⟩, ⟨none, [(10, none)]⟩] kj kj fun F hF => ?_
    refine e_val (rl_ext _) (.slice (some ⟨g9, 0, none⟩) 64 64) kj kj (fun W => by kernel_rfl) ?_
    refine e_val (rl_ext _) (.slice (some ⟨g22, 0, none⟩) 32 32) kj kj (fun W => by kernel_rfl) ?_
    refine e_nil (hF _ fun W13 e13 => ?_)
    simp only [List.nil_append, List.cons_append, List.take_succ_cons, List.take_zero, List.drop_succ_cons, List.drop_zero, finE, up]
    clear hF
    have x13 : Ext w W13 := Ext.tr x12 e13
    refine seq_makeS (#[.slice (some ⟨g9, 0, none⟩) 64 64, .slice (some ⟨g22, 0, none⟩) 32 32]) 22 2 34 rfl kj kj fun g24 W14 l24 e14 r24_14 => ?_
    have x14 : Ext w W14 := Ext.tr x13 e14
    have b24 : w.heap.size ≤ g24 := Nat.le_trans x13.size l24
    have r9_7 := (row_ext r9_6 e7)
    have r9_8 := (ExtB.row q8 r9_7 (ne_of_old r9_6 ld12))
    have r9_9 := (Keeps.row q9 r9_8 (nm_cons (ne_of_old r9_6 ld12) nm_nil))
    have r9_10 := (row_ext r9_9 e10)
    have r9_11 := (row_ext r9_10 e11)
    have r9_12 := (Puts.row p12 r9_11 (ne_of_old r9_10 l22))
    have r9_13 := (row_ext r9_12 e13)
    have r9_14 := (row_ext r9_13 e14)
    have r22_13 := (row_ext r22_12 e13)
    have r22_14 := (row_ext r22_13 e14)
    have r1_10 := (row_ext r1_9 e10)
    have r1_11 := (row_ext r1_10 e11)
    have r1_12 := (Puts.row p12 r1_11 (ne_of_old r1_10 l22))
    have r1_13 := (row_ext r1_12 e13)
    have r1_14 := (row_ext r1_13 e14)
    have r2_7 := (row_ext r2_6 e7)
    have r2_8 := (ExtB.row q8 r2_7 (ne_of_old r2_6 ld12))
    have r2_9 := (Keeps.row q9 r2_8 (nm_cons (ne_of_old r2_6 ld12) nm_nil))
    have r2_10 := (row_ext r2_9 e10)
    have r2_11 := (row_ext r2_10 e11)
    have r2_12 := (Puts.row p12 r2_11 (ne_of_old r2_10 l22))
    have r2_13 := (row_ext r2_12 e13)
    have r2_14 := (row_ext r2_13 e14)
    have hps25 : ∀ p ∈ ([(.slice (some ⟨g9, 0, none⟩) 64 64, padX 92 key), (.slice (some ⟨g22, 0, none⟩) 32 32, dig (padX 54 key ++ flat ps i))] : List (Value × List Int)), RdK .u8 W14.heap.size p.2 p.1 W14 ∧ AreBytes p.2 := by
      intro p hp
      simp only [List.mem_cons, List.not_mem_nil, or_false] at hp
      rcases hp with rfl | rfl
      · exact ⟨RdK.here (rdK_ints (xs := padX 92 key) (n := 64) (padX_len 92 key) r9_14 (row_lt r9_14) (show 64 ≤ maxLen from by decide)), (padX_bytes _ _)⟩
      · exact ⟨RdK.here (rdK_ints (xs := dig (padX 54 key ++ flat ps i)) (n := 32) (dig_len _) r22_14 (row_lt r22_14) (show 32 ≤ maxLen from by decide)), (dig_bytes _)⟩
    have hsh25 := shortC g24 2 _ ([(.slice (some ⟨g9, 0, none⟩) 64 64, padX 92 key), (.slice (some ⟨g22, 0, none⟩) 32 32, dig (padX 54 key ++ flat ps i))] : List (Value × List Int)) rfl (by decide) tc tq W14 r1_14 r2_14 r24_14 hps25 (by simp only [List.map_cons, List.map_nil, List.flatten_cons, List.flatten_nil, List.append_nil, List.length_append, (dig_len _), (padX_len 92 key)]; omega)
    rw [show ((List.map Prod.snd ([(.slice (some ⟨g9, 0, none⟩) 64 64, padX 92 key), (.slice (some ⟨g22, 0, none⟩) 32 32, dig (padX 54 key ++ flat ps i))] : List (Value × List Int))).flatten) = (padX 92 key) ++ (dig (padX 54 key ++ flat ps i)) by simp only [List.map_cons, List.map_nil, List.flatten_cons, List.flatten_nil, List.append_nil]] at hsh25
    refine seq_call (.agg (ints .u8 (dig ((padX 92 key) ++ (dig (padX 54 key ++ flat ps i)))))) 26 #[.slice (some ⟨g24, 0, none⟩) 2 2] 35 rfl kj kj hsh25 fun W15 e15 => ?_
    have x15 : Ext w W15 := Ext.tr x14 e15
    have r5_2 := (row_ext r5_1 e2)
    have r5_3 := (row_ext r5_2 e3)
    have r5_4 := (row_ext r5_3 e4)
    have r5_5 := (Puts.row p5 r5_4 (ne_of_old r5_2 l8))
    have r5_6 := (Puts.row p6 r5_5 (ne_of_old r5_3 l9))
    have r5_7 := (row_ext r5_6 e7)
    have r5_8 := (ExtB.row q8 r5_7 (ne_of_old r5_6 ld12))
    have r5_9 := (Keeps.row q9 r5_8 (nm_cons (ne_of_old r5_6 ld12) nm_nil))
    have r5_10 := (row_ext r5_9 e10)
    have r5_11 := (row_ext r5_10 e11)
    have r5_12 := (Puts.row p12 r5_11 (ne_of_old r5_10 l22))
    have r5_13 := (row_ext r5_12 e13)
    have r5_14 := (row_ext r5_13 e14)
    have r5_15 := (row_ext r5_14 e15)
    refine seq_store g5 _ (ints .u8 (dig ((padX 92 key) ++ (dig (padX 54 key ++ flat ps i))))) 26 r5_15 rfl kj (run_store_row 26 _ _ g5 26 _ _ r5_15 rfl kj kj (isz (n := 32) kj ((ints_size _ _).trans (dig_len _))) (eqsz (n := 32) ((ints_size _ _).trans (List.length_replicate (n := 32))) ((ints_size _ _).trans (dig_len _))) (ints_one _ _)) fun W16 p16 r5_16 => ?_
    have x16 : Ext w W16 := Puts.ext p16 x15 b5
    refine seq_nil ?_
    refine hK23 _ _ ?_
    try clear hK23 K23
    refine wp_ret ?_
    repeat (first | with_reducible refine goR1 ?_ | with_reducible refine goR2 ?_)
    exact (show bodyPost _ _ _ .ret _ _ from ret1 (.agg (ints .u8 (dig ((padX 92 key) ++ (dig (padX 54 key ++ flat ps i)))))) rfl (res_cell g5 26 _ r5_16 kj kj (isz (n := 32) kj ((ints_size _ _).trans (dig_len _)))) ⟨by unfold hmac; rw [heq23, flat_full hn], x16⟩)

end Go.Proofs.YtamlhbbphnamnaaDoor.Sha
