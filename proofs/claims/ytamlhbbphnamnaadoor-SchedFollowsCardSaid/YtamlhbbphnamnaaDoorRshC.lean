/- The reference's SHA-256: the digest. -/
import Derived.Test.YtamlhbbphnamnaaDoorRshB
namespace Go.Proofs.YtamlhbbphnamnaaDoor.Sha
open Go Go.RowKit
open Go.Proofs.YtamlhbbphnamnaaDoor.Rely Go.Proofs.YtamlhbbphnamnaaDoor.Auto Go.Proofs.YtamlhbbphnamnaaDoor.Own
set_option linter.unusedVariables false
set_option linter.unusedSimpArgs false

theorem nb_nil {v : Value} : ∀ c ∈ ([] : List Nat), v.ownBlock ≠ some c := fun _ h => by simp at h
theorem nb_cons {v : Value} {g : Nat} {gs : List Nat} (h : v.ownBlock ≠ some g) (h2 : ∀ c ∈ gs, v.ownBlock ≠ some c) : ∀ c ∈ g :: gs, v.ownBlock ≠ some c := fun c hc => by
  rcases List.mem_cons.1 hc with e | e
  · rw [e]; exact h
  · exact h2 c e
theorem OwnN.keepsL {k : IntKind} {T : TypeId} {base : Nat} {gs : List Nat} {xs : List Int} {v : Value} {V W : World} (h : OwnN k T base xs v V) (q : Keeps gs V W) (hn : ∀ c ∈ gs, v.ownBlock ≠ some c) : OwnN k T base xs v W :=
  h.keep fun g hg => q.block g (h.lt hg) (fun hm => hn g hm hg)
theorem take_len (ws : List Wd) {i n : Nat} (h : ws.length = n) (hi : i ≤ n) : ((ws.map wv).take i).length = i := by rw [List.length_take, List.length_map]; omega
theorem take_w (ws : List Wd) {i n : Nat} (h : ws.length = n) (hi : i < n) : (ws.map wv).take (i + 1) = (ws.map wv).take i ++ [wv (wget ws i)] := by
  have hl : i < (ws.map wv).length := by rw [List.length_map]; omega
  rw [List.take_succ_eq_append_getElem hl]
  have : (ws.map wv)[i] = wv (wget ws i) := by
    unfold wget
    rw [List.getElem_map, List.getD_eq_getElem?_getD, List.getElem?_eq_getElem (by omega)]
    rfl
  rw [this]
theorem take_get (ws : List Wd) (i k : Nat) (hk : k < i) : nth ((ws.map wv).take i) k = wv (wget ws k) := by
  rw [← nth_map]
  unfold nth
  rw [List.getD_eq_getElem?_getD, List.getD_eq_getElem?_getD, List.getElem?_take, if_pos hk]
theorem u32s (x : Int) (h : 0 ≤ x ∧ x < 4294967296) : IntKind.u32.wrap x = x := by rw [wrap32]; omega
theorem padT_64 (t : List Int) : ∃ q, (padT t).length = 64 * q := by
  refine ⟨(t.length + (1 + fillN t.length + 8)) / 64, ?_⟩
  rw [padT, List.length_append, tailP_len]
  unfold fillN; omega
theorem nth_part (P : List Int) (m k : Nat) (h : k < 64) : nth ((P.drop (64 * m)).take 64) k = nth P (64 * m + k) := by
  unfold nth
  rw [List.getD_eq_getElem?_getD, List.getD_eq_getElem?_getD, List.getElem?_take, if_pos h, List.getElem?_drop]
theorem be_sum {P b : List Int} {m j : Nat} (hP : AreBytes P) (hb : b = (P.drop (64 * m)).take 64) (hj : j < 16) :
    IntKind.u32.wrap (nth P (64 * m + 4 * j) * 16777216 + nth P (64 * m + 4 * j + 1) * 65536 + nth P (64 * m + 4 * j + 2) * 256 + nth P (64 * m + 4 * j + 3)) = wv (wget (w64 b) j) := by
  rw [w64_low b j hj, hb, nth_part _ _ _ (by omega), nth_part _ _ _ (by omega), nth_part _ _ _ (by omega), nth_part _ _ _ (by omega), be4, wv_ofInt, wrap32]
  simp only [Nat.add_assoc]
  congr 1
  omega
theorem padT_bytes {t : List Int} (h : AreBytes t) : AreBytes (padT t) := fun x hx => by
  rcases List.mem_append.1 hx with e | e
  · exact h x e
  · exact tailP_bytes _ x e
set_option maxRecDepth 20000 in
set_option maxHeartbeats 4000000 in
theorem rshortC (t : List Int) (v : Value) (B : Nat) (w : World) (hlen : t.length ≤ 900000000) (htb : AreBytes t) (hr : RdK .u8 B t v w) : Calls Tryd.prog 44 #[v] w (Ret w (.agg (ints .u8 (dig t)))) := by
  obtain ⟨a_t, c_t, rfl, -⟩ := id hr
  refine enter 252 [(0, .slice a_t t.length c_t)] Tryd.func44 rfl rfl kj rfl ?_
  refine wp_seq_k fun K1 hK1 => ?_
  refine region_lit ?_
  refine seq_alloc (ints .u8 ([0, 0, 0, 0, 0, 0, 0, 0, 0, 0, 0, 0, 0, 0, 0, 0, 0, 0, 0, 0, 0, 0, 0, 0, 0, 0, 0, 0, 0, 0, 0, 0])) 26 2 rfl kj kj fun g2 W1 l2 e1 r2_1 => ?_
  have x1 : Ext w W1 := Ext.tr (Rely.Ext.refl w) e1
  have b2 : w.heap.size ≤ g2 := Nat.le_trans (Rely.Ext.refl w).size l2
  refine seq_nil ?_
  refine hK1 _ _ ?_
  try clear hK1 K1
  refine wp_seq_k fun K3 hK3 => ?_
  refine region_lit ?_
  refine seq_callR (fun v W' => (fun v W => ∃ g, v = .slice (some ⟨g, 0, none⟩) 8 8 ∧ W1.heap.size ≤ g ∧ W.heap[g]? = some (.cells (ints .u64 squaresI) 91)) v W' ∧ Ext W1 W') 55 #[] 23 rfl kj kj ((beginC _).mono (by rintro e w' ⟨v, rfl, e1, hv⟩; exact ⟨v, rfl, hv, e1⟩)) fun vv4 W2 hh4 => ?_
  obtain ⟨hv4, e2⟩ := hh4
  have x2 : Ext w W2 := Ext.tr x1 e2
  obtain ⟨gd5, rfl, ld5, rd5_2⟩ := hv4
  have b5 : w.heap.size ≤ gd5 := Nat.le_trans x1.size ld5
  refine seq_val (.slice (some ⟨gd5, 0, none⟩) 8 8) 3 rfl kj kj ?_
  refine seq_nil ?_
  refine hK3 _ _ ?_
  try clear hK3 K3
  refine wp_seq_k fun K6 hK6 => ?_
  refine region_lit ?_
  refine seq_alloc (ints .u32 ([0, 0, 0, 0, 0, 0, 0, 0])) 88 4 rfl kj kj fun g7 W3 l7 e3 r7_3 => ?_
  have x3 : Ext w W3 := Ext.tr x2 e3
  have b7 : w.heap.size ≤ g7 := Nat.le_trans x2.size l7
  refine seq_nil ?_
  refine hK6 _ _ ?_
  try clear hK6 K6
  refine wp_seq_k fun K8 hK8 => ?_
  refine wp_seq_k fun K9 hK9 => ?_
  refine region_lit ?_
  refine seq_val (.int .i64 0) 5 rfl kj kj ?_
  refine seq_nil ?_
  refine hK9 _ _ ?_
  try clear hK9 K9
  refine wp_block ?_
  refine wp_loop_rounds 9 ?_
  show Code.wp _ _ (Exit.then (Code.rounds _ _ _ 8) _) _ _
  refine wp_seq_k fun K10 hK10 => ?_
  refine wp_seq_k fun K11 hK11 => ?_
  refine region_lit ?_
  refine seq_val (.int .i64 0) 24 rfl kj kj ?_
  refine seq_val (.bool true) 25 rfl kj kj ?_
  refine seq_nil ?_
  refine hK11 _ _ ?_
  try clear hK11 K11
  refine cond_true kj ?_
  refine wp_skip ?_
  refine hK10 _ _ ?_
  try clear hK10 K10
  refine wp_seq_k fun K12 hK12 => ?_
  refine wp_block ?_
  refine region_lit ?_
  refine seq_val (.int .i64 0) 28 rfl kj kj ?_
  refine seq_val (.slice (some ⟨gd5, 0, none⟩) 8 8) 29 rfl kj kj ?_
  refine seq_val (.int .i64 0) 30 rfl kj kj ?_
  refine seq_val (.pointer (some ⟨gd5, 0, none⟩)) 31 rfl kj (run_indexS0 94 _ _ .i64 (0) gd5 8 8 91 rfl kj kj kj kj (by decide)) ?_
  have r5_3 := (row_ext rd5_2 e3)
  refine seq_val (.int .u64 (nth squaresI 0)) 32 rfl kj (run_loadC1 91 _ gd5 0 91 _ (.int .u64 (nth squaresI 0)) _ r5_3 rfl kj ((ints_get _ _ _ (Nat.lt_of_lt_of_eq (by decide) (show squaresI.length = 8 from rfl).symm)).trans (congrArg (fun z => some (Value.int .u64 z)) rfl)) kj) ?_
  refine seq_val (.int .u64 (nth squaresI 0 / 4294967296)) 33 rfl kj (run_eq (u := .int .u64 (IntKind.u64.wrap (Int.tdiv ((nth squaresI 0)) (4294967296)))) kj (congrArg (Value.int .u64) (show IntKind.u64.wrap (Int.tdiv (nth squaresI 0) 4294967296) = nth squaresI 0 / 4294967296 by decide +kernel))) ?_
  refine seq_val (.int .u32 (wv S0.a)) 34 rfl kj (run_eq (u := .int .u32 (IntKind.u32.wrap (nth squaresI 0 / 4294967296))) kj (congrArg (Value.int .u32) (show IntKind.u32.wrap (nth squaresI 0 / 4294967296) = wv S0.a by decide +kernel))) ?_
  refine seq_val (.pointer (some ⟨g7, 0, none⟩)) 35 rfl kj kj ?_
  refine seq_store g7 _ (ints .u32 ([(wv S0.a), 0, 0, 0, 0, 0, 0, 0])) 88 r7_3 rfl kj (run_storeI 84 _ _ g7 0 88 _ _ r7_3 rfl kj kj kj (show 0 < 8 by decide)) fun W4 p4 r7_4 => ?_
  have x4 : Ext w W4 := Puts.ext p4 x3 b7
  refine seq_nil ?_
  refine hK12 _ _ ?_
  try clear hK12 K12
  refine region_lit ?_
  refine seq_val (.int .i64 0) 26 rfl kj kj ?_
  refine seq_val (.int .i64 1) 27 rfl kj kj ?_
  refine seq_val (.int .i64 1) 5 rfl kj kj ?_
  refine seq_nil ?_
  show Code.rounds _ _ _ 8 _ _
  show Code.wp _ _ (Exit.then (Code.rounds _ _ _ 7) _) _ _
  refine wp_seq_k fun K13 hK13 => ?_
  refine wp_seq_k fun K14 hK14 => ?_
  refine region_lit ?_
  refine seq_val (.int .i64 1) 24 rfl kj kj ?_
  refine seq_val (.bool true) 25 rfl kj kj ?_
  refine seq_nil ?_
  refine hK14 _ _ ?_
  try clear hK14 K14
  refine cond_true kj ?_
  refine wp_skip ?_
  refine hK13 _ _ ?_
  try clear hK13 K13
  refine wp_seq_k fun K15 hK15 => ?_
  refine wp_block ?_
  refine region_lit ?_
  refine seq_val (.int .i64 1) 28 rfl kj kj ?_
  refine seq_val (.slice (some ⟨gd5, 0, none⟩) 8 8) 29 rfl kj kj ?_
  refine seq_val (.int .i64 1) 30 rfl kj kj ?_
  refine seq_val (.pointer (some ⟨gd5, 1, none⟩)) 31 rfl kj (run_indexS0 94 _ _ .i64 (1) gd5 8 8 91 rfl kj kj kj kj (by decide)) ?_
  have r5_4 := (Puts.row p4 r5_3 (ne_of_old rd5_2 l7))
  refine seq_val (.int .u64 (nth squaresI 1)) 32 rfl kj (run_loadC1 91 _ gd5 1 91 _ (.int .u64 (nth squaresI 1)) _ r5_4 rfl kj ((ints_get _ _ _ (Nat.lt_of_lt_of_eq (by decide) (show squaresI.length = 8 from rfl).symm)).trans (congrArg (fun z => some (Value.int .u64 z)) rfl)) kj) ?_
  refine seq_val (.int .u64 (nth squaresI 1 / 4294967296)) 33 rfl kj (run_eq (u := .int .u64 (IntKind.u64.wrap (Int.tdiv ((nth squaresI 1)) (4294967296)))) kj (congrArg (Value.int .u64) (show IntKind.u64.wrap (Int.tdiv (nth squaresI 1) 4294967296) = nth squaresI 1 / 4294967296 by decide +kernel))) ?_
  refine seq_val (.int .u32 (wv S0.b)) 34 rfl kj (run_eq (u := .int .u32 (IntKind.u32.wrap (nth squaresI 1 / 4294967296))) kj (congrArg (Value.int .u32) (show IntKind.u32.wrap (nth squaresI 1 / 4294967296) = wv S0.b by decide +kernel))) ?_
  refine seq_val (.pointer (some ⟨g7, 1, none⟩)) 35 rfl kj kj ?_
  refine seq_store g7 _ (ints .u32 ([(wv S0.a), (wv S0.b), 0, 0, 0, 0, 0, 0])) 88 r7_4 rfl kj (run_storeI 84 _ _ g7 1 88 _ _ r7_4 rfl kj kj kj (show 1 < 8 by decide)) fun W5 p5 r7_5 => ?_
  have x5 : Ext w W5 := Puts.ext p5 x4 b7
  refine seq_nil ?_
  refine hK15 _ _ ?_
  try clear hK15 K15
  refine region_lit ?_
  refine seq_val (.int .i64 1) 26 rfl kj kj ?_
  refine seq_val (.int .i64 2) 27 rfl kj kj ?_
  refine seq_val (.int .i64 2) 5 rfl kj kj ?_
  refine seq_nil ?_
  show Code.rounds _ _ _ 7 _ _
  show Code.wp _ _ (Exit.then (Code.rounds _ _ _ 6) _) _ _
  refine wp_seq_k fun K16 hK16 => ?_
  refine wp_seq_k fun K17 hK17 => ?_
  refine region_lit ?_
  refine seq_val (.int .i64 2) 24 rfl kj kj ?_
  refine seq_val (.bool true) 25 rfl kj kj ?_
  refine seq_nil ?_
  refine hK17 _ _ ?_
  try clear hK17 K17
  refine cond_true kj ?_
  refine wp_skip ?_
  refine hK16 _ _ ?_
  try clear hK16 K16
  refine wp_seq_k fun K18 hK18 => ?_
  refine wp_block ?_
  refine region_lit ?_
  refine seq_val (.int .i64 2) 28 rfl kj kj ?_
  refine seq_val (.slice (some ⟨gd5, 0, none⟩) 8 8) 29 rfl kj kj ?_
  refine seq_val (.int .i64 2) 30 rfl kj kj ?_
  refine seq_val (.pointer (some ⟨gd5, 2, none⟩)) 31 rfl kj (run_indexS0 94 _ _ .i64 (2) gd5 8 8 91 rfl kj kj kj kj (by decide)) ?_
  have r5_5 := (Puts.row p5 r5_4 (ne_of_old rd5_2 l7))
  refine seq_val (.int .u64 (nth squaresI 2)) 32 rfl kj (run_loadC1 91 _ gd5 2 91 _ (.int .u64 (nth squaresI 2)) _ r5_5 rfl kj ((ints_get _ _ _ (Nat.lt_of_lt_of_eq (by decide) (show squaresI.length = 8 from rfl).symm)).trans (congrArg (fun z => some (Value.int .u64 z)) rfl)) kj) ?_
  refine seq_val (.int .u64 (nth squaresI 2 / 4294967296)) 33 rfl kj (run_eq (u := .int .u64 (IntKind.u64.wrap (Int.tdiv ((nth squaresI 2)) (4294967296)))) kj (congrArg (Value.int .u64) (show IntKind.u64.wrap (Int.tdiv (nth squaresI 2) 4294967296) = nth squaresI 2 / 4294967296 by decide +kernel))) ?_
  refine seq_val (.int .u32 (wv S0.c)) 34 rfl kj (run_eq (u := .int .u32 (IntKind.u32.wrap (nth squaresI 2 / 4294967296))) kj (congrArg (Value.int .u32) (show IntKind.u32.wrap (nth squaresI 2 / 4294967296) = wv S0.c by decide +kernel))) ?_
  refine seq_val (.pointer (some ⟨g7, 2, none⟩)) 35 rfl kj kj ?_
  refine seq_store g7 _ (ints .u32 ([(wv S0.a), (wv S0.b), (wv S0.c), 0, 0, 0, 0, 0])) 88 r7_5 rfl kj (run_storeI 84 _ _ g7 2 88 _ _ r7_5 rfl kj kj kj (show 2 < 8 by decide)) fun W6 p6 r7_6 => ?_
  have x6 : Ext w W6 := Puts.ext p6 x5 b7
  refine seq_nil ?_
  refine hK18 _ _ ?_
  try clear hK18 K18
  refine region_lit ?_
  refine seq_val (.int .i64 2) 26 rfl kj kj ?_
  refine seq_val (.int .i64 3) 27 rfl kj kj ?_
  refine seq_val (.int .i64 3) 5 rfl kj kj ?_
  refine seq_nil ?_
  show Code.rounds _ _ _ 6 _ _
  show Code.wp _ _ (Exit.then (Code.rounds _ _ _ 5) _) _ _
  refine wp_seq_k fun K19 hK19 => ?_
  refine wp_seq_k fun K20 hK20 => ?_
  refine region_lit ?_
  refine seq_val (.int .i64 3) 24 rfl kj kj ?_
  refine seq_val (.bool true) 25 rfl kj kj ?_
  refine seq_nil ?_
  refine hK20 _ _ ?_
  try clear hK20 K20
  refine cond_true kj ?_
  refine wp_skip ?_
  refine hK19 _ _ ?_
  try clear hK19 K19
  refine wp_seq_k fun K21 hK21 => ?_
  refine wp_block ?_
  refine region_lit ?_
  refine seq_val (.int .i64 3) 28 rfl kj kj ?_
  refine seq_val (.slice (some ⟨gd5, 0, none⟩) 8 8) 29 rfl kj kj ?_
  refine seq_val (.int .i64 3) 30 rfl kj kj ?_
  refine seq_val (.pointer (some ⟨gd5, 3, none⟩)) 31 rfl kj (run_indexS0 94 _ _ .i64 (3) gd5 8 8 91 rfl kj kj kj kj (by decide)) ?_
  have r5_6 := (Puts.row p6 r5_5 (ne_of_old rd5_2 l7))
  refine seq_val (.int .u64 (nth squaresI 3)) 32 rfl kj (run_loadC1 91 _ gd5 3 91 _ (.int .u64 (nth squaresI 3)) _ r5_6 rfl kj ((ints_get _ _ _ (Nat.lt_of_lt_of_eq (by decide) (show squaresI.length = 8 from rfl).symm)).trans (congrArg (fun z => some (Value.int .u64 z)) rfl)) kj) ?_
  refine seq_val (.int .u64 (nth squaresI 3 / 4294967296)) 33 rfl kj (run_eq (u := .int .u64 (IntKind.u64.wrap (Int.tdiv ((nth squaresI 3)) (4294967296)))) kj (congrArg (Value.int .u64) (show IntKind.u64.wrap (Int.tdiv (nth squaresI 3) 4294967296) = nth squaresI 3 / 4294967296 by decide +kernel))) ?_
  refine seq_val (.int .u32 (wv S0.d)) 34 rfl kj (run_eq (u := .int .u32 (IntKind.u32.wrap (nth squaresI 3 / 4294967296))) kj (congrArg (Value.int .u32) (show IntKind.u32.wrap (nth squaresI 3 / 4294967296) = wv S0.d by decide +kernel))) ?_
  refine seq_val (.pointer (some ⟨g7, 3, none⟩)) 35 rfl kj kj ?_
  refine seq_store g7 _ (ints .u32 ([(wv S0.a), (wv S0.b), (wv S0.c), (wv S0.d), 0, 0, 0, 0])) 88 r7_6 rfl kj (run_storeI 84 _ _ g7 3 88 _ _ r7_6 rfl kj kj kj (show 3 < 8 by decide)) fun W7 p7 r7_7 => ?_
  have x7 : Ext w W7 := Puts.ext p7 x6 b7
  refine seq_nil ?_
  refine hK21 _ _ ?_
  try clear hK21 K21
  refine region_lit ?_
  refine seq_val (.int .i64 3) 26 rfl kj kj ?_
  refine seq_val (.int .i64 4) 27 rfl kj kj ?_
  refine seq_val (.int .i64 4) 5 rfl kj kj ?_
  refine seq_nil ?_
  show Code.rounds _ _ _ 5 _ _
  show Code.wp _ _ (Exit.then (Code.rounds _ _ _ 4) _) _ _
  refine wp_seq_k fun K22 hK22 => ?_
  refine wp_seq_k fun K23 hK23 => ?_
  refine region_lit ?_
  refine seq_val (.int .i64 4) 24 rfl kj kj ?_
  refine seq_val (.bool true) 25 rfl kj kj ?_
  refine seq_nil ?_
  refine hK23 _ _ ?_
  try clear hK23 K23
  refine cond_true kj ?_
  refine wp_skip ?_
  refine hK22 _ _ ?_
  try clear hK22 K22
  refine wp_seq_k fun K24 hK24 => ?_
  refine wp_block ?_
  refine region_lit ?_
  refine seq_val (.int .i64 4) 28 rfl kj kj ?_
  refine seq_val (.slice (some ⟨gd5, 0, none⟩) 8 8) 29 rfl kj kj ?_
  refine seq_val (.int .i64 4) 30 rfl kj kj ?_
  refine seq_val (.pointer (some ⟨gd5, 4, none⟩)) 31 rfl kj (run_indexS0 94 _ _ .i64 (4) gd5 8 8 91 rfl kj kj kj kj (by decide)) ?_
  have r5_7 := (Puts.row p7 r5_6 (ne_of_old rd5_2 l7))
  refine seq_val (.int .u64 (nth squaresI 4)) 32 rfl kj (run_loadC1 91 _ gd5 4 91 _ (.int .u64 (nth squaresI 4)) _ r5_7 rfl kj ((ints_get _ _ _ (Nat.lt_of_lt_of_eq (by decide) (show squaresI.length = 8 from rfl).symm)).trans (congrArg (fun z => some (Value.int .u64 z)) rfl)) kj) ?_
  refine seq_val (.int .u64 (nth squaresI 4 / 4294967296)) 33 rfl kj (run_eq (u := .int .u64 (IntKind.u64.wrap (Int.tdiv ((nth squaresI 4)) (4294967296)))) kj (congrArg (Value.int .u64) (show IntKind.u64.wrap (Int.tdiv (nth squaresI 4) 4294967296) = nth squaresI 4 / 4294967296 by decide +kernel))) ?_
  refine seq_val (.int .u32 (wv S0.e)) 34 rfl kj (run_eq (u := .int .u32 (IntKind.u32.wrap (nth squaresI 4 / 4294967296))) kj (congrArg (Value.int .u32) (show IntKind.u32.wrap (nth squaresI 4 / 4294967296) = wv S0.e by decide +kernel))) ?_
  refine seq_val (.pointer (some ⟨g7, 4, none⟩)) 35 rfl kj kj ?_
  refine seq_store g7 _ (ints .u32 ([(wv S0.a), (wv S0.b), (wv S0.c), (wv S0.d), (wv S0.e), 0, 0, 0])) 88 r7_7 rfl kj (run_storeI 84 _ _ g7 4 88 _ _ r7_7 rfl kj kj kj (show 4 < 8 by decide)) fun W8 p8 r7_8 => ?_
  have x8 : Ext w W8 := Puts.ext p8 x7 b7
  refine seq_nil ?_
  refine hK24 _ _ ?_
  try clear hK24 K24
  refine region_lit ?_
  refine seq_val (.int .i64 4) 26 rfl kj kj ?_
  refine seq_val (.int .i64 5) 27 rfl kj kj ?_
  refine seq_val (.int .i64 5) 5 rfl kj kj ?_
  refine seq_nil ?_
  show Code.rounds _ _ _ 4 _ _
  show Code.wp _ _ (Exit.then (Code.rounds _ _ _ 3) _) _ _
  refine wp_seq_k fun K25 hK25 => ?_
  refine wp_seq_k fun K26 hK26 => ?_
  refine region_lit ?_
  refine seq_val (.int .i64 5) 24 rfl kj kj ?_
  refine seq_val (.bool true) 25 rfl kj kj ?_
  refine seq_nil ?_
  refine hK26 _ _ ?_
  try clear hK26 K26
  refine cond_true kj ?_
  refine wp_skip ?_
  refine hK25 _ _ ?_
  try clear hK25 K25
  refine wp_seq_k fun K27 hK27 => ?_
  refine wp_block ?_
  refine region_lit ?_
  refine seq_val (.int .i64 5) 28 rfl kj kj ?_
  refine seq_val (.slice (some ⟨gd5, 0, none⟩) 8 8) 29 rfl kj kj ?_
  refine seq_val (.int .i64 5) 30 rfl kj kj ?_
  refine seq_val (.pointer (some ⟨gd5, 5, none⟩)) 31 rfl kj (run_indexS0 94 _ _ .i64 (5) gd5 8 8 91 rfl kj kj kj kj (by decide)) ?_
  have r5_8 := (Puts.row p8 r5_7 (ne_of_old rd5_2 l7))
  refine seq_val (.int .u64 (nth squaresI 5)) 32 rfl kj (run_loadC1 91 _ gd5 5 91 _ (.int .u64 (nth squaresI 5)) _ r5_8 rfl kj ((ints_get _ _ _ (Nat.lt_of_lt_of_eq (by decide) (show squaresI.length = 8 from rfl).symm)).trans (congrArg (fun z => some (Value.int .u64 z)) rfl)) kj) ?_
  refine seq_val (.int .u64 (nth squaresI 5 / 4294967296)) 33 rfl kj (run_eq (u := .int .u64 (IntKind.u64.wrap (Int.tdiv ((nth squaresI 5)) (4294967296)))) kj (congrArg (Value.int .u64) (show IntKind.u64.wrap (Int.tdiv (nth squaresI 5) 4294967296) = nth squaresI 5 / 4294967296 by decide +kernel))) ?_
  refine seq_val (.int .u32 (wv S0.f)) 34 rfl kj (run_eq (u := .int .u32 (IntKind.u32.wrap (nth squaresI 5 / 4294967296))) kj (congrArg (Value.int .u32) (show IntKind.u32.wrap (nth squaresI 5 / 4294967296) = wv S0.f by decide +kernel))) ?_
  refine seq_val (.pointer (some ⟨g7, 5, none⟩)) 35 rfl kj kj ?_
  refine seq_store g7 _ (ints .u32 ([(wv S0.a), (wv S0.b), (wv S0.c), (wv S0.d), (wv S0.e), (wv S0.f), 0, 0])) 88 r7_8 rfl kj (run_storeI 84 _ _ g7 5 88 _ _ r7_8 rfl kj kj kj (show 5 < 8 by decide)) fun W9 p9 r7_9 => ?_
  have x9 : Ext w W9 := Puts.ext p9 x8 b7
  refine seq_nil ?_
  refine hK27 _ _ ?_
  try clear hK27 K27
  refine region_lit ?_
  refine seq_val (.int .i64 5) 26 rfl kj kj ?_
  refine seq_val (.int .i64 6) 27 rfl kj kj ?_
  refine seq_val (.int .i64 6) 5 rfl kj kj ?_
  refine seq_nil ?_
  show Code.rounds _ _ _ 3 _ _
  show Code.wp _ _ (Exit.then (Code.rounds _ _ _ 2) _) _ _
  refine wp_seq_k fun K28 hK28 => ?_
  refine wp_seq_k fun K29 hK29 => ?_
  refine region_lit ?_
  refine seq_val (.int .i64 6) 24 rfl kj kj ?_
  refine seq_val (.bool true) 25 rfl kj kj ?_
  refine seq_nil ?_
  refine hK29 _ _ ?_
  try clear hK29 K29
  refine cond_true kj ?_
  refine wp_skip ?_
  refine hK28 _ _ ?_
  try clear hK28 K28
  refine wp_seq_k fun K30 hK30 => ?_
  refine wp_block ?_
  refine region_lit ?_
  refine seq_val (.int .i64 6) 28 rfl kj kj ?_
  refine seq_val (.slice (some ⟨gd5, 0, none⟩) 8 8) 29 rfl kj kj ?_
  refine seq_val (.int .i64 6) 30 rfl kj kj ?_
  refine seq_val (.pointer (some ⟨gd5, 6, none⟩)) 31 rfl kj (run_indexS0 94 _ _ .i64 (6) gd5 8 8 91 rfl kj kj kj kj (by decide)) ?_
  have r5_9 := (Puts.row p9 r5_8 (ne_of_old rd5_2 l7))
  refine seq_val (.int .u64 (nth squaresI 6)) 32 rfl kj (run_loadC1 91 _ gd5 6 91 _ (.int .u64 (nth squaresI 6)) _ r5_9 rfl kj ((ints_get _ _ _ (Nat.lt_of_lt_of_eq (by decide) (show squaresI.length = 8 from rfl).symm)).trans (congrArg (fun z => some (Value.int .u64 z)) rfl)) kj) ?_
  refine seq_val (.int .u64 (nth squaresI 6 / 4294967296)) 33 rfl kj (run_eq (u := .int .u64 (IntKind.u64.wrap (Int.tdiv ((nth squaresI 6)) (4294967296)))) kj (congrArg (Value.int .u64) (show IntKind.u64.wrap (Int.tdiv (nth squaresI 6) 4294967296) = nth squaresI 6 / 4294967296 by decide +kernel))) ?_
  refine seq_val (.int .u32 (wv S0.g)) 34 rfl kj (run_eq (u := .int .u32 (IntKind.u32.wrap (nth squaresI 6 / 4294967296))) kj (congrArg (Value.int .u32) (show IntKind.u32.wrap (nth squaresI 6 / 4294967296) = wv S0.g by decide +kernel))) ?_
  refine seq_val (.pointer (some ⟨g7, 6, none⟩)) 35 rfl kj kj ?_
  refine seq_store g7 _ (ints .u32 ([(wv S0.a), (wv S0.b), (wv S0.c), (wv S0.d), (wv S0.e), (wv S0.f), (wv S0.g), 0])) 88 r7_9 rfl kj (run_storeI 84 _ _ g7 6 88 _ _ r7_9 rfl kj kj kj (show 6 < 8 by decide)) fun W10 p10 r7_10 => ?_
  have x10 : Ext w W10 := Puts.ext p10 x9 b7
  refine seq_nil ?_
  refine hK30 _ _ ?_
  try clear hK30 K30
  refine region_lit ?_
  refine seq_val (.int .i64 6) 26 rfl kj kj ?_
  refine seq_val (.int .i64 7) 27 rfl kj kj ?_
  refine seq_val (.int .i64 7) 5 rfl kj kj ?_
  refine seq_nil ?_
  show Code.rounds _ _ _ 2 _ _
  show Code.wp _ _ (Exit.then (Code.rounds _ _ _ 1) _) _ _
  refine wp_seq_k fun K31 hK31 => ?_
  refine wp_seq_k fun K32 hK32 => ?_
  refine region_lit ?_
  refine seq_val (.int .i64 7) 24 rfl kj kj ?_
  refine seq_val (.bool true) 25 rfl kj kj ?_
  refine seq_nil ?_
  refine hK32 _ _ ?_
  try clear hK32 K32
  refine cond_true kj ?_
  refine wp_skip ?_
  refine hK31 _ _ ?_
  try clear hK31 K31
  refine wp_seq_k fun K33 hK33 => ?_
  refine wp_block ?_
  refine region_lit ?_
  refine seq_val (.int .i64 7) 28 rfl kj kj ?_
  refine seq_val (.slice (some ⟨gd5, 0, none⟩) 8 8) 29 rfl kj kj ?_
  refine seq_val (.int .i64 7) 30 rfl kj kj ?_
  refine seq_val (.pointer (some ⟨gd5, 7, none⟩)) 31 rfl kj (run_indexS0 94 _ _ .i64 (7) gd5 8 8 91 rfl kj kj kj kj (by decide)) ?_
  have r5_10 := (Puts.row p10 r5_9 (ne_of_old rd5_2 l7))
  refine seq_val (.int .u64 (nth squaresI 7)) 32 rfl kj (run_loadC1 91 _ gd5 7 91 _ (.int .u64 (nth squaresI 7)) _ r5_10 rfl kj ((ints_get _ _ _ (Nat.lt_of_lt_of_eq (by decide) (show squaresI.length = 8 from rfl).symm)).trans (congrArg (fun z => some (Value.int .u64 z)) rfl)) kj) ?_
  refine seq_val (.int .u64 (nth squaresI 7 / 4294967296)) 33 rfl kj (run_eq (u := .int .u64 (IntKind.u64.wrap (Int.tdiv ((nth squaresI 7)) (4294967296)))) kj (congrArg (Value.int .u64) (show IntKind.u64.wrap (Int.tdiv (nth squaresI 7) 4294967296) = nth squaresI 7 / 4294967296 by decide +kernel))) ?_
  refine seq_val (.int .u32 (wv S0.h)) 34 rfl kj (run_eq (u := .int .u32 (IntKind.u32.wrap (nth squaresI 7 / 4294967296))) kj (congrArg (Value.int .u32) (show IntKind.u32.wrap (nth squaresI 7 / 4294967296) = wv S0.h by decide +kernel))) ?_
  refine seq_val (.pointer (some ⟨g7, 7, none⟩)) 35 rfl kj kj ?_
  refine seq_store g7 _ (ints .u32 ([(wv S0.a), (wv S0.b), (wv S0.c), (wv S0.d), (wv S0.e), (wv S0.f), (wv S0.g), (wv S0.h)])) 88 r7_10 rfl kj (run_storeI 84 _ _ g7 7 88 _ _ r7_10 rfl kj kj kj (show 7 < 8 by decide)) fun W11 p11 r7_11 => ?_
  have x11 : Ext w W11 := Puts.ext p11 x10 b7
  refine seq_nil ?_
  refine hK33 _ _ ?_
  try clear hK33 K33
  refine region_lit ?_
  refine seq_val (.int .i64 7) 26 rfl kj kj ?_
  refine seq_val (.int .i64 8) 27 rfl kj kj ?_
  refine seq_val (.int .i64 8) 5 rfl kj kj ?_
  refine seq_nil ?_
  show Code.rounds _ _ _ 1 _ _
  show Code.wp _ _ (Exit.then (Code.rounds _ _ _ 0) _) _ _
  refine wp_seq_k fun K34 hK34 => ?_
  refine wp_seq_k fun K35 hK35 => ?_
  refine region_lit ?_
  refine seq_val (.int .i64 8) 24 rfl kj kj ?_
  refine seq_val (.bool false) 25 rfl kj kj ?_
  refine seq_nil ?_
  refine hK35 _ _ ?_
  try clear hK35 K35
  refine cond_false kj ?_
  refine wp_exit ?_
  refine hK8 _ _ ?_
  try clear hK8 K8
  refine wp_seq_k fun K36 hK36 => ?_
  refine region_lit ?_
  refine seq_callR (fun v W' => (OwnN .u32 84 W11.heap.size (KK.map wv)) v W' ∧ Ext W11 W') 56 #[] 36 rfl kj kj ((shortsC _).mono (by rintro e w' ⟨v, rfl, e1, hv⟩; exact ⟨v, rfl, hv, e1⟩)) fun vv37 W12 hh37 => ?_
  obtain ⟨hv37, e12⟩ := hh37
  have x12 : Ext w W12 := Ext.tr x11 e12
  obtain ⟨am38, cm38, rfl, -⟩ := id (OwnN.rd hv37)
  have nb38_7 : (.slice am38 ((KK.map wv).length) cm38 : Value).ownBlock ≠ some g7 := OwnN.nb hv37 (row_lt r7_11)
  refine seq_val (.slice am38 ((KK.map wv).length) cm38) 6 rfl kj kj ?_
  refine seq_nil ?_
  refine hK36 _ _ ?_
  try clear hK36 K36
  refine wp_seq_k fun K39 hK39 => ?_
  refine region_lit ?_
  refine seq_val (.slice a_t t.length c_t) 37 rfl kj kj ?_
  have r7_12 := (row_ext r7_11 e12)
  refine seq_callR (fun v W' => (OwnN .u8 5 W12.heap.size (padT t)) v W' ∧ Ext W12 W') 57 #[.slice a_t t.length c_t, .int .i64 64, .int .i64 8] 38 rfl kj kj ((padC t _ _ _ hlen (RdK.ext hr x12)).mono (by rintro e w' ⟨v, rfl, e1, hv⟩; exact ⟨v, rfl, hv, e1⟩)) fun vv40 W13 hh40 => ?_
  obtain ⟨hv40, e13⟩ := hh40
  have x13 : Ext w W13 := Ext.tr x12 e13
  obtain ⟨am41, cm41, rfl, -⟩ := id (OwnN.rd hv40)
  have nb41_7 : (.slice am41 ((padT t).length) cm41 : Value).ownBlock ≠ some g7 := OwnN.nb hv40 (row_lt r7_12)
  refine seq_val (.slice am41 ((padT t).length) cm41) 7 rfl kj kj ?_
  refine seq_nil ?_
  refine hK39 _ _ ?_
  try clear hK39 K39
  refine wp_seq_k fun K42 hK42 => ?_
  refine wp_seq_k fun K43 hK43 => ?_
  refine region_lit ?_
  refine seq_val (.int .i64 0) 8 rfl kj kj ?_
  refine seq_nil ?_
  refine hK43 _ _ ?_
  try clear hK43 K43
  refine wp_block ?_
  obtain ⟨q, hq⟩ := padT_64 t
  have hPl : (padT t).length ≤ 900000200 := by rw [padT, List.length_append, tailP_len]; unfold fillN; omega
  have hPb : AreBytes (padT t) := padT_bytes htb
  have r7_13 := (row_ext r7_12 e13)
  refine loop_auto (fun (s1 : Nat) => [(2, .pointer (some ⟨g2, 0, none⟩)), (4, .pointer (some ⟨g7, 0, none⟩)), (6, .slice am38 ((KK.map wv).length) cm38), (7, .slice am41 ((padT t).length) cm41), (8, .int .i64 ((64 * s1 : Nat) : Int))]) (fun (s1 : Nat) W => (s1 ≤ q) ∧ (W.heap[g7]? = some (.cells (ints .u32 ([wv (absorb S0 (padT t) s1).a, wv (absorb S0 (padT t) s1).b, wv (absorb S0 (padT t) s1).c, wv (absorb S0 (padT t) s1).d, wv (absorb S0 (padT t) s1).e, wv (absorb S0 (padT t) s1).f, wv (absorb S0 (padT t) s1).g, wv (absorb S0 (padT t) s1).h])) 88)) ∧ (Keeps [g7] W13 W) ∧ (Ext w W)) (fun (s1 : Nat) => q - s1) 0 ⟨rfl, rfl, rfl, rfl, rfl, trivial⟩ ⟨(Nat.zero_le _), r7_13, (Keeps.refl [g7] W13), x13⟩ fun s1 X1 V1 hI1 => ?_
  obtain ⟨m, hs1⟩ : ∃ z, z = s1 := ⟨_, rfl⟩
  subst hs1
  obtain ⟨hm, q7_1, kk1, xx1⟩ := hI1
  replace hm : m ≤ q := hm
  replace q7_1 : V1.heap[g7]? = some (.cells (ints .u32 ([wv (absorb S0 (padT t) m).a, wv (absorb S0 (padT t) m).b, wv (absorb S0 (padT t) m).c, wv (absorb S0 (padT t) m).d, wv (absorb S0 (padT t) m).e, wv (absorb S0 (padT t) m).f, wv (absorb S0 (padT t) m).g, wv (absorb S0 (padT t) m).h])) 88) := q7_1
  replace kk1 : Keeps [g7] W13 V1 := kk1
  replace xx1 : Ext w V1 := xx1
  have q14 := kk1
  refine wp_seq_k fun K44 hK44 => ?_
  refine wp_seq_k fun K45 hK45 => ?_
  refine region_lit ?_
  refine seq_val (.int .i64 ((64 * m : Nat) : Int)) 39 rfl kj kj ?_
  refine seq_val (.slice am41 ((padT t).length) cm41) 40 rfl kj kj ?_
  refine seq_val (.int .i64 (((padT t).length : Nat) : Int)) 41 rfl kj kj ?_
  refine seq_val (.bool (decide (m < q))) 42 rfl kj (run_eq (u := .bool (decide (((64 * m : Nat) : Int) < (((padT t).length : Nat) : Int)))) kj (congrArg Value.bool (by rw [hq]; exact decide_eq_decide.2 (by omega)))) ?_
  refine seq_nil ?_
  refine hK45 _ _ ?_
  try clear hK45 K45
  refine cond_split (t := decide (m < q)) kj (fun c46 => ?_) (fun c46 => ?_)
  · skip
    have hlt42 : m < q := by have := of_decide_eq_true c46; omega
    obtain ⟨b, hb⟩ : ∃ z, z = ((padT t).drop (64 * m)).take 64 := ⟨_, rfl⟩
    obtain ⟨s, hs⟩ : ∃ z, z = absorb S0 (padT t) m := ⟨_, rfl⟩
    have r7_14_47 : V1.heap[g7]? = some (.cells (ints .u32 ([wv s.a, wv s.b, wv s.c, wv s.d, wv s.e, wv s.f, wv s.g, wv s.h])) 88) := row_eq q7_1 (by rw [hs])
    refine wp_skip ?_
    refine hK44 _ _ ?_
    try clear hK44 K44
    refine wp_seq_k fun K48 hK48 => ?_
    refine wp_block ?_
    refine wp_seq_k fun K49 hK49 => ?_
    refine region_lit ?_
    refine seq_val (.slice none 0 0) 9 rfl kj kj ?_
    refine seq_nil ?_
    refine hK49 _ _ ?_
    try clear hK49 K49
    refine wp_seq_k fun K50 hK50 => ?_
    refine wp_seq_k fun K51 hK51 => ?_
    refine region_lit ?_
    refine seq_val (.int .i64 0) 10 rfl kj kj ?_
    refine seq_nil ?_
    refine hK51 _ _ ?_
    try clear hK51 K51
    refine wp_block ?_
    refine loop_auto (fun (s2 : Nat × Value) => [(2, .pointer (some ⟨g2, 0, none⟩)), (4, .pointer (some ⟨g7, 0, none⟩)), (6, .slice am38 ((KK.map wv).length) cm38), (7, .slice am41 ((padT t).length) cm41), (8, .int .i64 ((64 * m : Nat) : Int)), (9, s2.2), (10, .int .i64 ((s2.1 : Nat) : Int))]) (fun (s2 : Nat × Value) W => (s2.1 ≤ 16) ∧ (OwnN .u32 84 V1.heap.size (((w64 b).map wv).take s2.1) s2.2 W) ∧ (Ext V1 W) ∧ (Ext w W)) (fun (s2 : Nat × Value) => 16 - s2.1) (0, (.slice none 0 0)) ⟨rfl, rfl, rfl, rfl, rfl, rfl, rfl, trivial⟩ ⟨(Nat.zero_le _), (ownN_nil _ _ _ _), (Rely.Ext.refl V1), xx1⟩ fun s2 X2 V2 hI2 => ?_
    obtain ⟨j, u⟩ := s2
    obtain ⟨hj, hu, kk2, xx2⟩ := hI2
    replace hj : j ≤ 16 := hj
    replace hu : OwnN .u32 84 V1.heap.size (((w64 b).map wv).take j) u V2 := hu
    replace kk2 : Ext V1 V2 := kk2
    replace xx2 : Ext w V2 := xx2
    have e15 := kk2
    have f53_14 := (OwnN.keepsL hv40 q14 (nb_cons nb41_7 nb_nil))
    have f54_15 := (f53_14.ext e15)
    have hnp_52 : (padT t).length = 64 * q := hq
    obtain ⟨gcp_52, ocp_52, hap_52, hlp_52, hcp_52⟩ := rdK_open (OwnN.rd f54_15) (by rw [hnp_52]; omega)
    refine wp_seq_k fun K55 hK55 => ?_
    refine wp_seq_k fun K56 hK56 => ?_
    refine region_lit ?_
    refine seq_val (.int .i64 ((j : Nat) : Int)) 45 rfl kj kj ?_
    refine seq_val (.bool (decide (((j : Nat) : Int) < 16))) 46 rfl kj kj ?_
    refine seq_nil ?_
    refine hK56 _ _ ?_
    try clear hK56 K56
    refine cond_split (t := decide (((j : Nat) : Int) < 16)) kj (fun c57 => ?_) (fun c57 => ?_)
    · skip
      have hlt46 : j < 16 := by have := of_decide_eq_true c57; omega
      refine wp_skip ?_
      refine hK55 _ _ ?_
      try clear hK55 K55
      refine wp_seq_k fun K58 hK58 => ?_
      refine wp_block ?_
      refine wp_seq_k fun K59 hK59 => ?_
      refine region_lit ?_
      refine seq_val (.int .i64 ((64 * m : Nat) : Int)) 49 rfl kj kj ?_
      refine seq_val (.int .i64 ((j : Nat) : Int)) 50 rfl kj kj ?_
      refine seq_val (.int .i64 ((4 * j : Nat) : Int)) 51 rfl kj (run_eq (u := .int .i64 (IntKind.i64.wrap (4 * ((j : Nat) : Int)))) kj (congrArg (Value.int .i64) (i64n _ _ (by omega) (by omega)))) ?_
      refine seq_val (.int .i64 (((64 * m) + (4 * j) : Nat) : Int)) 52 rfl kj (run_eq (u := .int .i64 (IntKind.i64.wrap (((64 * m : Nat) : Int) + ((4 * j : Nat) : Int)))) kj (congrArg (Value.int .i64) (i64n _ _ (by omega) (by omega)))) ?_
      refine seq_val (.int .i64 (((64 * m) + (4 * j) : Nat) : Int)) 11 rfl kj kj ?_
      refine seq_nil ?_
      refine hK59 _ _ ?_
      try clear hK59 K59
      refine any_regionE 31 [⟨none, [(9, none)]⟩, ⟨none, [(7, none)]⟩, ⟨none, [(11, none)]⟩, ⟨none, [(54, some 1), (55, some 2)]⟩, ⟨none, [(56, some 3)]⟩, ⟨none, [(57, some 4)]⟩, ⟨none, [(58, some 5)]⟩, ⟨none, [(7, none)]⟩, ⟨none, [(11, none)]⟩, ⟨none, [(61, some 8)]⟩, ⟨none, [(60, some 7), (62, some 9)]⟩, ⟨none, [(63, some 10)]⟩, ⟨none, [(64, some 11)]⟩, ⟨none, [(65, some 12)]⟩, ⟨none, [(59, some 6), (66, some 13)]⟩, ⟨none, [(7, none)]⟩, ⟨none, [(11, none)]⟩, ⟨none, [(69, some 16)]⟩, ⟨none, [(68, some 15), (70, some 17)]⟩, ⟨none, [(71, some 18)]⟩, ⟨none, [(72, some 19)]⟩, ⟨none, [(73, some 20)]⟩, ⟨none, [(67, some 14), (74, some 21)]⟩, ⟨none, [(7, none)]⟩, ⟨none, [(11, none)]⟩, ⟨none, [(77, some 24)]⟩, ⟨none, [(76, some 23), (78, some 25)]⟩, ⟨none, [(79, some 26)]⟩, ⟨none, [(80, some 27)]⟩, ⟨none, [(75, some 22), (81, some 28)]⟩, ⟨none, [(82, some 29)]⟩] kj kj fun F hF => ?_
      refine e_val (rl_ext _) (u) kj kj (fun W => by kernel_rfl) ?_
      refine e_val (rl_ext _) (.slice am41 ((padT t).length) cm41) kj kj (fun W => by kernel_rfl) ?_
      refine e_val (rl_ext _) (.int .i64 (((64 * m) + (4 * j) : Nat) : Int)) kj kj (fun W => by kernel_rfl) ?_
      refine e_val (rl_ext _) (.pointer (some ⟨gcp_52, ocp_52 + ((64 * m) + (4 * j)), none⟩)) kj kj (fun W => (run_indexA 22 _ _ .i64 ((64 * m) + (4 * j)) gcp_52 ocp_52 ((padT t).length) cm41 5 am41 _ hap_52 rfl rfl kj kj kj kj (Nat.lt_of_lt_of_eq (show (64 * m) + (4 * j) < 64 * q by omega) hnp_52.symm))) ?_
      refine e_read (rl_ext _) (.int .u8 (nth (padT t) (((64 * m) + (4 * j))))) kj kj (fun W hR => (run_loadCell 5 _ _ (.int .u8 (nth (padT t) (((64 * m) + (4 * j))))) ((Below.cell (Rely.Ext.trans (ext_drew _) hR) hlp_52).trans (hcp_52 ((64 * m) + (4 * j)) (Nat.lt_of_lt_of_eq (show (64 * m) + (4 * j) < 64 * q by omega) hnp_52.symm))) rfl kj kj)) ?_
      refine e_val (rl_ext _) (.int .u32 (nth (padT t) (64 * m + 4 * j))) kj kj (fun W => (run_eq (u := .int .u32 (IntKind.u32.wrap (nth (padT t) (((64 * m) + (4 * j)))))) kj (congrArg (Value.int .u32) (u32s _ (by have := hPb.nth (64 * m + 4 * j); omega))))) ?_
      refine e_val (rl_ext _) (.int .u32 (nth (padT t) (64 * m + 4 * j) * 16777216)) kj kj (fun W => (run_eq (u := .int .u32 (IntKind.u32.wrap ((nth (padT t) (64 * m + 4 * j)) * 16777216))) kj (congrArg (Value.int .u32) (u32s _ (by have := hPb.nth (64 * m + 4 * j); omega))))) ?_
      refine e_val (rl_ext _) (.slice am41 ((padT t).length) cm41) kj kj (fun W => by kernel_rfl) ?_
      refine e_val (rl_ext _) (.int .i64 (((64 * m) + (4 * j) : Nat) : Int)) kj kj (fun W => by kernel_rfl) ?_
      refine e_val (rl_ext _) (.int .i64 ((((64 * m) + (4 * j)) + 1 : Nat) : Int)) kj kj (fun W => (run_eq (u := .int .i64 (IntKind.i64.wrap ((((64 * m) + (4 * j) : Nat) : Int) + 1))) kj (congrArg (Value.int .i64) (i64n _ _ (by omega) (by omega))))) ?_
      refine e_val (rl_ext _) (.pointer (some ⟨gcp_52, ocp_52 + (((64 * m) + (4 * j)) + 1), none⟩)) kj kj (fun W => (run_indexA 22 _ _ .i64 (((64 * m) + (4 * j)) + 1) gcp_52 ocp_52 ((padT t).length) cm41 5 am41 _ hap_52 rfl rfl kj kj kj kj (Nat.lt_of_lt_of_eq (show ((64 * m) + (4 * j)) + 1 < 64 * q by omega) hnp_52.symm))) ?_
      refine e_read (rl_ext _) (.int .u8 (nth (padT t) ((((64 * m) + (4 * j)) + 1)))) kj kj (fun W hR => (run_loadCell 5 _ _ (.int .u8 (nth (padT t) ((((64 * m) + (4 * j)) + 1)))) ((Below.cell (Rely.Ext.trans (ext_drew _) hR) hlp_52).trans (hcp_52 (((64 * m) + (4 * j)) + 1) (Nat.lt_of_lt_of_eq (show ((64 * m) + (4 * j)) + 1 < 64 * q by omega) hnp_52.symm))) rfl kj kj)) ?_
      refine e_val (rl_ext _) (.int .u32 (nth (padT t) (64 * m + 4 * j + 1))) kj kj (fun W => (run_eq (u := .int .u32 (IntKind.u32.wrap (nth (padT t) ((((64 * m) + (4 * j)) + 1))))) kj (congrArg (Value.int .u32) (u32s _ (by have := hPb.nth (64 * m + 4 * j + 1); omega))))) ?_
      refine e_val (rl_ext _) (.int .u32 (nth (padT t) (64 * m + 4 * j + 1) * 65536)) kj kj (fun W => (run_eq (u := .int .u32 (IntKind.u32.wrap ((nth (padT t) (64 * m + 4 * j + 1)) * 65536))) kj (congrArg (Value.int .u32) (u32s _ (by have := hPb.nth (64 * m + 4 * j + 1); omega))))) ?_
      refine e_val (rl_ext _) (.int .u32 (nth (padT t) (64 * m + 4 * j) * 16777216 + nth (padT t) (64 * m + 4 * j + 1) * 65536)) kj kj (fun W => (run_eq (u := .int .u32 (IntKind.u32.wrap ((nth (padT t) (64 * m + 4 * j) * 16777216) + (nth (padT t) (64 * m + 4 * j + 1) * 65536)))) kj (congrArg (Value.int .u32) (u32s _ (by have := hPb.nth (64 * m + 4 * j); have := hPb.nth (64 * m + 4 * j + 1); omega))))) ?_
      refine e_val (rl_ext _) (.slice am41 ((padT t).length) cm41) kj kj (fun W => by kernel_rfl) ?_
      refine e_val (rl_ext _) (.int .i64 (((64 * m) + (4 * j) : Nat) : Int)) kj kj (fun W => by kernel_rfl) ?_
      refine e_val (rl_ext _) (.int .i64 ((((64 * m) + (4 * j)) + 2 : Nat) : Int)) kj kj (fun W => (run_eq (u := .int .i64 (IntKind.i64.wrap ((((64 * m) + (4 * j) : Nat) : Int) + 2))) kj (congrArg (Value.int .i64) (i64n _ _ (by omega) (by omega))))) ?_
      refine e_val (rl_ext _) (.pointer (some ⟨gcp_52, ocp_52 + (((64 * m) + (4 * j)) + 2), none⟩)) kj kj (fun W => (run_indexA 22 _ _ .i64 (((64 * m) + (4 * j)) + 2) gcp_52 ocp_52 ((padT t).length) cm41 5 am41 _ hap_52 rfl rfl kj kj kj kj (Nat.lt_of_lt_of_eq (show ((64 * m) + (4 * j)) + 2 < 64 * q by omega) hnp_52.symm))) ?_
      refine e_read (rl_ext _) (.int .u8 (nth (padT t) ((((64 * m) + (4 * j)) + 2)))) kj kj (fun W hR => (run_loadCell 5 _ _ (.int .u8 (nth (padT t) ((((64 * m) + (4 * j)) + 2)))) ((Below.cell (Rely.Ext.trans (ext_drew _) hR) hlp_52).trans (hcp_52 (((64 * m) + (4 * j)) + 2) (Nat.lt_of_lt_of_eq (show ((64 * m) + (4 * j)) + 2 < 64 * q by omega) hnp_52.symm))) rfl kj kj)) ?_
      refine e_val (rl_ext _) (.int .u32 (nth (padT t) (64 * m + 4 * j + 2))) kj kj (fun W => (run_eq (u := .int .u32 (IntKind.u32.wrap (nth (padT t) ((((64 * m) + (4 * j)) + 2))))) kj (congrArg (Value.int .u32) (u32s _ (by have := hPb.nth (64 * m + 4 * j + 2); omega))))) ?_
      refine e_val (rl_ext _) (.int .u32 (nth (padT t) (64 * m + 4 * j + 2) * 256)) kj kj (fun W => (run_eq (u := .int .u32 (IntKind.u32.wrap ((nth (padT t) (64 * m + 4 * j + 2)) * 256))) kj (congrArg (Value.int .u32) (u32s _ (by have := hPb.nth (64 * m + 4 * j + 2); omega))))) ?_
      refine e_val (rl_ext _) (.int .u32 (nth (padT t) (64 * m + 4 * j) * 16777216 + nth (padT t) (64 * m + 4 * j + 1) * 65536 + nth (padT t) (64 * m + 4 * j + 2) * 256)) kj kj (fun W => (run_eq (u := .int .u32 (IntKind.u32.wrap ((nth (padT t) (64 * m + 4 * j) * 16777216 + nth (padT t) (64 * m + 4 * j + 1) * 65536) + (nth (padT t) (64 * m + 4 * j + 2) * 256)))) kj (congrArg (Value.int .u32) (u32s _ (by have := hPb.nth (64 * m + 4 * j); have := hPb.nth (64 * m + 4 * j + 1); have := hPb.nth (64 * m + 4 * j + 2); omega))))) ?_
      refine e_val (rl_ext _) (.slice am41 ((padT t).length) cm41) kj kj (fun W => by kernel_rfl) ?_
      refine e_val (rl_ext _) (.int .i64 (((64 * m) + (4 * j) : Nat) : Int)) kj kj (fun W => by kernel_rfl) ?_
      refine e_val (rl_ext _) (.int .i64 ((((64 * m) + (4 * j)) + 3 : Nat) : Int)) kj kj (fun W => (run_eq (u := .int .i64 (IntKind.i64.wrap ((((64 * m) + (4 * j) : Nat) : Int) + 3))) kj (congrArg (Value.int .i64) (i64n _ _ (by omega) (by omega))))) ?_
      refine e_val (rl_ext _) (.pointer (some ⟨gcp_52, ocp_52 + (((64 * m) + (4 * j)) + 3), none⟩)) kj kj (fun W => (run_indexA 22 _ _ .i64 (((64 * m) + (4 * j)) + 3) gcp_52 ocp_52 ((padT t).length) cm41 5 am41 _ hap_52 rfl rfl kj kj kj kj (Nat.lt_of_lt_of_eq (show ((64 * m) + (4 * j)) + 3 < 64 * q by omega) hnp_52.symm))) ?_
      refine e_read (rl_ext _) (.int .u8 (nth (padT t) ((((64 * m) + (4 * j)) + 3)))) kj kj (fun W hR => (run_loadCell 5 _ _ (.int .u8 (nth (padT t) ((((64 * m) + (4 * j)) + 3)))) ((Below.cell (Rely.Ext.trans (ext_drew _) hR) hlp_52).trans (hcp_52 (((64 * m) + (4 * j)) + 3) (Nat.lt_of_lt_of_eq (show ((64 * m) + (4 * j)) + 3 < 64 * q by omega) hnp_52.symm))) rfl kj kj)) ?_
      refine e_val (rl_ext _) (.int .u32 (nth (padT t) (64 * m + 4 * j + 3))) kj kj (fun W => (run_eq (u := .int .u32 (IntKind.u32.wrap (nth (padT t) ((((64 * m) + (4 * j)) + 3))))) kj (congrArg (Value.int .u32) (u32s _ (by have := hPb.nth (64 * m + 4 * j + 3); omega))))) ?_
      refine e_val (rl_ext _) (.int .u32 (wv (wget (w64 b) j))) kj kj (fun W => (run_eq (u := .int .u32 (IntKind.u32.wrap ((nth (padT t) (64 * m + 4 * j) * 16777216 + nth (padT t) (64 * m + 4 * j + 1) * 65536 + nth (padT t) (64 * m + 4 * j + 2) * 256) + (nth (padT t) (64 * m + 4 * j + 3))))) kj (congrArg (Value.int .u32) (be_sum hPb hb hlt46)))) ?_
      refine e_newS (rl_ext _) (ints .u32 ([(wv (wget (w64 b) j))])) 84 1 (NewS.stable _ _ _ _) kj kj (fun W => by kernel_rfl) ?_
      refine e_nil (hF _ fun W16 e16 => ?_)
      simp only [List.nil_append, List.cons_append, List.take_succ_cons, List.take_zero, List.drop_succ_cons, List.drop_zero, finE, up]
      intro vv60 hv60
      clear hF
      have x16 : Ext w W16 := Ext.tr xx2 e16
      obtain ⟨g60, rfl, l60, r60_16⟩ := hv60
      have b60 : w.heap.size ≤ g60 := Nat.le_trans xx2.size l60
      have f61_16 := (hu.ext e16)
      have y14_16 : Ext V1 W16 := (Rely.Ext.trans e15 e16)
      refine seq_appendN (k := .u32) (T := 84) (xs := ((w64 b).map wv).take j) (ys := [(wv (wget (w64 b) j))]) (V := V1) 4 (.tmp 53) (.tmp 83) 96 rfl kj kj (by decide) 84 rfl kj kj kj f61_16 (rdK_ints (xs := [(wv (wget (w64 b) j))]) (n := 1) rfl r60_16 (row_lt r60_16) (show 1 ≤ maxLen from by decide)) (by rw [take_len _ (w64_len b) (by omega)]; show _ + 1 ≤ _; omega) y14_16 fun z1 W17 f62 y17 l17 => ?_
      have x17 : Ext w W17 := Ext.low x16 l17 xx1.size
      refine seq_val (z1) 9 rfl kj kj ?_
      refine seq_nil ?_
      refine hK58 _ _ ?_
      try clear hK58 K58
      refine region_lit ?_
      refine seq_val (.int .i64 ((j : Nat) : Int)) 47 rfl kj kj ?_
      refine seq_val (.int .i64 ((j + 1 : Nat) : Int)) 48 rfl kj (run_eq (u := .int .i64 (IntKind.i64.wrap (((j : Nat) : Int) + 1))) kj (congrArg (Value.int .i64) (i64n _ _ (by omega) (by omega)))) ?_
      refine seq_val (.int .i64 ((j + 1 : Nat) : Int)) 10 rfl kj kj ?_
      refine seq_nil ?_
      repeat (first | with_reducible refine goX1 ?_ | with_reducible refine goX2 ?_ | with_reducible refine goX3 ?_)
      exact goes_then ((j + 1), z1) ⟨rfl, rfl, rfl, rfl, rfl, rfl, rfl, trivial⟩ ⟨(by omega), (by rw [take_w _ (w64_len b) (by omega)]; exact f62), y17, x17⟩ (by show 16 - (j + 1) < 16 - j; omega)
    · skip
      have heq46 : j = 16 := by have := of_decide_eq_false c57; omega
      subst heq46
      refine wp_exit ?_
      refine hK50 _ _ ?_
      try clear hK50 K50
      refine wp_seq_k fun K64 hK64 => ?_
      refine wp_seq_k fun K65 hK65 => ?_
      refine region_lit ?_
      refine seq_val (.int .i64 16) 12 rfl kj kj ?_
      refine seq_nil ?_
      refine hK65 _ _ ?_
      try clear hK65 K65
      refine wp_block ?_
      refine loop_auto (fun (s3 : Nat × Value) => [(2, .pointer (some ⟨g2, 0, none⟩)), (4, .pointer (some ⟨g7, 0, none⟩)), (6, .slice am38 ((KK.map wv).length) cm38), (7, .slice am41 ((padT t).length) cm41), (8, .int .i64 ((64 * m : Nat) : Int)), (9, s3.2), (12, .int .i64 ((s3.1 : Nat) : Int))]) (fun (s3 : Nat × Value) W => (16 ≤ s3.1) ∧ (s3.1 ≤ 64) ∧ (OwnN .u32 84 V1.heap.size (((w64 b).map wv).take s3.1) s3.2 W) ∧ (Below V1.heap.size V2 W) ∧ (Ext w W)) (fun (s3 : Nat × Value) => 64 - s3.1) (16, u) ⟨rfl, rfl, rfl, rfl, rfl, rfl, rfl, trivial⟩ ⟨(Nat.le_refl _), (show (16 : Nat) ≤ 64 by decide), hu, (RowKit.Below.refl _ V2), xx2⟩ fun s3 X3 V3 hI3 => ?_
      obtain ⟨i, u⟩ := s3
      obtain ⟨h16, hi, hu, kk3, xx3⟩ := hI3
      replace h16 : 16 ≤ i := h16
      replace hi : i ≤ 64 := hi
      replace hu : OwnN .u32 84 V1.heap.size (((w64 b).map wv).take i) u V3 := hu
      replace kk3 : Below V1.heap.size V2 V3 := kk3
      replace xx3 : Ext w V3 := xx3
      have l16 := kk3
      obtain ⟨a9, c9, rfl, -⟩ := id (OwnN.rd hu)
      have hnw_66 : (((w64 b).map wv).take i).length = i := (take_len _ (w64_len b) hi)
      obtain ⟨gcw_66, ocw_66, haw_66, hlw_66, hcw_66⟩ := rdK_open (OwnN.rd hu) (by rw [hnw_66]; omega)
      refine wp_seq_k fun K67 hK67 => ?_
      refine wp_seq_k fun K68 hK68 => ?_
      refine region_lit ?_
      refine seq_val (.int .i64 ((i : Nat) : Int)) 85 rfl kj kj ?_
      refine seq_val (.bool (decide (((i : Nat) : Int) < 64))) 86 rfl kj kj ?_
      refine seq_nil ?_
      refine hK68 _ _ ?_
      try clear hK68 K68
      refine cond_split (t := decide (((i : Nat) : Int) < 64)) kj (fun c69 => ?_) (fun c69 => ?_)
      · skip
        have hlt86 : i < 64 := by have := of_decide_eq_true c69; omega
        refine wp_skip ?_
        refine hK67 _ _ ?_
        try clear hK67 K67
        refine wp_seq_k fun K70 hK70 => ?_
        refine wp_block ?_
        refine wp_seq_k fun K71 hK71 => ?_
        refine region_lit ?_
        refine seq_val (.slice a9 ((((w64 b).map wv).take i).length) c9) 89 rfl kj kj ?_
        refine seq_val (.int .i64 ((i : Nat) : Int)) 90 rfl kj kj ?_
        refine seq_val (.int .i64 ((i - 15 : Nat) : Int)) 91 rfl kj (run_eq (u := .int .i64 (IntKind.i64.wrap (((i : Nat) : Int) - 15))) kj (congrArg (Value.int .i64) (i64n _ _ (by omega) (by omega)))) ?_
        refine seq_val (.pointer (some ⟨gcw_66, ocw_66 + (i - 15), none⟩)) 92 rfl kj (run_indexA 96 _ _ .i64 (i - 15) gcw_66 ocw_66 ((((w64 b).map wv).take i).length) c9 84 a9 _ haw_66 rfl rfl kj kj kj kj (Nat.lt_of_lt_of_eq (show i - 15 < i by omega) hnw_66.symm)) ?_
        refine seq_val (.int .u32 (wv (wget (w64 b) (i - 15)))) 93 rfl kj (run_loadCell 84 _ _ (.int .u32 (wv (wget (w64 b) (i - 15)))) ((hcw_66 (i - 15) (Nat.lt_of_lt_of_eq (show i - 15 < i by omega) hnw_66.symm)).trans (congrArg (fun z => some (Value.int .u32 z)) (take_get (w64 b) i (i - 15) (by omega)))) rfl kj kj) ?_
        refine seq_val (.int .u32 (wv (wget (w64 b) (i - 15)))) 13 rfl kj kj ?_
        refine seq_nil ?_
        refine hK71 _ _ ?_
        try clear hK71 K71
        refine wp_seq_k fun K72 hK72 => ?_
        refine region_lit ?_
        refine seq_val (.slice a9 ((((w64 b).map wv).take i).length) c9) 94 rfl kj kj ?_
        refine seq_val (.int .i64 ((i : Nat) : Int)) 95 rfl kj kj ?_
        refine seq_val (.int .i64 ((i - 2 : Nat) : Int)) 96 rfl kj (run_eq (u := .int .i64 (IntKind.i64.wrap (((i : Nat) : Int) - 2))) kj (congrArg (Value.int .i64) (i64n _ _ (by omega) (by omega)))) ?_
        refine seq_val (.pointer (some ⟨gcw_66, ocw_66 + (i - 2), none⟩)) 97 rfl kj (run_indexA 96 _ _ .i64 (i - 2) gcw_66 ocw_66 ((((w64 b).map wv).take i).length) c9 84 a9 _ haw_66 rfl rfl kj kj kj kj (Nat.lt_of_lt_of_eq (show i - 2 < i by omega) hnw_66.symm)) ?_
        refine seq_val (.int .u32 (wv (wget (w64 b) (i - 2)))) 98 rfl kj (run_loadCell 84 _ _ (.int .u32 (wv (wget (w64 b) (i - 2)))) ((hcw_66 (i - 2) (Nat.lt_of_lt_of_eq (show i - 2 < i by omega) hnw_66.symm)).trans (congrArg (fun z => some (Value.int .u32 z)) (take_get (w64 b) i (i - 2) (by omega)))) rfl kj kj) ?_
        refine seq_val (.int .u32 (wv (wget (w64 b) (i - 2)))) 14 rfl kj kj ?_
        refine seq_nil ?_
        refine hK72 _ _ ?_
        try clear hK72 K72
        refine any_regionE 31 [⟨none, [(9, none)]⟩, ⟨none, [(14, none)]⟩, ⟨none, [(100, some 1)]⟩, ⟨none, [(14, none)]⟩, ⟨none, [(102, some 3)]⟩, ⟨none, [(101, some 2), (103, some 4)]⟩, ⟨none, [(14, none)]⟩, ⟨none, [(105, some 6)]⟩, ⟨none, [(104, some 5), (106, some 7)]⟩, ⟨none, [(9, none)]⟩, ⟨none, [(12, none)]⟩, ⟨none, [(109, some 10)]⟩, ⟨none, [(108, some 9), (110, some 11)]⟩, ⟨none, [(111, some 12)]⟩, ⟨none, [(107, some 8), (112, some 13)]⟩, ⟨none, [(13, none)]⟩, ⟨none, [(114, some 15)]⟩, ⟨none, [(13, none)]⟩, ⟨none, [(116, some 17)]⟩, ⟨none, [(115, some 16), (117, some 18)]⟩, ⟨none, [(13, none)]⟩, ⟨none, [(119, some 20)]⟩, ⟨none, [(118, some 19), (120, some 21)]⟩, ⟨none, [(113, some 14), (121, some 22)]⟩, ⟨none, [(9, none)]⟩, ⟨none, [(12, none)]⟩, ⟨none, [(124, some 25)]⟩, ⟨none, [(123, some 24), (125, some 26)]⟩, ⟨none, [(126, some 27)]⟩, ⟨none, [(122, some 23), (127, some 28)]⟩, ⟨none, [(128, some 29)]⟩] kj kj fun F hF => ?_
        refine e_val (rl_ext _) (.slice a9 ((((w64 b).map wv).take i).length) c9) kj kj (fun W => by kernel_rfl) ?_
        refine e_val (rl_ext _) (.int .u32 (wv (wget (w64 b) (i - 2)))) kj kj (fun W => by kernel_rfl) ?_
        refine e_call (rl_ext _) (.int .u32 (wv (rr (wget (w64 b) (i - 2)) 17))) 58 #[.int .u32 (wv (wget (w64 b) (i - 2))), .int .u64 17] kj kj (fun W => by kernel_rfl) (fun W hR => (turnC (wget (w64 b) (i - 2)) 17 (17) (by decide) (by decide) (by decide)) W) ?_
        refine e_val (rl_ext _) (.int .u32 (wv (wget (w64 b) (i - 2)))) kj kj (fun W => by kernel_rfl) ?_
        refine e_call (rl_ext _) (.int .u32 (wv (rr (wget (w64 b) (i - 2)) 19))) 58 #[.int .u32 (wv (wget (w64 b) (i - 2))), .int .u64 19] kj kj (fun W => by kernel_rfl) (fun W hR => (turnC (wget (w64 b) (i - 2)) 19 (19) (by decide) (by decide) (by decide)) W) ?_
        refine e_val (rl_ext _) (.int .u32 (wv (((rr (wget (w64 b) (i - 2)) 17)) ^^^ ((rr (wget (w64 b) (i - 2)) 19))))) kj kj (fun W => (run_eq (u := .int .u32 (bits .xor .u32 (wv (rr (wget (w64 b) (i - 2)) 17)) (wv (rr (wget (w64 b) (i - 2)) 19)))) kj (congrArg (Value.int .u32) (w_xor _ _)))) ?_
        refine e_val (rl_ext _) (.int .u32 (wv (wget (w64 b) (i - 2)))) kj kj (fun W => by kernel_rfl) ?_
        refine e_val (rl_ext _) (.int .u32 (wv (((wget (w64 b) (i - 2))) >>> 10))) kj kj (fun W => (run_bin .shr _ _ _ _ .u32 .u64 _ _ _ rfl kj kj (b_shr _ _ _ _ _ _ (by decide) (w_shr _ _ 10 rfl (by decide))))) ?_
        refine e_val (rl_ext _) (.int .u32 (wv (((((rr (wget (w64 b) (i - 2)) 17)) ^^^ ((rr (wget (w64 b) (i - 2)) 19)))) ^^^ ((((wget (w64 b) (i - 2))) >>> 10))))) kj kj (fun W => (run_eq (u := .int .u32 (bits .xor .u32 (wv (((rr (wget (w64 b) (i - 2)) 17)) ^^^ ((rr (wget (w64 b) (i - 2)) 19)))) (wv (((wget (w64 b) (i - 2))) >>> 10)))) kj (congrArg (Value.int .u32) (w_xor _ _)))) ?_
        refine e_val (rl_ext _) (.slice a9 ((((w64 b).map wv).take i).length) c9) kj kj (fun W => by kernel_rfl) ?_
        refine e_val (rl_ext _) (.int .i64 ((i : Nat) : Int)) kj kj (fun W => by kernel_rfl) ?_
        refine e_val (rl_ext _) (.int .i64 ((i - 7 : Nat) : Int)) kj kj (fun W => (run_eq (u := .int .i64 (IntKind.i64.wrap (((i : Nat) : Int) - 7))) kj (congrArg (Value.int .i64) (i64n _ _ (by omega) (by omega))))) ?_
        refine e_val (rl_ext _) (.pointer (some ⟨gcw_66, ocw_66 + (i - 7), none⟩)) kj kj (fun W => (run_indexA 96 _ _ .i64 (i - 7) gcw_66 ocw_66 ((((w64 b).map wv).take i).length) c9 84 a9 _ haw_66 rfl rfl kj kj kj kj (Nat.lt_of_lt_of_eq (show i - 7 < i by omega) hnw_66.symm))) ?_
        refine e_read (rl_ext _) (.int .u32 (wv (wget (w64 b) (i - 7)))) kj kj (fun W hR => (run_loadCell 84 _ _ (.int .u32 (wv (wget (w64 b) (i - 7)))) (((Below.cell (Rely.Ext.trans (ext_drew _) hR) hlw_66).trans (hcw_66 (i - 7) (Nat.lt_of_lt_of_eq (show i - 7 < i by omega) hnw_66.symm))).trans (congrArg (fun z => some (Value.int .u32 z)) (take_get (w64 b) i (i - 7) (by omega)))) rfl kj kj)) ?_
        refine e_val (rl_ext _) (.int .u32 (wv (((((((rr (wget (w64 b) (i - 2)) 17)) ^^^ ((rr (wget (w64 b) (i - 2)) 19)))) ^^^ ((((wget (w64 b) (i - 2))) >>> 10)))) + ((wget (w64 b) (i - 7)))))) kj kj (fun W => (run_eq (u := .int .u32 (IntKind.u32.wrap (wv (((((rr (wget (w64 b) (i - 2)) 17)) ^^^ ((rr (wget (w64 b) (i - 2)) 19)))) ^^^ ((((wget (w64 b) (i - 2))) >>> 10))) + wv (wget (w64 b) (i - 7))))) kj (congrArg (Value.int .u32) (w_add _ _)))) ?_
        refine e_val (rl_ext _) (.int .u32 (wv (wget (w64 b) (i - 15)))) kj kj (fun W => by kernel_rfl) ?_
        refine e_call (rl_ext _) (.int .u32 (wv (rr (wget (w64 b) (i - 15)) 7))) 58 #[.int .u32 (wv (wget (w64 b) (i - 15))), .int .u64 7] kj kj (fun W => by kernel_rfl) (fun W hR => (turnC (wget (w64 b) (i - 15)) 7 (7) (by decide) (by decide) (by decide)) W) ?_
        refine e_val (rl_ext _) (.int .u32 (wv (wget (w64 b) (i - 15)))) kj kj (fun W => by kernel_rfl) ?_
        refine e_call (rl_ext _) (.int .u32 (wv (rr (wget (w64 b) (i - 15)) 18))) 58 #[.int .u32 (wv (wget (w64 b) (i - 15))), .int .u64 18] kj kj (fun W => by kernel_rfl) (fun W hR => (turnC (wget (w64 b) (i - 15)) 18 (18) (by decide) (by decide) (by decide)) W) ?_
        refine e_val (rl_ext _) (.int .u32 (wv (((rr (wget (w64 b) (i - 15)) 7)) ^^^ ((rr (wget (w64 b) (i - 15)) 18))))) kj kj (fun W => (run_eq (u := .int .u32 (bits .xor .u32 (wv (rr (wget (w64 b) (i - 15)) 7)) (wv (rr (wget (w64 b) (i - 15)) 18)))) kj (congrArg (Value.int .u32) (w_xor _ _)))) ?_
        refine e_val (rl_ext _) (.int .u32 (wv (wget (w64 b) (i - 15)))) kj kj (fun W => by kernel_rfl) ?_
        refine e_val (rl_ext _) (.int .u32 (wv (((wget (w64 b) (i - 15))) >>> 3))) kj kj (fun W => (run_bin .shr _ _ _ _ .u32 .u64 _ _ _ rfl kj kj (b_shr _ _ _ _ _ _ (by decide) (w_shr _ _ 3 rfl (by decide))))) ?_
        refine e_val (rl_ext _) (.int .u32 (wv (((((rr (wget (w64 b) (i - 15)) 7)) ^^^ ((rr (wget (w64 b) (i - 15)) 18)))) ^^^ ((((wget (w64 b) (i - 15))) >>> 3))))) kj kj (fun W => (run_eq (u := .int .u32 (bits .xor .u32 (wv (((rr (wget (w64 b) (i - 15)) 7)) ^^^ ((rr (wget (w64 b) (i - 15)) 18)))) (wv (((wget (w64 b) (i - 15))) >>> 3)))) kj (congrArg (Value.int .u32) (w_xor _ _)))) ?_
        refine e_val (rl_ext _) (.int .u32 (wv (((((((((rr (wget (w64 b) (i - 2)) 17)) ^^^ ((rr (wget (w64 b) (i - 2)) 19)))) ^^^ ((((wget (w64 b) (i - 2))) >>> 10)))) + ((wget (w64 b) (i - 7))))) + ((((((rr (wget (w64 b) (i - 15)) 7)) ^^^ ((rr (wget (w64 b) (i - 15)) 18)))) ^^^ ((((wget (w64 b) (i - 15))) >>> 3))))))) kj kj (fun W => (run_eq (u := .int .u32 (IntKind.u32.wrap (wv (((((((rr (wget (w64 b) (i - 2)) 17)) ^^^ ((rr (wget (w64 b) (i - 2)) 19)))) ^^^ ((((wget (w64 b) (i - 2))) >>> 10)))) + ((wget (w64 b) (i - 7)))) + wv (((((rr (wget (w64 b) (i - 15)) 7)) ^^^ ((rr (wget (w64 b) (i - 15)) 18)))) ^^^ ((((wget (w64 b) (i - 15))) >>> 3)))))) kj (congrArg (Value.int .u32) (w_add _ _)))) ?_
        refine e_val (rl_ext _) (.slice a9 ((((w64 b).map wv).take i).length) c9) kj kj (fun W => by kernel_rfl) ?_
        refine e_val (rl_ext _) (.int .i64 ((i : Nat) : Int)) kj kj (fun W => by kernel_rfl) ?_
        refine e_val (rl_ext _) (.int .i64 ((i - 16 : Nat) : Int)) kj kj (fun W => (run_eq (u := .int .i64 (IntKind.i64.wrap (((i : Nat) : Int) - 16))) kj (congrArg (Value.int .i64) (i64n _ _ (by omega) (by omega))))) ?_
        refine e_val (rl_ext _) (.pointer (some ⟨gcw_66, ocw_66 + (i - 16), none⟩)) kj kj (fun W => (run_indexA 96 _ _ .i64 (i - 16) gcw_66 ocw_66 ((((w64 b).map wv).take i).length) c9 84 a9 _ haw_66 rfl rfl kj kj kj kj (Nat.lt_of_lt_of_eq (show i - 16 < i by omega) hnw_66.symm))) ?_
        refine e_read (rl_ext _) (.int .u32 (wv (wget (w64 b) (i - 16)))) kj kj (fun W hR => (run_loadCell 84 _ _ (.int .u32 (wv (wget (w64 b) (i - 16)))) (((Below.cell (Rely.Ext.trans (ext_drew _) hR) hlw_66).trans (hcw_66 (i - 16) (Nat.lt_of_lt_of_eq (show i - 16 < i by omega) hnw_66.symm))).trans (congrArg (fun z => some (Value.int .u32 z)) (take_get (w64 b) i (i - 16) (by omega)))) rfl kj kj)) ?_
        refine e_val (rl_ext _) (.int .u32 (wv (((((((((((rr (wget (w64 b) (i - 2)) 17)) ^^^ ((rr (wget (w64 b) (i - 2)) 19)))) ^^^ ((((wget (w64 b) (i - 2))) >>> 10)))) + ((wget (w64 b) (i - 7))))) + ((((((rr (wget (w64 b) (i - 15)) 7)) ^^^ ((rr (wget (w64 b) (i - 15)) 18)))) ^^^ ((((wget (w64 b) (i - 15))) >>> 3)))))) + ((wget (w64 b) (i - 16)))))) kj kj (fun W => (run_eq (u := .int .u32 (IntKind.u32.wrap (wv (((((((((rr (wget (w64 b) (i - 2)) 17)) ^^^ ((rr (wget (w64 b) (i - 2)) 19)))) ^^^ ((((wget (w64 b) (i - 2))) >>> 10)))) + ((wget (w64 b) (i - 7))))) + ((((((rr (wget (w64 b) (i - 15)) 7)) ^^^ ((rr (wget (w64 b) (i - 15)) 18)))) ^^^ ((((wget (w64 b) (i - 15))) >>> 3))))) + wv (wget (w64 b) (i - 16))))) kj (congrArg (Value.int .u32) (w_add _ _)))) ?_
        refine e_newS (rl_ext _) (ints .u32 ([(wv (((((((((((rr (wget (w64 b) (i - 2)) 17)) ^^^ ((rr (wget (w64 b) (i - 2)) 19)))) ^^^ ((((wget (w64 b) (i - 2))) >>> 10)))) + ((wget (w64 b) (i - 7))))) + ((((((rr (wget (w64 b) (i - 15)) 7)) ^^^ ((rr (wget (w64 b) (i - 15)) 18)))) ^^^ ((((wget (w64 b) (i - 15))) >>> 3)))))) + ((wget (w64 b) (i - 16)))))])) 84 1 (NewS.stable _ _ _ _) kj kj (fun W => by kernel_rfl) ?_
        refine e_nil (hF _ fun W17 e17 => ?_)
        simp only [List.nil_append, List.cons_append, List.take_succ_cons, List.take_zero, List.drop_succ_cons, List.drop_zero, finE, up]
        intro vv73 hv73
        clear hF
        have x17 : Ext w W17 := Ext.tr xx3 e17
        obtain ⟨g73, rfl, l73, r73_17⟩ := hv73
        have b73 : w.heap.size ≤ g73 := Nat.le_trans xx3.size l73
        have f74_17 := (hu.ext e17)
        have y14_16 : Ext V1 V3 := (Ext.low e15 l16 (Rely.Ext.refl V1).size)
        have y14_17 : Ext V1 W17 := (Rely.Ext.trans y14_16 e17)
        refine seq_appendN (k := .u32) (T := 84) (xs := ((w64 b).map wv).take i) (ys := [(wv (((((((((((rr (wget (w64 b) (i - 2)) 17)) ^^^ ((rr (wget (w64 b) (i - 2)) 19)))) ^^^ ((((wget (w64 b) (i - 2))) >>> 10)))) + ((wget (w64 b) (i - 7))))) + ((((((rr (wget (w64 b) (i - 15)) 7)) ^^^ ((rr (wget (w64 b) (i - 15)) 18)))) ^^^ ((((wget (w64 b) (i - 15))) >>> 3)))))) + ((wget (w64 b) (i - 16)))))]) (V := V1) 4 (.tmp 99) (.tmp 129) 96 rfl kj kj (by decide) 130 rfl kj kj kj f74_17 (rdK_ints (xs := [(wv (((((((((((rr (wget (w64 b) (i - 2)) 17)) ^^^ ((rr (wget (w64 b) (i - 2)) 19)))) ^^^ ((((wget (w64 b) (i - 2))) >>> 10)))) + ((wget (w64 b) (i - 7))))) + ((((((rr (wget (w64 b) (i - 15)) 7)) ^^^ ((rr (wget (w64 b) (i - 15)) 18)))) ^^^ ((((wget (w64 b) (i - 15))) >>> 3)))))) + ((wget (w64 b) (i - 16)))))]) (n := 1) rfl r73_17 (row_lt r73_17) (show 1 ≤ maxLen from by decide)) (by rw [take_len _ (w64_len b) (by omega)]; show _ + 1 ≤ _; omega) y14_17 fun z2 W18 f75 y18 l18 => ?_
        have x18 : Ext w W18 := Ext.low x17 l18 xx1.size
        refine seq_val (z2) 9 rfl kj kj ?_
        refine seq_nil ?_
        refine hK70 _ _ ?_
        try clear hK70 K70
        refine region_lit ?_
        refine seq_val (.int .i64 ((i : Nat) : Int)) 87 rfl kj kj ?_
        refine seq_val (.int .i64 ((i + 1 : Nat) : Int)) 88 rfl kj (run_eq (u := .int .i64 (IntKind.i64.wrap (((i : Nat) : Int) + 1))) kj (congrArg (Value.int .i64) (i64n _ _ (by omega) (by omega)))) ?_
        refine seq_val (.int .i64 ((i + 1 : Nat) : Int)) 12 rfl kj kj ?_
        refine seq_nil ?_
        repeat (first | with_reducible refine goX1 ?_ | with_reducible refine goX2 ?_ | with_reducible refine goX3 ?_)
        exact goes_then ((i + 1), z2) ⟨rfl, rfl, rfl, rfl, rfl, rfl, rfl, trivial⟩ ⟨(by omega), (by omega), (by rw [take_w _ (w64_len b) (by omega), w64_next b i h16 hlt86]; exact f75), (RowKit.Below.trans (RowKit.Below.trans l16 (RowKit.Below.mono e17 y14_16.size)) l18), x18⟩ (by show 64 - (i + 1) < 64 - i; omega)
      · skip
        have heq86 : i = 64 := by have := of_decide_eq_false c69; omega
        subst heq86
        have nb9_4 : (.slice a9 ((((w64 b).map wv).take 64).length) c9 : Value).ownBlock ≠ some g7 := OwnN.nb hu (row_lt r7_14_47)
        refine wp_exit ?_
        refine hK64 _ _ ?_
        try clear hK64 K64
        refine wp_seq_k fun K77 hK77 => ?_
        refine region_lit ?_
        have f78_13 := (hv37.ext e13)
        have f79_14 := (OwnN.keepsL f78_13 q14 (nb_cons nb38_7 nb_nil))
        have f80_15 := (f79_14.ext e15)
        have f81_16 := (OwnN.low (n := 0) f80_15 f79_14 l16)
        have f82_16 := (OwnN.low (n := 0) f54_15 f53_14 l16)
        have r7_15 := (row_ext r7_14_47 e15)
        have r7_16 := (low_row l16 r7_15 (row_lt r7_14_47))
        refine seq_val (.agg (ints .u32 ([wv s.a, wv s.b, wv s.c, wv s.d, wv s.e, wv s.f, wv s.g, wv s.h]))) 131 rfl kj (run_load_row 88 _ g7 88 _ _ r7_16 rfl kj kj (isz (n := 8) kj kj)) ?_
        refine seq_alloc (ints .u32 ([0, 0, 0, 0, 0, 0, 0, 0])) 88 15 rfl kj kj fun g83 W17 l83 e17 r83_17 => ?_
        have x17 : Ext w W17 := Ext.tr xx3 e17
        have b83 : w.heap.size ≤ g83 := Nat.le_trans xx3.size l83
        refine seq_store g83 _ (ints .u32 ([wv s.a, wv s.b, wv s.c, wv s.d, wv s.e, wv s.f, wv s.g, wv s.h])) 88 r83_17 rfl kj (run_store_row 88 _ _ g83 88 _ _ r83_17 rfl kj kj (isz (n := 8) kj kj) (eqsz (n := 8) kj kj) (ints_one _ _)) fun W18 p18 r83_18 => ?_
        have x18 : Ext w W18 := Puts.ext p18 x17 b83
        refine seq_nil ?_
        refine hK77 _ _ ?_
        try clear hK77 K77
        refine wp_seq_k fun K84 hK84 => ?_
        refine wp_seq_k fun K85 hK85 => ?_
        refine region_lit ?_
        refine seq_val (.int .i64 0) 16 rfl kj kj ?_
        refine seq_nil ?_
        refine hK85 _ _ ?_
        try clear hK85 K85
        refine wp_block ?_
        have nb6_15 : (.slice am38 ((KK.map wv).length) cm38 : Value).ownBlock ≠ some g83 := fun e => by have h1 := OwnN.lt f81_16 e; have h2 := l83; omega
        have nb7_15 : (.slice am41 ((padT t).length) cm41 : Value).ownBlock ≠ some g83 := fun e => by have h1 := OwnN.lt f82_16 e; have h2 := l83; omega
        have nb9_15 : (.slice a9 ((((w64 b).map wv).take 64).length) c9 : Value).ownBlock ≠ some g83 := fun e => by have h1 := OwnN.lt hu e; have h2 := l83; omega
        refine loop_auto (fun (s4 : Nat) => [(2, .pointer (some ⟨g2, 0, none⟩)), (4, .pointer (some ⟨g7, 0, none⟩)), (6, .slice am38 ((KK.map wv).length) cm38), (7, .slice am41 ((padT t).length) cm41), (8, .int .i64 ((64 * m : Nat) : Int)), (9, .slice a9 ((((w64 b).map wv).take 64).length) c9), (15, .pointer (some ⟨g83, 0, none⟩)), (16, .int .i64 ((s4 : Nat) : Int))]) (fun (s4 : Nat) W => (s4 ≤ 64) ∧ (W.heap[g83]? = some (.cells (ints .u32 ([wv (rnds KK (w64 b) s s4).a, wv (rnds KK (w64 b) s s4).b, wv (rnds KK (w64 b) s s4).c, wv (rnds KK (w64 b) s s4).d, wv (rnds KK (w64 b) s s4).e, wv (rnds KK (w64 b) s s4).f, wv (rnds KK (w64 b) s s4).g, wv (rnds KK (w64 b) s s4).h])) 88)) ∧ (Keeps [g83] W18 W) ∧ (Ext w W)) (fun (s4 : Nat) => 64 - s4) 0 ⟨rfl, rfl, rfl, rfl, rfl, rfl, rfl, rfl, trivial⟩ ⟨(Nat.zero_le _), r83_18, (Keeps.refl [g83] W18), x18⟩ fun s4 X4 V4 hI4 => ?_
        obtain ⟨i, hs4⟩ : ∃ z, z = s4 := ⟨_, rfl⟩
        subst hs4
        obtain ⟨hi, q83_4, kk4, xx4⟩ := hI4
        replace hi : i ≤ 64 := hi
        replace q83_4 : V4.heap[g83]? = some (.cells (ints .u32 ([wv (rnds KK (w64 b) s i).a, wv (rnds KK (w64 b) s i).b, wv (rnds KK (w64 b) s i).c, wv (rnds KK (w64 b) s i).d, wv (rnds KK (w64 b) s i).e, wv (rnds KK (w64 b) s i).f, wv (rnds KK (w64 b) s i).g, wv (rnds KK (w64 b) s i).h])) 88) := q83_4
        replace kk4 : Keeps [g83] W18 V4 := kk4
        replace xx4 : Ext w V4 := xx4
        have q19 := kk4
        have f87_17 := (f81_16.ext e17)
        have f88_18 := (f87_17.puts p18 nb6_15)
        have f89_19 := (OwnN.keepsL f88_18 q19 (nb_cons nb6_15 nb_nil))
        have hnk_86 : (KK.map wv).length = 64 := (List.length_map ..)
        obtain ⟨gck_86, ock_86, hak_86, hlk_86, hck_86⟩ := rdK_open (OwnN.rd f89_19) (by rw [hnk_86]; omega)
        have f91_17 := (hu.ext e17)
        have f92_18 := (f91_17.puts p18 nb9_15)
        have f93_19 := (OwnN.keepsL f92_18 q19 (nb_cons nb9_15 nb_nil))
        have hnw_90 : (((w64 b).map wv).take 64).length = 64 := (take_len _ (w64_len b) (Nat.le_refl _))
        obtain ⟨gcw_90, ocw_90, haw_90, hlw_90, hcw_90⟩ := rdK_open (OwnN.rd f93_19) (by rw [hnw_90]; omega)
        refine wp_seq_k fun K94 hK94 => ?_
        refine wp_seq_k fun K95 hK95 => ?_
        refine region_lit ?_
        refine seq_val (.int .i64 ((i : Nat) : Int)) 132 rfl kj kj ?_
        refine seq_val (.bool (decide (((i : Nat) : Int) < 64))) 133 rfl kj kj ?_
        refine seq_nil ?_
        refine hK95 _ _ ?_
        try clear hK95 K95
        refine cond_split (t := decide (((i : Nat) : Int) < 64)) kj (fun c96 => ?_) (fun c96 => ?_)
        · skip
          have hlt133 : i < 64 := by have := of_decide_eq_true c96; omega
          refine wp_skip ?_
          refine hK94 _ _ ?_
          try clear hK94 K94
          refine wp_seq_k fun K97 hK97 => ?_
          refine wp_block ?_
          refine wp_seq_k fun K98 hK98 => ?_
          refine any_regionE 36 [⟨none, [(15, none)]⟩, ⟨none, [(136, some 0)]⟩, ⟨none, [(15, none)]⟩, ⟨none, [(138, some 2)]⟩, ⟨none, [(139, some 3)]⟩, ⟨none, [(15, none)]⟩, ⟨none, [(141, some 5)]⟩, ⟨none, [(142, some 6)]⟩, ⟨none, [(140, some 4), (143, some 7)]⟩, ⟨none, [(15, none)]⟩, ⟨none, [(145, some 9)]⟩, ⟨none, [(146, some 10)]⟩, ⟨none, [(144, some 8), (147, some 11)]⟩, ⟨none, [(137, some 1), (148, some 12)]⟩, ⟨none, [(15, none)]⟩, ⟨none, [(150, some 14)]⟩, ⟨none, [(15, none)]⟩, ⟨none, [(152, some 16)]⟩, ⟨none, [(151, some 15), (153, some 17)]⟩, ⟨none, [(15, none)]⟩, ⟨none, [(155, some 19)]⟩, ⟨none, [(156, some 20)]⟩, ⟨none, [(15, none)]⟩, ⟨none, [(158, some 22)]⟩, ⟨none, [(157, some 21), (159, some 23)]⟩, ⟨none, [(154, some 18), (160, some 24)]⟩, ⟨none, [(149, some 13), (161, some 25)]⟩, ⟨none, [(6, none)]⟩, ⟨none, [(16, none)]⟩, ⟨none, [(163, some 27), (164, some 28)]⟩, ⟨none, [(165, some 29)]⟩, ⟨none, [(162, some 26), (166, some 30)]⟩, ⟨none, [(9, none)]⟩, ⟨none, [(16, none)]⟩, ⟨none, [(168, some 32), (169, some 33)]⟩, ⟨none, [(170, some 34)]⟩] kj kj fun F hF => ?_
          refine e_val (rl_ext _) (.pointer (some ⟨g83, 7, none⟩)) kj kj (fun W => by kernel_rfl) ?_
          refine e_read (rl_ext _) (.int .u32 (wv (rnds KK (w64 b) s i).h)) kj kj (fun W hR => (run_loadC1 84 _ g83 7 88 _ (.int .u32 (wv (rnds KK (w64 b) s i).h)) _ (row_ext (row_ext q83_4 (ext_drew _)) hR) rfl kj kj kj)) ?_
          refine e_val (rl_ext _) (.pointer (some ⟨g83, 4, none⟩)) kj kj (fun W => by kernel_rfl) ?_
          refine e_read (rl_ext _) (.int .u32 (wv (rnds KK (w64 b) s i).e)) kj kj (fun W hR => (run_loadC1 84 _ g83 4 88 _ (.int .u32 (wv (rnds KK (w64 b) s i).e)) _ (row_ext (row_ext q83_4 (ext_drew _)) hR) rfl kj kj kj)) ?_
          refine e_call (rl_ext _) (.int .u32 (wv (rr ((rnds KK (w64 b) s i).e) 6))) 58 #[.int .u32 (wv (rnds KK (w64 b) s i).e), .int .u64 6] kj kj (fun W => by kernel_rfl) (fun W hR => (turnC ((rnds KK (w64 b) s i).e) 6 (6) (by decide) (by decide) (by decide)) W) ?_
          refine e_val (rl_ext _) (.pointer (some ⟨g83, 4, none⟩)) kj kj (fun W => by kernel_rfl) ?_
          refine e_read (rl_ext _) (.int .u32 (wv (rnds KK (w64 b) s i).e)) kj kj (fun W hR => (run_loadC1 84 _ g83 4 88 _ (.int .u32 (wv (rnds KK (w64 b) s i).e)) _ (row_ext (row_ext q83_4 (ext_drew _)) hR) rfl kj kj kj)) ?_
          refine e_call (rl_ext _) (.int .u32 (wv (rr ((rnds KK (w64 b) s i).e) 11))) 58 #[.int .u32 (wv (rnds KK (w64 b) s i).e), .int .u64 11] kj kj (fun W => by kernel_rfl) (fun W hR => (turnC ((rnds KK (w64 b) s i).e) 11 (11) (by decide) (by decide) (by decide)) W) ?_
          refine e_val (rl_ext _) (.int .u32 (wv (((rr ((rnds KK (w64 b) s i).e) 6)) ^^^ ((rr ((rnds KK (w64 b) s i).e) 11))))) kj kj (fun W => (run_eq (u := .int .u32 (bits .xor .u32 (wv (rr ((rnds KK (w64 b) s i).e) 6)) (wv (rr ((rnds KK (w64 b) s i).e) 11)))) kj (congrArg (Value.int .u32) (w_xor _ _)))) ?_
          refine e_val (rl_ext _) (.pointer (some ⟨g83, 4, none⟩)) kj kj (fun W => by kernel_rfl) ?_
          refine e_read (rl_ext _) (.int .u32 (wv (rnds KK (w64 b) s i).e)) kj kj (fun W hR => (run_loadC1 84 _ g83 4 88 _ (.int .u32 (wv (rnds KK (w64 b) s i).e)) _ (row_ext (row_ext q83_4 (ext_drew _)) hR) rfl kj kj kj)) ?_
          refine e_call (rl_ext _) (.int .u32 (wv (rr ((rnds KK (w64 b) s i).e) 25))) 58 #[.int .u32 (wv (rnds KK (w64 b) s i).e), .int .u64 25] kj kj (fun W => by kernel_rfl) (fun W hR => (turnC ((rnds KK (w64 b) s i).e) 25 (25) (by decide) (by decide) (by decide)) W) ?_
          refine e_val (rl_ext _) (.int .u32 (wv (((((rr ((rnds KK (w64 b) s i).e) 6)) ^^^ ((rr ((rnds KK (w64 b) s i).e) 11)))) ^^^ ((rr ((rnds KK (w64 b) s i).e) 25))))) kj kj (fun W => (run_eq (u := .int .u32 (bits .xor .u32 (wv (((rr ((rnds KK (w64 b) s i).e) 6)) ^^^ ((rr ((rnds KK (w64 b) s i).e) 11)))) (wv (rr ((rnds KK (w64 b) s i).e) 25)))) kj (congrArg (Value.int .u32) (w_xor _ _)))) ?_
          refine e_val (rl_ext _) (.int .u32 (wv (((rnds KK (w64 b) s i).h) + ((((((rr ((rnds KK (w64 b) s i).e) 6)) ^^^ ((rr ((rnds KK (w64 b) s i).e) 11)))) ^^^ ((rr ((rnds KK (w64 b) s i).e) 25))))))) kj kj (fun W => (run_eq (u := .int .u32 (IntKind.u32.wrap (wv ((rnds KK (w64 b) s i).h) + wv (((((rr ((rnds KK (w64 b) s i).e) 6)) ^^^ ((rr ((rnds KK (w64 b) s i).e) 11)))) ^^^ ((rr ((rnds KK (w64 b) s i).e) 25)))))) kj (congrArg (Value.int .u32) (w_add _ _)))) ?_
          refine e_val (rl_ext _) (.pointer (some ⟨g83, 4, none⟩)) kj kj (fun W => by kernel_rfl) ?_
          refine e_read (rl_ext _) (.int .u32 (wv (rnds KK (w64 b) s i).e)) kj kj (fun W hR => (run_loadC1 84 _ g83 4 88 _ (.int .u32 (wv (rnds KK (w64 b) s i).e)) _ (row_ext (row_ext q83_4 (ext_drew _)) hR) rfl kj kj kj)) ?_
          refine e_val (rl_ext _) (.pointer (some ⟨g83, 5, none⟩)) kj kj (fun W => by kernel_rfl) ?_
          refine e_read (rl_ext _) (.int .u32 (wv (rnds KK (w64 b) s i).f)) kj kj (fun W hR => (run_loadC1 84 _ g83 5 88 _ (.int .u32 (wv (rnds KK (w64 b) s i).f)) _ (row_ext (row_ext q83_4 (ext_drew _)) hR) rfl kj kj kj)) ?_
          refine e_val (rl_ext _) (.int .u32 (wv (((rnds KK (w64 b) s i).e) &&& ((rnds KK (w64 b) s i).f)))) kj kj (fun W => (run_eq (u := .int .u32 (bits .and .u32 (wv ((rnds KK (w64 b) s i).e)) (wv ((rnds KK (w64 b) s i).f)))) kj (congrArg (Value.int .u32) (w_and _ _)))) ?_
          refine e_val (rl_ext _) (.pointer (some ⟨g83, 4, none⟩)) kj kj (fun W => by kernel_rfl) ?_
          refine e_read (rl_ext _) (.int .u32 (wv (rnds KK (w64 b) s i).e)) kj kj (fun W hR => (run_loadC1 84 _ g83 4 88 _ (.int .u32 (wv (rnds KK (w64 b) s i).e)) _ (row_ext (row_ext q83_4 (ext_drew _)) hR) rfl kj kj kj)) ?_
          refine e_val (rl_ext _) (.int .u32 (wv (~~~((rnds KK (w64 b) s i).e)))) kj kj (fun W => (run_eq (u := .int .u32 (IntKind.u32.wrap (4294967295 - wv ((rnds KK (w64 b) s i).e)))) kj (congrArg (Value.int .u32) (w_not _)))) ?_
          refine e_val (rl_ext _) (.pointer (some ⟨g83, 6, none⟩)) kj kj (fun W => by kernel_rfl) ?_
          refine e_read (rl_ext _) (.int .u32 (wv (rnds KK (w64 b) s i).g)) kj kj (fun W hR => (run_loadC1 84 _ g83 6 88 _ (.int .u32 (wv (rnds KK (w64 b) s i).g)) _ (row_ext (row_ext q83_4 (ext_drew _)) hR) rfl kj kj kj)) ?_
          refine e_val (rl_ext _) (.int .u32 (wv (((~~~((rnds KK (w64 b) s i).e))) &&& ((rnds KK (w64 b) s i).g)))) kj kj (fun W => (run_eq (u := .int .u32 (bits .and .u32 (wv (~~~((rnds KK (w64 b) s i).e))) (wv ((rnds KK (w64 b) s i).g)))) kj (congrArg (Value.int .u32) (w_and _ _)))) ?_
          refine e_val (rl_ext _) (.int .u32 (wv (((((rnds KK (w64 b) s i).e) &&& ((rnds KK (w64 b) s i).f))) ^^^ ((((~~~((rnds KK (w64 b) s i).e))) &&& ((rnds KK (w64 b) s i).g)))))) kj kj (fun W => (run_eq (u := .int .u32 (bits .xor .u32 (wv (((rnds KK (w64 b) s i).e) &&& ((rnds KK (w64 b) s i).f))) (wv (((~~~((rnds KK (w64 b) s i).e))) &&& ((rnds KK (w64 b) s i).g))))) kj (congrArg (Value.int .u32) (w_xor _ _)))) ?_
          refine e_val (rl_ext _) (.int .u32 (wv (((((rnds KK (w64 b) s i).h) + ((((((rr ((rnds KK (w64 b) s i).e) 6)) ^^^ ((rr ((rnds KK (w64 b) s i).e) 11)))) ^^^ ((rr ((rnds KK (w64 b) s i).e) 25)))))) + ((((((rnds KK (w64 b) s i).e) &&& ((rnds KK (w64 b) s i).f))) ^^^ ((((~~~((rnds KK (w64 b) s i).e))) &&& ((rnds KK (w64 b) s i).g)))))))) kj kj (fun W => (run_eq (u := .int .u32 (IntKind.u32.wrap (wv (((rnds KK (w64 b) s i).h) + ((((((rr ((rnds KK (w64 b) s i).e) 6)) ^^^ ((rr ((rnds KK (w64 b) s i).e) 11)))) ^^^ ((rr ((rnds KK (w64 b) s i).e) 25))))) + wv (((((rnds KK (w64 b) s i).e) &&& ((rnds KK (w64 b) s i).f))) ^^^ ((((~~~((rnds KK (w64 b) s i).e))) &&& ((rnds KK (w64 b) s i).g))))))) kj (congrArg (Value.int .u32) (w_add _ _)))) ?_
          refine e_val (rl_ext _) (.slice am38 ((KK.map wv).length) cm38) kj kj (fun W => by kernel_rfl) ?_
          refine e_val (rl_ext _) (.int .i64 ((i : Nat) : Int)) kj kj (fun W => by kernel_rfl) ?_
          refine e_val (rl_ext _) (.pointer (some ⟨gck_86, ock_86 + i, none⟩)) kj kj (fun W => (run_indexA 96 _ _ .i64 i gck_86 ock_86 ((KK.map wv).length) cm38 84 am38 _ hak_86 rfl rfl kj kj kj kj (Nat.lt_of_lt_of_eq (show i < 64 by omega) hnk_86.symm))) ?_
          refine e_read (rl_ext _) (.int .u32 (wv (wget KK i))) kj kj (fun W hR => (run_loadCell 84 _ _ (.int .u32 (wv (wget KK i))) (((Below.cell (Rely.Ext.trans (ext_drew _) hR) hlk_86).trans (hck_86 i (Nat.lt_of_lt_of_eq (show i < 64 by omega) hnk_86.symm))).trans (congrArg (fun z => some (Value.int .u32 z)) (nth_map _ _))) rfl kj kj)) ?_
          refine e_val (rl_ext _) (.int .u32 (wv (((((((rnds KK (w64 b) s i).h) + ((((((rr ((rnds KK (w64 b) s i).e) 6)) ^^^ ((rr ((rnds KK (w64 b) s i).e) 11)))) ^^^ ((rr ((rnds KK (w64 b) s i).e) 25)))))) + ((((((rnds KK (w64 b) s i).e) &&& ((rnds KK (w64 b) s i).f))) ^^^ ((((~~~((rnds KK (w64 b) s i).e))) &&& ((rnds KK (w64 b) s i).g))))))) + ((wget KK i))))) kj kj (fun W => (run_eq (u := .int .u32 (IntKind.u32.wrap (wv (((((rnds KK (w64 b) s i).h) + ((((((rr ((rnds KK (w64 b) s i).e) 6)) ^^^ ((rr ((rnds KK (w64 b) s i).e) 11)))) ^^^ ((rr ((rnds KK (w64 b) s i).e) 25)))))) + ((((((rnds KK (w64 b) s i).e) &&& ((rnds KK (w64 b) s i).f))) ^^^ ((((~~~((rnds KK (w64 b) s i).e))) &&& ((rnds KK (w64 b) s i).g)))))) + wv (wget KK i)))) kj (congrArg (Value.int .u32) (w_add _ _)))) ?_
          refine e_val (rl_ext _) (.slice a9 ((((w64 b).map wv).take 64).length) c9) kj kj (fun W => by kernel_rfl) ?_
          refine e_val (rl_ext _) (.int .i64 ((i : Nat) : Int)) kj kj (fun W => by kernel_rfl) ?_
          refine e_val (rl_ext _) (.pointer (some ⟨gcw_90, ocw_90 + i, none⟩)) kj kj (fun W => (run_indexA 96 _ _ .i64 i gcw_90 ocw_90 ((((w64 b).map wv).take 64).length) c9 84 a9 _ haw_90 rfl rfl kj kj kj kj (Nat.lt_of_lt_of_eq (show i < 64 by omega) hnw_90.symm))) ?_
          refine e_read (rl_ext _) (.int .u32 (wv (wget (w64 b) i))) kj kj (fun W hR => (run_loadCell 84 _ _ (.int .u32 (wv (wget (w64 b) i))) (((Below.cell (Rely.Ext.trans (ext_drew _) hR) hlw_90).trans (hcw_90 i (Nat.lt_of_lt_of_eq (show i < 64 by omega) hnw_90.symm))).trans (congrArg (fun z => some (Value.int .u32 z)) (take_get (w64 b) 64 i hlt133))) rfl kj kj)) ?_
          refine e_nil (hF _ fun W20 e20 => ?_)
          simp only [List.nil_append, List.cons_append, List.take_succ_cons, List.take_zero, List.drop_succ_cons, List.drop_zero, finE, up]
          clear hF
          have x20 : Ext w W20 := Ext.tr xx4 e20
          refine seq_val (.int .u32 (wv (((((((((rnds KK (w64 b) s i).h) + ((((((rr ((rnds KK (w64 b) s i).e) 6)) ^^^ ((rr ((rnds KK (w64 b) s i).e) 11)))) ^^^ ((rr ((rnds KK (w64 b) s i).e) 25)))))) + ((((((rnds KK (w64 b) s i).e) &&& ((rnds KK (w64 b) s i).f))) ^^^ ((((~~~((rnds KK (w64 b) s i).e))) &&& ((rnds KK (w64 b) s i).g))))))) + ((wget KK i)))) + ((wget (w64 b) i))))) 172 rfl kj (run_eq (u := .int .u32 (IntKind.u32.wrap (wv (((((((rnds KK (w64 b) s i).h) + ((((((rr ((rnds KK (w64 b) s i).e) 6)) ^^^ ((rr ((rnds KK (w64 b) s i).e) 11)))) ^^^ ((rr ((rnds KK (w64 b) s i).e) 25)))))) + ((((((rnds KK (w64 b) s i).e) &&& ((rnds KK (w64 b) s i).f))) ^^^ ((((~~~((rnds KK (w64 b) s i).e))) &&& ((rnds KK (w64 b) s i).g))))))) + ((wget KK i))) + wv (wget (w64 b) i)))) kj (congrArg (Value.int .u32) (w_add _ _))) ?_
          refine seq_val (.int .u32 (wv (((((((((rnds KK (w64 b) s i).h) + ((((((rr ((rnds KK (w64 b) s i).e) 6)) ^^^ ((rr ((rnds KK (w64 b) s i).e) 11)))) ^^^ ((rr ((rnds KK (w64 b) s i).e) 25)))))) + ((((((rnds KK (w64 b) s i).e) &&& ((rnds KK (w64 b) s i).f))) ^^^ ((((~~~((rnds KK (w64 b) s i).e))) &&& ((rnds KK (w64 b) s i).g))))))) + ((wget KK i)))) + ((wget (w64 b) i))))) 17 rfl kj kj ?_
          refine seq_nil ?_
          refine hK98 _ _ ?_
          try clear hK98 K98
          refine wp_seq_k fun K99 hK99 => ?_
          refine any_regionE 28 [⟨none, [(15, none)]⟩, ⟨none, [(173, some 0)]⟩, ⟨none, [(174, some 1)]⟩, ⟨none, [(15, none)]⟩, ⟨none, [(176, some 3)]⟩, ⟨none, [(177, some 4)]⟩, ⟨none, [(175, some 2), (178, some 5)]⟩, ⟨none, [(15, none)]⟩, ⟨none, [(180, some 7)]⟩, ⟨none, [(181, some 8)]⟩, ⟨none, [(179, some 6), (182, some 9)]⟩, ⟨none, [(15, none)]⟩, ⟨none, [(184, some 11)]⟩, ⟨none, [(15, none)]⟩, ⟨none, [(186, some 13)]⟩, ⟨none, [(185, some 12), (187, some 14)]⟩, ⟨none, [(15, none)]⟩, ⟨none, [(189, some 16)]⟩, ⟨none, [(15, none)]⟩, ⟨none, [(191, some 18)]⟩, ⟨none, [(190, some 17), (192, some 19)]⟩, ⟨none, [(188, some 15), (193, some 20)]⟩, ⟨none, [(15, none)]⟩, ⟨none, [(195, some 22)]⟩, ⟨none, [(15, none)]⟩, ⟨none, [(197, some 24)]⟩, ⟨none, [(196, some 23), (198, some 25)]⟩, ⟨none, [(194, some 21), (199, some 26)]⟩] kj kj fun F hF => ?_
          refine e_val (rl_ext _) (.pointer (some ⟨g83, 0, none⟩)) kj kj (fun W => by kernel_rfl) ?_
          have r83_20 := (row_ext q83_4 e20)
          refine e_read (rl_ext _) (.int .u32 (wv (rnds KK (w64 b) s i).a)) kj kj (fun W hR => (run_loadC1 84 _ g83 0 88 _ (.int .u32 (wv (rnds KK (w64 b) s i).a)) _ (row_ext (row_ext r83_20 (ext_drew _)) hR) rfl kj kj kj)) ?_
          refine e_call (rl_ext _) (.int .u32 (wv (rr ((rnds KK (w64 b) s i).a) 2))) 58 #[.int .u32 (wv (rnds KK (w64 b) s i).a), .int .u64 2] kj kj (fun W => by kernel_rfl) (fun W hR => (turnC ((rnds KK (w64 b) s i).a) 2 (2) (by decide) (by decide) (by decide)) W) ?_
          refine e_val (rl_ext _) (.pointer (some ⟨g83, 0, none⟩)) kj kj (fun W => by kernel_rfl) ?_
          refine e_read (rl_ext _) (.int .u32 (wv (rnds KK (w64 b) s i).a)) kj kj (fun W hR => (run_loadC1 84 _ g83 0 88 _ (.int .u32 (wv (rnds KK (w64 b) s i).a)) _ (row_ext (row_ext r83_20 (ext_drew _)) hR) rfl kj kj kj)) ?_
          refine e_call (rl_ext _) (.int .u32 (wv (rr ((rnds KK (w64 b) s i).a) 13))) 58 #[.int .u32 (wv (rnds KK (w64 b) s i).a), .int .u64 13] kj kj (fun W => by kernel_rfl) (fun W hR => (turnC ((rnds KK (w64 b) s i).a) 13 (13) (by decide) (by decide) (by decide)) W) ?_
          refine e_val (rl_ext _) (.int .u32 (wv (((rr ((rnds KK (w64 b) s i).a) 2)) ^^^ ((rr ((rnds KK (w64 b) s i).a) 13))))) kj kj (fun W => (run_eq (u := .int .u32 (bits .xor .u32 (wv (rr ((rnds KK (w64 b) s i).a) 2)) (wv (rr ((rnds KK (w64 b) s i).a) 13)))) kj (congrArg (Value.int .u32) (w_xor _ _)))) ?_
          refine e_val (rl_ext _) (.pointer (some ⟨g83, 0, none⟩)) kj kj (fun W => by kernel_rfl) ?_
          refine e_read (rl_ext _) (.int .u32 (wv (rnds KK (w64 b) s i).a)) kj kj (fun W hR => (run_loadC1 84 _ g83 0 88 _ (.int .u32 (wv (rnds KK (w64 b) s i).a)) _ (row_ext (row_ext r83_20 (ext_drew _)) hR) rfl kj kj kj)) ?_
          refine e_call (rl_ext _) (.int .u32 (wv (rr ((rnds KK (w64 b) s i).a) 22))) 58 #[.int .u32 (wv (rnds KK (w64 b) s i).a), .int .u64 22] kj kj (fun W => by kernel_rfl) (fun W hR => (turnC ((rnds KK (w64 b) s i).a) 22 (22) (by decide) (by decide) (by decide)) W) ?_
          refine e_val (rl_ext _) (.int .u32 (wv (((((rr ((rnds KK (w64 b) s i).a) 2)) ^^^ ((rr ((rnds KK (w64 b) s i).a) 13)))) ^^^ ((rr ((rnds KK (w64 b) s i).a) 22))))) kj kj (fun W => (run_eq (u := .int .u32 (bits .xor .u32 (wv (((rr ((rnds KK (w64 b) s i).a) 2)) ^^^ ((rr ((rnds KK (w64 b) s i).a) 13)))) (wv (rr ((rnds KK (w64 b) s i).a) 22)))) kj (congrArg (Value.int .u32) (w_xor _ _)))) ?_
          refine e_val (rl_ext _) (.pointer (some ⟨g83, 0, none⟩)) kj kj (fun W => by kernel_rfl) ?_
          refine e_read (rl_ext _) (.int .u32 (wv (rnds KK (w64 b) s i).a)) kj kj (fun W hR => (run_loadC1 84 _ g83 0 88 _ (.int .u32 (wv (rnds KK (w64 b) s i).a)) _ (row_ext (row_ext r83_20 (ext_drew _)) hR) rfl kj kj kj)) ?_
          refine e_val (rl_ext _) (.pointer (some ⟨g83, 1, none⟩)) kj kj (fun W => by kernel_rfl) ?_
          refine e_read (rl_ext _) (.int .u32 (wv (rnds KK (w64 b) s i).b)) kj kj (fun W hR => (run_loadC1 84 _ g83 1 88 _ (.int .u32 (wv (rnds KK (w64 b) s i).b)) _ (row_ext (row_ext r83_20 (ext_drew _)) hR) rfl kj kj kj)) ?_
          refine e_val (rl_ext _) (.int .u32 (wv (((rnds KK (w64 b) s i).a) &&& ((rnds KK (w64 b) s i).b)))) kj kj (fun W => (run_eq (u := .int .u32 (bits .and .u32 (wv ((rnds KK (w64 b) s i).a)) (wv ((rnds KK (w64 b) s i).b)))) kj (congrArg (Value.int .u32) (w_and _ _)))) ?_
          refine e_val (rl_ext _) (.pointer (some ⟨g83, 0, none⟩)) kj kj (fun W => by kernel_rfl) ?_
          refine e_read (rl_ext _) (.int .u32 (wv (rnds KK (w64 b) s i).a)) kj kj (fun W hR => (run_loadC1 84 _ g83 0 88 _ (.int .u32 (wv (rnds KK (w64 b) s i).a)) _ (row_ext (row_ext r83_20 (ext_drew _)) hR) rfl kj kj kj)) ?_
          refine e_val (rl_ext _) (.pointer (some ⟨g83, 2, none⟩)) kj kj (fun W => by kernel_rfl) ?_
          refine e_read (rl_ext _) (.int .u32 (wv (rnds KK (w64 b) s i).c)) kj kj (fun W hR => (run_loadC1 84 _ g83 2 88 _ (.int .u32 (wv (rnds KK (w64 b) s i).c)) _ (row_ext (row_ext r83_20 (ext_drew _)) hR) rfl kj kj kj)) ?_
          refine e_val (rl_ext _) (.int .u32 (wv (((rnds KK (w64 b) s i).a) &&& ((rnds KK (w64 b) s i).c)))) kj kj (fun W => (run_eq (u := .int .u32 (bits .and .u32 (wv ((rnds KK (w64 b) s i).a)) (wv ((rnds KK (w64 b) s i).c)))) kj (congrArg (Value.int .u32) (w_and _ _)))) ?_
          refine e_val (rl_ext _) (.int .u32 (wv (((((rnds KK (w64 b) s i).a) &&& ((rnds KK (w64 b) s i).b))) ^^^ ((((rnds KK (w64 b) s i).a) &&& ((rnds KK (w64 b) s i).c)))))) kj kj (fun W => (run_eq (u := .int .u32 (bits .xor .u32 (wv (((rnds KK (w64 b) s i).a) &&& ((rnds KK (w64 b) s i).b))) (wv (((rnds KK (w64 b) s i).a) &&& ((rnds KK (w64 b) s i).c))))) kj (congrArg (Value.int .u32) (w_xor _ _)))) ?_
          refine e_val (rl_ext _) (.pointer (some ⟨g83, 1, none⟩)) kj kj (fun W => by kernel_rfl) ?_
          refine e_read (rl_ext _) (.int .u32 (wv (rnds KK (w64 b) s i).b)) kj kj (fun W hR => (run_loadC1 84 _ g83 1 88 _ (.int .u32 (wv (rnds KK (w64 b) s i).b)) _ (row_ext (row_ext r83_20 (ext_drew _)) hR) rfl kj kj kj)) ?_
          refine e_val (rl_ext _) (.pointer (some ⟨g83, 2, none⟩)) kj kj (fun W => by kernel_rfl) ?_
          refine e_read (rl_ext _) (.int .u32 (wv (rnds KK (w64 b) s i).c)) kj kj (fun W hR => (run_loadC1 84 _ g83 2 88 _ (.int .u32 (wv (rnds KK (w64 b) s i).c)) _ (row_ext (row_ext r83_20 (ext_drew _)) hR) rfl kj kj kj)) ?_
          refine e_val (rl_ext _) (.int .u32 (wv (((rnds KK (w64 b) s i).b) &&& ((rnds KK (w64 b) s i).c)))) kj kj (fun W => (run_eq (u := .int .u32 (bits .and .u32 (wv ((rnds KK (w64 b) s i).b)) (wv ((rnds KK (w64 b) s i).c)))) kj (congrArg (Value.int .u32) (w_and _ _)))) ?_
          refine e_val (rl_ext _) (.int .u32 (wv (((((((rnds KK (w64 b) s i).a) &&& ((rnds KK (w64 b) s i).b))) ^^^ ((((rnds KK (w64 b) s i).a) &&& ((rnds KK (w64 b) s i).c))))) ^^^ ((((rnds KK (w64 b) s i).b) &&& ((rnds KK (w64 b) s i).c)))))) kj kj (fun W => (run_eq (u := .int .u32 (bits .xor .u32 (wv (((((rnds KK (w64 b) s i).a) &&& ((rnds KK (w64 b) s i).b))) ^^^ ((((rnds KK (w64 b) s i).a) &&& ((rnds KK (w64 b) s i).c))))) (wv (((rnds KK (w64 b) s i).b) &&& ((rnds KK (w64 b) s i).c))))) kj (congrArg (Value.int .u32) (w_xor _ _)))) ?_
          refine e_nil (hF _ fun W21 e21 => ?_)
          simp only [List.nil_append, List.cons_append, List.take_succ_cons, List.take_zero, List.drop_succ_cons, List.drop_zero, finE, up]
          clear hF
          have x21 : Ext w W21 := Ext.tr x20 e21
          refine seq_val (.int .u32 (wv (((((((rr ((rnds KK (w64 b) s i).a) 2)) ^^^ ((rr ((rnds KK (w64 b) s i).a) 13)))) ^^^ ((rr ((rnds KK (w64 b) s i).a) 22)))) + ((((((((rnds KK (w64 b) s i).a) &&& ((rnds KK (w64 b) s i).b))) ^^^ ((((rnds KK (w64 b) s i).a) &&& ((rnds KK (w64 b) s i).c))))) ^^^ ((((rnds KK (w64 b) s i).b) &&& ((rnds KK (w64 b) s i).c)))))))) 201 rfl kj (run_eq (u := .int .u32 (IntKind.u32.wrap (wv (((((rr ((rnds KK (w64 b) s i).a) 2)) ^^^ ((rr ((rnds KK (w64 b) s i).a) 13)))) ^^^ ((rr ((rnds KK (w64 b) s i).a) 22))) + wv (((((((rnds KK (w64 b) s i).a) &&& ((rnds KK (w64 b) s i).b))) ^^^ ((((rnds KK (w64 b) s i).a) &&& ((rnds KK (w64 b) s i).c))))) ^^^ ((((rnds KK (w64 b) s i).b) &&& ((rnds KK (w64 b) s i).c))))))) kj (congrArg (Value.int .u32) (w_add _ _))) ?_
          refine seq_val (.int .u32 (wv (((((((rr ((rnds KK (w64 b) s i).a) 2)) ^^^ ((rr ((rnds KK (w64 b) s i).a) 13)))) ^^^ ((rr ((rnds KK (w64 b) s i).a) 22)))) + ((((((((rnds KK (w64 b) s i).a) &&& ((rnds KK (w64 b) s i).b))) ^^^ ((((rnds KK (w64 b) s i).a) &&& ((rnds KK (w64 b) s i).c))))) ^^^ ((((rnds KK (w64 b) s i).b) &&& ((rnds KK (w64 b) s i).c)))))))) 18 rfl kj kj ?_
          refine seq_nil ?_
          refine hK99 _ _ ?_
          try clear hK99 K99
          refine wp_seq_k fun K100 hK100 => ?_
          refine wp_seq_k fun K101 hK101 => ?_
          refine region_lit ?_
          refine seq_val (.int .i64 7) 19 rfl kj kj ?_
          refine seq_nil ?_
          refine hK101 _ _ ?_
          try clear hK101 K101
          refine wp_block ?_
          refine wp_loop_rounds 9 ?_
          show Code.wp _ _ (Exit.then (Code.rounds _ _ _ 8) _) _ _
          refine wp_seq_k fun K102 hK102 => ?_
          refine wp_seq_k fun K103 hK103 => ?_
          refine region_lit ?_
          refine seq_val (.int .i64 7) 202 rfl kj kj ?_
          refine seq_val (.bool true) 203 rfl kj kj ?_
          refine seq_nil ?_
          refine hK103 _ _ ?_
          try clear hK103 K103
          refine cond_true kj ?_
          refine wp_skip ?_
          refine hK102 _ _ ?_
          try clear hK102 K102
          refine wp_seq_k fun K104 hK104 => ?_
          refine wp_block ?_
          refine region_lit ?_
          refine seq_val (.int .i64 7) 206 rfl kj kj ?_
          refine seq_val (.int .i64 7) 207 rfl kj kj ?_
          refine seq_val (.int .i64 6) 208 rfl kj kj ?_
          refine seq_val (.pointer (some ⟨g83, 6, none⟩)) 209 rfl kj kj ?_
          have r83_21 := (row_ext r83_20 e21)
          refine seq_val (.int .u32 (wv (rnds KK (w64 b) s i).g)) 210 rfl kj (run_loadC1 84 _ g83 6 88 _ (.int .u32 (wv (rnds KK (w64 b) s i).g)) _ r83_21 rfl kj kj kj) ?_
          refine seq_val (.pointer (some ⟨g83, 7, none⟩)) 211 rfl kj kj ?_
          refine seq_store g83 _ (ints .u32 ([wv (rnds KK (w64 b) s i).a, wv (rnds KK (w64 b) s i).b, wv (rnds KK (w64 b) s i).c, wv (rnds KK (w64 b) s i).d, wv (rnds KK (w64 b) s i).e, wv (rnds KK (w64 b) s i).f, wv (rnds KK (w64 b) s i).g, (wv (rnds KK (w64 b) s i).g)])) 88 r83_21 rfl kj (run_storeI 84 _ _ g83 7 88 _ _ r83_21 rfl kj kj kj (show 7 < 8 by decide)) fun W22 p22 r83_22 => ?_
          have x22 : Ext w W22 := Puts.ext p22 x21 b83
          refine seq_nil ?_
          refine hK104 _ _ ?_
          try clear hK104 K104
          refine region_lit ?_
          refine seq_val (.int .i64 7) 204 rfl kj kj ?_
          refine seq_val (.int .i64 6) 205 rfl kj kj ?_
          refine seq_val (.int .i64 6) 19 rfl kj kj ?_
          refine seq_nil ?_
          show Code.rounds _ _ _ 8 _ _
          show Code.wp _ _ (Exit.then (Code.rounds _ _ _ 7) _) _ _
          refine wp_seq_k fun K105 hK105 => ?_
          refine wp_seq_k fun K106 hK106 => ?_
          refine region_lit ?_
          refine seq_val (.int .i64 6) 202 rfl kj kj ?_
          refine seq_val (.bool true) 203 rfl kj kj ?_
          refine seq_nil ?_
          refine hK106 _ _ ?_
          try clear hK106 K106
          refine cond_true kj ?_
          refine wp_skip ?_
          refine hK105 _ _ ?_
          try clear hK105 K105
          refine wp_seq_k fun K107 hK107 => ?_
          refine wp_block ?_
          refine region_lit ?_
          refine seq_val (.int .i64 6) 206 rfl kj kj ?_
          refine seq_val (.int .i64 6) 207 rfl kj kj ?_
          refine seq_val (.int .i64 5) 208 rfl kj kj ?_
          refine seq_val (.pointer (some ⟨g83, 5, none⟩)) 209 rfl kj kj ?_
          refine seq_val (.int .u32 (wv (rnds KK (w64 b) s i).f)) 210 rfl kj (run_loadC1 84 _ g83 5 88 _ (.int .u32 (wv (rnds KK (w64 b) s i).f)) _ r83_22 rfl kj kj kj) ?_
          refine seq_val (.pointer (some ⟨g83, 6, none⟩)) 211 rfl kj kj ?_
          refine seq_store g83 _ (ints .u32 ([wv (rnds KK (w64 b) s i).a, wv (rnds KK (w64 b) s i).b, wv (rnds KK (w64 b) s i).c, wv (rnds KK (w64 b) s i).d, wv (rnds KK (w64 b) s i).e, wv (rnds KK (w64 b) s i).f, (wv (rnds KK (w64 b) s i).f), (wv (rnds KK (w64 b) s i).g)])) 88 r83_22 rfl kj (run_storeI 84 _ _ g83 6 88 _ _ r83_22 rfl kj kj kj (show 6 < 8 by decide)) fun W23 p23 r83_23 => ?_
          have x23 : Ext w W23 := Puts.ext p23 x22 b83
          refine seq_nil ?_
          refine hK107 _ _ ?_
          try clear hK107 K107
          refine region_lit ?_
          refine seq_val (.int .i64 6) 204 rfl kj kj ?_
          refine seq_val (.int .i64 5) 205 rfl kj kj ?_
          refine seq_val (.int .i64 5) 19 rfl kj kj ?_
          refine seq_nil ?_
          show Code.rounds _ _ _ 7 _ _
          show Code.wp _ _ (Exit.then (Code.rounds _ _ _ 6) _) _ _
          refine wp_seq_k fun K108 hK108 => ?_
          refine wp_seq_k fun K109 hK109 => ?_
          refine region_lit ?_
          refine seq_val (.int .i64 5) 202 rfl kj kj ?_
          refine seq_val (.bool true) 203 rfl kj kj ?_
          refine seq_nil ?_
          refine hK109 _ _ ?_
          try clear hK109 K109
          refine cond_true kj ?_
          refine wp_skip ?_
          refine hK108 _ _ ?_
          try clear hK108 K108
          refine wp_seq_k fun K110 hK110 => ?_
          refine wp_block ?_
          refine region_lit ?_
          refine seq_val (.int .i64 5) 206 rfl kj kj ?_
          refine seq_val (.int .i64 5) 207 rfl kj kj ?_
          refine seq_val (.int .i64 4) 208 rfl kj kj ?_
          refine seq_val (.pointer (some ⟨g83, 4, none⟩)) 209 rfl kj kj ?_
          refine seq_val (.int .u32 (wv (rnds KK (w64 b) s i).e)) 210 rfl kj (run_loadC1 84 _ g83 4 88 _ (.int .u32 (wv (rnds KK (w64 b) s i).e)) _ r83_23 rfl kj kj kj) ?_
          refine seq_val (.pointer (some ⟨g83, 5, none⟩)) 211 rfl kj kj ?_
          refine seq_store g83 _ (ints .u32 ([wv (rnds KK (w64 b) s i).a, wv (rnds KK (w64 b) s i).b, wv (rnds KK (w64 b) s i).c, wv (rnds KK (w64 b) s i).d, wv (rnds KK (w64 b) s i).e, (wv (rnds KK (w64 b) s i).e), (wv (rnds KK (w64 b) s i).f), (wv (rnds KK (w64 b) s i).g)])) 88 r83_23 rfl kj (run_storeI 84 _ _ g83 5 88 _ _ r83_23 rfl kj kj kj (show 5 < 8 by decide)) fun W24 p24 r83_24 => ?_
          have x24 : Ext w W24 := Puts.ext p24 x23 b83
          refine seq_nil ?_
          refine hK110 _ _ ?_
          try clear hK110 K110
          refine region_lit ?_
          refine seq_val (.int .i64 5) 204 rfl kj kj ?_
          refine seq_val (.int .i64 4) 205 rfl kj kj ?_
          refine seq_val (.int .i64 4) 19 rfl kj kj ?_
          refine seq_nil ?_
          show Code.rounds _ _ _ 6 _ _
          show Code.wp _ _ (Exit.then (Code.rounds _ _ _ 5) _) _ _
          refine wp_seq_k fun K111 hK111 => ?_
          refine wp_seq_k fun K112 hK112 => ?_
          refine region_lit ?_
          refine seq_val (.int .i64 4) 202 rfl kj kj ?_
          refine seq_val (.bool true) 203 rfl kj kj ?_
          refine seq_nil ?_
          refine hK112 _ _ ?_
          try clear hK112 K112
          refine cond_true kj ?_
          refine wp_skip ?_
          refine hK111 _ _ ?_
          try clear hK111 K111
          refine wp_seq_k fun K113 hK113 => ?_
          refine wp_block ?_
          refine region_lit ?_
          refine seq_val (.int .i64 4) 206 rfl kj kj ?_
          refine seq_val (.int .i64 4) 207 rfl kj kj ?_
          refine seq_val (.int .i64 3) 208 rfl kj kj ?_
          refine seq_val (.pointer (some ⟨g83, 3, none⟩)) 209 rfl kj kj ?_
          refine seq_val (.int .u32 (wv (rnds KK (w64 b) s i).d)) 210 rfl kj (run_loadC1 84 _ g83 3 88 _ (.int .u32 (wv (rnds KK (w64 b) s i).d)) _ r83_24 rfl kj kj kj) ?_
          refine seq_val (.pointer (some ⟨g83, 4, none⟩)) 211 rfl kj kj ?_
          refine seq_store g83 _ (ints .u32 ([wv (rnds KK (w64 b) s i).a, wv (rnds KK (w64 b) s i).b, wv (rnds KK (w64 b) s i).c, wv (rnds KK (w64 b) s i).d, (wv (rnds KK (w64 b) s i).d), (wv (rnds KK (w64 b) s i).e), (wv (rnds KK (w64 b) s i).f), (wv (rnds KK (w64 b) s i).g)])) 88 r83_24 rfl kj (run_storeI 84 _ _ g83 4 88 _ _ r83_24 rfl kj kj kj (show 4 < 8 by decide)) fun W25 p25 r83_25 => ?_
          have x25 : Ext w W25 := Puts.ext p25 x24 b83
          refine seq_nil ?_
          refine hK113 _ _ ?_
          try clear hK113 K113
          refine region_lit ?_
          refine seq_val (.int .i64 4) 204 rfl kj kj ?_
          refine seq_val (.int .i64 3) 205 rfl kj kj ?_
          refine seq_val (.int .i64 3) 19 rfl kj kj ?_
          refine seq_nil ?_
          show Code.rounds _ _ _ 5 _ _
          show Code.wp _ _ (Exit.then (Code.rounds _ _ _ 4) _) _ _
          refine wp_seq_k fun K114 hK114 => ?_
          refine wp_seq_k fun K115 hK115 => ?_
          refine region_lit ?_
          refine seq_val (.int .i64 3) 202 rfl kj kj ?_
          refine seq_val (.bool true) 203 rfl kj kj ?_
          refine seq_nil ?_
          refine hK115 _ _ ?_
          try clear hK115 K115
          refine cond_true kj ?_
          refine wp_skip ?_
          refine hK114 _ _ ?_
          try clear hK114 K114
          refine wp_seq_k fun K116 hK116 => ?_
          refine wp_block ?_
          refine region_lit ?_
          refine seq_val (.int .i64 3) 206 rfl kj kj ?_
          refine seq_val (.int .i64 3) 207 rfl kj kj ?_
          refine seq_val (.int .i64 2) 208 rfl kj kj ?_
          refine seq_val (.pointer (some ⟨g83, 2, none⟩)) 209 rfl kj kj ?_
          refine seq_val (.int .u32 (wv (rnds KK (w64 b) s i).c)) 210 rfl kj (run_loadC1 84 _ g83 2 88 _ (.int .u32 (wv (rnds KK (w64 b) s i).c)) _ r83_25 rfl kj kj kj) ?_
          refine seq_val (.pointer (some ⟨g83, 3, none⟩)) 211 rfl kj kj ?_
          refine seq_store g83 _ (ints .u32 ([wv (rnds KK (w64 b) s i).a, wv (rnds KK (w64 b) s i).b, wv (rnds KK (w64 b) s i).c, (wv (rnds KK (w64 b) s i).c), (wv (rnds KK (w64 b) s i).d), (wv (rnds KK (w64 b) s i).e), (wv (rnds KK (w64 b) s i).f), (wv (rnds KK (w64 b) s i).g)])) 88 r83_25 rfl kj (run_storeI 84 _ _ g83 3 88 _ _ r83_25 rfl kj kj kj (show 3 < 8 by decide)) fun W26 p26 r83_26 => ?_
          have x26 : Ext w W26 := Puts.ext p26 x25 b83
          refine seq_nil ?_
          refine hK116 _ _ ?_
          try clear hK116 K116
          refine region_lit ?_
          refine seq_val (.int .i64 3) 204 rfl kj kj ?_
          refine seq_val (.int .i64 2) 205 rfl kj kj ?_
          refine seq_val (.int .i64 2) 19 rfl kj kj ?_
          refine seq_nil ?_
          show Code.rounds _ _ _ 4 _ _
          show Code.wp _ _ (Exit.then (Code.rounds _ _ _ 3) _) _ _
          refine wp_seq_k fun K117 hK117 => ?_
          refine wp_seq_k fun K118 hK118 => ?_
          refine region_lit ?_
          refine seq_val (.int .i64 2) 202 rfl kj kj ?_
          refine seq_val (.bool true) 203 rfl kj kj ?_
          refine seq_nil ?_
          refine hK118 _ _ ?_
          try clear hK118 K118
          refine cond_true kj ?_
          refine wp_skip ?_
          refine hK117 _ _ ?_
          try clear hK117 K117
          refine wp_seq_k fun K119 hK119 => ?_
          refine wp_block ?_
          refine region_lit ?_
          refine seq_val (.int .i64 2) 206 rfl kj kj ?_
          refine seq_val (.int .i64 2) 207 rfl kj kj ?_
          refine seq_val (.int .i64 1) 208 rfl kj kj ?_
          refine seq_val (.pointer (some ⟨g83, 1, none⟩)) 209 rfl kj kj ?_
          refine seq_val (.int .u32 (wv (rnds KK (w64 b) s i).b)) 210 rfl kj (run_loadC1 84 _ g83 1 88 _ (.int .u32 (wv (rnds KK (w64 b) s i).b)) _ r83_26 rfl kj kj kj) ?_
          refine seq_val (.pointer (some ⟨g83, 2, none⟩)) 211 rfl kj kj ?_
          refine seq_store g83 _ (ints .u32 ([wv (rnds KK (w64 b) s i).a, wv (rnds KK (w64 b) s i).b, (wv (rnds KK (w64 b) s i).b), (wv (rnds KK (w64 b) s i).c), (wv (rnds KK (w64 b) s i).d), (wv (rnds KK (w64 b) s i).e), (wv (rnds KK (w64 b) s i).f), (wv (rnds KK (w64 b) s i).g)])) 88 r83_26 rfl kj (run_storeI 84 _ _ g83 2 88 _ _ r83_26 rfl kj kj kj (show 2 < 8 by decide)) fun W27 p27 r83_27 => ?_
          have x27 : Ext w W27 := Puts.ext p27 x26 b83
          refine seq_nil ?_
          refine hK119 _ _ ?_
          try clear hK119 K119
          refine region_lit ?_
          refine seq_val (.int .i64 2) 204 rfl kj kj ?_
          refine seq_val (.int .i64 1) 205 rfl kj kj ?_
          refine seq_val (.int .i64 1) 19 rfl kj kj ?_
          refine seq_nil ?_
          show Code.rounds _ _ _ 3 _ _
          show Code.wp _ _ (Exit.then (Code.rounds _ _ _ 2) _) _ _
          refine wp_seq_k fun K120 hK120 => ?_
          refine wp_seq_k fun K121 hK121 => ?_
          refine region_lit ?_
          refine seq_val (.int .i64 1) 202 rfl kj kj ?_
          refine seq_val (.bool true) 203 rfl kj kj ?_
          refine seq_nil ?_
          refine hK121 _ _ ?_
          try clear hK121 K121
          refine cond_true kj ?_
          refine wp_skip ?_
          refine hK120 _ _ ?_
          try clear hK120 K120
          refine wp_seq_k fun K122 hK122 => ?_
          refine wp_block ?_
          refine region_lit ?_
          refine seq_val (.int .i64 1) 206 rfl kj kj ?_
          refine seq_val (.int .i64 1) 207 rfl kj kj ?_
          refine seq_val (.int .i64 0) 208 rfl kj kj ?_
          refine seq_val (.pointer (some ⟨g83, 0, none⟩)) 209 rfl kj kj ?_
          refine seq_val (.int .u32 (wv (rnds KK (w64 b) s i).a)) 210 rfl kj (run_loadC1 84 _ g83 0 88 _ (.int .u32 (wv (rnds KK (w64 b) s i).a)) _ r83_27 rfl kj kj kj) ?_
          refine seq_val (.pointer (some ⟨g83, 1, none⟩)) 211 rfl kj kj ?_
          refine seq_store g83 _ (ints .u32 ([wv (rnds KK (w64 b) s i).a, (wv (rnds KK (w64 b) s i).a), (wv (rnds KK (w64 b) s i).b), (wv (rnds KK (w64 b) s i).c), (wv (rnds KK (w64 b) s i).d), (wv (rnds KK (w64 b) s i).e), (wv (rnds KK (w64 b) s i).f), (wv (rnds KK (w64 b) s i).g)])) 88 r83_27 rfl kj (run_storeI 84 _ _ g83 1 88 _ _ r83_27 rfl kj kj kj (show 1 < 8 by decide)) fun W28 p28 r83_28 => ?_
          have x28 : Ext w W28 := Puts.ext p28 x27 b83
          refine seq_nil ?_
          refine hK122 _ _ ?_
          try clear hK122 K122
          refine region_lit ?_
          refine seq_val (.int .i64 1) 204 rfl kj kj ?_
          refine seq_val (.int .i64 0) 205 rfl kj kj ?_
          refine seq_val (.int .i64 0) 19 rfl kj kj ?_
          refine seq_nil ?_
          show Code.rounds _ _ _ 2 _ _
          show Code.wp _ _ (Exit.then (Code.rounds _ _ _ 1) _) _ _
          refine wp_seq_k fun K123 hK123 => ?_
          refine wp_seq_k fun K124 hK124 => ?_
          refine region_lit ?_
          refine seq_val (.int .i64 0) 202 rfl kj kj ?_
          refine seq_val (.bool false) 203 rfl kj kj ?_
          refine seq_nil ?_
          refine hK124 _ _ ?_
          try clear hK124 K124
          refine cond_false kj ?_
          refine wp_exit ?_
          refine hK100 _ _ ?_
          try clear hK100 K100
          refine wp_seq_k fun K125 hK125 => ?_
          refine region_lit ?_
          refine seq_val (.pointer (some ⟨g83, 4, none⟩)) 212 rfl kj kj ?_
          refine seq_val (.int .u32 (wv (rnds KK (w64 b) s i).d)) 213 rfl kj (run_loadC1 84 _ g83 4 88 _ (.int .u32 (wv (rnds KK (w64 b) s i).d)) _ r83_28 rfl kj kj kj) ?_
          refine seq_val (.int .u32 (wv (((((((((rnds KK (w64 b) s i).h) + ((((((rr ((rnds KK (w64 b) s i).e) 6)) ^^^ ((rr ((rnds KK (w64 b) s i).e) 11)))) ^^^ ((rr ((rnds KK (w64 b) s i).e) 25)))))) + ((((((rnds KK (w64 b) s i).e) &&& ((rnds KK (w64 b) s i).f))) ^^^ ((((~~~((rnds KK (w64 b) s i).e))) &&& ((rnds KK (w64 b) s i).g))))))) + ((wget KK i)))) + ((wget (w64 b) i))))) 214 rfl kj kj ?_
          refine seq_val (.int .u32 (wv (((rnds KK (w64 b) s i).d) + ((((((((((rnds KK (w64 b) s i).h) + ((((((rr ((rnds KK (w64 b) s i).e) 6)) ^^^ ((rr ((rnds KK (w64 b) s i).e) 11)))) ^^^ ((rr ((rnds KK (w64 b) s i).e) 25)))))) + ((((((rnds KK (w64 b) s i).e) &&& ((rnds KK (w64 b) s i).f))) ^^^ ((((~~~((rnds KK (w64 b) s i).e))) &&& ((rnds KK (w64 b) s i).g))))))) + ((wget KK i)))) + ((wget (w64 b) i))))))) 215 rfl kj (run_eq (u := .int .u32 (IntKind.u32.wrap (wv ((rnds KK (w64 b) s i).d) + wv (((((((((rnds KK (w64 b) s i).h) + ((((((rr ((rnds KK (w64 b) s i).e) 6)) ^^^ ((rr ((rnds KK (w64 b) s i).e) 11)))) ^^^ ((rr ((rnds KK (w64 b) s i).e) 25)))))) + ((((((rnds KK (w64 b) s i).e) &&& ((rnds KK (w64 b) s i).f))) ^^^ ((((~~~((rnds KK (w64 b) s i).e))) &&& ((rnds KK (w64 b) s i).g))))))) + ((wget KK i)))) + ((wget (w64 b) i)))))) kj (congrArg (Value.int .u32) (w_add _ _))) ?_
          refine seq_val (.pointer (some ⟨g83, 4, none⟩)) 216 rfl kj kj ?_
          refine seq_store g83 _ (ints .u32 ([wv (rnds KK (w64 b) s i).a, (wv (rnds KK (w64 b) s i).a), (wv (rnds KK (w64 b) s i).b), (wv (rnds KK (w64 b) s i).c), (wv (((rnds KK (w64 b) s i).d) + ((((((((((rnds KK (w64 b) s i).h) + ((((((rr ((rnds KK (w64 b) s i).e) 6)) ^^^ ((rr ((rnds KK (w64 b) s i).e) 11)))) ^^^ ((rr ((rnds KK (w64 b) s i).e) 25)))))) + ((((((rnds KK (w64 b) s i).e) &&& ((rnds KK (w64 b) s i).f))) ^^^ ((((~~~((rnds KK (w64 b) s i).e))) &&& ((rnds KK (w64 b) s i).g))))))) + ((wget KK i)))) + ((wget (w64 b) i)))))), (wv (rnds KK (w64 b) s i).e), (wv (rnds KK (w64 b) s i).f), (wv (rnds KK (w64 b) s i).g)])) 88 r83_28 rfl kj (run_storeI 84 _ _ g83 4 88 _ _ r83_28 rfl kj kj kj (show 4 < 8 by decide)) fun W29 p29 r83_29 => ?_
          have x29 : Ext w W29 := Puts.ext p29 x28 b83
          refine seq_nil ?_
          refine hK125 _ _ ?_
          try clear hK125 K125
          refine region_lit ?_
          refine seq_val (.int .u32 (wv (((((((((rnds KK (w64 b) s i).h) + ((((((rr ((rnds KK (w64 b) s i).e) 6)) ^^^ ((rr ((rnds KK (w64 b) s i).e) 11)))) ^^^ ((rr ((rnds KK (w64 b) s i).e) 25)))))) + ((((((rnds KK (w64 b) s i).e) &&& ((rnds KK (w64 b) s i).f))) ^^^ ((((~~~((rnds KK (w64 b) s i).e))) &&& ((rnds KK (w64 b) s i).g))))))) + ((wget KK i)))) + ((wget (w64 b) i))))) 217 rfl kj kj ?_
          refine seq_val (.int .u32 (wv (((((((rr ((rnds KK (w64 b) s i).a) 2)) ^^^ ((rr ((rnds KK (w64 b) s i).a) 13)))) ^^^ ((rr ((rnds KK (w64 b) s i).a) 22)))) + ((((((((rnds KK (w64 b) s i).a) &&& ((rnds KK (w64 b) s i).b))) ^^^ ((((rnds KK (w64 b) s i).a) &&& ((rnds KK (w64 b) s i).c))))) ^^^ ((((rnds KK (w64 b) s i).b) &&& ((rnds KK (w64 b) s i).c)))))))) 218 rfl kj kj ?_
          refine seq_val (.int .u32 (wv (((((((((((rnds KK (w64 b) s i).h) + ((((((rr ((rnds KK (w64 b) s i).e) 6)) ^^^ ((rr ((rnds KK (w64 b) s i).e) 11)))) ^^^ ((rr ((rnds KK (w64 b) s i).e) 25)))))) + ((((((rnds KK (w64 b) s i).e) &&& ((rnds KK (w64 b) s i).f))) ^^^ ((((~~~((rnds KK (w64 b) s i).e))) &&& ((rnds KK (w64 b) s i).g))))))) + ((wget KK i)))) + ((wget (w64 b) i)))) + ((((((((rr ((rnds KK (w64 b) s i).a) 2)) ^^^ ((rr ((rnds KK (w64 b) s i).a) 13)))) ^^^ ((rr ((rnds KK (w64 b) s i).a) 22)))) + ((((((((rnds KK (w64 b) s i).a) &&& ((rnds KK (w64 b) s i).b))) ^^^ ((((rnds KK (w64 b) s i).a) &&& ((rnds KK (w64 b) s i).c))))) ^^^ ((((rnds KK (w64 b) s i).b) &&& ((rnds KK (w64 b) s i).c)))))))))) 219 rfl kj (run_eq (u := .int .u32 (IntKind.u32.wrap (wv (((((((((rnds KK (w64 b) s i).h) + ((((((rr ((rnds KK (w64 b) s i).e) 6)) ^^^ ((rr ((rnds KK (w64 b) s i).e) 11)))) ^^^ ((rr ((rnds KK (w64 b) s i).e) 25)))))) + ((((((rnds KK (w64 b) s i).e) &&& ((rnds KK (w64 b) s i).f))) ^^^ ((((~~~((rnds KK (w64 b) s i).e))) &&& ((rnds KK (w64 b) s i).g))))))) + ((wget KK i)))) + ((wget (w64 b) i))) + wv (((((((rr ((rnds KK (w64 b) s i).a) 2)) ^^^ ((rr ((rnds KK (w64 b) s i).a) 13)))) ^^^ ((rr ((rnds KK (w64 b) s i).a) 22)))) + ((((((((rnds KK (w64 b) s i).a) &&& ((rnds KK (w64 b) s i).b))) ^^^ ((((rnds KK (w64 b) s i).a) &&& ((rnds KK (w64 b) s i).c))))) ^^^ ((((rnds KK (w64 b) s i).b) &&& ((rnds KK (w64 b) s i).c))))))))) kj (congrArg (Value.int .u32) (w_add _ _))) ?_
          refine seq_val (.pointer (some ⟨g83, 0, none⟩)) 220 rfl kj kj ?_
          refine seq_store g83 _ (ints .u32 ([(wv (((((((((((rnds KK (w64 b) s i).h) + ((((((rr ((rnds KK (w64 b) s i).e) 6)) ^^^ ((rr ((rnds KK (w64 b) s i).e) 11)))) ^^^ ((rr ((rnds KK (w64 b) s i).e) 25)))))) + ((((((rnds KK (w64 b) s i).e) &&& ((rnds KK (w64 b) s i).f))) ^^^ ((((~~~((rnds KK (w64 b) s i).e))) &&& ((rnds KK (w64 b) s i).g))))))) + ((wget KK i)))) + ((wget (w64 b) i)))) + ((((((((rr ((rnds KK (w64 b) s i).a) 2)) ^^^ ((rr ((rnds KK (w64 b) s i).a) 13)))) ^^^ ((rr ((rnds KK (w64 b) s i).a) 22)))) + ((((((((rnds KK (w64 b) s i).a) &&& ((rnds KK (w64 b) s i).b))) ^^^ ((((rnds KK (w64 b) s i).a) &&& ((rnds KK (w64 b) s i).c))))) ^^^ ((((rnds KK (w64 b) s i).b) &&& ((rnds KK (w64 b) s i).c))))))))), (wv (rnds KK (w64 b) s i).a), (wv (rnds KK (w64 b) s i).b), (wv (rnds KK (w64 b) s i).c), (wv (((rnds KK (w64 b) s i).d) + ((((((((((rnds KK (w64 b) s i).h) + ((((((rr ((rnds KK (w64 b) s i).e) 6)) ^^^ ((rr ((rnds KK (w64 b) s i).e) 11)))) ^^^ ((rr ((rnds KK (w64 b) s i).e) 25)))))) + ((((((rnds KK (w64 b) s i).e) &&& ((rnds KK (w64 b) s i).f))) ^^^ ((((~~~((rnds KK (w64 b) s i).e))) &&& ((rnds KK (w64 b) s i).g))))))) + ((wget KK i)))) + ((wget (w64 b) i)))))), (wv (rnds KK (w64 b) s i).e), (wv (rnds KK (w64 b) s i).f), (wv (rnds KK (w64 b) s i).g)])) 88 r83_29 rfl kj (run_storeI 84 _ _ g83 0 88 _ _ r83_29 rfl kj kj kj (show 0 < 8 by decide)) fun W30 p30 r83_30 => ?_
          have x30 : Ext w W30 := Puts.ext p30 x29 b83
          refine seq_nil ?_
          refine hK97 _ _ ?_
          try clear hK97 K97
          refine region_lit ?_
          refine seq_val (.int .i64 ((i : Nat) : Int)) 134 rfl kj kj ?_
          refine seq_val (.int .i64 ((i + 1 : Nat) : Int)) 135 rfl kj (run_eq (u := .int .i64 (IntKind.i64.wrap (((i : Nat) : Int) + 1))) kj (congrArg (Value.int .i64) (i64n _ _ (by omega) (by omega)))) ?_
          refine seq_val (.int .i64 ((i + 1 : Nat) : Int)) 16 rfl kj kj ?_
          refine seq_nil ?_
          repeat (first | with_reducible refine goX1 ?_ | with_reducible refine goX2 ?_ | with_reducible refine goX3 ?_)
          exact goes_then (i + 1) ⟨rfl, rfl, rfl, rfl, rfl, rfl, rfl, rfl, trivial⟩ ⟨(by omega), (row_eq r83_30 (by rw [show rnds KK (w64 b) s (i + 1) = rnd (wget KK i) (wget (w64 b) i) (rnds KK (w64 b) s i) from rfl]; generalize rnds KK (w64 b) s i = r; generalize wget KK i = kk; generalize wget (w64 b) i = ww; rfl)), (Keeps.puts (Keeps.puts (Keeps.puts (Keeps.puts (Keeps.puts (Keeps.puts (Keeps.puts (Keeps.puts (Keeps.puts (Keeps.step (Keeps.step q19 e20) e21) p22 (.inl (by simp))) p23 (.inl (by simp))) p24 (.inl (by simp))) p25 (.inl (by simp))) p26 (.inl (by simp))) p27 (.inl (by simp))) p28 (.inl (by simp))) p29 (.inl (by simp))) p30 (.inl (by simp))), x30⟩ (by omega)
        · skip
          have heq133 : i = 64 := by have := of_decide_eq_false c96; omega
          have r83_19_126 : V4.heap[g83]? = some (.cells (ints .u32 ([wv (rnds KK (w64 b) s 64).a, wv (rnds KK (w64 b) s 64).b, wv (rnds KK (w64 b) s 64).c, wv (rnds KK (w64 b) s 64).d, wv (rnds KK (w64 b) s 64).e, wv (rnds KK (w64 b) s 64).f, wv (rnds KK (w64 b) s 64).g, wv (rnds KK (w64 b) s 64).h])) 88) := row_eq q83_4 (by rw [heq133])
          refine wp_exit ?_
          refine hK84 _ _ ?_
          try clear hK84 K84
          refine wp_seq_k fun K127 hK127 => ?_
          refine region_lit ?_
          refine seq_val (.int .i64 0) 20 rfl kj kj ?_
          refine seq_nil ?_
          refine hK127 _ _ ?_
          try clear hK127 K127
          refine wp_block ?_
          refine wp_loop_rounds 9 ?_
          show Code.wp _ _ (Exit.then (Code.rounds _ _ _ 8) _) _ _
          refine wp_seq_k fun K128 hK128 => ?_
          refine wp_seq_k fun K129 hK129 => ?_
          refine region_lit ?_
          refine seq_val (.int .i64 0) 221 rfl kj kj ?_
          refine seq_val (.bool true) 222 rfl kj kj ?_
          refine seq_nil ?_
          refine hK129 _ _ ?_
          try clear hK129 K129
          refine cond_true kj ?_
          refine wp_skip ?_
          refine hK128 _ _ ?_
          try clear hK128 K128
          refine wp_seq_k fun K130 hK130 => ?_
          refine wp_block ?_
          refine any_regionE 8 [⟨none, [(20, none)]⟩, ⟨none, [(20, none)]⟩, ⟨none, [(4, none), (226, some 1)]⟩, ⟨none, [(227, some 2)]⟩, ⟨none, [(20, none)]⟩, ⟨none, [(15, none), (229, some 4)]⟩, ⟨none, [(230, some 5)]⟩, ⟨none, [(228, some 3), (231, some 6)]⟩] kj kj fun F hF => ?_
          refine e_val (rl_ext _) (.int .i64 0) kj kj (fun W => by kernel_rfl) ?_
          refine e_val (rl_ext _) (.int .i64 0) kj kj (fun W => by kernel_rfl) ?_
          refine e_val (rl_ext _) (.pointer (some ⟨g7, 0, none⟩)) kj kj (fun W => by kernel_rfl) ?_
          have r7_17 := (row_ext r7_16 e17)
          have r7_18 := (Puts.row p18 r7_17 (ne_of_old r7_16 l83))
          have r7_19 := (Keeps.row q19 r7_18 (nm_cons (ne_of_old r7_16 l83) nm_nil))
          refine e_read (rl_ext _) (.int .u32 (wv s.a)) kj kj (fun W hR => (run_loadC1 84 _ g7 0 88 _ (.int .u32 (wv s.a)) _ (row_ext (row_ext r7_19 (ext_drew _)) hR) rfl kj kj kj)) ?_
          refine e_val (rl_ext _) (.int .i64 0) kj kj (fun W => by kernel_rfl) ?_
          refine e_val (rl_ext _) (.pointer (some ⟨g83, 0, none⟩)) kj kj (fun W => by kernel_rfl) ?_
          refine e_read (rl_ext _) (.int .u32 (wv (rnds KK (w64 b) s 64).a)) kj kj (fun W hR => (run_loadC1 84 _ g83 0 88 _ (.int .u32 (wv (rnds KK (w64 b) s 64).a)) _ (row_ext (row_ext r83_19_126 (ext_drew _)) hR) rfl kj kj kj)) ?_
          refine e_val (rl_ext _) (.int .u32 (wv ((s.a) + ((rnds KK (w64 b) s 64).a)))) kj kj (fun W => (run_eq (u := .int .u32 (IntKind.u32.wrap (wv s.a + wv ((rnds KK (w64 b) s 64).a)))) kj (congrArg (Value.int .u32) (w_add _ _)))) ?_
          refine e_nil (hF _ fun W20 e20 => ?_)
          simp only [List.nil_append, List.cons_append, List.take_succ_cons, List.take_zero, List.drop_succ_cons, List.drop_zero, finE, up]
          clear hF
          have x20 : Ext w W20 := Ext.tr xx4 e20
          refine seq_val (.pointer (some ⟨g7, 0, none⟩)) 233 rfl kj kj ?_
          have r7_20 := (row_ext r7_19 e20)
          refine seq_store g7 _ (ints .u32 ([(wv ((s.a) + ((rnds KK (w64 b) s 64).a))), wv s.b, wv s.c, wv s.d, wv s.e, wv s.f, wv s.g, wv s.h])) 88 r7_20 rfl kj (run_storeI 84 _ _ g7 0 88 _ _ r7_20 rfl kj kj kj (show 0 < 8 by decide)) fun W21 p21 r7_21 => ?_
          have x21 : Ext w W21 := Puts.ext p21 x20 b7
          refine seq_nil ?_
          refine hK130 _ _ ?_
          try clear hK130 K130
          refine region_lit ?_
          refine seq_val (.int .i64 0) 223 rfl kj kj ?_
          refine seq_val (.int .i64 1) 224 rfl kj kj ?_
          refine seq_val (.int .i64 1) 20 rfl kj kj ?_
          refine seq_nil ?_
          show Code.rounds _ _ _ 8 _ _
          show Code.wp _ _ (Exit.then (Code.rounds _ _ _ 7) _) _ _
          refine wp_seq_k fun K131 hK131 => ?_
          refine wp_seq_k fun K132 hK132 => ?_
          refine region_lit ?_
          refine seq_val (.int .i64 1) 221 rfl kj kj ?_
          refine seq_val (.bool true) 222 rfl kj kj ?_
          refine seq_nil ?_
          refine hK132 _ _ ?_
          try clear hK132 K132
          refine cond_true kj ?_
          refine wp_skip ?_
          refine hK131 _ _ ?_
          try clear hK131 K131
          refine wp_seq_k fun K133 hK133 => ?_
          refine wp_block ?_
          refine any_regionE 8 [⟨none, [(20, none)]⟩, ⟨none, [(20, none)]⟩, ⟨none, [(4, none), (226, some 1)]⟩, ⟨none, [(227, some 2)]⟩, ⟨none, [(20, none)]⟩, ⟨none, [(15, none), (229, some 4)]⟩, ⟨none, [(230, some 5)]⟩, ⟨none, [(228, some 3), (231, some 6)]⟩] kj kj fun F hF => ?_
          refine e_val (rl_ext _) (.int .i64 1) kj kj (fun W => by kernel_rfl) ?_
          refine e_val (rl_ext _) (.int .i64 1) kj kj (fun W => by kernel_rfl) ?_
          refine e_val (rl_ext _) (.pointer (some ⟨g7, 1, none⟩)) kj kj (fun W => by kernel_rfl) ?_
          refine e_read (rl_ext _) (.int .u32 (wv s.b)) kj kj (fun W hR => (run_loadC1 84 _ g7 1 88 _ (.int .u32 (wv s.b)) _ (row_ext (row_ext r7_21 (ext_drew _)) hR) rfl kj kj kj)) ?_
          refine e_val (rl_ext _) (.int .i64 1) kj kj (fun W => by kernel_rfl) ?_
          refine e_val (rl_ext _) (.pointer (some ⟨g83, 1, none⟩)) kj kj (fun W => by kernel_rfl) ?_
          have r83_20 := (row_ext r83_19_126 e20)
          have r83_21 := (Puts.row p21 r83_20 (ne_of_new r7_16 l83))
          refine e_read (rl_ext _) (.int .u32 (wv (rnds KK (w64 b) s 64).b)) kj kj (fun W hR => (run_loadC1 84 _ g83 1 88 _ (.int .u32 (wv (rnds KK (w64 b) s 64).b)) _ (row_ext (row_ext r83_21 (ext_drew _)) hR) rfl kj kj kj)) ?_
          refine e_val (rl_ext _) (.int .u32 (wv ((s.b) + ((rnds KK (w64 b) s 64).b)))) kj kj (fun W => (run_eq (u := .int .u32 (IntKind.u32.wrap (wv s.b + wv ((rnds KK (w64 b) s 64).b)))) kj (congrArg (Value.int .u32) (w_add _ _)))) ?_
          refine e_nil (hF _ fun W22 e22 => ?_)
          simp only [List.nil_append, List.cons_append, List.take_succ_cons, List.take_zero, List.drop_succ_cons, List.drop_zero, finE, up]
          clear hF
          have x22 : Ext w W22 := Ext.tr x21 e22
          refine seq_val (.pointer (some ⟨g7, 1, none⟩)) 233 rfl kj kj ?_
          have r7_22 := (row_ext r7_21 e22)
          refine seq_store g7 _ (ints .u32 ([(wv ((s.a) + ((rnds KK (w64 b) s 64).a))), (wv ((s.b) + ((rnds KK (w64 b) s 64).b))), wv s.c, wv s.d, wv s.e, wv s.f, wv s.g, wv s.h])) 88 r7_22 rfl kj (run_storeI 84 _ _ g7 1 88 _ _ r7_22 rfl kj kj kj (show 1 < 8 by decide)) fun W23 p23 r7_23 => ?_
          have x23 : Ext w W23 := Puts.ext p23 x22 b7
          refine seq_nil ?_
          refine hK133 _ _ ?_
          try clear hK133 K133
          refine region_lit ?_
          refine seq_val (.int .i64 1) 223 rfl kj kj ?_
          refine seq_val (.int .i64 2) 224 rfl kj kj ?_
          refine seq_val (.int .i64 2) 20 rfl kj kj ?_
          refine seq_nil ?_
          show Code.rounds _ _ _ 7 _ _
          show Code.wp _ _ (Exit.then (Code.rounds _ _ _ 6) _) _ _
          refine wp_seq_k fun K134 hK134 => ?_
          refine wp_seq_k fun K135 hK135 => ?_
          refine region_lit ?_
          refine seq_val (.int .i64 2) 221 rfl kj kj ?_
          refine seq_val (.bool true) 222 rfl kj kj ?_
          refine seq_nil ?_
          refine hK135 _ _ ?_
          try clear hK135 K135
          refine cond_true kj ?_
          refine wp_skip ?_
          refine hK134 _ _ ?_
          try clear hK134 K134
          refine wp_seq_k fun K136 hK136 => ?_
          refine wp_block ?_
          refine any_regionE 8 [⟨none, [(20, none)]⟩, ⟨none, [(20, none)]⟩, ⟨none, [(4, none), (226, some 1)]⟩, ⟨none, [(227, some 2)]⟩, ⟨none, [(20, none)]⟩, ⟨none, [(15, none), (229, some 4)]⟩, ⟨none, [(230, some 5)]⟩, ⟨none, [(228, some 3), (231, some 6)]⟩] kj kj fun F hF => ?_
          refine e_val (rl_ext _) (.int .i64 2) kj kj (fun W => by kernel_rfl) ?_
          refine e_val (rl_ext _) (.int .i64 2) kj kj (fun W => by kernel_rfl) ?_
          refine e_val (rl_ext _) (.pointer (some ⟨g7, 2, none⟩)) kj kj (fun W => by kernel_rfl) ?_
          refine e_read (rl_ext _) (.int .u32 (wv s.c)) kj kj (fun W hR => (run_loadC1 84 _ g7 2 88 _ (.int .u32 (wv s.c)) _ (row_ext (row_ext r7_23 (ext_drew _)) hR) rfl kj kj kj)) ?_
          refine e_val (rl_ext _) (.int .i64 2) kj kj (fun W => by kernel_rfl) ?_
          refine e_val (rl_ext _) (.pointer (some ⟨g83, 2, none⟩)) kj kj (fun W => by kernel_rfl) ?_
          have r83_22 := (row_ext r83_21 e22)
          have r83_23 := (Puts.row p23 r83_22 (ne_of_new r7_16 l83))
          refine e_read (rl_ext _) (.int .u32 (wv (rnds KK (w64 b) s 64).c)) kj kj (fun W hR => (run_loadC1 84 _ g83 2 88 _ (.int .u32 (wv (rnds KK (w64 b) s 64).c)) _ (row_ext (row_ext r83_23 (ext_drew _)) hR) rfl kj kj kj)) ?_
          refine e_val (rl_ext _) (.int .u32 (wv ((s.c) + ((rnds KK (w64 b) s 64).c)))) kj kj (fun W => (run_eq (u := .int .u32 (IntKind.u32.wrap (wv s.c + wv ((rnds KK (w64 b) s 64).c)))) kj (congrArg (Value.int .u32) (w_add _ _)))) ?_
          refine e_nil (hF _ fun W24 e24 => ?_)
          simp only [List.nil_append, List.cons_append, List.take_succ_cons, List.take_zero, List.drop_succ_cons, List.drop_zero, finE, up]
          clear hF
          have x24 : Ext w W24 := Ext.tr x23 e24
          refine seq_val (.pointer (some ⟨g7, 2, none⟩)) 233 rfl kj kj ?_
          have r7_24 := (row_ext r7_23 e24)
          refine seq_store g7 _ (ints .u32 ([(wv ((s.a) + ((rnds KK (w64 b) s 64).a))), (wv ((s.b) + ((rnds KK (w64 b) s 64).b))), (wv ((s.c) + ((rnds KK (w64 b) s 64).c))), wv s.d, wv s.e, wv s.f, wv s.g, wv s.h])) 88 r7_24 rfl kj (run_storeI 84 _ _ g7 2 88 _ _ r7_24 rfl kj kj kj (show 2 < 8 by decide)) fun W25 p25 r7_25 => ?_
          have x25 : Ext w W25 := Puts.ext p25 x24 b7
          refine seq_nil ?_
          refine hK136 _ _ ?_
          try clear hK136 K136
          refine region_lit ?_
          refine seq_val (.int .i64 2) 223 rfl kj kj ?_
          refine seq_val (.int .i64 3) 224 rfl kj kj ?_
          refine seq_val (.int .i64 3) 20 rfl kj kj ?_
          refine seq_nil ?_
          show Code.rounds _ _ _ 6 _ _
          show Code.wp _ _ (Exit.then (Code.rounds _ _ _ 5) _) _ _
          refine wp_seq_k fun K137 hK137 => ?_
          refine wp_seq_k fun K138 hK138 => ?_
          refine region_lit ?_
          refine seq_val (.int .i64 3) 221 rfl kj kj ?_
          refine seq_val (.bool true) 222 rfl kj kj ?_
          refine seq_nil ?_
          refine hK138 _ _ ?_
          try clear hK138 K138
          refine cond_true kj ?_
          refine wp_skip ?_
          refine hK137 _ _ ?_
          try clear hK137 K137
          refine wp_seq_k fun K139 hK139 => ?_
          refine wp_block ?_
          refine any_regionE 8 [⟨none, [(20, none)]⟩, ⟨none, [(20, none)]⟩, ⟨none, [(4, none), (226, some 1)]⟩, ⟨none, [(227, some 2)]⟩, ⟨none, [(20, none)]⟩, ⟨none, [(15, none), (229, some 4)]⟩, ⟨none, [(230, some 5)]⟩, ⟨none, [(228, some 3), (231, some 6)]⟩] kj kj fun F hF => ?_
          refine e_val (rl_ext _) (.int .i64 3) kj kj (fun W => by kernel_rfl) ?_
          refine e_val (rl_ext _) (.int .i64 3) kj kj (fun W => by kernel_rfl) ?_
          refine e_val (rl_ext _) (.pointer (some ⟨g7, 3, none⟩)) kj kj (fun W => by kernel_rfl) ?_
          refine e_read (rl_ext _) (.int .u32 (wv s.d)) kj kj (fun W hR => (run_loadC1 84 _ g7 3 88 _ (.int .u32 (wv s.d)) _ (row_ext (row_ext r7_25 (ext_drew _)) hR) rfl kj kj kj)) ?_
          refine e_val (rl_ext _) (.int .i64 3) kj kj (fun W => by kernel_rfl) ?_
          refine e_val (rl_ext _) (.pointer (some ⟨g83, 3, none⟩)) kj kj (fun W => by kernel_rfl) ?_
          have r83_24 := (row_ext r83_23 e24)
          have r83_25 := (Puts.row p25 r83_24 (ne_of_new r7_16 l83))
          refine e_read (rl_ext _) (.int .u32 (wv (rnds KK (w64 b) s 64).d)) kj kj (fun W hR => (run_loadC1 84 _ g83 3 88 _ (.int .u32 (wv (rnds KK (w64 b) s 64).d)) _ (row_ext (row_ext r83_25 (ext_drew _)) hR) rfl kj kj kj)) ?_
          refine e_val (rl_ext _) (.int .u32 (wv ((s.d) + ((rnds KK (w64 b) s 64).d)))) kj kj (fun W => (run_eq (u := .int .u32 (IntKind.u32.wrap (wv s.d + wv ((rnds KK (w64 b) s 64).d)))) kj (congrArg (Value.int .u32) (w_add _ _)))) ?_
          refine e_nil (hF _ fun W26 e26 => ?_)
          simp only [List.nil_append, List.cons_append, List.take_succ_cons, List.take_zero, List.drop_succ_cons, List.drop_zero, finE, up]
          clear hF
          have x26 : Ext w W26 := Ext.tr x25 e26
          refine seq_val (.pointer (some ⟨g7, 3, none⟩)) 233 rfl kj kj ?_
          have r7_26 := (row_ext r7_25 e26)
          refine seq_store g7 _ (ints .u32 ([(wv ((s.a) + ((rnds KK (w64 b) s 64).a))), (wv ((s.b) + ((rnds KK (w64 b) s 64).b))), (wv ((s.c) + ((rnds KK (w64 b) s 64).c))), (wv ((s.d) + ((rnds KK (w64 b) s 64).d))), wv s.e, wv s.f, wv s.g, wv s.h])) 88 r7_26 rfl kj (run_storeI 84 _ _ g7 3 88 _ _ r7_26 rfl kj kj kj (show 3 < 8 by decide)) fun W27 p27 r7_27 => ?_
          have x27 : Ext w W27 := Puts.ext p27 x26 b7
          refine seq_nil ?_
          refine hK139 _ _ ?_
          try clear hK139 K139
          refine region_lit ?_
          refine seq_val (.int .i64 3) 223 rfl kj kj ?_
          refine seq_val (.int .i64 4) 224 rfl kj kj ?_
          refine seq_val (.int .i64 4) 20 rfl kj kj ?_
          refine seq_nil ?_
          show Code.rounds _ _ _ 5 _ _
          show Code.wp _ _ (Exit.then (Code.rounds _ _ _ 4) _) _ _
          refine wp_seq_k fun K140 hK140 => ?_
          refine wp_seq_k fun K141 hK141 => ?_
          refine region_lit ?_
          refine seq_val (.int .i64 4) 221 rfl kj kj ?_
          refine seq_val (.bool true) 222 rfl kj kj ?_
          refine seq_nil ?_
          refine hK141 _ _ ?_
          try clear hK141 K141
          refine cond_true kj ?_
          refine wp_skip ?_
          refine hK140 _ _ ?_
          try clear hK140 K140
          refine wp_seq_k fun K142 hK142 => ?_
          refine wp_block ?_
          refine any_regionE 8 [⟨none, [(20, none)]⟩, ⟨none, [(20, none)]⟩, ⟨none, [(4, none), (226, some 1)]⟩, ⟨none, [(227, some 2)]⟩, ⟨none, [(20, none)]⟩, ⟨none, [(15, none), (229, some 4)]⟩, ⟨none, [(230, some 5)]⟩, ⟨none, [(228, some 3), (231, some 6)]⟩] kj kj fun F hF => ?_
          refine e_val (rl_ext _) (.int .i64 4) kj kj (fun W => by kernel_rfl) ?_
          refine e_val (rl_ext _) (.int .i64 4) kj kj (fun W => by kernel_rfl) ?_
          refine e_val (rl_ext _) (.pointer (some ⟨g7, 4, none⟩)) kj kj (fun W => by kernel_rfl) ?_
          refine e_read (rl_ext _) (.int .u32 (wv s.e)) kj kj (fun W hR => (run_loadC1 84 _ g7 4 88 _ (.int .u32 (wv s.e)) _ (row_ext (row_ext r7_27 (ext_drew _)) hR) rfl kj kj kj)) ?_
          refine e_val (rl_ext _) (.int .i64 4) kj kj (fun W => by kernel_rfl) ?_
          refine e_val (rl_ext _) (.pointer (some ⟨g83, 4, none⟩)) kj kj (fun W => by kernel_rfl) ?_
          have r83_26 := (row_ext r83_25 e26)
          have r83_27 := (Puts.row p27 r83_26 (ne_of_new r7_16 l83))
          refine e_read (rl_ext _) (.int .u32 (wv (rnds KK (w64 b) s 64).e)) kj kj (fun W hR => (run_loadC1 84 _ g83 4 88 _ (.int .u32 (wv (rnds KK (w64 b) s 64).e)) _ (row_ext (row_ext r83_27 (ext_drew _)) hR) rfl kj kj kj)) ?_
          refine e_val (rl_ext _) (.int .u32 (wv ((s.e) + ((rnds KK (w64 b) s 64).e)))) kj kj (fun W => (run_eq (u := .int .u32 (IntKind.u32.wrap (wv s.e + wv ((rnds KK (w64 b) s 64).e)))) kj (congrArg (Value.int .u32) (w_add _ _)))) ?_
          refine e_nil (hF _ fun W28 e28 => ?_)
          simp only [List.nil_append, List.cons_append, List.take_succ_cons, List.take_zero, List.drop_succ_cons, List.drop_zero, finE, up]
          clear hF
          have x28 : Ext w W28 := Ext.tr x27 e28
          refine seq_val (.pointer (some ⟨g7, 4, none⟩)) 233 rfl kj kj ?_
          have r7_28 := (row_ext r7_27 e28)
          refine seq_store g7 _ (ints .u32 ([(wv ((s.a) + ((rnds KK (w64 b) s 64).a))), (wv ((s.b) + ((rnds KK (w64 b) s 64).b))), (wv ((s.c) + ((rnds KK (w64 b) s 64).c))), (wv ((s.d) + ((rnds KK (w64 b) s 64).d))), (wv ((s.e) + ((rnds KK (w64 b) s 64).e))), wv s.f, wv s.g, wv s.h])) 88 r7_28 rfl kj (run_storeI 84 _ _ g7 4 88 _ _ r7_28 rfl kj kj kj (show 4 < 8 by decide)) fun W29 p29 r7_29 => ?_
          have x29 : Ext w W29 := Puts.ext p29 x28 b7
          refine seq_nil ?_
          refine hK142 _ _ ?_
          try clear hK142 K142
          refine region_lit ?_
          refine seq_val (.int .i64 4) 223 rfl kj kj ?_
          refine seq_val (.int .i64 5) 224 rfl kj kj ?_
          refine seq_val (.int .i64 5) 20 rfl kj kj ?_
          refine seq_nil ?_
          show Code.rounds _ _ _ 4 _ _
          show Code.wp _ _ (Exit.then (Code.rounds _ _ _ 3) _) _ _
          refine wp_seq_k fun K143 hK143 => ?_
          refine wp_seq_k fun K144 hK144 => ?_
          refine region_lit ?_
          refine seq_val (.int .i64 5) 221 rfl kj kj ?_
          refine seq_val (.bool true) 222 rfl kj kj ?_
          refine seq_nil ?_
          refine hK144 _ _ ?_
          try clear hK144 K144
          refine cond_true kj ?_
          refine wp_skip ?_
          refine hK143 _ _ ?_
          try clear hK143 K143
          refine wp_seq_k fun K145 hK145 => ?_
          refine wp_block ?_
          refine any_regionE 8 [⟨none, [(20, none)]⟩, ⟨none, [(20, none)]⟩, ⟨none, [(4, none), (226, some 1)]⟩, ⟨none, [(227, some 2)]⟩, ⟨none, [(20, none)]⟩, ⟨none, [(15, none), (229, some 4)]⟩, ⟨none, [(230, some 5)]⟩, ⟨none, [(228, some 3), (231, some 6)]⟩] kj kj fun F hF => ?_
          refine e_val (rl_ext _) (.int .i64 5) kj kj (fun W => by kernel_rfl) ?_
          refine e_val (rl_ext _) (.int .i64 5) kj kj (fun W => by kernel_rfl) ?_
          refine e_val (rl_ext _) (.pointer (some ⟨g7, 5, none⟩)) kj kj (fun W => by kernel_rfl) ?_
          refine e_read (rl_ext _) (.int .u32 (wv s.f)) kj kj (fun W hR => (run_loadC1 84 _ g7 5 88 _ (.int .u32 (wv s.f)) _ (row_ext (row_ext r7_29 (ext_drew _)) hR) rfl kj kj kj)) ?_
          refine e_val (rl_ext _) (.int .i64 5) kj kj (fun W => by kernel_rfl) ?_
          refine e_val (rl_ext _) (.pointer (some ⟨g83, 5, none⟩)) kj kj (fun W => by kernel_rfl) ?_
          have r83_28 := (row_ext r83_27 e28)
          have r83_29 := (Puts.row p29 r83_28 (ne_of_new r7_16 l83))
          refine e_read (rl_ext _) (.int .u32 (wv (rnds KK (w64 b) s 64).f)) kj kj (fun W hR => (run_loadC1 84 _ g83 5 88 _ (.int .u32 (wv (rnds KK (w64 b) s 64).f)) _ (row_ext (row_ext r83_29 (ext_drew _)) hR) rfl kj kj kj)) ?_
          refine e_val (rl_ext _) (.int .u32 (wv ((s.f) + ((rnds KK (w64 b) s 64).f)))) kj kj (fun W => (run_eq (u := .int .u32 (IntKind.u32.wrap (wv s.f + wv ((rnds KK (w64 b) s 64).f)))) kj (congrArg (Value.int .u32) (w_add _ _)))) ?_
          refine e_nil (hF _ fun W30 e30 => ?_)
          simp only [List.nil_append, List.cons_append, List.take_succ_cons, List.take_zero, List.drop_succ_cons, List.drop_zero, finE, up]
          clear hF
          have x30 : Ext w W30 := Ext.tr x29 e30
          refine seq_val (.pointer (some ⟨g7, 5, none⟩)) 233 rfl kj kj ?_
          have r7_30 := (row_ext r7_29 e30)
          refine seq_store g7 _ (ints .u32 ([(wv ((s.a) + ((rnds KK (w64 b) s 64).a))), (wv ((s.b) + ((rnds KK (w64 b) s 64).b))), (wv ((s.c) + ((rnds KK (w64 b) s 64).c))), (wv ((s.d) + ((rnds KK (w64 b) s 64).d))), (wv ((s.e) + ((rnds KK (w64 b) s 64).e))), (wv ((s.f) + ((rnds KK (w64 b) s 64).f))), wv s.g, wv s.h])) 88 r7_30 rfl kj (run_storeI 84 _ _ g7 5 88 _ _ r7_30 rfl kj kj kj (show 5 < 8 by decide)) fun W31 p31 r7_31 => ?_
          have x31 : Ext w W31 := Puts.ext p31 x30 b7
          refine seq_nil ?_
          refine hK145 _ _ ?_
          try clear hK145 K145
          refine region_lit ?_
          refine seq_val (.int .i64 5) 223 rfl kj kj ?_
          refine seq_val (.int .i64 6) 224 rfl kj kj ?_
          refine seq_val (.int .i64 6) 20 rfl kj kj ?_
          refine seq_nil ?_
          show Code.rounds _ _ _ 3 _ _
          show Code.wp _ _ (Exit.then (Code.rounds _ _ _ 2) _) _ _
          refine wp_seq_k fun K146 hK146 => ?_
          refine wp_seq_k fun K147 hK147 => ?_
          refine region_lit ?_
          refine seq_val (.int .i64 6) 221 rfl kj kj ?_
          refine seq_val (.bool true) 222 rfl kj kj ?_
          refine seq_nil ?_
          refine hK147 _ _ ?_
          try clear hK147 K147
          refine cond_true kj ?_
          refine wp_skip ?_
          refine hK146 _ _ ?_
          try clear hK146 K146
          refine wp_seq_k fun K148 hK148 => ?_
          refine wp_block ?_
          refine any_regionE 8 [⟨none, [(20, none)]⟩, ⟨none, [(20, none)]⟩, ⟨none, [(4, none), (226, some 1)]⟩, ⟨none, [(227, some 2)]⟩, ⟨none, [(20, none)]⟩, ⟨none, [(15, none), (229, some 4)]⟩, ⟨none, [(230, some 5)]⟩, ⟨none, [(228, some 3), (231, some 6)]⟩] kj kj fun F hF => ?_
          refine e_val (rl_ext _) (.int .i64 6) kj kj (fun W => by kernel_rfl) ?_
          refine e_val (rl_ext _) (.int .i64 6) kj kj (fun W => by kernel_rfl) ?_
          refine e_val (rl_ext _) (.pointer (some ⟨g7, 6, none⟩)) kj kj (fun W => by kernel_rfl) ?_
          refine e_read (rl_ext _) (.int .u32 (wv s.g)) kj kj (fun W hR => (run_loadC1 84 _ g7 6 88 _ (.int .u32 (wv s.g)) _ (row_ext (row_ext r7_31 (ext_drew _)) hR) rfl kj kj kj)) ?_
          refine e_val (rl_ext _) (.int .i64 6) kj kj (fun W => by kernel_rfl) ?_
          refine e_val (rl_ext _) (.pointer (some ⟨g83, 6, none⟩)) kj kj (fun W => by kernel_rfl) ?_
          have r83_30 := (row_ext r83_29 e30)
          have r83_31 := (Puts.row p31 r83_30 (ne_of_new r7_16 l83))
          refine e_read (rl_ext _) (.int .u32 (wv (rnds KK (w64 b) s 64).g)) kj kj (fun W hR => (run_loadC1 84 _ g83 6 88 _ (.int .u32 (wv (rnds KK (w64 b) s 64).g)) _ (row_ext (row_ext r83_31 (ext_drew _)) hR) rfl kj kj kj)) ?_
          refine e_val (rl_ext _) (.int .u32 (wv ((s.g) + ((rnds KK (w64 b) s 64).g)))) kj kj (fun W => (run_eq (u := .int .u32 (IntKind.u32.wrap (wv s.g + wv ((rnds KK (w64 b) s 64).g)))) kj (congrArg (Value.int .u32) (w_add _ _)))) ?_
          refine e_nil (hF _ fun W32 e32 => ?_)
          simp only [List.nil_append, List.cons_append, List.take_succ_cons, List.take_zero, List.drop_succ_cons, List.drop_zero, finE, up]
          clear hF
          have x32 : Ext w W32 := Ext.tr x31 e32
          refine seq_val (.pointer (some ⟨g7, 6, none⟩)) 233 rfl kj kj ?_
          have r7_32 := (row_ext r7_31 e32)
          refine seq_store g7 _ (ints .u32 ([(wv ((s.a) + ((rnds KK (w64 b) s 64).a))), (wv ((s.b) + ((rnds KK (w64 b) s 64).b))), (wv ((s.c) + ((rnds KK (w64 b) s 64).c))), (wv ((s.d) + ((rnds KK (w64 b) s 64).d))), (wv ((s.e) + ((rnds KK (w64 b) s 64).e))), (wv ((s.f) + ((rnds KK (w64 b) s 64).f))), (wv ((s.g) + ((rnds KK (w64 b) s 64).g))), wv s.h])) 88 r7_32 rfl kj (run_storeI 84 _ _ g7 6 88 _ _ r7_32 rfl kj kj kj (show 6 < 8 by decide)) fun W33 p33 r7_33 => ?_
          have x33 : Ext w W33 := Puts.ext p33 x32 b7
          refine seq_nil ?_
          refine hK148 _ _ ?_
          try clear hK148 K148
          refine region_lit ?_
          refine seq_val (.int .i64 6) 223 rfl kj kj ?_
          refine seq_val (.int .i64 7) 224 rfl kj kj ?_
          refine seq_val (.int .i64 7) 20 rfl kj kj ?_
          refine seq_nil ?_
          show Code.rounds _ _ _ 2 _ _
          show Code.wp _ _ (Exit.then (Code.rounds _ _ _ 1) _) _ _
          refine wp_seq_k fun K149 hK149 => ?_
          refine wp_seq_k fun K150 hK150 => ?_
          refine region_lit ?_
          refine seq_val (.int .i64 7) 221 rfl kj kj ?_
          refine seq_val (.bool true) 222 rfl kj kj ?_
          refine seq_nil ?_
          refine hK150 _ _ ?_
          try clear hK150 K150
          refine cond_true kj ?_
          refine wp_skip ?_
          refine hK149 _ _ ?_
          try clear hK149 K149
          refine wp_seq_k fun K151 hK151 => ?_
          refine wp_block ?_
          refine any_regionE 8 [⟨none, [(20, none)]⟩, ⟨none, [(20, none)]⟩, ⟨none, [(4, none), (226, some 1)]⟩, ⟨none, [(227, some 2)]⟩, ⟨none, [(20, none)]⟩, ⟨none, [(15, none), (229, some 4)]⟩, ⟨none, [(230, some 5)]⟩, ⟨none, [(228, some 3), (231, some 6)]⟩] kj kj fun F hF => ?_
          refine e_val (rl_ext _) (.int .i64 7) kj kj (fun W => by kernel_rfl) ?_
          refine e_val (rl_ext _) (.int .i64 7) kj kj (fun W => by kernel_rfl) ?_
          refine e_val (rl_ext _) (.pointer (some ⟨g7, 7, none⟩)) kj kj (fun W => by kernel_rfl) ?_
          refine e_read (rl_ext _) (.int .u32 (wv s.h)) kj kj (fun W hR => (run_loadC1 84 _ g7 7 88 _ (.int .u32 (wv s.h)) _ (row_ext (row_ext r7_33 (ext_drew _)) hR) rfl kj kj kj)) ?_
          refine e_val (rl_ext _) (.int .i64 7) kj kj (fun W => by kernel_rfl) ?_
          refine e_val (rl_ext _) (.pointer (some ⟨g83, 7, none⟩)) kj kj (fun W => by kernel_rfl) ?_
          have r83_32 := (row_ext r83_31 e32)
          have r83_33 := (Puts.row p33 r83_32 (ne_of_new r7_16 l83))
          refine e_read (rl_ext _) (.int .u32 (wv (rnds KK (w64 b) s 64).h)) kj kj (fun W hR => (run_loadC1 84 _ g83 7 88 _ (.int .u32 (wv (rnds KK (w64 b) s 64).h)) _ (row_ext (row_ext r83_33 (ext_drew _)) hR) rfl kj kj kj)) ?_
          refine e_val (rl_ext _) (.int .u32 (wv ((s.h) + ((rnds KK (w64 b) s 64).h)))) kj kj (fun W => (run_eq (u := .int .u32 (IntKind.u32.wrap (wv s.h + wv ((rnds KK (w64 b) s 64).h)))) kj (congrArg (Value.int .u32) (w_add _ _)))) ?_
          refine e_nil (hF _ fun W34 e34 => ?_)
          simp only [List.nil_append, List.cons_append, List.take_succ_cons, List.take_zero, List.drop_succ_cons, List.drop_zero, finE, up]
          clear hF
          have x34 : Ext w W34 := Ext.tr x33 e34
          refine seq_val (.pointer (some ⟨g7, 7, none⟩)) 233 rfl kj kj ?_
          have r7_34 := (row_ext r7_33 e34)
          refine seq_store g7 _ (ints .u32 ([(wv ((s.a) + ((rnds KK (w64 b) s 64).a))), (wv ((s.b) + ((rnds KK (w64 b) s 64).b))), (wv ((s.c) + ((rnds KK (w64 b) s 64).c))), (wv ((s.d) + ((rnds KK (w64 b) s 64).d))), (wv ((s.e) + ((rnds KK (w64 b) s 64).e))), (wv ((s.f) + ((rnds KK (w64 b) s 64).f))), (wv ((s.g) + ((rnds KK (w64 b) s 64).g))), (wv ((s.h) + ((rnds KK (w64 b) s 64).h)))])) 88 r7_34 rfl kj (run_storeI 84 _ _ g7 7 88 _ _ r7_34 rfl kj kj kj (show 7 < 8 by decide)) fun W35 p35 r7_35 => ?_
          have x35 : Ext w W35 := Puts.ext p35 x34 b7
          refine seq_nil ?_
          refine hK151 _ _ ?_
          try clear hK151 K151
          refine region_lit ?_
          refine seq_val (.int .i64 7) 223 rfl kj kj ?_
          refine seq_val (.int .i64 8) 224 rfl kj kj ?_
          refine seq_val (.int .i64 8) 20 rfl kj kj ?_
          refine seq_nil ?_
          show Code.rounds _ _ _ 1 _ _
          show Code.wp _ _ (Exit.then (Code.rounds _ _ _ 0) _) _ _
          refine wp_seq_k fun K152 hK152 => ?_
          refine wp_seq_k fun K153 hK153 => ?_
          refine region_lit ?_
          refine seq_val (.int .i64 8) 221 rfl kj kj ?_
          refine seq_val (.bool false) 222 rfl kj kj ?_
          refine seq_nil ?_
          refine hK153 _ _ ?_
          try clear hK153 K153
          refine cond_false kj ?_
          refine wp_exit ?_
          refine hK48 _ _ ?_
          try clear hK48 K48
          refine region_lit ?_
          refine seq_val (.int .i64 ((64 * m : Nat) : Int)) 43 rfl kj kj ?_
          refine seq_val (.int .i64 (((64 * m) + 64 : Nat) : Int)) 44 rfl kj (run_eq (u := .int .i64 (IntKind.i64.wrap (((64 * m : Nat) : Int) + 64))) kj (congrArg (Value.int .i64) (i64n _ _ (by omega) (by omega)))) ?_
          refine seq_val (.int .i64 (((64 * m) + 64 : Nat) : Int)) 8 rfl kj kj ?_
          refine seq_nil ?_
          repeat (first | with_reducible refine goX1 ?_ | with_reducible refine goX2 ?_ | with_reducible refine goX3 ?_)
          exact goes_then (m + 1) ⟨rfl, rfl, rfl, rfl, rfl, trivial⟩ ⟨(by omega), (row_eq r7_35 (by subst hs; subst hb; rfl)), (Keeps.puts (Keeps.step (Keeps.puts (Keeps.step (Keeps.puts (Keeps.step (Keeps.puts (Keeps.step (Keeps.puts (Keeps.step (Keeps.puts (Keeps.step (Keeps.puts (Keeps.step (Keeps.puts (Keeps.step (Keeps.keeps (Keeps.puts (Keeps.step (Keeps.low (Keeps.step q14 e15) l16 (Nat.le_trans (Keeps.size q14) (Nat.le_refl _))) e17) p18 (.inr (Nat.le_trans (Keeps.size q14) (Nat.le_trans (Nat.le_trans (Nat.le_trans (Nat.le_refl _) e15.size) l16.size) l83)))) q19 (oa_cons (.inr (Nat.le_trans (Keeps.size q14) (Nat.le_trans (Nat.le_trans (Nat.le_trans (Nat.le_refl _) e15.size) l16.size) l83))) oa_nil)) e20) p21 (.inl (by simp))) e22) p23 (.inl (by simp))) e24) p25 (.inl (by simp))) e26) p27 (.inl (by simp))) e28) p29 (.inl (by simp))) e30) p31 (.inl (by simp))) e32) p33 (.inl (by simp))) e34) p35 (.inl (by simp))), x35⟩ (by omega)
  · skip
    have heq42 : m = q := by have := of_decide_eq_false c46; omega
    have r7_14_154 : V1.heap[g7]? = some (.cells (ints .u32 ([wv (absorb S0 (padT t) q).a, wv (absorb S0 (padT t) q).b, wv (absorb S0 (padT t) q).c, wv (absorb S0 (padT t) q).d, wv (absorb S0 (padT t) q).e, wv (absorb S0 (padT t) q).f, wv (absorb S0 (padT t) q).g, wv (absorb S0 (padT t) q).h])) 88) := row_eq q7_1 (by rw [heq42])
    refine wp_exit ?_
    refine hK42 _ _ ?_
    try clear hK42 K42
    refine wp_seq_k fun K155 hK155 => ?_
    refine region_lit ?_
    refine seq_alloc (ints .u8 ([0, 0, 0, 0, 0, 0, 0, 0, 0, 0, 0, 0, 0, 0, 0, 0, 0, 0, 0, 0, 0, 0, 0, 0, 0, 0, 0, 0, 0, 0, 0, 0])) 26 21 rfl kj kj fun g156 W15 l156 e15 r156_15 => ?_
    have x15 : Ext w W15 := Ext.tr xx1 e15
    have b156 : w.heap.size ≤ g156 := Nat.le_trans xx1.size l156
    refine seq_nil ?_
    refine hK155 _ _ ?_
    try clear hK155 K155
    refine wp_seq_k fun K157 hK157 => ?_
    refine wp_seq_k fun K158 hK158 => ?_
    refine region_lit ?_
    refine seq_val (.int .i64 0) 22 rfl kj kj ?_
    refine seq_nil ?_
    refine hK158 _ _ ?_
    try clear hK158 K158
    refine wp_block ?_
    refine wp_loop_rounds 33 ?_
    show Code.wp _ _ (Exit.then (Code.rounds _ _ _ 32) _) _ _
    refine wp_seq_k fun K159 hK159 => ?_
    refine wp_seq_k fun K160 hK160 => ?_
    refine region_lit ?_
    refine seq_val (.int .i64 0) 234 rfl kj kj ?_
    refine seq_val (.bool true) 235 rfl kj kj ?_
    refine seq_nil ?_
    refine hK160 _ _ ?_
    try clear hK160 K160
    refine cond_true kj ?_
    refine wp_skip ?_
    refine hK159 _ _ ?_
    try clear hK159 K159
    refine wp_seq_k fun K161 hK161 => ?_
    refine wp_block ?_
    refine region_lit ?_
    refine seq_val (.int .i64 0) 238 rfl kj kj ?_
    refine seq_val (.int .i64 0) 239 rfl kj kj ?_
    refine seq_val (.int .i64 0) 240 rfl kj kj ?_
    refine seq_val (.pointer (some ⟨g7, 0, none⟩)) 241 rfl kj kj ?_
    have r7_15 := (row_ext r7_14_154 e15)
    refine seq_val (.int .u32 (wv (absorb S0 (padT t) q).a)) 242 rfl kj (run_loadC1 84 _ g7 0 88 _ (.int .u32 (wv (absorb S0 (padT t) q).a)) _ r7_15 rfl kj kj kj) ?_
    refine seq_val (.int .i64 0) 243 rfl kj kj ?_
    refine seq_val (.int .i64 0) 244 rfl kj kj ?_
    refine seq_val (.int .i64 0) 245 rfl kj kj ?_
    refine seq_val (.int .i64 24) 246 rfl kj kj ?_
    refine seq_val (.int .u64 24) 247 rfl kj kj ?_
    refine seq_val (.int .u32 (wv (((absorb S0 (padT t) q).a) >>> 24))) 248 rfl kj (run_bin .shr _ _ _ _ .u32 .u64 _ _ _ rfl kj kj (b_shr _ _ _ _ _ _ (by decide) (w_shr _ _ 24 rfl (by decide)))) ?_
    refine seq_val (.int .u8 ((((absorb S0 (padT t) q).a.toNat / 16777216 % 256 : Nat) : Int))) 249 rfl kj (run_eq (u := .int .u8 (IntKind.u8.wrap (wv (((absorb S0 (padT t) q).a) >>> 24)))) kj (congrArg (Value.int .u8) (w_byte (absorb S0 (padT t) q).a 24 16777216 (by decide)))) ?_
    refine seq_val (.pointer (some ⟨g156, 0, none⟩)) 250 rfl kj kj ?_
    refine seq_store g156 _ (ints .u8 ([((((absorb S0 (padT t) q).a.toNat / 16777216 % 256 : Nat) : Int)), 0, 0, 0, 0, 0, 0, 0, 0, 0, 0, 0, 0, 0, 0, 0, 0, 0, 0, 0, 0, 0, 0, 0, 0, 0, 0, 0, 0, 0, 0, 0])) 26 r156_15 rfl kj (run_storeI 5 _ _ g156 0 26 _ _ r156_15 rfl kj kj kj (show 0 < 32 by decide)) fun W16 p16 r156_16 => ?_
    have x16 : Ext w W16 := Puts.ext p16 x15 b156
    refine seq_nil ?_
    refine hK161 _ _ ?_
    try clear hK161 K161
    refine region_lit ?_
    refine seq_val (.int .i64 0) 236 rfl kj kj ?_
    refine seq_val (.int .i64 1) 237 rfl kj kj ?_
    refine seq_val (.int .i64 1) 22 rfl kj kj ?_
    refine seq_nil ?_
    show Code.rounds _ _ _ 32 _ _
    show Code.wp _ _ (Exit.then (Code.rounds _ _ _ 31) _) _ _
    refine wp_seq_k fun K162 hK162 => ?_
    refine wp_seq_k fun K163 hK163 => ?_
    refine region_lit ?_
    refine seq_val (.int .i64 1) 234 rfl kj kj ?_
    refine seq_val (.bool true) 235 rfl kj kj ?_
    refine seq_nil ?_
    refine hK163 _ _ ?_
    try clear hK163 K163
    refine cond_true kj ?_
    refine wp_skip ?_
    refine hK162 _ _ ?_
    try clear hK162 K162
    refine wp_seq_k fun K164 hK164 => ?_
    refine wp_block ?_
    refine region_lit ?_
    refine seq_val (.int .i64 1) 238 rfl kj kj ?_
    refine seq_val (.int .i64 1) 239 rfl kj kj ?_
    refine seq_val (.int .i64 0) 240 rfl kj kj ?_
    refine seq_val (.pointer (some ⟨g7, 0, none⟩)) 241 rfl kj kj ?_
    have r7_16 := (Puts.row p16 r7_15 (ne_of_old r7_14_154 l156))
    refine seq_val (.int .u32 (wv (absorb S0 (padT t) q).a)) 242 rfl kj (run_loadC1 84 _ g7 0 88 _ (.int .u32 (wv (absorb S0 (padT t) q).a)) _ r7_16 rfl kj kj kj) ?_
    refine seq_val (.int .i64 1) 243 rfl kj kj ?_
    refine seq_val (.int .i64 1) 244 rfl kj kj ?_
    refine seq_val (.int .i64 8) 245 rfl kj kj ?_
    refine seq_val (.int .i64 16) 246 rfl kj kj ?_
    refine seq_val (.int .u64 16) 247 rfl kj kj ?_
    refine seq_val (.int .u32 (wv (((absorb S0 (padT t) q).a) >>> 16))) 248 rfl kj (run_bin .shr _ _ _ _ .u32 .u64 _ _ _ rfl kj kj (b_shr _ _ _ _ _ _ (by decide) (w_shr _ _ 16 rfl (by decide)))) ?_
    refine seq_val (.int .u8 ((((absorb S0 (padT t) q).a.toNat / 65536 % 256 : Nat) : Int))) 249 rfl kj (run_eq (u := .int .u8 (IntKind.u8.wrap (wv (((absorb S0 (padT t) q).a) >>> 16)))) kj (congrArg (Value.int .u8) (w_byte (absorb S0 (padT t) q).a 16 65536 (by decide)))) ?_
    refine seq_val (.pointer (some ⟨g156, 1, none⟩)) 250 rfl kj kj ?_
    refine seq_store g156 _ (ints .u8 ([((((absorb S0 (padT t) q).a.toNat / 16777216 % 256 : Nat) : Int)), ((((absorb S0 (padT t) q).a.toNat / 65536 % 256 : Nat) : Int)), 0, 0, 0, 0, 0, 0, 0, 0, 0, 0, 0, 0, 0, 0, 0, 0, 0, 0, 0, 0, 0, 0, 0, 0, 0, 0, 0, 0, 0, 0])) 26 r156_16 rfl kj (run_storeI 5 _ _ g156 1 26 _ _ r156_16 rfl kj kj kj (show 1 < 32 by decide)) fun W17 p17 r156_17 => ?_
    have x17 : Ext w W17 := Puts.ext p17 x16 b156
    refine seq_nil ?_
    refine hK164 _ _ ?_
    try clear hK164 K164
    refine region_lit ?_
    refine seq_val (.int .i64 1) 236 rfl kj kj ?_
    refine seq_val (.int .i64 2) 237 rfl kj kj ?_
    refine seq_val (.int .i64 2) 22 rfl kj kj ?_
    refine seq_nil ?_
    show Code.rounds _ _ _ 31 _ _
    show Code.wp _ _ (Exit.then (Code.rounds _ _ _ 30) _) _ _
    refine wp_seq_k fun K165 hK165 => ?_
    refine wp_seq_k fun K166 hK166 => ?_
    refine region_lit ?_
    refine seq_val (.int .i64 2) 234 rfl kj kj ?_
    refine seq_val (.bool true) 235 rfl kj kj ?_
    refine seq_nil ?_
    refine hK166 _ _ ?_
    try clear hK166 K166
    refine cond_true kj ?_
    refine wp_skip ?_
    refine hK165 _ _ ?_
    try clear hK165 K165
    refine wp_seq_k fun K167 hK167 => ?_
    refine wp_block ?_
    refine region_lit ?_
    refine seq_val (.int .i64 2) 238 rfl kj kj ?_
    refine seq_val (.int .i64 2) 239 rfl kj kj ?_
    refine seq_val (.int .i64 0) 240 rfl kj kj ?_
    refine seq_val (.pointer (some ⟨g7, 0, none⟩)) 241 rfl kj kj ?_
    have r7_17 := (Puts.row p17 r7_16 (ne_of_old r7_14_154 l156))
    refine seq_val (.int .u32 (wv (absorb S0 (padT t) q).a)) 242 rfl kj (run_loadC1 84 _ g7 0 88 _ (.int .u32 (wv (absorb S0 (padT t) q).a)) _ r7_17 rfl kj kj kj) ?_
    refine seq_val (.int .i64 2) 243 rfl kj kj ?_
    refine seq_val (.int .i64 2) 244 rfl kj kj ?_
    refine seq_val (.int .i64 16) 245 rfl kj kj ?_
    refine seq_val (.int .i64 8) 246 rfl kj kj ?_
    refine seq_val (.int .u64 8) 247 rfl kj kj ?_
    refine seq_val (.int .u32 (wv (((absorb S0 (padT t) q).a) >>> 8))) 248 rfl kj (run_bin .shr _ _ _ _ .u32 .u64 _ _ _ rfl kj kj (b_shr _ _ _ _ _ _ (by decide) (w_shr _ _ 8 rfl (by decide)))) ?_
    refine seq_val (.int .u8 ((((absorb S0 (padT t) q).a.toNat / 256 % 256 : Nat) : Int))) 249 rfl kj (run_eq (u := .int .u8 (IntKind.u8.wrap (wv (((absorb S0 (padT t) q).a) >>> 8)))) kj (congrArg (Value.int .u8) (w_byte (absorb S0 (padT t) q).a 8 256 (by decide)))) ?_
    refine seq_val (.pointer (some ⟨g156, 2, none⟩)) 250 rfl kj kj ?_
    refine seq_store g156 _ (ints .u8 ([((((absorb S0 (padT t) q).a.toNat / 16777216 % 256 : Nat) : Int)), ((((absorb S0 (padT t) q).a.toNat / 65536 % 256 : Nat) : Int)), ((((absorb S0 (padT t) q).a.toNat / 256 % 256 : Nat) : Int)), 0, 0, 0, 0, 0, 0, 0, 0, 0, 0, 0, 0, 0, 0, 0, 0, 0, 0, 0, 0, 0, 0, 0, 0, 0, 0, 0, 0, 0])) 26 r156_17 rfl kj (run_storeI 5 _ _ g156 2 26 _ _ r156_17 rfl kj kj kj (show 2 < 32 by decide)) fun W18 p18 r156_18 => ?_
    have x18 : Ext w W18 := Puts.ext p18 x17 b156
    refine seq_nil ?_
    refine hK167 _ _ ?_
    try clear hK167 K167
    refine region_lit ?_
    refine seq_val (.int .i64 2) 236 rfl kj kj ?_
    refine seq_val (.int .i64 3) 237 rfl kj kj ?_
    refine seq_val (.int .i64 3) 22 rfl kj kj ?_
    refine seq_nil ?_
    show Code.rounds _ _ _ 30 _ _
    show Code.wp _ _ (Exit.then (Code.rounds _ _ _ 29) _) _ _
    refine wp_seq_k fun K168 hK168 => ?_
    refine wp_seq_k fun K169 hK169 => ?_
    refine region_lit ?_
    refine seq_val (.int .i64 3) 234 rfl kj kj ?_
    refine seq_val (.bool true) 235 rfl kj kj ?_
    refine seq_nil ?_
    refine hK169 _ _ ?_
    try clear hK169 K169
    refine cond_true kj ?_
    refine wp_skip ?_
    refine hK168 _ _ ?_
    try clear hK168 K168
    refine wp_seq_k fun K170 hK170 => ?_
    refine wp_block ?_
    refine region_lit ?_
    refine seq_val (.int .i64 3) 238 rfl kj kj ?_
    refine seq_val (.int .i64 3) 239 rfl kj kj ?_
    refine seq_val (.int .i64 0) 240 rfl kj kj ?_
    refine seq_val (.pointer (some ⟨g7, 0, none⟩)) 241 rfl kj kj ?_
    have r7_18 := (Puts.row p18 r7_17 (ne_of_old r7_14_154 l156))
    refine seq_val (.int .u32 (wv (absorb S0 (padT t) q).a)) 242 rfl kj (run_loadC1 84 _ g7 0 88 _ (.int .u32 (wv (absorb S0 (padT t) q).a)) _ r7_18 rfl kj kj kj) ?_
    refine seq_val (.int .i64 3) 243 rfl kj kj ?_
    refine seq_val (.int .i64 3) 244 rfl kj kj ?_
    refine seq_val (.int .i64 24) 245 rfl kj kj ?_
    refine seq_val (.int .i64 0) 246 rfl kj kj ?_
    refine seq_val (.int .u64 0) 247 rfl kj kj ?_
    refine seq_val (.int .u32 (wv (((absorb S0 (padT t) q).a) >>> 0))) 248 rfl kj (run_bin .shr _ _ _ _ .u32 .u64 _ _ _ rfl kj kj (b_shr _ _ _ _ _ _ (by decide) (w_shr _ _ 0 rfl (by decide)))) ?_
    refine seq_val (.int .u8 ((((absorb S0 (padT t) q).a.toNat / 1 % 256 : Nat) : Int))) 249 rfl kj (run_eq (u := .int .u8 (IntKind.u8.wrap (wv (((absorb S0 (padT t) q).a) >>> 0)))) kj (congrArg (Value.int .u8) (w_byte (absorb S0 (padT t) q).a 0 1 (by decide)))) ?_
    refine seq_val (.pointer (some ⟨g156, 3, none⟩)) 250 rfl kj kj ?_
    refine seq_store g156 _ (ints .u8 ([((((absorb S0 (padT t) q).a.toNat / 16777216 % 256 : Nat) : Int)), ((((absorb S0 (padT t) q).a.toNat / 65536 % 256 : Nat) : Int)), ((((absorb S0 (padT t) q).a.toNat / 256 % 256 : Nat) : Int)), ((((absorb S0 (padT t) q).a.toNat / 1 % 256 : Nat) : Int)), 0, 0, 0, 0, 0, 0, 0, 0, 0, 0, 0, 0, 0, 0, 0, 0, 0, 0, 0, 0, 0, 0, 0, 0, 0, 0, 0, 0])) 26 r156_18 rfl kj (run_storeI 5 _ _ g156 3 26 _ _ r156_18 rfl kj kj kj (show 3 < 32 by decide)) fun W19 p19 r156_19 => ?_
    have x19 : Ext w W19 := Puts.ext p19 x18 b156
    refine seq_nil ?_
    refine hK170 _ _ ?_
    try clear hK170 K170
    refine region_lit ?_
    refine seq_val (.int .i64 3) 236 rfl kj kj ?_
    refine seq_val (.int .i64 4) 237 rfl kj kj ?_
    refine seq_val (.int .i64 4) 22 rfl kj kj ?_
    refine seq_nil ?_
    show Code.rounds _ _ _ 29 _ _
    show Code.wp _ _ (Exit.then (Code.rounds _ _ _ 28) _) _ _
    refine wp_seq_k fun K171 hK171 => ?_
    refine wp_seq_k fun K172 hK172 => ?_
    refine region_lit ?_
    refine seq_val (.int .i64 4) 234 rfl kj kj ?_
    refine seq_val (.bool true) 235 rfl kj kj ?_
    refine seq_nil ?_
    refine hK172 _ _ ?_
    try clear hK172 K172
    refine cond_true kj ?_
    refine wp_skip ?_
    refine hK171 _ _ ?_
    try clear hK171 K171
    refine wp_seq_k fun K173 hK173 => ?_
    refine wp_block ?_
    refine region_lit ?_
    refine seq_val (.int .i64 4) 238 rfl kj kj ?_
    refine seq_val (.int .i64 4) 239 rfl kj kj ?_
    refine seq_val (.int .i64 1) 240 rfl kj kj ?_
    refine seq_val (.pointer (some ⟨g7, 1, none⟩)) 241 rfl kj kj ?_
    have r7_19 := (Puts.row p19 r7_18 (ne_of_old r7_14_154 l156))
    refine seq_val (.int .u32 (wv (absorb S0 (padT t) q).b)) 242 rfl kj (run_loadC1 84 _ g7 1 88 _ (.int .u32 (wv (absorb S0 (padT t) q).b)) _ r7_19 rfl kj kj kj) ?_
    refine seq_val (.int .i64 4) 243 rfl kj kj ?_
    refine seq_val (.int .i64 0) 244 rfl kj kj ?_
    refine seq_val (.int .i64 0) 245 rfl kj kj ?_
    refine seq_val (.int .i64 24) 246 rfl kj kj ?_
    refine seq_val (.int .u64 24) 247 rfl kj kj ?_
    refine seq_val (.int .u32 (wv (((absorb S0 (padT t) q).b) >>> 24))) 248 rfl kj (run_bin .shr _ _ _ _ .u32 .u64 _ _ _ rfl kj kj (b_shr _ _ _ _ _ _ (by decide) (w_shr _ _ 24 rfl (by decide)))) ?_
    refine seq_val (.int .u8 ((((absorb S0 (padT t) q).b.toNat / 16777216 % 256 : Nat) : Int))) 249 rfl kj (run_eq (u := .int .u8 (IntKind.u8.wrap (wv (((absorb S0 (padT t) q).b) >>> 24)))) kj (congrArg (Value.int .u8) (w_byte (absorb S0 (padT t) q).b 24 16777216 (by decide)))) ?_
    refine seq_val (.pointer (some ⟨g156, 4, none⟩)) 250 rfl kj kj ?_
    refine seq_store g156 _ (ints .u8 ([((((absorb S0 (padT t) q).a.toNat / 16777216 % 256 : Nat) : Int)), ((((absorb S0 (padT t) q).a.toNat / 65536 % 256 : Nat) : Int)), ((((absorb S0 (padT t) q).a.toNat / 256 % 256 : Nat) : Int)), ((((absorb S0 (padT t) q).a.toNat / 1 % 256 : Nat) : Int)), ((((absorb S0 (padT t) q).b.toNat / 16777216 % 256 : Nat) : Int)), 0, 0, 0, 0, 0, 0, 0, 0, 0, 0, 0, 0, 0, 0, 0, 0, 0, 0, 0, 0, 0, 0, 0, 0, 0, 0, 0])) 26 r156_19 rfl kj (run_storeI 5 _ _ g156 4 26 _ _ r156_19 rfl kj kj kj (show 4 < 32 by decide)) fun W20 p20 r156_20 => ?_
    have x20 : Ext w W20 := Puts.ext p20 x19 b156
    refine seq_nil ?_
    refine hK173 _ _ ?_
    try clear hK173 K173
    refine region_lit ?_
    refine seq_val (.int .i64 4) 236 rfl kj kj ?_
    refine seq_val (.int .i64 5) 237 rfl kj kj ?_
    refine seq_val (.int .i64 5) 22 rfl kj kj ?_
    refine seq_nil ?_
    show Code.rounds _ _ _ 28 _ _
    show Code.wp _ _ (Exit.then (Code.rounds _ _ _ 27) _) _ _
    refine wp_seq_k fun K174 hK174 => ?_
    refine wp_seq_k fun K175 hK175 => ?_
    refine region_lit ?_
    refine seq_val (.int .i64 5) 234 rfl kj kj ?_
    refine seq_val (.bool true) 235 rfl kj kj ?_
    refine seq_nil ?_
    refine hK175 _ _ ?_
    try clear hK175 K175
    refine cond_true kj ?_
    refine wp_skip ?_
    refine hK174 _ _ ?_
    try clear hK174 K174
    refine wp_seq_k fun K176 hK176 => ?_
    refine wp_block ?_
    refine region_lit ?_
    refine seq_val (.int .i64 5) 238 rfl kj kj ?_
    refine seq_val (.int .i64 5) 239 rfl kj kj ?_
    refine seq_val (.int .i64 1) 240 rfl kj kj ?_
    refine seq_val (.pointer (some ⟨g7, 1, none⟩)) 241 rfl kj kj ?_
    have r7_20 := (Puts.row p20 r7_19 (ne_of_old r7_14_154 l156))
    refine seq_val (.int .u32 (wv (absorb S0 (padT t) q).b)) 242 rfl kj (run_loadC1 84 _ g7 1 88 _ (.int .u32 (wv (absorb S0 (padT t) q).b)) _ r7_20 rfl kj kj kj) ?_
    refine seq_val (.int .i64 5) 243 rfl kj kj ?_
    refine seq_val (.int .i64 1) 244 rfl kj kj ?_
    refine seq_val (.int .i64 8) 245 rfl kj kj ?_
    refine seq_val (.int .i64 16) 246 rfl kj kj ?_
    refine seq_val (.int .u64 16) 247 rfl kj kj ?_
    refine seq_val (.int .u32 (wv (((absorb S0 (padT t) q).b) >>> 16))) 248 rfl kj (run_bin .shr _ _ _ _ .u32 .u64 _ _ _ rfl kj kj (b_shr _ _ _ _ _ _ (by decide) (w_shr _ _ 16 rfl (by decide)))) ?_
    refine seq_val (.int .u8 ((((absorb S0 (padT t) q).b.toNat / 65536 % 256 : Nat) : Int))) 249 rfl kj (run_eq (u := .int .u8 (IntKind.u8.wrap (wv (((absorb S0 (padT t) q).b) >>> 16)))) kj (congrArg (Value.int .u8) (w_byte (absorb S0 (padT t) q).b 16 65536 (by decide)))) ?_
    refine seq_val (.pointer (some ⟨g156, 5, none⟩)) 250 rfl kj kj ?_
    refine seq_store g156 _ (ints .u8 ([((((absorb S0 (padT t) q).a.toNat / 16777216 % 256 : Nat) : Int)), ((((absorb S0 (padT t) q).a.toNat / 65536 % 256 : Nat) : Int)), ((((absorb S0 (padT t) q).a.toNat / 256 % 256 : Nat) : Int)), ((((absorb S0 (padT t) q).a.toNat / 1 % 256 : Nat) : Int)), ((((absorb S0 (padT t) q).b.toNat / 16777216 % 256 : Nat) : Int)), ((((absorb S0 (padT t) q).b.toNat / 65536 % 256 : Nat) : Int)), 0, 0, 0, 0, 0, 0, 0, 0, 0, 0, 0, 0, 0, 0, 0, 0, 0, 0, 0, 0, 0, 0, 0, 0, 0, 0])) 26 r156_20 rfl kj (run_storeI 5 _ _ g156 5 26 _ _ r156_20 rfl kj kj kj (show 5 < 32 by decide)) fun W21 p21 r156_21 => ?_
    have x21 : Ext w W21 := Puts.ext p21 x20 b156
    refine seq_nil ?_
    refine hK176 _ _ ?_
    try clear hK176 K176
    refine region_lit ?_
    refine seq_val (.int .i64 5) 236 rfl kj kj ?_
    refine seq_val (.int .i64 6) 237 rfl kj kj ?_
    refine seq_val (.int .i64 6) 22 rfl kj kj ?_
    refine seq_nil ?_
    show Code.rounds _ _ _ 27 _ _
    show Code.wp _ _ (Exit.then (Code.rounds _ _ _ 26) _) _ _
    refine wp_seq_k fun K177 hK177 => ?_
    refine wp_seq_k fun K178 hK178 => ?_
    refine region_lit ?_
    refine seq_val (.int .i64 6) 234 rfl kj kj ?_
    refine seq_val (.bool true) 235 rfl kj kj ?_
    refine seq_nil ?_
    refine hK178 _ _ ?_
    try clear hK178 K178
    refine cond_true kj ?_
    refine wp_skip ?_
    refine hK177 _ _ ?_
    try clear hK177 K177
    refine wp_seq_k fun K179 hK179 => ?_
    refine wp_block ?_
    refine region_lit ?_
    refine seq_val (.int .i64 6) 238 rfl kj kj ?_
    refine seq_val (.int .i64 6) 239 rfl kj kj ?_
    refine seq_val (.int .i64 1) 240 rfl kj kj ?_
    refine seq_val (.pointer (some ⟨g7, 1, none⟩)) 241 rfl kj kj ?_
    have r7_21 := (Puts.row p21 r7_20 (ne_of_old r7_14_154 l156))
    refine seq_val (.int .u32 (wv (absorb S0 (padT t) q).b)) 242 rfl kj (run_loadC1 84 _ g7 1 88 _ (.int .u32 (wv (absorb S0 (padT t) q).b)) _ r7_21 rfl kj kj kj) ?_
    refine seq_val (.int .i64 6) 243 rfl kj kj ?_
    refine seq_val (.int .i64 2) 244 rfl kj kj ?_
    refine seq_val (.int .i64 16) 245 rfl kj kj ?_
    refine seq_val (.int .i64 8) 246 rfl kj kj ?_
    refine seq_val (.int .u64 8) 247 rfl kj kj ?_
    refine seq_val (.int .u32 (wv (((absorb S0 (padT t) q).b) >>> 8))) 248 rfl kj (run_bin .shr _ _ _ _ .u32 .u64 _ _ _ rfl kj kj (b_shr _ _ _ _ _ _ (by decide) (w_shr _ _ 8 rfl (by decide)))) ?_
    refine seq_val (.int .u8 ((((absorb S0 (padT t) q).b.toNat / 256 % 256 : Nat) : Int))) 249 rfl kj (run_eq (u := .int .u8 (IntKind.u8.wrap (wv (((absorb S0 (padT t) q).b) >>> 8)))) kj (congrArg (Value.int .u8) (w_byte (absorb S0 (padT t) q).b 8 256 (by decide)))) ?_
    refine seq_val (.pointer (some ⟨g156, 6, none⟩)) 250 rfl kj kj ?_
    refine seq_store g156 _ (ints .u8 ([((((absorb S0 (padT t) q).a.toNat / 16777216 % 256 : Nat) : Int)), ((((absorb S0 (padT t) q).a.toNat / 65536 % 256 : Nat) : Int)), ((((absorb S0 (padT t) q).a.toNat / 256 % 256 : Nat) : Int)), ((((absorb S0 (padT t) q).a.toNat / 1 % 256 : Nat) : Int)), ((((absorb S0 (padT t) q).b.toNat / 16777216 % 256 : Nat) : Int)), ((((absorb S0 (padT t) q).b.toNat / 65536 % 256 : Nat) : Int)), ((((absorb S0 (padT t) q).b.toNat / 256 % 256 : Nat) : Int)), 0, 0, 0, 0, 0, 0, 0, 0, 0, 0, 0, 0, 0, 0, 0, 0, 0, 0, 0, 0, 0, 0, 0, 0, 0])) 26 r156_21 rfl kj (run_storeI 5 _ _ g156 6 26 _ _ r156_21 rfl kj kj kj (show 6 < 32 by decide)) fun W22 p22 r156_22 => ?_
    have x22 : Ext w W22 := Puts.ext p22 x21 b156
    refine seq_nil ?_
    refine hK179 _ _ ?_
    try clear hK179 K179
    refine region_lit ?_
    refine seq_val (.int .i64 6) 236 rfl kj kj ?_
    refine seq_val (.int .i64 7) 237 rfl kj kj ?_
    refine seq_val (.int .i64 7) 22 rfl kj kj ?_
    refine seq_nil ?_
    show Code.rounds _ _ _ 26 _ _
    show Code.wp _ _ (Exit.then (Code.rounds _ _ _ 25) _) _ _
    refine wp_seq_k fun K180 hK180 => ?_
    refine wp_seq_k fun K181 hK181 => ?_
    refine region_lit ?_
    refine seq_val (.int .i64 7) 234 rfl kj kj ?_
    refine seq_val (.bool true) 235 rfl kj kj ?_
    refine seq_nil ?_
    refine hK181 _ _ ?_
    try clear hK181 K181
    refine cond_true kj ?_
    refine wp_skip ?_
    refine hK180 _ _ ?_
    try clear hK180 K180
    refine wp_seq_k fun K182 hK182 => ?_
    refine wp_block ?_
    refine region_lit ?_
    refine seq_val (.int .i64 7) 238 rfl kj kj ?_
    refine seq_val (.int .i64 7) 239 rfl kj kj ?_
    refine seq_val (.int .i64 1) 240 rfl kj kj ?_
    refine seq_val (.pointer (some ⟨g7, 1, none⟩)) 241 rfl kj kj ?_
    have r7_22 := (Puts.row p22 r7_21 (ne_of_old r7_14_154 l156))
    refine seq_val (.int .u32 (wv (absorb S0 (padT t) q).b)) 242 rfl kj (run_loadC1 84 _ g7 1 88 _ (.int .u32 (wv (absorb S0 (padT t) q).b)) _ r7_22 rfl kj kj kj) ?_
    refine seq_val (.int .i64 7) 243 rfl kj kj ?_
    refine seq_val (.int .i64 3) 244 rfl kj kj ?_
    refine seq_val (.int .i64 24) 245 rfl kj kj ?_
    refine seq_val (.int .i64 0) 246 rfl kj kj ?_
    refine seq_val (.int .u64 0) 247 rfl kj kj ?_
    refine seq_val (.int .u32 (wv (((absorb S0 (padT t) q).b) >>> 0))) 248 rfl kj (run_bin .shr _ _ _ _ .u32 .u64 _ _ _ rfl kj kj (b_shr _ _ _ _ _ _ (by decide) (w_shr _ _ 0 rfl (by decide)))) ?_
    refine seq_val (.int .u8 ((((absorb S0 (padT t) q).b.toNat / 1 % 256 : Nat) : Int))) 249 rfl kj (run_eq (u := .int .u8 (IntKind.u8.wrap (wv (((absorb S0 (padT t) q).b) >>> 0)))) kj (congrArg (Value.int .u8) (w_byte (absorb S0 (padT t) q).b 0 1 (by decide)))) ?_
    refine seq_val (.pointer (some ⟨g156, 7, none⟩)) 250 rfl kj kj ?_
    refine seq_store g156 _ (ints .u8 ([((((absorb S0 (padT t) q).a.toNat / 16777216 % 256 : Nat) : Int)), ((((absorb S0 (padT t) q).a.toNat / 65536 % 256 : Nat) : Int)), ((((absorb S0 (padT t) q).a.toNat / 256 % 256 : Nat) : Int)), ((((absorb S0 (padT t) q).a.toNat / 1 % 256 : Nat) : Int)), ((((absorb S0 (padT t) q).b.toNat / 16777216 % 256 : Nat) : Int)), ((((absorb S0 (padT t) q).b.toNat / 65536 % 256 : Nat) : Int)), ((((absorb S0 (padT t) q).b.toNat / 256 % 256 : Nat) : Int)), ((((absorb S0 (padT t) q).b.toNat / 1 % 256 : Nat) : Int)), 0, 0, 0, 0, 0, 0, 0, 0, 0, 0, 0, 0, 0, 0, 0, 0, 0, 0, 0, 0, 0, 0, 0, 0])) 26 r156_22 rfl kj (run_storeI 5 _ _ g156 7 26 _ _ r156_22 rfl kj kj kj (show 7 < 32 by decide)) fun W23 p23 r156_23 => ?_
    have x23 : Ext w W23 := Puts.ext p23 x22 b156
    refine seq_nil ?_
    refine hK182 _ _ ?_
    try clear hK182 K182
    refine region_lit ?_
    refine seq_val (.int .i64 7) 236 rfl kj kj ?_
    refine seq_val (.int .i64 8) 237 rfl kj kj ?_
    refine seq_val (.int .i64 8) 22 rfl kj kj ?_
    refine seq_nil ?_
    show Code.rounds _ _ _ 25 _ _
    show Code.wp _ _ (Exit.then (Code.rounds _ _ _ 24) _) _ _
    refine wp_seq_k fun K183 hK183 => ?_
    refine wp_seq_k fun K184 hK184 => ?_
    refine region_lit ?_
    refine seq_val (.int .i64 8) 234 rfl kj kj ?_
    refine seq_val (.bool true) 235 rfl kj kj ?_
    refine seq_nil ?_
    refine hK184 _ _ ?_
    try clear hK184 K184
    refine cond_true kj ?_
    refine wp_skip ?_
    refine hK183 _ _ ?_
    try clear hK183 K183
    refine wp_seq_k fun K185 hK185 => ?_
    refine wp_block ?_
    refine region_lit ?_
    refine seq_val (.int .i64 8) 238 rfl kj kj ?_
    refine seq_val (.int .i64 8) 239 rfl kj kj ?_
    refine seq_val (.int .i64 2) 240 rfl kj kj ?_
    refine seq_val (.pointer (some ⟨g7, 2, none⟩)) 241 rfl kj kj ?_
    have r7_23 := (Puts.row p23 r7_22 (ne_of_old r7_14_154 l156))
    refine seq_val (.int .u32 (wv (absorb S0 (padT t) q).c)) 242 rfl kj (run_loadC1 84 _ g7 2 88 _ (.int .u32 (wv (absorb S0 (padT t) q).c)) _ r7_23 rfl kj kj kj) ?_
    refine seq_val (.int .i64 8) 243 rfl kj kj ?_
    refine seq_val (.int .i64 0) 244 rfl kj kj ?_
    refine seq_val (.int .i64 0) 245 rfl kj kj ?_
    refine seq_val (.int .i64 24) 246 rfl kj kj ?_
    refine seq_val (.int .u64 24) 247 rfl kj kj ?_
    refine seq_val (.int .u32 (wv (((absorb S0 (padT t) q).c) >>> 24))) 248 rfl kj (run_bin .shr _ _ _ _ .u32 .u64 _ _ _ rfl kj kj (b_shr _ _ _ _ _ _ (by decide) (w_shr _ _ 24 rfl (by decide)))) ?_
    refine seq_val (.int .u8 ((((absorb S0 (padT t) q).c.toNat / 16777216 % 256 : Nat) : Int))) 249 rfl kj (run_eq (u := .int .u8 (IntKind.u8.wrap (wv (((absorb S0 (padT t) q).c) >>> 24)))) kj (congrArg (Value.int .u8) (w_byte (absorb S0 (padT t) q).c 24 16777216 (by decide)))) ?_
    refine seq_val (.pointer (some ⟨g156, 8, none⟩)) 250 rfl kj kj ?_
    refine seq_store g156 _ (ints .u8 ([((((absorb S0 (padT t) q).a.toNat / 16777216 % 256 : Nat) : Int)), ((((absorb S0 (padT t) q).a.toNat / 65536 % 256 : Nat) : Int)), ((((absorb S0 (padT t) q).a.toNat / 256 % 256 : Nat) : Int)), ((((absorb S0 (padT t) q).a.toNat / 1 % 256 : Nat) : Int)), ((((absorb S0 (padT t) q).b.toNat / 16777216 % 256 : Nat) : Int)), ((((absorb S0 (padT t) q).b.toNat / 65536 % 256 : Nat) : Int)), ((((absorb S0 (padT t) q).b.toNat / 256 % 256 : Nat) : Int)), ((((absorb S0 (padT t) q).b.toNat / 1 % 256 : Nat) : Int)), ((((absorb S0 (padT t) q).c.toNat / 16777216 % 256 : Nat) : Int)), 0, 0, 0, 0, 0, 0, 0, 0, 0, 0, 0, 0, 0, 0, 0, 0, 0, 0, 0, 0, 0, 0, 0])) 26 r156_23 rfl kj (run_storeI 5 _ _ g156 8 26 _ _ r156_23 rfl kj kj kj (show 8 < 32 by decide)) fun W24 p24 r156_24 => ?_
    have x24 : Ext w W24 := Puts.ext p24 x23 b156
    refine seq_nil ?_
    refine hK185 _ _ ?_
    try clear hK185 K185
    refine region_lit ?_
    refine seq_val (.int .i64 8) 236 rfl kj kj ?_
    refine seq_val (.int .i64 9) 237 rfl kj kj ?_
    refine seq_val (.int .i64 9) 22 rfl kj kj ?_
    refine seq_nil ?_
    show Code.rounds _ _ _ 24 _ _
    show Code.wp _ _ (Exit.then (Code.rounds _ _ _ 23) _) _ _
    refine wp_seq_k fun K186 hK186 => ?_
    refine wp_seq_k fun K187 hK187 => ?_
    refine region_lit ?_
    refine seq_val (.int .i64 9) 234 rfl kj kj ?_
    refine seq_val (.bool true) 235 rfl kj kj ?_
    refine seq_nil ?_
    refine hK187 _ _ ?_
    try clear hK187 K187
    refine cond_true kj ?_
    refine wp_skip ?_
    refine hK186 _ _ ?_
    try clear hK186 K186
    refine wp_seq_k fun K188 hK188 => ?_
    refine wp_block ?_
    refine region_lit ?_
    refine seq_val (.int .i64 9) 238 rfl kj kj ?_
    refine seq_val (.int .i64 9) 239 rfl kj kj ?_
    refine seq_val (.int .i64 2) 240 rfl kj kj ?_
    refine seq_val (.pointer (some ⟨g7, 2, none⟩)) 241 rfl kj kj ?_
    have r7_24 := (Puts.row p24 r7_23 (ne_of_old r7_14_154 l156))
    refine seq_val (.int .u32 (wv (absorb S0 (padT t) q).c)) 242 rfl kj (run_loadC1 84 _ g7 2 88 _ (.int .u32 (wv (absorb S0 (padT t) q).c)) _ r7_24 rfl kj kj kj) ?_
    refine seq_val (.int .i64 9) 243 rfl kj kj ?_
    refine seq_val (.int .i64 1) 244 rfl kj kj ?_
    refine seq_val (.int .i64 8) 245 rfl kj kj ?_
    refine seq_val (.int .i64 16) 246 rfl kj kj ?_
    refine seq_val (.int .u64 16) 247 rfl kj kj ?_
    refine seq_val (.int .u32 (wv (((absorb S0 (padT t) q).c) >>> 16))) 248 rfl kj (run_bin .shr _ _ _ _ .u32 .u64 _ _ _ rfl kj kj (b_shr _ _ _ _ _ _ (by decide) (w_shr _ _ 16 rfl (by decide)))) ?_
    refine seq_val (.int .u8 ((((absorb S0 (padT t) q).c.toNat / 65536 % 256 : Nat) : Int))) 249 rfl kj (run_eq (u := .int .u8 (IntKind.u8.wrap (wv (((absorb S0 (padT t) q).c) >>> 16)))) kj (congrArg (Value.int .u8) (w_byte (absorb S0 (padT t) q).c 16 65536 (by decide)))) ?_
    refine seq_val (.pointer (some ⟨g156, 9, none⟩)) 250 rfl kj kj ?_
    refine seq_store g156 _ (ints .u8 ([((((absorb S0 (padT t) q).a.toNat / 16777216 % 256 : Nat) : Int)), ((((absorb S0 (padT t) q).a.toNat / 65536 % 256 : Nat) : Int)), ((((absorb S0 (padT t) q).a.toNat / 256 % 256 : Nat) : Int)), ((((absorb S0 (padT t) q).a.toNat / 1 % 256 : Nat) : Int)), ((((absorb S0 (padT t) q).b.toNat / 16777216 % 256 : Nat) : Int)), ((((absorb S0 (padT t) q).b.toNat / 65536 % 256 : Nat) : Int)), ((((absorb S0 (padT t) q).b.toNat / 256 % 256 : Nat) : Int)), ((((absorb S0 (padT t) q).b.toNat / 1 % 256 : Nat) : Int)), ((((absorb S0 (padT t) q).c.toNat / 16777216 % 256 : Nat) : Int)), ((((absorb S0 (padT t) q).c.toNat / 65536 % 256 : Nat) : Int)), 0, 0, 0, 0, 0, 0, 0, 0, 0, 0, 0, 0, 0, 0, 0, 0, 0, 0, 0, 0, 0, 0])) 26 r156_24 rfl kj (run_storeI 5 _ _ g156 9 26 _ _ r156_24 rfl kj kj kj (show 9 < 32 by decide)) fun W25 p25 r156_25 => ?_
    have x25 : Ext w W25 := Puts.ext p25 x24 b156
    refine seq_nil ?_
    refine hK188 _ _ ?_
    try clear hK188 K188
    refine region_lit ?_
    refine seq_val (.int .i64 9) 236 rfl kj kj ?_
    refine seq_val (.int .i64 10) 237 rfl kj kj ?_
    refine seq_val (.int .i64 10) 22 rfl kj kj ?_
    refine seq_nil ?_
    show Code.rounds _ _ _ 23 _ _
    show Code.wp _ _ (Exit.then (Code.rounds _ _ _ 22) _) _ _
    refine wp_seq_k fun K189 hK189 => ?_
    refine wp_seq_k fun K190 hK190 => ?_
    refine region_lit ?_
    refine seq_val (.int .i64 10) 234 rfl kj kj ?_
    refine seq_val (.bool true) 235 rfl kj kj ?_
    refine seq_nil ?_
    refine hK190 _ _ ?_
    try clear hK190 K190
    refine cond_true kj ?_
    refine wp_skip ?_
    refine hK189 _ _ ?_
    try clear hK189 K189
    refine wp_seq_k fun K191 hK191 => ?_
    refine wp_block ?_
    refine region_lit ?_
    refine seq_val (.int .i64 10) 238 rfl kj kj ?_
    refine seq_val (.int .i64 10) 239 rfl kj kj ?_
    refine seq_val (.int .i64 2) 240 rfl kj kj ?_
    refine seq_val (.pointer (some ⟨g7, 2, none⟩)) 241 rfl kj kj ?_
    have r7_25 := (Puts.row p25 r7_24 (ne_of_old r7_14_154 l156))
    refine seq_val (.int .u32 (wv (absorb S0 (padT t) q).c)) 242 rfl kj (run_loadC1 84 _ g7 2 88 _ (.int .u32 (wv (absorb S0 (padT t) q).c)) _ r7_25 rfl kj kj kj) ?_
    refine seq_val (.int .i64 10) 243 rfl kj kj ?_
    refine seq_val (.int .i64 2) 244 rfl kj kj ?_
    refine seq_val (.int .i64 16) 245 rfl kj kj ?_
    refine seq_val (.int .i64 8) 246 rfl kj kj ?_
    refine seq_val (.int .u64 8) 247 rfl kj kj ?_
    refine seq_val (.int .u32 (wv (((absorb S0 (padT t) q).c) >>> 8))) 248 rfl kj (run_bin .shr _ _ _ _ .u32 .u64 _ _ _ rfl kj kj (b_shr _ _ _ _ _ _ (by decide) (w_shr _ _ 8 rfl (by decide)))) ?_
    refine seq_val (.int .u8 ((((absorb S0 (padT t) q).c.toNat / 256 % 256 : Nat) : Int))) 249 rfl kj (run_eq (u := .int .u8 (IntKind.u8.wrap (wv (((absorb S0 (padT t) q).c) >>> 8)))) kj (congrArg (Value.int .u8) (w_byte (absorb S0 (padT t) q).c 8 256 (by decide)))) ?_
    refine seq_val (.pointer (some ⟨g156, 10, none⟩)) 250 rfl kj kj ?_
    refine seq_store g156 _ (ints .u8 ([((((absorb S0 (padT t) q).a.toNat / 16777216 % 256 : Nat) : Int)), ((((absorb S0 (padT t) q).a.toNat / 65536 % 256 : Nat) : Int)), ((((absorb S0 (padT t) q).a.toNat / 256 % 256 : Nat) : Int)), ((((absorb S0 (padT t) q).a.toNat / 1 % 256 : Nat) : Int)), ((((absorb S0 (padT t) q).b.toNat / 16777216 % 256 : Nat) : Int)), ((((absorb S0 (padT t) q).b.toNat / 65536 % 256 : Nat) : Int)), ((((absorb S0 (padT t) q).b.toNat / 256 % 256 : Nat) : Int)), ((((absorb S0 (padT t) q).b.toNat / 1 % 256 : Nat) : Int)), ((((absorb S0 (padT t) q).c.toNat / 16777216 % 256 : Nat) : Int)), ((((absorb S0 (padT t) q).c.toNat / 65536 % 256 : Nat) : Int)), ((((absorb S0 (padT t) q).c.toNat / 256 % 256 : Nat) : Int)), 0, 0, 0, 0, 0, 0, 0, 0, 0, 0, 0, 0, 0, 0, 0, 0, 0, 0, 0, 0, 0])) 26 r156_25 rfl kj (run_storeI 5 _ _ g156 10 26 _ _ r156_25 rfl kj kj kj (show 10 < 32 by decide)) fun W26 p26 r156_26 => ?_
    have x26 : Ext w W26 := Puts.ext p26 x25 b156
    refine seq_nil ?_
    refine hK191 _ _ ?_
    try clear hK191 K191
    refine region_lit ?_
    refine seq_val (.int .i64 10) 236 rfl kj kj ?_
    refine seq_val (.int .i64 11) 237 rfl kj kj ?_
    refine seq_val (.int .i64 11) 22 rfl kj kj ?_
    refine seq_nil ?_
    show Code.rounds _ _ _ 22 _ _
    show Code.wp _ _ (Exit.then (Code.rounds _ _ _ 21) _) _ _
    refine wp_seq_k fun K192 hK192 => ?_
    refine wp_seq_k fun K193 hK193 => ?_
    refine region_lit ?_
    refine seq_val (.int .i64 11) 234 rfl kj kj ?_
    refine seq_val (.bool true) 235 rfl kj kj ?_
    refine seq_nil ?_
    refine hK193 _ _ ?_
    try clear hK193 K193
    refine cond_true kj ?_
    refine wp_skip ?_
    refine hK192 _ _ ?_
    try clear hK192 K192
    refine wp_seq_k fun K194 hK194 => ?_
    refine wp_block ?_
    refine region_lit ?_
    refine seq_val (.int .i64 11) 238 rfl kj kj ?_
    refine seq_val (.int .i64 11) 239 rfl kj kj ?_
    refine seq_val (.int .i64 2) 240 rfl kj kj ?_
    refine seq_val (.pointer (some ⟨g7, 2, none⟩)) 241 rfl kj kj ?_
    have r7_26 := (Puts.row p26 r7_25 (ne_of_old r7_14_154 l156))
    refine seq_val (.int .u32 (wv (absorb S0 (padT t) q).c)) 242 rfl kj (run_loadC1 84 _ g7 2 88 _ (.int .u32 (wv (absorb S0 (padT t) q).c)) _ r7_26 rfl kj kj kj) ?_
    refine seq_val (.int .i64 11) 243 rfl kj kj ?_
    refine seq_val (.int .i64 3) 244 rfl kj kj ?_
    refine seq_val (.int .i64 24) 245 rfl kj kj ?_
    refine seq_val (.int .i64 0) 246 rfl kj kj ?_
    refine seq_val (.int .u64 0) 247 rfl kj kj ?_
    refine seq_val (.int .u32 (wv (((absorb S0 (padT t) q).c) >>> 0))) 248 rfl kj (run_bin .shr _ _ _ _ .u32 .u64 _ _ _ rfl kj kj (b_shr _ _ _ _ _ _ (by decide) (w_shr _ _ 0 rfl (by decide)))) ?_
    refine seq_val (.int .u8 ((((absorb S0 (padT t) q).c.toNat / 1 % 256 : Nat) : Int))) 249 rfl kj (run_eq (u := .int .u8 (IntKind.u8.wrap (wv (((absorb S0 (padT t) q).c) >>> 0)))) kj (congrArg (Value.int .u8) (w_byte (absorb S0 (padT t) q).c 0 1 (by decide)))) ?_
    refine seq_val (.pointer (some ⟨g156, 11, none⟩)) 250 rfl kj kj ?_
    refine seq_store g156 _ (ints .u8 ([((((absorb S0 (padT t) q).a.toNat / 16777216 % 256 : Nat) : Int)), ((((absorb S0 (padT t) q).a.toNat / 65536 % 256 : Nat) : Int)), ((((absorb S0 (padT t) q).a.toNat / 256 % 256 : Nat) : Int)), ((((absorb S0 (padT t) q).a.toNat / 1 % 256 : Nat) : Int)), ((((absorb S0 (padT t) q).b.toNat / 16777216 % 256 : Nat) : Int)), ((((absorb S0 (padT t) q).b.toNat / 65536 % 256 : Nat) : Int)), ((((absorb S0 (padT t) q).b.toNat / 256 % 256 : Nat) : Int)), ((((absorb S0 (padT t) q).b.toNat / 1 % 256 : Nat) : Int)), ((((absorb S0 (padT t) q).c.toNat / 16777216 % 256 : Nat) : Int)), ((((absorb S0 (padT t) q).c.toNat / 65536 % 256 : Nat) : Int)), ((((absorb S0 (padT t) q).c.toNat / 256 % 256 : Nat) : Int)), ((((absorb S0 (padT t) q).c.toNat / 1 % 256 : Nat) : Int)), 0, 0, 0, 0, 0, 0, 0, 0, 0, 0, 0, 0, 0, 0, 0, 0, 0, 0, 0, 0])) 26 r156_26 rfl kj (run_storeI 5 _ _ g156 11 26 _ _ r156_26 rfl kj kj kj (show 11 < 32 by decide)) fun W27 p27 r156_27 => ?_
    have x27 : Ext w W27 := Puts.ext p27 x26 b156
    refine seq_nil ?_
    refine hK194 _ _ ?_
    try clear hK194 K194
    refine region_lit ?_
    refine seq_val (.int .i64 11) 236 rfl kj kj ?_
    refine seq_val (.int .i64 12) 237 rfl kj kj ?_
    refine seq_val (.int .i64 12) 22 rfl kj kj ?_
    refine seq_nil ?_
    show Code.rounds _ _ _ 21 _ _
    show Code.wp _ _ (Exit.then (Code.rounds _ _ _ 20) _) _ _
    refine wp_seq_k fun K195 hK195 => ?_
    refine wp_seq_k fun K196 hK196 => ?_
    refine region_lit ?_
    refine seq_val (.int .i64 12) 234 rfl kj kj ?_
    refine seq_val (.bool true) 235 rfl kj kj ?_
    refine seq_nil ?_
    refine hK196 _ _ ?_
    try clear hK196 K196
    refine cond_true kj ?_
    refine wp_skip ?_
    refine hK195 _ _ ?_
    try clear hK195 K195
    refine wp_seq_k fun K197 hK197 => ?_
    refine wp_block ?_
    refine region_lit ?_
    refine seq_val (.int .i64 12) 238 rfl kj kj ?_
    refine seq_val (.int .i64 12) 239 rfl kj kj ?_
    refine seq_val (.int .i64 3) 240 rfl kj kj ?_
    refine seq_val (.pointer (some ⟨g7, 3, none⟩)) 241 rfl kj kj ?_
    have r7_27 := (Puts.row p27 r7_26 (ne_of_old r7_14_154 l156))
    refine seq_val (.int .u32 (wv (absorb S0 (padT t) q).d)) 242 rfl kj (run_loadC1 84 _ g7 3 88 _ (.int .u32 (wv (absorb S0 (padT t) q).d)) _ r7_27 rfl kj kj kj) ?_
    refine seq_val (.int .i64 12) 243 rfl kj kj ?_
    refine seq_val (.int .i64 0) 244 rfl kj kj ?_
    refine seq_val (.int .i64 0) 245 rfl kj kj ?_
    refine seq_val (.int .i64 24) 246 rfl kj kj ?_
    refine seq_val (.int .u64 24) 247 rfl kj kj ?_
    refine seq_val (.int .u32 (wv (((absorb S0 (padT t) q).d) >>> 24))) 248 rfl kj (run_bin .shr _ _ _ _ .u32 .u64 _ _ _ rfl kj kj (b_shr _ _ _ _ _ _ (by decide) (w_shr _ _ 24 rfl (by decide)))) ?_
    refine seq_val (.int .u8 ((((absorb S0 (padT t) q).d.toNat / 16777216 % 256 : Nat) : Int))) 249 rfl kj (run_eq (u := .int .u8 (IntKind.u8.wrap (wv (((absorb S0 (padT t) q).d) >>> 24)))) kj (congrArg (Value.int .u8) (w_byte (absorb S0 (padT t) q).d 24 16777216 (by decide)))) ?_
    refine seq_val (.pointer (some ⟨g156, 12, none⟩)) 250 rfl kj kj ?_
    refine seq_store g156 _ (ints .u8 ([((((absorb S0 (padT t) q).a.toNat / 16777216 % 256 : Nat) : Int)), ((((absorb S0 (padT t) q).a.toNat / 65536 % 256 : Nat) : Int)), ((((absorb S0 (padT t) q).a.toNat / 256 % 256 : Nat) : Int)), ((((absorb S0 (padT t) q).a.toNat / 1 % 256 : Nat) : Int)), ((((absorb S0 (padT t) q).b.toNat / 16777216 % 256 : Nat) : Int)), ((((absorb S0 (padT t) q).b.toNat / 65536 % 256 : Nat) : Int)), ((((absorb S0 (padT t) q).b.toNat / 256 % 256 : Nat) : Int)), ((((absorb S0 (padT t) q).b.toNat / 1 % 256 : Nat) : Int)), ((((absorb S0 (padT t) q).c.toNat / 16777216 % 256 : Nat) : Int)), ((((absorb S0 (padT t) q).c.toNat / 65536 % 256 : Nat) : Int)), ((((absorb S0 (padT t) q).c.toNat / 256 % 256 : Nat) : Int)), ((((absorb S0 (padT t) q).c.toNat / 1 % 256 : Nat) : Int)), ((((absorb S0 (padT t) q).d.toNat / 16777216 % 256 : Nat) : Int)), 0, 0, 0, 0, 0, 0, 0, 0, 0, 0, 0, 0, 0, 0, 0, 0, 0, 0, 0])) 26 r156_27 rfl kj (run_storeI 5 _ _ g156 12 26 _ _ r156_27 rfl kj kj kj (show 12 < 32 by decide)) fun W28 p28 r156_28 => ?_
    have x28 : Ext w W28 := Puts.ext p28 x27 b156
    refine seq_nil ?_
    refine hK197 _ _ ?_
    try clear hK197 K197
    refine region_lit ?_
    refine seq_val (.int .i64 12) 236 rfl kj kj ?_
    refine seq_val (.int .i64 13) 237 rfl kj kj ?_
    refine seq_val (.int .i64 13) 22 rfl kj kj ?_
    refine seq_nil ?_
    show Code.rounds _ _ _ 20 _ _
    show Code.wp _ _ (Exit.then (Code.rounds _ _ _ 19) _) _ _
    refine wp_seq_k fun K198 hK198 => ?_
    refine wp_seq_k fun K199 hK199 => ?_
    refine region_lit ?_
    refine seq_val (.int .i64 13) 234 rfl kj kj ?_
    refine seq_val (.bool true) 235 rfl kj kj ?_
    refine seq_nil ?_
    refine hK199 _ _ ?_
    try clear hK199 K199
    refine cond_true kj ?_
    refine wp_skip ?_
    refine hK198 _ _ ?_
    try clear hK198 K198
    refine wp_seq_k fun K200 hK200 => ?_
    refine wp_block ?_
    refine region_lit ?_
    refine seq_val (.int .i64 13) 238 rfl kj kj ?_
    refine seq_val (.int .i64 13) 239 rfl kj kj ?_
    refine seq_val (.int .i64 3) 240 rfl kj kj ?_
    refine seq_val (.pointer (some ⟨g7, 3, none⟩)) 241 rfl kj kj ?_
    have r7_28 := (Puts.row p28 r7_27 (ne_of_old r7_14_154 l156))
    refine seq_val (.int .u32 (wv (absorb S0 (padT t) q).d)) 242 rfl kj (run_loadC1 84 _ g7 3 88 _ (.int .u32 (wv (absorb S0 (padT t) q).d)) _ r7_28 rfl kj kj kj) ?_
    refine seq_val (.int .i64 13) 243 rfl kj kj ?_
    refine seq_val (.int .i64 1) 244 rfl kj kj ?_
    refine seq_val (.int .i64 8) 245 rfl kj kj ?_
    refine seq_val (.int .i64 16) 246 rfl kj kj ?_
    refine seq_val (.int .u64 16) 247 rfl kj kj ?_
    refine seq_val (.int .u32 (wv (((absorb S0 (padT t) q).d) >>> 16))) 248 rfl kj (run_bin .shr _ _ _ _ .u32 .u64 _ _ _ rfl kj kj (b_shr _ _ _ _ _ _ (by decide) (w_shr _ _ 16 rfl (by decide)))) ?_
    refine seq_val (.int .u8 ((((absorb S0 (padT t) q).d.toNat / 65536 % 256 : Nat) : Int))) 249 rfl kj (run_eq (u := .int .u8 (IntKind.u8.wrap (wv (((absorb S0 (padT t) q).d) >>> 16)))) kj (congrArg (Value.int .u8) (w_byte (absorb S0 (padT t) q).d 16 65536 (by decide)))) ?_
    refine seq_val (.pointer (some ⟨g156, 13, none⟩)) 250 rfl kj kj ?_
    refine seq_store g156 _ (ints .u8 ([((((absorb S0 (padT t) q).a.toNat / 16777216 % 256 : Nat) : Int)), ((((absorb S0 (padT t) q).a.toNat / 65536 % 256 : Nat) : Int)), ((((absorb S0 (padT t) q).a.toNat / 256 % 256 : Nat) : Int)), ((((absorb S0 (padT t) q).a.toNat / 1 % 256 : Nat) : Int)), ((((absorb S0 (padT t) q).b.toNat / 16777216 % 256 : Nat) : Int)), ((((absorb S0 (padT t) q).b.toNat / 65536 % 256 : Nat) : Int)), ((((absorb S0 (padT t) q).b.toNat / 256 % 256 : Nat) : Int)), ((((absorb S0 (padT t) q).b.toNat / 1 % 256 : Nat) : Int)), ((((absorb S0 (padT t) q).c.toNat / 16777216 % 256 : Nat) : Int)), ((((absorb S0 (padT t) q).c.toNat / 65536 % 256 : Nat) : Int)), ((((absorb S0 (padT t) q).c.toNat / 256 % 256 : Nat) : Int)), ((((absorb S0 (padT t) q).c.toNat / 1 % 256 : Nat) : Int)), ((((absorb S0 (padT t) q).d.toNat / 16777216 % 256 : Nat) : Int)), ((((absorb S0 (padT t) q).d.toNat / 65536 % 256 : Nat) : Int)), 0, 0, 0, 0, 0, 0, 0, 0, 0, 0, 0, 0, 0, 0, 0, 0, 0, 0])) 26 r156_28 rfl kj (run_storeI 5 _ _ g156 13 26 _ _ r156_28 rfl kj kj kj (show 13 < 32 by decide)) fun W29 p29 r156_29 => ?_
    have x29 : Ext w W29 := Puts.ext p29 x28 b156
    refine seq_nil ?_
    refine hK200 _ _ ?_
    try clear hK200 K200
    refine region_lit ?_
    refine seq_val (.int .i64 13) 236 rfl kj kj ?_
    refine seq_val (.int .i64 14) 237 rfl kj kj ?_
    refine seq_val (.int .i64 14) 22 rfl kj kj ?_
    refine seq_nil ?_
    show Code.rounds _ _ _ 19 _ _
    show Code.wp _ _ (Exit.then (Code.rounds _ _ _ 18) _) _ _
    refine wp_seq_k fun K201 hK201 => ?_
    refine wp_seq_k fun K202 hK202 => ?_
    refine region_lit ?_
    refine seq_val (.int .i64 14) 234 rfl kj kj ?_
    refine seq_val (.bool true) 235 rfl kj kj ?_
    refine seq_nil ?_
    refine hK202 _ _ ?_
    try clear hK202 K202
    refine cond_true kj ?_
    refine wp_skip ?_
    refine hK201 _ _ ?_
    try clear hK201 K201
    refine wp_seq_k fun K203 hK203 => ?_
    refine wp_block ?_
    refine region_lit ?_
    refine seq_val (.int .i64 14) 238 rfl kj kj ?_
    refine seq_val (.int .i64 14) 239 rfl kj kj ?_
    refine seq_val (.int .i64 3) 240 rfl kj kj ?_
    refine seq_val (.pointer (some ⟨g7, 3, none⟩)) 241 rfl kj kj ?_
    have r7_29 := (Puts.row p29 r7_28 (ne_of_old r7_14_154 l156))
    refine seq_val (.int .u32 (wv (absorb S0 (padT t) q).d)) 242 rfl kj (run_loadC1 84 _ g7 3 88 _ (.int .u32 (wv (absorb S0 (padT t) q).d)) _ r7_29 rfl kj kj kj) ?_
    refine seq_val (.int .i64 14) 243 rfl kj kj ?_
    refine seq_val (.int .i64 2) 244 rfl kj kj ?_
    refine seq_val (.int .i64 16) 245 rfl kj kj ?_
    refine seq_val (.int .i64 8) 246 rfl kj kj ?_
    refine seq_val (.int .u64 8) 247 rfl kj kj ?_
    refine seq_val (.int .u32 (wv (((absorb S0 (padT t) q).d) >>> 8))) 248 rfl kj (run_bin .shr _ _ _ _ .u32 .u64 _ _ _ rfl kj kj (b_shr _ _ _ _ _ _ (by decide) (w_shr _ _ 8 rfl (by decide)))) ?_
    refine seq_val (.int .u8 ((((absorb S0 (padT t) q).d.toNat / 256 % 256 : Nat) : Int))) 249 rfl kj (run_eq (u := .int .u8 (IntKind.u8.wrap (wv (((absorb S0 (padT t) q).d) >>> 8)))) kj (congrArg (Value.int .u8) (w_byte (absorb S0 (padT t) q).d 8 256 (by decide)))) ?_
    refine seq_val (.pointer (some ⟨g156, 14, none⟩)) 250 rfl kj kj ?_
    refine seq_store g156 _ (ints .u8 ([((((absorb S0 (padT t) q).a.toNat / 16777216 % 256 : Nat) : Int)), ((((absorb S0 (padT t) q).a.toNat / 65536 % 256 : Nat) : Int)), ((((absorb S0 (padT t) q).a.toNat / 256 % 256 : Nat) : Int)), ((((absorb S0 (padT t) q).a.toNat / 1 % 256 : Nat) : Int)), ((((absorb S0 (padT t) q).b.toNat / 16777216 % 256 : Nat) : Int)), ((((absorb S0 (padT t) q).b.toNat / 65536 % 256 : Nat) : Int)), ((((absorb S0 (padT t) q).b.toNat / 256 % 256 : Nat) : Int)), ((((absorb S0 (padT t) q).b.toNat / 1 % 256 : Nat) : Int)), ((((absorb S0 (padT t) q).c.toNat / 16777216 % 256 : Nat) : Int)), ((((absorb S0 (padT t) q).c.toNat / 65536 % 256 : Nat) : Int)), ((((absorb S0 (padT t) q).c.toNat / 256 % 256 : Nat) : Int)), ((((absorb S0 (padT t) q).c.toNat / 1 % 256 : Nat) : Int)), ((((absorb S0 (padT t) q).d.toNat / 16777216 % 256 : Nat) : Int)), ((((absorb S0 (padT t) q).d.toNat / 65536 % 256 : Nat) : Int)), ((((absorb S0 (padT t) q).d.toNat / 256 % 256 : Nat) : Int)), 0, 0, 0, 0, 0, 0, 0, 0, 0, 0, 0, 0, 0, 0, 0, 0, 0])) 26 r156_29 rfl kj (run_storeI 5 _ _ g156 14 26 _ _ r156_29 rfl kj kj kj (show 14 < 32 by decide)) fun W30 p30 r156_30 => ?_
    have x30 : Ext w W30 := Puts.ext p30 x29 b156
    refine seq_nil ?_
    refine hK203 _ _ ?_
    try clear hK203 K203
    refine region_lit ?_
    refine seq_val (.int .i64 14) 236 rfl kj kj ?_
    refine seq_val (.int .i64 15) 237 rfl kj kj ?_
    refine seq_val (.int .i64 15) 22 rfl kj kj ?_
    refine seq_nil ?_
    show Code.rounds _ _ _ 18 _ _
    show Code.wp _ _ (Exit.then (Code.rounds _ _ _ 17) _) _ _
    refine wp_seq_k fun K204 hK204 => ?_
    refine wp_seq_k fun K205 hK205 => ?_
    refine region_lit ?_
    refine seq_val (.int .i64 15) 234 rfl kj kj ?_
    refine seq_val (.bool true) 235 rfl kj kj ?_
    refine seq_nil ?_
    refine hK205 _ _ ?_
    try clear hK205 K205
    refine cond_true kj ?_
    refine wp_skip ?_
    refine hK204 _ _ ?_
    try clear hK204 K204
    refine wp_seq_k fun K206 hK206 => ?_
    refine wp_block ?_
    refine region_lit ?_
    refine seq_val (.int .i64 15) 238 rfl kj kj ?_
    refine seq_val (.int .i64 15) 239 rfl kj kj ?_
    refine seq_val (.int .i64 3) 240 rfl kj kj ?_
    refine seq_val (.pointer (some ⟨g7, 3, none⟩)) 241 rfl kj kj ?_
    have r7_30 := (Puts.row p30 r7_29 (ne_of_old r7_14_154 l156))
    refine seq_val (.int .u32 (wv (absorb S0 (padT t) q).d)) 242 rfl kj (run_loadC1 84 _ g7 3 88 _ (.int .u32 (wv (absorb S0 (padT t) q).d)) _ r7_30 rfl kj kj kj) ?_
    refine seq_val (.int .i64 15) 243 rfl kj kj ?_
    refine seq_val (.int .i64 3) 244 rfl kj kj ?_
    refine seq_val (.int .i64 24) 245 rfl kj kj ?_
    refine seq_val (.int .i64 0) 246 rfl kj kj ?_
    refine seq_val (.int .u64 0) 247 rfl kj kj ?_
    refine seq_val (.int .u32 (wv (((absorb S0 (padT t) q).d) >>> 0))) 248 rfl kj (run_bin .shr _ _ _ _ .u32 .u64 _ _ _ rfl kj kj (b_shr _ _ _ _ _ _ (by decide) (w_shr _ _ 0 rfl (by decide)))) ?_
    refine seq_val (.int .u8 ((((absorb S0 (padT t) q).d.toNat / 1 % 256 : Nat) : Int))) 249 rfl kj (run_eq (u := .int .u8 (IntKind.u8.wrap (wv (((absorb S0 (padT t) q).d) >>> 0)))) kj (congrArg (Value.int .u8) (w_byte (absorb S0 (padT t) q).d 0 1 (by decide)))) ?_
    refine seq_val (.pointer (some ⟨g156, 15, none⟩)) 250 rfl kj kj ?_
    refine seq_store g156 _ (ints .u8 ([((((absorb S0 (padT t) q).a.toNat / 16777216 % 256 : Nat) : Int)), ((((absorb S0 (padT t) q).a.toNat / 65536 % 256 : Nat) : Int)), ((((absorb S0 (padT t) q).a.toNat / 256 % 256 : Nat) : Int)), ((((absorb S0 (padT t) q).a.toNat / 1 % 256 : Nat) : Int)), ((((absorb S0 (padT t) q).b.toNat / 16777216 % 256 : Nat) : Int)), ((((absorb S0 (padT t) q).b.toNat / 65536 % 256 : Nat) : Int)), ((((absorb S0 (padT t) q).b.toNat / 256 % 256 : Nat) : Int)), ((((absorb S0 (padT t) q).b.toNat / 1 % 256 : Nat) : Int)), ((((absorb S0 (padT t) q).c.toNat / 16777216 % 256 : Nat) : Int)), ((((absorb S0 (padT t) q).c.toNat / 65536 % 256 : Nat) : Int)), ((((absorb S0 (padT t) q).c.toNat / 256 % 256 : Nat) : Int)), ((((absorb S0 (padT t) q).c.toNat / 1 % 256 : Nat) : Int)), ((((absorb S0 (padT t) q).d.toNat / 16777216 % 256 : Nat) : Int)), ((((absorb S0 (padT t) q).d.toNat / 65536 % 256 : Nat) : Int)), ((((absorb S0 (padT t) q).d.toNat / 256 % 256 : Nat) : Int)), ((((absorb S0 (padT t) q).d.toNat / 1 % 256 : Nat) : Int)), 0, 0, 0, 0, 0, 0, 0, 0, 0, 0, 0, 0, 0, 0, 0, 0])) 26 r156_30 rfl kj (run_storeI 5 _ _ g156 15 26 _ _ r156_30 rfl kj kj kj (show 15 < 32 by decide)) fun W31 p31 r156_31 => ?_
    have x31 : Ext w W31 := Puts.ext p31 x30 b156
    refine seq_nil ?_
    refine hK206 _ _ ?_
    try clear hK206 K206
    refine region_lit ?_
    refine seq_val (.int .i64 15) 236 rfl kj kj ?_
    refine seq_val (.int .i64 16) 237 rfl kj kj ?_
    refine seq_val (.int .i64 16) 22 rfl kj kj ?_
    refine seq_nil ?_
    show Code.rounds _ _ _ 17 _ _
    show Code.wp _ _ (Exit.then (Code.rounds _ _ _ 16) _) _ _
    refine wp_seq_k fun K207 hK207 => ?_
    refine wp_seq_k fun K208 hK208 => ?_
    refine region_lit ?_
    refine seq_val (.int .i64 16) 234 rfl kj kj ?_
    refine seq_val (.bool true) 235 rfl kj kj ?_
    refine seq_nil ?_
    refine hK208 _ _ ?_
    try clear hK208 K208
    refine cond_true kj ?_
    refine wp_skip ?_
    refine hK207 _ _ ?_
    try clear hK207 K207
    refine wp_seq_k fun K209 hK209 => ?_
    refine wp_block ?_
    refine region_lit ?_
    refine seq_val (.int .i64 16) 238 rfl kj kj ?_
    refine seq_val (.int .i64 16) 239 rfl kj kj ?_
    refine seq_val (.int .i64 4) 240 rfl kj kj ?_
    refine seq_val (.pointer (some ⟨g7, 4, none⟩)) 241 rfl kj kj ?_
    have r7_31 := (Puts.row p31 r7_30 (ne_of_old r7_14_154 l156))
    refine seq_val (.int .u32 (wv (absorb S0 (padT t) q).e)) 242 rfl kj (run_loadC1 84 _ g7 4 88 _ (.int .u32 (wv (absorb S0 (padT t) q).e)) _ r7_31 rfl kj kj kj) ?_
    refine seq_val (.int .i64 16) 243 rfl kj kj ?_
    refine seq_val (.int .i64 0) 244 rfl kj kj ?_
    refine seq_val (.int .i64 0) 245 rfl kj kj ?_
    refine seq_val (.int .i64 24) 246 rfl kj kj ?_
    refine seq_val (.int .u64 24) 247 rfl kj kj ?_
    refine seq_val (.int .u32 (wv (((absorb S0 (padT t) q).e) >>> 24))) 248 rfl kj (run_bin .shr _ _ _ _ .u32 .u64 _ _ _ rfl kj kj (b_shr _ _ _ _ _ _ (by decide) (w_shr _ _ 24 rfl (by decide)))) ?_
    refine seq_val (.int .u8 ((((absorb S0 (padT t) q).e.toNat / 16777216 % 256 : Nat) : Int))) 249 rfl kj (run_eq (u := .int .u8 (IntKind.u8.wrap (wv (((absorb S0 (padT t) q).e) >>> 24)))) kj (congrArg (Value.int .u8) (w_byte (absorb S0 (padT t) q).e 24 16777216 (by decide)))) ?_
    refine seq_val (.pointer (some ⟨g156, 16, none⟩)) 250 rfl kj kj ?_
    refine seq_store g156 _ (ints .u8 ([((((absorb S0 (padT t) q).a.toNat / 16777216 % 256 : Nat) : Int)), ((((absorb S0 (padT t) q).a.toNat / 65536 % 256 : Nat) : Int)), ((((absorb S0 (padT t) q).a.toNat / 256 % 256 : Nat) : Int)), ((((absorb S0 (padT t) q).a.toNat / 1 % 256 : Nat) : Int)), ((((absorb S0 (padT t) q).b.toNat / 16777216 % 256 : Nat) : Int)), ((((absorb S0 (padT t) q).b.toNat / 65536 % 256 : Nat) : Int)), ((((absorb S0 (padT t) q).b.toNat / 256 % 256 : Nat) : Int)), ((((absorb S0 (padT t) q).b.toNat / 1 % 256 : Nat) : Int)), ((((absorb S0 (padT t) q).c.toNat / 16777216 % 256 : Nat) : Int)), ((((absorb S0 (padT t) q).c.toNat / 65536 % 256 : Nat) : Int)), ((((absorb S0 (padT t) q).c.toNat / 256 % 256 : Nat) : Int)), ((((absorb S0 (padT t) q).c.toNat / 1 % 256 : Nat) : Int)), ((((absorb S0 (padT t) q).d.toNat / 16777216 % 256 : Nat) : Int)), ((((absorb S0 (padT t) q).d.toNat / 65536 % 256 : Nat) : Int)), ((((absorb S0 (padT t) q).d.toNat / 256 % 256 : Nat) : Int)), ((((absorb S0 (padT t) q).d.toNat / 1 % 256 : Nat) : Int)), ((((absorb S0 (padT t) q).e.toNat / 16777216 % 256 : Nat) : Int)), 0, 0, 0, 0, 0, 0, 0, 0, 0, 0, 0, 0, 0, 0, 0])) 26 r156_31 rfl kj (run_storeI 5 _ _ g156 16 26 _ _ r156_31 rfl kj kj kj (show 16 < 32 by decide)) fun W32 p32 r156_32 => ?_
    have x32 : Ext w W32 := Puts.ext p32 x31 b156
    refine seq_nil ?_
    refine hK209 _ _ ?_
    try clear hK209 K209
    refine region_lit ?_
    refine seq_val (.int .i64 16) 236 rfl kj kj ?_
    refine seq_val (.int .i64 17) 237 rfl kj kj ?_
    refine seq_val (.int .i64 17) 22 rfl kj kj ?_
    refine seq_nil ?_
    show Code.rounds _ _ _ 16 _ _
    show Code.wp _ _ (Exit.then (Code.rounds _ _ _ 15) _) _ _
    refine wp_seq_k fun K210 hK210 => ?_
    refine wp_seq_k fun K211 hK211 => ?_
    refine region_lit ?_
    refine seq_val (.int .i64 17) 234 rfl kj kj ?_
    refine seq_val (.bool true) 235 rfl kj kj ?_
    refine seq_nil ?_
    refine hK211 _ _ ?_
    try clear hK211 K211
    refine cond_true kj ?_
    refine wp_skip ?_
    refine hK210 _ _ ?_
    try clear hK210 K210
    refine wp_seq_k fun K212 hK212 => ?_
    refine wp_block ?_
    refine region_lit ?_
    refine seq_val (.int .i64 17) 238 rfl kj kj ?_
    refine seq_val (.int .i64 17) 239 rfl kj kj ?_
    refine seq_val (.int .i64 4) 240 rfl kj kj ?_
    refine seq_val (.pointer (some ⟨g7, 4, none⟩)) 241 rfl kj kj ?_
    have r7_32 := (Puts.row p32 r7_31 (ne_of_old r7_14_154 l156))
    refine seq_val (.int .u32 (wv (absorb S0 (padT t) q).e)) 242 rfl kj (run_loadC1 84 _ g7 4 88 _ (.int .u32 (wv (absorb S0 (padT t) q).e)) _ r7_32 rfl kj kj kj) ?_
    refine seq_val (.int .i64 17) 243 rfl kj kj ?_
    refine seq_val (.int .i64 1) 244 rfl kj kj ?_
    refine seq_val (.int .i64 8) 245 rfl kj kj ?_
    refine seq_val (.int .i64 16) 246 rfl kj kj ?_
    refine seq_val (.int .u64 16) 247 rfl kj kj ?_
    refine seq_val (.int .u32 (wv (((absorb S0 (padT t) q).e) >>> 16))) 248 rfl kj (run_bin .shr _ _ _ _ .u32 .u64 _ _ _ rfl kj kj (b_shr _ _ _ _ _ _ (by decide) (w_shr _ _ 16 rfl (by decide)))) ?_
    refine seq_val (.int .u8 ((((absorb S0 (padT t) q).e.toNat / 65536 % 256 : Nat) : Int))) 249 rfl kj (run_eq (u := .int .u8 (IntKind.u8.wrap (wv (((absorb S0 (padT t) q).e) >>> 16)))) kj (congrArg (Value.int .u8) (w_byte (absorb S0 (padT t) q).e 16 65536 (by decide)))) ?_
    refine seq_val (.pointer (some ⟨g156, 17, none⟩)) 250 rfl kj kj ?_
    refine seq_store g156 _ (ints .u8 ([((((absorb S0 (padT t) q).a.toNat / 16777216 % 256 : Nat) : Int)), ((((absorb S0 (padT t) q).a.toNat / 65536 % 256 : Nat) : Int)), ((((absorb S0 (padT t) q).a.toNat / 256 % 256 : Nat) : Int)), ((((absorb S0 (padT t) q).a.toNat / 1 % 256 : Nat) : Int)), ((((absorb S0 (padT t) q).b.toNat / 16777216 % 256 : Nat) : Int)), ((((absorb S0 (padT t) q).b.toNat / 65536 % 256 : Nat) : Int)), ((((absorb S0 (padT t) q).b.toNat / 256 % 256 : Nat) : Int)), ((((absorb S0 (padT t) q).b.toNat / 1 % 256 : Nat) : Int)), ((((absorb S0 (padT t) q).c.toNat / 16777216 % 256 : Nat) : Int)), ((((absorb S0 (padT t) q).c.toNat / 65536 % 256 : Nat) : Int)), ((((absorb S0 (padT t) q).c.toNat / 256 % 256 : Nat) : Int)), ((((absorb S0 (padT t) q).c.toNat / 1 % 256 : Nat) : Int)), ((((absorb S0 (padT t) q).d.toNat / 16777216 % 256 : Nat) : Int)), ((((absorb S0 (padT t) q).d.toNat / 65536 % 256 : Nat) : Int)), ((((absorb S0 (padT t) q).d.toNat / 256 % 256 : Nat) : Int)), ((((absorb S0 (padT t) q).d.toNat / 1 % 256 : Nat) : Int)), ((((absorb S0 (padT t) q).e.toNat / 16777216 % 256 : Nat) : Int)), ((((absorb S0 (padT t) q).e.toNat / 65536 % 256 : Nat) : Int)), 0, 0, 0, 0, 0, 0, 0, 0, 0, 0, 0, 0, 0, 0])) 26 r156_32 rfl kj (run_storeI 5 _ _ g156 17 26 _ _ r156_32 rfl kj kj kj (show 17 < 32 by decide)) fun W33 p33 r156_33 => ?_
    have x33 : Ext w W33 := Puts.ext p33 x32 b156
    refine seq_nil ?_
    refine hK212 _ _ ?_
    try clear hK212 K212
    refine region_lit ?_
    refine seq_val (.int .i64 17) 236 rfl kj kj ?_
    refine seq_val (.int .i64 18) 237 rfl kj kj ?_
    refine seq_val (.int .i64 18) 22 rfl kj kj ?_
    refine seq_nil ?_
    show Code.rounds _ _ _ 15 _ _
    show Code.wp _ _ (Exit.then (Code.rounds _ _ _ 14) _) _ _
    refine wp_seq_k fun K213 hK213 => ?_
    refine wp_seq_k fun K214 hK214 => ?_
    refine region_lit ?_
    refine seq_val (.int .i64 18) 234 rfl kj kj ?_
    refine seq_val (.bool true) 235 rfl kj kj ?_
    refine seq_nil ?_
    refine hK214 _ _ ?_
    try clear hK214 K214
    refine cond_true kj ?_
    refine wp_skip ?_
    refine hK213 _ _ ?_
    try clear hK213 K213
    refine wp_seq_k fun K215 hK215 => ?_
    refine wp_block ?_
    refine region_lit ?_
    refine seq_val (.int .i64 18) 238 rfl kj kj ?_
    refine seq_val (.int .i64 18) 239 rfl kj kj ?_
    refine seq_val (.int .i64 4) 240 rfl kj kj ?_
    refine seq_val (.pointer (some ⟨g7, 4, none⟩)) 241 rfl kj kj ?_
    have r7_33 := (Puts.row p33 r7_32 (ne_of_old r7_14_154 l156))
    refine seq_val (.int .u32 (wv (absorb S0 (padT t) q).e)) 242 rfl kj (run_loadC1 84 _ g7 4 88 _ (.int .u32 (wv (absorb S0 (padT t) q).e)) _ r7_33 rfl kj kj kj) ?_
    refine seq_val (.int .i64 18) 243 rfl kj kj ?_
    refine seq_val (.int .i64 2) 244 rfl kj kj ?_
    refine seq_val (.int .i64 16) 245 rfl kj kj ?_
    refine seq_val (.int .i64 8) 246 rfl kj kj ?_
    refine seq_val (.int .u64 8) 247 rfl kj kj ?_
    refine seq_val (.int .u32 (wv (((absorb S0 (padT t) q).e) >>> 8))) 248 rfl kj (run_bin .shr _ _ _ _ .u32 .u64 _ _ _ rfl kj kj (b_shr _ _ _ _ _ _ (by decide) (w_shr _ _ 8 rfl (by decide)))) ?_
    refine seq_val (.int .u8 ((((absorb S0 (padT t) q).e.toNat / 256 % 256 : Nat) : Int))) 249 rfl kj (run_eq (u := .int .u8 (IntKind.u8.wrap (wv (((absorb S0 (padT t) q).e) >>> 8)))) kj (congrArg (Value.int .u8) (w_byte (absorb S0 (padT t) q).e 8 256 (by decide)))) ?_
    refine seq_val (.pointer (some ⟨g156, 18, none⟩)) 250 rfl kj kj ?_
    refine seq_store g156 _ (ints .u8 ([((((absorb S0 (padT t) q).a.toNat / 16777216 % 256 : Nat) : Int)), ((((absorb S0 (padT t) q).a.toNat / 65536 % 256 : Nat) : Int)), ((((absorb S0 (padT t) q).a.toNat / 256 % 256 : Nat) : Int)), ((((absorb S0 (padT t) q).a.toNat / 1 % 256 : Nat) : Int)), ((((absorb S0 (padT t) q).b.toNat / 16777216 % 256 : Nat) : Int)), ((((absorb S0 (padT t) q).b.toNat / 65536 % 256 : Nat) : Int)), ((((absorb S0 (padT t) q).b.toNat / 256 % 256 : Nat) : Int)), ((((absorb S0 (padT t) q).b.toNat / 1 % 256 : Nat) : Int)), ((((absorb S0 (padT t) q).c.toNat / 16777216 % 256 : Nat) : Int)), ((((absorb S0 (padT t) q).c.toNat / 65536 % 256 : Nat) : Int)), ((((absorb S0 (padT t) q).c.toNat / 256 % 256 : Nat) : Int)), ((((absorb S0 (padT t) q).c.toNat / 1 % 256 : Nat) : Int)), ((((absorb S0 (padT t) q).d.toNat / 16777216 % 256 : Nat) : Int)), ((((absorb S0 (padT t) q).d.toNat / 65536 % 256 : Nat) : Int)), ((((absorb S0 (padT t) q).d.toNat / 256 % 256 : Nat) : Int)), ((((absorb S0 (padT t) q).d.toNat / 1 % 256 : Nat) : Int)), ((((absorb S0 (padT t) q).e.toNat / 16777216 % 256 : Nat) : Int)), ((((absorb S0 (padT t) q).e.toNat / 65536 % 256 : Nat) : Int)), ((((absorb S0 (padT t) q).e.toNat / 256 % 256 : Nat) : Int)), 0, 0, 0, 0, 0, 0, 0, 0, 0, 0, 0, 0, 0])) 26 r156_33 rfl kj (run_storeI 5 _ _ g156 18 26 _ _ r156_33 rfl kj kj kj (show 18 < 32 by decide)) fun W34 p34 r156_34 => ?_
    have x34 : Ext w W34 := Puts.ext p34 x33 b156
    refine seq_nil ?_
    refine hK215 _ _ ?_
    try clear hK215 K215
    refine region_lit ?_
    refine seq_val (.int .i64 18) 236 rfl kj kj ?_
    refine seq_val (.int .i64 19) 237 rfl kj kj ?_
    refine seq_val (.int .i64 19) 22 rfl kj kj ?_
    refine seq_nil ?_
    show Code.rounds _ _ _ 14 _ _
    show Code.wp _ _ (Exit.then (Code.rounds _ _ _ 13) _) _ _
    refine wp_seq_k fun K216 hK216 => ?_
    refine wp_seq_k fun K217 hK217 => ?_
    refine region_lit ?_
    refine seq_val (.int .i64 19) 234 rfl kj kj ?_
    refine seq_val (.bool true) 235 rfl kj kj ?_
    refine seq_nil ?_
    refine hK217 _ _ ?_
    try clear hK217 K217
    refine cond_true kj ?_
    refine wp_skip ?_
    refine hK216 _ _ ?_
    try clear hK216 K216
    refine wp_seq_k fun K218 hK218 => ?_
    refine wp_block ?_
    refine region_lit ?_
    refine seq_val (.int .i64 19) 238 rfl kj kj ?_
    refine seq_val (.int .i64 19) 239 rfl kj kj ?_
    refine seq_val (.int .i64 4) 240 rfl kj kj ?_
    refine seq_val (.pointer (some ⟨g7, 4, none⟩)) 241 rfl kj kj ?_
    have r7_34 := (Puts.row p34 r7_33 (ne_of_old r7_14_154 l156))
    refine seq_val (.int .u32 (wv (absorb S0 (padT t) q).e)) 242 rfl kj (run_loadC1 84 _ g7 4 88 _ (.int .u32 (wv (absorb S0 (padT t) q).e)) _ r7_34 rfl kj kj kj) ?_
    refine seq_val (.int .i64 19) 243 rfl kj kj ?_
    refine seq_val (.int .i64 3) 244 rfl kj kj ?_
    refine seq_val (.int .i64 24) 245 rfl kj kj ?_
    refine seq_val (.int .i64 0) 246 rfl kj kj ?_
    refine seq_val (.int .u64 0) 247 rfl kj kj ?_
    refine seq_val (.int .u32 (wv (((absorb S0 (padT t) q).e) >>> 0))) 248 rfl kj (run_bin .shr _ _ _ _ .u32 .u64 _ _ _ rfl kj kj (b_shr _ _ _ _ _ _ (by decide) (w_shr _ _ 0 rfl (by decide)))) ?_
    refine seq_val (.int .u8 ((((absorb S0 (padT t) q).e.toNat / 1 % 256 : Nat) : Int))) 249 rfl kj (run_eq (u := .int .u8 (IntKind.u8.wrap (wv (((absorb S0 (padT t) q).e) >>> 0)))) kj (congrArg (Value.int .u8) (w_byte (absorb S0 (padT t) q).e 0 1 (by decide)))) ?_
    refine seq_val (.pointer (some ⟨g156, 19, none⟩)) 250 rfl kj kj ?_
    refine seq_store g156 _ (ints .u8 ([((((absorb S0 (padT t) q).a.toNat / 16777216 % 256 : Nat) : Int)), ((((absorb S0 (padT t) q).a.toNat / 65536 % 256 : Nat) : Int)), ((((absorb S0 (padT t) q).a.toNat / 256 % 256 : Nat) : Int)), ((((absorb S0 (padT t) q).a.toNat / 1 % 256 : Nat) : Int)), ((((absorb S0 (padT t) q).b.toNat / 16777216 % 256 : Nat) : Int)), ((((absorb S0 (padT t) q).b.toNat / 65536 % 256 : Nat) : Int)), ((((absorb S0 (padT t) q).b.toNat / 256 % 256 : Nat) : Int)), ((((absorb S0 (padT t) q).b.toNat / 1 % 256 : Nat) : Int)), ((((absorb S0 (padT t) q).c.toNat / 16777216 % 256 : Nat) : Int)), ((((absorb S0 (padT t) q).c.toNat / 65536 % 256 : Nat) : Int)), ((((absorb S0 (padT t) q).c.toNat / 256 % 256 : Nat) : Int)), ((((absorb S0 (padT t) q).c.toNat / 1 % 256 : Nat) : Int)), ((((absorb S0 (padT t) q).d.toNat / 16777216 % 256 : Nat) : Int)), ((((absorb S0 (padT t) q).d.toNat / 65536 % 256 : Nat) : Int)), ((((absorb S0 (padT t) q).d.toNat / 256 % 256 : Nat) : Int)), ((((absorb S0 (padT t) q).d.toNat / 1 % 256 : Nat) : Int)), ((((absorb S0 (padT t) q).e.toNat / 16777216 % 256 : Nat) : Int)), ((((absorb S0 (padT t) q).e.toNat / 65536 % 256 : Nat) : Int)), ((((absorb S0 (padT t) q).e.toNat / 256 % 256 : Nat) : Int)), ((((absorb S0 (padT t) q).e.toNat / 1 % 256 : Nat) : Int)), 0, 0, 0, 0, 0, 0, 0, 0, 0, 0, 0, 0])) 26 r156_34 rfl kj (run_storeI 5 _ _ g156 19 26 _ _ r156_34 rfl kj kj kj (show 19 < 32 by decide)) fun W35 p35 r156_35 => ?_
    have x35 : Ext w W35 := Puts.ext p35 x34 b156
    refine seq_nil ?_
    refine hK218 _ _ ?_
    try clear hK218 K218
    refine region_lit ?_
    refine seq_val (.int .i64 19) 236 rfl kj kj ?_
    refine seq_val (.int .i64 20) 237 rfl kj kj ?_
    refine seq_val (.int .i64 20) 22 rfl kj kj ?_
    refine seq_nil ?_
    show Code.rounds _ _ _ 13 _ _
    show Code.wp _ _ (Exit.then (Code.rounds _ _ _ 12) _) _ _
    refine wp_seq_k fun K219 hK219 => ?_
    refine wp_seq_k fun K220 hK220 => ?_
    refine region_lit ?_
    refine seq_val (.int .i64 20) 234 rfl kj kj ?_
    refine seq_val (.bool true) 235 rfl kj kj ?_
    refine seq_nil ?_
    refine hK220 _ _ ?_
    try clear hK220 K220
    refine cond_true kj ?_
    refine wp_skip ?_
    refine hK219 _ _ ?_
    try clear hK219 K219
    refine wp_seq_k fun K221 hK221 => ?_
    refine wp_block ?_
    refine region_lit ?_
    refine seq_val (.int .i64 20) 238 rfl kj kj ?_
    refine seq_val (.int .i64 20) 239 rfl kj kj ?_
    refine seq_val (.int .i64 5) 240 rfl kj kj ?_
    refine seq_val (.pointer (some ⟨g7, 5, none⟩)) 241 rfl kj kj ?_
    have r7_35 := (Puts.row p35 r7_34 (ne_of_old r7_14_154 l156))
    refine seq_val (.int .u32 (wv (absorb S0 (padT t) q).f)) 242 rfl kj (run_loadC1 84 _ g7 5 88 _ (.int .u32 (wv (absorb S0 (padT t) q).f)) _ r7_35 rfl kj kj kj) ?_
    refine seq_val (.int .i64 20) 243 rfl kj kj ?_
    refine seq_val (.int .i64 0) 244 rfl kj kj ?_
    refine seq_val (.int .i64 0) 245 rfl kj kj ?_
    refine seq_val (.int .i64 24) 246 rfl kj kj ?_
    refine seq_val (.int .u64 24) 247 rfl kj kj ?_
    refine seq_val (.int .u32 (wv (((absorb S0 (padT t) q).f) >>> 24))) 248 rfl kj (run_bin .shr _ _ _ _ .u32 .u64 _ _ _ rfl kj kj (b_shr _ _ _ _ _ _ (by decide) (w_shr _ _ 24 rfl (by decide)))) ?_
    refine seq_val (.int .u8 ((((absorb S0 (padT t) q).f.toNat / 16777216 % 256 : Nat) : Int))) 249 rfl kj (run_eq (u := .int .u8 (IntKind.u8.wrap (wv (((absorb S0 (padT t) q).f) >>> 24)))) kj (congrArg (Value.int .u8) (w_byte (absorb S0 (padT t) q).f 24 16777216 (by decide)))) ?_
    refine seq_val (.pointer (some ⟨g156, 20, none⟩)) 250 rfl kj kj ?_
    refine seq_store g156 _ (ints .u8 ([((((absorb S0 (padT t) q).a.toNat / 16777216 % 256 : Nat) : Int)), ((((absorb S0 (padT t) q).a.toNat / 65536 % 256 : Nat) : Int)), ((((absorb S0 (padT t) q).a.toNat / 256 % 256 : Nat) : Int)), ((((absorb S0 (padT t) q).a.toNat / 1 % 256 : Nat) : Int)), ((((absorb S0 (padT t) q).b.toNat / 16777216 % 256 : Nat) : Int)), ((((absorb S0 (padT t) q).b.toNat / 65536 % 256 : Nat) : Int)), ((((absorb S0 (padT t) q).b.toNat / 256 % 256 : Nat) : Int)), ((((absorb S0 (padT t) q).b.toNat / 1 % 256 : Nat) : Int)), ((((absorb S0 (padT t) q).c.toNat / 16777216 % 256 : Nat) : Int)), ((((absorb S0 (padT t) q).c.toNat / 65536 % 256 : Nat) : Int)), ((((absorb S0 (padT t) q).c.toNat / 256 % 256 : Nat) : Int)), ((((absorb S0 (padT t) q).c.toNat / 1 % 256 : Nat) : Int)), ((((absorb S0 (padT t) q).d.toNat / 16777216 % 256 : Nat) : Int)), ((((absorb S0 (padT t) q).d.toNat / 65536 % 256 : Nat) : Int)), ((((absorb S0 (padT t) q).d.toNat / 256 % 256 : Nat) : Int)), ((((absorb S0 (padT t) q).d.toNat / 1 % 256 : Nat) : Int)), ((((absorb S0 (padT t) q).e.toNat / 16777216 % 256 : Nat) : Int)), ((((absorb S0 (padT t) q).e.toNat / 65536 % 256 : Nat) : Int)), ((((absorb S0 (padT t) q).e.toNat / 256 % 256 : Nat) : Int)), ((((absorb S0 (padT t) q).e.toNat / 1 % 256 : Nat) : Int)), ((((absorb S0 (padT t) q).f.toNat / 16777216 % 256 : Nat) : Int)), 0, 0, 0, 0, 0, 0, 0, 0, 0, 0, 0])) 26 r156_35 rfl kj (run_storeI 5 _ _ g156 20 26 _ _ r156_35 rfl kj kj kj (show 20 < 32 by decide)) fun W36 p36 r156_36 => ?_
    have x36 : Ext w W36 := Puts.ext p36 x35 b156
    refine seq_nil ?_
    refine hK221 _ _ ?_
    try clear hK221 K221
    refine region_lit ?_
    refine seq_val (.int .i64 20) 236 rfl kj kj ?_
    refine seq_val (.int .i64 21) 237 rfl kj kj ?_
    refine seq_val (.int .i64 21) 22 rfl kj kj ?_
    refine seq_nil ?_
    show Code.rounds _ _ _ 12 _ _
    show Code.wp _ _ (Exit.then (Code.rounds _ _ _ 11) _) _ _
    refine wp_seq_k fun K222 hK222 => ?_
    refine wp_seq_k fun K223 hK223 => ?_
    refine region_lit ?_
    refine seq_val (.int .i64 21) 234 rfl kj kj ?_
    refine seq_val (.bool true) 235 rfl kj kj ?_
    refine seq_nil ?_
    refine hK223 _ _ ?_
    try clear hK223 K223
    refine cond_true kj ?_
    refine wp_skip ?_
    refine hK222 _ _ ?_
    try clear hK222 K222
    refine wp_seq_k fun K224 hK224 => ?_
    refine wp_block ?_
    refine region_lit ?_
    refine seq_val (.int .i64 21) 238 rfl kj kj ?_
    refine seq_val (.int .i64 21) 239 rfl kj kj ?_
    refine seq_val (.int .i64 5) 240 rfl kj kj ?_
    refine seq_val (.pointer (some ⟨g7, 5, none⟩)) 241 rfl kj kj ?_
    have r7_36 := (Puts.row p36 r7_35 (ne_of_old r7_14_154 l156))
    refine seq_val (.int .u32 (wv (absorb S0 (padT t) q).f)) 242 rfl kj (run_loadC1 84 _ g7 5 88 _ (.int .u32 (wv (absorb S0 (padT t) q).f)) _ r7_36 rfl kj kj kj) ?_
    refine seq_val (.int .i64 21) 243 rfl kj kj ?_
    refine seq_val (.int .i64 1) 244 rfl kj kj ?_
    refine seq_val (.int .i64 8) 245 rfl kj kj ?_
    refine seq_val (.int .i64 16) 246 rfl kj kj ?_
    refine seq_val (.int .u64 16) 247 rfl kj kj ?_
    refine seq_val (.int .u32 (wv (((absorb S0 (padT t) q).f) >>> 16))) 248 rfl kj (run_bin .shr _ _ _ _ .u32 .u64 _ _ _ rfl kj kj (b_shr _ _ _ _ _ _ (by decide) (w_shr _ _ 16 rfl (by decide)))) ?_
    refine seq_val (.int .u8 ((((absorb S0 (padT t) q).f.toNat / 65536 % 256 : Nat) : Int))) 249 rfl kj (run_eq (u := .int .u8 (IntKind.u8.wrap (wv (((absorb S0 (padT t) q).f) >>> 16)))) kj (congrArg (Value.int .u8) (w_byte (absorb S0 (padT t) q).f 16 65536 (by decide)))) ?_
    refine seq_val (.pointer (some ⟨g156, 21, none⟩)) 250 rfl kj kj ?_
    refine seq_store g156 _ (ints .u8 ([((((absorb S0 (padT t) q).a.toNat / 16777216 % 256 : Nat) : Int)), ((((absorb S0 (padT t) q).a.toNat / 65536 % 256 : Nat) : Int)), ((((absorb S0 (padT t) q).a.toNat / 256 % 256 : Nat) : Int)), ((((absorb S0 (padT t) q).a.toNat / 1 % 256 : Nat) : Int)), ((((absorb S0 (padT t) q).b.toNat / 16777216 % 256 : Nat) : Int)), ((((absorb S0 (padT t) q).b.toNat / 65536 % 256 : Nat) : Int)), ((((absorb S0 (padT t) q).b.toNat / 256 % 256 : Nat) : Int)), ((((absorb S0 (padT t) q).b.toNat / 1 % 256 : Nat) : Int)), ((((absorb S0 (padT t) q).c.toNat / 16777216 % 256 : Nat) : Int)), ((((absorb S0 (padT t) q).c.toNat / 65536 % 256 : Nat) : Int)), ((((absorb S0 (padT t) q).c.toNat / 256 % 256 : Nat) : Int)), ((((absorb S0 (padT t) q).c.toNat / 1 % 256 : Nat) : Int)), ((((absorb S0 (padT t) q).d.toNat / 16777216 % 256 : Nat) : Int)), ((((absorb S0 (padT t) q).d.toNat / 65536 % 256 : Nat) : Int)), ((((absorb S0 (padT t) q).d.toNat / 256 % 256 : Nat) : Int)), ((((absorb S0 (padT t) q).d.toNat / 1 % 256 : Nat) : Int)), ((((absorb S0 (padT t) q).e.toNat / 16777216 % 256 : Nat) : Int)), ((((absorb S0 (padT t) q).e.toNat / 65536 % 256 : Nat) : Int)), ((((absorb S0 (padT t) q).e.toNat / 256 % 256 : Nat) : Int)), ((((absorb S0 (padT t) q).e.toNat / 1 % 256 : Nat) : Int)), ((((absorb S0 (padT t) q).f.toNat / 16777216 % 256 : Nat) : Int)), ((((absorb S0 (padT t) q).f.toNat / 65536 % 256 : Nat) : Int)), 0, 0, 0, 0, 0, 0, 0, 0, 0, 0])) 26 r156_36 rfl kj (run_storeI 5 _ _ g156 21 26 _ _ r156_36 rfl kj kj kj (show 21 < 32 by decide)) fun W37 p37 r156_37 => ?_
    have x37 : Ext w W37 := Puts.ext p37 x36 b156
    refine seq_nil ?_
    refine hK224 _ _ ?_
    try clear hK224 K224
    refine region_lit ?_
    refine seq_val (.int .i64 21) 236 rfl kj kj ?_
    refine seq_val (.int .i64 22) 237 rfl kj kj ?_
    refine seq_val (.int .i64 22) 22 rfl kj kj ?_
    refine seq_nil ?_
    show Code.rounds _ _ _ 11 _ _
    show Code.wp _ _ (Exit.then (Code.rounds _ _ _ 10) _) _ _
    refine wp_seq_k fun K225 hK225 => ?_
    refine wp_seq_k fun K226 hK226 => ?_
    refine region_lit ?_
    refine seq_val (.int .i64 22) 234 rfl kj kj ?_
    refine seq_val (.bool true) 235 rfl kj kj ?_
    refine seq_nil ?_
    refine hK226 _ _ ?_
    try clear hK226 K226
    refine cond_true kj ?_
    refine wp_skip ?_
    refine hK225 _ _ ?_
    try clear hK225 K225
    refine wp_seq_k fun K227 hK227 => ?_
    refine wp_block ?_
    refine region_lit ?_
    refine seq_val (.int .i64 22) 238 rfl kj kj ?_
    refine seq_val (.int .i64 22) 239 rfl kj kj ?_
    refine seq_val (.int .i64 5) 240 rfl kj kj ?_
    refine seq_val (.pointer (some ⟨g7, 5, none⟩)) 241 rfl kj kj ?_
    have r7_37 := (Puts.row p37 r7_36 (ne_of_old r7_14_154 l156))
    refine seq_val (.int .u32 (wv (absorb S0 (padT t) q).f)) 242 rfl kj (run_loadC1 84 _ g7 5 88 _ (.int .u32 (wv (absorb S0 (padT t) q).f)) _ r7_37 rfl kj kj kj) ?_
    refine seq_val (.int .i64 22) 243 rfl kj kj ?_
    refine seq_val (.int .i64 2) 244 rfl kj kj ?_
    refine seq_val (.int .i64 16) 245 rfl kj kj ?_
    refine seq_val (.int .i64 8) 246 rfl kj kj ?_
    refine seq_val (.int .u64 8) 247 rfl kj kj ?_
    refine seq_val (.int .u32 (wv (((absorb S0 (padT t) q).f) >>> 8))) 248 rfl kj (run_bin .shr _ _ _ _ .u32 .u64 _ _ _ rfl kj kj (b_shr _ _ _ _ _ _ (by decide) (w_shr _ _ 8 rfl (by decide)))) ?_
    refine seq_val (.int .u8 ((((absorb S0 (padT t) q).f.toNat / 256 % 256 : Nat) : Int))) 249 rfl kj (run_eq (u := .int .u8 (IntKind.u8.wrap (wv (((absorb S0 (padT t) q).f) >>> 8)))) kj (congrArg (Value.int .u8) (w_byte (absorb S0 (padT t) q).f 8 256 (by decide)))) ?_
    refine seq_val (.pointer (some ⟨g156, 22, none⟩)) 250 rfl kj kj ?_
    refine seq_store g156 _ (ints .u8 ([((((absorb S0 (padT t) q).a.toNat / 16777216 % 256 : Nat) : Int)), ((((absorb S0 (padT t) q).a.toNat / 65536 % 256 : Nat) : Int)), ((((absorb S0 (padT t) q).a.toNat / 256 % 256 : Nat) : Int)), ((((absorb S0 (padT t) q).a.toNat / 1 % 256 : Nat) : Int)), ((((absorb S0 (padT t) q).b.toNat / 16777216 % 256 : Nat) : Int)), ((((absorb S0 (padT t) q).b.toNat / 65536 % 256 : Nat) : Int)), ((((absorb S0 (padT t) q).b.toNat / 256 % 256 : Nat) : Int)), ((((absorb S0 (padT t) q).b.toNat / 1 % 256 : Nat) : Int)), ((((absorb S0 (padT t) q).c.toNat / 16777216 % 256 : Nat) : Int)), ((((absorb S0 (padT t) q).c.toNat / 65536 % 256 : Nat) : Int)), ((((absorb S0 (padT t) q).c.toNat / 256 % 256 : Nat) : Int)), ((((absorb S0 (padT t) q).c.toNat / 1 % 256 : Nat) : Int)), ((((absorb S0 (padT t) q).d.toNat / 16777216 % 256 : Nat) : Int)), ((((absorb S0 (padT t) q).d.toNat / 65536 % 256 : Nat) : Int)), ((((absorb S0 (padT t) q).d.toNat / 256 % 256 : Nat) : Int)), ((((absorb S0 (padT t) q).d.toNat / 1 % 256 : Nat) : Int)), ((((absorb S0 (padT t) q).e.toNat / 16777216 % 256 : Nat) : Int)), ((((absorb S0 (padT t) q).e.toNat / 65536 % 256 : Nat) : Int)), ((((absorb S0 (padT t) q).e.toNat / 256 % 256 : Nat) : Int)), ((((absorb S0 (padT t) q).e.toNat / 1 % 256 : Nat) : Int)), ((((absorb S0 (padT t) q).f.toNat / 16777216 % 256 : Nat) : Int)), ((((absorb S0 (padT t) q).f.toNat / 65536 % 256 : Nat) : Int)), ((((absorb S0 (padT t) q).f.toNat / 256 % 256 : Nat) : Int)), 0, 0, 0, 0, 0, 0, 0, 0, 0])) 26 r156_37 rfl kj (run_storeI 5 _ _ g156 22 26 _ _ r156_37 rfl kj kj kj (show 22 < 32 by decide)) fun W38 p38 r156_38 => ?_
    have x38 : Ext w W38 := Puts.ext p38 x37 b156
    refine seq_nil ?_
    refine hK227 _ _ ?_
    try clear hK227 K227
    refine region_lit ?_
    refine seq_val (.int .i64 22) 236 rfl kj kj ?_
    refine seq_val (.int .i64 23) 237 rfl kj kj ?_
    refine seq_val (.int .i64 23) 22 rfl kj kj ?_
    refine seq_nil ?_
    show Code.rounds _ _ _ 10 _ _
    show Code.wp _ _ (Exit.then (Code.rounds _ _ _ 9) _) _ _
    refine wp_seq_k fun K228 hK228 => ?_
    refine wp_seq_k fun K229 hK229 => ?_
    refine region_lit ?_
    refine seq_val (.int .i64 23) 234 rfl kj kj ?_
    refine seq_val (.bool true) 235 rfl kj kj ?_
    refine seq_nil ?_
    refine hK229 _ _ ?_
    try clear hK229 K229
    refine cond_true kj ?_
    refine wp_skip ?_
    refine hK228 _ _ ?_
    try clear hK228 K228
    refine wp_seq_k fun K230 hK230 => ?_
    refine wp_block ?_
    refine region_lit ?_
    refine seq_val (.int .i64 23) 238 rfl kj kj ?_
    refine seq_val (.int .i64 23) 239 rfl kj kj ?_
    refine seq_val (.int .i64 5) 240 rfl kj kj ?_
    refine seq_val (.pointer (some ⟨g7, 5, none⟩)) 241 rfl kj kj ?_
    have r7_38 := (Puts.row p38 r7_37 (ne_of_old r7_14_154 l156))
    refine seq_val (.int .u32 (wv (absorb S0 (padT t) q).f)) 242 rfl kj (run_loadC1 84 _ g7 5 88 _ (.int .u32 (wv (absorb S0 (padT t) q).f)) _ r7_38 rfl kj kj kj) ?_
    refine seq_val (.int .i64 23) 243 rfl kj kj ?_
    refine seq_val (.int .i64 3) 244 rfl kj kj ?_
    refine seq_val (.int .i64 24) 245 rfl kj kj ?_
    refine seq_val (.int .i64 0) 246 rfl kj kj ?_
    refine seq_val (.int .u64 0) 247 rfl kj kj ?_
    refine seq_val (.int .u32 (wv (((absorb S0 (padT t) q).f) >>> 0))) 248 rfl kj (run_bin .shr _ _ _ _ .u32 .u64 _ _ _ rfl kj kj (b_shr _ _ _ _ _ _ (by decide) (w_shr _ _ 0 rfl (by decide)))) ?_
    refine seq_val (.int .u8 ((((absorb S0 (padT t) q).f.toNat / 1 % 256 : Nat) : Int))) 249 rfl kj (run_eq (u := .int .u8 (IntKind.u8.wrap (wv (((absorb S0 (padT t) q).f) >>> 0)))) kj (congrArg (Value.int .u8) (w_byte (absorb S0 (padT t) q).f 0 1 (by decide)))) ?_
    refine seq_val (.pointer (some ⟨g156, 23, none⟩)) 250 rfl kj kj ?_
    refine seq_store g156 _ (ints .u8 ([((((absorb S0 (padT t) q).a.toNat / 16777216 % 256 : Nat) : Int)), ((((absorb S0 (padT t) q).a.toNat / 65536 % 256 : Nat) : Int)), ((((absorb S0 (padT t) q).a.toNat / 256 % 256 : Nat) : Int)), ((((absorb S0 (padT t) q).a.toNat / 1 % 256 : Nat) : Int)), ((((absorb S0 (padT t) q).b.toNat / 16777216 % 256 : Nat) : Int)), ((((absorb S0 (padT t) q).b.toNat / 65536 % 256 : Nat) : Int)), ((((absorb S0 (padT t) q).b.toNat / 256 % 256 : Nat) : Int)), ((((absorb S0 (padT t) q).b.toNat / 1 % 256 : Nat) : Int)), ((((absorb S0 (padT t) q).c.toNat / 16777216 % 256 : Nat) : Int)), ((((absorb S0 (padT t) q).c.toNat / 65536 % 256 : Nat) : Int)), ((((absorb S0 (padT t) q).c.toNat / 256 % 256 : Nat) : Int)), ((((absorb S0 (padT t) q).c.toNat / 1 % 256 : Nat) : Int)), ((((absorb S0 (padT t) q).d.toNat / 16777216 % 256 : Nat) : Int)), ((((absorb S0 (padT t) q).d.toNat / 65536 % 256 : Nat) : Int)), ((((absorb S0 (padT t) q).d.toNat / 256 % 256 : Nat) : Int)), ((((absorb S0 (padT t) q).d.toNat / 1 % 256 : Nat) : Int)), ((((absorb S0 (padT t) q).e.toNat / 16777216 % 256 : Nat) : Int)), ((((absorb S0 (padT t) q).e.toNat / 65536 % 256 : Nat) : Int)), ((((absorb S0 (padT t) q).e.toNat / 256 % 256 : Nat) : Int)), ((((absorb S0 (padT t) q).e.toNat / 1 % 256 : Nat) : Int)), ((((absorb S0 (padT t) q).f.toNat / 16777216 % 256 : Nat) : Int)), ((((absorb S0 (padT t) q).f.toNat / 65536 % 256 : Nat) : Int)), ((((absorb S0 (padT t) q).f.toNat / 256 % 256 : Nat) : Int)), ((((absorb S0 (padT t) q).f.toNat / 1 % 256 : Nat) : Int)), 0, 0, 0, 0, 0, 0, 0, 0])) 26 r156_38 rfl kj (run_storeI 5 _ _ g156 23 26 _ _ r156_38 rfl kj kj kj (show 23 < 32 by decide)) fun W39 p39 r156_39 => ?_
    have x39 : Ext w W39 := Puts.ext p39 x38 b156
    refine seq_nil ?_
    refine hK230 _ _ ?_
    try clear hK230 K230
    refine region_lit ?_
    refine seq_val (.int .i64 23) 236 rfl kj kj ?_
    refine seq_val (.int .i64 24) 237 rfl kj kj ?_
    refine seq_val (.int .i64 24) 22 rfl kj kj ?_
    refine seq_nil ?_
    show Code.rounds _ _ _ 9 _ _
    show Code.wp _ _ (Exit.then (Code.rounds _ _ _ 8) _) _ _
    refine wp_seq_k fun K231 hK231 => ?_
    refine wp_seq_k fun K232 hK232 => ?_
    refine region_lit ?_
    refine seq_val (.int .i64 24) 234 rfl kj kj ?_
    refine seq_val (.bool true) 235 rfl kj kj ?_
    refine seq_nil ?_
    refine hK232 _ _ ?_
    try clear hK232 K232
    refine cond_true kj ?_
    refine wp_skip ?_
    refine hK231 _ _ ?_
    try clear hK231 K231
    refine wp_seq_k fun K233 hK233 => ?_
    refine wp_block ?_
    refine region_lit ?_
    refine seq_val (.int .i64 24) 238 rfl kj kj ?_
    refine seq_val (.int .i64 24) 239 rfl kj kj ?_
    refine seq_val (.int .i64 6) 240 rfl kj kj ?_
    refine seq_val (.pointer (some ⟨g7, 6, none⟩)) 241 rfl kj kj ?_
    have r7_39 := (Puts.row p39 r7_38 (ne_of_old r7_14_154 l156))
    refine seq_val (.int .u32 (wv (absorb S0 (padT t) q).g)) 242 rfl kj (run_loadC1 84 _ g7 6 88 _ (.int .u32 (wv (absorb S0 (padT t) q).g)) _ r7_39 rfl kj kj kj) ?_
    refine seq_val (.int .i64 24) 243 rfl kj kj ?_
    refine seq_val (.int .i64 0) 244 rfl kj kj ?_
    refine seq_val (.int .i64 0) 245 rfl kj kj ?_
    refine seq_val (.int .i64 24) 246 rfl kj kj ?_
    refine seq_val (.int .u64 24) 247 rfl kj kj ?_
    refine seq_val (.int .u32 (wv (((absorb S0 (padT t) q).g) >>> 24))) 248 rfl kj (run_bin .shr _ _ _ _ .u32 .u64 _ _ _ rfl kj kj (b_shr _ _ _ _ _ _ (by decide) (w_shr _ _ 24 rfl (by decide)))) ?_
    refine seq_val (.int .u8 ((((absorb S0 (padT t) q).g.toNat / 16777216 % 256 : Nat) : Int))) 249 rfl kj (run_eq (u := .int .u8 (IntKind.u8.wrap (wv (((absorb S0 (padT t) q).g) >>> 24)))) kj (congrArg (Value.int .u8) (w_byte (absorb S0 (padT t) q).g 24 16777216 (by decide)))) ?_
    refine seq_val (.pointer (some ⟨g156, 24, none⟩)) 250 rfl kj kj ?_
    refine seq_store g156 _ (ints .u8 ([((((absorb S0 (padT t) q).a.toNat / 16777216 % 256 : Nat) : Int)), ((((absorb S0 (padT t) q).a.toNat / 65536 % 256 : Nat) : Int)), ((((absorb S0 (padT t) q).a.toNat / 256 % 256 : Nat) : Int)), ((((absorb S0 (padT t) q).a.toNat / 1 % 256 : Nat) : Int)), ((((absorb S0 (padT t) q).b.toNat / 16777216 % 256 : Nat) : Int)), ((((absorb S0 (padT t) q).b.toNat / 65536 % 256 : Nat) : Int)), ((((absorb S0 (padT t) q).b.toNat / 256 % 256 : Nat) : Int)), ((((absorb S0 (padT t) q).b.toNat / 1 % 256 : Nat) : Int)), ((((absorb S0 (padT t) q).c.toNat / 16777216 % 256 : Nat) : Int)), ((((absorb S0 (padT t) q).c.toNat / 65536 % 256 : Nat) : Int)), ((((absorb S0 (padT t) q).c.toNat / 256 % 256 : Nat) : Int)), ((((absorb S0 (padT t) q).c.toNat / 1 % 256 : Nat) : Int)), ((((absorb S0 (padT t) q).d.toNat / 16777216 % 256 : Nat) : Int)), ((((absorb S0 (padT t) q).d.toNat / 65536 % 256 : Nat) : Int)), ((((absorb S0 (padT t) q).d.toNat / 256 % 256 : Nat) : Int)), ((((absorb S0 (padT t) q).d.toNat / 1 % 256 : Nat) : Int)), ((((absorb S0 (padT t) q).e.toNat / 16777216 % 256 : Nat) : Int)), ((((absorb S0 (padT t) q).e.toNat / 65536 % 256 : Nat) : Int)), ((((absorb S0 (padT t) q).e.toNat / 256 % 256 : Nat) : Int)), ((((absorb S0 (padT t) q).e.toNat / 1 % 256 : Nat) : Int)), ((((absorb S0 (padT t) q).f.toNat / 16777216 % 256 : Nat) : Int)), ((((absorb S0 (padT t) q).f.toNat / 65536 % 256 : Nat) : Int)), ((((absorb S0 (padT t) q).f.toNat / 256 % 256 : Nat) : Int)), ((((absorb S0 (padT t) q).f.toNat / 1 % 256 : Nat) : Int)), ((((absorb S0 (padT t) q).g.toNat / 16777216 % 256 : Nat) : Int)), 0, 0, 0, 0, 0, 0, 0])) 26 r156_39 rfl kj (run_storeI 5 _ _ g156 24 26 _ _ r156_39 rfl kj kj kj (show 24 < 32 by decide)) fun W40 p40 r156_40 => ?_
    have x40 : Ext w W40 := Puts.ext p40 x39 b156
    refine seq_nil ?_
    refine hK233 _ _ ?_
    try clear hK233 K233
    refine region_lit ?_
    refine seq_val (.int .i64 24) 236 rfl kj kj ?_
    refine seq_val (.int .i64 25) 237 rfl kj kj ?_
    refine seq_val (.int .i64 25) 22 rfl kj kj ?_
    refine seq_nil ?_
    show Code.rounds _ _ _ 8 _ _
    show Code.wp _ _ (Exit.then (Code.rounds _ _ _ 7) _) _ _
    refine wp_seq_k fun K234 hK234 => ?_
    refine wp_seq_k fun K235 hK235 => ?_
    refine region_lit ?_
    refine seq_val (.int .i64 25) 234 rfl kj kj ?_
    refine seq_val (.bool true) 235 rfl kj kj ?_
    refine seq_nil ?_
    refine hK235 _ _ ?_
    try clear hK235 K235
    refine cond_true kj ?_
    refine wp_skip ?_
    refine hK234 _ _ ?_
    try clear hK234 K234
    refine wp_seq_k fun K236 hK236 => ?_
    refine wp_block ?_
    refine region_lit ?_
    refine seq_val (.int .i64 25) 238 rfl kj kj ?_
    refine seq_val (.int .i64 25) 239 rfl kj kj ?_
    refine seq_val (.int .i64 6) 240 rfl kj kj ?_
    refine seq_val (.pointer (some ⟨g7, 6, none⟩)) 241 rfl kj kj ?_
    have r7_40 := (Puts.row p40 r7_39 (ne_of_old r7_14_154 l156))
    refine seq_val (.int .u32 (wv (absorb S0 (padT t) q).g)) 242 rfl kj (run_loadC1 84 _ g7 6 88 _ (.int .u32 (wv (absorb S0 (padT t) q).g)) _ r7_40 rfl kj kj kj) ?_
    refine seq_val (.int .i64 25) 243 rfl kj kj ?_
    refine seq_val (.int .i64 1) 244 rfl kj kj ?_
    refine seq_val (.int .i64 8) 245 rfl kj kj ?_
    refine seq_val (.int .i64 16) 246 rfl kj kj ?_
    refine seq_val (.int .u64 16) 247 rfl kj kj ?_
    refine seq_val (.int .u32 (wv (((absorb S0 (padT t) q).g) >>> 16))) 248 rfl kj (run_bin .shr _ _ _ _ .u32 .u64 _ _ _ rfl kj kj (b_shr _ _ _ _ _ _ (by decide) (w_shr _ _ 16 rfl (by decide)))) ?_
    refine seq_val (.int .u8 ((((absorb S0 (padT t) q).g.toNat / 65536 % 256 : Nat) : Int))) 249 rfl kj (run_eq (u := .int .u8 (IntKind.u8.wrap (wv (((absorb S0 (padT t) q).g) >>> 16)))) kj (congrArg (Value.int .u8) (w_byte (absorb S0 (padT t) q).g 16 65536 (by decide)))) ?_
    refine seq_val (.pointer (some ⟨g156, 25, none⟩)) 250 rfl kj kj ?_
    refine seq_store g156 _ (ints .u8 ([((((absorb S0 (padT t) q).a.toNat / 16777216 % 256 : Nat) : Int)), ((((absorb S0 (padT t) q).a.toNat / 65536 % 256 : Nat) : Int)), ((((absorb S0 (padT t) q).a.toNat / 256 % 256 : Nat) : Int)), ((((absorb S0 (padT t) q).a.toNat / 1 % 256 : Nat) : Int)), ((((absorb S0 (padT t) q).b.toNat / 16777216 % 256 : Nat) : Int)), ((((absorb S0 (padT t) q).b.toNat / 65536 % 256 : Nat) : Int)), ((((absorb S0 (padT t) q).b.toNat / 256 % 256 : Nat) : Int)), ((((absorb S0 (padT t) q).b.toNat / 1 % 256 : Nat) : Int)), ((((absorb S0 (padT t) q).c.toNat / 16777216 % 256 : Nat) : Int)), ((((absorb S0 (padT t) q).c.toNat / 65536 % 256 : Nat) : Int)), ((((absorb S0 (padT t) q).c.toNat / 256 % 256 : Nat) : Int)), ((((absorb S0 (padT t) q).c.toNat / 1 % 256 : Nat) : Int)), ((((absorb S0 (padT t) q).d.toNat / 16777216 % 256 : Nat) : Int)), ((((absorb S0 (padT t) q).d.toNat / 65536 % 256 : Nat) : Int)), ((((absorb S0 (padT t) q).d.toNat / 256 % 256 : Nat) : Int)), ((((absorb S0 (padT t) q).d.toNat / 1 % 256 : Nat) : Int)), ((((absorb S0 (padT t) q).e.toNat / 16777216 % 256 : Nat) : Int)), ((((absorb S0 (padT t) q).e.toNat / 65536 % 256 : Nat) : Int)), ((((absorb S0 (padT t) q).e.toNat / 256 % 256 : Nat) : Int)), ((((absorb S0 (padT t) q).e.toNat / 1 % 256 : Nat) : Int)), ((((absorb S0 (padT t) q).f.toNat / 16777216 % 256 : Nat) : Int)), ((((absorb S0 (padT t) q).f.toNat / 65536 % 256 : Nat) : Int)), ((((absorb S0 (padT t) q).f.toNat / 256 % 256 : Nat) : Int)), ((((absorb S0 (padT t) q).f.toNat / 1 % 256 : Nat) : Int)), ((((absorb S0 (padT t) q).g.toNat / 16777216 % 256 : Nat) : Int)), ((((absorb S0 (padT t) q).g.toNat / 65536 % 256 : Nat) : Int)), 0, 0, 0, 0, 0, 0])) 26 r156_40 rfl kj (run_storeI 5 _ _ g156 25 26 _ _ r156_40 rfl kj kj kj (show 25 < 32 by decide)) fun W41 p41 r156_41 => ?_
    have x41 : Ext w W41 := Puts.ext p41 x40 b156
    refine seq_nil ?_
    refine hK236 _ _ ?_
    try clear hK236 K236
    refine region_lit ?_
    refine seq_val (.int .i64 25) 236 rfl kj kj ?_
    refine seq_val (.int .i64 26) 237 rfl kj kj ?_
    refine seq_val (.int .i64 26) 22 rfl kj kj ?_
    refine seq_nil ?_
    show Code.rounds _ _ _ 7 _ _
    show Code.wp _ _ (Exit.then (Code.rounds _ _ _ 6) _) _ _
    refine wp_seq_k fun K237 hK237 => ?_
    refine wp_seq_k fun K238 hK238 => ?_
    refine region_lit ?_
    refine seq_val (.int .i64 26) 234 rfl kj kj ?_
    refine seq_val (.bool true) 235 rfl kj kj ?_
    refine seq_nil ?_
    refine hK238 _ _ ?_
    try clear hK238 K238
    refine cond_true kj ?_
    refine wp_skip ?_
    refine hK237 _ _ ?_
    try clear hK237 K237
    refine wp_seq_k fun K239 hK239 => ?_
    refine wp_block ?_
    refine region_lit ?_
    refine seq_val (.int .i64 26) 238 rfl kj kj ?_
    refine seq_val (.int .i64 26) 239 rfl kj kj ?_
    refine seq_val (.int .i64 6) 240 rfl kj kj ?_
    refine seq_val (.pointer (some ⟨g7, 6, none⟩)) 241 rfl kj kj ?_
    have r7_41 := (Puts.row p41 r7_40 (ne_of_old r7_14_154 l156))
    refine seq_val (.int .u32 (wv (absorb S0 (padT t) q).g)) 242 rfl kj (run_loadC1 84 _ g7 6 88 _ (.int .u32 (wv (absorb S0 (padT t) q).g)) _ r7_41 rfl kj kj kj) ?_
    refine seq_val (.int .i64 26) 243 rfl kj kj ?_
    refine seq_val (.int .i64 2) 244 rfl kj kj ?_
    refine seq_val (.int .i64 16) 245 rfl kj kj ?_
    refine seq_val (.int .i64 8) 246 rfl kj kj ?_
    refine seq_val (.int .u64 8) 247 rfl kj kj ?_
    refine seq_val (.int .u32 (wv (((absorb S0 (padT t) q).g) >>> 8))) 248 rfl kj (run_bin .shr _ _ _ _ .u32 .u64 _ _ _ rfl kj kj (b_shr _ _ _ _ _ _ (by decide) (w_shr _ _ 8 rfl (by decide)))) ?_
    refine seq_val (.int .u8 ((((absorb S0 (padT t) q).g.toNat / 256 % 256 : Nat) : Int))) 249 rfl kj (run_eq (u := .int .u8 (IntKind.u8.wrap (wv (((absorb S0 (padT t) q).g) >>> 8)))) kj (congrArg (Value.int .u8) (w_byte (absorb S0 (padT t) q).g 8 256 (by decide)))) ?_
    refine seq_val (.pointer (some ⟨g156, 26, none⟩)) 250 rfl kj kj ?_
    refine seq_store g156 _ (ints .u8 ([((((absorb S0 (padT t) q).a.toNat / 16777216 % 256 : Nat) : Int)), ((((absorb S0 (padT t) q).a.toNat / 65536 % 256 : Nat) : Int)), ((((absorb S0 (padT t) q).a.toNat / 256 % 256 : Nat) : Int)), ((((absorb S0 (padT t) q).a.toNat / 1 % 256 : Nat) : Int)), ((((absorb S0 (padT t) q).b.toNat / 16777216 % 256 : Nat) : Int)), ((((absorb S0 (padT t) q).b.toNat / 65536 % 256 : Nat) : Int)), ((((absorb S0 (padT t) q).b.toNat / 256 % 256 : Nat) : Int)), ((((absorb S0 (padT t) q).b.toNat / 1 % 256 : Nat) : Int)), ((((absorb S0 (padT t) q).c.toNat / 16777216 % 256 : Nat) : Int)), ((((absorb S0 (padT t) q).c.toNat / 65536 % 256 : Nat) : Int)), ((((absorb S0 (padT t) q).c.toNat / 256 % 256 : Nat) : Int)), ((((absorb S0 (padT t) q).c.toNat / 1 % 256 : Nat) : Int)), ((((absorb S0 (padT t) q).d.toNat / 16777216 % 256 : Nat) : Int)), ((((absorb S0 (padT t) q).d.toNat / 65536 % 256 : Nat) : Int)), ((((absorb S0 (padT t) q).d.toNat / 256 % 256 : Nat) : Int)), ((((absorb S0 (padT t) q).d.toNat / 1 % 256 : Nat) : Int)), ((((absorb S0 (padT t) q).e.toNat / 16777216 % 256 : Nat) : Int)), ((((absorb S0 (padT t) q).e.toNat / 65536 % 256 : Nat) : Int)), ((((absorb S0 (padT t) q).e.toNat / 256 % 256 : Nat) : Int)), ((((absorb S0 (padT t) q).e.toNat / 1 % 256 : Nat) : Int)), ((((absorb S0 (padT t) q).f.toNat / 16777216 % 256 : Nat) : Int)), ((((absorb S0 (padT t) q).f.toNat / 65536 % 256 : Nat) : Int)), ((((absorb S0 (padT t) q).f.toNat / 256 % 256 : Nat) : Int)), ((((absorb S0 (padT t) q).f.toNat / 1 % 256 : Nat) : Int)), ((((absorb S0 (padT t) q).g.toNat / 16777216 % 256 : Nat) : Int)), ((((absorb S0 (padT t) q).g.toNat / 65536 % 256 : Nat) : Int)), ((((absorb S0 (padT t) q).g.toNat / 256 % 256 : Nat) : Int)), 0, 0, 0, 0, 0])) 26 r156_41 rfl kj (run_storeI 5 _ _ g156 26 26 _ _ r156_41 rfl kj kj kj (show 26 < 32 by decide)) fun W42 p42 r156_42 => ?_
    have x42 : Ext w W42 := Puts.ext p42 x41 b156
    refine seq_nil ?_
    refine hK239 _ _ ?_
    try clear hK239 K239
    refine region_lit ?_
    refine seq_val (.int .i64 26) 236 rfl kj kj ?_
    refine seq_val (.int .i64 27) 237 rfl kj kj ?_
    refine seq_val (.int .i64 27) 22 rfl kj kj ?_
    refine seq_nil ?_
    show Code.rounds _ _ _ 6 _ _
    show Code.wp _ _ (Exit.then (Code.rounds _ _ _ 5) _) _ _
    refine wp_seq_k fun K240 hK240 => ?_
    refine wp_seq_k fun K241 hK241 => ?_
    refine region_lit ?_
    refine seq_val (.int .i64 27) 234 rfl kj kj ?_
    refine seq_val (.bool true) 235 rfl kj kj ?_
    refine seq_nil ?_
    refine hK241 _ _ ?_
    try clear hK241 K241
    refine cond_true kj ?_
    refine wp_skip ?_
    refine hK240 _ _ ?_
    try clear hK240 K240
    refine wp_seq_k fun K242 hK242 => ?_
    refine wp_block ?_
    refine region_lit ?_
    refine seq_val (.int .i64 27) 238 rfl kj kj ?_
    refine seq_val (.int .i64 27) 239 rfl kj kj ?_
    refine seq_val (.int .i64 6) 240 rfl kj kj ?_
    refine seq_val (.pointer (some ⟨g7, 6, none⟩)) 241 rfl kj kj ?_
    have r7_42 := (Puts.row p42 r7_41 (ne_of_old r7_14_154 l156))
    refine seq_val (.int .u32 (wv (absorb S0 (padT t) q).g)) 242 rfl kj (run_loadC1 84 _ g7 6 88 _ (.int .u32 (wv (absorb S0 (padT t) q).g)) _ r7_42 rfl kj kj kj) ?_
    refine seq_val (.int .i64 27) 243 rfl kj kj ?_
    refine seq_val (.int .i64 3) 244 rfl kj kj ?_
    refine seq_val (.int .i64 24) 245 rfl kj kj ?_
    refine seq_val (.int .i64 0) 246 rfl kj kj ?_
    refine seq_val (.int .u64 0) 247 rfl kj kj ?_
    refine seq_val (.int .u32 (wv (((absorb S0 (padT t) q).g) >>> 0))) 248 rfl kj (run_bin .shr _ _ _ _ .u32 .u64 _ _ _ rfl kj kj (b_shr _ _ _ _ _ _ (by decide) (w_shr _ _ 0 rfl (by decide)))) ?_
    refine seq_val (.int .u8 ((((absorb S0 (padT t) q).g.toNat / 1 % 256 : Nat) : Int))) 249 rfl kj (run_eq (u := .int .u8 (IntKind.u8.wrap (wv (((absorb S0 (padT t) q).g) >>> 0)))) kj (congrArg (Value.int .u8) (w_byte (absorb S0 (padT t) q).g 0 1 (by decide)))) ?_
    refine seq_val (.pointer (some ⟨g156, 27, none⟩)) 250 rfl kj kj ?_
    refine seq_store g156 _ (ints .u8 ([((((absorb S0 (padT t) q).a.toNat / 16777216 % 256 : Nat) : Int)), ((((absorb S0 (padT t) q).a.toNat / 65536 % 256 : Nat) : Int)), ((((absorb S0 (padT t) q).a.toNat / 256 % 256 : Nat) : Int)), ((((absorb S0 (padT t) q).a.toNat / 1 % 256 : Nat) : Int)), ((((absorb S0 (padT t) q).b.toNat / 16777216 % 256 : Nat) : Int)), ((((absorb S0 (padT t) q).b.toNat / 65536 % 256 : Nat) : Int)), ((((absorb S0 (padT t) q).b.toNat / 256 % 256 : Nat) : Int)), ((((absorb S0 (padT t) q).b.toNat / 1 % 256 : Nat) : Int)), ((((absorb S0 (padT t) q).c.toNat / 16777216 % 256 : Nat) : Int)), ((((absorb S0 (padT t) q).c.toNat / 65536 % 256 : Nat) : Int)), ((((absorb S0 (padT t) q).c.toNat / 256 % 256 : Nat) : Int)), ((((absorb S0 (padT t) q).c.toNat / 1 % 256 : Nat) : Int)), ((((absorb S0 (padT t) q).d.toNat / 16777216 % 256 : Nat) : Int)), ((((absorb S0 (padT t) q).d.toNat / 65536 % 256 : Nat) : Int)), ((((absorb S0 (padT t) q).d.toNat / 256 % 256 : Nat) : Int)), ((((absorb S0 (padT t) q).d.toNat / 1 % 256 : Nat) : Int)), ((((absorb S0 (padT t) q).e.toNat / 16777216 % 256 : Nat) : Int)), ((((absorb S0 (padT t) q).e.toNat / 65536 % 256 : Nat) : Int)), ((((absorb S0 (padT t) q).e.toNat / 256 % 256 : Nat) : Int)), ((((absorb S0 (padT t) q).e.toNat / 1 % 256 : Nat) : Int)), ((((absorb S0 (padT t) q).f.toNat / 16777216 % 256 : Nat) : Int)), ((((absorb S0 (padT t) q).f.toNat / 65536 % 256 : Nat) : Int)), ((((absorb S0 (padT t) q).f.toNat / 256 % 256 : Nat) : Int)), ((((absorb S0 (padT t) q).f.toNat / 1 % 256 : Nat) : Int)), ((((absorb S0 (padT t) q).g.toNat / 16777216 % 256 : Nat) : Int)), ((((absorb S0 (padT t) q).g.toNat / 65536 % 256 : Nat) : Int)), ((((absorb S0 (padT t) q).g.toNat / 256 % 256 : Nat) : Int)), ((((absorb S0 (padT t) q).g.toNat / 1 % 256 : Nat) : Int)), 0, 0, 0, 0])) 26 r156_42 rfl kj (run_storeI 5 _ _ g156 27 26 _ _ r156_42 rfl kj kj kj (show 27 < 32 by decide)) fun W43 p43 r156_43 => ?_
    have x43 : Ext w W43 := Puts.ext p43 x42 b156
    refine seq_nil ?_
    refine hK242 _ _ ?_
    try clear hK242 K242
    refine region_lit ?_
    refine seq_val (.int .i64 27) 236 rfl kj kj ?_
    refine seq_val (.int .i64 28) 237 rfl kj kj ?_
    refine seq_val (.int .i64 28) 22 rfl kj kj ?_
    refine seq_nil ?_
    show Code.rounds _ _ _ 5 _ _
    show Code.wp _ _ (Exit.then (Code.rounds _ _ _ 4) _) _ _
    refine wp_seq_k fun K243 hK243 => ?_
    refine wp_seq_k fun K244 hK244 => ?_
    refine region_lit ?_
    refine seq_val (.int .i64 28) 234 rfl kj kj ?_
    refine seq_val (.bool true) 235 rfl kj kj ?_
    refine seq_nil ?_
    refine hK244 _ _ ?_
    try clear hK244 K244
    refine cond_true kj ?_
    refine wp_skip ?_
    refine hK243 _ _ ?_
    try clear hK243 K243
    refine wp_seq_k fun K245 hK245 => ?_
    refine wp_block ?_
    refine region_lit ?_
    refine seq_val (.int .i64 28) 238 rfl kj kj ?_
    refine seq_val (.int .i64 28) 239 rfl kj kj ?_
    refine seq_val (.int .i64 7) 240 rfl kj kj ?_
    refine seq_val (.pointer (some ⟨g7, 7, none⟩)) 241 rfl kj kj ?_
    have r7_43 := (Puts.row p43 r7_42 (ne_of_old r7_14_154 l156))
    refine seq_val (.int .u32 (wv (absorb S0 (padT t) q).h)) 242 rfl kj (run_loadC1 84 _ g7 7 88 _ (.int .u32 (wv (absorb S0 (padT t) q).h)) _ r7_43 rfl kj kj kj) ?_
    refine seq_val (.int .i64 28) 243 rfl kj kj ?_
    refine seq_val (.int .i64 0) 244 rfl kj kj ?_
    refine seq_val (.int .i64 0) 245 rfl kj kj ?_
    refine seq_val (.int .i64 24) 246 rfl kj kj ?_
    refine seq_val (.int .u64 24) 247 rfl kj kj ?_
    refine seq_val (.int .u32 (wv (((absorb S0 (padT t) q).h) >>> 24))) 248 rfl kj (run_bin .shr _ _ _ _ .u32 .u64 _ _ _ rfl kj kj (b_shr _ _ _ _ _ _ (by decide) (w_shr _ _ 24 rfl (by decide)))) ?_
    refine seq_val (.int .u8 ((((absorb S0 (padT t) q).h.toNat / 16777216 % 256 : Nat) : Int))) 249 rfl kj (run_eq (u := .int .u8 (IntKind.u8.wrap (wv (((absorb S0 (padT t) q).h) >>> 24)))) kj (congrArg (Value.int .u8) (w_byte (absorb S0 (padT t) q).h 24 16777216 (by decide)))) ?_
    refine seq_val (.pointer (some ⟨g156, 28, none⟩)) 250 rfl kj kj ?_
    refine seq_store g156 _ (ints .u8 ([((((absorb S0 (padT t) q).a.toNat / 16777216 % 256 : Nat) : Int)), ((((absorb S0 (padT t) q).a.toNat / 65536 % 256 : Nat) : Int)), ((((absorb S0 (padT t) q).a.toNat / 256 % 256 : Nat) : Int)), ((((absorb S0 (padT t) q).a.toNat / 1 % 256 : Nat) : Int)), ((((absorb S0 (padT t) q).b.toNat / 16777216 % 256 : Nat) : Int)), ((((absorb S0 (padT t) q).b.toNat / 65536 % 256 : Nat) : Int)), ((((absorb S0 (padT t) q).b.toNat / 256 % 256 : Nat) : Int)), ((((absorb S0 (padT t) q).b.toNat / 1 % 256 : Nat) : Int)), ((((absorb S0 (padT t) q).c.toNat / 16777216 % 256 : Nat) : Int)), ((((absorb S0 (padT t) q).c.toNat / 65536 % 256 : Nat) : Int)), ((((absorb S0 (padT t) q).c.toNat / 256 % 256 : Nat) : Int)), ((((absorb S0 (padT t) q).c.toNat / 1 % 256 : Nat) : Int)), ((((absorb S0 (padT t) q).d.toNat / 16777216 % 256 : Nat) : Int)), ((((absorb S0 (padT t) q).d.toNat / 65536 % 256 : Nat) : Int)), ((((absorb S0 (padT t) q).d.toNat / 256 % 256 : Nat) : Int)), ((((absorb S0 (padT t) q).d.toNat / 1 % 256 : Nat) : Int)), ((((absorb S0 (padT t) q).e.toNat / 16777216 % 256 : Nat) : Int)), ((((absorb S0 (padT t) q).e.toNat / 65536 % 256 : Nat) : Int)), ((((absorb S0 (padT t) q).e.toNat / 256 % 256 : Nat) : Int)), ((((absorb S0 (padT t) q).e.toNat / 1 % 256 : Nat) : Int)), ((((absorb S0 (padT t) q).f.toNat / 16777216 % 256 : Nat) : Int)), ((((absorb S0 (padT t) q).f.toNat / 65536 % 256 : Nat) : Int)), ((((absorb S0 (padT t) q).f.toNat / 256 % 256 : Nat) : Int)), ((((absorb S0 (padT t) q).f.toNat / 1 % 256 : Nat) : Int)), ((((absorb S0 (padT t) q).g.toNat / 16777216 % 256 : Nat) : Int)), ((((absorb S0 (padT t) q).g.toNat / 65536 % 256 : Nat) : Int)), ((((absorb S0 (padT t) q).g.toNat / 256 % 256 : Nat) : Int)), ((((absorb S0 (padT t) q).g.toNat / 1 % 256 : Nat) : Int)), ((((absorb S0 (padT t) q).h.toNat / 16777216 % 256 : Nat) : Int)), 0, 0, 0])) 26 r156_43 rfl kj (run_storeI 5 _ _ g156 28 26 _ _ r156_43 rfl kj kj kj (show 28 < 32 by decide)) fun W44 p44 r156_44 => ?_
    have x44 : Ext w W44 := Puts.ext p44 x43 b156
    refine seq_nil ?_
    refine hK245 _ _ ?_
    try clear hK245 K245
    refine region_lit ?_
    refine seq_val (.int .i64 28) 236 rfl kj kj ?_
    refine seq_val (.int .i64 29) 237 rfl kj kj ?_
    refine seq_val (.int .i64 29) 22 rfl kj kj ?_
    refine seq_nil ?_
    show Code.rounds _ _ _ 4 _ _
    show Code.wp _ _ (Exit.then (Code.rounds _ _ _ 3) _) _ _
    refine wp_seq_k fun K246 hK246 => ?_
    refine wp_seq_k fun K247 hK247 => ?_
    refine region_lit ?_
    refine seq_val (.int .i64 29) 234 rfl kj kj ?_
    refine seq_val (.bool true) 235 rfl kj kj ?_
    refine seq_nil ?_
    refine hK247 _ _ ?_
    try clear hK247 K247
    refine cond_true kj ?_
    refine wp_skip ?_
    refine hK246 _ _ ?_
    try clear hK246 K246
    refine wp_seq_k fun K248 hK248 => ?_
    refine wp_block ?_
    refine region_lit ?_
    refine seq_val (.int .i64 29) 238 rfl kj kj ?_
    refine seq_val (.int .i64 29) 239 rfl kj kj ?_
    refine seq_val (.int .i64 7) 240 rfl kj kj ?_
    refine seq_val (.pointer (some ⟨g7, 7, none⟩)) 241 rfl kj kj ?_
    have r7_44 := (Puts.row p44 r7_43 (ne_of_old r7_14_154 l156))
    refine seq_val (.int .u32 (wv (absorb S0 (padT t) q).h)) 242 rfl kj (run_loadC1 84 _ g7 7 88 _ (.int .u32 (wv (absorb S0 (padT t) q).h)) _ r7_44 rfl kj kj kj) ?_
    refine seq_val (.int .i64 29) 243 rfl kj kj ?_
    refine seq_val (.int .i64 1) 244 rfl kj kj ?_
    refine seq_val (.int .i64 8) 245 rfl kj kj ?_
    refine seq_val (.int .i64 16) 246 rfl kj kj ?_
    refine seq_val (.int .u64 16) 247 rfl kj kj ?_
    refine seq_val (.int .u32 (wv (((absorb S0 (padT t) q).h) >>> 16))) 248 rfl kj (run_bin .shr _ _ _ _ .u32 .u64 _ _ _ rfl kj kj (b_shr _ _ _ _ _ _ (by decide) (w_shr _ _ 16 rfl (by decide)))) ?_
    refine seq_val (.int .u8 ((((absorb S0 (padT t) q).h.toNat / 65536 % 256 : Nat) : Int))) 249 rfl kj (run_eq (u := .int .u8 (IntKind.u8.wrap (wv (((absorb S0 (padT t) q).h) >>> 16)))) kj (congrArg (Value.int .u8) (w_byte (absorb S0 (padT t) q).h 16 65536 (by decide)))) ?_
    refine seq_val (.pointer (some ⟨g156, 29, none⟩)) 250 rfl kj kj ?_
    refine seq_store g156 _ (ints .u8 ([((((absorb S0 (padT t) q).a.toNat / 16777216 % 256 : Nat) : Int)), ((((absorb S0 (padT t) q).a.toNat / 65536 % 256 : Nat) : Int)), ((((absorb S0 (padT t) q).a.toNat / 256 % 256 : Nat) : Int)), ((((absorb S0 (padT t) q).a.toNat / 1 % 256 : Nat) : Int)), ((((absorb S0 (padT t) q).b.toNat / 16777216 % 256 : Nat) : Int)), ((((absorb S0 (padT t) q).b.toNat / 65536 % 256 : Nat) : Int)), ((((absorb S0 (padT t) q).b.toNat / 256 % 256 : Nat) : Int)), ((((absorb S0 (padT t) q).b.toNat / 1 % 256 : Nat) : Int)), ((((absorb S0 (padT t) q).c.toNat / 16777216 % 256 : Nat) : Int)), ((((absorb S0 (padT t) q).c.toNat / 65536 % 256 : Nat) : Int)), ((((absorb S0 (padT t) q).c.toNat / 256 % 256 : Nat) : Int)), ((((absorb S0 (padT t) q).c.toNat / 1 % 256 : Nat) : Int)), ((((absorb S0 (padT t) q).d.toNat / 16777216 % 256 : Nat) : Int)), ((((absorb S0 (padT t) q).d.toNat / 65536 % 256 : Nat) : Int)), ((((absorb S0 (padT t) q).d.toNat / 256 % 256 : Nat) : Int)), ((((absorb S0 (padT t) q).d.toNat / 1 % 256 : Nat) : Int)), ((((absorb S0 (padT t) q).e.toNat / 16777216 % 256 : Nat) : Int)), ((((absorb S0 (padT t) q).e.toNat / 65536 % 256 : Nat) : Int)), ((((absorb S0 (padT t) q).e.toNat / 256 % 256 : Nat) : Int)), ((((absorb S0 (padT t) q).e.toNat / 1 % 256 : Nat) : Int)), ((((absorb S0 (padT t) q).f.toNat / 16777216 % 256 : Nat) : Int)), ((((absorb S0 (padT t) q).f.toNat / 65536 % 256 : Nat) : Int)), ((((absorb S0 (padT t) q).f.toNat / 256 % 256 : Nat) : Int)), ((((absorb S0 (padT t) q).f.toNat / 1 % 256 : Nat) : Int)), ((((absorb S0 (padT t) q).g.toNat / 16777216 % 256 : Nat) : Int)), ((((absorb S0 (padT t) q).g.toNat / 65536 % 256 : Nat) : Int)), ((((absorb S0 (padT t) q).g.toNat / 256 % 256 : Nat) : Int)), ((((absorb S0 (padT t) q).g.toNat / 1 % 256 : Nat) : Int)), ((((absorb S0 (padT t) q).h.toNat / 16777216 % 256 : Nat) : Int)), ((((absorb S0 (padT t) q).h.toNat / 65536 % 256 : Nat) : Int)), 0, 0])) 26 r156_44 rfl kj (run_storeI 5 _ _ g156 29 26 _ _ r156_44 rfl kj kj kj (show 29 < 32 by decide)) fun W45 p45 r156_45 => ?_
    have x45 : Ext w W45 := Puts.ext p45 x44 b156
    refine seq_nil ?_
    refine hK248 _ _ ?_
    try clear hK248 K248
    refine region_lit ?_
    refine seq_val (.int .i64 29) 236 rfl kj kj ?_
    refine seq_val (.int .i64 30) 237 rfl kj kj ?_
    refine seq_val (.int .i64 30) 22 rfl kj kj ?_
    refine seq_nil ?_
    show Code.rounds _ _ _ 3 _ _
    show Code.wp _ _ (Exit.then (Code.rounds _ _ _ 2) _) _ _
    refine wp_seq_k fun K249 hK249 => ?_
    refine wp_seq_k fun K250 hK250 => ?_
    refine region_lit ?_
    refine seq_val (.int .i64 30) 234 rfl kj kj ?_
    refine seq_val (.bool true) 235 rfl kj kj ?_
    refine seq_nil ?_
    refine hK250 _ _ ?_
    try clear hK250 K250
    refine cond_true kj ?_
    refine wp_skip ?_
    refine hK249 _ _ ?_
    try clear hK249 K249
    refine wp_seq_k fun K251 hK251 => ?_
    refine wp_block ?_
    refine region_lit ?_
    refine seq_val (.int .i64 30) 238 rfl kj kj ?_
    refine seq_val (.int .i64 30) 239 rfl kj kj ?_
    refine seq_val (.int .i64 7) 240 rfl kj kj ?_
    refine seq_val (.pointer (some ⟨g7, 7, none⟩)) 241 rfl kj kj ?_
    have r7_45 := (Puts.row p45 r7_44 (ne_of_old r7_14_154 l156))
    refine seq_val (.int .u32 (wv (absorb S0 (padT t) q).h)) 242 rfl kj (run_loadC1 84 _ g7 7 88 _ (.int .u32 (wv (absorb S0 (padT t) q).h)) _ r7_45 rfl kj kj kj) ?_
    refine seq_val (.int .i64 30) 243 rfl kj kj ?_
    refine seq_val (.int .i64 2) 244 rfl kj kj ?_
    refine seq_val (.int .i64 16) 245 rfl kj kj ?_
    refine seq_val (.int .i64 8) 246 rfl kj kj ?_
    refine seq_val (.int .u64 8) 247 rfl kj kj ?_
    refine seq_val (.int .u32 (wv (((absorb S0 (padT t) q).h) >>> 8))) 248 rfl kj (run_bin .shr _ _ _ _ .u32 .u64 _ _ _ rfl kj kj (b_shr _ _ _ _ _ _ (by decide) (w_shr _ _ 8 rfl (by decide)))) ?_
    refine seq_val (.int .u8 ((((absorb S0 (padT t) q).h.toNat / 256 % 256 : Nat) : Int))) 249 rfl kj (run_eq (u := .int .u8 (IntKind.u8.wrap (wv (((absorb S0 (padT t) q).h) >>> 8)))) kj (congrArg (Value.int .u8) (w_byte (absorb S0 (padT t) q).h 8 256 (by decide)))) ?_
    refine seq_val (.pointer (some ⟨g156, 30, none⟩)) 250 rfl kj kj ?_
    refine seq_store g156 _ (ints .u8 ([((((absorb S0 (padT t) q).a.toNat / 16777216 % 256 : Nat) : Int)), ((((absorb S0 (padT t) q).a.toNat / 65536 % 256 : Nat) : Int)), ((((absorb S0 (padT t) q).a.toNat / 256 % 256 : Nat) : Int)), ((((absorb S0 (padT t) q).a.toNat / 1 % 256 : Nat) : Int)), ((((absorb S0 (padT t) q).b.toNat / 16777216 % 256 : Nat) : Int)), ((((absorb S0 (padT t) q).b.toNat / 65536 % 256 : Nat) : Int)), ((((absorb S0 (padT t) q).b.toNat / 256 % 256 : Nat) : Int)), ((((absorb S0 (padT t) q).b.toNat / 1 % 256 : Nat) : Int)), ((((absorb S0 (padT t) q).c.toNat / 16777216 % 256 : Nat) : Int)), ((((absorb S0 (padT t) q).c.toNat / 65536 % 256 : Nat) : Int)), ((((absorb S0 (padT t) q).c.toNat / 256 % 256 : Nat) : Int)), ((((absorb S0 (padT t) q).c.toNat / 1 % 256 : Nat) : Int)), ((((absorb S0 (padT t) q).d.toNat / 16777216 % 256 : Nat) : Int)), ((((absorb S0 (padT t) q).d.toNat / 65536 % 256 : Nat) : Int)), ((((absorb S0 (padT t) q).d.toNat / 256 % 256 : Nat) : Int)), ((((absorb S0 (padT t) q).d.toNat / 1 % 256 : Nat) : Int)), ((((absorb S0 (padT t) q).e.toNat / 16777216 % 256 : Nat) : Int)), ((((absorb S0 (padT t) q).e.toNat / 65536 % 256 : Nat) : Int)), ((((absorb S0 (padT t) q).e.toNat / 256 % 256 : Nat) : Int)), ((((absorb S0 (padT t) q).e.toNat / 1 % 256 : Nat) : Int)), ((((absorb S0 (padT t) q).f.toNat / 16777216 % 256 : Nat) : Int)), ((((absorb S0 (padT t) q).f.toNat / 65536 % 256 : Nat) : Int)), ((((absorb S0 (padT t) q).f.toNat / 256 % 256 : Nat) : Int)), ((((absorb S0 (padT t) q).f.toNat / 1 % 256 : Nat) : Int)), ((((absorb S0 (padT t) q).g.toNat / 16777216 % 256 : Nat) : Int)), ((((absorb S0 (padT t) q).g.toNat / 65536 % 256 : Nat) : Int)), ((((absorb S0 (padT t) q).g.toNat / 256 % 256 : Nat) : Int)), ((((absorb S0 (padT t) q).g.toNat / 1 % 256 : Nat) : Int)), ((((absorb S0 (padT t) q).h.toNat / 16777216 % 256 : Nat) : Int)), ((((absorb S0 (padT t) q).h.toNat / 65536 % 256 : Nat) : Int)), ((((absorb S0 (padT t) q).h.toNat / 256 % 256 : Nat) : Int)), 0])) 26 r156_45 rfl kj (run_storeI 5 _ _ g156 30 26 _ _ r156_45 rfl kj kj kj (show 30 < 32 by decide)) fun W46 p46 r156_46 => ?_
    have x46 : Ext w W46 := Puts.ext p46 x45 b156
    refine seq_nil ?_
    refine hK251 _ _ ?_
    try clear hK251 K251
    refine region_lit ?_
    refine seq_val (.int .i64 30) 236 rfl kj kj ?_
    refine seq_val (.int .i64 31) 237 rfl kj kj ?_
    refine seq_val (.int .i64 31) 22 rfl kj kj ?_
    refine seq_nil ?_
    show Code.rounds _ _ _ 2 _ _
    show Code.wp _ _ (Exit.then (Code.rounds _ _ _ 1) _) _ _
    refine wp_seq_k fun K252 hK252 => ?_
    refine wp_seq_k fun K253 hK253 => ?_
    refine region_lit ?_
    refine seq_val (.int .i64 31) 234 rfl kj kj ?_
    refine seq_val (.bool true) 235 rfl kj kj ?_
    refine seq_nil ?_
    refine hK253 _ _ ?_
    try clear hK253 K253
    refine cond_true kj ?_
    refine wp_skip ?_
    refine hK252 _ _ ?_
    try clear hK252 K252
    refine wp_seq_k fun K254 hK254 => ?_
    refine wp_block ?_
    refine region_lit ?_
    refine seq_val (.int .i64 31) 238 rfl kj kj ?_
    refine seq_val (.int .i64 31) 239 rfl kj kj ?_
    refine seq_val (.int .i64 7) 240 rfl kj kj ?_
    refine seq_val (.pointer (some ⟨g7, 7, none⟩)) 241 rfl kj kj ?_
    have r7_46 := (Puts.row p46 r7_45 (ne_of_old r7_14_154 l156))
    refine seq_val (.int .u32 (wv (absorb S0 (padT t) q).h)) 242 rfl kj (run_loadC1 84 _ g7 7 88 _ (.int .u32 (wv (absorb S0 (padT t) q).h)) _ r7_46 rfl kj kj kj) ?_
    refine seq_val (.int .i64 31) 243 rfl kj kj ?_
    refine seq_val (.int .i64 3) 244 rfl kj kj ?_
    refine seq_val (.int .i64 24) 245 rfl kj kj ?_
    refine seq_val (.int .i64 0) 246 rfl kj kj ?_
    refine seq_val (.int .u64 0) 247 rfl kj kj ?_
    refine seq_val (.int .u32 (wv (((absorb S0 (padT t) q).h) >>> 0))) 248 rfl kj (run_bin .shr _ _ _ _ .u32 .u64 _ _ _ rfl kj kj (b_shr _ _ _ _ _ _ (by decide) (w_shr _ _ 0 rfl (by decide)))) ?_
    refine seq_val (.int .u8 ((((absorb S0 (padT t) q).h.toNat / 1 % 256 : Nat) : Int))) 249 rfl kj (run_eq (u := .int .u8 (IntKind.u8.wrap (wv (((absorb S0 (padT t) q).h) >>> 0)))) kj (congrArg (Value.int .u8) (w_byte (absorb S0 (padT t) q).h 0 1 (by decide)))) ?_
    refine seq_val (.pointer (some ⟨g156, 31, none⟩)) 250 rfl kj kj ?_
    refine seq_store g156 _ (ints .u8 ([((((absorb S0 (padT t) q).a.toNat / 16777216 % 256 : Nat) : Int)), ((((absorb S0 (padT t) q).a.toNat / 65536 % 256 : Nat) : Int)), ((((absorb S0 (padT t) q).a.toNat / 256 % 256 : Nat) : Int)), ((((absorb S0 (padT t) q).a.toNat / 1 % 256 : Nat) : Int)), ((((absorb S0 (padT t) q).b.toNat / 16777216 % 256 : Nat) : Int)), ((((absorb S0 (padT t) q).b.toNat / 65536 % 256 : Nat) : Int)), ((((absorb S0 (padT t) q).b.toNat / 256 % 256 : Nat) : Int)), ((((absorb S0 (padT t) q).b.toNat / 1 % 256 : Nat) : Int)), ((((absorb S0 (padT t) q).c.toNat / 16777216 % 256 : Nat) : Int)), ((((absorb S0 (padT t) q).c.toNat / 65536 % 256 : Nat) : Int)), ((((absorb S0 (padT t) q).c.toNat / 256 % 256 : Nat) : Int)), ((((absorb S0 (padT t) q).c.toNat / 1 % 256 : Nat) : Int)), ((((absorb S0 (padT t) q).d.toNat / 16777216 % 256 : Nat) : Int)), ((((absorb S0 (padT t) q).d.toNat / 65536 % 256 : Nat) : Int)), ((((absorb S0 (padT t) q).d.toNat / 256 % 256 : Nat) : Int)), ((((absorb S0 (padT t) q).d.toNat / 1 % 256 : Nat) : Int)), ((((absorb S0 (padT t) q).e.toNat / 16777216 % 256 : Nat) : Int)), ((((absorb S0 (padT t) q).e.toNat / 65536 % 256 : Nat) : Int)), ((((absorb S0 (padT t) q).e.toNat / 256 % 256 : Nat) : Int)), ((((absorb S0 (padT t) q).e.toNat / 1 % 256 : Nat) : Int)), ((((absorb S0 (padT t) q).f.toNat / 16777216 % 256 : Nat) : Int)), ((((absorb S0 (padT t) q).f.toNat / 65536 % 256 : Nat) : Int)), ((((absorb S0 (padT t) q).f.toNat / 256 % 256 : Nat) : Int)), ((((absorb S0 (padT t) q).f.toNat / 1 % 256 : Nat) : Int)), ((((absorb S0 (padT t) q).g.toNat / 16777216 % 256 : Nat) : Int)), ((((absorb S0 (padT t) q).g.toNat / 65536 % 256 : Nat) : Int)), ((((absorb S0 (padT t) q).g.toNat / 256 % 256 : Nat) : Int)), ((((absorb S0 (padT t) q).g.toNat / 1 % 256 : Nat) : Int)), ((((absorb S0 (padT t) q).h.toNat / 16777216 % 256 : Nat) : Int)), ((((absorb S0 (padT t) q).h.toNat / 65536 % 256 : Nat) : Int)), ((((absorb S0 (padT t) q).h.toNat / 256 % 256 : Nat) : Int)), ((((absorb S0 (padT t) q).h.toNat / 1 % 256 : Nat) : Int))])) 26 r156_46 rfl kj (run_storeI 5 _ _ g156 31 26 _ _ r156_46 rfl kj kj kj (show 31 < 32 by decide)) fun W47 p47 r156_47 => ?_
    have x47 : Ext w W47 := Puts.ext p47 x46 b156
    refine seq_nil ?_
    refine hK254 _ _ ?_
    try clear hK254 K254
    refine region_lit ?_
    refine seq_val (.int .i64 31) 236 rfl kj kj ?_
    refine seq_val (.int .i64 32) 237 rfl kj kj ?_
    refine seq_val (.int .i64 32) 22 rfl kj kj ?_
    refine seq_nil ?_
    show Code.rounds _ _ _ 1 _ _
    show Code.wp _ _ (Exit.then (Code.rounds _ _ _ 0) _) _ _
    refine wp_seq_k fun K255 hK255 => ?_
    refine wp_seq_k fun K256 hK256 => ?_
    refine region_lit ?_
    refine seq_val (.int .i64 32) 234 rfl kj kj ?_
    refine seq_val (.bool false) 235 rfl kj kj ?_
    refine seq_nil ?_
    refine hK256 _ _ ?_
    try clear hK256 K256
    refine cond_false kj ?_
    refine wp_exit ?_
    refine hK157 _ _ ?_
    try clear hK157 K157
    refine wp_seq_k fun K257 hK257 => ?_
    refine region_lit ?_
    refine seq_val (.agg (ints .u8 ([((((absorb S0 (padT t) q).a.toNat / 16777216 % 256 : Nat) : Int)), ((((absorb S0 (padT t) q).a.toNat / 65536 % 256 : Nat) : Int)), ((((absorb S0 (padT t) q).a.toNat / 256 % 256 : Nat) : Int)), ((((absorb S0 (padT t) q).a.toNat / 1 % 256 : Nat) : Int)), ((((absorb S0 (padT t) q).b.toNat / 16777216 % 256 : Nat) : Int)), ((((absorb S0 (padT t) q).b.toNat / 65536 % 256 : Nat) : Int)), ((((absorb S0 (padT t) q).b.toNat / 256 % 256 : Nat) : Int)), ((((absorb S0 (padT t) q).b.toNat / 1 % 256 : Nat) : Int)), ((((absorb S0 (padT t) q).c.toNat / 16777216 % 256 : Nat) : Int)), ((((absorb S0 (padT t) q).c.toNat / 65536 % 256 : Nat) : Int)), ((((absorb S0 (padT t) q).c.toNat / 256 % 256 : Nat) : Int)), ((((absorb S0 (padT t) q).c.toNat / 1 % 256 : Nat) : Int)), ((((absorb S0 (padT t) q).d.toNat / 16777216 % 256 : Nat) : Int)), ((((absorb S0 (padT t) q).d.toNat / 65536 % 256 : Nat) : Int)), ((((absorb S0 (padT t) q).d.toNat / 256 % 256 : Nat) : Int)), ((((absorb S0 (padT t) q).d.toNat / 1 % 256 : Nat) : Int)), ((((absorb S0 (padT t) q).e.toNat / 16777216 % 256 : Nat) : Int)), ((((absorb S0 (padT t) q).e.toNat / 65536 % 256 : Nat) : Int)), ((((absorb S0 (padT t) q).e.toNat / 256 % 256 : Nat) : Int)), ((((absorb S0 (padT t) q).e.toNat / 1 % 256 : Nat) : Int)), ((((absorb S0 (padT t) q).f.toNat / 16777216 % 256 : Nat) : Int)), ((((absorb S0 (padT t) q).f.toNat / 65536 % 256 : Nat) : Int)), ((((absorb S0 (padT t) q).f.toNat / 256 % 256 : Nat) : Int)), ((((absorb S0 (padT t) q).f.toNat / 1 % 256 : Nat) : Int)), ((((absorb S0 (padT t) q).g.toNat / 16777216 % 256 : Nat) : Int)), ((((absorb S0 (padT t) q).g.toNat / 65536 % 256 : Nat) : Int)), ((((absorb S0 (padT t) q).g.toNat / 256 % 256 : Nat) : Int)), ((((absorb S0 (padT t) q).g.toNat / 1 % 256 : Nat) : Int)), ((((absorb S0 (padT t) q).h.toNat / 16777216 % 256 : Nat) : Int)), ((((absorb S0 (padT t) q).h.toNat / 65536 % 256 : Nat) : Int)), ((((absorb S0 (padT t) q).h.toNat / 256 % 256 : Nat) : Int)), ((((absorb S0 (padT t) q).h.toNat / 1 % 256 : Nat) : Int))]))) 251 rfl kj (run_load_row 26 _ g156 26 _ _ r156_47 rfl kj kj (isz (n := 32) kj kj)) ?_
    have r2_2 := (row_ext r2_1 e2)
    have r2_3 := (row_ext r2_2 e3)
    have r2_4 := (Puts.row p4 r2_3 (ne_of_old r2_2 l7))
    have r2_5 := (Puts.row p5 r2_4 (ne_of_old r2_2 l7))
    have r2_6 := (Puts.row p6 r2_5 (ne_of_old r2_2 l7))
    have r2_7 := (Puts.row p7 r2_6 (ne_of_old r2_2 l7))
    have r2_8 := (Puts.row p8 r2_7 (ne_of_old r2_2 l7))
    have r2_9 := (Puts.row p9 r2_8 (ne_of_old r2_2 l7))
    have r2_10 := (Puts.row p10 r2_9 (ne_of_old r2_2 l7))
    have r2_11 := (Puts.row p11 r2_10 (ne_of_old r2_2 l7))
    have r2_12 := (row_ext r2_11 e12)
    have r2_13 := (row_ext r2_12 e13)
    have r2_14 := (Keeps.row q14 r2_13 (nm_cons (ne_of_old r2_2 l7) nm_nil))
    have r2_15 := (row_ext r2_14 e15)
    have r2_16 := (Puts.row p16 r2_15 (ne_of_old r2_14 l156))
    have r2_17 := (Puts.row p17 r2_16 (ne_of_old r2_14 l156))
    have r2_18 := (Puts.row p18 r2_17 (ne_of_old r2_14 l156))
    have r2_19 := (Puts.row p19 r2_18 (ne_of_old r2_14 l156))
    have r2_20 := (Puts.row p20 r2_19 (ne_of_old r2_14 l156))
    have r2_21 := (Puts.row p21 r2_20 (ne_of_old r2_14 l156))
    have r2_22 := (Puts.row p22 r2_21 (ne_of_old r2_14 l156))
    have r2_23 := (Puts.row p23 r2_22 (ne_of_old r2_14 l156))
    have r2_24 := (Puts.row p24 r2_23 (ne_of_old r2_14 l156))
    have r2_25 := (Puts.row p25 r2_24 (ne_of_old r2_14 l156))
    have r2_26 := (Puts.row p26 r2_25 (ne_of_old r2_14 l156))
    have r2_27 := (Puts.row p27 r2_26 (ne_of_old r2_14 l156))
    have r2_28 := (Puts.row p28 r2_27 (ne_of_old r2_14 l156))
    have r2_29 := (Puts.row p29 r2_28 (ne_of_old r2_14 l156))
    have r2_30 := (Puts.row p30 r2_29 (ne_of_old r2_14 l156))
    have r2_31 := (Puts.row p31 r2_30 (ne_of_old r2_14 l156))
    have r2_32 := (Puts.row p32 r2_31 (ne_of_old r2_14 l156))
    have r2_33 := (Puts.row p33 r2_32 (ne_of_old r2_14 l156))
    have r2_34 := (Puts.row p34 r2_33 (ne_of_old r2_14 l156))
    have r2_35 := (Puts.row p35 r2_34 (ne_of_old r2_14 l156))
    have r2_36 := (Puts.row p36 r2_35 (ne_of_old r2_14 l156))
    have r2_37 := (Puts.row p37 r2_36 (ne_of_old r2_14 l156))
    have r2_38 := (Puts.row p38 r2_37 (ne_of_old r2_14 l156))
    have r2_39 := (Puts.row p39 r2_38 (ne_of_old r2_14 l156))
    have r2_40 := (Puts.row p40 r2_39 (ne_of_old r2_14 l156))
    have r2_41 := (Puts.row p41 r2_40 (ne_of_old r2_14 l156))
    have r2_42 := (Puts.row p42 r2_41 (ne_of_old r2_14 l156))
    have r2_43 := (Puts.row p43 r2_42 (ne_of_old r2_14 l156))
    have r2_44 := (Puts.row p44 r2_43 (ne_of_old r2_14 l156))
    have r2_45 := (Puts.row p45 r2_44 (ne_of_old r2_14 l156))
    have r2_46 := (Puts.row p46 r2_45 (ne_of_old r2_14 l156))
    have r2_47 := (Puts.row p47 r2_46 (ne_of_old r2_14 l156))
    refine seq_store g2 _ (ints .u8 ([((((absorb S0 (padT t) q).a.toNat / 16777216 % 256 : Nat) : Int)), ((((absorb S0 (padT t) q).a.toNat / 65536 % 256 : Nat) : Int)), ((((absorb S0 (padT t) q).a.toNat / 256 % 256 : Nat) : Int)), ((((absorb S0 (padT t) q).a.toNat / 1 % 256 : Nat) : Int)), ((((absorb S0 (padT t) q).b.toNat / 16777216 % 256 : Nat) : Int)), ((((absorb S0 (padT t) q).b.toNat / 65536 % 256 : Nat) : Int)), ((((absorb S0 (padT t) q).b.toNat / 256 % 256 : Nat) : Int)), ((((absorb S0 (padT t) q).b.toNat / 1 % 256 : Nat) : Int)), ((((absorb S0 (padT t) q).c.toNat / 16777216 % 256 : Nat) : Int)), ((((absorb S0 (padT t) q).c.toNat / 65536 % 256 : Nat) : Int)), ((((absorb S0 (padT t) q).c.toNat / 256 % 256 : Nat) : Int)), ((((absorb S0 (padT t) q).c.toNat / 1 % 256 : Nat) : Int)), ((((absorb S0 (padT t) q).d.toNat / 16777216 % 256 : Nat) : Int)), ((((absorb S0 (padT t) q).d.toNat / 65536 % 256 : Nat) : Int)), ((((absorb S0 (padT t) q).d.toNat / 256 % 256 : Nat) : Int)), ((((absorb S0 (padT t) q).d.toNat / 1 % 256 : Nat) : Int)), ((((absorb S0 (padT t) q).e.toNat / 16777216 % 256 : Nat) : Int)), ((((absorb S0 (padT t) q).e.toNat / 65536 % 256 : Nat) : Int)), ((((absorb S0 (padT t) q).e.toNat / 256 % 256 : Nat) : Int)), ((((absorb S0 (padT t) q).e.toNat / 1 % 256 : Nat) : Int)), ((((absorb S0 (padT t) q).f.toNat / 16777216 % 256 : Nat) : Int)), ((((absorb S0 (padT t) q).f.toNat / 65536 % 256 : Nat) : Int)), ((((absorb S0 (padT t) q).f.toNat / 256 % 256 : Nat) : Int)), ((((absorb S0 (padT t) q).f.toNat / 1 % 256 : Nat) : Int)), ((((absorb S0 (padT t) q).g.toNat / 16777216 % 256 : Nat) : Int)), ((((absorb S0 (padT t) q).g.toNat / 65536 % 256 : Nat) : Int)), ((((absorb S0 (padT t) q).g.toNat / 256 % 256 : Nat) : Int)), ((((absorb S0 (padT t) q).g.toNat / 1 % 256 : Nat) : Int)), ((((absorb S0 (padT t) q).h.toNat / 16777216 % 256 : Nat) : Int)), ((((absorb S0 (padT t) q).h.toNat / 65536 % 256 : Nat) : Int)), ((((absorb S0 (padT t) q).h.toNat / 256 % 256 : Nat) : Int)), ((((absorb S0 (padT t) q).h.toNat / 1 % 256 : Nat) : Int))])) 26 r2_47 rfl kj (run_store_row 26 _ _ g2 26 _ _ r2_47 rfl kj kj (isz (n := 32) kj kj) (eqsz (n := 32) kj kj) (ints_one _ _)) fun W48 p48 r2_48 => ?_
    have x48 : Ext w W48 := Puts.ext p48 x47 b2
    refine seq_nil ?_
    refine hK257 _ _ ?_
    try clear hK257 K257
    refine wp_ret ?_
    repeat (first | with_reducible refine goR1 ?_ | with_reducible refine goR2 ?_)
    exact (show bodyPost _ _ _ .ret _ _ from ret1 (.agg (ints .u8 ([((((absorb S0 (padT t) q).a.toNat / 16777216 % 256 : Nat) : Int)), ((((absorb S0 (padT t) q).a.toNat / 65536 % 256 : Nat) : Int)), ((((absorb S0 (padT t) q).a.toNat / 256 % 256 : Nat) : Int)), ((((absorb S0 (padT t) q).a.toNat / 1 % 256 : Nat) : Int)), ((((absorb S0 (padT t) q).b.toNat / 16777216 % 256 : Nat) : Int)), ((((absorb S0 (padT t) q).b.toNat / 65536 % 256 : Nat) : Int)), ((((absorb S0 (padT t) q).b.toNat / 256 % 256 : Nat) : Int)), ((((absorb S0 (padT t) q).b.toNat / 1 % 256 : Nat) : Int)), ((((absorb S0 (padT t) q).c.toNat / 16777216 % 256 : Nat) : Int)), ((((absorb S0 (padT t) q).c.toNat / 65536 % 256 : Nat) : Int)), ((((absorb S0 (padT t) q).c.toNat / 256 % 256 : Nat) : Int)), ((((absorb S0 (padT t) q).c.toNat / 1 % 256 : Nat) : Int)), ((((absorb S0 (padT t) q).d.toNat / 16777216 % 256 : Nat) : Int)), ((((absorb S0 (padT t) q).d.toNat / 65536 % 256 : Nat) : Int)), ((((absorb S0 (padT t) q).d.toNat / 256 % 256 : Nat) : Int)), ((((absorb S0 (padT t) q).d.toNat / 1 % 256 : Nat) : Int)), ((((absorb S0 (padT t) q).e.toNat / 16777216 % 256 : Nat) : Int)), ((((absorb S0 (padT t) q).e.toNat / 65536 % 256 : Nat) : Int)), ((((absorb S0 (padT t) q).e.toNat / 256 % 256 : Nat) : Int)), ((((absorb S0 (padT t) q).e.toNat / 1 % 256 : Nat) : Int)), ((((absorb S0 (padT t) q).f.toNat / 16777216 % 256 : Nat) : Int)), ((((absorb S0 (padT t) q).f.toNat / 65536 % 256 : Nat) : Int)), ((((absorb S0 (padT t) q).f.toNat / 256 % 256 : Nat) : Int)), ((((absorb S0 (padT t) q).f.toNat / 1 % 256 : Nat) : Int)), ((((absorb S0 (padT t) q).g.toNat / 16777216 % 256 : Nat) : Int)), ((((absorb S0 (padT t) q).g.toNat / 65536 % 256 : Nat) : Int)), ((((absorb S0 (padT t) q).g.toNat / 256 % 256 : Nat) : Int)), ((((absorb S0 (padT t) q).g.toNat / 1 % 256 : Nat) : Int)), ((((absorb S0 (padT t) q).h.toNat / 16777216 % 256 : Nat) : Int)), ((((absorb S0 (padT t) q).h.toNat / 65536 % 256 : Nat) : Int)), ((((absorb S0 (padT t) q).h.toNat / 256 % 256 : Nat) : Int)), ((((absorb S0 (padT t) q).h.toNat / 1 % 256 : Nat) : Int))]))) rfl (res_cell g2 26 _ r2_48 kj kj (isz (n := 32) kj kj)) ⟨by rw [show dig t = (absorb S0 (padT t) q).out by unfold dig; rw [hq, Nat.mul_div_cancel_left _ (by decide)]]; rfl, x48⟩)

end Go.Proofs.YtamlhbbphnamnaaDoor.Sha
