/- Texts of this claim, joined (K4). -/
import Derived.Test.YtibegnjaphohaaaDoorZK3

section
namespace Go.Proofs.YtibegnjaphohaaaDoor.Sha
open Go Go.RowKit
open Rely Auto Own
set_option linter.unusedVariables false
set_option linter.unusedSimpArgs false
theorem nb_nil {v : Value} : ∀ c ∈ ([] : List Nat), v.ownBlock ≠ some c := fun _ h => by simp at h
theorem nb_cons {v : Value} {g : Nat} {gs : List Nat} (h : v.ownBlock ≠ some g) (h2 : ∀ c ∈ gs, v.ownBlock ≠ some c) : ∀ c ∈ g :: gs, v.ownBlock ≠ some c := fun c hc => by
  rcases List.mem_cons.1 hc with e | e
  · rw [e]; exact h
  · exact h2 c e
theorem OwnN.keepsL {k : IntKind} {T : TypeId} {base : Nat} {gs : List Nat} {xs : List Int} {v : Value} {V W : World} (h : OwnN k T base xs v V) (q : Qal gs V W) (hn : ∀ c ∈ gs, v.ownBlock ≠ some c) : OwnN k T base xs v W :=
  h.keep fun g hg => q.block g (h.lt hg) (fun hm => hn g hm hg)
theorem QdC (ws : List Wd) {i n : Nat} (h : ws.length = n) (hi : i ≤ n) : ((ws.map wv).take i).length = i := by rw [List.length_take, List.length_map]; omega
theorem Qje (ws : List Wd) {i n : Nat} (h : ws.length = n) (hi : i < n) : (ws.map wv).take (i + 1) = (ws.map wv).take i ++ [wv (wget ws i)] := by
  have hl : i < (ws.map wv).length := by rw [List.length_map]; omega
  rw [List.take_succ_eq_append_getElem hl]
  have : (ws.map wv)[i] = wv (wget ws i) := by
    unfold wget
    rw [List.getElem_map, List.getD_eq_getElem?_getD, List.getElem?_eq_getElem (by omega)]
    rfl
  rw [this]
theorem QcV (ws : List Wd) (i k : Nat) (hk : k < i) : nth ((ws.map wv).take i) k = wv (wget ws k) := by
  rw [← Qcr]
  unfold nth
  rw [List.getD_eq_getElem?_getD, List.getD_eq_getElem?_getD, List.getElem?_take, if_pos hk]
theorem u32s (x : Int) (h : 0 ≤ x ∧ x < 4294967296) : IntKind.u32.wrap x = x := by rw [QdK]; omega
theorem Qj8 (t : List Int) : ∃ q, (padT t).length = 64 * q := by
  refine ⟨(t.length + (1 + QaO t.length + 8)) / 64, ?_⟩
  rw [padT, List.length_append, QcW]
  unfold QaO; omega
theorem QdF (P : List Int) (m k : Nat) (h : k < 64) : nth ((P.drop (64 * m)).take 64) k = nth P (64 * m + k) := by
  unfold nth
  rw [List.getD_eq_getElem?_getD, List.getD_eq_getElem?_getD, List.getElem?_take, if_pos h, List.getElem?_drop]
theorem QkI {P b : List Int} {m j : Nat} (hP : Qao P) (hb : b = (P.drop (64 * m)).take 64) (hj : j < 16) :
    IntKind.u32.wrap (nth P (64 * m + 4 * j) * 16777216 + nth P (64 * m + 4 * j + 1) * 65536 + nth P (64 * m + 4 * j + 2) * 256 + nth P (64 * m + 4 * j + 3)) = wv (wget (w64 b) j) := by
  rw [Qhf b j hj, hb, QdF _ _ _ (by omega), QdF _ _ _ (by omega), QdF _ _ _ (by omega), QdF _ _ _ (by omega), be4, Qe7, QdK]
  simp only [Nat.add_assoc]
  congr 1
  omega
theorem QgM {t : List Int} (h : Qao t) : Qao (padT t) := fun x hx => by
  rcases List.mem_append.1 hx with e | e
  · exact h x e
  · exact QdN _ x e
set_option maxRecDepth 20000 in
set_option maxHeartbeats 4000000 in
theorem QdP (t : List Int) (v : Value) (B : Nat) (w : World) (hlen : t.length ≤ 900000000) (htb : Qao t) (hr : RdK .u8 B t v w) : Calls Tryd.prog 60 #[v] w (Ret w (.agg (ints .u8 (dig t)))) := by
 obtain ⟨a_t, c_t, rfl, -⟩ := id hr
 refine enter 252 [(0, .slice a_t t.length c_t)] Tryd.func60 rfl rfl kj rfl ?_
 refine sgC fun K1 hK1 => ?_
 refine Qar (ints .u8 ([0, 0, 0, 0, 0, 0, 0, 0, 0, 0, 0, 0, 0, 0, 0, 0, 0, 0, 0, 0, 0, 0, 0, 0, 0, 0, 0, 0, 0, 0, 0, 0])) 23 2 rfl kj kj fun g2 W1 l2 e1 r2_1 => ?_
 have x1 := Ext.tr (Rely.Ext.refl w) e1
 refine sgN hK1 ?_
 refine sgC fun K3 hK3 => ?_
 refine Qa8 (fun v W' => (fun v W => ∃ g, v = .slice (some ⟨g, 0, none⟩) 8 8 ∧ W1.heap.size ≤ g ∧ W.heap[g]? = some (.cells (ints .u64 Qak) 77)) v W' ∧ Ext W1 W') 62 #[] 23 rfl kj kj ((QkH _).mono (by rintro e w' ⟨v, rfl, e1, hv⟩; exact ⟨v, rfl, hv, e1⟩)) fun vv4 W2 hh4 => ?_
 obtain ⟨hv4, e2⟩ := hh4
 have x2 := Ext.tr x1 e2
 obtain ⟨gd5, rfl, ld5, rd5_2⟩ := hv4
 have b5 := Nat.le_trans x1.size ld5
 refine sg 1 kj ?_
 refine sgN hK3 ?_
 refine sgC fun K6 hK6 => ?_
 refine Qar (ints .u32 ([0, 0, 0, 0, 0, 0, 0, 0])) 114 4 rfl kj kj fun g7 W3 l7 e3 r7_3 => ?_
 have b7 := Nat.le_trans x2.size l7
 refine sgN hK6 ?_
 refine wp_seq_k fun K8 hK8 => ?_
 refine sgB kj ?_
 refine wp_block ?_
 refine wp_loop_rounds 9 ?_
 show Code.wp _ _ (Exit.then (Code.rounds _ _ _ 8) _) _ _
 refine wp_seq_k fun K10 hK10 => ?_
 refine sgB kj ?_
 refine cond_true kj ?_
 refine wp_skip ?_
 refine hK10 _ _ ?_
 refine wp_seq_k fun K12 hK12 => ?_
 refine wp_block ?_
 refine Qad ?_
 refine sg 3 kj ?_
 refine Qaa (.pointer (some ⟨gd5, 0, none⟩)) 31 rfl kj (QaX 111 _ _ .i64 (0) gd5 8 8 77 rfl kj kj kj kj (by decide)) ?_
 have r5_3 := (Qab rd5_2 e3)
 refine Qaa (.int .u64 (nth Qak 0)) 32 rfl kj (Qah 77 _ gd5 0 77 _ (.int .u64 (nth Qak 0)) _ r5_3 rfl kj ((QaY _ _ _ (Nat.lt_of_lt_of_eq (by decide) (show Qak.length = 8 from rfl).symm)).trans (congrArg (fun z => some (Value.int .u64 z)) rfl)) kj) ?_
 refine Qaa (.int .u64 (nth Qak 0 / 4294967296)) 33 rfl kj (Qag (u := .int .u64 (IntKind.u64.wrap (Int.tdiv ((nth Qak 0)) (4294967296)))) kj (congrArg (Value.int .u64) (show IntKind.u64.wrap (Int.tdiv (nth Qak 0) 4294967296) = nth Qak 0 / 4294967296 by decide +kernel))) ?_
 refine Qaa (.int .u32 (wv S0.a)) 34 rfl kj (Qag (u := .int .u32 (IntKind.u32.wrap (nth Qak 0 / 4294967296))) kj (congrArg (Value.int .u32) (show IntKind.u32.wrap (nth Qak 0 / 4294967296) = wv S0.a by decide +kernel))) ?_
 refine sg 1 kj ?_
 refine Qai g7 _ (ints .u32 ([(wv S0.a), 0, 0, 0, 0, 0, 0, 0])) 114 r7_3 rfl kj (Qam 113 _ _ g7 0 114 _ _ r7_3 rfl kj kj kj (show 0 < 8 by decide)) fun W4 p4 r7_4 => ?_
 refine Qaj ?_
 refine hK12 _ _ ?_
 refine sgA kj ?_
 show Code.rounds _ _ _ 8 _ _
 show Code.wp _ _ (Exit.then (Code.rounds _ _ _ 7) _) _ _
 refine wp_seq_k fun K13 hK13 => ?_
 refine sgB kj ?_
 refine cond_true kj ?_
 refine wp_skip ?_
 refine hK13 _ _ ?_
 refine wp_seq_k fun K15 hK15 => ?_
 refine wp_block ?_
 refine Qad ?_
 refine sg 3 kj ?_
 refine Qaa (.pointer (some ⟨gd5, 1, none⟩)) 31 rfl kj (QaX 111 _ _ .i64 (1) gd5 8 8 77 rfl kj kj kj kj (by decide)) ?_
 have r5_4 := (Puts.row p4 r5_3 (Qaf rd5_2 l7))
 refine Qaa (.int .u64 (nth Qak 1)) 32 rfl kj (Qah 77 _ gd5 1 77 _ (.int .u64 (nth Qak 1)) _ r5_4 rfl kj ((QaY _ _ _ (Nat.lt_of_lt_of_eq (by decide) (show Qak.length = 8 from rfl).symm)).trans (congrArg (fun z => some (Value.int .u64 z)) rfl)) kj) ?_
 refine Qaa (.int .u64 (nth Qak 1 / 4294967296)) 33 rfl kj (Qag (u := .int .u64 (IntKind.u64.wrap (Int.tdiv ((nth Qak 1)) (4294967296)))) kj (congrArg (Value.int .u64) (show IntKind.u64.wrap (Int.tdiv (nth Qak 1) 4294967296) = nth Qak 1 / 4294967296 by decide +kernel))) ?_
 refine Qaa (.int .u32 (wv S0.b)) 34 rfl kj (Qag (u := .int .u32 (IntKind.u32.wrap (nth Qak 1 / 4294967296))) kj (congrArg (Value.int .u32) (show IntKind.u32.wrap (nth Qak 1 / 4294967296) = wv S0.b by decide +kernel))) ?_
 refine sg 1 kj ?_
 refine Qai g7 _ (ints .u32 ([(wv S0.a), (wv S0.b), 0, 0, 0, 0, 0, 0])) 114 r7_4 rfl kj (Qam 113 _ _ g7 1 114 _ _ r7_4 rfl kj kj kj (show 1 < 8 by decide)) fun W5 p5 r7_5 => ?_
 refine Qaj ?_
 refine hK15 _ _ ?_
 refine sgA kj ?_
 show Code.rounds _ _ _ 7 _ _
 show Code.wp _ _ (Exit.then (Code.rounds _ _ _ 6) _) _ _
 refine wp_seq_k fun K16 hK16 => ?_
 refine sgB kj ?_
 refine cond_true kj ?_
 refine wp_skip ?_
 refine hK16 _ _ ?_
 refine wp_seq_k fun K18 hK18 => ?_
 refine wp_block ?_
 refine Qad ?_
 refine sg 3 kj ?_
 refine Qaa (.pointer (some ⟨gd5, 2, none⟩)) 31 rfl kj (QaX 111 _ _ .i64 (2) gd5 8 8 77 rfl kj kj kj kj (by decide)) ?_
 have r5_5 := (Puts.row p5 r5_4 (Qaf rd5_2 l7))
 refine Qaa (.int .u64 (nth Qak 2)) 32 rfl kj (Qah 77 _ gd5 2 77 _ (.int .u64 (nth Qak 2)) _ r5_5 rfl kj ((QaY _ _ _ (Nat.lt_of_lt_of_eq (by decide) (show Qak.length = 8 from rfl).symm)).trans (congrArg (fun z => some (Value.int .u64 z)) rfl)) kj) ?_
 refine Qaa (.int .u64 (nth Qak 2 / 4294967296)) 33 rfl kj (Qag (u := .int .u64 (IntKind.u64.wrap (Int.tdiv ((nth Qak 2)) (4294967296)))) kj (congrArg (Value.int .u64) (show IntKind.u64.wrap (Int.tdiv (nth Qak 2) 4294967296) = nth Qak 2 / 4294967296 by decide +kernel))) ?_
 refine Qaa (.int .u32 (wv S0.c)) 34 rfl kj (Qag (u := .int .u32 (IntKind.u32.wrap (nth Qak 2 / 4294967296))) kj (congrArg (Value.int .u32) (show IntKind.u32.wrap (nth Qak 2 / 4294967296) = wv S0.c by decide +kernel))) ?_
 refine sg 1 kj ?_
 refine Qai g7 _ (ints .u32 ([(wv S0.a), (wv S0.b), (wv S0.c), 0, 0, 0, 0, 0])) 114 r7_5 rfl kj (Qam 113 _ _ g7 2 114 _ _ r7_5 rfl kj kj kj (show 2 < 8 by decide)) fun W6 p6 r7_6 => ?_
 refine Qaj ?_
 refine hK18 _ _ ?_
 refine sgA kj ?_
 show Code.rounds _ _ _ 6 _ _
 show Code.wp _ _ (Exit.then (Code.rounds _ _ _ 5) _) _ _
 refine wp_seq_k fun K19 hK19 => ?_
 refine sgB kj ?_
 refine cond_true kj ?_
 refine wp_skip ?_
 refine hK19 _ _ ?_
 refine wp_seq_k fun K21 hK21 => ?_
 refine wp_block ?_
 refine Qad ?_
 refine sg 3 kj ?_
 refine Qaa (.pointer (some ⟨gd5, 3, none⟩)) 31 rfl kj (QaX 111 _ _ .i64 (3) gd5 8 8 77 rfl kj kj kj kj (by decide)) ?_
 have r5_6 := (Puts.row p6 r5_5 (Qaf rd5_2 l7))
 refine Qaa (.int .u64 (nth Qak 3)) 32 rfl kj (Qah 77 _ gd5 3 77 _ (.int .u64 (nth Qak 3)) _ r5_6 rfl kj ((QaY _ _ _ (Nat.lt_of_lt_of_eq (by decide) (show Qak.length = 8 from rfl).symm)).trans (congrArg (fun z => some (Value.int .u64 z)) rfl)) kj) ?_
 refine Qaa (.int .u64 (nth Qak 3 / 4294967296)) 33 rfl kj (Qag (u := .int .u64 (IntKind.u64.wrap (Int.tdiv ((nth Qak 3)) (4294967296)))) kj (congrArg (Value.int .u64) (show IntKind.u64.wrap (Int.tdiv (nth Qak 3) 4294967296) = nth Qak 3 / 4294967296 by decide +kernel))) ?_
 refine Qaa (.int .u32 (wv S0.d)) 34 rfl kj (Qag (u := .int .u32 (IntKind.u32.wrap (nth Qak 3 / 4294967296))) kj (congrArg (Value.int .u32) (show IntKind.u32.wrap (nth Qak 3 / 4294967296) = wv S0.d by decide +kernel))) ?_
 refine sg 1 kj ?_
 refine Qai g7 _ (ints .u32 ([(wv S0.a), (wv S0.b), (wv S0.c), (wv S0.d), 0, 0, 0, 0])) 114 r7_6 rfl kj (Qam 113 _ _ g7 3 114 _ _ r7_6 rfl kj kj kj (show 3 < 8 by decide)) fun W7 p7 r7_7 => ?_
 refine Qaj ?_
 refine hK21 _ _ ?_
 refine sgA kj ?_
 show Code.rounds _ _ _ 5 _ _
 show Code.wp _ _ (Exit.then (Code.rounds _ _ _ 4) _) _ _
 refine wp_seq_k fun K22 hK22 => ?_
 refine sgB kj ?_
 refine cond_true kj ?_
 refine wp_skip ?_
 refine hK22 _ _ ?_
 refine wp_seq_k fun K24 hK24 => ?_
 refine wp_block ?_
 refine Qad ?_
 refine sg 3 kj ?_
 refine Qaa (.pointer (some ⟨gd5, 4, none⟩)) 31 rfl kj (QaX 111 _ _ .i64 (4) gd5 8 8 77 rfl kj kj kj kj (by decide)) ?_
 have r5_7 := (Puts.row p7 r5_6 (Qaf rd5_2 l7))
 refine Qaa (.int .u64 (nth Qak 4)) 32 rfl kj (Qah 77 _ gd5 4 77 _ (.int .u64 (nth Qak 4)) _ r5_7 rfl kj ((QaY _ _ _ (Nat.lt_of_lt_of_eq (by decide) (show Qak.length = 8 from rfl).symm)).trans (congrArg (fun z => some (Value.int .u64 z)) rfl)) kj) ?_
 refine Qaa (.int .u64 (nth Qak 4 / 4294967296)) 33 rfl kj (Qag (u := .int .u64 (IntKind.u64.wrap (Int.tdiv ((nth Qak 4)) (4294967296)))) kj (congrArg (Value.int .u64) (show IntKind.u64.wrap (Int.tdiv (nth Qak 4) 4294967296) = nth Qak 4 / 4294967296 by decide +kernel))) ?_
 refine Qaa (.int .u32 (wv S0.e)) 34 rfl kj (Qag (u := .int .u32 (IntKind.u32.wrap (nth Qak 4 / 4294967296))) kj (congrArg (Value.int .u32) (show IntKind.u32.wrap (nth Qak 4 / 4294967296) = wv S0.e by decide +kernel))) ?_
 refine sg 1 kj ?_
 refine Qai g7 _ (ints .u32 ([(wv S0.a), (wv S0.b), (wv S0.c), (wv S0.d), (wv S0.e), 0, 0, 0])) 114 r7_7 rfl kj (Qam 113 _ _ g7 4 114 _ _ r7_7 rfl kj kj kj (show 4 < 8 by decide)) fun W8 p8 r7_8 => ?_
 refine Qaj ?_
 refine hK24 _ _ ?_
 refine sgA kj ?_
 show Code.rounds _ _ _ 4 _ _
 show Code.wp _ _ (Exit.then (Code.rounds _ _ _ 3) _) _ _
 refine wp_seq_k fun K25 hK25 => ?_
 refine sgB kj ?_
 refine cond_true kj ?_
 refine wp_skip ?_
 refine hK25 _ _ ?_
 refine wp_seq_k fun K27 hK27 => ?_
 refine wp_block ?_
 refine Qad ?_
 refine sg 3 kj ?_
 refine Qaa (.pointer (some ⟨gd5, 5, none⟩)) 31 rfl kj (QaX 111 _ _ .i64 (5) gd5 8 8 77 rfl kj kj kj kj (by decide)) ?_
 have r5_8 := (Puts.row p8 r5_7 (Qaf rd5_2 l7))
 refine Qaa (.int .u64 (nth Qak 5)) 32 rfl kj (Qah 77 _ gd5 5 77 _ (.int .u64 (nth Qak 5)) _ r5_8 rfl kj ((QaY _ _ _ (Nat.lt_of_lt_of_eq (by decide) (show Qak.length = 8 from rfl).symm)).trans (congrArg (fun z => some (Value.int .u64 z)) rfl)) kj) ?_
 refine Qaa (.int .u64 (nth Qak 5 / 4294967296)) 33 rfl kj (Qag (u := .int .u64 (IntKind.u64.wrap (Int.tdiv ((nth Qak 5)) (4294967296)))) kj (congrArg (Value.int .u64) (show IntKind.u64.wrap (Int.tdiv (nth Qak 5) 4294967296) = nth Qak 5 / 4294967296 by decide +kernel))) ?_
 refine Qaa (.int .u32 (wv S0.f)) 34 rfl kj (Qag (u := .int .u32 (IntKind.u32.wrap (nth Qak 5 / 4294967296))) kj (congrArg (Value.int .u32) (show IntKind.u32.wrap (nth Qak 5 / 4294967296) = wv S0.f by decide +kernel))) ?_
 refine sg 1 kj ?_
 refine Qai g7 _ (ints .u32 ([(wv S0.a), (wv S0.b), (wv S0.c), (wv S0.d), (wv S0.e), (wv S0.f), 0, 0])) 114 r7_8 rfl kj (Qam 113 _ _ g7 5 114 _ _ r7_8 rfl kj kj kj (show 5 < 8 by decide)) fun W9 p9 r7_9 => ?_
 refine Qaj ?_
 refine hK27 _ _ ?_
 refine sgA kj ?_
 show Code.rounds _ _ _ 3 _ _
 show Code.wp _ _ (Exit.then (Code.rounds _ _ _ 2) _) _ _
 refine wp_seq_k fun K28 hK28 => ?_
 refine sgB kj ?_
 refine cond_true kj ?_
 refine wp_skip ?_
 refine hK28 _ _ ?_
 refine wp_seq_k fun K30 hK30 => ?_
 refine wp_block ?_
 refine Qad ?_
 refine sg 3 kj ?_
 refine Qaa (.pointer (some ⟨gd5, 6, none⟩)) 31 rfl kj (QaX 111 _ _ .i64 (6) gd5 8 8 77 rfl kj kj kj kj (by decide)) ?_
 have r5_9 := (Puts.row p9 r5_8 (Qaf rd5_2 l7))
 refine Qaa (.int .u64 (nth Qak 6)) 32 rfl kj (Qah 77 _ gd5 6 77 _ (.int .u64 (nth Qak 6)) _ r5_9 rfl kj ((QaY _ _ _ (Nat.lt_of_lt_of_eq (by decide) (show Qak.length = 8 from rfl).symm)).trans (congrArg (fun z => some (Value.int .u64 z)) rfl)) kj) ?_
 refine Qaa (.int .u64 (nth Qak 6 / 4294967296)) 33 rfl kj (Qag (u := .int .u64 (IntKind.u64.wrap (Int.tdiv ((nth Qak 6)) (4294967296)))) kj (congrArg (Value.int .u64) (show IntKind.u64.wrap (Int.tdiv (nth Qak 6) 4294967296) = nth Qak 6 / 4294967296 by decide +kernel))) ?_
 refine Qaa (.int .u32 (wv S0.g)) 34 rfl kj (Qag (u := .int .u32 (IntKind.u32.wrap (nth Qak 6 / 4294967296))) kj (congrArg (Value.int .u32) (show IntKind.u32.wrap (nth Qak 6 / 4294967296) = wv S0.g by decide +kernel))) ?_
 refine sg 1 kj ?_
 refine Qai g7 _ (ints .u32 ([(wv S0.a), (wv S0.b), (wv S0.c), (wv S0.d), (wv S0.e), (wv S0.f), (wv S0.g), 0])) 114 r7_9 rfl kj (Qam 113 _ _ g7 6 114 _ _ r7_9 rfl kj kj kj (show 6 < 8 by decide)) fun W10 p10 r7_10 => ?_
 refine Qaj ?_
 refine hK30 _ _ ?_
 refine sgA kj ?_
 show Code.rounds _ _ _ 2 _ _
 show Code.wp _ _ (Exit.then (Code.rounds _ _ _ 1) _) _ _
 refine wp_seq_k fun K31 hK31 => ?_
 refine sgB kj ?_
 refine cond_true kj ?_
 refine wp_skip ?_
 refine hK31 _ _ ?_
 refine wp_seq_k fun K33 hK33 => ?_
 refine wp_block ?_
 refine Qad ?_
 refine sg 3 kj ?_
 refine Qaa (.pointer (some ⟨gd5, 7, none⟩)) 31 rfl kj (QaX 111 _ _ .i64 (7) gd5 8 8 77 rfl kj kj kj kj (by decide)) ?_
 refine Qaa (.int .u64 (nth Qak 7)) 32 rfl kj (Qah 77 _ gd5 7 77 _ (.int .u64 (nth Qak 7)) _ (Puts.row p10 r5_9 (Qaf rd5_2 l7)) rfl kj ((QaY _ _ _ (Nat.lt_of_lt_of_eq (by decide) (show Qak.length = 8 from rfl).symm)).trans (congrArg (fun z => some (Value.int .u64 z)) rfl)) kj) ?_
 refine Qaa (.int .u64 (nth Qak 7 / 4294967296)) 33 rfl kj (Qag (u := .int .u64 (IntKind.u64.wrap (Int.tdiv ((nth Qak 7)) (4294967296)))) kj (congrArg (Value.int .u64) (show IntKind.u64.wrap (Int.tdiv (nth Qak 7) 4294967296) = nth Qak 7 / 4294967296 by decide +kernel))) ?_
 refine Qaa (.int .u32 (wv S0.h)) 34 rfl kj (Qag (u := .int .u32 (IntKind.u32.wrap (nth Qak 7 / 4294967296))) kj (congrArg (Value.int .u32) (show IntKind.u32.wrap (nth Qak 7 / 4294967296) = wv S0.h by decide +kernel))) ?_
 refine sg 1 kj ?_
 refine Qai g7 _ (ints .u32 ([(wv S0.a), (wv S0.b), (wv S0.c), (wv S0.d), (wv S0.e), (wv S0.f), (wv S0.g), (wv S0.h)])) 114 r7_10 rfl kj (Qam 113 _ _ g7 7 114 _ _ r7_10 rfl kj kj kj (show 7 < 8 by decide)) fun W11 p11 r7_11 => ?_
 refine Qaj ?_
 refine hK33 _ _ ?_
 refine sgA kj ?_
 show Code.rounds _ _ _ 1 _ _
 show Code.wp _ _ (Exit.then (Code.rounds _ _ _ 0) _) _ _
 refine wp_seq_k fun K34 hK34 => ?_
 refine sgB kj ?_
 refine cond_false kj ?_
 refine wp_exit ?_
 refine hK8 _ _ ?_
 refine sgC fun K36 hK36 => ?_
 refine Qa8 (fun v W' => (OwnN .u32 113 W11.heap.size (KK.map wv)) v W' ∧ Ext W11 W') 63 #[] 36 rfl kj kj ((Qj2 _).mono (by rintro e w' ⟨v, rfl, e1, hv⟩; exact ⟨v, rfl, hv, e1⟩)) fun vv37 W12 hh37 => ?_
 obtain ⟨hv37, e12⟩ := hh37
 have x12 := Ext.tr (Puts.ext p11 (Puts.ext p10 (Puts.ext p9 (Puts.ext p8 (Puts.ext p7 (Puts.ext p6 (Puts.ext p5 (Puts.ext p4 (Ext.tr x2 e3) b7) b7) b7) b7) b7) b7) b7) b7) e12
 obtain ⟨am38, cm38, rfl, -⟩ := id (OwnN.rd hv37)
 have nb38_7 : (.slice am38 ((KK.map wv).length) cm38 : Value).ownBlock ≠ some g7 := OwnN.nb hv37 (Qat r7_11)
 refine sg 1 kj ?_
 refine sgN hK36 ?_
 refine sgC fun K39 hK39 => ?_
 refine sg 1 kj ?_
 have r7_12 := (Qab r7_11 e12)
 refine Qa8 (fun v W' => (OwnN .u8 5 W12.heap.size (padT t)) v W' ∧ Ext W12 W') 64 #[.slice a_t t.length c_t, .int .i64 64, .int .i64 8] 38 rfl kj kj ((padC t _ _ _ hlen (RdK.ext hr x12)).mono (by rintro e w' ⟨v, rfl, e1, hv⟩; exact ⟨v, rfl, hv, e1⟩)) fun vv40 W13 hh40 => ?_
 obtain ⟨hv40, e13⟩ := hh40
 obtain ⟨am41, cm41, rfl, -⟩ := id (OwnN.rd hv40)
 have nb41_7 : (.slice am41 ((padT t).length) cm41 : Value).ownBlock ≠ some g7 := OwnN.nb hv40 (Qat r7_12)
 refine sg 1 kj ?_
 refine sgN hK39 ?_
 refine wp_seq_k fun K42 hK42 => ?_
 refine sgB kj ?_
 refine wp_block ?_
 obtain ⟨q, hq⟩ := Qj8 t
 have hPl : (padT t).length ≤ 900000200 := by rw [padT, List.length_append, QcW]; unfold QaO; omega
 have hPb : Qao (padT t) := QgM htb
 refine Qa9 (fun (s1 : Nat) => [(2, .pointer (some ⟨g2, 0, none⟩)), (4, .pointer (some ⟨g7, 0, none⟩)), (6, .slice am38 ((KK.map wv).length) cm38), (7, .slice am41 ((padT t).length) cm41), (8, .int .i64 ((64 * s1 : Nat) : Int))]) (fun (s1 : Nat) W => (s1 ≤ q) ∧ (W.heap[g7]? = some (.cells (ints .u32 ([wv (absorb S0 (padT t) s1).a, wv (absorb S0 (padT t) s1).b, wv (absorb S0 (padT t) s1).c, wv (absorb S0 (padT t) s1).d, wv (absorb S0 (padT t) s1).e, wv (absorb S0 (padT t) s1).f, wv (absorb S0 (padT t) s1).g, wv (absorb S0 (padT t) s1).h])) 114)) ∧ (Qal [g7] W13 W) ∧ (Ext w W)) (fun (s1 : Nat) => q - s1) 0 ⟨kj, kj, kj, kj, kj, trivial⟩ ⟨(Nat.zero_le _), (Qab r7_12 e13), (Qal.refl [g7] W13), (Ext.tr x12 e13)⟩ fun s1 X1 V1 hI1 => ?_
 obtain ⟨m, hs1⟩ : ∃ z, z = s1 := ⟨_, rfl⟩
 subst hs1
 obtain ⟨hm, q7_1, kk1, xx1⟩ := hI1
 replace hm : m ≤ q := hm
 replace q7_1 : V1.heap[g7]? = some (.cells (ints .u32 ([wv (absorb S0 (padT t) m).a, wv (absorb S0 (padT t) m).b, wv (absorb S0 (padT t) m).c, wv (absorb S0 (padT t) m).d, wv (absorb S0 (padT t) m).e, wv (absorb S0 (padT t) m).f, wv (absorb S0 (padT t) m).g, wv (absorb S0 (padT t) m).h])) 114) := q7_1
 replace kk1 : Qal [g7] W13 V1 := kk1
 replace xx1 : Ext w V1 := xx1
 have q14 := kk1
 refine wp_seq_k fun K44 hK44 => ?_
 refine sgC fun K45 hK45 => ?_
 refine sg 3 kj ?_
 refine Qaa (.bool (decide (m < q))) 42 rfl kj (Qag (u := .bool (decide (((64 * m : Nat) : Int) < (((padT t).length : Nat) : Int)))) kj (congrArg Value.bool (by rw [hq]; exact decide_eq_decide.2 (by omega)))) ?_
 refine sgN hK45 ?_
 refine Qa5 (t := decide (m < q)) kj (fun c46 => ?_) (fun c46 => ?_)
 ·skip
  have hlt42 : m < q := by have := of_decide_eq_true c46; omega
  obtain ⟨b, hb⟩ : ∃ z, z = ((padT t).drop (64 * m)).take 64 := ⟨_, rfl⟩
  obtain ⟨s, hs⟩ : ∃ z, z = absorb S0 (padT t) m := ⟨_, rfl⟩
  have r7_14_47 : V1.heap[g7]? = some (.cells (ints .u32 ([wv s.a, wv s.b, wv s.c, wv s.d, wv s.e, wv s.f, wv s.g, wv s.h])) 114) := QaV q7_1 (by rw [hs])
  refine wp_skip ?_
  refine hK44 _ _ ?_
  refine wp_seq_k fun K48 hK48 => ?_
  refine wp_block ?_
  refine sgB kj ?_
  refine wp_seq_k fun K50 hK50 => ?_
  refine sgB kj ?_
  refine wp_block ?_
  refine Qa9 (fun (s2 : Nat × Value) => [(2, .pointer (some ⟨g2, 0, none⟩)), (4, .pointer (some ⟨g7, 0, none⟩)), (6, .slice am38 ((KK.map wv).length) cm38), (7, .slice am41 ((padT t).length) cm41), (8, .int .i64 ((64 * m : Nat) : Int)), (9, s2.2), (10, .int .i64 ((s2.1 : Nat) : Int))]) (fun (s2 : Nat × Value) W => (s2.1 ≤ 16) ∧ (OwnN .u32 113 V1.heap.size (((w64 b).map wv).take s2.1) s2.2 W) ∧ (Ext V1 W) ∧ (Ext w W)) (fun (s2 : Nat × Value) => 16 - s2.1) (0, (.slice none 0 0)) ⟨kj, kj, kj, kj, kj, kj, kj, trivial⟩ ⟨(Nat.zero_le _), (Qbv _ _ _ _), (Rely.Ext.refl V1), xx1⟩ fun s2 X2 V2 hI2 => ?_
  obtain ⟨j, u⟩ := s2
  obtain ⟨hj, hu, kk2, xx2⟩ := hI2
  replace hj : j ≤ 16 := hj
  replace hu : OwnN .u32 113 V1.heap.size (((w64 b).map wv).take j) u V2 := hu
  replace kk2 : Ext V1 V2 := kk2
  replace xx2 : Ext w V2 := xx2
  have e15 := kk2
  have f53_14 := (OwnN.keepsL hv40 q14 (nb_cons nb41_7 nb_nil))
  have f54_15 := (f53_14.ext e15)
  have hnp_52 : (padT t).length = 64 * q := hq
  obtain ⟨gcp_52, ocp_52, hap_52, hlp_52, hcp_52⟩ := rdK_open (OwnN.rd f54_15) (by rw [hnp_52]; omega)
  refine wp_seq_k fun K55 hK55 => ?_
  refine sgB kj ?_
  refine Qa5 (t := decide (((j : Nat) : Int) < 16)) kj (fun c57 => ?_) (fun c57 => ?_)
  ·skip
   have hlt46 : j < 16 := by have := of_decide_eq_true c57; omega
   refine wp_skip ?_
   refine hK55 _ _ ?_
   refine wp_seq_k fun K58 hK58 => ?_
   refine wp_block ?_
   refine sgC fun K59 hK59 => ?_
   refine sg 2 kj ?_
   refine Qaa (.int .i64 ((4 * j : Nat) : Int)) 51 rfl kj (Qag (u := .int .i64 (IntKind.i64.wrap (4 * ((j : Nat) : Int)))) kj (congrArg (Value.int .i64) (i64n _ _ (by omega) (by omega)))) ?_
   refine Qaa (.int .i64 (((64 * m) + (4 * j) : Nat) : Int)) 52 rfl kj (Qag (u := .int .i64 (IntKind.i64.wrap (((64 * m : Nat) : Int) + ((4 * j : Nat) : Int)))) kj (congrArg (Value.int .i64) (i64n _ _ (by omega) (by omega)))) ?_
   refine sg 1 kj ?_
   refine sgN hK59 ?_
   refine QaQ 31 [⟨none, [(9, none)]⟩, ⟨none, [(7, none)]⟩, ⟨none, [(11, none)]⟩, ⟨none, [(54, some 1), (55, some 2)]⟩, ⟨none, [(56, some 3)]⟩, ⟨none, [(57, some 4)]⟩, ⟨none, [(58, some 5)]⟩, ⟨none, [(7, none)]⟩, ⟨none, [(11, none)]⟩, ⟨none, [(61, some 8)]⟩, ⟨none, [(60, some 7), (62, some 9)]⟩, ⟨none, [(63, some 10)]⟩, ⟨none, [(64, some 11)]⟩, ⟨none, [(65, some 12)]⟩, ⟨none, [(59, some 6), (66, some 13)]⟩, ⟨none, [(7, none)]⟩, ⟨none, [(11, none)]⟩, ⟨none, [(69, some 16)]⟩, ⟨none, [(68, some 15), (70, some 17)]⟩, ⟨none, [(71, some 18)]⟩, ⟨none, [(72, some 19)]⟩, ⟨none, [(73, some 20)]⟩, ⟨none, [(67, some 14), (74, some 21)]⟩, ⟨none, [(7, none)]⟩, ⟨none, [(11, none)]⟩, ⟨none, [(77, some 24)]⟩, ⟨none, [(76, some 23), (78, some 25)]⟩, ⟨none, [(79, some 26)]⟩, ⟨none, [(80, some 27)]⟩, ⟨none, [(75, some 22), (81, some 28)]⟩, ⟨none, [(82, some 29)]⟩] kj kj fun F hF => ?_
   refine Qa1 (Qan _) (u) kj kj (fun W => by kernel_rfl) ?_
   refine Qa1 (Qan _) (.slice am41 ((padT t).length) cm41) kj kj (fun W => by kernel_rfl) ?_
   refine Qa1 (Qan _) (.int .i64 (((64 * m) + (4 * j) : Nat) : Int)) kj kj (fun W => by kernel_rfl) ?_
   refine Qa1 (Qan _) (.pointer (some ⟨gcp_52, ocp_52 + ((64 * m) + (4 * j)), none⟩)) kj kj (fun W => (run_indexA 38 _ _ .i64 ((64 * m) + (4 * j)) gcp_52 ocp_52 ((padT t).length) cm41 5 am41 _ hap_52 rfl rfl kj kj kj kj (Nat.lt_of_lt_of_eq (show (64 * m) + (4 * j) < 64 * q by omega) hnp_52.symm))) ?_
   refine QaT (Qan _) (.int .u8 (nth (padT t) (((64 * m) + (4 * j))))) kj kj (fun W hR => (QaA 5 _ _ (.int .u8 (nth (padT t) (((64 * m) + (4 * j))))) ((Below.cell (Rely.Ext.trans (Qas _) hR) hlp_52).trans (hcp_52 ((64 * m) + (4 * j)) (Nat.lt_of_lt_of_eq (show (64 * m) + (4 * j) < 64 * q by omega) hnp_52.symm))) rfl kj kj)) ?_
   refine Qa1 (Qan _) (.int .u32 (nth (padT t) (64 * m + 4 * j))) kj kj (fun W => (Qag (u := .int .u32 (IntKind.u32.wrap (nth (padT t) (((64 * m) + (4 * j)))))) kj (congrArg (Value.int .u32) (u32s _ (by have := hPb.nth (64 * m + 4 * j); omega))))) ?_
   refine Qa1 (Qan _) (.int .u32 (nth (padT t) (64 * m + 4 * j) * 16777216)) kj kj (fun W => (Qag (u := .int .u32 (IntKind.u32.wrap ((nth (padT t) (64 * m + 4 * j)) * 16777216))) kj (congrArg (Value.int .u32) (u32s _ (by have := hPb.nth (64 * m + 4 * j); omega))))) ?_
   refine Qa1 (Qan _) (.slice am41 ((padT t).length) cm41) kj kj (fun W => by kernel_rfl) ?_
   refine Qa1 (Qan _) (.int .i64 (((64 * m) + (4 * j) : Nat) : Int)) kj kj (fun W => by kernel_rfl) ?_
   refine Qa1 (Qan _) (.int .i64 ((((64 * m) + (4 * j)) + 1 : Nat) : Int)) kj kj (fun W => (Qag (u := .int .i64 (IntKind.i64.wrap ((((64 * m) + (4 * j) : Nat) : Int) + 1))) kj (congrArg (Value.int .i64) (i64n _ _ (by omega) (by omega))))) ?_
   refine Qa1 (Qan _) (.pointer (some ⟨gcp_52, ocp_52 + (((64 * m) + (4 * j)) + 1), none⟩)) kj kj (fun W => (run_indexA 38 _ _ .i64 (((64 * m) + (4 * j)) + 1) gcp_52 ocp_52 ((padT t).length) cm41 5 am41 _ hap_52 rfl rfl kj kj kj kj (Nat.lt_of_lt_of_eq (show ((64 * m) + (4 * j)) + 1 < 64 * q by omega) hnp_52.symm))) ?_
   refine QaT (Qan _) (.int .u8 (nth (padT t) ((((64 * m) + (4 * j)) + 1)))) kj kj (fun W hR => (QaA 5 _ _ (.int .u8 (nth (padT t) ((((64 * m) + (4 * j)) + 1)))) ((Below.cell (Rely.Ext.trans (Qas _) hR) hlp_52).trans (hcp_52 (((64 * m) + (4 * j)) + 1) (Nat.lt_of_lt_of_eq (show ((64 * m) + (4 * j)) + 1 < 64 * q by omega) hnp_52.symm))) rfl kj kj)) ?_
   refine Qa1 (Qan _) (.int .u32 (nth (padT t) (64 * m + 4 * j + 1))) kj kj (fun W => (Qag (u := .int .u32 (IntKind.u32.wrap (nth (padT t) ((((64 * m) + (4 * j)) + 1))))) kj (congrArg (Value.int .u32) (u32s _ (by have := hPb.nth (64 * m + 4 * j + 1); omega))))) ?_
   refine Qa1 (Qan _) (.int .u32 (nth (padT t) (64 * m + 4 * j + 1) * 65536)) kj kj (fun W => (Qag (u := .int .u32 (IntKind.u32.wrap ((nth (padT t) (64 * m + 4 * j + 1)) * 65536))) kj (congrArg (Value.int .u32) (u32s _ (by have := hPb.nth (64 * m + 4 * j + 1); omega))))) ?_
   refine Qa1 (Qan _) (.int .u32 (nth (padT t) (64 * m + 4 * j) * 16777216 + nth (padT t) (64 * m + 4 * j + 1) * 65536)) kj kj (fun W => (Qag (u := .int .u32 (IntKind.u32.wrap ((nth (padT t) (64 * m + 4 * j) * 16777216) + (nth (padT t) (64 * m + 4 * j + 1) * 65536)))) kj (congrArg (Value.int .u32) (u32s _ (by have := hPb.nth (64 * m + 4 * j); have := hPb.nth (64 * m + 4 * j + 1); omega))))) ?_
   refine Qa1 (Qan _) (.slice am41 ((padT t).length) cm41) kj kj (fun W => by kernel_rfl) ?_
   refine Qa1 (Qan _) (.int .i64 (((64 * m) + (4 * j) : Nat) : Int)) kj kj (fun W => by kernel_rfl) ?_
   refine Qa1 (Qan _) (.int .i64 ((((64 * m) + (4 * j)) + 2 : Nat) : Int)) kj kj (fun W => (Qag (u := .int .i64 (IntKind.i64.wrap ((((64 * m) + (4 * j) : Nat) : Int) + 2))) kj (congrArg (Value.int .i64) (i64n _ _ (by omega) (by omega))))) ?_
   refine Qa1 (Qan _) (.pointer (some ⟨gcp_52, ocp_52 + (((64 * m) + (4 * j)) + 2), none⟩)) kj kj (fun W => (run_indexA 38 _ _ .i64 (((64 * m) + (4 * j)) + 2) gcp_52 ocp_52 ((padT t).length) cm41 5 am41 _ hap_52 rfl rfl kj kj kj kj (Nat.lt_of_lt_of_eq (show ((64 * m) + (4 * j)) + 2 < 64 * q by omega) hnp_52.symm))) ?_
   refine QaT (Qan _) (.int .u8 (nth (padT t) ((((64 * m) + (4 * j)) + 2)))) kj kj (fun W hR => (QaA 5 _ _ (.int .u8 (nth (padT t) ((((64 * m) + (4 * j)) + 2)))) ((Below.cell (Rely.Ext.trans (Qas _) hR) hlp_52).trans (hcp_52 (((64 * m) + (4 * j)) + 2) (Nat.lt_of_lt_of_eq (show ((64 * m) + (4 * j)) + 2 < 64 * q by omega) hnp_52.symm))) rfl kj kj)) ?_
   refine Qa1 (Qan _) (.int .u32 (nth (padT t) (64 * m + 4 * j + 2))) kj kj (fun W => (Qag (u := .int .u32 (IntKind.u32.wrap (nth (padT t) ((((64 * m) + (4 * j)) + 2))))) kj (congrArg (Value.int .u32) (u32s _ (by have := hPb.nth (64 * m + 4 * j + 2); omega))))) ?_
   refine Qa1 (Qan _) (.int .u32 (nth (padT t) (64 * m + 4 * j + 2) * 256)) kj kj (fun W => (Qag (u := .int .u32 (IntKind.u32.wrap ((nth (padT t) (64 * m + 4 * j + 2)) * 256))) kj (congrArg (Value.int .u32) (u32s _ (by have := hPb.nth (64 * m + 4 * j + 2); omega))))) ?_
   refine Qa1 (Qan _) (.int .u32 (nth (padT t) (64 * m + 4 * j) * 16777216 + nth (padT t) (64 * m + 4 * j + 1) * 65536 + nth (padT t) (64 * m + 4 * j + 2) * 256)) kj kj (fun W => (Qag (u := .int .u32 (IntKind.u32.wrap ((nth (padT t) (64 * m + 4 * j) * 16777216 + nth (padT t) (64 * m + 4 * j + 1) * 65536) + (nth (padT t) (64 * m + 4 * j + 2) * 256)))) kj (congrArg (Value.int .u32) (u32s _ (by have := hPb.nth (64 * m + 4 * j); have := hPb.nth (64 * m + 4 * j + 1); have := hPb.nth (64 * m + 4 * j + 2); omega))))) ?_
   refine Qa1 (Qan _) (.slice am41 ((padT t).length) cm41) kj kj (fun W => by kernel_rfl) ?_
   refine Qa1 (Qan _) (.int .i64 (((64 * m) + (4 * j) : Nat) : Int)) kj kj (fun W => by kernel_rfl) ?_
   refine Qa1 (Qan _) (.int .i64 ((((64 * m) + (4 * j)) + 3 : Nat) : Int)) kj kj (fun W => (Qag (u := .int .i64 (IntKind.i64.wrap ((((64 * m) + (4 * j) : Nat) : Int) + 3))) kj (congrArg (Value.int .i64) (i64n _ _ (by omega) (by omega))))) ?_
   refine Qa1 (Qan _) (.pointer (some ⟨gcp_52, ocp_52 + (((64 * m) + (4 * j)) + 3), none⟩)) kj kj (fun W => (run_indexA 38 _ _ .i64 (((64 * m) + (4 * j)) + 3) gcp_52 ocp_52 ((padT t).length) cm41 5 am41 _ hap_52 rfl rfl kj kj kj kj (Nat.lt_of_lt_of_eq (show ((64 * m) + (4 * j)) + 3 < 64 * q by omega) hnp_52.symm))) ?_
   refine QaT (Qan _) (.int .u8 (nth (padT t) ((((64 * m) + (4 * j)) + 3)))) kj kj (fun W hR => (QaA 5 _ _ (.int .u8 (nth (padT t) ((((64 * m) + (4 * j)) + 3)))) ((Below.cell (Rely.Ext.trans (Qas _) hR) hlp_52).trans (hcp_52 (((64 * m) + (4 * j)) + 3) (Nat.lt_of_lt_of_eq (show ((64 * m) + (4 * j)) + 3 < 64 * q by omega) hnp_52.symm))) rfl kj kj)) ?_
   refine Qa1 (Qan _) (.int .u32 (nth (padT t) (64 * m + 4 * j + 3))) kj kj (fun W => (Qag (u := .int .u32 (IntKind.u32.wrap (nth (padT t) ((((64 * m) + (4 * j)) + 3))))) kj (congrArg (Value.int .u32) (u32s _ (by have := hPb.nth (64 * m + 4 * j + 3); omega))))) ?_
   refine Qa1 (Qan _) (.int .u32 (wv (wget (w64 b) j))) kj kj (fun W => (Qag (u := .int .u32 (IntKind.u32.wrap ((nth (padT t) (64 * m + 4 * j) * 16777216 + nth (padT t) (64 * m + 4 * j + 1) * 65536 + nth (padT t) (64 * m + 4 * j + 2) * 256) + (nth (padT t) (64 * m + 4 * j + 3))))) kj (congrArg (Value.int .u32) (QkI hPb hb hlt46)))) ?_
   refine Qjq (Qan _) (ints .u32 ([(wv (wget (w64 b) j))])) 113 1 (NewS.stable _ _ _ _) kj kj (fun W => by kernel_rfl) ?_
   refine Qcz (hF _ fun W16 e16 => ?_)
   simp only [List.nil_append, List.cons_append, List.take_succ_cons, List.take_zero, List.drop_succ_cons, List.drop_zero, finE, up]
   intro vv60 hv60
   clear hF
   have x16 := Ext.tr xx2 e16
   obtain ⟨g60, rfl, l60, r60_16⟩ := hv60
   have b60 := Nat.le_trans xx2.size l60
   have y14_16 := (Rely.Ext.trans e15 e16)
   refine QaC (k := .u32) (T := 113) (xs := ((w64 b).map wv).take j) (ys := [(wv (wget (w64 b) j))]) (V := V1) 4 (.tmp 53) (.tmp 83) 115 rfl kj kj (by decide) 84 rfl kj kj kj (hu.ext e16) (QaK (xs := [(wv (wget (w64 b) j))]) (n := 1) rfl r60_16 (Qat r60_16) (show 1 ≤ maxLen from by decide)) (by rw [QdC _ (QbI b) (by omega)]; show _ + 1 ≤ _; omega) y14_16 fun z1 W17 f62 y17 l17 => ?_
   have x17 := Ext.low x16 l17 xx1.size
   refine sg 1 kj ?_
   refine Qaj ?_
   refine hK58 _ _ ?_
   refine Qad ?_
   refine sg 1 kj ?_
   refine Qaa (.int .i64 ((j + 1 : Nat) : Int)) 48 rfl kj (Qag (u := .int .i64 (IntKind.i64.wrap (((j : Nat) : Int) + 1))) kj (congrArg (Value.int .i64) (i64n _ _ (by omega) (by omega)))) ?_
   refine sg 1 kj ?_
   refine Qaj ?_
   repeat (first | with_reducible refine goX1 ?_ | with_reducible refine goX2 ?_ | with_reducible refine goX3 ?_)
   exact Qa4 ((j + 1), z1) ⟨kj, kj, kj, kj, kj, kj, kj, trivial⟩ ⟨(by omega), (by rw [Qje _ (QbI b) (by omega)]; exact f62), y17, x17⟩ (by show 16 - (j + 1) < 16 - j; omega)
  ·skip
   have heq46 : j = 16 := by have := of_decide_eq_false c57; omega
   subst heq46
   refine wp_exit ?_
   refine hK50 _ _ ?_
   refine wp_seq_k fun K64 hK64 => ?_
   refine sgB kj ?_
   refine wp_block ?_
   refine Qa9 (fun (s3 : Nat × Value) => [(2, .pointer (some ⟨g2, 0, none⟩)), (4, .pointer (some ⟨g7, 0, none⟩)), (6, .slice am38 ((KK.map wv).length) cm38), (7, .slice am41 ((padT t).length) cm41), (8, .int .i64 ((64 * m : Nat) : Int)), (9, s3.2), (12, .int .i64 ((s3.1 : Nat) : Int))]) (fun (s3 : Nat × Value) W => (16 ≤ s3.1) ∧ (s3.1 ≤ 64) ∧ (OwnN .u32 113 V1.heap.size (((w64 b).map wv).take s3.1) s3.2 W) ∧ (Below V1.heap.size V2 W) ∧ (Ext w W)) (fun (s3 : Nat × Value) => 64 - s3.1) (16, u) ⟨kj, kj, kj, kj, kj, kj, kj, trivial⟩ ⟨(Nat.le_refl _), (show (16 : Nat) ≤ 64 by decide), hu, (RowKit.Below.refl _ V2), xx2⟩ fun s3 X3 V3 hI3 => ?_
   obtain ⟨i, u⟩ := s3
   obtain ⟨h16, hi, hu, kk3, xx3⟩ := hI3
   replace h16 : 16 ≤ i := h16
   replace hi : i ≤ 64 := hi
   replace hu : OwnN .u32 113 V1.heap.size (((w64 b).map wv).take i) u V3 := hu
   replace kk3 : Below V1.heap.size V2 V3 := kk3
   replace xx3 : Ext w V3 := xx3
   have l16 := kk3
   obtain ⟨a9, c9, rfl, -⟩ := id (OwnN.rd hu)
   have hnw_66 : (((w64 b).map wv).take i).length = i := (QdC _ (QbI b) hi)
   obtain ⟨gcw_66, ocw_66, haw_66, hlw_66, hcw_66⟩ := rdK_open (OwnN.rd hu) (by rw [hnw_66]; omega)
   refine wp_seq_k fun K67 hK67 => ?_
   refine sgB kj ?_
   refine Qa5 (t := decide (((i : Nat) : Int) < 64)) kj (fun c69 => ?_) (fun c69 => ?_)
   ·skip
    have hlt86 : i < 64 := by have := of_decide_eq_true c69; omega
    refine wp_skip ?_
    refine hK67 _ _ ?_
    refine wp_seq_k fun K70 hK70 => ?_
    refine wp_block ?_
    refine sgC fun K71 hK71 => ?_
    refine sg 2 kj ?_
    refine Qaa (.int .i64 ((i - 15 : Nat) : Int)) 91 rfl kj (Qag (u := .int .i64 (IntKind.i64.wrap (((i : Nat) : Int) - 15))) kj (congrArg (Value.int .i64) (i64n _ _ (by omega) (by omega)))) ?_
    refine Qaa (.pointer (some ⟨gcw_66, ocw_66 + (i - 15), none⟩)) 92 rfl kj (run_indexA 115 _ _ .i64 (i - 15) gcw_66 ocw_66 ((((w64 b).map wv).take i).length) c9 113 a9 _ haw_66 rfl rfl kj kj kj kj (Nat.lt_of_lt_of_eq (show i - 15 < i by omega) hnw_66.symm)) ?_
    refine Qaa (.int .u32 (wv (wget (w64 b) (i - 15)))) 93 rfl kj (QaA 113 _ _ (.int .u32 (wv (wget (w64 b) (i - 15)))) ((hcw_66 (i - 15) (Nat.lt_of_lt_of_eq (show i - 15 < i by omega) hnw_66.symm)).trans (congrArg (fun z => some (Value.int .u32 z)) (QcV (w64 b) i (i - 15) (by omega)))) rfl kj kj) ?_
    refine sg 1 kj ?_
    refine sgN hK71 ?_
    refine sgC fun K72 hK72 => ?_
    refine sg 2 kj ?_
    refine Qaa (.int .i64 ((i - 2 : Nat) : Int)) 96 rfl kj (Qag (u := .int .i64 (IntKind.i64.wrap (((i : Nat) : Int) - 2))) kj (congrArg (Value.int .i64) (i64n _ _ (by omega) (by omega)))) ?_
    refine Qaa (.pointer (some ⟨gcw_66, ocw_66 + (i - 2), none⟩)) 97 rfl kj (run_indexA 115 _ _ .i64 (i - 2) gcw_66 ocw_66 ((((w64 b).map wv).take i).length) c9 113 a9 _ haw_66 rfl rfl kj kj kj kj (Nat.lt_of_lt_of_eq (show i - 2 < i by omega) hnw_66.symm)) ?_
    refine Qaa (.int .u32 (wv (wget (w64 b) (i - 2)))) 98 rfl kj (QaA 113 _ _ (.int .u32 (wv (wget (w64 b) (i - 2)))) ((hcw_66 (i - 2) (Nat.lt_of_lt_of_eq (show i - 2 < i by omega) hnw_66.symm)).trans (congrArg (fun z => some (Value.int .u32 z)) (QcV (w64 b) i (i - 2) (by omega)))) rfl kj kj) ?_
    refine sg 1 kj ?_
    refine sgN hK72 ?_
    refine QaQ 31 [⟨none, [(9, none)]⟩, ⟨none, [(14, none)]⟩, ⟨none, [(100, some 1)]⟩, ⟨none, [(14, none)]⟩, ⟨none, [(102, some 3)]⟩, ⟨none, [(101, some 2), (103, some 4)]⟩, ⟨none, [(14, none)]⟩, ⟨none, [(105, some 6)]⟩, ⟨none, [(104, some 5), (106, some 7)]⟩, ⟨none, [(9, none)]⟩, ⟨none, [(12, none)]⟩, ⟨none, [(109, some 10)]⟩, ⟨none, [(108, some 9), (110, some 11)]⟩, ⟨none, [(111, some 12)]⟩, ⟨none, [(107, some 8), (112, some 13)]⟩, ⟨none, [(13, none)]⟩, ⟨none, [(114, some 15)]⟩, ⟨none, [(13, none)]⟩, ⟨none, [(116, some 17)]⟩, ⟨none, [(115, some 16), (117, some 18)]⟩, ⟨none, [(13, none)]⟩, ⟨none, [(119, some 20)]⟩, ⟨none, [(118, some 19), (120, some 21)]⟩, ⟨none, [(113, some 14), (121, some 22)]⟩, ⟨none, [(9, none)]⟩, ⟨none, [(12, none)]⟩, ⟨none, [(124, some 25)]⟩, ⟨none, [(123, some 24), (125, some 26)]⟩, ⟨none, [(126, some 27)]⟩, ⟨none, [(122, some 23), (127, some 28)]⟩, ⟨none, [(128, some 29)]⟩] kj kj fun F hF => ?_
    refine Qa1 (Qan _) (.slice a9 ((((w64 b).map wv).take i).length) c9) kj kj (fun W => by kernel_rfl) ?_
    refine Qa1 (Qan _) (.int .u32 (wv (wget (w64 b) (i - 2)))) kj kj (fun W => by kernel_rfl) ?_
    refine QcN (Qan _) (.int .u32 (wv (rr (wget (w64 b) (i - 2)) 17))) 65 #[.int .u32 (wv (wget (w64 b) (i - 2))), .int .u64 17] kj kj (fun W => by kernel_rfl) (fun W hR => (Qem (wget (w64 b) (i - 2)) 17 (17) (by decide) (by decide) (by decide)) W) ?_
    refine Qa1 (Qan _) (.int .u32 (wv (wget (w64 b) (i - 2)))) kj kj (fun W => by kernel_rfl) ?_
    refine QcN (Qan _) (.int .u32 (wv (rr (wget (w64 b) (i - 2)) 19))) 65 #[.int .u32 (wv (wget (w64 b) (i - 2))), .int .u64 19] kj kj (fun W => by kernel_rfl) (fun W hR => (Qem (wget (w64 b) (i - 2)) 19 (19) (by decide) (by decide) (by decide)) W) ?_
    refine Qa1 (Qan _) (.int .u32 (wv (((rr (wget (w64 b) (i - 2)) 17)) ^^^ ((rr (wget (w64 b) (i - 2)) 19))))) kj kj (fun W => (Qag (u := .int .u32 (bits .xor .u32 (wv (rr (wget (w64 b) (i - 2)) 17)) (wv (rr (wget (w64 b) (i - 2)) 19)))) kj (congrArg (Value.int .u32) (w_xor _ _)))) ?_
    refine Qa1 (Qan _) (.int .u32 (wv (wget (w64 b) (i - 2)))) kj kj (fun W => by kernel_rfl) ?_
    refine Qa1 (Qan _) (.int .u32 (wv (((wget (w64 b) (i - 2))) >>> 10))) kj kj (fun W => (Qay .shr _ _ _ _ .u32 .u64 _ _ _ rfl kj kj (QaH _ _ _ _ _ _ (by decide) (QaP _ _ 10 rfl (by decide))))) ?_
    refine Qa1 (Qan _) (.int .u32 (wv (((((rr (wget (w64 b) (i - 2)) 17)) ^^^ ((rr (wget (w64 b) (i - 2)) 19)))) ^^^ ((((wget (w64 b) (i - 2))) >>> 10))))) kj kj (fun W => (Qag (u := .int .u32 (bits .xor .u32 (wv (((rr (wget (w64 b) (i - 2)) 17)) ^^^ ((rr (wget (w64 b) (i - 2)) 19)))) (wv (((wget (w64 b) (i - 2))) >>> 10)))) kj (congrArg (Value.int .u32) (w_xor _ _)))) ?_
    refine Qa1 (Qan _) (.slice a9 ((((w64 b).map wv).take i).length) c9) kj kj (fun W => by kernel_rfl) ?_
    refine Qa1 (Qan _) (.int .i64 ((i : Nat) : Int)) kj kj (fun W => by kernel_rfl) ?_
    refine Qa1 (Qan _) (.int .i64 ((i - 7 : Nat) : Int)) kj kj (fun W => (Qag (u := .int .i64 (IntKind.i64.wrap (((i : Nat) : Int) - 7))) kj (congrArg (Value.int .i64) (i64n _ _ (by omega) (by omega))))) ?_
    refine Qa1 (Qan _) (.pointer (some ⟨gcw_66, ocw_66 + (i - 7), none⟩)) kj kj (fun W => (run_indexA 115 _ _ .i64 (i - 7) gcw_66 ocw_66 ((((w64 b).map wv).take i).length) c9 113 a9 _ haw_66 rfl rfl kj kj kj kj (Nat.lt_of_lt_of_eq (show i - 7 < i by omega) hnw_66.symm))) ?_
    refine QaT (Qan _) (.int .u32 (wv (wget (w64 b) (i - 7)))) kj kj (fun W hR => (QaA 113 _ _ (.int .u32 (wv (wget (w64 b) (i - 7)))) (((Below.cell (Rely.Ext.trans (Qas _) hR) hlw_66).trans (hcw_66 (i - 7) (Nat.lt_of_lt_of_eq (show i - 7 < i by omega) hnw_66.symm))).trans (congrArg (fun z => some (Value.int .u32 z)) (QcV (w64 b) i (i - 7) (by omega)))) rfl kj kj)) ?_
    refine Qa1 (Qan _) (.int .u32 (wv (((((((rr (wget (w64 b) (i - 2)) 17)) ^^^ ((rr (wget (w64 b) (i - 2)) 19)))) ^^^ ((((wget (w64 b) (i - 2))) >>> 10)))) + ((wget (w64 b) (i - 7)))))) kj kj (fun W => (Qag (u := .int .u32 (IntKind.u32.wrap (wv (((((rr (wget (w64 b) (i - 2)) 17)) ^^^ ((rr (wget (w64 b) (i - 2)) 19)))) ^^^ ((((wget (w64 b) (i - 2))) >>> 10))) + wv (wget (w64 b) (i - 7))))) kj (congrArg (Value.int .u32) (Qbu _ _)))) ?_
    refine Qa1 (Qan _) (.int .u32 (wv (wget (w64 b) (i - 15)))) kj kj (fun W => by kernel_rfl) ?_
    refine QcN (Qan _) (.int .u32 (wv (rr (wget (w64 b) (i - 15)) 7))) 65 #[.int .u32 (wv (wget (w64 b) (i - 15))), .int .u64 7] kj kj (fun W => by kernel_rfl) (fun W hR => (Qem (wget (w64 b) (i - 15)) 7 (7) (by decide) (by decide) (by decide)) W) ?_
    refine Qa1 (Qan _) (.int .u32 (wv (wget (w64 b) (i - 15)))) kj kj (fun W => by kernel_rfl) ?_
    refine QcN (Qan _) (.int .u32 (wv (rr (wget (w64 b) (i - 15)) 18))) 65 #[.int .u32 (wv (wget (w64 b) (i - 15))), .int .u64 18] kj kj (fun W => by kernel_rfl) (fun W hR => (Qem (wget (w64 b) (i - 15)) 18 (18) (by decide) (by decide) (by decide)) W) ?_
    refine Qa1 (Qan _) (.int .u32 (wv (((rr (wget (w64 b) (i - 15)) 7)) ^^^ ((rr (wget (w64 b) (i - 15)) 18))))) kj kj (fun W => (Qag (u := .int .u32 (bits .xor .u32 (wv (rr (wget (w64 b) (i - 15)) 7)) (wv (rr (wget (w64 b) (i - 15)) 18)))) kj (congrArg (Value.int .u32) (w_xor _ _)))) ?_
    refine Qa1 (Qan _) (.int .u32 (wv (wget (w64 b) (i - 15)))) kj kj (fun W => by kernel_rfl) ?_
    refine Qa1 (Qan _) (.int .u32 (wv (((wget (w64 b) (i - 15))) >>> 3))) kj kj (fun W => (Qay .shr _ _ _ _ .u32 .u64 _ _ _ rfl kj kj (QaH _ _ _ _ _ _ (by decide) (QaP _ _ 3 rfl (by decide))))) ?_
    refine Qa1 (Qan _) (.int .u32 (wv (((((rr (wget (w64 b) (i - 15)) 7)) ^^^ ((rr (wget (w64 b) (i - 15)) 18)))) ^^^ ((((wget (w64 b) (i - 15))) >>> 3))))) kj kj (fun W => (Qag (u := .int .u32 (bits .xor .u32 (wv (((rr (wget (w64 b) (i - 15)) 7)) ^^^ ((rr (wget (w64 b) (i - 15)) 18)))) (wv (((wget (w64 b) (i - 15))) >>> 3)))) kj (congrArg (Value.int .u32) (w_xor _ _)))) ?_
    refine Qa1 (Qan _) (.int .u32 (wv (((((((((rr (wget (w64 b) (i - 2)) 17)) ^^^ ((rr (wget (w64 b) (i - 2)) 19)))) ^^^ ((((wget (w64 b) (i - 2))) >>> 10)))) + ((wget (w64 b) (i - 7))))) + ((((((rr (wget (w64 b) (i - 15)) 7)) ^^^ ((rr (wget (w64 b) (i - 15)) 18)))) ^^^ ((((wget (w64 b) (i - 15))) >>> 3))))))) kj kj (fun W => (Qag (u := .int .u32 (IntKind.u32.wrap (wv (((((((rr (wget (w64 b) (i - 2)) 17)) ^^^ ((rr (wget (w64 b) (i - 2)) 19)))) ^^^ ((((wget (w64 b) (i - 2))) >>> 10)))) + ((wget (w64 b) (i - 7)))) + wv (((((rr (wget (w64 b) (i - 15)) 7)) ^^^ ((rr (wget (w64 b) (i - 15)) 18)))) ^^^ ((((wget (w64 b) (i - 15))) >>> 3)))))) kj (congrArg (Value.int .u32) (Qbu _ _)))) ?_
    refine Qa1 (Qan _) (.slice a9 ((((w64 b).map wv).take i).length) c9) kj kj (fun W => by kernel_rfl) ?_
    refine Qa1 (Qan _) (.int .i64 ((i : Nat) : Int)) kj kj (fun W => by kernel_rfl) ?_
    refine Qa1 (Qan _) (.int .i64 ((i - 16 : Nat) : Int)) kj kj (fun W => (Qag (u := .int .i64 (IntKind.i64.wrap (((i : Nat) : Int) - 16))) kj (congrArg (Value.int .i64) (i64n _ _ (by omega) (by omega))))) ?_
    refine Qa1 (Qan _) (.pointer (some ⟨gcw_66, ocw_66 + (i - 16), none⟩)) kj kj (fun W => (run_indexA 115 _ _ .i64 (i - 16) gcw_66 ocw_66 ((((w64 b).map wv).take i).length) c9 113 a9 _ haw_66 rfl rfl kj kj kj kj (Nat.lt_of_lt_of_eq (show i - 16 < i by omega) hnw_66.symm))) ?_
    refine QaT (Qan _) (.int .u32 (wv (wget (w64 b) (i - 16)))) kj kj (fun W hR => (QaA 113 _ _ (.int .u32 (wv (wget (w64 b) (i - 16)))) (((Below.cell (Rely.Ext.trans (Qas _) hR) hlw_66).trans (hcw_66 (i - 16) (Nat.lt_of_lt_of_eq (show i - 16 < i by omega) hnw_66.symm))).trans (congrArg (fun z => some (Value.int .u32 z)) (QcV (w64 b) i (i - 16) (by omega)))) rfl kj kj)) ?_
    refine Qa1 (Qan _) (.int .u32 (wv (((((((((((rr (wget (w64 b) (i - 2)) 17)) ^^^ ((rr (wget (w64 b) (i - 2)) 19)))) ^^^ ((((wget (w64 b) (i - 2))) >>> 10)))) + ((wget (w64 b) (i - 7))))) + ((((((rr (wget (w64 b) (i - 15)) 7)) ^^^ ((rr (wget (w64 b) (i - 15)) 18)))) ^^^ ((((wget (w64 b) (i - 15))) >>> 3)))))) + ((wget (w64 b) (i - 16)))))) kj kj (fun W => (Qag (u := .int .u32 (IntKind.u32.wrap (wv (((((((((rr (wget (w64 b) (i - 2)) 17)) ^^^ ((rr (wget (w64 b) (i - 2)) 19)))) ^^^ ((((wget (w64 b) (i - 2))) >>> 10)))) + ((wget (w64 b) (i - 7))))) + ((((((rr (wget (w64 b) (i - 15)) 7)) ^^^ ((rr (wget (w64 b) (i - 15)) 18)))) ^^^ ((((wget (w64 b) (i - 15))) >>> 3))))) + wv (wget (w64 b) (i - 16))))) kj (congrArg (Value.int .u32) (Qbu _ _)))) ?_
    refine Qjq (Qan _) (ints .u32 ([(wv (((((((((((rr (wget (w64 b) (i - 2)) 17)) ^^^ ((rr (wget (w64 b) (i - 2)) 19)))) ^^^ ((((wget (w64 b) (i - 2))) >>> 10)))) + ((wget (w64 b) (i - 7))))) + ((((((rr (wget (w64 b) (i - 15)) 7)) ^^^ ((rr (wget (w64 b) (i - 15)) 18)))) ^^^ ((((wget (w64 b) (i - 15))) >>> 3)))))) + ((wget (w64 b) (i - 16)))))])) 113 1 (NewS.stable _ _ _ _) kj kj (fun W => by kernel_rfl) ?_
    refine Qcz (hF _ fun W17 e17 => ?_)
    simp only [List.nil_append, List.cons_append, List.take_succ_cons, List.take_zero, List.drop_succ_cons, List.drop_zero, finE, up]
    intro vv73 hv73
    clear hF
    have x17 := Ext.tr xx3 e17
    obtain ⟨g73, rfl, l73, r73_17⟩ := hv73
    have b73 := Nat.le_trans xx3.size l73
    have y14_16 := (Ext.low e15 l16 (Rely.Ext.refl V1).size)
    refine QaC (k := .u32) (T := 113) (xs := ((w64 b).map wv).take i) (ys := [(wv (((((((((((rr (wget (w64 b) (i - 2)) 17)) ^^^ ((rr (wget (w64 b) (i - 2)) 19)))) ^^^ ((((wget (w64 b) (i - 2))) >>> 10)))) + ((wget (w64 b) (i - 7))))) + ((((((rr (wget (w64 b) (i - 15)) 7)) ^^^ ((rr (wget (w64 b) (i - 15)) 18)))) ^^^ ((((wget (w64 b) (i - 15))) >>> 3)))))) + ((wget (w64 b) (i - 16)))))]) (V := V1) 4 (.tmp 99) (.tmp 129) 115 rfl kj kj (by decide) 130 rfl kj kj kj (hu.ext e17) (QaK (xs := [(wv (((((((((((rr (wget (w64 b) (i - 2)) 17)) ^^^ ((rr (wget (w64 b) (i - 2)) 19)))) ^^^ ((((wget (w64 b) (i - 2))) >>> 10)))) + ((wget (w64 b) (i - 7))))) + ((((((rr (wget (w64 b) (i - 15)) 7)) ^^^ ((rr (wget (w64 b) (i - 15)) 18)))) ^^^ ((((wget (w64 b) (i - 15))) >>> 3)))))) + ((wget (w64 b) (i - 16)))))]) (n := 1) rfl r73_17 (Qat r73_17) (show 1 ≤ maxLen from by decide)) (by rw [QdC _ (QbI b) (by omega)]; show _ + 1 ≤ _; omega) (Rely.Ext.trans y14_16 e17) fun z2 W18 f75 y18 l18 => ?_
    have x18 := Ext.low x17 l18 xx1.size
    refine sg 1 kj ?_
    refine Qaj ?_
    refine hK70 _ _ ?_
    refine Qad ?_
    refine sg 1 kj ?_
    refine Qaa (.int .i64 ((i + 1 : Nat) : Int)) 88 rfl kj (Qag (u := .int .i64 (IntKind.i64.wrap (((i : Nat) : Int) + 1))) kj (congrArg (Value.int .i64) (i64n _ _ (by omega) (by omega)))) ?_
    refine sg 1 kj ?_
    refine Qaj ?_
    repeat (first | with_reducible refine goX1 ?_ | with_reducible refine goX2 ?_ | with_reducible refine goX3 ?_)
    exact Qa4 ((i + 1), z2) ⟨kj, kj, kj, kj, kj, kj, kj, trivial⟩ ⟨(by omega), (by omega), (by rw [Qje _ (QbI b) (by omega), QfU b i h16 hlt86]; exact f75), (RowKit.Below.trans (RowKit.Below.trans l16 (RowKit.Below.mono e17 y14_16.size)) l18), x18⟩ (by show 64 - (i + 1) < 64 - i; omega)
   ·skip
    have heq86 : i = 64 := by have := of_decide_eq_false c69; omega
    subst heq86
    have nb9_4 : (.slice a9 ((((w64 b).map wv).take 64).length) c9 : Value).ownBlock ≠ some g7 := OwnN.nb hu (Qat r7_14_47)
    refine wp_exit ?_
    refine hK64 _ _ ?_
    refine sgC fun K77 hK77 => ?_
    have f79_14 := (OwnN.keepsL (hv37.ext e13) q14 (nb_cons nb38_7 nb_nil))
    have f81_16 := (OwnN.low (n := 0) (f79_14.ext e15) f79_14 l16)
    have r7_15 := (Qab r7_14_47 e15)
    have r7_16 := (Qbb l16 r7_15 (Qat r7_14_47))
    refine Qaa (.agg (ints .u32 ([wv s.a, wv s.b, wv s.c, wv s.d, wv s.e, wv s.f, wv s.g, wv s.h]))) 131 rfl kj (Qaw 114 _ g7 114 _ _ r7_16 rfl kj kj (isz (n := 8) kj kj)) ?_
    refine Qar (ints .u32 ([0, 0, 0, 0, 0, 0, 0, 0])) 114 15 rfl kj kj fun g83 W17 l83 e17 r83_17 => ?_
    have x17 := Ext.tr xx3 e17
    have b83 := Nat.le_trans xx3.size l83
    refine Qai g83 _ (ints .u32 ([wv s.a, wv s.b, wv s.c, wv s.d, wv s.e, wv s.f, wv s.g, wv s.h])) 114 r83_17 rfl kj (Qaq 114 _ _ g83 114 _ _ r83_17 rfl kj kj (isz (n := 8) kj kj) (eqsz (n := 8) kj kj) (Qa2 _ _)) fun W18 p18 r83_18 => ?_
    have x18 := Puts.ext p18 x17 b83
    refine sgN hK77 ?_
    refine wp_seq_k fun K84 hK84 => ?_
    refine sgB kj ?_
    refine wp_block ?_
    have nb6_15 : (.slice am38 ((KK.map wv).length) cm38 : Value).ownBlock ≠ some g83 := fun e => by have h1 := OwnN.lt f81_16 e; have h2 := l83; omega
    have nb7_15 : (.slice am41 ((padT t).length) cm41 : Value).ownBlock ≠ some g83 := fun e => by have h1 := OwnN.lt (OwnN.low (n := 0) f54_15 f53_14 l16) e; have h2 := l83; omega
    have nb9_15 : (.slice a9 ((((w64 b).map wv).take 64).length) c9 : Value).ownBlock ≠ some g83 := fun e => by have h1 := OwnN.lt hu e; have h2 := l83; omega
    refine Qa9 (fun (s4 : Nat) => [(2, .pointer (some ⟨g2, 0, none⟩)), (4, .pointer (some ⟨g7, 0, none⟩)), (6, .slice am38 ((KK.map wv).length) cm38), (7, .slice am41 ((padT t).length) cm41), (8, .int .i64 ((64 * m : Nat) : Int)), (9, .slice a9 ((((w64 b).map wv).take 64).length) c9), (15, .pointer (some ⟨g83, 0, none⟩)), (16, .int .i64 ((s4 : Nat) : Int))]) (fun (s4 : Nat) W => (s4 ≤ 64) ∧ (W.heap[g83]? = some (.cells (ints .u32 ([wv (rnds KK (w64 b) s s4).a, wv (rnds KK (w64 b) s s4).b, wv (rnds KK (w64 b) s s4).c, wv (rnds KK (w64 b) s s4).d, wv (rnds KK (w64 b) s s4).e, wv (rnds KK (w64 b) s s4).f, wv (rnds KK (w64 b) s s4).g, wv (rnds KK (w64 b) s s4).h])) 114)) ∧ (Qal [g83] W18 W) ∧ (Ext w W)) (fun (s4 : Nat) => 64 - s4) 0 ⟨kj, kj, kj, kj, kj, kj, kj, kj, trivial⟩ ⟨(Nat.zero_le _), r83_18, (Qal.refl [g83] W18), x18⟩ fun s4 X4 V4 hI4 => ?_
    obtain ⟨i, hs4⟩ : ∃ z, z = s4 := ⟨_, rfl⟩
    subst hs4
    obtain ⟨hi, q83_4, kk4, xx4⟩ := hI4
    replace hi : i ≤ 64 := hi
    replace q83_4 : V4.heap[g83]? = some (.cells (ints .u32 ([wv (rnds KK (w64 b) s i).a, wv (rnds KK (w64 b) s i).b, wv (rnds KK (w64 b) s i).c, wv (rnds KK (w64 b) s i).d, wv (rnds KK (w64 b) s i).e, wv (rnds KK (w64 b) s i).f, wv (rnds KK (w64 b) s i).g, wv (rnds KK (w64 b) s i).h])) 114) := q83_4
    replace kk4 : Qal [g83] W18 V4 := kk4
    replace xx4 : Ext w V4 := xx4
    have q19 := kk4
    have hnk_86 : (KK.map wv).length = 64 := (List.length_map ..)
    obtain ⟨gck_86, ock_86, hak_86, hlk_86, hck_86⟩ := rdK_open (OwnN.rd (OwnN.keepsL ((f81_16.ext e17).puts p18 nb6_15) q19 (nb_cons nb6_15 nb_nil))) (by rw [hnk_86]; omega)
    have hnw_90 : (((w64 b).map wv).take 64).length = 64 := (QdC _ (QbI b) (Nat.le_refl _))
    obtain ⟨gcw_90, ocw_90, haw_90, hlw_90, hcw_90⟩ := rdK_open (OwnN.rd (OwnN.keepsL ((hu.ext e17).puts p18 nb9_15) q19 (nb_cons nb9_15 nb_nil))) (by rw [hnw_90]; omega)
    refine wp_seq_k fun K94 hK94 => ?_
    refine sgB kj ?_
    refine Qa5 (t := decide (((i : Nat) : Int) < 64)) kj (fun c96 => ?_) (fun c96 => ?_)
    ·skip
     have hlt133 : i < 64 := by have := of_decide_eq_true c96; omega
     refine wp_skip ?_
     refine hK94 _ _ ?_
     refine wp_seq_k fun K97 hK97 => ?_
     refine wp_block ?_
     refine wp_seq_k fun K98 hK98 => ?_
     refine QaQ 36 [⟨none, [(15, none)]⟩, ⟨none, [(136, some 0)]⟩, ⟨none, [(15, none)]⟩, ⟨none, [(138, some 2)]⟩, ⟨none, [(139, some 3)]⟩, ⟨none, [(15, none)]⟩, ⟨none, [(141, some 5)]⟩, ⟨none, [(142, some 6)]⟩, ⟨none, [(140, some 4), (143, some 7)]⟩, ⟨none, [(15, none)]⟩, ⟨none, [(145, some 9)]⟩, ⟨none, [(146, some 10)]⟩, ⟨none, [(144, some 8), (147, some 11)]⟩, ⟨none, [(137, some 1), (148, some 12)]⟩, ⟨none, [(15, none)]⟩, ⟨none, [(150, some 14)]⟩, ⟨none, [(15, none)]⟩, ⟨none, [(152, some 16)]⟩, ⟨none, [(151, some 15), (153, some 17)]⟩, ⟨none, [(15, none)]⟩, ⟨none, [(155, some 19)]⟩, ⟨none, [(156, some 20)]⟩, ⟨none, [(15, none)]⟩, ⟨none, [(158, some 22)]⟩, ⟨none, [(157, some 21), (159, some 23)]⟩, ⟨none, [(154, some 18), (160, some 24)]⟩, ⟨none, [(149, some 13), (161, some 25)]⟩, ⟨none, [(6, none)]⟩, ⟨none, [(16, none)]⟩, ⟨none, [(163, some 27), (164, some 28)]⟩, ⟨none, [(165, some 29)]⟩, ⟨none, [(162, some 26), (166, some 30)]⟩, ⟨none, [(9, none)]⟩, ⟨none, [(16, none)]⟩, ⟨none, [(168, some 32), (169, some 33)]⟩, ⟨none, [(170, some 34)]⟩] kj kj fun F hF => ?_
     refine Qa1 (Qan _) (.pointer (some ⟨g83, 7, none⟩)) kj kj (fun W => by kernel_rfl) ?_
     refine QaT (Qan _) (.int .u32 (wv (rnds KK (w64 b) s i).h)) kj kj (fun W hR => (Qah 113 _ g83 7 114 _ (.int .u32 (wv (rnds KK (w64 b) s i).h)) _ (Qab (Qab q83_4 (Qas _)) hR) rfl kj kj kj)) ?_
     refine Qa1 (Qan _) (.pointer (some ⟨g83, 4, none⟩)) kj kj (fun W => by kernel_rfl) ?_
     refine QaT (Qan _) (.int .u32 (wv (rnds KK (w64 b) s i).e)) kj kj (fun W hR => (Qah 113 _ g83 4 114 _ (.int .u32 (wv (rnds KK (w64 b) s i).e)) _ (Qab (Qab q83_4 (Qas _)) hR) rfl kj kj kj)) ?_
     refine QcN (Qan _) (.int .u32 (wv (rr ((rnds KK (w64 b) s i).e) 6))) 65 #[.int .u32 (wv (rnds KK (w64 b) s i).e), .int .u64 6] kj kj (fun W => by kernel_rfl) (fun W hR => (Qem ((rnds KK (w64 b) s i).e) 6 (6) (by decide) (by decide) (by decide)) W) ?_
     refine Qa1 (Qan _) (.pointer (some ⟨g83, 4, none⟩)) kj kj (fun W => by kernel_rfl) ?_
     refine QaT (Qan _) (.int .u32 (wv (rnds KK (w64 b) s i).e)) kj kj (fun W hR => (Qah 113 _ g83 4 114 _ (.int .u32 (wv (rnds KK (w64 b) s i).e)) _ (Qab (Qab q83_4 (Qas _)) hR) rfl kj kj kj)) ?_
     refine QcN (Qan _) (.int .u32 (wv (rr ((rnds KK (w64 b) s i).e) 11))) 65 #[.int .u32 (wv (rnds KK (w64 b) s i).e), .int .u64 11] kj kj (fun W => by kernel_rfl) (fun W hR => (Qem ((rnds KK (w64 b) s i).e) 11 (11) (by decide) (by decide) (by decide)) W) ?_
     refine Qa1 (Qan _) (.int .u32 (wv (((rr ((rnds KK (w64 b) s i).e) 6)) ^^^ ((rr ((rnds KK (w64 b) s i).e) 11))))) kj kj (fun W => (Qag (u := .int .u32 (bits .xor .u32 (wv (rr ((rnds KK (w64 b) s i).e) 6)) (wv (rr ((rnds KK (w64 b) s i).e) 11)))) kj (congrArg (Value.int .u32) (w_xor _ _)))) ?_
     refine Qa1 (Qan _) (.pointer (some ⟨g83, 4, none⟩)) kj kj (fun W => by kernel_rfl) ?_
     refine QaT (Qan _) (.int .u32 (wv (rnds KK (w64 b) s i).e)) kj kj (fun W hR => (Qah 113 _ g83 4 114 _ (.int .u32 (wv (rnds KK (w64 b) s i).e)) _ (Qab (Qab q83_4 (Qas _)) hR) rfl kj kj kj)) ?_
     refine QcN (Qan _) (.int .u32 (wv (rr ((rnds KK (w64 b) s i).e) 25))) 65 #[.int .u32 (wv (rnds KK (w64 b) s i).e), .int .u64 25] kj kj (fun W => by kernel_rfl) (fun W hR => (Qem ((rnds KK (w64 b) s i).e) 25 (25) (by decide) (by decide) (by decide)) W) ?_
     refine Qa1 (Qan _) (.int .u32 (wv (((((rr ((rnds KK (w64 b) s i).e) 6)) ^^^ ((rr ((rnds KK (w64 b) s i).e) 11)))) ^^^ ((rr ((rnds KK (w64 b) s i).e) 25))))) kj kj (fun W => (Qag (u := .int .u32 (bits .xor .u32 (wv (((rr ((rnds KK (w64 b) s i).e) 6)) ^^^ ((rr ((rnds KK (w64 b) s i).e) 11)))) (wv (rr ((rnds KK (w64 b) s i).e) 25)))) kj (congrArg (Value.int .u32) (w_xor _ _)))) ?_
     refine Qa1 (Qan _) (.int .u32 (wv (((rnds KK (w64 b) s i).h) + ((((((rr ((rnds KK (w64 b) s i).e) 6)) ^^^ ((rr ((rnds KK (w64 b) s i).e) 11)))) ^^^ ((rr ((rnds KK (w64 b) s i).e) 25))))))) kj kj (fun W => (Qag (u := .int .u32 (IntKind.u32.wrap (wv ((rnds KK (w64 b) s i).h) + wv (((((rr ((rnds KK (w64 b) s i).e) 6)) ^^^ ((rr ((rnds KK (w64 b) s i).e) 11)))) ^^^ ((rr ((rnds KK (w64 b) s i).e) 25)))))) kj (congrArg (Value.int .u32) (Qbu _ _)))) ?_
     refine Qa1 (Qan _) (.pointer (some ⟨g83, 4, none⟩)) kj kj (fun W => by kernel_rfl) ?_
     refine QaT (Qan _) (.int .u32 (wv (rnds KK (w64 b) s i).e)) kj kj (fun W hR => (Qah 113 _ g83 4 114 _ (.int .u32 (wv (rnds KK (w64 b) s i).e)) _ (Qab (Qab q83_4 (Qas _)) hR) rfl kj kj kj)) ?_
     refine Qa1 (Qan _) (.pointer (some ⟨g83, 5, none⟩)) kj kj (fun W => by kernel_rfl) ?_
     refine QaT (Qan _) (.int .u32 (wv (rnds KK (w64 b) s i).f)) kj kj (fun W hR => (Qah 113 _ g83 5 114 _ (.int .u32 (wv (rnds KK (w64 b) s i).f)) _ (Qab (Qab q83_4 (Qas _)) hR) rfl kj kj kj)) ?_
     refine Qa1 (Qan _) (.int .u32 (wv (((rnds KK (w64 b) s i).e) &&& ((rnds KK (w64 b) s i).f)))) kj kj (fun W => (Qag (u := .int .u32 (bits .and .u32 (wv ((rnds KK (w64 b) s i).e)) (wv ((rnds KK (w64 b) s i).f)))) kj (congrArg (Value.int .u32) (Qel _ _)))) ?_
     refine Qa1 (Qan _) (.pointer (some ⟨g83, 4, none⟩)) kj kj (fun W => by kernel_rfl) ?_
     refine QaT (Qan _) (.int .u32 (wv (rnds KK (w64 b) s i).e)) kj kj (fun W hR => (Qah 113 _ g83 4 114 _ (.int .u32 (wv (rnds KK (w64 b) s i).e)) _ (Qab (Qab q83_4 (Qas _)) hR) rfl kj kj kj)) ?_
     refine Qa1 (Qan _) (.int .u32 (wv (~~~((rnds KK (w64 b) s i).e)))) kj kj (fun W => (Qag (u := .int .u32 (IntKind.u32.wrap (4294967295 - wv ((rnds KK (w64 b) s i).e)))) kj (congrArg (Value.int .u32) (QkN _)))) ?_
     refine Qa1 (Qan _) (.pointer (some ⟨g83, 6, none⟩)) kj kj (fun W => by kernel_rfl) ?_
     refine QaT (Qan _) (.int .u32 (wv (rnds KK (w64 b) s i).g)) kj kj (fun W hR => (Qah 113 _ g83 6 114 _ (.int .u32 (wv (rnds KK (w64 b) s i).g)) _ (Qab (Qab q83_4 (Qas _)) hR) rfl kj kj kj)) ?_
     refine Qa1 (Qan _) (.int .u32 (wv (((~~~((rnds KK (w64 b) s i).e))) &&& ((rnds KK (w64 b) s i).g)))) kj kj (fun W => (Qag (u := .int .u32 (bits .and .u32 (wv (~~~((rnds KK (w64 b) s i).e))) (wv ((rnds KK (w64 b) s i).g)))) kj (congrArg (Value.int .u32) (Qel _ _)))) ?_
     refine Qa1 (Qan _) (.int .u32 (wv (((((rnds KK (w64 b) s i).e) &&& ((rnds KK (w64 b) s i).f))) ^^^ ((((~~~((rnds KK (w64 b) s i).e))) &&& ((rnds KK (w64 b) s i).g)))))) kj kj (fun W => (Qag (u := .int .u32 (bits .xor .u32 (wv (((rnds KK (w64 b) s i).e) &&& ((rnds KK (w64 b) s i).f))) (wv (((~~~((rnds KK (w64 b) s i).e))) &&& ((rnds KK (w64 b) s i).g))))) kj (congrArg (Value.int .u32) (w_xor _ _)))) ?_
     refine Qa1 (Qan _) (.int .u32 (wv (((((rnds KK (w64 b) s i).h) + ((((((rr ((rnds KK (w64 b) s i).e) 6)) ^^^ ((rr ((rnds KK (w64 b) s i).e) 11)))) ^^^ ((rr ((rnds KK (w64 b) s i).e) 25)))))) + ((((((rnds KK (w64 b) s i).e) &&& ((rnds KK (w64 b) s i).f))) ^^^ ((((~~~((rnds KK (w64 b) s i).e))) &&& ((rnds KK (w64 b) s i).g)))))))) kj kj (fun W => (Qag (u := .int .u32 (IntKind.u32.wrap (wv (((rnds KK (w64 b) s i).h) + ((((((rr ((rnds KK (w64 b) s i).e) 6)) ^^^ ((rr ((rnds KK (w64 b) s i).e) 11)))) ^^^ ((rr ((rnds KK (w64 b) s i).e) 25))))) + wv (((((rnds KK (w64 b) s i).e) &&& ((rnds KK (w64 b) s i).f))) ^^^ ((((~~~((rnds KK (w64 b) s i).e))) &&& ((rnds KK (w64 b) s i).g))))))) kj (congrArg (Value.int .u32) (Qbu _ _)))) ?_
     refine Qa1 (Qan _) (.slice am38 ((KK.map wv).length) cm38) kj kj (fun W => by kernel_rfl) ?_
     refine Qa1 (Qan _) (.int .i64 ((i : Nat) : Int)) kj kj (fun W => by kernel_rfl) ?_
     refine Qa1 (Qan _) (.pointer (some ⟨gck_86, ock_86 + i, none⟩)) kj kj (fun W => (run_indexA 115 _ _ .i64 i gck_86 ock_86 ((KK.map wv).length) cm38 113 am38 _ hak_86 rfl rfl kj kj kj kj (Nat.lt_of_lt_of_eq (show i < 64 by omega) hnk_86.symm))) ?_
     refine QaT (Qan _) (.int .u32 (wv (wget KK i))) kj kj (fun W hR => (QaA 113 _ _ (.int .u32 (wv (wget KK i))) (((Below.cell (Rely.Ext.trans (Qas _) hR) hlk_86).trans (hck_86 i (Nat.lt_of_lt_of_eq (show i < 64 by omega) hnk_86.symm))).trans (congrArg (fun z => some (Value.int .u32 z)) (Qcr _ _))) rfl kj kj)) ?_
     refine Qa1 (Qan _) (.int .u32 (wv (((((((rnds KK (w64 b) s i).h) + ((((((rr ((rnds KK (w64 b) s i).e) 6)) ^^^ ((rr ((rnds KK (w64 b) s i).e) 11)))) ^^^ ((rr ((rnds KK (w64 b) s i).e) 25)))))) + ((((((rnds KK (w64 b) s i).e) &&& ((rnds KK (w64 b) s i).f))) ^^^ ((((~~~((rnds KK (w64 b) s i).e))) &&& ((rnds KK (w64 b) s i).g))))))) + ((wget KK i))))) kj kj (fun W => (Qag (u := .int .u32 (IntKind.u32.wrap (wv (((((rnds KK (w64 b) s i).h) + ((((((rr ((rnds KK (w64 b) s i).e) 6)) ^^^ ((rr ((rnds KK (w64 b) s i).e) 11)))) ^^^ ((rr ((rnds KK (w64 b) s i).e) 25)))))) + ((((((rnds KK (w64 b) s i).e) &&& ((rnds KK (w64 b) s i).f))) ^^^ ((((~~~((rnds KK (w64 b) s i).e))) &&& ((rnds KK (w64 b) s i).g)))))) + wv (wget KK i)))) kj (congrArg (Value.int .u32) (Qbu _ _)))) ?_
     refine Qa1 (Qan _) (.slice a9 ((((w64 b).map wv).take 64).length) c9) kj kj (fun W => by kernel_rfl) ?_
     refine Qa1 (Qan _) (.int .i64 ((i : Nat) : Int)) kj kj (fun W => by kernel_rfl) ?_
     refine Qa1 (Qan _) (.pointer (some ⟨gcw_90, ocw_90 + i, none⟩)) kj kj (fun W => (run_indexA 115 _ _ .i64 i gcw_90 ocw_90 ((((w64 b).map wv).take 64).length) c9 113 a9 _ haw_90 rfl rfl kj kj kj kj (Nat.lt_of_lt_of_eq (show i < 64 by omega) hnw_90.symm))) ?_
     refine QaT (Qan _) (.int .u32 (wv (wget (w64 b) i))) kj kj (fun W hR => (QaA 113 _ _ (.int .u32 (wv (wget (w64 b) i))) (((Below.cell (Rely.Ext.trans (Qas _) hR) hlw_90).trans (hcw_90 i (Nat.lt_of_lt_of_eq (show i < 64 by omega) hnw_90.symm))).trans (congrArg (fun z => some (Value.int .u32 z)) (QcV (w64 b) 64 i hlt133))) rfl kj kj)) ?_
     refine Qcz (hF _ fun W20 e20 => ?_)
     simp only [List.nil_append, List.cons_append, List.take_succ_cons, List.take_zero, List.drop_succ_cons, List.drop_zero, finE, up]
     clear hF
     have x20 := Ext.tr xx4 e20
     refine Qaa (.int .u32 (wv (((((((((rnds KK (w64 b) s i).h) + ((((((rr ((rnds KK (w64 b) s i).e) 6)) ^^^ ((rr ((rnds KK (w64 b) s i).e) 11)))) ^^^ ((rr ((rnds KK (w64 b) s i).e) 25)))))) + ((((((rnds KK (w64 b) s i).e) &&& ((rnds KK (w64 b) s i).f))) ^^^ ((((~~~((rnds KK (w64 b) s i).e))) &&& ((rnds KK (w64 b) s i).g))))))) + ((wget KK i)))) + ((wget (w64 b) i))))) 172 rfl kj (Qag (u := .int .u32 (IntKind.u32.wrap (wv (((((((rnds KK (w64 b) s i).h) + ((((((rr ((rnds KK (w64 b) s i).e) 6)) ^^^ ((rr ((rnds KK (w64 b) s i).e) 11)))) ^^^ ((rr ((rnds KK (w64 b) s i).e) 25)))))) + ((((((rnds KK (w64 b) s i).e) &&& ((rnds KK (w64 b) s i).f))) ^^^ ((((~~~((rnds KK (w64 b) s i).e))) &&& ((rnds KK (w64 b) s i).g))))))) + ((wget KK i))) + wv (wget (w64 b) i)))) kj (congrArg (Value.int .u32) (Qbu _ _))) ?_
     refine sg 1 kj ?_
     refine sgN hK98 ?_
     refine wp_seq_k fun K99 hK99 => ?_
     refine QaQ 28 [⟨none, [(15, none)]⟩, ⟨none, [(173, some 0)]⟩, ⟨none, [(174, some 1)]⟩, ⟨none, [(15, none)]⟩, ⟨none, [(176, some 3)]⟩, ⟨none, [(177, some 4)]⟩, ⟨none, [(175, some 2), (178, some 5)]⟩, ⟨none, [(15, none)]⟩, ⟨none, [(180, some 7)]⟩, ⟨none, [(181, some 8)]⟩, ⟨none, [(179, some 6), (182, some 9)]⟩, ⟨none, [(15, none)]⟩, ⟨none, [(184, some 11)]⟩, ⟨none, [(15, none)]⟩, ⟨none, [(186, some 13)]⟩, ⟨none, [(185, some 12), (187, some 14)]⟩, ⟨none, [(15, none)]⟩, ⟨none, [(189, some 16)]⟩, ⟨none, [(15, none)]⟩, ⟨none, [(191, some 18)]⟩, ⟨none, [(190, some 17), (192, some 19)]⟩, ⟨none, [(188, some 15), (193, some 20)]⟩, ⟨none, [(15, none)]⟩, ⟨none, [(195, some 22)]⟩, ⟨none, [(15, none)]⟩, ⟨none, [(197, some 24)]⟩, ⟨none, [(196, some 23), (198, some 25)]⟩, ⟨none, [(194, some 21), (199, some 26)]⟩] kj kj fun F hF => ?_
     refine Qa1 (Qan _) (.pointer (some ⟨g83, 0, none⟩)) kj kj (fun W => by kernel_rfl) ?_
     have r83_20 := (Qab q83_4 e20)
     refine QaT (Qan _) (.int .u32 (wv (rnds KK (w64 b) s i).a)) kj kj (fun W hR => (Qah 113 _ g83 0 114 _ (.int .u32 (wv (rnds KK (w64 b) s i).a)) _ (Qab (Qab r83_20 (Qas _)) hR) rfl kj kj kj)) ?_
     refine QcN (Qan _) (.int .u32 (wv (rr ((rnds KK (w64 b) s i).a) 2))) 65 #[.int .u32 (wv (rnds KK (w64 b) s i).a), .int .u64 2] kj kj (fun W => by kernel_rfl) (fun W hR => (Qem ((rnds KK (w64 b) s i).a) 2 (2) (by decide) (by decide) (by decide)) W) ?_
     refine Qa1 (Qan _) (.pointer (some ⟨g83, 0, none⟩)) kj kj (fun W => by kernel_rfl) ?_
     refine QaT (Qan _) (.int .u32 (wv (rnds KK (w64 b) s i).a)) kj kj (fun W hR => (Qah 113 _ g83 0 114 _ (.int .u32 (wv (rnds KK (w64 b) s i).a)) _ (Qab (Qab r83_20 (Qas _)) hR) rfl kj kj kj)) ?_
     refine QcN (Qan _) (.int .u32 (wv (rr ((rnds KK (w64 b) s i).a) 13))) 65 #[.int .u32 (wv (rnds KK (w64 b) s i).a), .int .u64 13] kj kj (fun W => by kernel_rfl) (fun W hR => (Qem ((rnds KK (w64 b) s i).a) 13 (13) (by decide) (by decide) (by decide)) W) ?_
     refine Qa1 (Qan _) (.int .u32 (wv (((rr ((rnds KK (w64 b) s i).a) 2)) ^^^ ((rr ((rnds KK (w64 b) s i).a) 13))))) kj kj (fun W => (Qag (u := .int .u32 (bits .xor .u32 (wv (rr ((rnds KK (w64 b) s i).a) 2)) (wv (rr ((rnds KK (w64 b) s i).a) 13)))) kj (congrArg (Value.int .u32) (w_xor _ _)))) ?_
     refine Qa1 (Qan _) (.pointer (some ⟨g83, 0, none⟩)) kj kj (fun W => by kernel_rfl) ?_
     refine QaT (Qan _) (.int .u32 (wv (rnds KK (w64 b) s i).a)) kj kj (fun W hR => (Qah 113 _ g83 0 114 _ (.int .u32 (wv (rnds KK (w64 b) s i).a)) _ (Qab (Qab r83_20 (Qas _)) hR) rfl kj kj kj)) ?_
     refine QcN (Qan _) (.int .u32 (wv (rr ((rnds KK (w64 b) s i).a) 22))) 65 #[.int .u32 (wv (rnds KK (w64 b) s i).a), .int .u64 22] kj kj (fun W => by kernel_rfl) (fun W hR => (Qem ((rnds KK (w64 b) s i).a) 22 (22) (by decide) (by decide) (by decide)) W) ?_
     refine Qa1 (Qan _) (.int .u32 (wv (((((rr ((rnds KK (w64 b) s i).a) 2)) ^^^ ((rr ((rnds KK (w64 b) s i).a) 13)))) ^^^ ((rr ((rnds KK (w64 b) s i).a) 22))))) kj kj (fun W => (Qag (u := .int .u32 (bits .xor .u32 (wv (((rr ((rnds KK (w64 b) s i).a) 2)) ^^^ ((rr ((rnds KK (w64 b) s i).a) 13)))) (wv (rr ((rnds KK (w64 b) s i).a) 22)))) kj (congrArg (Value.int .u32) (w_xor _ _)))) ?_
     refine Qa1 (Qan _) (.pointer (some ⟨g83, 0, none⟩)) kj kj (fun W => by kernel_rfl) ?_
     refine QaT (Qan _) (.int .u32 (wv (rnds KK (w64 b) s i).a)) kj kj (fun W hR => (Qah 113 _ g83 0 114 _ (.int .u32 (wv (rnds KK (w64 b) s i).a)) _ (Qab (Qab r83_20 (Qas _)) hR) rfl kj kj kj)) ?_
     refine Qa1 (Qan _) (.pointer (some ⟨g83, 1, none⟩)) kj kj (fun W => by kernel_rfl) ?_
     refine QaT (Qan _) (.int .u32 (wv (rnds KK (w64 b) s i).b)) kj kj (fun W hR => (Qah 113 _ g83 1 114 _ (.int .u32 (wv (rnds KK (w64 b) s i).b)) _ (Qab (Qab r83_20 (Qas _)) hR) rfl kj kj kj)) ?_
     refine Qa1 (Qan _) (.int .u32 (wv (((rnds KK (w64 b) s i).a) &&& ((rnds KK (w64 b) s i).b)))) kj kj (fun W => (Qag (u := .int .u32 (bits .and .u32 (wv ((rnds KK (w64 b) s i).a)) (wv ((rnds KK (w64 b) s i).b)))) kj (congrArg (Value.int .u32) (Qel _ _)))) ?_
     refine Qa1 (Qan _) (.pointer (some ⟨g83, 0, none⟩)) kj kj (fun W => by kernel_rfl) ?_
     refine QaT (Qan _) (.int .u32 (wv (rnds KK (w64 b) s i).a)) kj kj (fun W hR => (Qah 113 _ g83 0 114 _ (.int .u32 (wv (rnds KK (w64 b) s i).a)) _ (Qab (Qab r83_20 (Qas _)) hR) rfl kj kj kj)) ?_
     refine Qa1 (Qan _) (.pointer (some ⟨g83, 2, none⟩)) kj kj (fun W => by kernel_rfl) ?_
     refine QaT (Qan _) (.int .u32 (wv (rnds KK (w64 b) s i).c)) kj kj (fun W hR => (Qah 113 _ g83 2 114 _ (.int .u32 (wv (rnds KK (w64 b) s i).c)) _ (Qab (Qab r83_20 (Qas _)) hR) rfl kj kj kj)) ?_
     refine Qa1 (Qan _) (.int .u32 (wv (((rnds KK (w64 b) s i).a) &&& ((rnds KK (w64 b) s i).c)))) kj kj (fun W => (Qag (u := .int .u32 (bits .and .u32 (wv ((rnds KK (w64 b) s i).a)) (wv ((rnds KK (w64 b) s i).c)))) kj (congrArg (Value.int .u32) (Qel _ _)))) ?_
     refine Qa1 (Qan _) (.int .u32 (wv (((((rnds KK (w64 b) s i).a) &&& ((rnds KK (w64 b) s i).b))) ^^^ ((((rnds KK (w64 b) s i).a) &&& ((rnds KK (w64 b) s i).c)))))) kj kj (fun W => (Qag (u := .int .u32 (bits .xor .u32 (wv (((rnds KK (w64 b) s i).a) &&& ((rnds KK (w64 b) s i).b))) (wv (((rnds KK (w64 b) s i).a) &&& ((rnds KK (w64 b) s i).c))))) kj (congrArg (Value.int .u32) (w_xor _ _)))) ?_
     refine Qa1 (Qan _) (.pointer (some ⟨g83, 1, none⟩)) kj kj (fun W => by kernel_rfl) ?_
     refine QaT (Qan _) (.int .u32 (wv (rnds KK (w64 b) s i).b)) kj kj (fun W hR => (Qah 113 _ g83 1 114 _ (.int .u32 (wv (rnds KK (w64 b) s i).b)) _ (Qab (Qab r83_20 (Qas _)) hR) rfl kj kj kj)) ?_
     refine Qa1 (Qan _) (.pointer (some ⟨g83, 2, none⟩)) kj kj (fun W => by kernel_rfl) ?_
     refine QaT (Qan _) (.int .u32 (wv (rnds KK (w64 b) s i).c)) kj kj (fun W hR => (Qah 113 _ g83 2 114 _ (.int .u32 (wv (rnds KK (w64 b) s i).c)) _ (Qab (Qab r83_20 (Qas _)) hR) rfl kj kj kj)) ?_
     refine Qa1 (Qan _) (.int .u32 (wv (((rnds KK (w64 b) s i).b) &&& ((rnds KK (w64 b) s i).c)))) kj kj (fun W => (Qag (u := .int .u32 (bits .and .u32 (wv ((rnds KK (w64 b) s i).b)) (wv ((rnds KK (w64 b) s i).c)))) kj (congrArg (Value.int .u32) (Qel _ _)))) ?_
     refine Qa1 (Qan _) (.int .u32 (wv (((((((rnds KK (w64 b) s i).a) &&& ((rnds KK (w64 b) s i).b))) ^^^ ((((rnds KK (w64 b) s i).a) &&& ((rnds KK (w64 b) s i).c))))) ^^^ ((((rnds KK (w64 b) s i).b) &&& ((rnds KK (w64 b) s i).c)))))) kj kj (fun W => (Qag (u := .int .u32 (bits .xor .u32 (wv (((((rnds KK (w64 b) s i).a) &&& ((rnds KK (w64 b) s i).b))) ^^^ ((((rnds KK (w64 b) s i).a) &&& ((rnds KK (w64 b) s i).c))))) (wv (((rnds KK (w64 b) s i).b) &&& ((rnds KK (w64 b) s i).c))))) kj (congrArg (Value.int .u32) (w_xor _ _)))) ?_
     refine Qcz (hF _ fun W21 e21 => ?_)
     simp only [List.nil_append, List.cons_append, List.take_succ_cons, List.take_zero, List.drop_succ_cons, List.drop_zero, finE, up]
     clear hF
     have x21 := Ext.tr x20 e21
     refine Qaa (.int .u32 (wv (((((((rr ((rnds KK (w64 b) s i).a) 2)) ^^^ ((rr ((rnds KK (w64 b) s i).a) 13)))) ^^^ ((rr ((rnds KK (w64 b) s i).a) 22)))) + ((((((((rnds KK (w64 b) s i).a) &&& ((rnds KK (w64 b) s i).b))) ^^^ ((((rnds KK (w64 b) s i).a) &&& ((rnds KK (w64 b) s i).c))))) ^^^ ((((rnds KK (w64 b) s i).b) &&& ((rnds KK (w64 b) s i).c)))))))) 201 rfl kj (Qag (u := .int .u32 (IntKind.u32.wrap (wv (((((rr ((rnds KK (w64 b) s i).a) 2)) ^^^ ((rr ((rnds KK (w64 b) s i).a) 13)))) ^^^ ((rr ((rnds KK (w64 b) s i).a) 22))) + wv (((((((rnds KK (w64 b) s i).a) &&& ((rnds KK (w64 b) s i).b))) ^^^ ((((rnds KK (w64 b) s i).a) &&& ((rnds KK (w64 b) s i).c))))) ^^^ ((((rnds KK (w64 b) s i).b) &&& ((rnds KK (w64 b) s i).c))))))) kj (congrArg (Value.int .u32) (Qbu _ _))) ?_
     refine sg 1 kj ?_
     refine sgN hK99 ?_
     refine wp_seq_k fun K100 hK100 => ?_
     refine sgB kj ?_
     refine wp_block ?_
     refine wp_loop_rounds 9 ?_
     show Code.wp _ _ (Exit.then (Code.rounds _ _ _ 8) _) _ _
     refine wp_seq_k fun K102 hK102 => ?_
     refine sgB kj ?_
     refine cond_true kj ?_
     refine wp_skip ?_
     refine hK102 _ _ ?_
     refine wp_seq_k fun K104 hK104 => ?_
     refine wp_block ?_
     refine Qad ?_
     refine sg 4 kj ?_
     have r83_21 := (Qab r83_20 e21)
     refine Qaa (.int .u32 (wv (rnds KK (w64 b) s i).g)) 210 rfl kj (Qah 113 _ g83 6 114 _ (.int .u32 (wv (rnds KK (w64 b) s i).g)) _ r83_21 rfl kj kj kj) ?_
     refine sg 1 kj ?_
     refine Qai g83 _ (ints .u32 ([wv (rnds KK (w64 b) s i).a, wv (rnds KK (w64 b) s i).b, wv (rnds KK (w64 b) s i).c, wv (rnds KK (w64 b) s i).d, wv (rnds KK (w64 b) s i).e, wv (rnds KK (w64 b) s i).f, wv (rnds KK (w64 b) s i).g, (wv (rnds KK (w64 b) s i).g)])) 114 r83_21 rfl kj (Qam 113 _ _ g83 7 114 _ _ r83_21 rfl kj kj kj (show 7 < 8 by decide)) fun W22 p22 r83_22 => ?_
     have x22 := Puts.ext p22 x21 b83
     refine Qaj ?_
     refine hK104 _ _ ?_
     refine sgA kj ?_
     show Code.rounds _ _ _ 8 _ _
     show Code.wp _ _ (Exit.then (Code.rounds _ _ _ 7) _) _ _
     refine wp_seq_k fun K105 hK105 => ?_
     refine sgB kj ?_
     refine cond_true kj ?_
     refine wp_skip ?_
     refine hK105 _ _ ?_
     refine wp_seq_k fun K107 hK107 => ?_
     refine wp_block ?_
     refine Qad ?_
     refine sg 4 kj ?_
     refine Qaa (.int .u32 (wv (rnds KK (w64 b) s i).f)) 210 rfl kj (Qah 113 _ g83 5 114 _ (.int .u32 (wv (rnds KK (w64 b) s i).f)) _ r83_22 rfl kj kj kj) ?_
     refine sg 1 kj ?_
     refine Qai g83 _ (ints .u32 ([wv (rnds KK (w64 b) s i).a, wv (rnds KK (w64 b) s i).b, wv (rnds KK (w64 b) s i).c, wv (rnds KK (w64 b) s i).d, wv (rnds KK (w64 b) s i).e, wv (rnds KK (w64 b) s i).f, (wv (rnds KK (w64 b) s i).f), (wv (rnds KK (w64 b) s i).g)])) 114 r83_22 rfl kj (Qam 113 _ _ g83 6 114 _ _ r83_22 rfl kj kj kj (show 6 < 8 by decide)) fun W23 p23 r83_23 => ?_
     have x23 := Puts.ext p23 x22 b83
     refine Qaj ?_
     refine hK107 _ _ ?_
     refine sgA kj ?_
     show Code.rounds _ _ _ 7 _ _
     show Code.wp _ _ (Exit.then (Code.rounds _ _ _ 6) _) _ _
     refine wp_seq_k fun K108 hK108 => ?_
     refine sgB kj ?_
     refine cond_true kj ?_
     refine wp_skip ?_
     refine hK108 _ _ ?_
     refine wp_seq_k fun K110 hK110 => ?_
     refine wp_block ?_
     refine Qad ?_
     refine sg 4 kj ?_
     refine Qaa (.int .u32 (wv (rnds KK (w64 b) s i).e)) 210 rfl kj (Qah 113 _ g83 4 114 _ (.int .u32 (wv (rnds KK (w64 b) s i).e)) _ r83_23 rfl kj kj kj) ?_
     refine sg 1 kj ?_
     refine Qai g83 _ (ints .u32 ([wv (rnds KK (w64 b) s i).a, wv (rnds KK (w64 b) s i).b, wv (rnds KK (w64 b) s i).c, wv (rnds KK (w64 b) s i).d, wv (rnds KK (w64 b) s i).e, (wv (rnds KK (w64 b) s i).e), (wv (rnds KK (w64 b) s i).f), (wv (rnds KK (w64 b) s i).g)])) 114 r83_23 rfl kj (Qam 113 _ _ g83 5 114 _ _ r83_23 rfl kj kj kj (show 5 < 8 by decide)) fun W24 p24 r83_24 => ?_
     have x24 := Puts.ext p24 x23 b83
     refine Qaj ?_
     refine hK110 _ _ ?_
     refine sgA kj ?_
     show Code.rounds _ _ _ 6 _ _
     show Code.wp _ _ (Exit.then (Code.rounds _ _ _ 5) _) _ _
     refine wp_seq_k fun K111 hK111 => ?_
     refine sgB kj ?_
     refine cond_true kj ?_
     refine wp_skip ?_
     refine hK111 _ _ ?_
     refine wp_seq_k fun K113 hK113 => ?_
     refine wp_block ?_
     refine Qad ?_
     refine sg 4 kj ?_
     refine Qaa (.int .u32 (wv (rnds KK (w64 b) s i).d)) 210 rfl kj (Qah 113 _ g83 3 114 _ (.int .u32 (wv (rnds KK (w64 b) s i).d)) _ r83_24 rfl kj kj kj) ?_
     refine sg 1 kj ?_
     refine Qai g83 _ (ints .u32 ([wv (rnds KK (w64 b) s i).a, wv (rnds KK (w64 b) s i).b, wv (rnds KK (w64 b) s i).c, wv (rnds KK (w64 b) s i).d, (wv (rnds KK (w64 b) s i).d), (wv (rnds KK (w64 b) s i).e), (wv (rnds KK (w64 b) s i).f), (wv (rnds KK (w64 b) s i).g)])) 114 r83_24 rfl kj (Qam 113 _ _ g83 4 114 _ _ r83_24 rfl kj kj kj (show 4 < 8 by decide)) fun W25 p25 r83_25 => ?_
     have x25 := Puts.ext p25 x24 b83
     refine Qaj ?_
     refine hK113 _ _ ?_
     refine sgA kj ?_
     show Code.rounds _ _ _ 5 _ _
     show Code.wp _ _ (Exit.then (Code.rounds _ _ _ 4) _) _ _
     refine wp_seq_k fun K114 hK114 => ?_
     refine sgB kj ?_
     refine cond_true kj ?_
     refine wp_skip ?_
     refine hK114 _ _ ?_
     refine wp_seq_k fun K116 hK116 => ?_
     refine wp_block ?_
     refine Qad ?_
     refine sg 4 kj ?_
     refine Qaa (.int .u32 (wv (rnds KK (w64 b) s i).c)) 210 rfl kj (Qah 113 _ g83 2 114 _ (.int .u32 (wv (rnds KK (w64 b) s i).c)) _ r83_25 rfl kj kj kj) ?_
     refine sg 1 kj ?_
     refine Qai g83 _ (ints .u32 ([wv (rnds KK (w64 b) s i).a, wv (rnds KK (w64 b) s i).b, wv (rnds KK (w64 b) s i).c, (wv (rnds KK (w64 b) s i).c), (wv (rnds KK (w64 b) s i).d), (wv (rnds KK (w64 b) s i).e), (wv (rnds KK (w64 b) s i).f), (wv (rnds KK (w64 b) s i).g)])) 114 r83_25 rfl kj (Qam 113 _ _ g83 3 114 _ _ r83_25 rfl kj kj kj (show 3 < 8 by decide)) fun W26 p26 r83_26 => ?_
     have x26 := Puts.ext p26 x25 b83
     refine Qaj ?_
     refine hK116 _ _ ?_
     refine sgA kj ?_
     show Code.rounds _ _ _ 4 _ _
     show Code.wp _ _ (Exit.then (Code.rounds _ _ _ 3) _) _ _
     refine wp_seq_k fun K117 hK117 => ?_
     refine sgB kj ?_
     refine cond_true kj ?_
     refine wp_skip ?_
     refine hK117 _ _ ?_
     refine wp_seq_k fun K119 hK119 => ?_
     refine wp_block ?_
     refine Qad ?_
     refine sg 4 kj ?_
     refine Qaa (.int .u32 (wv (rnds KK (w64 b) s i).b)) 210 rfl kj (Qah 113 _ g83 1 114 _ (.int .u32 (wv (rnds KK (w64 b) s i).b)) _ r83_26 rfl kj kj kj) ?_
     refine sg 1 kj ?_
     refine Qai g83 _ (ints .u32 ([wv (rnds KK (w64 b) s i).a, wv (rnds KK (w64 b) s i).b, (wv (rnds KK (w64 b) s i).b), (wv (rnds KK (w64 b) s i).c), (wv (rnds KK (w64 b) s i).d), (wv (rnds KK (w64 b) s i).e), (wv (rnds KK (w64 b) s i).f), (wv (rnds KK (w64 b) s i).g)])) 114 r83_26 rfl kj (Qam 113 _ _ g83 2 114 _ _ r83_26 rfl kj kj kj (show 2 < 8 by decide)) fun W27 p27 r83_27 => ?_
     have x27 := Puts.ext p27 x26 b83
     refine Qaj ?_
     refine hK119 _ _ ?_
     refine sgA kj ?_
     show Code.rounds _ _ _ 3 _ _
     show Code.wp _ _ (Exit.then (Code.rounds _ _ _ 2) _) _ _
     refine wp_seq_k fun K120 hK120 => ?_
     refine sgB kj ?_
     refine cond_true kj ?_
     refine wp_skip ?_
     refine hK120 _ _ ?_
     refine wp_seq_k fun K122 hK122 => ?_
     refine wp_block ?_
     refine Qad ?_
     refine sg 4 kj ?_
     refine Qaa (.int .u32 (wv (rnds KK (w64 b) s i).a)) 210 rfl kj (Qah 113 _ g83 0 114 _ (.int .u32 (wv (rnds KK (w64 b) s i).a)) _ r83_27 rfl kj kj kj) ?_
     refine sg 1 kj ?_
     refine Qai g83 _ (ints .u32 ([wv (rnds KK (w64 b) s i).a, (wv (rnds KK (w64 b) s i).a), (wv (rnds KK (w64 b) s i).b), (wv (rnds KK (w64 b) s i).c), (wv (rnds KK (w64 b) s i).d), (wv (rnds KK (w64 b) s i).e), (wv (rnds KK (w64 b) s i).f), (wv (rnds KK (w64 b) s i).g)])) 114 r83_27 rfl kj (Qam 113 _ _ g83 1 114 _ _ r83_27 rfl kj kj kj (show 1 < 8 by decide)) fun W28 p28 r83_28 => ?_
     have x28 := Puts.ext p28 x27 b83
     refine Qaj ?_
     refine hK122 _ _ ?_
     refine sgA kj ?_
     show Code.rounds _ _ _ 2 _ _
     show Code.wp _ _ (Exit.then (Code.rounds _ _ _ 1) _) _ _
     refine wp_seq_k fun K123 hK123 => ?_
     refine sgB kj ?_
     refine cond_false kj ?_
     refine wp_exit ?_
     refine hK100 _ _ ?_
     refine sgC fun K125 hK125 => ?_
     refine sg 1 kj ?_
     refine Qaa (.int .u32 (wv (rnds KK (w64 b) s i).d)) 213 rfl kj (Qah 113 _ g83 4 114 _ (.int .u32 (wv (rnds KK (w64 b) s i).d)) _ r83_28 rfl kj kj kj) ?_
     refine sg 1 kj ?_
     refine Qaa (.int .u32 (wv (((rnds KK (w64 b) s i).d) + ((((((((((rnds KK (w64 b) s i).h) + ((((((rr ((rnds KK (w64 b) s i).e) 6)) ^^^ ((rr ((rnds KK (w64 b) s i).e) 11)))) ^^^ ((rr ((rnds KK (w64 b) s i).e) 25)))))) + ((((((rnds KK (w64 b) s i).e) &&& ((rnds KK (w64 b) s i).f))) ^^^ ((((~~~((rnds KK (w64 b) s i).e))) &&& ((rnds KK (w64 b) s i).g))))))) + ((wget KK i)))) + ((wget (w64 b) i))))))) 215 rfl kj (Qag (u := .int .u32 (IntKind.u32.wrap (wv ((rnds KK (w64 b) s i).d) + wv (((((((((rnds KK (w64 b) s i).h) + ((((((rr ((rnds KK (w64 b) s i).e) 6)) ^^^ ((rr ((rnds KK (w64 b) s i).e) 11)))) ^^^ ((rr ((rnds KK (w64 b) s i).e) 25)))))) + ((((((rnds KK (w64 b) s i).e) &&& ((rnds KK (w64 b) s i).f))) ^^^ ((((~~~((rnds KK (w64 b) s i).e))) &&& ((rnds KK (w64 b) s i).g))))))) + ((wget KK i)))) + ((wget (w64 b) i)))))) kj (congrArg (Value.int .u32) (Qbu _ _))) ?_
     refine sg 1 kj ?_
     refine Qai g83 _ (ints .u32 ([wv (rnds KK (w64 b) s i).a, (wv (rnds KK (w64 b) s i).a), (wv (rnds KK (w64 b) s i).b), (wv (rnds KK (w64 b) s i).c), (wv (((rnds KK (w64 b) s i).d) + ((((((((((rnds KK (w64 b) s i).h) + ((((((rr ((rnds KK (w64 b) s i).e) 6)) ^^^ ((rr ((rnds KK (w64 b) s i).e) 11)))) ^^^ ((rr ((rnds KK (w64 b) s i).e) 25)))))) + ((((((rnds KK (w64 b) s i).e) &&& ((rnds KK (w64 b) s i).f))) ^^^ ((((~~~((rnds KK (w64 b) s i).e))) &&& ((rnds KK (w64 b) s i).g))))))) + ((wget KK i)))) + ((wget (w64 b) i)))))), (wv (rnds KK (w64 b) s i).e), (wv (rnds KK (w64 b) s i).f), (wv (rnds KK (w64 b) s i).g)])) 114 r83_28 rfl kj (Qam 113 _ _ g83 4 114 _ _ r83_28 rfl kj kj kj (show 4 < 8 by decide)) fun W29 p29 r83_29 => ?_
     have x29 := Puts.ext p29 x28 b83
     refine sgN hK125 ?_
     refine Qad ?_
     refine sg 2 kj ?_
     refine Qaa (.int .u32 (wv (((((((((((rnds KK (w64 b) s i).h) + ((((((rr ((rnds KK (w64 b) s i).e) 6)) ^^^ ((rr ((rnds KK (w64 b) s i).e) 11)))) ^^^ ((rr ((rnds KK (w64 b) s i).e) 25)))))) + ((((((rnds KK (w64 b) s i).e) &&& ((rnds KK (w64 b) s i).f))) ^^^ ((((~~~((rnds KK (w64 b) s i).e))) &&& ((rnds KK (w64 b) s i).g))))))) + ((wget KK i)))) + ((wget (w64 b) i)))) + ((((((((rr ((rnds KK (w64 b) s i).a) 2)) ^^^ ((rr ((rnds KK (w64 b) s i).a) 13)))) ^^^ ((rr ((rnds KK (w64 b) s i).a) 22)))) + ((((((((rnds KK (w64 b) s i).a) &&& ((rnds KK (w64 b) s i).b))) ^^^ ((((rnds KK (w64 b) s i).a) &&& ((rnds KK (w64 b) s i).c))))) ^^^ ((((rnds KK (w64 b) s i).b) &&& ((rnds KK (w64 b) s i).c)))))))))) 219 rfl kj (Qag (u := .int .u32 (IntKind.u32.wrap (wv (((((((((rnds KK (w64 b) s i).h) + ((((((rr ((rnds KK (w64 b) s i).e) 6)) ^^^ ((rr ((rnds KK (w64 b) s i).e) 11)))) ^^^ ((rr ((rnds KK (w64 b) s i).e) 25)))))) + ((((((rnds KK (w64 b) s i).e) &&& ((rnds KK (w64 b) s i).f))) ^^^ ((((~~~((rnds KK (w64 b) s i).e))) &&& ((rnds KK (w64 b) s i).g))))))) + ((wget KK i)))) + ((wget (w64 b) i))) + wv (((((((rr ((rnds KK (w64 b) s i).a) 2)) ^^^ ((rr ((rnds KK (w64 b) s i).a) 13)))) ^^^ ((rr ((rnds KK (w64 b) s i).a) 22)))) + ((((((((rnds KK (w64 b) s i).a) &&& ((rnds KK (w64 b) s i).b))) ^^^ ((((rnds KK (w64 b) s i).a) &&& ((rnds KK (w64 b) s i).c))))) ^^^ ((((rnds KK (w64 b) s i).b) &&& ((rnds KK (w64 b) s i).c))))))))) kj (congrArg (Value.int .u32) (Qbu _ _))) ?_
     refine sg 1 kj ?_
     refine Qai g83 _ (ints .u32 ([(wv (((((((((((rnds KK (w64 b) s i).h) + ((((((rr ((rnds KK (w64 b) s i).e) 6)) ^^^ ((rr ((rnds KK (w64 b) s i).e) 11)))) ^^^ ((rr ((rnds KK (w64 b) s i).e) 25)))))) + ((((((rnds KK (w64 b) s i).e) &&& ((rnds KK (w64 b) s i).f))) ^^^ ((((~~~((rnds KK (w64 b) s i).e))) &&& ((rnds KK (w64 b) s i).g))))))) + ((wget KK i)))) + ((wget (w64 b) i)))) + ((((((((rr ((rnds KK (w64 b) s i).a) 2)) ^^^ ((rr ((rnds KK (w64 b) s i).a) 13)))) ^^^ ((rr ((rnds KK (w64 b) s i).a) 22)))) + ((((((((rnds KK (w64 b) s i).a) &&& ((rnds KK (w64 b) s i).b))) ^^^ ((((rnds KK (w64 b) s i).a) &&& ((rnds KK (w64 b) s i).c))))) ^^^ ((((rnds KK (w64 b) s i).b) &&& ((rnds KK (w64 b) s i).c))))))))), (wv (rnds KK (w64 b) s i).a), (wv (rnds KK (w64 b) s i).b), (wv (rnds KK (w64 b) s i).c), (wv (((rnds KK (w64 b) s i).d) + ((((((((((rnds KK (w64 b) s i).h) + ((((((rr ((rnds KK (w64 b) s i).e) 6)) ^^^ ((rr ((rnds KK (w64 b) s i).e) 11)))) ^^^ ((rr ((rnds KK (w64 b) s i).e) 25)))))) + ((((((rnds KK (w64 b) s i).e) &&& ((rnds KK (w64 b) s i).f))) ^^^ ((((~~~((rnds KK (w64 b) s i).e))) &&& ((rnds KK (w64 b) s i).g))))))) + ((wget KK i)))) + ((wget (w64 b) i)))))), (wv (rnds KK (w64 b) s i).e), (wv (rnds KK (w64 b) s i).f), (wv (rnds KK (w64 b) s i).g)])) 114 r83_29 rfl kj (Qam 113 _ _ g83 0 114 _ _ r83_29 rfl kj kj kj (show 0 < 8 by decide)) fun W30 p30 r83_30 => ?_
     have x30 := Puts.ext p30 x29 b83
     refine Qaj ?_
     refine hK97 _ _ ?_
     refine Qad ?_
     refine sg 1 kj ?_
     refine Qaa (.int .i64 ((i + 1 : Nat) : Int)) 135 rfl kj (Qag (u := .int .i64 (IntKind.i64.wrap (((i : Nat) : Int) + 1))) kj (congrArg (Value.int .i64) (i64n _ _ (by omega) (by omega)))) ?_
     refine sg 1 kj ?_
     refine Qaj ?_
     repeat (first | with_reducible refine goX1 ?_ | with_reducible refine goX2 ?_ | with_reducible refine goX3 ?_)
     exact Qa4 (i + 1) ⟨kj, kj, kj, kj, kj, kj, kj, kj, trivial⟩ ⟨(by omega), (QaV r83_30 (by rw [show rnds KK (w64 b) s (i + 1) = rnd (wget KK i) (wget (w64 b) i) (rnds KK (w64 b) s i) from rfl]; generalize rnds KK (w64 b) s i = r; generalize wget KK i = kk; generalize wget (w64 b) i = ww; rfl)), (Qal.puts (Qal.puts (Qal.puts (Qal.puts (Qal.puts (Qal.puts (Qal.puts (Qal.puts (Qal.puts (Qal.step (Qal.step q19 e20) e21) p22 (.inl (by simp))) p23 (.inl (by simp))) p24 (.inl (by simp))) p25 (.inl (by simp))) p26 (.inl (by simp))) p27 (.inl (by simp))) p28 (.inl (by simp))) p29 (.inl (by simp))) p30 (.inl (by simp))), x30⟩ (by omega)
    ·skip
     have heq133 : i = 64 := by have := of_decide_eq_false c96; omega
     have r83_19_126 : V4.heap[g83]? = some (.cells (ints .u32 ([wv (rnds KK (w64 b) s 64).a, wv (rnds KK (w64 b) s 64).b, wv (rnds KK (w64 b) s 64).c, wv (rnds KK (w64 b) s 64).d, wv (rnds KK (w64 b) s 64).e, wv (rnds KK (w64 b) s 64).f, wv (rnds KK (w64 b) s 64).g, wv (rnds KK (w64 b) s 64).h])) 114) := QaV q83_4 (by rw [heq133])
     refine wp_exit ?_
     refine hK84 _ _ ?_
     refine sgB kj ?_
     refine wp_block ?_
     refine wp_loop_rounds 9 ?_
     show Code.wp _ _ (Exit.then (Code.rounds _ _ _ 8) _) _ _
     refine wp_seq_k fun K128 hK128 => ?_
     refine sgB kj ?_
     refine cond_true kj ?_
     refine wp_skip ?_
     refine hK128 _ _ ?_
     refine wp_seq_k fun K130 hK130 => ?_
     refine wp_block ?_
     refine QaQ 8 [⟨none, [(20, none)]⟩, ⟨none, [(20, none)]⟩, ⟨none, [(4, none), (226, some 1)]⟩, ⟨none, [(227, some 2)]⟩, ⟨none, [(20, none)]⟩, ⟨none, [(15, none), (229, some 4)]⟩, ⟨none, [(230, some 5)]⟩, ⟨none, [(228, some 3), (231, some 6)]⟩] kj kj fun F hF => ?_
     refine Qa1 (Qan _) (.int .i64 0) kj kj (fun W => by kernel_rfl) ?_
     refine Qa1 (Qan _) (.int .i64 0) kj kj (fun W => by kernel_rfl) ?_
     refine Qa1 (Qan _) (.pointer (some ⟨g7, 0, none⟩)) kj kj (fun W => by kernel_rfl) ?_
     have r7_17 := (Qab r7_16 e17)
     have r7_18 := (Puts.row p18 r7_17 (Qaf r7_16 l83))
     have r7_19 := (Qal.row q19 r7_18 (Qau (Qaf r7_16 l83) QaG))
     refine QaT (Qan _) (.int .u32 (wv s.a)) kj kj (fun W hR => (Qah 113 _ g7 0 114 _ (.int .u32 (wv s.a)) _ (Qab (Qab r7_19 (Qas _)) hR) rfl kj kj kj)) ?_
     refine Qa1 (Qan _) (.int .i64 0) kj kj (fun W => by kernel_rfl) ?_
     refine Qa1 (Qan _) (.pointer (some ⟨g83, 0, none⟩)) kj kj (fun W => by kernel_rfl) ?_
     refine QaT (Qan _) (.int .u32 (wv (rnds KK (w64 b) s 64).a)) kj kj (fun W hR => (Qah 113 _ g83 0 114 _ (.int .u32 (wv (rnds KK (w64 b) s 64).a)) _ (Qab (Qab r83_19_126 (Qas _)) hR) rfl kj kj kj)) ?_
     refine Qa1 (Qan _) (.int .u32 (wv ((s.a) + ((rnds KK (w64 b) s 64).a)))) kj kj (fun W => (Qag (u := .int .u32 (IntKind.u32.wrap (wv s.a + wv ((rnds KK (w64 b) s 64).a)))) kj (congrArg (Value.int .u32) (Qbu _ _)))) ?_
     refine Qcz (hF _ fun W20 e20 => ?_)
     simp only [List.nil_append, List.cons_append, List.take_succ_cons, List.take_zero, List.drop_succ_cons, List.drop_zero, finE, up]
     clear hF
     have x20 := Ext.tr xx4 e20
     refine sg 1 kj ?_
     have r7_20 := (Qab r7_19 e20)
     refine Qai g7 _ (ints .u32 ([(wv ((s.a) + ((rnds KK (w64 b) s 64).a))), wv s.b, wv s.c, wv s.d, wv s.e, wv s.f, wv s.g, wv s.h])) 114 r7_20 rfl kj (Qam 113 _ _ g7 0 114 _ _ r7_20 rfl kj kj kj (show 0 < 8 by decide)) fun W21 p21 r7_21 => ?_
     have x21 := Puts.ext p21 x20 b7
     refine Qaj ?_
     refine hK130 _ _ ?_
     refine sgA kj ?_
     show Code.rounds _ _ _ 8 _ _
     show Code.wp _ _ (Exit.then (Code.rounds _ _ _ 7) _) _ _
     refine wp_seq_k fun K131 hK131 => ?_
     refine sgB kj ?_
     refine cond_true kj ?_
     refine wp_skip ?_
     refine hK131 _ _ ?_
     refine wp_seq_k fun K133 hK133 => ?_
     refine wp_block ?_
     refine QaQ 8 [⟨none, [(20, none)]⟩, ⟨none, [(20, none)]⟩, ⟨none, [(4, none), (226, some 1)]⟩, ⟨none, [(227, some 2)]⟩, ⟨none, [(20, none)]⟩, ⟨none, [(15, none), (229, some 4)]⟩, ⟨none, [(230, some 5)]⟩, ⟨none, [(228, some 3), (231, some 6)]⟩] kj kj fun F hF => ?_
     refine Qa1 (Qan _) (.int .i64 1) kj kj (fun W => by kernel_rfl) ?_
     refine Qa1 (Qan _) (.int .i64 1) kj kj (fun W => by kernel_rfl) ?_
     refine Qa1 (Qan _) (.pointer (some ⟨g7, 1, none⟩)) kj kj (fun W => by kernel_rfl) ?_
     refine QaT (Qan _) (.int .u32 (wv s.b)) kj kj (fun W hR => (Qah 113 _ g7 1 114 _ (.int .u32 (wv s.b)) _ (Qab (Qab r7_21 (Qas _)) hR) rfl kj kj kj)) ?_
     refine Qa1 (Qan _) (.int .i64 1) kj kj (fun W => by kernel_rfl) ?_
     refine Qa1 (Qan _) (.pointer (some ⟨g83, 1, none⟩)) kj kj (fun W => by kernel_rfl) ?_
     have r83_20 := (Qab r83_19_126 e20)
     have r83_21 := (Puts.row p21 r83_20 (Qbe r7_16 l83))
     refine QaT (Qan _) (.int .u32 (wv (rnds KK (w64 b) s 64).b)) kj kj (fun W hR => (Qah 113 _ g83 1 114 _ (.int .u32 (wv (rnds KK (w64 b) s 64).b)) _ (Qab (Qab r83_21 (Qas _)) hR) rfl kj kj kj)) ?_
     refine Qa1 (Qan _) (.int .u32 (wv ((s.b) + ((rnds KK (w64 b) s 64).b)))) kj kj (fun W => (Qag (u := .int .u32 (IntKind.u32.wrap (wv s.b + wv ((rnds KK (w64 b) s 64).b)))) kj (congrArg (Value.int .u32) (Qbu _ _)))) ?_
     refine Qcz (hF _ fun W22 e22 => ?_)
     simp only [List.nil_append, List.cons_append, List.take_succ_cons, List.take_zero, List.drop_succ_cons, List.drop_zero, finE, up]
     clear hF
     have x22 := Ext.tr x21 e22
     refine sg 1 kj ?_
     have r7_22 := (Qab r7_21 e22)
     refine Qai g7 _ (ints .u32 ([(wv ((s.a) + ((rnds KK (w64 b) s 64).a))), (wv ((s.b) + ((rnds KK (w64 b) s 64).b))), wv s.c, wv s.d, wv s.e, wv s.f, wv s.g, wv s.h])) 114 r7_22 rfl kj (Qam 113 _ _ g7 1 114 _ _ r7_22 rfl kj kj kj (show 1 < 8 by decide)) fun W23 p23 r7_23 => ?_
     have x23 := Puts.ext p23 x22 b7
     refine Qaj ?_
     refine hK133 _ _ ?_
     refine sgA kj ?_
     show Code.rounds _ _ _ 7 _ _
     show Code.wp _ _ (Exit.then (Code.rounds _ _ _ 6) _) _ _
     refine wp_seq_k fun K134 hK134 => ?_
     refine sgB kj ?_
     refine cond_true kj ?_
     refine wp_skip ?_
     refine hK134 _ _ ?_
     refine wp_seq_k fun K136 hK136 => ?_
     refine wp_block ?_
     refine QaQ 8 [⟨none, [(20, none)]⟩, ⟨none, [(20, none)]⟩, ⟨none, [(4, none), (226, some 1)]⟩, ⟨none, [(227, some 2)]⟩, ⟨none, [(20, none)]⟩, ⟨none, [(15, none), (229, some 4)]⟩, ⟨none, [(230, some 5)]⟩, ⟨none, [(228, some 3), (231, some 6)]⟩] kj kj fun F hF => ?_
     refine Qa1 (Qan _) (.int .i64 2) kj kj (fun W => by kernel_rfl) ?_
     refine Qa1 (Qan _) (.int .i64 2) kj kj (fun W => by kernel_rfl) ?_
     refine Qa1 (Qan _) (.pointer (some ⟨g7, 2, none⟩)) kj kj (fun W => by kernel_rfl) ?_
     refine QaT (Qan _) (.int .u32 (wv s.c)) kj kj (fun W hR => (Qah 113 _ g7 2 114 _ (.int .u32 (wv s.c)) _ (Qab (Qab r7_23 (Qas _)) hR) rfl kj kj kj)) ?_
     refine Qa1 (Qan _) (.int .i64 2) kj kj (fun W => by kernel_rfl) ?_
     refine Qa1 (Qan _) (.pointer (some ⟨g83, 2, none⟩)) kj kj (fun W => by kernel_rfl) ?_
     have r83_22 := (Qab r83_21 e22)
     have r83_23 := (Puts.row p23 r83_22 (Qbe r7_16 l83))
     refine QaT (Qan _) (.int .u32 (wv (rnds KK (w64 b) s 64).c)) kj kj (fun W hR => (Qah 113 _ g83 2 114 _ (.int .u32 (wv (rnds KK (w64 b) s 64).c)) _ (Qab (Qab r83_23 (Qas _)) hR) rfl kj kj kj)) ?_
     refine Qa1 (Qan _) (.int .u32 (wv ((s.c) + ((rnds KK (w64 b) s 64).c)))) kj kj (fun W => (Qag (u := .int .u32 (IntKind.u32.wrap (wv s.c + wv ((rnds KK (w64 b) s 64).c)))) kj (congrArg (Value.int .u32) (Qbu _ _)))) ?_
     refine Qcz (hF _ fun W24 e24 => ?_)
     simp only [List.nil_append, List.cons_append, List.take_succ_cons, List.take_zero, List.drop_succ_cons, List.drop_zero, finE, up]
     clear hF
     have x24 := Ext.tr x23 e24
     refine sg 1 kj ?_
     have r7_24 := (Qab r7_23 e24)
     refine Qai g7 _ (ints .u32 ([(wv ((s.a) + ((rnds KK (w64 b) s 64).a))), (wv ((s.b) + ((rnds KK (w64 b) s 64).b))), (wv ((s.c) + ((rnds KK (w64 b) s 64).c))), wv s.d, wv s.e, wv s.f, wv s.g, wv s.h])) 114 r7_24 rfl kj (Qam 113 _ _ g7 2 114 _ _ r7_24 rfl kj kj kj (show 2 < 8 by decide)) fun W25 p25 r7_25 => ?_
     have x25 := Puts.ext p25 x24 b7
     refine Qaj ?_
     refine hK136 _ _ ?_
     refine sgA kj ?_
     show Code.rounds _ _ _ 6 _ _
     show Code.wp _ _ (Exit.then (Code.rounds _ _ _ 5) _) _ _
     refine wp_seq_k fun K137 hK137 => ?_
     refine sgB kj ?_
     refine cond_true kj ?_
     refine wp_skip ?_
     refine hK137 _ _ ?_
     refine wp_seq_k fun K139 hK139 => ?_
     refine wp_block ?_
     refine QaQ 8 [⟨none, [(20, none)]⟩, ⟨none, [(20, none)]⟩, ⟨none, [(4, none), (226, some 1)]⟩, ⟨none, [(227, some 2)]⟩, ⟨none, [(20, none)]⟩, ⟨none, [(15, none), (229, some 4)]⟩, ⟨none, [(230, some 5)]⟩, ⟨none, [(228, some 3), (231, some 6)]⟩] kj kj fun F hF => ?_
     refine Qa1 (Qan _) (.int .i64 3) kj kj (fun W => by kernel_rfl) ?_
     refine Qa1 (Qan _) (.int .i64 3) kj kj (fun W => by kernel_rfl) ?_
     refine Qa1 (Qan _) (.pointer (some ⟨g7, 3, none⟩)) kj kj (fun W => by kernel_rfl) ?_
     refine QaT (Qan _) (.int .u32 (wv s.d)) kj kj (fun W hR => (Qah 113 _ g7 3 114 _ (.int .u32 (wv s.d)) _ (Qab (Qab r7_25 (Qas _)) hR) rfl kj kj kj)) ?_
     refine Qa1 (Qan _) (.int .i64 3) kj kj (fun W => by kernel_rfl) ?_
     refine Qa1 (Qan _) (.pointer (some ⟨g83, 3, none⟩)) kj kj (fun W => by kernel_rfl) ?_
     have r83_24 := (Qab r83_23 e24)
     have r83_25 := (Puts.row p25 r83_24 (Qbe r7_16 l83))
     refine QaT (Qan _) (.int .u32 (wv (rnds KK (w64 b) s 64).d)) kj kj (fun W hR => (Qah 113 _ g83 3 114 _ (.int .u32 (wv (rnds KK (w64 b) s 64).d)) _ (Qab (Qab r83_25 (Qas _)) hR) rfl kj kj kj)) ?_
     refine Qa1 (Qan _) (.int .u32 (wv ((s.d) + ((rnds KK (w64 b) s 64).d)))) kj kj (fun W => (Qag (u := .int .u32 (IntKind.u32.wrap (wv s.d + wv ((rnds KK (w64 b) s 64).d)))) kj (congrArg (Value.int .u32) (Qbu _ _)))) ?_
     refine Qcz (hF _ fun W26 e26 => ?_)
     simp only [List.nil_append, List.cons_append, List.take_succ_cons, List.take_zero, List.drop_succ_cons, List.drop_zero, finE, up]
     clear hF
     have x26 := Ext.tr x25 e26
     refine sg 1 kj ?_
     have r7_26 := (Qab r7_25 e26)
     refine Qai g7 _ (ints .u32 ([(wv ((s.a) + ((rnds KK (w64 b) s 64).a))), (wv ((s.b) + ((rnds KK (w64 b) s 64).b))), (wv ((s.c) + ((rnds KK (w64 b) s 64).c))), (wv ((s.d) + ((rnds KK (w64 b) s 64).d))), wv s.e, wv s.f, wv s.g, wv s.h])) 114 r7_26 rfl kj (Qam 113 _ _ g7 3 114 _ _ r7_26 rfl kj kj kj (show 3 < 8 by decide)) fun W27 p27 r7_27 => ?_
     have x27 := Puts.ext p27 x26 b7
     refine Qaj ?_
     refine hK139 _ _ ?_
     refine sgA kj ?_
     show Code.rounds _ _ _ 5 _ _
     show Code.wp _ _ (Exit.then (Code.rounds _ _ _ 4) _) _ _
     refine wp_seq_k fun K140 hK140 => ?_
     refine sgB kj ?_
     refine cond_true kj ?_
     refine wp_skip ?_
     refine hK140 _ _ ?_
     refine wp_seq_k fun K142 hK142 => ?_
     refine wp_block ?_
     refine QaQ 8 [⟨none, [(20, none)]⟩, ⟨none, [(20, none)]⟩, ⟨none, [(4, none), (226, some 1)]⟩, ⟨none, [(227, some 2)]⟩, ⟨none, [(20, none)]⟩, ⟨none, [(15, none), (229, some 4)]⟩, ⟨none, [(230, some 5)]⟩, ⟨none, [(228, some 3), (231, some 6)]⟩] kj kj fun F hF => ?_
     refine Qa1 (Qan _) (.int .i64 4) kj kj (fun W => by kernel_rfl) ?_
     refine Qa1 (Qan _) (.int .i64 4) kj kj (fun W => by kernel_rfl) ?_
     refine Qa1 (Qan _) (.pointer (some ⟨g7, 4, none⟩)) kj kj (fun W => by kernel_rfl) ?_
     refine QaT (Qan _) (.int .u32 (wv s.e)) kj kj (fun W hR => (Qah 113 _ g7 4 114 _ (.int .u32 (wv s.e)) _ (Qab (Qab r7_27 (Qas _)) hR) rfl kj kj kj)) ?_
     refine Qa1 (Qan _) (.int .i64 4) kj kj (fun W => by kernel_rfl) ?_
     refine Qa1 (Qan _) (.pointer (some ⟨g83, 4, none⟩)) kj kj (fun W => by kernel_rfl) ?_
     have r83_26 := (Qab r83_25 e26)
     have r83_27 := (Puts.row p27 r83_26 (Qbe r7_16 l83))
     refine QaT (Qan _) (.int .u32 (wv (rnds KK (w64 b) s 64).e)) kj kj (fun W hR => (Qah 113 _ g83 4 114 _ (.int .u32 (wv (rnds KK (w64 b) s 64).e)) _ (Qab (Qab r83_27 (Qas _)) hR) rfl kj kj kj)) ?_
     refine Qa1 (Qan _) (.int .u32 (wv ((s.e) + ((rnds KK (w64 b) s 64).e)))) kj kj (fun W => (Qag (u := .int .u32 (IntKind.u32.wrap (wv s.e + wv ((rnds KK (w64 b) s 64).e)))) kj (congrArg (Value.int .u32) (Qbu _ _)))) ?_
     refine Qcz (hF _ fun W28 e28 => ?_)
     simp only [List.nil_append, List.cons_append, List.take_succ_cons, List.take_zero, List.drop_succ_cons, List.drop_zero, finE, up]
     clear hF
     have x28 := Ext.tr x27 e28
     refine sg 1 kj ?_
     have r7_28 := (Qab r7_27 e28)
     refine Qai g7 _ (ints .u32 ([(wv ((s.a) + ((rnds KK (w64 b) s 64).a))), (wv ((s.b) + ((rnds KK (w64 b) s 64).b))), (wv ((s.c) + ((rnds KK (w64 b) s 64).c))), (wv ((s.d) + ((rnds KK (w64 b) s 64).d))), (wv ((s.e) + ((rnds KK (w64 b) s 64).e))), wv s.f, wv s.g, wv s.h])) 114 r7_28 rfl kj (Qam 113 _ _ g7 4 114 _ _ r7_28 rfl kj kj kj (show 4 < 8 by decide)) fun W29 p29 r7_29 => ?_
     have x29 := Puts.ext p29 x28 b7
     refine Qaj ?_
     refine hK142 _ _ ?_
     refine sgA kj ?_
     show Code.rounds _ _ _ 4 _ _
     show Code.wp _ _ (Exit.then (Code.rounds _ _ _ 3) _) _ _
     refine wp_seq_k fun K143 hK143 => ?_
     refine sgB kj ?_
     refine cond_true kj ?_
     refine wp_skip ?_
     refine hK143 _ _ ?_
     refine wp_seq_k fun K145 hK145 => ?_
     refine wp_block ?_
     refine QaQ 8 [⟨none, [(20, none)]⟩, ⟨none, [(20, none)]⟩, ⟨none, [(4, none), (226, some 1)]⟩, ⟨none, [(227, some 2)]⟩, ⟨none, [(20, none)]⟩, ⟨none, [(15, none), (229, some 4)]⟩, ⟨none, [(230, some 5)]⟩, ⟨none, [(228, some 3), (231, some 6)]⟩] kj kj fun F hF => ?_
     refine Qa1 (Qan _) (.int .i64 5) kj kj (fun W => by kernel_rfl) ?_
     refine Qa1 (Qan _) (.int .i64 5) kj kj (fun W => by kernel_rfl) ?_
     refine Qa1 (Qan _) (.pointer (some ⟨g7, 5, none⟩)) kj kj (fun W => by kernel_rfl) ?_
     refine QaT (Qan _) (.int .u32 (wv s.f)) kj kj (fun W hR => (Qah 113 _ g7 5 114 _ (.int .u32 (wv s.f)) _ (Qab (Qab r7_29 (Qas _)) hR) rfl kj kj kj)) ?_
     refine Qa1 (Qan _) (.int .i64 5) kj kj (fun W => by kernel_rfl) ?_
     refine Qa1 (Qan _) (.pointer (some ⟨g83, 5, none⟩)) kj kj (fun W => by kernel_rfl) ?_
     have r83_28 := (Qab r83_27 e28)
     have r83_29 := (Puts.row p29 r83_28 (Qbe r7_16 l83))
     refine QaT (Qan _) (.int .u32 (wv (rnds KK (w64 b) s 64).f)) kj kj (fun W hR => (Qah 113 _ g83 5 114 _ (.int .u32 (wv (rnds KK (w64 b) s 64).f)) _ (Qab (Qab r83_29 (Qas _)) hR) rfl kj kj kj)) ?_
     refine Qa1 (Qan _) (.int .u32 (wv ((s.f) + ((rnds KK (w64 b) s 64).f)))) kj kj (fun W => (Qag (u := .int .u32 (IntKind.u32.wrap (wv s.f + wv ((rnds KK (w64 b) s 64).f)))) kj (congrArg (Value.int .u32) (Qbu _ _)))) ?_
     refine Qcz (hF _ fun W30 e30 => ?_)
     simp only [List.nil_append, List.cons_append, List.take_succ_cons, List.take_zero, List.drop_succ_cons, List.drop_zero, finE, up]
     clear hF
     have x30 := Ext.tr x29 e30
     refine sg 1 kj ?_
     have r7_30 := (Qab r7_29 e30)
     refine Qai g7 _ (ints .u32 ([(wv ((s.a) + ((rnds KK (w64 b) s 64).a))), (wv ((s.b) + ((rnds KK (w64 b) s 64).b))), (wv ((s.c) + ((rnds KK (w64 b) s 64).c))), (wv ((s.d) + ((rnds KK (w64 b) s 64).d))), (wv ((s.e) + ((rnds KK (w64 b) s 64).e))), (wv ((s.f) + ((rnds KK (w64 b) s 64).f))), wv s.g, wv s.h])) 114 r7_30 rfl kj (Qam 113 _ _ g7 5 114 _ _ r7_30 rfl kj kj kj (show 5 < 8 by decide)) fun W31 p31 r7_31 => ?_
     have x31 := Puts.ext p31 x30 b7
     refine Qaj ?_
     refine hK145 _ _ ?_
     refine sgA kj ?_
     show Code.rounds _ _ _ 3 _ _
     show Code.wp _ _ (Exit.then (Code.rounds _ _ _ 2) _) _ _
     refine wp_seq_k fun K146 hK146 => ?_
     refine sgB kj ?_
     refine cond_true kj ?_
     refine wp_skip ?_
     refine hK146 _ _ ?_
     refine wp_seq_k fun K148 hK148 => ?_
     refine wp_block ?_
     refine QaQ 8 [⟨none, [(20, none)]⟩, ⟨none, [(20, none)]⟩, ⟨none, [(4, none), (226, some 1)]⟩, ⟨none, [(227, some 2)]⟩, ⟨none, [(20, none)]⟩, ⟨none, [(15, none), (229, some 4)]⟩, ⟨none, [(230, some 5)]⟩, ⟨none, [(228, some 3), (231, some 6)]⟩] kj kj fun F hF => ?_
     refine Qa1 (Qan _) (.int .i64 6) kj kj (fun W => by kernel_rfl) ?_
     refine Qa1 (Qan _) (.int .i64 6) kj kj (fun W => by kernel_rfl) ?_
     refine Qa1 (Qan _) (.pointer (some ⟨g7, 6, none⟩)) kj kj (fun W => by kernel_rfl) ?_
     refine QaT (Qan _) (.int .u32 (wv s.g)) kj kj (fun W hR => (Qah 113 _ g7 6 114 _ (.int .u32 (wv s.g)) _ (Qab (Qab r7_31 (Qas _)) hR) rfl kj kj kj)) ?_
     refine Qa1 (Qan _) (.int .i64 6) kj kj (fun W => by kernel_rfl) ?_
     refine Qa1 (Qan _) (.pointer (some ⟨g83, 6, none⟩)) kj kj (fun W => by kernel_rfl) ?_
     have r83_30 := (Qab r83_29 e30)
     have r83_31 := (Puts.row p31 r83_30 (Qbe r7_16 l83))
     refine QaT (Qan _) (.int .u32 (wv (rnds KK (w64 b) s 64).g)) kj kj (fun W hR => (Qah 113 _ g83 6 114 _ (.int .u32 (wv (rnds KK (w64 b) s 64).g)) _ (Qab (Qab r83_31 (Qas _)) hR) rfl kj kj kj)) ?_
     refine Qa1 (Qan _) (.int .u32 (wv ((s.g) + ((rnds KK (w64 b) s 64).g)))) kj kj (fun W => (Qag (u := .int .u32 (IntKind.u32.wrap (wv s.g + wv ((rnds KK (w64 b) s 64).g)))) kj (congrArg (Value.int .u32) (Qbu _ _)))) ?_
     refine Qcz (hF _ fun W32 e32 => ?_)
     simp only [List.nil_append, List.cons_append, List.take_succ_cons, List.take_zero, List.drop_succ_cons, List.drop_zero, finE, up]
     clear hF
     have x32 := Ext.tr x31 e32
     refine sg 1 kj ?_
     have r7_32 := (Qab r7_31 e32)
     refine Qai g7 _ (ints .u32 ([(wv ((s.a) + ((rnds KK (w64 b) s 64).a))), (wv ((s.b) + ((rnds KK (w64 b) s 64).b))), (wv ((s.c) + ((rnds KK (w64 b) s 64).c))), (wv ((s.d) + ((rnds KK (w64 b) s 64).d))), (wv ((s.e) + ((rnds KK (w64 b) s 64).e))), (wv ((s.f) + ((rnds KK (w64 b) s 64).f))), (wv ((s.g) + ((rnds KK (w64 b) s 64).g))), wv s.h])) 114 r7_32 rfl kj (Qam 113 _ _ g7 6 114 _ _ r7_32 rfl kj kj kj (show 6 < 8 by decide)) fun W33 p33 r7_33 => ?_
     have x33 := Puts.ext p33 x32 b7
     refine Qaj ?_
     refine hK148 _ _ ?_
     refine sgA kj ?_
     show Code.rounds _ _ _ 2 _ _
     show Code.wp _ _ (Exit.then (Code.rounds _ _ _ 1) _) _ _
     refine wp_seq_k fun K149 hK149 => ?_
     refine sgB kj ?_
     refine cond_true kj ?_
     refine wp_skip ?_
     refine hK149 _ _ ?_
     refine wp_seq_k fun K151 hK151 => ?_
     refine wp_block ?_
     refine QaQ 8 [⟨none, [(20, none)]⟩, ⟨none, [(20, none)]⟩, ⟨none, [(4, none), (226, some 1)]⟩, ⟨none, [(227, some 2)]⟩, ⟨none, [(20, none)]⟩, ⟨none, [(15, none), (229, some 4)]⟩, ⟨none, [(230, some 5)]⟩, ⟨none, [(228, some 3), (231, some 6)]⟩] kj kj fun F hF => ?_
     refine Qa1 (Qan _) (.int .i64 7) kj kj (fun W => by kernel_rfl) ?_
     refine Qa1 (Qan _) (.int .i64 7) kj kj (fun W => by kernel_rfl) ?_
     refine Qa1 (Qan _) (.pointer (some ⟨g7, 7, none⟩)) kj kj (fun W => by kernel_rfl) ?_
     refine QaT (Qan _) (.int .u32 (wv s.h)) kj kj (fun W hR => (Qah 113 _ g7 7 114 _ (.int .u32 (wv s.h)) _ (Qab (Qab r7_33 (Qas _)) hR) rfl kj kj kj)) ?_
     refine Qa1 (Qan _) (.int .i64 7) kj kj (fun W => by kernel_rfl) ?_
     refine Qa1 (Qan _) (.pointer (some ⟨g83, 7, none⟩)) kj kj (fun W => by kernel_rfl) ?_
     refine QaT (Qan _) (.int .u32 (wv (rnds KK (w64 b) s 64).h)) kj kj (fun W hR => (Qah 113 _ g83 7 114 _ (.int .u32 (wv (rnds KK (w64 b) s 64).h)) _ (Qab (Qab (Puts.row p33 (Qab r83_31 e32) (Qbe r7_16 l83)) (Qas _)) hR) rfl kj kj kj)) ?_
     refine Qa1 (Qan _) (.int .u32 (wv ((s.h) + ((rnds KK (w64 b) s 64).h)))) kj kj (fun W => (Qag (u := .int .u32 (IntKind.u32.wrap (wv s.h + wv ((rnds KK (w64 b) s 64).h)))) kj (congrArg (Value.int .u32) (Qbu _ _)))) ?_
     refine Qcz (hF _ fun W34 e34 => ?_)
     simp only [List.nil_append, List.cons_append, List.take_succ_cons, List.take_zero, List.drop_succ_cons, List.drop_zero, finE, up]
     clear hF
     have x34 := Ext.tr x33 e34
     refine sg 1 kj ?_
     have r7_34 := (Qab r7_33 e34)
     refine Qai g7 _ (ints .u32 ([(wv ((s.a) + ((rnds KK (w64 b) s 64).a))), (wv ((s.b) + ((rnds KK (w64 b) s 64).b))), (wv ((s.c) + ((rnds KK (w64 b) s 64).c))), (wv ((s.d) + ((rnds KK (w64 b) s 64).d))), (wv ((s.e) + ((rnds KK (w64 b) s 64).e))), (wv ((s.f) + ((rnds KK (w64 b) s 64).f))), (wv ((s.g) + ((rnds KK (w64 b) s 64).g))), (wv ((s.h) + ((rnds KK (w64 b) s 64).h)))])) 114 r7_34 rfl kj (Qam 113 _ _ g7 7 114 _ _ r7_34 rfl kj kj kj (show 7 < 8 by decide)) fun W35 p35 r7_35 => ?_
     have x35 := Puts.ext p35 x34 b7
     refine Qaj ?_
     refine hK151 _ _ ?_
     refine sgA kj ?_
     show Code.rounds _ _ _ 1 _ _
     show Code.wp _ _ (Exit.then (Code.rounds _ _ _ 0) _) _ _
     refine wp_seq_k fun K152 hK152 => ?_
     refine sgB kj ?_
     refine cond_false kj ?_
     refine wp_exit ?_
     refine hK48 _ _ ?_
     refine Qad ?_
     refine sg 1 kj ?_
     refine Qaa (.int .i64 (((64 * m) + 64 : Nat) : Int)) 44 rfl kj (Qag (u := .int .i64 (IntKind.i64.wrap (((64 * m : Nat) : Int) + 64))) kj (congrArg (Value.int .i64) (i64n _ _ (by omega) (by omega)))) ?_
     refine sg 1 kj ?_
     refine Qaj ?_
     repeat (first | with_reducible refine goX1 ?_ | with_reducible refine goX2 ?_ | with_reducible refine goX3 ?_)
     exact Qa4 (m + 1) ⟨kj, kj, kj, kj, kj, trivial⟩ ⟨(by omega), (QaV r7_35 (by subst hs; subst hb; rfl)), (Qal.puts (Qal.step (Qal.puts (Qal.step (Qal.puts (Qal.step (Qal.puts (Qal.step (Qal.puts (Qal.step (Qal.puts (Qal.step (Qal.puts (Qal.step (Qal.puts (Qal.step (Qal.keeps (Qal.puts (Qal.step (Qal.low (Qal.step q14 e15) l16 (Nat.le_trans (Qal.size q14) (Nat.le_refl _))) e17) p18 (.inr (Nat.le_trans (Qal.size q14) (Nat.le_trans (Nat.le_trans (Nat.le_trans (Nat.le_refl _) e15.size) l16.size) l83)))) q19 (QhA (.inr (Nat.le_trans (Qal.size q14) (Nat.le_trans (Nat.le_trans (Nat.le_trans (Nat.le_refl _) e15.size) l16.size) l83))) Qjm)) e20) p21 (.inl (by simp))) e22) p23 (.inl (by simp))) e24) p25 (.inl (by simp))) e26) p27 (.inl (by simp))) e28) p29 (.inl (by simp))) e30) p31 (.inl (by simp))) e32) p33 (.inl (by simp))) e34) p35 (.inl (by simp))), x35⟩ (by omega)
 ·skip
  have heq42 : m = q := by have := of_decide_eq_false c46; omega
  have r7_14_154 : V1.heap[g7]? = some (.cells (ints .u32 ([wv (absorb S0 (padT t) q).a, wv (absorb S0 (padT t) q).b, wv (absorb S0 (padT t) q).c, wv (absorb S0 (padT t) q).d, wv (absorb S0 (padT t) q).e, wv (absorb S0 (padT t) q).f, wv (absorb S0 (padT t) q).g, wv (absorb S0 (padT t) q).h])) 114) := QaV q7_1 (by rw [heq42])
  refine wp_exit ?_
  refine hK42 _ _ ?_
  refine sgC fun K155 hK155 => ?_
  refine Qar (ints .u8 ([0, 0, 0, 0, 0, 0, 0, 0, 0, 0, 0, 0, 0, 0, 0, 0, 0, 0, 0, 0, 0, 0, 0, 0, 0, 0, 0, 0, 0, 0, 0, 0])) 23 21 rfl kj kj fun g156 W15 l156 e15 r156_15 => ?_
  have b156 := Nat.le_trans xx1.size l156
  refine sgN hK155 ?_
  refine wp_seq_k fun K157 hK157 => ?_
  refine sgB kj ?_
  refine wp_block ?_
  refine wp_loop_rounds 33 ?_
  show Code.wp _ _ (Exit.then (Code.rounds _ _ _ 32) _) _ _
  refine wp_seq_k fun K159 hK159 => ?_
  refine sgB kj ?_
  refine cond_true kj ?_
  refine wp_skip ?_
  refine hK159 _ _ ?_
  refine wp_seq_k fun K161 hK161 => ?_
  refine wp_block ?_
  refine Qad ?_
  refine sg 4 kj ?_
  have r7_15 := (Qab r7_14_154 e15)
  refine Qaa (.int .u32 (wv (absorb S0 (padT t) q).a)) 242 rfl kj (Qah 113 _ g7 0 114 _ (.int .u32 (wv (absorb S0 (padT t) q).a)) _ r7_15 rfl kj kj kj) ?_
  refine sg 5 kj ?_
  refine Qaa (.int .u32 (wv (((absorb S0 (padT t) q).a) >>> 24))) 248 rfl kj (Qay .shr _ _ _ _ .u32 .u64 _ _ _ rfl kj kj (QaH _ _ _ _ _ _ (by decide) (QaP _ _ 24 rfl (by decide)))) ?_
  refine Qaa (.int .u8 ((((absorb S0 (padT t) q).a.toNat / 16777216 % 256 : Nat) : Int))) 249 rfl kj (Qag (u := .int .u8 (IntKind.u8.wrap (wv (((absorb S0 (padT t) q).a) >>> 24)))) kj (congrArg (Value.int .u8) (QaD (absorb S0 (padT t) q).a 24 16777216 (by decide)))) ?_
  refine sg 1 kj ?_
  refine Qai g156 _ (ints .u8 ([((((absorb S0 (padT t) q).a.toNat / 16777216 % 256 : Nat) : Int)), 0, 0, 0, 0, 0, 0, 0, 0, 0, 0, 0, 0, 0, 0, 0, 0, 0, 0, 0, 0, 0, 0, 0, 0, 0, 0, 0, 0, 0, 0, 0])) 23 r156_15 rfl kj (Qam 5 _ _ g156 0 23 _ _ r156_15 rfl kj kj kj (show 0 < 32 by decide)) fun W16 p16 r156_16 => ?_
  have x16 := Puts.ext p16 (Ext.tr xx1 e15) b156
  refine Qaj ?_
  refine hK161 _ _ ?_
  refine sgA kj ?_
  show Code.rounds _ _ _ 32 _ _
  show Code.wp _ _ (Exit.then (Code.rounds _ _ _ 31) _) _ _
  refine wp_seq_k fun K162 hK162 => ?_
  refine sgB kj ?_
  refine cond_true kj ?_
  refine wp_skip ?_
  refine hK162 _ _ ?_
  refine wp_seq_k fun K164 hK164 => ?_
  refine wp_block ?_
  refine Qad ?_
  refine sg 4 kj ?_
  have r7_16 := (Puts.row p16 r7_15 (Qaf r7_14_154 l156))
  refine Qaa (.int .u32 (wv (absorb S0 (padT t) q).a)) 242 rfl kj (Qah 113 _ g7 0 114 _ (.int .u32 (wv (absorb S0 (padT t) q).a)) _ r7_16 rfl kj kj kj) ?_
  refine sg 5 kj ?_
  refine Qaa (.int .u32 (wv (((absorb S0 (padT t) q).a) >>> 16))) 248 rfl kj (Qay .shr _ _ _ _ .u32 .u64 _ _ _ rfl kj kj (QaH _ _ _ _ _ _ (by decide) (QaP _ _ 16 rfl (by decide)))) ?_
  refine Qaa (.int .u8 ((((absorb S0 (padT t) q).a.toNat / 65536 % 256 : Nat) : Int))) 249 rfl kj (Qag (u := .int .u8 (IntKind.u8.wrap (wv (((absorb S0 (padT t) q).a) >>> 16)))) kj (congrArg (Value.int .u8) (QaD (absorb S0 (padT t) q).a 16 65536 (by decide)))) ?_
  refine sg 1 kj ?_
  refine Qai g156 _ (ints .u8 ([((((absorb S0 (padT t) q).a.toNat / 16777216 % 256 : Nat) : Int)), ((((absorb S0 (padT t) q).a.toNat / 65536 % 256 : Nat) : Int)), 0, 0, 0, 0, 0, 0, 0, 0, 0, 0, 0, 0, 0, 0, 0, 0, 0, 0, 0, 0, 0, 0, 0, 0, 0, 0, 0, 0, 0, 0])) 23 r156_16 rfl kj (Qam 5 _ _ g156 1 23 _ _ r156_16 rfl kj kj kj (show 1 < 32 by decide)) fun W17 p17 r156_17 => ?_
  have x17 := Puts.ext p17 x16 b156
  refine Qaj ?_
  refine hK164 _ _ ?_
  refine sgA kj ?_
  show Code.rounds _ _ _ 31 _ _
  show Code.wp _ _ (Exit.then (Code.rounds _ _ _ 30) _) _ _
  refine wp_seq_k fun K165 hK165 => ?_
  refine sgB kj ?_
  refine cond_true kj ?_
  refine wp_skip ?_
  refine hK165 _ _ ?_
  refine wp_seq_k fun K167 hK167 => ?_
  refine wp_block ?_
  refine Qad ?_
  refine sg 4 kj ?_
  have r7_17 := (Puts.row p17 r7_16 (Qaf r7_14_154 l156))
  refine Qaa (.int .u32 (wv (absorb S0 (padT t) q).a)) 242 rfl kj (Qah 113 _ g7 0 114 _ (.int .u32 (wv (absorb S0 (padT t) q).a)) _ r7_17 rfl kj kj kj) ?_
  refine sg 5 kj ?_
  refine Qaa (.int .u32 (wv (((absorb S0 (padT t) q).a) >>> 8))) 248 rfl kj (Qay .shr _ _ _ _ .u32 .u64 _ _ _ rfl kj kj (QaH _ _ _ _ _ _ (by decide) (QaP _ _ 8 rfl (by decide)))) ?_
  refine Qaa (.int .u8 ((((absorb S0 (padT t) q).a.toNat / 256 % 256 : Nat) : Int))) 249 rfl kj (Qag (u := .int .u8 (IntKind.u8.wrap (wv (((absorb S0 (padT t) q).a) >>> 8)))) kj (congrArg (Value.int .u8) (QaD (absorb S0 (padT t) q).a 8 256 (by decide)))) ?_
  refine sg 1 kj ?_
  refine Qai g156 _ (ints .u8 ([((((absorb S0 (padT t) q).a.toNat / 16777216 % 256 : Nat) : Int)), ((((absorb S0 (padT t) q).a.toNat / 65536 % 256 : Nat) : Int)), ((((absorb S0 (padT t) q).a.toNat / 256 % 256 : Nat) : Int)), 0, 0, 0, 0, 0, 0, 0, 0, 0, 0, 0, 0, 0, 0, 0, 0, 0, 0, 0, 0, 0, 0, 0, 0, 0, 0, 0, 0, 0])) 23 r156_17 rfl kj (Qam 5 _ _ g156 2 23 _ _ r156_17 rfl kj kj kj (show 2 < 32 by decide)) fun W18 p18 r156_18 => ?_
  have x18 := Puts.ext p18 x17 b156
  refine Qaj ?_
  refine hK167 _ _ ?_
  refine sgA kj ?_
  show Code.rounds _ _ _ 30 _ _
  show Code.wp _ _ (Exit.then (Code.rounds _ _ _ 29) _) _ _
  refine wp_seq_k fun K168 hK168 => ?_
  refine sgB kj ?_
  refine cond_true kj ?_
  refine wp_skip ?_
  refine hK168 _ _ ?_
  refine wp_seq_k fun K170 hK170 => ?_
  refine wp_block ?_
  refine Qad ?_
  refine sg 4 kj ?_
  have r7_18 := (Puts.row p18 r7_17 (Qaf r7_14_154 l156))
  refine Qaa (.int .u32 (wv (absorb S0 (padT t) q).a)) 242 rfl kj (Qah 113 _ g7 0 114 _ (.int .u32 (wv (absorb S0 (padT t) q).a)) _ r7_18 rfl kj kj kj) ?_
  refine sg 5 kj ?_
  refine Qaa (.int .u32 (wv (((absorb S0 (padT t) q).a) >>> 0))) 248 rfl kj (Qay .shr _ _ _ _ .u32 .u64 _ _ _ rfl kj kj (QaH _ _ _ _ _ _ (by decide) (QaP _ _ 0 rfl (by decide)))) ?_
  refine Qaa (.int .u8 ((((absorb S0 (padT t) q).a.toNat / 1 % 256 : Nat) : Int))) 249 rfl kj (Qag (u := .int .u8 (IntKind.u8.wrap (wv (((absorb S0 (padT t) q).a) >>> 0)))) kj (congrArg (Value.int .u8) (QaD (absorb S0 (padT t) q).a 0 1 (by decide)))) ?_
  refine sg 1 kj ?_
  refine Qai g156 _ (ints .u8 ([((((absorb S0 (padT t) q).a.toNat / 16777216 % 256 : Nat) : Int)), ((((absorb S0 (padT t) q).a.toNat / 65536 % 256 : Nat) : Int)), ((((absorb S0 (padT t) q).a.toNat / 256 % 256 : Nat) : Int)), ((((absorb S0 (padT t) q).a.toNat / 1 % 256 : Nat) : Int)), 0, 0, 0, 0, 0, 0, 0, 0, 0, 0, 0, 0, 0, 0, 0, 0, 0, 0, 0, 0, 0, 0, 0, 0, 0, 0, 0, 0])) 23 r156_18 rfl kj (Qam 5 _ _ g156 3 23 _ _ r156_18 rfl kj kj kj (show 3 < 32 by decide)) fun W19 p19 r156_19 => ?_
  refine Qaj ?_
  refine hK170 _ _ ?_
  refine sgA kj ?_
  show Code.rounds _ _ _ 29 _ _
  show Code.wp _ _ (Exit.then (Code.rounds _ _ _ 28) _) _ _
  refine wp_seq_k fun K171 hK171 => ?_
  refine sgB kj ?_
  refine cond_true kj ?_
  refine wp_skip ?_
  refine hK171 _ _ ?_
  refine wp_seq_k fun K173 hK173 => ?_
  refine wp_block ?_
  refine Qad ?_
  refine sg 4 kj ?_
  have r7_19 := (Puts.row p19 r7_18 (Qaf r7_14_154 l156))
  refine Qaa (.int .u32 (wv (absorb S0 (padT t) q).b)) 242 rfl kj (Qah 113 _ g7 1 114 _ (.int .u32 (wv (absorb S0 (padT t) q).b)) _ r7_19 rfl kj kj kj) ?_
  refine sg 5 kj ?_
  refine Qaa (.int .u32 (wv (((absorb S0 (padT t) q).b) >>> 24))) 248 rfl kj (Qay .shr _ _ _ _ .u32 .u64 _ _ _ rfl kj kj (QaH _ _ _ _ _ _ (by decide) (QaP _ _ 24 rfl (by decide)))) ?_
  refine Qaa (.int .u8 ((((absorb S0 (padT t) q).b.toNat / 16777216 % 256 : Nat) : Int))) 249 rfl kj (Qag (u := .int .u8 (IntKind.u8.wrap (wv (((absorb S0 (padT t) q).b) >>> 24)))) kj (congrArg (Value.int .u8) (QaD (absorb S0 (padT t) q).b 24 16777216 (by decide)))) ?_
  refine sg 1 kj ?_
  refine Qai g156 _ (ints .u8 ([((((absorb S0 (padT t) q).a.toNat / 16777216 % 256 : Nat) : Int)), ((((absorb S0 (padT t) q).a.toNat / 65536 % 256 : Nat) : Int)), ((((absorb S0 (padT t) q).a.toNat / 256 % 256 : Nat) : Int)), ((((absorb S0 (padT t) q).a.toNat / 1 % 256 : Nat) : Int)), ((((absorb S0 (padT t) q).b.toNat / 16777216 % 256 : Nat) : Int)), 0, 0, 0, 0, 0, 0, 0, 0, 0, 0, 0, 0, 0, 0, 0, 0, 0, 0, 0, 0, 0, 0, 0, 0, 0, 0, 0])) 23 r156_19 rfl kj (Qam 5 _ _ g156 4 23 _ _ r156_19 rfl kj kj kj (show 4 < 32 by decide)) fun W20 p20 r156_20 => ?_
  have x20 := Puts.ext p20 (Puts.ext p19 x18 b156) b156
  refine Qaj ?_
  refine hK173 _ _ ?_
  refine sgA kj ?_
  show Code.rounds _ _ _ 28 _ _
  show Code.wp _ _ (Exit.then (Code.rounds _ _ _ 27) _) _ _
  refine wp_seq_k fun K174 hK174 => ?_
  refine sgB kj ?_
  refine cond_true kj ?_
  refine wp_skip ?_
  refine hK174 _ _ ?_
  refine wp_seq_k fun K176 hK176 => ?_
  refine wp_block ?_
  refine Qad ?_
  refine sg 4 kj ?_
  have r7_20 := (Puts.row p20 r7_19 (Qaf r7_14_154 l156))
  refine Qaa (.int .u32 (wv (absorb S0 (padT t) q).b)) 242 rfl kj (Qah 113 _ g7 1 114 _ (.int .u32 (wv (absorb S0 (padT t) q).b)) _ r7_20 rfl kj kj kj) ?_
  refine sg 5 kj ?_
  refine Qaa (.int .u32 (wv (((absorb S0 (padT t) q).b) >>> 16))) 248 rfl kj (Qay .shr _ _ _ _ .u32 .u64 _ _ _ rfl kj kj (QaH _ _ _ _ _ _ (by decide) (QaP _ _ 16 rfl (by decide)))) ?_
  refine Qaa (.int .u8 ((((absorb S0 (padT t) q).b.toNat / 65536 % 256 : Nat) : Int))) 249 rfl kj (Qag (u := .int .u8 (IntKind.u8.wrap (wv (((absorb S0 (padT t) q).b) >>> 16)))) kj (congrArg (Value.int .u8) (QaD (absorb S0 (padT t) q).b 16 65536 (by decide)))) ?_
  refine sg 1 kj ?_
  refine Qai g156 _ (ints .u8 ([((((absorb S0 (padT t) q).a.toNat / 16777216 % 256 : Nat) : Int)), ((((absorb S0 (padT t) q).a.toNat / 65536 % 256 : Nat) : Int)), ((((absorb S0 (padT t) q).a.toNat / 256 % 256 : Nat) : Int)), ((((absorb S0 (padT t) q).a.toNat / 1 % 256 : Nat) : Int)), ((((absorb S0 (padT t) q).b.toNat / 16777216 % 256 : Nat) : Int)), ((((absorb S0 (padT t) q).b.toNat / 65536 % 256 : Nat) : Int)), 0, 0, 0, 0, 0, 0, 0, 0, 0, 0, 0, 0, 0, 0, 0, 0, 0, 0, 0, 0, 0, 0, 0, 0, 0, 0])) 23 r156_20 rfl kj (Qam 5 _ _ g156 5 23 _ _ r156_20 rfl kj kj kj (show 5 < 32 by decide)) fun W21 p21 r156_21 => ?_
  have x21 := Puts.ext p21 x20 b156
  refine Qaj ?_
  refine hK176 _ _ ?_
  refine sgA kj ?_
  show Code.rounds _ _ _ 27 _ _
  show Code.wp _ _ (Exit.then (Code.rounds _ _ _ 26) _) _ _
  refine wp_seq_k fun K177 hK177 => ?_
  refine sgB kj ?_
  refine cond_true kj ?_
  refine wp_skip ?_
  refine hK177 _ _ ?_
  refine wp_seq_k fun K179 hK179 => ?_
  refine wp_block ?_
  refine Qad ?_
  refine sg 4 kj ?_
  have r7_21 := (Puts.row p21 r7_20 (Qaf r7_14_154 l156))
  refine Qaa (.int .u32 (wv (absorb S0 (padT t) q).b)) 242 rfl kj (Qah 113 _ g7 1 114 _ (.int .u32 (wv (absorb S0 (padT t) q).b)) _ r7_21 rfl kj kj kj) ?_
  refine sg 5 kj ?_
  refine Qaa (.int .u32 (wv (((absorb S0 (padT t) q).b) >>> 8))) 248 rfl kj (Qay .shr _ _ _ _ .u32 .u64 _ _ _ rfl kj kj (QaH _ _ _ _ _ _ (by decide) (QaP _ _ 8 rfl (by decide)))) ?_
  refine Qaa (.int .u8 ((((absorb S0 (padT t) q).b.toNat / 256 % 256 : Nat) : Int))) 249 rfl kj (Qag (u := .int .u8 (IntKind.u8.wrap (wv (((absorb S0 (padT t) q).b) >>> 8)))) kj (congrArg (Value.int .u8) (QaD (absorb S0 (padT t) q).b 8 256 (by decide)))) ?_
  refine sg 1 kj ?_
  refine Qai g156 _ (ints .u8 ([((((absorb S0 (padT t) q).a.toNat / 16777216 % 256 : Nat) : Int)), ((((absorb S0 (padT t) q).a.toNat / 65536 % 256 : Nat) : Int)), ((((absorb S0 (padT t) q).a.toNat / 256 % 256 : Nat) : Int)), ((((absorb S0 (padT t) q).a.toNat / 1 % 256 : Nat) : Int)), ((((absorb S0 (padT t) q).b.toNat / 16777216 % 256 : Nat) : Int)), ((((absorb S0 (padT t) q).b.toNat / 65536 % 256 : Nat) : Int)), ((((absorb S0 (padT t) q).b.toNat / 256 % 256 : Nat) : Int)), 0, 0, 0, 0, 0, 0, 0, 0, 0, 0, 0, 0, 0, 0, 0, 0, 0, 0, 0, 0, 0, 0, 0, 0, 0])) 23 r156_21 rfl kj (Qam 5 _ _ g156 6 23 _ _ r156_21 rfl kj kj kj (show 6 < 32 by decide)) fun W22 p22 r156_22 => ?_
  have x22 := Puts.ext p22 x21 b156
  refine Qaj ?_
  refine hK179 _ _ ?_
  refine sgA kj ?_
  show Code.rounds _ _ _ 26 _ _
  show Code.wp _ _ (Exit.then (Code.rounds _ _ _ 25) _) _ _
  refine wp_seq_k fun K180 hK180 => ?_
  refine sgB kj ?_
  refine cond_true kj ?_
  refine wp_skip ?_
  refine hK180 _ _ ?_
  refine wp_seq_k fun K182 hK182 => ?_
  refine wp_block ?_
  refine Qad ?_
  refine sg 4 kj ?_
  have r7_22 := (Puts.row p22 r7_21 (Qaf r7_14_154 l156))
  refine Qaa (.int .u32 (wv (absorb S0 (padT t) q).b)) 242 rfl kj (Qah 113 _ g7 1 114 _ (.int .u32 (wv (absorb S0 (padT t) q).b)) _ r7_22 rfl kj kj kj) ?_
  refine sg 5 kj ?_
  refine Qaa (.int .u32 (wv (((absorb S0 (padT t) q).b) >>> 0))) 248 rfl kj (Qay .shr _ _ _ _ .u32 .u64 _ _ _ rfl kj kj (QaH _ _ _ _ _ _ (by decide) (QaP _ _ 0 rfl (by decide)))) ?_
  refine Qaa (.int .u8 ((((absorb S0 (padT t) q).b.toNat / 1 % 256 : Nat) : Int))) 249 rfl kj (Qag (u := .int .u8 (IntKind.u8.wrap (wv (((absorb S0 (padT t) q).b) >>> 0)))) kj (congrArg (Value.int .u8) (QaD (absorb S0 (padT t) q).b 0 1 (by decide)))) ?_
  refine sg 1 kj ?_
  refine Qai g156 _ (ints .u8 ([((((absorb S0 (padT t) q).a.toNat / 16777216 % 256 : Nat) : Int)), ((((absorb S0 (padT t) q).a.toNat / 65536 % 256 : Nat) : Int)), ((((absorb S0 (padT t) q).a.toNat / 256 % 256 : Nat) : Int)), ((((absorb S0 (padT t) q).a.toNat / 1 % 256 : Nat) : Int)), ((((absorb S0 (padT t) q).b.toNat / 16777216 % 256 : Nat) : Int)), ((((absorb S0 (padT t) q).b.toNat / 65536 % 256 : Nat) : Int)), ((((absorb S0 (padT t) q).b.toNat / 256 % 256 : Nat) : Int)), ((((absorb S0 (padT t) q).b.toNat / 1 % 256 : Nat) : Int)), 0, 0, 0, 0, 0, 0, 0, 0, 0, 0, 0, 0, 0, 0, 0, 0, 0, 0, 0, 0, 0, 0, 0, 0])) 23 r156_22 rfl kj (Qam 5 _ _ g156 7 23 _ _ r156_22 rfl kj kj kj (show 7 < 32 by decide)) fun W23 p23 r156_23 => ?_
  have x23 := Puts.ext p23 x22 b156
  refine Qaj ?_
  refine hK182 _ _ ?_
  refine sgA kj ?_
  show Code.rounds _ _ _ 25 _ _
  show Code.wp _ _ (Exit.then (Code.rounds _ _ _ 24) _) _ _
  refine wp_seq_k fun K183 hK183 => ?_
  refine sgB kj ?_
  refine cond_true kj ?_
  refine wp_skip ?_
  refine hK183 _ _ ?_
  refine wp_seq_k fun K185 hK185 => ?_
  refine wp_block ?_
  refine Qad ?_
  refine sg 4 kj ?_
  have r7_23 := (Puts.row p23 r7_22 (Qaf r7_14_154 l156))
  refine Qaa (.int .u32 (wv (absorb S0 (padT t) q).c)) 242 rfl kj (Qah 113 _ g7 2 114 _ (.int .u32 (wv (absorb S0 (padT t) q).c)) _ r7_23 rfl kj kj kj) ?_
  refine sg 5 kj ?_
  refine Qaa (.int .u32 (wv (((absorb S0 (padT t) q).c) >>> 24))) 248 rfl kj (Qay .shr _ _ _ _ .u32 .u64 _ _ _ rfl kj kj (QaH _ _ _ _ _ _ (by decide) (QaP _ _ 24 rfl (by decide)))) ?_
  refine Qaa (.int .u8 ((((absorb S0 (padT t) q).c.toNat / 16777216 % 256 : Nat) : Int))) 249 rfl kj (Qag (u := .int .u8 (IntKind.u8.wrap (wv (((absorb S0 (padT t) q).c) >>> 24)))) kj (congrArg (Value.int .u8) (QaD (absorb S0 (padT t) q).c 24 16777216 (by decide)))) ?_
  refine sg 1 kj ?_
  refine Qai g156 _ (ints .u8 ([((((absorb S0 (padT t) q).a.toNat / 16777216 % 256 : Nat) : Int)), ((((absorb S0 (padT t) q).a.toNat / 65536 % 256 : Nat) : Int)), ((((absorb S0 (padT t) q).a.toNat / 256 % 256 : Nat) : Int)), ((((absorb S0 (padT t) q).a.toNat / 1 % 256 : Nat) : Int)), ((((absorb S0 (padT t) q).b.toNat / 16777216 % 256 : Nat) : Int)), ((((absorb S0 (padT t) q).b.toNat / 65536 % 256 : Nat) : Int)), ((((absorb S0 (padT t) q).b.toNat / 256 % 256 : Nat) : Int)), ((((absorb S0 (padT t) q).b.toNat / 1 % 256 : Nat) : Int)), ((((absorb S0 (padT t) q).c.toNat / 16777216 % 256 : Nat) : Int)), 0, 0, 0, 0, 0, 0, 0, 0, 0, 0, 0, 0, 0, 0, 0, 0, 0, 0, 0, 0, 0, 0, 0])) 23 r156_23 rfl kj (Qam 5 _ _ g156 8 23 _ _ r156_23 rfl kj kj kj (show 8 < 32 by decide)) fun W24 p24 r156_24 => ?_
  have x24 := Puts.ext p24 x23 b156
  refine Qaj ?_
  refine hK185 _ _ ?_
  refine sgA kj ?_
  show Code.rounds _ _ _ 24 _ _
  show Code.wp _ _ (Exit.then (Code.rounds _ _ _ 23) _) _ _
  refine wp_seq_k fun K186 hK186 => ?_
  refine sgB kj ?_
  refine cond_true kj ?_
  refine wp_skip ?_
  refine hK186 _ _ ?_
  refine wp_seq_k fun K188 hK188 => ?_
  refine wp_block ?_
  refine Qad ?_
  refine sg 4 kj ?_
  have r7_24 := (Puts.row p24 r7_23 (Qaf r7_14_154 l156))
  refine Qaa (.int .u32 (wv (absorb S0 (padT t) q).c)) 242 rfl kj (Qah 113 _ g7 2 114 _ (.int .u32 (wv (absorb S0 (padT t) q).c)) _ r7_24 rfl kj kj kj) ?_
  refine sg 5 kj ?_
  refine Qaa (.int .u32 (wv (((absorb S0 (padT t) q).c) >>> 16))) 248 rfl kj (Qay .shr _ _ _ _ .u32 .u64 _ _ _ rfl kj kj (QaH _ _ _ _ _ _ (by decide) (QaP _ _ 16 rfl (by decide)))) ?_
  refine Qaa (.int .u8 ((((absorb S0 (padT t) q).c.toNat / 65536 % 256 : Nat) : Int))) 249 rfl kj (Qag (u := .int .u8 (IntKind.u8.wrap (wv (((absorb S0 (padT t) q).c) >>> 16)))) kj (congrArg (Value.int .u8) (QaD (absorb S0 (padT t) q).c 16 65536 (by decide)))) ?_
  refine sg 1 kj ?_
  refine Qai g156 _ (ints .u8 ([((((absorb S0 (padT t) q).a.toNat / 16777216 % 256 : Nat) : Int)), ((((absorb S0 (padT t) q).a.toNat / 65536 % 256 : Nat) : Int)), ((((absorb S0 (padT t) q).a.toNat / 256 % 256 : Nat) : Int)), ((((absorb S0 (padT t) q).a.toNat / 1 % 256 : Nat) : Int)), ((((absorb S0 (padT t) q).b.toNat / 16777216 % 256 : Nat) : Int)), ((((absorb S0 (padT t) q).b.toNat / 65536 % 256 : Nat) : Int)), ((((absorb S0 (padT t) q).b.toNat / 256 % 256 : Nat) : Int)), ((((absorb S0 (padT t) q).b.toNat / 1 % 256 : Nat) : Int)), ((((absorb S0 (padT t) q).c.toNat / 16777216 % 256 : Nat) : Int)), ((((absorb S0 (padT t) q).c.toNat / 65536 % 256 : Nat) : Int)), 0, 0, 0, 0, 0, 0, 0, 0, 0, 0, 0, 0, 0, 0, 0, 0, 0, 0, 0, 0, 0, 0])) 23 r156_24 rfl kj (Qam 5 _ _ g156 9 23 _ _ r156_24 rfl kj kj kj (show 9 < 32 by decide)) fun W25 p25 r156_25 => ?_
  have x25 := Puts.ext p25 x24 b156
  refine Qaj ?_
  refine hK188 _ _ ?_
  refine sgA kj ?_
  show Code.rounds _ _ _ 23 _ _
  show Code.wp _ _ (Exit.then (Code.rounds _ _ _ 22) _) _ _
  refine wp_seq_k fun K189 hK189 => ?_
  refine sgB kj ?_
  refine cond_true kj ?_
  refine wp_skip ?_
  refine hK189 _ _ ?_
  refine wp_seq_k fun K191 hK191 => ?_
  refine wp_block ?_
  refine Qad ?_
  refine sg 4 kj ?_
  have r7_25 := (Puts.row p25 r7_24 (Qaf r7_14_154 l156))
  refine Qaa (.int .u32 (wv (absorb S0 (padT t) q).c)) 242 rfl kj (Qah 113 _ g7 2 114 _ (.int .u32 (wv (absorb S0 (padT t) q).c)) _ r7_25 rfl kj kj kj) ?_
  refine sg 5 kj ?_
  refine Qaa (.int .u32 (wv (((absorb S0 (padT t) q).c) >>> 8))) 248 rfl kj (Qay .shr _ _ _ _ .u32 .u64 _ _ _ rfl kj kj (QaH _ _ _ _ _ _ (by decide) (QaP _ _ 8 rfl (by decide)))) ?_
  refine Qaa (.int .u8 ((((absorb S0 (padT t) q).c.toNat / 256 % 256 : Nat) : Int))) 249 rfl kj (Qag (u := .int .u8 (IntKind.u8.wrap (wv (((absorb S0 (padT t) q).c) >>> 8)))) kj (congrArg (Value.int .u8) (QaD (absorb S0 (padT t) q).c 8 256 (by decide)))) ?_
  refine sg 1 kj ?_
  refine Qai g156 _ (ints .u8 ([((((absorb S0 (padT t) q).a.toNat / 16777216 % 256 : Nat) : Int)), ((((absorb S0 (padT t) q).a.toNat / 65536 % 256 : Nat) : Int)), ((((absorb S0 (padT t) q).a.toNat / 256 % 256 : Nat) : Int)), ((((absorb S0 (padT t) q).a.toNat / 1 % 256 : Nat) : Int)), ((((absorb S0 (padT t) q).b.toNat / 16777216 % 256 : Nat) : Int)), ((((absorb S0 (padT t) q).b.toNat / 65536 % 256 : Nat) : Int)), ((((absorb S0 (padT t) q).b.toNat / 256 % 256 : Nat) : Int)), ((((absorb S0 (padT t) q).b.toNat / 1 % 256 : Nat) : Int)), ((((absorb S0 (padT t) q).c.toNat / 16777216 % 256 : Nat) : Int)), ((((absorb S0 (padT t) q).c.toNat / 65536 % 256 : Nat) : Int)), ((((absorb S0 (padT t) q).c.toNat / 256 % 256 : Nat) : Int)), 0, 0, 0, 0, 0, 0, 0, 0, 0, 0, 0, 0, 0, 0, 0, 0, 0, 0, 0, 0, 0])) 23 r156_25 rfl kj (Qam 5 _ _ g156 10 23 _ _ r156_25 rfl kj kj kj (show 10 < 32 by decide)) fun W26 p26 r156_26 => ?_
  have x26 := Puts.ext p26 x25 b156
  refine Qaj ?_
  refine hK191 _ _ ?_
  refine sgA kj ?_
  show Code.rounds _ _ _ 22 _ _
  show Code.wp _ _ (Exit.then (Code.rounds _ _ _ 21) _) _ _
  refine wp_seq_k fun K192 hK192 => ?_
  refine sgB kj ?_
  refine cond_true kj ?_
  refine wp_skip ?_
  refine hK192 _ _ ?_
  refine wp_seq_k fun K194 hK194 => ?_
  refine wp_block ?_
  refine Qad ?_
  refine sg 4 kj ?_
  have r7_26 := (Puts.row p26 r7_25 (Qaf r7_14_154 l156))
  refine Qaa (.int .u32 (wv (absorb S0 (padT t) q).c)) 242 rfl kj (Qah 113 _ g7 2 114 _ (.int .u32 (wv (absorb S0 (padT t) q).c)) _ r7_26 rfl kj kj kj) ?_
  refine sg 5 kj ?_
  refine Qaa (.int .u32 (wv (((absorb S0 (padT t) q).c) >>> 0))) 248 rfl kj (Qay .shr _ _ _ _ .u32 .u64 _ _ _ rfl kj kj (QaH _ _ _ _ _ _ (by decide) (QaP _ _ 0 rfl (by decide)))) ?_
  refine Qaa (.int .u8 ((((absorb S0 (padT t) q).c.toNat / 1 % 256 : Nat) : Int))) 249 rfl kj (Qag (u := .int .u8 (IntKind.u8.wrap (wv (((absorb S0 (padT t) q).c) >>> 0)))) kj (congrArg (Value.int .u8) (QaD (absorb S0 (padT t) q).c 0 1 (by decide)))) ?_
  refine sg 1 kj ?_
  refine Qai g156 _ (ints .u8 ([((((absorb S0 (padT t) q).a.toNat / 16777216 % 256 : Nat) : Int)), ((((absorb S0 (padT t) q).a.toNat / 65536 % 256 : Nat) : Int)), ((((absorb S0 (padT t) q).a.toNat / 256 % 256 : Nat) : Int)), ((((absorb S0 (padT t) q).a.toNat / 1 % 256 : Nat) : Int)), ((((absorb S0 (padT t) q).b.toNat / 16777216 % 256 : Nat) : Int)), ((((absorb S0 (padT t) q).b.toNat / 65536 % 256 : Nat) : Int)), ((((absorb S0 (padT t) q).b.toNat / 256 % 256 : Nat) : Int)), ((((absorb S0 (padT t) q).b.toNat / 1 % 256 : Nat) : Int)), ((((absorb S0 (padT t) q).c.toNat / 16777216 % 256 : Nat) : Int)), ((((absorb S0 (padT t) q).c.toNat / 65536 % 256 : Nat) : Int)), ((((absorb S0 (padT t) q).c.toNat / 256 % 256 : Nat) : Int)), ((((absorb S0 (padT t) q).c.toNat / 1 % 256 : Nat) : Int)), 0, 0, 0, 0, 0, 0, 0, 0, 0, 0, 0, 0, 0, 0, 0, 0, 0, 0, 0, 0])) 23 r156_26 rfl kj (Qam 5 _ _ g156 11 23 _ _ r156_26 rfl kj kj kj (show 11 < 32 by decide)) fun W27 p27 r156_27 => ?_
  have x27 := Puts.ext p27 x26 b156
  refine Qaj ?_
  refine hK194 _ _ ?_
  refine sgA kj ?_
  show Code.rounds _ _ _ 21 _ _
  show Code.wp _ _ (Exit.then (Code.rounds _ _ _ 20) _) _ _
  refine wp_seq_k fun K195 hK195 => ?_
  refine sgB kj ?_
  refine cond_true kj ?_
  refine wp_skip ?_
  refine hK195 _ _ ?_
  refine wp_seq_k fun K197 hK197 => ?_
  refine wp_block ?_
  refine Qad ?_
  refine sg 4 kj ?_
  have r7_27 := (Puts.row p27 r7_26 (Qaf r7_14_154 l156))
  refine Qaa (.int .u32 (wv (absorb S0 (padT t) q).d)) 242 rfl kj (Qah 113 _ g7 3 114 _ (.int .u32 (wv (absorb S0 (padT t) q).d)) _ r7_27 rfl kj kj kj) ?_
  refine sg 5 kj ?_
  refine Qaa (.int .u32 (wv (((absorb S0 (padT t) q).d) >>> 24))) 248 rfl kj (Qay .shr _ _ _ _ .u32 .u64 _ _ _ rfl kj kj (QaH _ _ _ _ _ _ (by decide) (QaP _ _ 24 rfl (by decide)))) ?_
  refine Qaa (.int .u8 ((((absorb S0 (padT t) q).d.toNat / 16777216 % 256 : Nat) : Int))) 249 rfl kj (Qag (u := .int .u8 (IntKind.u8.wrap (wv (((absorb S0 (padT t) q).d) >>> 24)))) kj (congrArg (Value.int .u8) (QaD (absorb S0 (padT t) q).d 24 16777216 (by decide)))) ?_
  refine sg 1 kj ?_
  refine Qai g156 _ (ints .u8 ([((((absorb S0 (padT t) q).a.toNat / 16777216 % 256 : Nat) : Int)), ((((absorb S0 (padT t) q).a.toNat / 65536 % 256 : Nat) : Int)), ((((absorb S0 (padT t) q).a.toNat / 256 % 256 : Nat) : Int)), ((((absorb S0 (padT t) q).a.toNat / 1 % 256 : Nat) : Int)), ((((absorb S0 (padT t) q).b.toNat / 16777216 % 256 : Nat) : Int)), ((((absorb S0 (padT t) q).b.toNat / 65536 % 256 : Nat) : Int)), ((((absorb S0 (padT t) q).b.toNat / 256 % 256 : Nat) : Int)), ((((absorb S0 (padT t) q).b.toNat / 1 % 256 : Nat) : Int)), ((((absorb S0 (padT t) q).c.toNat / 16777216 % 256 : Nat) : Int)), ((((absorb S0 (padT t) q).c.toNat / 65536 % 256 : Nat) : Int)), ((((absorb S0 (padT t) q).c.toNat / 256 % 256 : Nat) : Int)), ((((absorb S0 (padT t) q).c.toNat / 1 % 256 : Nat) : Int)), ((((absorb S0 (padT t) q).d.toNat / 16777216 % 256 : Nat) : Int)), 0, 0, 0, 0, 0, 0, 0, 0, 0, 0, 0, 0, 0, 0, 0, 0, 0, 0, 0])) 23 r156_27 rfl kj (Qam 5 _ _ g156 12 23 _ _ r156_27 rfl kj kj kj (show 12 < 32 by decide)) fun W28 p28 r156_28 => ?_
  have x28 := Puts.ext p28 x27 b156
  refine Qaj ?_
  refine hK197 _ _ ?_
  refine sgA kj ?_
  show Code.rounds _ _ _ 20 _ _
  show Code.wp _ _ (Exit.then (Code.rounds _ _ _ 19) _) _ _
  refine wp_seq_k fun K198 hK198 => ?_
  refine sgB kj ?_
  refine cond_true kj ?_
  refine wp_skip ?_
  refine hK198 _ _ ?_
  refine wp_seq_k fun K200 hK200 => ?_
  refine wp_block ?_
  refine Qad ?_
  refine sg 4 kj ?_
  have r7_28 := (Puts.row p28 r7_27 (Qaf r7_14_154 l156))
  refine Qaa (.int .u32 (wv (absorb S0 (padT t) q).d)) 242 rfl kj (Qah 113 _ g7 3 114 _ (.int .u32 (wv (absorb S0 (padT t) q).d)) _ r7_28 rfl kj kj kj) ?_
  refine sg 5 kj ?_
  refine Qaa (.int .u32 (wv (((absorb S0 (padT t) q).d) >>> 16))) 248 rfl kj (Qay .shr _ _ _ _ .u32 .u64 _ _ _ rfl kj kj (QaH _ _ _ _ _ _ (by decide) (QaP _ _ 16 rfl (by decide)))) ?_
  refine Qaa (.int .u8 ((((absorb S0 (padT t) q).d.toNat / 65536 % 256 : Nat) : Int))) 249 rfl kj (Qag (u := .int .u8 (IntKind.u8.wrap (wv (((absorb S0 (padT t) q).d) >>> 16)))) kj (congrArg (Value.int .u8) (QaD (absorb S0 (padT t) q).d 16 65536 (by decide)))) ?_
  refine sg 1 kj ?_
  refine Qai g156 _ (ints .u8 ([((((absorb S0 (padT t) q).a.toNat / 16777216 % 256 : Nat) : Int)), ((((absorb S0 (padT t) q).a.toNat / 65536 % 256 : Nat) : Int)), ((((absorb S0 (padT t) q).a.toNat / 256 % 256 : Nat) : Int)), ((((absorb S0 (padT t) q).a.toNat / 1 % 256 : Nat) : Int)), ((((absorb S0 (padT t) q).b.toNat / 16777216 % 256 : Nat) : Int)), ((((absorb S0 (padT t) q).b.toNat / 65536 % 256 : Nat) : Int)), ((((absorb S0 (padT t) q).b.toNat / 256 % 256 : Nat) : Int)), ((((absorb S0 (padT t) q).b.toNat / 1 % 256 : Nat) : Int)), ((((absorb S0 (padT t) q).c.toNat / 16777216 % 256 : Nat) : Int)), ((((absorb S0 (padT t) q).c.toNat / 65536 % 256 : Nat) : Int)), ((((absorb S0 (padT t) q).c.toNat / 256 % 256 : Nat) : Int)), ((((absorb S0 (padT t) q).c.toNat / 1 % 256 : Nat) : Int)), ((((absorb S0 (padT t) q).d.toNat / 16777216 % 256 : Nat) : Int)), ((((absorb S0 (padT t) q).d.toNat / 65536 % 256 : Nat) : Int)), 0, 0, 0, 0, 0, 0, 0, 0, 0, 0, 0, 0, 0, 0, 0, 0, 0, 0])) 23 r156_28 rfl kj (Qam 5 _ _ g156 13 23 _ _ r156_28 rfl kj kj kj (show 13 < 32 by decide)) fun W29 p29 r156_29 => ?_
  have x29 := Puts.ext p29 x28 b156
  refine Qaj ?_
  refine hK200 _ _ ?_
  refine sgA kj ?_
  show Code.rounds _ _ _ 19 _ _
  show Code.wp _ _ (Exit.then (Code.rounds _ _ _ 18) _) _ _
  refine wp_seq_k fun K201 hK201 => ?_
  refine sgB kj ?_
  refine cond_true kj ?_
  refine wp_skip ?_
  refine hK201 _ _ ?_
  refine wp_seq_k fun K203 hK203 => ?_
  refine wp_block ?_
  refine Qad ?_
  refine sg 4 kj ?_
  have r7_29 := (Puts.row p29 r7_28 (Qaf r7_14_154 l156))
  refine Qaa (.int .u32 (wv (absorb S0 (padT t) q).d)) 242 rfl kj (Qah 113 _ g7 3 114 _ (.int .u32 (wv (absorb S0 (padT t) q).d)) _ r7_29 rfl kj kj kj) ?_
  refine sg 5 kj ?_
  refine Qaa (.int .u32 (wv (((absorb S0 (padT t) q).d) >>> 8))) 248 rfl kj (Qay .shr _ _ _ _ .u32 .u64 _ _ _ rfl kj kj (QaH _ _ _ _ _ _ (by decide) (QaP _ _ 8 rfl (by decide)))) ?_
  refine Qaa (.int .u8 ((((absorb S0 (padT t) q).d.toNat / 256 % 256 : Nat) : Int))) 249 rfl kj (Qag (u := .int .u8 (IntKind.u8.wrap (wv (((absorb S0 (padT t) q).d) >>> 8)))) kj (congrArg (Value.int .u8) (QaD (absorb S0 (padT t) q).d 8 256 (by decide)))) ?_
  refine sg 1 kj ?_
  refine Qai g156 _ (ints .u8 ([((((absorb S0 (padT t) q).a.toNat / 16777216 % 256 : Nat) : Int)), ((((absorb S0 (padT t) q).a.toNat / 65536 % 256 : Nat) : Int)), ((((absorb S0 (padT t) q).a.toNat / 256 % 256 : Nat) : Int)), ((((absorb S0 (padT t) q).a.toNat / 1 % 256 : Nat) : Int)), ((((absorb S0 (padT t) q).b.toNat / 16777216 % 256 : Nat) : Int)), ((((absorb S0 (padT t) q).b.toNat / 65536 % 256 : Nat) : Int)), ((((absorb S0 (padT t) q).b.toNat / 256 % 256 : Nat) : Int)), ((((absorb S0 (padT t) q).b.toNat / 1 % 256 : Nat) : Int)), ((((absorb S0 (padT t) q).c.toNat / 16777216 % 256 : Nat) : Int)), ((((absorb S0 (padT t) q).c.toNat / 65536 % 256 : Nat) : Int)), ((((absorb S0 (padT t) q).c.toNat / 256 % 256 : Nat) : Int)), ((((absorb S0 (padT t) q).c.toNat / 1 % 256 : Nat) : Int)), ((((absorb S0 (padT t) q).d.toNat / 16777216 % 256 : Nat) : Int)), ((((absorb S0 (padT t) q).d.toNat / 65536 % 256 : Nat) : Int)), ((((absorb S0 (padT t) q).d.toNat / 256 % 256 : Nat) : Int)), 0, 0, 0, 0, 0, 0, 0, 0, 0, 0, 0, 0, 0, 0, 0, 0, 0])) 23 r156_29 rfl kj (Qam 5 _ _ g156 14 23 _ _ r156_29 rfl kj kj kj (show 14 < 32 by decide)) fun W30 p30 r156_30 => ?_
  have x30 := Puts.ext p30 x29 b156
  refine Qaj ?_
  refine hK203 _ _ ?_
  refine sgA kj ?_
  show Code.rounds _ _ _ 18 _ _
  show Code.wp _ _ (Exit.then (Code.rounds _ _ _ 17) _) _ _
  refine wp_seq_k fun K204 hK204 => ?_
  refine sgB kj ?_
  refine cond_true kj ?_
  refine wp_skip ?_
  refine hK204 _ _ ?_
  refine wp_seq_k fun K206 hK206 => ?_
  refine wp_block ?_
  refine Qad ?_
  refine sg 4 kj ?_
  have r7_30 := (Puts.row p30 r7_29 (Qaf r7_14_154 l156))
  refine Qaa (.int .u32 (wv (absorb S0 (padT t) q).d)) 242 rfl kj (Qah 113 _ g7 3 114 _ (.int .u32 (wv (absorb S0 (padT t) q).d)) _ r7_30 rfl kj kj kj) ?_
  refine sg 5 kj ?_
  refine Qaa (.int .u32 (wv (((absorb S0 (padT t) q).d) >>> 0))) 248 rfl kj (Qay .shr _ _ _ _ .u32 .u64 _ _ _ rfl kj kj (QaH _ _ _ _ _ _ (by decide) (QaP _ _ 0 rfl (by decide)))) ?_
  refine Qaa (.int .u8 ((((absorb S0 (padT t) q).d.toNat / 1 % 256 : Nat) : Int))) 249 rfl kj (Qag (u := .int .u8 (IntKind.u8.wrap (wv (((absorb S0 (padT t) q).d) >>> 0)))) kj (congrArg (Value.int .u8) (QaD (absorb S0 (padT t) q).d 0 1 (by decide)))) ?_
  refine sg 1 kj ?_
  refine Qai g156 _ (ints .u8 ([((((absorb S0 (padT t) q).a.toNat / 16777216 % 256 : Nat) : Int)), ((((absorb S0 (padT t) q).a.toNat / 65536 % 256 : Nat) : Int)), ((((absorb S0 (padT t) q).a.toNat / 256 % 256 : Nat) : Int)), ((((absorb S0 (padT t) q).a.toNat / 1 % 256 : Nat) : Int)), ((((absorb S0 (padT t) q).b.toNat / 16777216 % 256 : Nat) : Int)), ((((absorb S0 (padT t) q).b.toNat / 65536 % 256 : Nat) : Int)), ((((absorb S0 (padT t) q).b.toNat / 256 % 256 : Nat) : Int)), ((((absorb S0 (padT t) q).b.toNat / 1 % 256 : Nat) : Int)), ((((absorb S0 (padT t) q).c.toNat / 16777216 % 256 : Nat) : Int)), ((((absorb S0 (padT t) q).c.toNat / 65536 % 256 : Nat) : Int)), ((((absorb S0 (padT t) q).c.toNat / 256 % 256 : Nat) : Int)), ((((absorb S0 (padT t) q).c.toNat / 1 % 256 : Nat) : Int)), ((((absorb S0 (padT t) q).d.toNat / 16777216 % 256 : Nat) : Int)), ((((absorb S0 (padT t) q).d.toNat / 65536 % 256 : Nat) : Int)), ((((absorb S0 (padT t) q).d.toNat / 256 % 256 : Nat) : Int)), ((((absorb S0 (padT t) q).d.toNat / 1 % 256 : Nat) : Int)), 0, 0, 0, 0, 0, 0, 0, 0, 0, 0, 0, 0, 0, 0, 0, 0])) 23 r156_30 rfl kj (Qam 5 _ _ g156 15 23 _ _ r156_30 rfl kj kj kj (show 15 < 32 by decide)) fun W31 p31 r156_31 => ?_
  have x31 := Puts.ext p31 x30 b156
  refine Qaj ?_
  refine hK206 _ _ ?_
  refine sgA kj ?_
  show Code.rounds _ _ _ 17 _ _
  show Code.wp _ _ (Exit.then (Code.rounds _ _ _ 16) _) _ _
  refine wp_seq_k fun K207 hK207 => ?_
  refine sgB kj ?_
  refine cond_true kj ?_
  refine wp_skip ?_
  refine hK207 _ _ ?_
  refine wp_seq_k fun K209 hK209 => ?_
  refine wp_block ?_
  refine Qad ?_
  refine sg 4 kj ?_
  have r7_31 := (Puts.row p31 r7_30 (Qaf r7_14_154 l156))
  refine Qaa (.int .u32 (wv (absorb S0 (padT t) q).e)) 242 rfl kj (Qah 113 _ g7 4 114 _ (.int .u32 (wv (absorb S0 (padT t) q).e)) _ r7_31 rfl kj kj kj) ?_
  refine sg 5 kj ?_
  refine Qaa (.int .u32 (wv (((absorb S0 (padT t) q).e) >>> 24))) 248 rfl kj (Qay .shr _ _ _ _ .u32 .u64 _ _ _ rfl kj kj (QaH _ _ _ _ _ _ (by decide) (QaP _ _ 24 rfl (by decide)))) ?_
  refine Qaa (.int .u8 ((((absorb S0 (padT t) q).e.toNat / 16777216 % 256 : Nat) : Int))) 249 rfl kj (Qag (u := .int .u8 (IntKind.u8.wrap (wv (((absorb S0 (padT t) q).e) >>> 24)))) kj (congrArg (Value.int .u8) (QaD (absorb S0 (padT t) q).e 24 16777216 (by decide)))) ?_
  refine sg 1 kj ?_
  refine Qai g156 _ (ints .u8 ([((((absorb S0 (padT t) q).a.toNat / 16777216 % 256 : Nat) : Int)), ((((absorb S0 (padT t) q).a.toNat / 65536 % 256 : Nat) : Int)), ((((absorb S0 (padT t) q).a.toNat / 256 % 256 : Nat) : Int)), ((((absorb S0 (padT t) q).a.toNat / 1 % 256 : Nat) : Int)), ((((absorb S0 (padT t) q).b.toNat / 16777216 % 256 : Nat) : Int)), ((((absorb S0 (padT t) q).b.toNat / 65536 % 256 : Nat) : Int)), ((((absorb S0 (padT t) q).b.toNat / 256 % 256 : Nat) : Int)), ((((absorb S0 (padT t) q).b.toNat / 1 % 256 : Nat) : Int)), ((((absorb S0 (padT t) q).c.toNat / 16777216 % 256 : Nat) : Int)), ((((absorb S0 (padT t) q).c.toNat / 65536 % 256 : Nat) : Int)), ((((absorb S0 (padT t) q).c.toNat / 256 % 256 : Nat) : Int)), ((((absorb S0 (padT t) q).c.toNat / 1 % 256 : Nat) : Int)), ((((absorb S0 (padT t) q).d.toNat / 16777216 % 256 : Nat) : Int)), ((((absorb S0 (padT t) q).d.toNat / 65536 % 256 : Nat) : Int)), ((((absorb S0 (padT t) q).d.toNat / 256 % 256 : Nat) : Int)), ((((absorb S0 (padT t) q).d.toNat / 1 % 256 : Nat) : Int)), ((((absorb S0 (padT t) q).e.toNat / 16777216 % 256 : Nat) : Int)), 0, 0, 0, 0, 0, 0, 0, 0, 0, 0, 0, 0, 0, 0, 0])) 23 r156_31 rfl kj (Qam 5 _ _ g156 16 23 _ _ r156_31 rfl kj kj kj (show 16 < 32 by decide)) fun W32 p32 r156_32 => ?_
  have x32 := Puts.ext p32 x31 b156
  refine Qaj ?_
  refine hK209 _ _ ?_
  refine sgA kj ?_
  show Code.rounds _ _ _ 16 _ _
  show Code.wp _ _ (Exit.then (Code.rounds _ _ _ 15) _) _ _
  refine wp_seq_k fun K210 hK210 => ?_
  refine sgB kj ?_
  refine cond_true kj ?_
  refine wp_skip ?_
  refine hK210 _ _ ?_
  refine wp_seq_k fun K212 hK212 => ?_
  refine wp_block ?_
  refine Qad ?_
  refine sg 4 kj ?_
  have r7_32 := (Puts.row p32 r7_31 (Qaf r7_14_154 l156))
  refine Qaa (.int .u32 (wv (absorb S0 (padT t) q).e)) 242 rfl kj (Qah 113 _ g7 4 114 _ (.int .u32 (wv (absorb S0 (padT t) q).e)) _ r7_32 rfl kj kj kj) ?_
  refine sg 5 kj ?_
  refine Qaa (.int .u32 (wv (((absorb S0 (padT t) q).e) >>> 16))) 248 rfl kj (Qay .shr _ _ _ _ .u32 .u64 _ _ _ rfl kj kj (QaH _ _ _ _ _ _ (by decide) (QaP _ _ 16 rfl (by decide)))) ?_
  refine Qaa (.int .u8 ((((absorb S0 (padT t) q).e.toNat / 65536 % 256 : Nat) : Int))) 249 rfl kj (Qag (u := .int .u8 (IntKind.u8.wrap (wv (((absorb S0 (padT t) q).e) >>> 16)))) kj (congrArg (Value.int .u8) (QaD (absorb S0 (padT t) q).e 16 65536 (by decide)))) ?_
  refine sg 1 kj ?_
  refine Qai g156 _ (ints .u8 ([((((absorb S0 (padT t) q).a.toNat / 16777216 % 256 : Nat) : Int)), ((((absorb S0 (padT t) q).a.toNat / 65536 % 256 : Nat) : Int)), ((((absorb S0 (padT t) q).a.toNat / 256 % 256 : Nat) : Int)), ((((absorb S0 (padT t) q).a.toNat / 1 % 256 : Nat) : Int)), ((((absorb S0 (padT t) q).b.toNat / 16777216 % 256 : Nat) : Int)), ((((absorb S0 (padT t) q).b.toNat / 65536 % 256 : Nat) : Int)), ((((absorb S0 (padT t) q).b.toNat / 256 % 256 : Nat) : Int)), ((((absorb S0 (padT t) q).b.toNat / 1 % 256 : Nat) : Int)), ((((absorb S0 (padT t) q).c.toNat / 16777216 % 256 : Nat) : Int)), ((((absorb S0 (padT t) q).c.toNat / 65536 % 256 : Nat) : Int)), ((((absorb S0 (padT t) q).c.toNat / 256 % 256 : Nat) : Int)), ((((absorb S0 (padT t) q).c.toNat / 1 % 256 : Nat) : Int)), ((((absorb S0 (padT t) q).d.toNat / 16777216 % 256 : Nat) : Int)), ((((absorb S0 (padT t) q).d.toNat / 65536 % 256 : Nat) : Int)), ((((absorb S0 (padT t) q).d.toNat / 256 % 256 : Nat) : Int)), ((((absorb S0 (padT t) q).d.toNat / 1 % 256 : Nat) : Int)), ((((absorb S0 (padT t) q).e.toNat / 16777216 % 256 : Nat) : Int)), ((((absorb S0 (padT t) q).e.toNat / 65536 % 256 : Nat) : Int)), 0, 0, 0, 0, 0, 0, 0, 0, 0, 0, 0, 0, 0, 0])) 23 r156_32 rfl kj (Qam 5 _ _ g156 17 23 _ _ r156_32 rfl kj kj kj (show 17 < 32 by decide)) fun W33 p33 r156_33 => ?_
  have x33 := Puts.ext p33 x32 b156
  refine Qaj ?_
  refine hK212 _ _ ?_
  refine sgA kj ?_
  show Code.rounds _ _ _ 15 _ _
  show Code.wp _ _ (Exit.then (Code.rounds _ _ _ 14) _) _ _
  refine wp_seq_k fun K213 hK213 => ?_
  refine sgB kj ?_
  refine cond_true kj ?_
  refine wp_skip ?_
  refine hK213 _ _ ?_
  refine wp_seq_k fun K215 hK215 => ?_
  refine wp_block ?_
  refine Qad ?_
  refine sg 4 kj ?_
  have r7_33 := (Puts.row p33 r7_32 (Qaf r7_14_154 l156))
  refine Qaa (.int .u32 (wv (absorb S0 (padT t) q).e)) 242 rfl kj (Qah 113 _ g7 4 114 _ (.int .u32 (wv (absorb S0 (padT t) q).e)) _ r7_33 rfl kj kj kj) ?_
  refine sg 5 kj ?_
  refine Qaa (.int .u32 (wv (((absorb S0 (padT t) q).e) >>> 8))) 248 rfl kj (Qay .shr _ _ _ _ .u32 .u64 _ _ _ rfl kj kj (QaH _ _ _ _ _ _ (by decide) (QaP _ _ 8 rfl (by decide)))) ?_
  refine Qaa (.int .u8 ((((absorb S0 (padT t) q).e.toNat / 256 % 256 : Nat) : Int))) 249 rfl kj (Qag (u := .int .u8 (IntKind.u8.wrap (wv (((absorb S0 (padT t) q).e) >>> 8)))) kj (congrArg (Value.int .u8) (QaD (absorb S0 (padT t) q).e 8 256 (by decide)))) ?_
  refine sg 1 kj ?_
  refine Qai g156 _ (ints .u8 ([((((absorb S0 (padT t) q).a.toNat / 16777216 % 256 : Nat) : Int)), ((((absorb S0 (padT t) q).a.toNat / 65536 % 256 : Nat) : Int)), ((((absorb S0 (padT t) q).a.toNat / 256 % 256 : Nat) : Int)), ((((absorb S0 (padT t) q).a.toNat / 1 % 256 : Nat) : Int)), ((((absorb S0 (padT t) q).b.toNat / 16777216 % 256 : Nat) : Int)), ((((absorb S0 (padT t) q).b.toNat / 65536 % 256 : Nat) : Int)), ((((absorb S0 (padT t) q).b.toNat / 256 % 256 : Nat) : Int)), ((((absorb S0 (padT t) q).b.toNat / 1 % 256 : Nat) : Int)), ((((absorb S0 (padT t) q).c.toNat / 16777216 % 256 : Nat) : Int)), ((((absorb S0 (padT t) q).c.toNat / 65536 % 256 : Nat) : Int)), ((((absorb S0 (padT t) q).c.toNat / 256 % 256 : Nat) : Int)), ((((absorb S0 (padT t) q).c.toNat / 1 % 256 : Nat) : Int)), ((((absorb S0 (padT t) q).d.toNat / 16777216 % 256 : Nat) : Int)), ((((absorb S0 (padT t) q).d.toNat / 65536 % 256 : Nat) : Int)), ((((absorb S0 (padT t) q).d.toNat / 256 % 256 : Nat) : Int)), ((((absorb S0 (padT t) q).d.toNat / 1 % 256 : Nat) : Int)), ((((absorb S0 (padT t) q).e.toNat / 16777216 % 256 : Nat) : Int)), ((((absorb S0 (padT t) q).e.toNat / 65536 % 256 : Nat) : Int)), ((((absorb S0 (padT t) q).e.toNat / 256 % 256 : Nat) : Int)), 0, 0, 0, 0, 0, 0, 0, 0, 0, 0, 0, 0, 0])) 23 r156_33 rfl kj (Qam 5 _ _ g156 18 23 _ _ r156_33 rfl kj kj kj (show 18 < 32 by decide)) fun W34 p34 r156_34 => ?_
  have x34 := Puts.ext p34 x33 b156
  refine Qaj ?_
  refine hK215 _ _ ?_
  refine sgA kj ?_
  show Code.rounds _ _ _ 14 _ _
  show Code.wp _ _ (Exit.then (Code.rounds _ _ _ 13) _) _ _
  refine wp_seq_k fun K216 hK216 => ?_
  refine sgB kj ?_
  refine cond_true kj ?_
  refine wp_skip ?_
  refine hK216 _ _ ?_
  refine wp_seq_k fun K218 hK218 => ?_
  refine wp_block ?_
  refine Qad ?_
  refine sg 4 kj ?_
  have r7_34 := (Puts.row p34 r7_33 (Qaf r7_14_154 l156))
  refine Qaa (.int .u32 (wv (absorb S0 (padT t) q).e)) 242 rfl kj (Qah 113 _ g7 4 114 _ (.int .u32 (wv (absorb S0 (padT t) q).e)) _ r7_34 rfl kj kj kj) ?_
  refine sg 5 kj ?_
  refine Qaa (.int .u32 (wv (((absorb S0 (padT t) q).e) >>> 0))) 248 rfl kj (Qay .shr _ _ _ _ .u32 .u64 _ _ _ rfl kj kj (QaH _ _ _ _ _ _ (by decide) (QaP _ _ 0 rfl (by decide)))) ?_
  refine Qaa (.int .u8 ((((absorb S0 (padT t) q).e.toNat / 1 % 256 : Nat) : Int))) 249 rfl kj (Qag (u := .int .u8 (IntKind.u8.wrap (wv (((absorb S0 (padT t) q).e) >>> 0)))) kj (congrArg (Value.int .u8) (QaD (absorb S0 (padT t) q).e 0 1 (by decide)))) ?_
  refine sg 1 kj ?_
  refine Qai g156 _ (ints .u8 ([((((absorb S0 (padT t) q).a.toNat / 16777216 % 256 : Nat) : Int)), ((((absorb S0 (padT t) q).a.toNat / 65536 % 256 : Nat) : Int)), ((((absorb S0 (padT t) q).a.toNat / 256 % 256 : Nat) : Int)), ((((absorb S0 (padT t) q).a.toNat / 1 % 256 : Nat) : Int)), ((((absorb S0 (padT t) q).b.toNat / 16777216 % 256 : Nat) : Int)), ((((absorb S0 (padT t) q).b.toNat / 65536 % 256 : Nat) : Int)), ((((absorb S0 (padT t) q).b.toNat / 256 % 256 : Nat) : Int)), ((((absorb S0 (padT t) q).b.toNat / 1 % 256 : Nat) : Int)), ((((absorb S0 (padT t) q).c.toNat / 16777216 % 256 : Nat) : Int)), ((((absorb S0 (padT t) q).c.toNat / 65536 % 256 : Nat) : Int)), ((((absorb S0 (padT t) q).c.toNat / 256 % 256 : Nat) : Int)), ((((absorb S0 (padT t) q).c.toNat / 1 % 256 : Nat) : Int)), ((((absorb S0 (padT t) q).d.toNat / 16777216 % 256 : Nat) : Int)), ((((absorb S0 (padT t) q).d.toNat / 65536 % 256 : Nat) : Int)), ((((absorb S0 (padT t) q).d.toNat / 256 % 256 : Nat) : Int)), ((((absorb S0 (padT t) q).d.toNat / 1 % 256 : Nat) : Int)), ((((absorb S0 (padT t) q).e.toNat / 16777216 % 256 : Nat) : Int)), ((((absorb S0 (padT t) q).e.toNat / 65536 % 256 : Nat) : Int)), ((((absorb S0 (padT t) q).e.toNat / 256 % 256 : Nat) : Int)), ((((absorb S0 (padT t) q).e.toNat / 1 % 256 : Nat) : Int)), 0, 0, 0, 0, 0, 0, 0, 0, 0, 0, 0, 0])) 23 r156_34 rfl kj (Qam 5 _ _ g156 19 23 _ _ r156_34 rfl kj kj kj (show 19 < 32 by decide)) fun W35 p35 r156_35 => ?_
  have x35 := Puts.ext p35 x34 b156
  refine Qaj ?_
  refine hK218 _ _ ?_
  refine sgA kj ?_
  show Code.rounds _ _ _ 13 _ _
  show Code.wp _ _ (Exit.then (Code.rounds _ _ _ 12) _) _ _
  refine wp_seq_k fun K219 hK219 => ?_
  refine sgB kj ?_
  refine cond_true kj ?_
  refine wp_skip ?_
  refine hK219 _ _ ?_
  refine wp_seq_k fun K221 hK221 => ?_
  refine wp_block ?_
  refine Qad ?_
  refine sg 4 kj ?_
  have r7_35 := (Puts.row p35 r7_34 (Qaf r7_14_154 l156))
  refine Qaa (.int .u32 (wv (absorb S0 (padT t) q).f)) 242 rfl kj (Qah 113 _ g7 5 114 _ (.int .u32 (wv (absorb S0 (padT t) q).f)) _ r7_35 rfl kj kj kj) ?_
  refine sg 5 kj ?_
  refine Qaa (.int .u32 (wv (((absorb S0 (padT t) q).f) >>> 24))) 248 rfl kj (Qay .shr _ _ _ _ .u32 .u64 _ _ _ rfl kj kj (QaH _ _ _ _ _ _ (by decide) (QaP _ _ 24 rfl (by decide)))) ?_
  refine Qaa (.int .u8 ((((absorb S0 (padT t) q).f.toNat / 16777216 % 256 : Nat) : Int))) 249 rfl kj (Qag (u := .int .u8 (IntKind.u8.wrap (wv (((absorb S0 (padT t) q).f) >>> 24)))) kj (congrArg (Value.int .u8) (QaD (absorb S0 (padT t) q).f 24 16777216 (by decide)))) ?_
  refine sg 1 kj ?_
  refine Qai g156 _ (ints .u8 ([((((absorb S0 (padT t) q).a.toNat / 16777216 % 256 : Nat) : Int)), ((((absorb S0 (padT t) q).a.toNat / 65536 % 256 : Nat) : Int)), ((((absorb S0 (padT t) q).a.toNat / 256 % 256 : Nat) : Int)), ((((absorb S0 (padT t) q).a.toNat / 1 % 256 : Nat) : Int)), ((((absorb S0 (padT t) q).b.toNat / 16777216 % 256 : Nat) : Int)), ((((absorb S0 (padT t) q).b.toNat / 65536 % 256 : Nat) : Int)), ((((absorb S0 (padT t) q).b.toNat / 256 % 256 : Nat) : Int)), ((((absorb S0 (padT t) q).b.toNat / 1 % 256 : Nat) : Int)), ((((absorb S0 (padT t) q).c.toNat / 16777216 % 256 : Nat) : Int)), ((((absorb S0 (padT t) q).c.toNat / 65536 % 256 : Nat) : Int)), ((((absorb S0 (padT t) q).c.toNat / 256 % 256 : Nat) : Int)), ((((absorb S0 (padT t) q).c.toNat / 1 % 256 : Nat) : Int)), ((((absorb S0 (padT t) q).d.toNat / 16777216 % 256 : Nat) : Int)), ((((absorb S0 (padT t) q).d.toNat / 65536 % 256 : Nat) : Int)), ((((absorb S0 (padT t) q).d.toNat / 256 % 256 : Nat) : Int)), ((((absorb S0 (padT t) q).d.toNat / 1 % 256 : Nat) : Int)), ((((absorb S0 (padT t) q).e.toNat / 16777216 % 256 : Nat) : Int)), ((((absorb S0 (padT t) q).e.toNat / 65536 % 256 : Nat) : Int)), ((((absorb S0 (padT t) q).e.toNat / 256 % 256 : Nat) : Int)), ((((absorb S0 (padT t) q).e.toNat / 1 % 256 : Nat) : Int)), ((((absorb S0 (padT t) q).f.toNat / 16777216 % 256 : Nat) : Int)), 0, 0, 0, 0, 0, 0, 0, 0, 0, 0, 0])) 23 r156_35 rfl kj (Qam 5 _ _ g156 20 23 _ _ r156_35 rfl kj kj kj (show 20 < 32 by decide)) fun W36 p36 r156_36 => ?_
  refine Qaj ?_
  refine hK221 _ _ ?_
  refine sgA kj ?_
  show Code.rounds _ _ _ 12 _ _
  show Code.wp _ _ (Exit.then (Code.rounds _ _ _ 11) _) _ _
  refine wp_seq_k fun K222 hK222 => ?_
  refine sgB kj ?_
  refine cond_true kj ?_
  refine wp_skip ?_
  refine hK222 _ _ ?_
  refine wp_seq_k fun K224 hK224 => ?_
  refine wp_block ?_
  refine Qad ?_
  refine sg 4 kj ?_
  have r7_36 := (Puts.row p36 r7_35 (Qaf r7_14_154 l156))
  refine Qaa (.int .u32 (wv (absorb S0 (padT t) q).f)) 242 rfl kj (Qah 113 _ g7 5 114 _ (.int .u32 (wv (absorb S0 (padT t) q).f)) _ r7_36 rfl kj kj kj) ?_
  refine sg 5 kj ?_
  refine Qaa (.int .u32 (wv (((absorb S0 (padT t) q).f) >>> 16))) 248 rfl kj (Qay .shr _ _ _ _ .u32 .u64 _ _ _ rfl kj kj (QaH _ _ _ _ _ _ (by decide) (QaP _ _ 16 rfl (by decide)))) ?_
  refine Qaa (.int .u8 ((((absorb S0 (padT t) q).f.toNat / 65536 % 256 : Nat) : Int))) 249 rfl kj (Qag (u := .int .u8 (IntKind.u8.wrap (wv (((absorb S0 (padT t) q).f) >>> 16)))) kj (congrArg (Value.int .u8) (QaD (absorb S0 (padT t) q).f 16 65536 (by decide)))) ?_
  refine sg 1 kj ?_
  refine Qai g156 _ (ints .u8 ([((((absorb S0 (padT t) q).a.toNat / 16777216 % 256 : Nat) : Int)), ((((absorb S0 (padT t) q).a.toNat / 65536 % 256 : Nat) : Int)), ((((absorb S0 (padT t) q).a.toNat / 256 % 256 : Nat) : Int)), ((((absorb S0 (padT t) q).a.toNat / 1 % 256 : Nat) : Int)), ((((absorb S0 (padT t) q).b.toNat / 16777216 % 256 : Nat) : Int)), ((((absorb S0 (padT t) q).b.toNat / 65536 % 256 : Nat) : Int)), ((((absorb S0 (padT t) q).b.toNat / 256 % 256 : Nat) : Int)), ((((absorb S0 (padT t) q).b.toNat / 1 % 256 : Nat) : Int)), ((((absorb S0 (padT t) q).c.toNat / 16777216 % 256 : Nat) : Int)), ((((absorb S0 (padT t) q).c.toNat / 65536 % 256 : Nat) : Int)), ((((absorb S0 (padT t) q).c.toNat / 256 % 256 : Nat) : Int)), ((((absorb S0 (padT t) q).c.toNat / 1 % 256 : Nat) : Int)), ((((absorb S0 (padT t) q).d.toNat / 16777216 % 256 : Nat) : Int)), ((((absorb S0 (padT t) q).d.toNat / 65536 % 256 : Nat) : Int)), ((((absorb S0 (padT t) q).d.toNat / 256 % 256 : Nat) : Int)), ((((absorb S0 (padT t) q).d.toNat / 1 % 256 : Nat) : Int)), ((((absorb S0 (padT t) q).e.toNat / 16777216 % 256 : Nat) : Int)), ((((absorb S0 (padT t) q).e.toNat / 65536 % 256 : Nat) : Int)), ((((absorb S0 (padT t) q).e.toNat / 256 % 256 : Nat) : Int)), ((((absorb S0 (padT t) q).e.toNat / 1 % 256 : Nat) : Int)), ((((absorb S0 (padT t) q).f.toNat / 16777216 % 256 : Nat) : Int)), ((((absorb S0 (padT t) q).f.toNat / 65536 % 256 : Nat) : Int)), 0, 0, 0, 0, 0, 0, 0, 0, 0, 0])) 23 r156_36 rfl kj (Qam 5 _ _ g156 21 23 _ _ r156_36 rfl kj kj kj (show 21 < 32 by decide)) fun W37 p37 r156_37 => ?_
  refine Qaj ?_
  refine hK224 _ _ ?_
  refine sgA kj ?_
  show Code.rounds _ _ _ 11 _ _
  show Code.wp _ _ (Exit.then (Code.rounds _ _ _ 10) _) _ _
  refine wp_seq_k fun K225 hK225 => ?_
  refine sgB kj ?_
  refine cond_true kj ?_
  refine wp_skip ?_
  refine hK225 _ _ ?_
  refine wp_seq_k fun K227 hK227 => ?_
  refine wp_block ?_
  refine Qad ?_
  refine sg 4 kj ?_
  have r7_37 := (Puts.row p37 r7_36 (Qaf r7_14_154 l156))
  refine Qaa (.int .u32 (wv (absorb S0 (padT t) q).f)) 242 rfl kj (Qah 113 _ g7 5 114 _ (.int .u32 (wv (absorb S0 (padT t) q).f)) _ r7_37 rfl kj kj kj) ?_
  refine sg 5 kj ?_
  refine Qaa (.int .u32 (wv (((absorb S0 (padT t) q).f) >>> 8))) 248 rfl kj (Qay .shr _ _ _ _ .u32 .u64 _ _ _ rfl kj kj (QaH _ _ _ _ _ _ (by decide) (QaP _ _ 8 rfl (by decide)))) ?_
  refine Qaa (.int .u8 ((((absorb S0 (padT t) q).f.toNat / 256 % 256 : Nat) : Int))) 249 rfl kj (Qag (u := .int .u8 (IntKind.u8.wrap (wv (((absorb S0 (padT t) q).f) >>> 8)))) kj (congrArg (Value.int .u8) (QaD (absorb S0 (padT t) q).f 8 256 (by decide)))) ?_
  refine sg 1 kj ?_
  refine Qai g156 _ (ints .u8 ([((((absorb S0 (padT t) q).a.toNat / 16777216 % 256 : Nat) : Int)), ((((absorb S0 (padT t) q).a.toNat / 65536 % 256 : Nat) : Int)), ((((absorb S0 (padT t) q).a.toNat / 256 % 256 : Nat) : Int)), ((((absorb S0 (padT t) q).a.toNat / 1 % 256 : Nat) : Int)), ((((absorb S0 (padT t) q).b.toNat / 16777216 % 256 : Nat) : Int)), ((((absorb S0 (padT t) q).b.toNat / 65536 % 256 : Nat) : Int)), ((((absorb S0 (padT t) q).b.toNat / 256 % 256 : Nat) : Int)), ((((absorb S0 (padT t) q).b.toNat / 1 % 256 : Nat) : Int)), ((((absorb S0 (padT t) q).c.toNat / 16777216 % 256 : Nat) : Int)), ((((absorb S0 (padT t) q).c.toNat / 65536 % 256 : Nat) : Int)), ((((absorb S0 (padT t) q).c.toNat / 256 % 256 : Nat) : Int)), ((((absorb S0 (padT t) q).c.toNat / 1 % 256 : Nat) : Int)), ((((absorb S0 (padT t) q).d.toNat / 16777216 % 256 : Nat) : Int)), ((((absorb S0 (padT t) q).d.toNat / 65536 % 256 : Nat) : Int)), ((((absorb S0 (padT t) q).d.toNat / 256 % 256 : Nat) : Int)), ((((absorb S0 (padT t) q).d.toNat / 1 % 256 : Nat) : Int)), ((((absorb S0 (padT t) q).e.toNat / 16777216 % 256 : Nat) : Int)), ((((absorb S0 (padT t) q).e.toNat / 65536 % 256 : Nat) : Int)), ((((absorb S0 (padT t) q).e.toNat / 256 % 256 : Nat) : Int)), ((((absorb S0 (padT t) q).e.toNat / 1 % 256 : Nat) : Int)), ((((absorb S0 (padT t) q).f.toNat / 16777216 % 256 : Nat) : Int)), ((((absorb S0 (padT t) q).f.toNat / 65536 % 256 : Nat) : Int)), ((((absorb S0 (padT t) q).f.toNat / 256 % 256 : Nat) : Int)), 0, 0, 0, 0, 0, 0, 0, 0, 0])) 23 r156_37 rfl kj (Qam 5 _ _ g156 22 23 _ _ r156_37 rfl kj kj kj (show 22 < 32 by decide)) fun W38 p38 r156_38 => ?_
  refine Qaj ?_
  refine hK227 _ _ ?_
  refine sgA kj ?_
  show Code.rounds _ _ _ 10 _ _
  show Code.wp _ _ (Exit.then (Code.rounds _ _ _ 9) _) _ _
  refine wp_seq_k fun K228 hK228 => ?_
  refine sgB kj ?_
  refine cond_true kj ?_
  refine wp_skip ?_
  refine hK228 _ _ ?_
  refine wp_seq_k fun K230 hK230 => ?_
  refine wp_block ?_
  refine Qad ?_
  refine sg 4 kj ?_
  have r7_38 := (Puts.row p38 r7_37 (Qaf r7_14_154 l156))
  refine Qaa (.int .u32 (wv (absorb S0 (padT t) q).f)) 242 rfl kj (Qah 113 _ g7 5 114 _ (.int .u32 (wv (absorb S0 (padT t) q).f)) _ r7_38 rfl kj kj kj) ?_
  refine sg 5 kj ?_
  refine Qaa (.int .u32 (wv (((absorb S0 (padT t) q).f) >>> 0))) 248 rfl kj (Qay .shr _ _ _ _ .u32 .u64 _ _ _ rfl kj kj (QaH _ _ _ _ _ _ (by decide) (QaP _ _ 0 rfl (by decide)))) ?_
  refine Qaa (.int .u8 ((((absorb S0 (padT t) q).f.toNat / 1 % 256 : Nat) : Int))) 249 rfl kj (Qag (u := .int .u8 (IntKind.u8.wrap (wv (((absorb S0 (padT t) q).f) >>> 0)))) kj (congrArg (Value.int .u8) (QaD (absorb S0 (padT t) q).f 0 1 (by decide)))) ?_
  refine sg 1 kj ?_
  refine Qai g156 _ (ints .u8 ([((((absorb S0 (padT t) q).a.toNat / 16777216 % 256 : Nat) : Int)), ((((absorb S0 (padT t) q).a.toNat / 65536 % 256 : Nat) : Int)), ((((absorb S0 (padT t) q).a.toNat / 256 % 256 : Nat) : Int)), ((((absorb S0 (padT t) q).a.toNat / 1 % 256 : Nat) : Int)), ((((absorb S0 (padT t) q).b.toNat / 16777216 % 256 : Nat) : Int)), ((((absorb S0 (padT t) q).b.toNat / 65536 % 256 : Nat) : Int)), ((((absorb S0 (padT t) q).b.toNat / 256 % 256 : Nat) : Int)), ((((absorb S0 (padT t) q).b.toNat / 1 % 256 : Nat) : Int)), ((((absorb S0 (padT t) q).c.toNat / 16777216 % 256 : Nat) : Int)), ((((absorb S0 (padT t) q).c.toNat / 65536 % 256 : Nat) : Int)), ((((absorb S0 (padT t) q).c.toNat / 256 % 256 : Nat) : Int)), ((((absorb S0 (padT t) q).c.toNat / 1 % 256 : Nat) : Int)), ((((absorb S0 (padT t) q).d.toNat / 16777216 % 256 : Nat) : Int)), ((((absorb S0 (padT t) q).d.toNat / 65536 % 256 : Nat) : Int)), ((((absorb S0 (padT t) q).d.toNat / 256 % 256 : Nat) : Int)), ((((absorb S0 (padT t) q).d.toNat / 1 % 256 : Nat) : Int)), ((((absorb S0 (padT t) q).e.toNat / 16777216 % 256 : Nat) : Int)), ((((absorb S0 (padT t) q).e.toNat / 65536 % 256 : Nat) : Int)), ((((absorb S0 (padT t) q).e.toNat / 256 % 256 : Nat) : Int)), ((((absorb S0 (padT t) q).e.toNat / 1 % 256 : Nat) : Int)), ((((absorb S0 (padT t) q).f.toNat / 16777216 % 256 : Nat) : Int)), ((((absorb S0 (padT t) q).f.toNat / 65536 % 256 : Nat) : Int)), ((((absorb S0 (padT t) q).f.toNat / 256 % 256 : Nat) : Int)), ((((absorb S0 (padT t) q).f.toNat / 1 % 256 : Nat) : Int)), 0, 0, 0, 0, 0, 0, 0, 0])) 23 r156_38 rfl kj (Qam 5 _ _ g156 23 23 _ _ r156_38 rfl kj kj kj (show 23 < 32 by decide)) fun W39 p39 r156_39 => ?_
  refine Qaj ?_
  refine hK230 _ _ ?_
  refine sgA kj ?_
  show Code.rounds _ _ _ 9 _ _
  show Code.wp _ _ (Exit.then (Code.rounds _ _ _ 8) _) _ _
  refine wp_seq_k fun K231 hK231 => ?_
  refine sgB kj ?_
  refine cond_true kj ?_
  refine wp_skip ?_
  refine hK231 _ _ ?_
  refine wp_seq_k fun K233 hK233 => ?_
  refine wp_block ?_
  refine Qad ?_
  refine sg 4 kj ?_
  have r7_39 := (Puts.row p39 r7_38 (Qaf r7_14_154 l156))
  refine Qaa (.int .u32 (wv (absorb S0 (padT t) q).g)) 242 rfl kj (Qah 113 _ g7 6 114 _ (.int .u32 (wv (absorb S0 (padT t) q).g)) _ r7_39 rfl kj kj kj) ?_
  refine sg 5 kj ?_
  refine Qaa (.int .u32 (wv (((absorb S0 (padT t) q).g) >>> 24))) 248 rfl kj (Qay .shr _ _ _ _ .u32 .u64 _ _ _ rfl kj kj (QaH _ _ _ _ _ _ (by decide) (QaP _ _ 24 rfl (by decide)))) ?_
  refine Qaa (.int .u8 ((((absorb S0 (padT t) q).g.toNat / 16777216 % 256 : Nat) : Int))) 249 rfl kj (Qag (u := .int .u8 (IntKind.u8.wrap (wv (((absorb S0 (padT t) q).g) >>> 24)))) kj (congrArg (Value.int .u8) (QaD (absorb S0 (padT t) q).g 24 16777216 (by decide)))) ?_
  refine sg 1 kj ?_
  refine Qai g156 _ (ints .u8 ([((((absorb S0 (padT t) q).a.toNat / 16777216 % 256 : Nat) : Int)), ((((absorb S0 (padT t) q).a.toNat / 65536 % 256 : Nat) : Int)), ((((absorb S0 (padT t) q).a.toNat / 256 % 256 : Nat) : Int)), ((((absorb S0 (padT t) q).a.toNat / 1 % 256 : Nat) : Int)), ((((absorb S0 (padT t) q).b.toNat / 16777216 % 256 : Nat) : Int)), ((((absorb S0 (padT t) q).b.toNat / 65536 % 256 : Nat) : Int)), ((((absorb S0 (padT t) q).b.toNat / 256 % 256 : Nat) : Int)), ((((absorb S0 (padT t) q).b.toNat / 1 % 256 : Nat) : Int)), ((((absorb S0 (padT t) q).c.toNat / 16777216 % 256 : Nat) : Int)), ((((absorb S0 (padT t) q).c.toNat / 65536 % 256 : Nat) : Int)), ((((absorb S0 (padT t) q).c.toNat / 256 % 256 : Nat) : Int)), ((((absorb S0 (padT t) q).c.toNat / 1 % 256 : Nat) : Int)), ((((absorb S0 (padT t) q).d.toNat / 16777216 % 256 : Nat) : Int)), ((((absorb S0 (padT t) q).d.toNat / 65536 % 256 : Nat) : Int)), ((((absorb S0 (padT t) q).d.toNat / 256 % 256 : Nat) : Int)), ((((absorb S0 (padT t) q).d.toNat / 1 % 256 : Nat) : Int)), ((((absorb S0 (padT t) q).e.toNat / 16777216 % 256 : Nat) : Int)), ((((absorb S0 (padT t) q).e.toNat / 65536 % 256 : Nat) : Int)), ((((absorb S0 (padT t) q).e.toNat / 256 % 256 : Nat) : Int)), ((((absorb S0 (padT t) q).e.toNat / 1 % 256 : Nat) : Int)), ((((absorb S0 (padT t) q).f.toNat / 16777216 % 256 : Nat) : Int)), ((((absorb S0 (padT t) q).f.toNat / 65536 % 256 : Nat) : Int)), ((((absorb S0 (padT t) q).f.toNat / 256 % 256 : Nat) : Int)), ((((absorb S0 (padT t) q).f.toNat / 1 % 256 : Nat) : Int)), ((((absorb S0 (padT t) q).g.toNat / 16777216 % 256 : Nat) : Int)), 0, 0, 0, 0, 0, 0, 0])) 23 r156_39 rfl kj (Qam 5 _ _ g156 24 23 _ _ r156_39 rfl kj kj kj (show 24 < 32 by decide)) fun W40 p40 r156_40 => ?_
  refine Qaj ?_
  refine hK233 _ _ ?_
  refine sgA kj ?_
  show Code.rounds _ _ _ 8 _ _
  show Code.wp _ _ (Exit.then (Code.rounds _ _ _ 7) _) _ _
  refine wp_seq_k fun K234 hK234 => ?_
  refine sgB kj ?_
  refine cond_true kj ?_
  refine wp_skip ?_
  refine hK234 _ _ ?_
  refine wp_seq_k fun K236 hK236 => ?_
  refine wp_block ?_
  refine Qad ?_
  refine sg 4 kj ?_
  have r7_40 := (Puts.row p40 r7_39 (Qaf r7_14_154 l156))
  refine Qaa (.int .u32 (wv (absorb S0 (padT t) q).g)) 242 rfl kj (Qah 113 _ g7 6 114 _ (.int .u32 (wv (absorb S0 (padT t) q).g)) _ r7_40 rfl kj kj kj) ?_
  refine sg 5 kj ?_
  refine Qaa (.int .u32 (wv (((absorb S0 (padT t) q).g) >>> 16))) 248 rfl kj (Qay .shr _ _ _ _ .u32 .u64 _ _ _ rfl kj kj (QaH _ _ _ _ _ _ (by decide) (QaP _ _ 16 rfl (by decide)))) ?_
  refine Qaa (.int .u8 ((((absorb S0 (padT t) q).g.toNat / 65536 % 256 : Nat) : Int))) 249 rfl kj (Qag (u := .int .u8 (IntKind.u8.wrap (wv (((absorb S0 (padT t) q).g) >>> 16)))) kj (congrArg (Value.int .u8) (QaD (absorb S0 (padT t) q).g 16 65536 (by decide)))) ?_
  refine sg 1 kj ?_
  refine Qai g156 _ (ints .u8 ([((((absorb S0 (padT t) q).a.toNat / 16777216 % 256 : Nat) : Int)), ((((absorb S0 (padT t) q).a.toNat / 65536 % 256 : Nat) : Int)), ((((absorb S0 (padT t) q).a.toNat / 256 % 256 : Nat) : Int)), ((((absorb S0 (padT t) q).a.toNat / 1 % 256 : Nat) : Int)), ((((absorb S0 (padT t) q).b.toNat / 16777216 % 256 : Nat) : Int)), ((((absorb S0 (padT t) q).b.toNat / 65536 % 256 : Nat) : Int)), ((((absorb S0 (padT t) q).b.toNat / 256 % 256 : Nat) : Int)), ((((absorb S0 (padT t) q).b.toNat / 1 % 256 : Nat) : Int)), ((((absorb S0 (padT t) q).c.toNat / 16777216 % 256 : Nat) : Int)), ((((absorb S0 (padT t) q).c.toNat / 65536 % 256 : Nat) : Int)), ((((absorb S0 (padT t) q).c.toNat / 256 % 256 : Nat) : Int)), ((((absorb S0 (padT t) q).c.toNat / 1 % 256 : Nat) : Int)), ((((absorb S0 (padT t) q).d.toNat / 16777216 % 256 : Nat) : Int)), ((((absorb S0 (padT t) q).d.toNat / 65536 % 256 : Nat) : Int)), ((((absorb S0 (padT t) q).d.toNat / 256 % 256 : Nat) : Int)), ((((absorb S0 (padT t) q).d.toNat / 1 % 256 : Nat) : Int)), ((((absorb S0 (padT t) q).e.toNat / 16777216 % 256 : Nat) : Int)), ((((absorb S0 (padT t) q).e.toNat / 65536 % 256 : Nat) : Int)), ((((absorb S0 (padT t) q).e.toNat / 256 % 256 : Nat) : Int)), ((((absorb S0 (padT t) q).e.toNat / 1 % 256 : Nat) : Int)), ((((absorb S0 (padT t) q).f.toNat / 16777216 % 256 : Nat) : Int)), ((((absorb S0 (padT t) q).f.toNat / 65536 % 256 : Nat) : Int)), ((((absorb S0 (padT t) q).f.toNat / 256 % 256 : Nat) : Int)), ((((absorb S0 (padT t) q).f.toNat / 1 % 256 : Nat) : Int)), ((((absorb S0 (padT t) q).g.toNat / 16777216 % 256 : Nat) : Int)), ((((absorb S0 (padT t) q).g.toNat / 65536 % 256 : Nat) : Int)), 0, 0, 0, 0, 0, 0])) 23 r156_40 rfl kj (Qam 5 _ _ g156 25 23 _ _ r156_40 rfl kj kj kj (show 25 < 32 by decide)) fun W41 p41 r156_41 => ?_
  refine Qaj ?_
  refine hK236 _ _ ?_
  refine sgA kj ?_
  show Code.rounds _ _ _ 7 _ _
  show Code.wp _ _ (Exit.then (Code.rounds _ _ _ 6) _) _ _
  refine wp_seq_k fun K237 hK237 => ?_
  refine sgB kj ?_
  refine cond_true kj ?_
  refine wp_skip ?_
  refine hK237 _ _ ?_
  refine wp_seq_k fun K239 hK239 => ?_
  refine wp_block ?_
  refine Qad ?_
  refine sg 4 kj ?_
  have r7_41 := (Puts.row p41 r7_40 (Qaf r7_14_154 l156))
  refine Qaa (.int .u32 (wv (absorb S0 (padT t) q).g)) 242 rfl kj (Qah 113 _ g7 6 114 _ (.int .u32 (wv (absorb S0 (padT t) q).g)) _ r7_41 rfl kj kj kj) ?_
  refine sg 5 kj ?_
  refine Qaa (.int .u32 (wv (((absorb S0 (padT t) q).g) >>> 8))) 248 rfl kj (Qay .shr _ _ _ _ .u32 .u64 _ _ _ rfl kj kj (QaH _ _ _ _ _ _ (by decide) (QaP _ _ 8 rfl (by decide)))) ?_
  refine Qaa (.int .u8 ((((absorb S0 (padT t) q).g.toNat / 256 % 256 : Nat) : Int))) 249 rfl kj (Qag (u := .int .u8 (IntKind.u8.wrap (wv (((absorb S0 (padT t) q).g) >>> 8)))) kj (congrArg (Value.int .u8) (QaD (absorb S0 (padT t) q).g 8 256 (by decide)))) ?_
  refine sg 1 kj ?_
  refine Qai g156 _ (ints .u8 ([((((absorb S0 (padT t) q).a.toNat / 16777216 % 256 : Nat) : Int)), ((((absorb S0 (padT t) q).a.toNat / 65536 % 256 : Nat) : Int)), ((((absorb S0 (padT t) q).a.toNat / 256 % 256 : Nat) : Int)), ((((absorb S0 (padT t) q).a.toNat / 1 % 256 : Nat) : Int)), ((((absorb S0 (padT t) q).b.toNat / 16777216 % 256 : Nat) : Int)), ((((absorb S0 (padT t) q).b.toNat / 65536 % 256 : Nat) : Int)), ((((absorb S0 (padT t) q).b.toNat / 256 % 256 : Nat) : Int)), ((((absorb S0 (padT t) q).b.toNat / 1 % 256 : Nat) : Int)), ((((absorb S0 (padT t) q).c.toNat / 16777216 % 256 : Nat) : Int)), ((((absorb S0 (padT t) q).c.toNat / 65536 % 256 : Nat) : Int)), ((((absorb S0 (padT t) q).c.toNat / 256 % 256 : Nat) : Int)), ((((absorb S0 (padT t) q).c.toNat / 1 % 256 : Nat) : Int)), ((((absorb S0 (padT t) q).d.toNat / 16777216 % 256 : Nat) : Int)), ((((absorb S0 (padT t) q).d.toNat / 65536 % 256 : Nat) : Int)), ((((absorb S0 (padT t) q).d.toNat / 256 % 256 : Nat) : Int)), ((((absorb S0 (padT t) q).d.toNat / 1 % 256 : Nat) : Int)), ((((absorb S0 (padT t) q).e.toNat / 16777216 % 256 : Nat) : Int)), ((((absorb S0 (padT t) q).e.toNat / 65536 % 256 : Nat) : Int)), ((((absorb S0 (padT t) q).e.toNat / 256 % 256 : Nat) : Int)), ((((absorb S0 (padT t) q).e.toNat / 1 % 256 : Nat) : Int)), ((((absorb S0 (padT t) q).f.toNat / 16777216 % 256 : Nat) : Int)), ((((absorb S0 (padT t) q).f.toNat / 65536 % 256 : Nat) : Int)), ((((absorb S0 (padT t) q).f.toNat / 256 % 256 : Nat) : Int)), ((((absorb S0 (padT t) q).f.toNat / 1 % 256 : Nat) : Int)), ((((absorb S0 (padT t) q).g.toNat / 16777216 % 256 : Nat) : Int)), ((((absorb S0 (padT t) q).g.toNat / 65536 % 256 : Nat) : Int)), ((((absorb S0 (padT t) q).g.toNat / 256 % 256 : Nat) : Int)), 0, 0, 0, 0, 0])) 23 r156_41 rfl kj (Qam 5 _ _ g156 26 23 _ _ r156_41 rfl kj kj kj (show 26 < 32 by decide)) fun W42 p42 r156_42 => ?_
  refine Qaj ?_
  refine hK239 _ _ ?_
  refine sgA kj ?_
  show Code.rounds _ _ _ 6 _ _
  show Code.wp _ _ (Exit.then (Code.rounds _ _ _ 5) _) _ _
  refine wp_seq_k fun K240 hK240 => ?_
  refine sgB kj ?_
  refine cond_true kj ?_
  refine wp_skip ?_
  refine hK240 _ _ ?_
  refine wp_seq_k fun K242 hK242 => ?_
  refine wp_block ?_
  refine Qad ?_
  refine sg 4 kj ?_
  have r7_42 := (Puts.row p42 r7_41 (Qaf r7_14_154 l156))
  refine Qaa (.int .u32 (wv (absorb S0 (padT t) q).g)) 242 rfl kj (Qah 113 _ g7 6 114 _ (.int .u32 (wv (absorb S0 (padT t) q).g)) _ r7_42 rfl kj kj kj) ?_
  refine sg 5 kj ?_
  refine Qaa (.int .u32 (wv (((absorb S0 (padT t) q).g) >>> 0))) 248 rfl kj (Qay .shr _ _ _ _ .u32 .u64 _ _ _ rfl kj kj (QaH _ _ _ _ _ _ (by decide) (QaP _ _ 0 rfl (by decide)))) ?_
  refine Qaa (.int .u8 ((((absorb S0 (padT t) q).g.toNat / 1 % 256 : Nat) : Int))) 249 rfl kj (Qag (u := .int .u8 (IntKind.u8.wrap (wv (((absorb S0 (padT t) q).g) >>> 0)))) kj (congrArg (Value.int .u8) (QaD (absorb S0 (padT t) q).g 0 1 (by decide)))) ?_
  refine sg 1 kj ?_
  refine Qai g156 _ (ints .u8 ([((((absorb S0 (padT t) q).a.toNat / 16777216 % 256 : Nat) : Int)), ((((absorb S0 (padT t) q).a.toNat / 65536 % 256 : Nat) : Int)), ((((absorb S0 (padT t) q).a.toNat / 256 % 256 : Nat) : Int)), ((((absorb S0 (padT t) q).a.toNat / 1 % 256 : Nat) : Int)), ((((absorb S0 (padT t) q).b.toNat / 16777216 % 256 : Nat) : Int)), ((((absorb S0 (padT t) q).b.toNat / 65536 % 256 : Nat) : Int)), ((((absorb S0 (padT t) q).b.toNat / 256 % 256 : Nat) : Int)), ((((absorb S0 (padT t) q).b.toNat / 1 % 256 : Nat) : Int)), ((((absorb S0 (padT t) q).c.toNat / 16777216 % 256 : Nat) : Int)), ((((absorb S0 (padT t) q).c.toNat / 65536 % 256 : Nat) : Int)), ((((absorb S0 (padT t) q).c.toNat / 256 % 256 : Nat) : Int)), ((((absorb S0 (padT t) q).c.toNat / 1 % 256 : Nat) : Int)), ((((absorb S0 (padT t) q).d.toNat / 16777216 % 256 : Nat) : Int)), ((((absorb S0 (padT t) q).d.toNat / 65536 % 256 : Nat) : Int)), ((((absorb S0 (padT t) q).d.toNat / 256 % 256 : Nat) : Int)), ((((absorb S0 (padT t) q).d.toNat / 1 % 256 : Nat) : Int)), ((((absorb S0 (padT t) q).e.toNat / 16777216 % 256 : Nat) : Int)), ((((absorb S0 (padT t) q).e.toNat / 65536 % 256 : Nat) : Int)), ((((absorb S0 (padT t) q).e.toNat / 256 % 256 : Nat) : Int)), ((((absorb S0 (padT t) q).e.toNat / 1 % 256 : Nat) : Int)), ((((absorb S0 (padT t) q).f.toNat / 16777216 % 256 : Nat) : Int)), ((((absorb S0 (padT t) q).f.toNat / 65536 % 256 : Nat) : Int)), ((((absorb S0 (padT t) q).f.toNat / 256 % 256 : Nat) : Int)), ((((absorb S0 (padT t) q).f.toNat / 1 % 256 : Nat) : Int)), ((((absorb S0 (padT t) q).g.toNat / 16777216 % 256 : Nat) : Int)), ((((absorb S0 (padT t) q).g.toNat / 65536 % 256 : Nat) : Int)), ((((absorb S0 (padT t) q).g.toNat / 256 % 256 : Nat) : Int)), ((((absorb S0 (padT t) q).g.toNat / 1 % 256 : Nat) : Int)), 0, 0, 0, 0])) 23 r156_42 rfl kj (Qam 5 _ _ g156 27 23 _ _ r156_42 rfl kj kj kj (show 27 < 32 by decide)) fun W43 p43 r156_43 => ?_
  refine Qaj ?_
  refine hK242 _ _ ?_
  refine sgA kj ?_
  show Code.rounds _ _ _ 5 _ _
  show Code.wp _ _ (Exit.then (Code.rounds _ _ _ 4) _) _ _
  refine wp_seq_k fun K243 hK243 => ?_
  refine sgB kj ?_
  refine cond_true kj ?_
  refine wp_skip ?_
  refine hK243 _ _ ?_
  refine wp_seq_k fun K245 hK245 => ?_
  refine wp_block ?_
  refine Qad ?_
  refine sg 4 kj ?_
  have r7_43 := (Puts.row p43 r7_42 (Qaf r7_14_154 l156))
  refine Qaa (.int .u32 (wv (absorb S0 (padT t) q).h)) 242 rfl kj (Qah 113 _ g7 7 114 _ (.int .u32 (wv (absorb S0 (padT t) q).h)) _ r7_43 rfl kj kj kj) ?_
  refine sg 5 kj ?_
  refine Qaa (.int .u32 (wv (((absorb S0 (padT t) q).h) >>> 24))) 248 rfl kj (Qay .shr _ _ _ _ .u32 .u64 _ _ _ rfl kj kj (QaH _ _ _ _ _ _ (by decide) (QaP _ _ 24 rfl (by decide)))) ?_
  refine Qaa (.int .u8 ((((absorb S0 (padT t) q).h.toNat / 16777216 % 256 : Nat) : Int))) 249 rfl kj (Qag (u := .int .u8 (IntKind.u8.wrap (wv (((absorb S0 (padT t) q).h) >>> 24)))) kj (congrArg (Value.int .u8) (QaD (absorb S0 (padT t) q).h 24 16777216 (by decide)))) ?_
  refine sg 1 kj ?_
  refine Qai g156 _ (ints .u8 ([((((absorb S0 (padT t) q).a.toNat / 16777216 % 256 : Nat) : Int)), ((((absorb S0 (padT t) q).a.toNat / 65536 % 256 : Nat) : Int)), ((((absorb S0 (padT t) q).a.toNat / 256 % 256 : Nat) : Int)), ((((absorb S0 (padT t) q).a.toNat / 1 % 256 : Nat) : Int)), ((((absorb S0 (padT t) q).b.toNat / 16777216 % 256 : Nat) : Int)), ((((absorb S0 (padT t) q).b.toNat / 65536 % 256 : Nat) : Int)), ((((absorb S0 (padT t) q).b.toNat / 256 % 256 : Nat) : Int)), ((((absorb S0 (padT t) q).b.toNat / 1 % 256 : Nat) : Int)), ((((absorb S0 (padT t) q).c.toNat / 16777216 % 256 : Nat) : Int)), ((((absorb S0 (padT t) q).c.toNat / 65536 % 256 : Nat) : Int)), ((((absorb S0 (padT t) q).c.toNat / 256 % 256 : Nat) : Int)), ((((absorb S0 (padT t) q).c.toNat / 1 % 256 : Nat) : Int)), ((((absorb S0 (padT t) q).d.toNat / 16777216 % 256 : Nat) : Int)), ((((absorb S0 (padT t) q).d.toNat / 65536 % 256 : Nat) : Int)), ((((absorb S0 (padT t) q).d.toNat / 256 % 256 : Nat) : Int)), ((((absorb S0 (padT t) q).d.toNat / 1 % 256 : Nat) : Int)), ((((absorb S0 (padT t) q).e.toNat / 16777216 % 256 : Nat) : Int)), ((((absorb S0 (padT t) q).e.toNat / 65536 % 256 : Nat) : Int)), ((((absorb S0 (padT t) q).e.toNat / 256 % 256 : Nat) : Int)), ((((absorb S0 (padT t) q).e.toNat / 1 % 256 : Nat) : Int)), ((((absorb S0 (padT t) q).f.toNat / 16777216 % 256 : Nat) : Int)), ((((absorb S0 (padT t) q).f.toNat / 65536 % 256 : Nat) : Int)), ((((absorb S0 (padT t) q).f.toNat / 256 % 256 : Nat) : Int)), ((((absorb S0 (padT t) q).f.toNat / 1 % 256 : Nat) : Int)), ((((absorb S0 (padT t) q).g.toNat / 16777216 % 256 : Nat) : Int)), ((((absorb S0 (padT t) q).g.toNat / 65536 % 256 : Nat) : Int)), ((((absorb S0 (padT t) q).g.toNat / 256 % 256 : Nat) : Int)), ((((absorb S0 (padT t) q).g.toNat / 1 % 256 : Nat) : Int)), ((((absorb S0 (padT t) q).h.toNat / 16777216 % 256 : Nat) : Int)), 0, 0, 0])) 23 r156_43 rfl kj (Qam 5 _ _ g156 28 23 _ _ r156_43 rfl kj kj kj (show 28 < 32 by decide)) fun W44 p44 r156_44 => ?_
  refine Qaj ?_
  refine hK245 _ _ ?_
  refine sgA kj ?_
  show Code.rounds _ _ _ 4 _ _
  show Code.wp _ _ (Exit.then (Code.rounds _ _ _ 3) _) _ _
  refine wp_seq_k fun K246 hK246 => ?_
  refine sgB kj ?_
  refine cond_true kj ?_
  refine wp_skip ?_
  refine hK246 _ _ ?_
  refine wp_seq_k fun K248 hK248 => ?_
  refine wp_block ?_
  refine Qad ?_
  refine sg 4 kj ?_
  have r7_44 := (Puts.row p44 r7_43 (Qaf r7_14_154 l156))
  refine Qaa (.int .u32 (wv (absorb S0 (padT t) q).h)) 242 rfl kj (Qah 113 _ g7 7 114 _ (.int .u32 (wv (absorb S0 (padT t) q).h)) _ r7_44 rfl kj kj kj) ?_
  refine sg 5 kj ?_
  refine Qaa (.int .u32 (wv (((absorb S0 (padT t) q).h) >>> 16))) 248 rfl kj (Qay .shr _ _ _ _ .u32 .u64 _ _ _ rfl kj kj (QaH _ _ _ _ _ _ (by decide) (QaP _ _ 16 rfl (by decide)))) ?_
  refine Qaa (.int .u8 ((((absorb S0 (padT t) q).h.toNat / 65536 % 256 : Nat) : Int))) 249 rfl kj (Qag (u := .int .u8 (IntKind.u8.wrap (wv (((absorb S0 (padT t) q).h) >>> 16)))) kj (congrArg (Value.int .u8) (QaD (absorb S0 (padT t) q).h 16 65536 (by decide)))) ?_
  refine sg 1 kj ?_
  refine Qai g156 _ (ints .u8 ([((((absorb S0 (padT t) q).a.toNat / 16777216 % 256 : Nat) : Int)), ((((absorb S0 (padT t) q).a.toNat / 65536 % 256 : Nat) : Int)), ((((absorb S0 (padT t) q).a.toNat / 256 % 256 : Nat) : Int)), ((((absorb S0 (padT t) q).a.toNat / 1 % 256 : Nat) : Int)), ((((absorb S0 (padT t) q).b.toNat / 16777216 % 256 : Nat) : Int)), ((((absorb S0 (padT t) q).b.toNat / 65536 % 256 : Nat) : Int)), ((((absorb S0 (padT t) q).b.toNat / 256 % 256 : Nat) : Int)), ((((absorb S0 (padT t) q).b.toNat / 1 % 256 : Nat) : Int)), ((((absorb S0 (padT t) q).c.toNat / 16777216 % 256 : Nat) : Int)), ((((absorb S0 (padT t) q).c.toNat / 65536 % 256 : Nat) : Int)), ((((absorb S0 (padT t) q).c.toNat / 256 % 256 : Nat) : Int)), ((((absorb S0 (padT t) q).c.toNat / 1 % 256 : Nat) : Int)), ((((absorb S0 (padT t) q).d.toNat / 16777216 % 256 : Nat) : Int)), ((((absorb S0 (padT t) q).d.toNat / 65536 % 256 : Nat) : Int)), ((((absorb S0 (padT t) q).d.toNat / 256 % 256 : Nat) : Int)), ((((absorb S0 (padT t) q).d.toNat / 1 % 256 : Nat) : Int)), ((((absorb S0 (padT t) q).e.toNat / 16777216 % 256 : Nat) : Int)), ((((absorb S0 (padT t) q).e.toNat / 65536 % 256 : Nat) : Int)), ((((absorb S0 (padT t) q).e.toNat / 256 % 256 : Nat) : Int)), ((((absorb S0 (padT t) q).e.toNat / 1 % 256 : Nat) : Int)), ((((absorb S0 (padT t) q).f.toNat / 16777216 % 256 : Nat) : Int)), ((((absorb S0 (padT t) q).f.toNat / 65536 % 256 : Nat) : Int)), ((((absorb S0 (padT t) q).f.toNat / 256 % 256 : Nat) : Int)), ((((absorb S0 (padT t) q).f.toNat / 1 % 256 : Nat) : Int)), ((((absorb S0 (padT t) q).g.toNat / 16777216 % 256 : Nat) : Int)), ((((absorb S0 (padT t) q).g.toNat / 65536 % 256 : Nat) : Int)), ((((absorb S0 (padT t) q).g.toNat / 256 % 256 : Nat) : Int)), ((((absorb S0 (padT t) q).g.toNat / 1 % 256 : Nat) : Int)), ((((absorb S0 (padT t) q).h.toNat / 16777216 % 256 : Nat) : Int)), ((((absorb S0 (padT t) q).h.toNat / 65536 % 256 : Nat) : Int)), 0, 0])) 23 r156_44 rfl kj (Qam 5 _ _ g156 29 23 _ _ r156_44 rfl kj kj kj (show 29 < 32 by decide)) fun W45 p45 r156_45 => ?_
  refine Qaj ?_
  refine hK248 _ _ ?_
  refine sgA kj ?_
  show Code.rounds _ _ _ 3 _ _
  show Code.wp _ _ (Exit.then (Code.rounds _ _ _ 2) _) _ _
  refine wp_seq_k fun K249 hK249 => ?_
  refine sgB kj ?_
  refine cond_true kj ?_
  refine wp_skip ?_
  refine hK249 _ _ ?_
  refine wp_seq_k fun K251 hK251 => ?_
  refine wp_block ?_
  refine Qad ?_
  refine sg 4 kj ?_
  have r7_45 := (Puts.row p45 r7_44 (Qaf r7_14_154 l156))
  refine Qaa (.int .u32 (wv (absorb S0 (padT t) q).h)) 242 rfl kj (Qah 113 _ g7 7 114 _ (.int .u32 (wv (absorb S0 (padT t) q).h)) _ r7_45 rfl kj kj kj) ?_
  refine sg 5 kj ?_
  refine Qaa (.int .u32 (wv (((absorb S0 (padT t) q).h) >>> 8))) 248 rfl kj (Qay .shr _ _ _ _ .u32 .u64 _ _ _ rfl kj kj (QaH _ _ _ _ _ _ (by decide) (QaP _ _ 8 rfl (by decide)))) ?_
  refine Qaa (.int .u8 ((((absorb S0 (padT t) q).h.toNat / 256 % 256 : Nat) : Int))) 249 rfl kj (Qag (u := .int .u8 (IntKind.u8.wrap (wv (((absorb S0 (padT t) q).h) >>> 8)))) kj (congrArg (Value.int .u8) (QaD (absorb S0 (padT t) q).h 8 256 (by decide)))) ?_
  refine sg 1 kj ?_
  refine Qai g156 _ (ints .u8 ([((((absorb S0 (padT t) q).a.toNat / 16777216 % 256 : Nat) : Int)), ((((absorb S0 (padT t) q).a.toNat / 65536 % 256 : Nat) : Int)), ((((absorb S0 (padT t) q).a.toNat / 256 % 256 : Nat) : Int)), ((((absorb S0 (padT t) q).a.toNat / 1 % 256 : Nat) : Int)), ((((absorb S0 (padT t) q).b.toNat / 16777216 % 256 : Nat) : Int)), ((((absorb S0 (padT t) q).b.toNat / 65536 % 256 : Nat) : Int)), ((((absorb S0 (padT t) q).b.toNat / 256 % 256 : Nat) : Int)), ((((absorb S0 (padT t) q).b.toNat / 1 % 256 : Nat) : Int)), ((((absorb S0 (padT t) q).c.toNat / 16777216 % 256 : Nat) : Int)), ((((absorb S0 (padT t) q).c.toNat / 65536 % 256 : Nat) : Int)), ((((absorb S0 (padT t) q).c.toNat / 256 % 256 : Nat) : Int)), ((((absorb S0 (padT t) q).c.toNat / 1 % 256 : Nat) : Int)), ((((absorb S0 (padT t) q).d.toNat / 16777216 % 256 : Nat) : Int)), ((((absorb S0 (padT t) q).d.toNat / 65536 % 256 : Nat) : Int)), ((((absorb S0 (padT t) q).d.toNat / 256 % 256 : Nat) : Int)), ((((absorb S0 (padT t) q).d.toNat / 1 % 256 : Nat) : Int)), ((((absorb S0 (padT t) q).e.toNat / 16777216 % 256 : Nat) : Int)), ((((absorb S0 (padT t) q).e.toNat / 65536 % 256 : Nat) : Int)), ((((absorb S0 (padT t) q).e.toNat / 256 % 256 : Nat) : Int)), ((((absorb S0 (padT t) q).e.toNat / 1 % 256 : Nat) : Int)), ((((absorb S0 (padT t) q).f.toNat / 16777216 % 256 : Nat) : Int)), ((((absorb S0 (padT t) q).f.toNat / 65536 % 256 : Nat) : Int)), ((((absorb S0 (padT t) q).f.toNat / 256 % 256 : Nat) : Int)), ((((absorb S0 (padT t) q).f.toNat / 1 % 256 : Nat) : Int)), ((((absorb S0 (padT t) q).g.toNat / 16777216 % 256 : Nat) : Int)), ((((absorb S0 (padT t) q).g.toNat / 65536 % 256 : Nat) : Int)), ((((absorb S0 (padT t) q).g.toNat / 256 % 256 : Nat) : Int)), ((((absorb S0 (padT t) q).g.toNat / 1 % 256 : Nat) : Int)), ((((absorb S0 (padT t) q).h.toNat / 16777216 % 256 : Nat) : Int)), ((((absorb S0 (padT t) q).h.toNat / 65536 % 256 : Nat) : Int)), ((((absorb S0 (padT t) q).h.toNat / 256 % 256 : Nat) : Int)), 0])) 23 r156_45 rfl kj (Qam 5 _ _ g156 30 23 _ _ r156_45 rfl kj kj kj (show 30 < 32 by decide)) fun W46 p46 r156_46 => ?_
  refine Qaj ?_
  refine hK251 _ _ ?_
  refine sgA kj ?_
  show Code.rounds _ _ _ 2 _ _
  show Code.wp _ _ (Exit.then (Code.rounds _ _ _ 1) _) _ _
  refine wp_seq_k fun K252 hK252 => ?_
  refine sgB kj ?_
  refine cond_true kj ?_
  refine wp_skip ?_
  refine hK252 _ _ ?_
  refine wp_seq_k fun K254 hK254 => ?_
  refine wp_block ?_
  refine Qad ?_
  refine sg 4 kj ?_
  refine Qaa (.int .u32 (wv (absorb S0 (padT t) q).h)) 242 rfl kj (Qah 113 _ g7 7 114 _ (.int .u32 (wv (absorb S0 (padT t) q).h)) _ (Puts.row p46 r7_45 (Qaf r7_14_154 l156)) rfl kj kj kj) ?_
  refine sg 5 kj ?_
  refine Qaa (.int .u32 (wv (((absorb S0 (padT t) q).h) >>> 0))) 248 rfl kj (Qay .shr _ _ _ _ .u32 .u64 _ _ _ rfl kj kj (QaH _ _ _ _ _ _ (by decide) (QaP _ _ 0 rfl (by decide)))) ?_
  refine Qaa (.int .u8 ((((absorb S0 (padT t) q).h.toNat / 1 % 256 : Nat) : Int))) 249 rfl kj (Qag (u := .int .u8 (IntKind.u8.wrap (wv (((absorb S0 (padT t) q).h) >>> 0)))) kj (congrArg (Value.int .u8) (QaD (absorb S0 (padT t) q).h 0 1 (by decide)))) ?_
  refine sg 1 kj ?_
  refine Qai g156 _ (ints .u8 ([((((absorb S0 (padT t) q).a.toNat / 16777216 % 256 : Nat) : Int)), ((((absorb S0 (padT t) q).a.toNat / 65536 % 256 : Nat) : Int)), ((((absorb S0 (padT t) q).a.toNat / 256 % 256 : Nat) : Int)), ((((absorb S0 (padT t) q).a.toNat / 1 % 256 : Nat) : Int)), ((((absorb S0 (padT t) q).b.toNat / 16777216 % 256 : Nat) : Int)), ((((absorb S0 (padT t) q).b.toNat / 65536 % 256 : Nat) : Int)), ((((absorb S0 (padT t) q).b.toNat / 256 % 256 : Nat) : Int)), ((((absorb S0 (padT t) q).b.toNat / 1 % 256 : Nat) : Int)), ((((absorb S0 (padT t) q).c.toNat / 16777216 % 256 : Nat) : Int)), ((((absorb S0 (padT t) q).c.toNat / 65536 % 256 : Nat) : Int)), ((((absorb S0 (padT t) q).c.toNat / 256 % 256 : Nat) : Int)), ((((absorb S0 (padT t) q).c.toNat / 1 % 256 : Nat) : Int)), ((((absorb S0 (padT t) q).d.toNat / 16777216 % 256 : Nat) : Int)), ((((absorb S0 (padT t) q).d.toNat / 65536 % 256 : Nat) : Int)), ((((absorb S0 (padT t) q).d.toNat / 256 % 256 : Nat) : Int)), ((((absorb S0 (padT t) q).d.toNat / 1 % 256 : Nat) : Int)), ((((absorb S0 (padT t) q).e.toNat / 16777216 % 256 : Nat) : Int)), ((((absorb S0 (padT t) q).e.toNat / 65536 % 256 : Nat) : Int)), ((((absorb S0 (padT t) q).e.toNat / 256 % 256 : Nat) : Int)), ((((absorb S0 (padT t) q).e.toNat / 1 % 256 : Nat) : Int)), ((((absorb S0 (padT t) q).f.toNat / 16777216 % 256 : Nat) : Int)), ((((absorb S0 (padT t) q).f.toNat / 65536 % 256 : Nat) : Int)), ((((absorb S0 (padT t) q).f.toNat / 256 % 256 : Nat) : Int)), ((((absorb S0 (padT t) q).f.toNat / 1 % 256 : Nat) : Int)), ((((absorb S0 (padT t) q).g.toNat / 16777216 % 256 : Nat) : Int)), ((((absorb S0 (padT t) q).g.toNat / 65536 % 256 : Nat) : Int)), ((((absorb S0 (padT t) q).g.toNat / 256 % 256 : Nat) : Int)), ((((absorb S0 (padT t) q).g.toNat / 1 % 256 : Nat) : Int)), ((((absorb S0 (padT t) q).h.toNat / 16777216 % 256 : Nat) : Int)), ((((absorb S0 (padT t) q).h.toNat / 65536 % 256 : Nat) : Int)), ((((absorb S0 (padT t) q).h.toNat / 256 % 256 : Nat) : Int)), ((((absorb S0 (padT t) q).h.toNat / 1 % 256 : Nat) : Int))])) 23 r156_46 rfl kj (Qam 5 _ _ g156 31 23 _ _ r156_46 rfl kj kj kj (show 31 < 32 by decide)) fun W47 p47 r156_47 => ?_
  refine Qaj ?_
  refine hK254 _ _ ?_
  refine sgA kj ?_
  show Code.rounds _ _ _ 1 _ _
  show Code.wp _ _ (Exit.then (Code.rounds _ _ _ 0) _) _ _
  refine wp_seq_k fun K255 hK255 => ?_
  refine sgB kj ?_
  refine cond_false kj ?_
  refine wp_exit ?_
  refine hK157 _ _ ?_
  refine sgC fun K257 hK257 => ?_
  refine Qaa (.agg (ints .u8 ([((((absorb S0 (padT t) q).a.toNat / 16777216 % 256 : Nat) : Int)), ((((absorb S0 (padT t) q).a.toNat / 65536 % 256 : Nat) : Int)), ((((absorb S0 (padT t) q).a.toNat / 256 % 256 : Nat) : Int)), ((((absorb S0 (padT t) q).a.toNat / 1 % 256 : Nat) : Int)), ((((absorb S0 (padT t) q).b.toNat / 16777216 % 256 : Nat) : Int)), ((((absorb S0 (padT t) q).b.toNat / 65536 % 256 : Nat) : Int)), ((((absorb S0 (padT t) q).b.toNat / 256 % 256 : Nat) : Int)), ((((absorb S0 (padT t) q).b.toNat / 1 % 256 : Nat) : Int)), ((((absorb S0 (padT t) q).c.toNat / 16777216 % 256 : Nat) : Int)), ((((absorb S0 (padT t) q).c.toNat / 65536 % 256 : Nat) : Int)), ((((absorb S0 (padT t) q).c.toNat / 256 % 256 : Nat) : Int)), ((((absorb S0 (padT t) q).c.toNat / 1 % 256 : Nat) : Int)), ((((absorb S0 (padT t) q).d.toNat / 16777216 % 256 : Nat) : Int)), ((((absorb S0 (padT t) q).d.toNat / 65536 % 256 : Nat) : Int)), ((((absorb S0 (padT t) q).d.toNat / 256 % 256 : Nat) : Int)), ((((absorb S0 (padT t) q).d.toNat / 1 % 256 : Nat) : Int)), ((((absorb S0 (padT t) q).e.toNat / 16777216 % 256 : Nat) : Int)), ((((absorb S0 (padT t) q).e.toNat / 65536 % 256 : Nat) : Int)), ((((absorb S0 (padT t) q).e.toNat / 256 % 256 : Nat) : Int)), ((((absorb S0 (padT t) q).e.toNat / 1 % 256 : Nat) : Int)), ((((absorb S0 (padT t) q).f.toNat / 16777216 % 256 : Nat) : Int)), ((((absorb S0 (padT t) q).f.toNat / 65536 % 256 : Nat) : Int)), ((((absorb S0 (padT t) q).f.toNat / 256 % 256 : Nat) : Int)), ((((absorb S0 (padT t) q).f.toNat / 1 % 256 : Nat) : Int)), ((((absorb S0 (padT t) q).g.toNat / 16777216 % 256 : Nat) : Int)), ((((absorb S0 (padT t) q).g.toNat / 65536 % 256 : Nat) : Int)), ((((absorb S0 (padT t) q).g.toNat / 256 % 256 : Nat) : Int)), ((((absorb S0 (padT t) q).g.toNat / 1 % 256 : Nat) : Int)), ((((absorb S0 (padT t) q).h.toNat / 16777216 % 256 : Nat) : Int)), ((((absorb S0 (padT t) q).h.toNat / 65536 % 256 : Nat) : Int)), ((((absorb S0 (padT t) q).h.toNat / 256 % 256 : Nat) : Int)), ((((absorb S0 (padT t) q).h.toNat / 1 % 256 : Nat) : Int))]))) 251 rfl kj (Qaw 23 _ g156 23 _ _ r156_47 rfl kj kj (isz (n := 32) kj kj)) ?_
  have r2_2 := (Qab r2_1 e2)
  have r2_14 := (Qal.row q14 (Qab (Qab (Puts.row p11 (Puts.row p10 (Puts.row p9 (Puts.row p8 (Puts.row p7 (Puts.row p6 (Puts.row p5 (Puts.row p4 (Qab r2_2 e3) (Qaf r2_2 l7)) (Qaf r2_2 l7)) (Qaf r2_2 l7)) (Qaf r2_2 l7)) (Qaf r2_2 l7)) (Qaf r2_2 l7)) (Qaf r2_2 l7)) (Qaf r2_2 l7)) e12) e13) (Qau (Qaf r2_2 l7) QaG))
  have r2_47 := (Puts.row p47 (Puts.row p46 (Puts.row p45 (Puts.row p44 (Puts.row p43 (Puts.row p42 (Puts.row p41 (Puts.row p40 (Puts.row p39 (Puts.row p38 (Puts.row p37 (Puts.row p36 (Puts.row p35 (Puts.row p34 (Puts.row p33 (Puts.row p32 (Puts.row p31 (Puts.row p30 (Puts.row p29 (Puts.row p28 (Puts.row p27 (Puts.row p26 (Puts.row p25 (Puts.row p24 (Puts.row p23 (Puts.row p22 (Puts.row p21 (Puts.row p20 (Puts.row p19 (Puts.row p18 (Puts.row p17 (Puts.row p16 (Qab r2_14 e15) (Qaf r2_14 l156)) (Qaf r2_14 l156)) (Qaf r2_14 l156)) (Qaf r2_14 l156)) (Qaf r2_14 l156)) (Qaf r2_14 l156)) (Qaf r2_14 l156)) (Qaf r2_14 l156)) (Qaf r2_14 l156)) (Qaf r2_14 l156)) (Qaf r2_14 l156)) (Qaf r2_14 l156)) (Qaf r2_14 l156)) (Qaf r2_14 l156)) (Qaf r2_14 l156)) (Qaf r2_14 l156)) (Qaf r2_14 l156)) (Qaf r2_14 l156)) (Qaf r2_14 l156)) (Qaf r2_14 l156)) (Qaf r2_14 l156)) (Qaf r2_14 l156)) (Qaf r2_14 l156)) (Qaf r2_14 l156)) (Qaf r2_14 l156)) (Qaf r2_14 l156)) (Qaf r2_14 l156)) (Qaf r2_14 l156)) (Qaf r2_14 l156)) (Qaf r2_14 l156)) (Qaf r2_14 l156)) (Qaf r2_14 l156))
  refine Qai g2 _ (ints .u8 ([((((absorb S0 (padT t) q).a.toNat / 16777216 % 256 : Nat) : Int)), ((((absorb S0 (padT t) q).a.toNat / 65536 % 256 : Nat) : Int)), ((((absorb S0 (padT t) q).a.toNat / 256 % 256 : Nat) : Int)), ((((absorb S0 (padT t) q).a.toNat / 1 % 256 : Nat) : Int)), ((((absorb S0 (padT t) q).b.toNat / 16777216 % 256 : Nat) : Int)), ((((absorb S0 (padT t) q).b.toNat / 65536 % 256 : Nat) : Int)), ((((absorb S0 (padT t) q).b.toNat / 256 % 256 : Nat) : Int)), ((((absorb S0 (padT t) q).b.toNat / 1 % 256 : Nat) : Int)), ((((absorb S0 (padT t) q).c.toNat / 16777216 % 256 : Nat) : Int)), ((((absorb S0 (padT t) q).c.toNat / 65536 % 256 : Nat) : Int)), ((((absorb S0 (padT t) q).c.toNat / 256 % 256 : Nat) : Int)), ((((absorb S0 (padT t) q).c.toNat / 1 % 256 : Nat) : Int)), ((((absorb S0 (padT t) q).d.toNat / 16777216 % 256 : Nat) : Int)), ((((absorb S0 (padT t) q).d.toNat / 65536 % 256 : Nat) : Int)), ((((absorb S0 (padT t) q).d.toNat / 256 % 256 : Nat) : Int)), ((((absorb S0 (padT t) q).d.toNat / 1 % 256 : Nat) : Int)), ((((absorb S0 (padT t) q).e.toNat / 16777216 % 256 : Nat) : Int)), ((((absorb S0 (padT t) q).e.toNat / 65536 % 256 : Nat) : Int)), ((((absorb S0 (padT t) q).e.toNat / 256 % 256 : Nat) : Int)), ((((absorb S0 (padT t) q).e.toNat / 1 % 256 : Nat) : Int)), ((((absorb S0 (padT t) q).f.toNat / 16777216 % 256 : Nat) : Int)), ((((absorb S0 (padT t) q).f.toNat / 65536 % 256 : Nat) : Int)), ((((absorb S0 (padT t) q).f.toNat / 256 % 256 : Nat) : Int)), ((((absorb S0 (padT t) q).f.toNat / 1 % 256 : Nat) : Int)), ((((absorb S0 (padT t) q).g.toNat / 16777216 % 256 : Nat) : Int)), ((((absorb S0 (padT t) q).g.toNat / 65536 % 256 : Nat) : Int)), ((((absorb S0 (padT t) q).g.toNat / 256 % 256 : Nat) : Int)), ((((absorb S0 (padT t) q).g.toNat / 1 % 256 : Nat) : Int)), ((((absorb S0 (padT t) q).h.toNat / 16777216 % 256 : Nat) : Int)), ((((absorb S0 (padT t) q).h.toNat / 65536 % 256 : Nat) : Int)), ((((absorb S0 (padT t) q).h.toNat / 256 % 256 : Nat) : Int)), ((((absorb S0 (padT t) q).h.toNat / 1 % 256 : Nat) : Int))])) 23 r2_47 rfl kj (Qaq 23 _ _ g2 23 _ _ r2_47 rfl kj kj (isz (n := 32) kj kj) (eqsz (n := 32) kj kj) (Qa2 _ _)) fun W48 p48 r2_48 => ?_
  refine sgN hK257 ?_
  refine wp_ret ?_
  repeat (first | with_reducible refine goR1 ?_ | with_reducible refine goR2 ?_)
  exact (show bodyPost _ _ _ .ret _ _ from ret1 (.agg (ints .u8 ([((((absorb S0 (padT t) q).a.toNat / 16777216 % 256 : Nat) : Int)), ((((absorb S0 (padT t) q).a.toNat / 65536 % 256 : Nat) : Int)), ((((absorb S0 (padT t) q).a.toNat / 256 % 256 : Nat) : Int)), ((((absorb S0 (padT t) q).a.toNat / 1 % 256 : Nat) : Int)), ((((absorb S0 (padT t) q).b.toNat / 16777216 % 256 : Nat) : Int)), ((((absorb S0 (padT t) q).b.toNat / 65536 % 256 : Nat) : Int)), ((((absorb S0 (padT t) q).b.toNat / 256 % 256 : Nat) : Int)), ((((absorb S0 (padT t) q).b.toNat / 1 % 256 : Nat) : Int)), ((((absorb S0 (padT t) q).c.toNat / 16777216 % 256 : Nat) : Int)), ((((absorb S0 (padT t) q).c.toNat / 65536 % 256 : Nat) : Int)), ((((absorb S0 (padT t) q).c.toNat / 256 % 256 : Nat) : Int)), ((((absorb S0 (padT t) q).c.toNat / 1 % 256 : Nat) : Int)), ((((absorb S0 (padT t) q).d.toNat / 16777216 % 256 : Nat) : Int)), ((((absorb S0 (padT t) q).d.toNat / 65536 % 256 : Nat) : Int)), ((((absorb S0 (padT t) q).d.toNat / 256 % 256 : Nat) : Int)), ((((absorb S0 (padT t) q).d.toNat / 1 % 256 : Nat) : Int)), ((((absorb S0 (padT t) q).e.toNat / 16777216 % 256 : Nat) : Int)), ((((absorb S0 (padT t) q).e.toNat / 65536 % 256 : Nat) : Int)), ((((absorb S0 (padT t) q).e.toNat / 256 % 256 : Nat) : Int)), ((((absorb S0 (padT t) q).e.toNat / 1 % 256 : Nat) : Int)), ((((absorb S0 (padT t) q).f.toNat / 16777216 % 256 : Nat) : Int)), ((((absorb S0 (padT t) q).f.toNat / 65536 % 256 : Nat) : Int)), ((((absorb S0 (padT t) q).f.toNat / 256 % 256 : Nat) : Int)), ((((absorb S0 (padT t) q).f.toNat / 1 % 256 : Nat) : Int)), ((((absorb S0 (padT t) q).g.toNat / 16777216 % 256 : Nat) : Int)), ((((absorb S0 (padT t) q).g.toNat / 65536 % 256 : Nat) : Int)), ((((absorb S0 (padT t) q).g.toNat / 256 % 256 : Nat) : Int)), ((((absorb S0 (padT t) q).g.toNat / 1 % 256 : Nat) : Int)), ((((absorb S0 (padT t) q).h.toNat / 16777216 % 256 : Nat) : Int)), ((((absorb S0 (padT t) q).h.toNat / 65536 % 256 : Nat) : Int)), ((((absorb S0 (padT t) q).h.toNat / 256 % 256 : Nat) : Int)), ((((absorb S0 (padT t) q).h.toNat / 1 % 256 : Nat) : Int))]))) rfl (QaR g2 23 _ r2_48 kj kj (isz (n := 32) kj kj)) ⟨by rw [show dig t = (absorb S0 (padT t) q).out by unfold dig; rw [hq, Nat.mul_div_cancel_left _ (by decide)]]; rfl, (Puts.ext p48 (Puts.ext p47 (Puts.ext p46 (Puts.ext p45 (Puts.ext p44 (Puts.ext p43 (Puts.ext p42 (Puts.ext p41 (Puts.ext p40 (Puts.ext p39 (Puts.ext p38 (Puts.ext p37 (Puts.ext p36 x35 b156) b156) b156) b156) b156) b156) b156) b156) b156) b156) b156) b156) (Nat.le_trans (Rely.Ext.refl w).size l2))⟩)
end Go.Proofs.YtibegnjaphohaaaDoor.Sha
end
section
namespace Go.Proofs.YtibegnjaphohaaaDoor.Sha
open Go Go.RowKit
open Rely Auto Own
set_option linter.unusedVariables false
set_option linter.unusedSimpArgs false
section
variable {ds : List Deferred} {P : Program} {ops : Array Oper} {Q : Exit → Act → World → Prop} {rest : List Oper} {o : Oper} {N : Nat} {L : Env} {W : World}
theorem Qb5 {k : IntKind} {T : TypeId} (b : Nat) (s x : Operand) (t : TypeId) (ho : o.op = .call { callee := .builtin .append, args := #[s, x], argTypes := #[t, t] })
    (ht : P.underlying t = some (.slice T)) (hi : (P.info? T).map (fun i => (i.zero, i.size, i.bytes)) = some (some (.int k 0), 1, b)) (hb8 : b ≤ 8) (d : Nat) (hd : o.dst = some d) (hg : Qbq ops o N L = some true) {B : Nat} {v y : Value} {xs ys : List Int} {V : World}
    (hs : Rely.look (envN N L) s = v) (hx : Rely.look (envN N L) x = y)
    (h : OwnN k T V.heap.size xs v W) (hy : RdK k B ys y W) {k2 : IntKind} {T2 : TypeId} {b2 : Nat} {zs : List Int} {z : Value} (h2 : OwnN k2 T2 b2 zs z W) (hdz : ∀ g, z.ownBlock = some g → v.ownBlock ≠ some g) (hn : xs.length + ys.length ≤ 1000000000) (hV : Ext V W)
    (kk : ∀ (u : Value) (W' : World), OwnN k T V.heap.size (xs ++ ys) u W' → Ext V W' → Below V.heap.size W W' → (OwnN k2 T2 b2 zs z W' ∧ ∀ g, z.ownBlock = some g → u.ownBlock ≠ some g) → WL P ops Q rest (Qav ds N ((d, u) :: L)) W') : WL P ops Q (o :: rest) (Qav ds N L) W := by
  obtain ⟨v', W', h1, hh2, h3, h4⟩ := Qdk (ρ := Rely.look (envN N L)) (o := o) (W := W) s x t ho ht hi hb8 hs hx h hy hn hV.size
  refine Qbr _ _ d hd hg h1 (kk v' W' hh2 (QeT hV h h3) ⟨h3.os, h3.tape, h3.output, h3.size, fun i hi => h3.block i (Nat.lt_of_lt_of_le hi hV.size) (fun q => by have := h.ge q.symm; omega)⟩ ⟨h2.keep fun g hg => h3.block g (h2.lt hg) (fun q => hdz g hg q.symm), fun g hg => ?_⟩)
  rcases h4 with h4 | h4
  · rw [h4]; exact hdz g hg
  · rw [h4]; intro e
    have := Option.some.inj e
    have := h2.lt hg
    omega
end
theorem Qgr (n i : Nat) (hn : n ≤ 64) : decide (((n + i : Nat) : Int) < 64) = decide (i < 64 - n) := decide_eq_decide.2 (by omega)
theorem QhH {key : List Int} (h : 64 < key.length) : dig key = keyL key := by rw [keyL, if_pos h]
theorem QgR {key : List Int} (h : ¬ 64 < key.length) : key = keyL key := by rw [keyL, if_neg h]
theorem QcY (c : Int) (key : List Int) {i : Nat} (h : i < 64) : (padX c key).take (i + 1) = (padX c key).take i ++ [nth (padX c key) i] := by
  have hl : i < (padX c key).length := by rw [Qa3]; exact h
  rw [List.take_succ_eq_append_getElem hl]
  simp [nth, hl]
theorem Qfo (c : Int) (key : List Int) : (padX c key).take 64 = padX c key := List.take_of_length_le (Nat.le_of_eq (Qa3 c key))
set_option maxRecDepth 20000 in
set_option maxHeartbeats 4000000 in
theorem QkY (key text : List Int) (v1 v2 : Value) (B B2 : Nat) (w : World) (hkl : key.length ≤ 800000000) (htl : text.length ≤ 800000000) (hkb : Qao key) (htb : Qao text) (hk : RdK .u8 B key v1 w) (ht : RdK .u8 B2 text v2 w) : Calls Tryd.prog 57 #[v1, v2] w (Ret w (.agg (ints .u8 (hmac key text)))) := by
 obtain ⟨a_key, c_key, rfl, -⟩ := id hk
 obtain ⟨a_text, c_text, rfl, -⟩ := id ht
 refine enter 56 [(0, .slice a_key key.length c_key), (1, .slice a_text text.length c_text)] Tryd.func57 rfl rfl kj rfl ?_
 refine sgC fun K1 hK1 => ?_
 refine Qar (ints .u8 (List.replicate 32 0)) 23 4 rfl kj kj fun g2 W1 l2 e1 r2_1 => ?_
 have x1 := Ext.tr (Rely.Ext.refl w) e1
 have b2 := Nat.le_trans (Rely.Ext.refl w).size l2
 refine sgN hK1 ?_
 refine sgC fun K3 hK3 => ?_
 refine QaB (ints .u8 ([])) 5 0 11 rfl kj kj fun g4 W2 l4 e2 r4_2 => ?_
 have x2 := Ext.tr x1 e2
 have b4 := Nat.le_trans x1.size l4
 refine sg 1 kj ?_
 refine QaC (k := .u8) (T := 5) (xs := []) (ys := key) (V := W1) 1 (.tmp 11) (.tmp 12) 38 rfl kj kj (by decide) 13 rfl kj kj kj (QbD (xs := []) rfl l4 r4_2 (by decide)) (RdK.ext hk x2) (by first | (rw [QaM]; decide) | (simp only [List.length_nil]; omega)) (Rely.Ext.trans (Rely.Ext.refl W1) e2) fun z1 W3 f5 y3 l3 => ?_
 have x3 := Ext.low x2 l3 x1.size
 have hu6 : OwnN .u8 5 W1.heap.size (key) z1 W3 := by have h := f5; simpa using h
 obtain ⟨a5_7, c5_7, rfl, -⟩ := id (OwnN.rd hu6)
 refine sg 1 kj ?_
 refine sgN hK3 ?_
 refine wp_seq_k fun K8 hK8 => ?_
 refine sgB kj ?_
 refine Qa5 (t := decide ((((key).length : Nat) : Int) > 64)) kj (fun c10 => ?_) (fun c10 => ?_)
 ·skip
  have hlong : 64 < key.length := by have := of_decide_eq_true c10; omega
  refine sgC fun K11 hK11 => ?_
  refine sg 1 kj ?_
  refine Qax (.agg (ints .u8 (dig (key)))) 60 #[.slice a5_7 ((key).length) c5_7] 18 rfl kj kj (QdP (key) _ _ _ (by omega) hkb (OwnN.rd hu6)) fun W4 e4 => ?_
  have x4 := Ext.tr x3 e4
  refine Qar (ints .u8 (List.replicate 32 0)) 23 6 rfl kj kj fun g12 W5 l12 e5 r12_5 => ?_
  have x5 := Ext.tr x4 e5
  refine Qai g12 _ (ints .u8 (dig (key))) 23 r12_5 rfl kj (Qaq 23 _ _ g12 23 _ _ r12_5 rfl kj kj (isz (n := 32) kj ((Qac _ _).trans (QaM _))) (eqsz (n := 32) ((Qac _ _).trans (List.length_replicate (n := 32))) ((Qac _ _).trans (QaM _))) (Qa2 _ _)) fun W6 p6 r12_6 => ?_
  have x6 := Puts.ext p6 x5 (Nat.le_trans x4.size l12)
  refine sgN hK11 ?_
  refine Qad ?_
  refine QaB (ints .u8 ([])) 5 0 19 rfl kj kj fun g13 W7 l13 e7 r13_7 => ?_
  have x7 := Ext.tr x6 e7
  have b13 := Nat.le_trans x6.size l13
  refine sg 1 kj ?_
  have r12_7 := (Qab r12_6 e7)
  refine QaC (k := .u8) (T := 5) (xs := []) (ys := dig (key)) (V := W6) 1 (.tmp 19) (.tmp 20) 38 rfl kj kj (by decide) 21 rfl kj kj kj (QbD (xs := []) rfl l13 r13_7 (by decide)) (QaK (xs := dig (key)) (n := 32) (QaM _) r12_7 (Qat r12_7) (show 32 ≤ maxLen from by decide)) (by first | (rw [QaM]; decide) | (simp only [List.length_nil]; omega)) (Rely.Ext.trans (Rely.Ext.refl W6) e7) fun z2 W8 f14 y8 l8 => ?_
  have x8 := Ext.low x7 l8 x6.size
  have hu15 : OwnN .u8 5 W6.heap.size (dig (key)) z2 W8 := by have h := f14; simpa using h
  obtain ⟨a5_16, c5_16, rfl, -⟩ := id (OwnN.rd hu15)
  refine sg 1 kj ?_
  refine Qaj ?_
  refine hK8 _ _ ?_
  refine wp_seq_k fun K17 hK17 => ?_
  refine wp_block ?_
  have hk0 : OwnN .u8 5 W6.heap.size (keyL key ++ List.replicate 0 0) (.slice a5_16 ((dig (key)).length) c5_16) W8 := by rw [List.replicate_zero, List.append_nil, ← QhH hlong]; exact hu15
  have hkl := QeR key
  refine Qa9 (fun (s1 : Nat × Value) => [(1, .slice a_text text.length c_text), (4, .pointer (some ⟨g2, 0, none⟩)), (5, s1.2)]) (fun (s1 : Nat × Value) W => (s1.1 ≤ 64 - (keyL key).length) ∧ (OwnN .u8 5 W6.heap.size (keyL key ++ List.replicate s1.1 0) s1.2 W) ∧ (Below W6.heap.size W8 W) ∧ (Ext w W)) (fun (s1 : Nat × Value) => 64 - (keyL key).length - s1.1) (0, .slice a5_16 ((dig (key)).length) c5_16) ⟨kj, kj, kj, trivial⟩ ⟨(Nat.zero_le _), hk0, (RowKit.Below.refl _ W8), x8⟩ fun s1 X1 V1 hI1 => ?_
  obtain ⟨i, u⟩ := s1
  obtain ⟨hi, hu, kk1, xx1⟩ := hI1
  replace hi : i ≤ 64 - (keyL key).length := hi
  replace hu : OwnN .u8 5 W6.heap.size (keyL key ++ List.replicate i 0) u V1 := hu
  replace kk1 : Below W6.heap.size W8 V1 := kk1
  replace xx1 : Ext w V1 := xx1
  have l9 := kk1
  obtain ⟨a5, c5, rfl, -⟩ := id (OwnN.rd hu)
  refine wp_seq_k fun K18 hK18 => ?_
  refine sgC fun K19 hK19 => ?_
  refine sg 2 kj ?_
  refine Qaa (.bool (decide (i < 64 - (keyL key).length))) 24 rfl kj (Qag (u := .bool (decide ((((keyL key ++ List.replicate i 0).length : Nat) : Int) < 64))) kj (congrArg Value.bool (by rw [List.length_append, List.length_replicate]; exact Qgr _ _ hkl))) ?_
  refine sgN hK19 ?_
  refine Qa5 (t := decide (i < 64 - (keyL key).length)) kj (fun c20 => ?_) (fun c20 => ?_)
  ·skip
   have hlt24 : i < 64 - (keyL key).length := by have := of_decide_eq_true c20; omega
   refine wp_skip ?_
   refine hK18 _ _ ?_
   refine wp_block ?_
   refine Qad ?_
   refine sg 1 kj ?_
   refine QaB (ints .u8 ([0])) 5 1 26 rfl kj kj fun g21 W10 l21 e10 r21_10 => ?_
   have x10 := Ext.tr xx1 e10
   have b21 := Nat.le_trans xx1.size l21
   have y6_9 := (Ext.low y8 l9 (Rely.Ext.refl W6).size)
   refine QaC (k := .u8) (T := 5) (xs := keyL key ++ List.replicate i 0) (ys := [0]) (V := W6) 1 (.tmp 25) (.tmp 26) 38 rfl kj kj (by decide) 27 rfl kj kj kj (hu.ext e10) (QaK (xs := [0]) (n := 1) rfl r21_10 (Qat r21_10) (show 1 ≤ maxLen from by decide)) (by simp only [List.length_append, List.length_replicate, List.length_cons, List.length_nil]; omega) (Rely.Ext.trans y6_9 e10) fun z3 W11 f23 y11 l11 => ?_
   have x11 := Ext.low x10 l11 x6.size
   refine sg 1 kj ?_
   refine Qaj ?_
   repeat (first | with_reducible refine goX1 ?_ | with_reducible refine goX2 ?_ | with_reducible refine goX3 ?_)
   exact Qa4 ((i + 1), z3) ⟨kj, kj, kj, trivial⟩ ⟨(by omega), (by rw [List.replicate_succ', ← List.append_assoc]; exact f23), (RowKit.Below.trans (RowKit.Below.trans l9 (RowKit.Below.mono e10 y6_9.size)) l11), x11⟩ (by show 64 - (keyL key).length - (i + 1) < 64 - (keyL key).length - i; omega)
  ·skip
   have heq24 : i = 64 - (keyL key).length := by have := of_decide_eq_false c20; omega
   subst heq24
   have hkB : OwnN .u8 5 W6.heap.size (keyB key) (.slice a5 (keyL key ++ List.replicate (64 - (keyL key).length) 0).length c5) V1 := hu
   refine wp_exit ?_
   refine hK17 _ _ ?_
   refine sgB kj ?_
   refine sgB kj ?_
   refine wp_seq_k fun K27 hK27 => ?_
   refine sgB kj ?_
   refine wp_block ?_
   have r2_2 := (Qab r2_1 e2)
   have r2_3 := (Qbb l3 r2_2 (Qat r2_1))
   have r2_4 := (Qab r2_3 e4)
   have r2_5 := (Qab r2_4 e5)
   have r2_6 := (Puts.row p6 r2_5 (Qaf r2_4 l12))
   have r2_7 := (Qab r2_6 e7)
   have r2_8 := (Qbb l8 r2_7 (Qat r2_6))
   have r2_9 := (Qbb l9 r2_8 (Qat r2_6))
   refine Qa9 (fun (s2 : Nat × Value × Value) => [(1, .slice a_text text.length c_text), (4, .pointer (some ⟨g2, 0, none⟩)), (5, .slice a5 ((keyL key ++ List.replicate (64 - (keyL key).length) 0).length) c5), (7, s2.2.1), (8, s2.2.2), (9, .int .i64 ((s2.1 : Nat) : Int))]) (fun (s2 : Nat × Value × Value) W => (s2.1 ≤ 64) ∧ (OwnN .u8 5 V1.heap.size ((padX 54 key).take s2.1) s2.2.1 W) ∧ (OwnN .u8 5 V1.heap.size ((padX 92 key).take s2.1) s2.2.2 W) ∧ (∀ g, s2.2.2.ownBlock = some g → s2.2.1.ownBlock ≠ some g) ∧ (Ext V1 W) ∧ (Ext w W)) (fun (s2 : Nat × Value × Value) => 64 - s2.1) (0, (.slice none 0 0), (.slice none 0 0)) ⟨kj, kj, kj, kj, kj, kj, trivial⟩ ⟨(Nat.zero_le _), (Qbv _ _ _ _), (Qbv _ _ _ _), (fun g e => by cases e), (Rely.Ext.refl V1), xx1⟩ fun s2 X2 V2 hI2 => ?_
   obtain ⟨i, u, v⟩ := s2
   obtain ⟨hi, hu, hv, hd, kk2, xx2⟩ := hI2
   replace hi : i ≤ 64 := hi
   replace hu : OwnN .u8 5 V1.heap.size ((padX 54 key).take i) u V2 := hu
   replace hv : OwnN .u8 5 V1.heap.size ((padX 92 key).take i) v V2 := hv
   replace hd : ∀ g, v.ownBlock = some g → u.ownBlock ≠ some g := hd
   replace kk2 : Ext V1 V2 := kk2
   replace xx2 : Ext w V2 := xx2
   have e10 := kk2
   have f30_10 := (hkB.ext e10)
   have hnk_29 : (keyB key).length = 64 := (Qbn key)
   obtain ⟨gck_29, ock_29, hak_29, hlk_29, hck_29⟩ := rdK_open (OwnN.rd f30_10) (by rw [hnk_29]; omega)
   refine wp_seq_k fun K31 hK31 => ?_
   refine sgB kj ?_
   refine Qa5 (t := decide (((i : Nat) : Int) < 64)) kj (fun c33 => ?_) (fun c33 => ?_)
   ·skip
    have hlt29 : i < 64 := by have := of_decide_eq_true c33; omega
    refine wp_skip ?_
    refine hK31 _ _ ?_
    refine wp_seq_k fun K34 hK34 => ?_
    refine wp_block ?_
    refine sgC fun K35 hK35 => ?_
    refine sg 3 kj ?_
    refine Qaa (.pointer (some ⟨gck_29, ock_29 + i, none⟩)) 35 rfl kj (run_indexA 38 _ _ .i64 i gck_29 ock_29 ((keyL key ++ List.replicate (64 - (keyL key).length) 0).length) c5 5 a5 _ hak_29 rfl rfl kj kj kj kj (Nat.lt_of_lt_of_eq (show i < 64 by omega) hnk_29.symm)) ?_
    refine Qaa (.int .u8 (nth (keyB key) (i))) 36 rfl kj (QaA 5 _ _ (.int .u8 (nth (keyB key) (i))) (hck_29 i (Nat.lt_of_lt_of_eq (show i < 64 by omega) hnk_29.symm)) rfl kj kj) ?_
    refine Qaa (.int .u8 (nth (padX 54 key) i)) 37 rfl kj (Qag (u := .int .u8 (bits .xor .u8 ((nth (keyB key) (i))) (54))) kj (congrArg (Value.int .u8) (Qcd 54 key hlt29).symm)) ?_
    refine QaB (ints .u8 ([(nth (padX 54 key) i)])) 5 1 38 rfl kj kj fun g36 W11 l36 e11 r36_11 => ?_
    have x11 := Ext.tr xx2 e11
    have b36 := Nat.le_trans xx2.size l36
    refine Qb5 (k := .u8) (T := 5) (xs := (padX 54 key).take i) (ys := [(nth (padX 54 key) i)]) (V := V1) 1 (.tmp 32) (.tmp 38) 38 rfl kj kj (by decide) 39 rfl kj kj kj (hu.ext e11) (QaK (xs := [(nth (padX 54 key) i)]) (n := 1) rfl r36_11 (Qat r36_11) (show 1 ≤ maxLen from by decide)) (hv.ext e11) hd (by rw [List.length_take, Qa3]; show _ + 1 ≤ _; omega) (Rely.Ext.trans e10 e11) fun z4 W12 f40 y12 l12 hP37 => ?_
    have x12 := Ext.low x11 l12 xx1.size
    refine sg 1 kj ?_
    refine sgN hK35 ?_
    refine Qad ?_
    have hnk_42 : (keyB key).length = 64 := (Qbn key)
    obtain ⟨gck_42, ock_42, hak_42, hlk_42, hck_42⟩ := rdK_open (OwnN.rd (OwnN.low (n := 0) (f30_10.ext e11) hkB l12)) (by rw [hnk_42]; omega)
    refine sg 3 kj ?_
    refine Qaa (.pointer (some ⟨gck_42, ock_42 + i, none⟩)) 43 rfl kj (run_indexA 38 _ _ .i64 i gck_42 ock_42 ((keyL key ++ List.replicate (64 - (keyL key).length) 0).length) c5 5 a5 _ hak_42 rfl rfl kj kj kj kj (Nat.lt_of_lt_of_eq (show i < 64 by omega) hnk_42.symm)) ?_
    refine Qaa (.int .u8 (nth (keyB key) (i))) 44 rfl kj (QaA 5 _ _ (.int .u8 (nth (keyB key) (i))) (hck_42 i (Nat.lt_of_lt_of_eq (show i < 64 by omega) hnk_42.symm)) rfl kj kj) ?_
    refine Qaa (.int .u8 (nth (padX 92 key) i)) 45 rfl kj (Qag (u := .int .u8 (bits .xor .u8 ((nth (keyB key) (i))) (92))) kj (congrArg (Value.int .u8) (Qcd 92 key hlt29).symm)) ?_
    refine QaB (ints .u8 ([(nth (padX 92 key) i)])) 5 1 46 rfl kj kj fun g45 W13 l45 e13 r45_13 => ?_
    have x13 := Ext.tr x12 e13
    have b45 := Nat.le_trans x12.size l45
    have y9_13 := (Rely.Ext.trans y12 e13)
    refine Qb5 (k := .u8) (T := 5) (xs := (padX 92 key).take i) (ys := [(nth (padX 92 key) i)]) (V := V1) 1 (.tmp 40) (.tmp 46) 38 rfl kj kj (by decide) 47 rfl kj kj kj (hP37.1.ext e13) (QaK (xs := [(nth (padX 92 key) i)]) (n := 1) rfl r45_13 (Qat r45_13) (show 1 ≤ maxLen from by decide)) (f40.ext e13) (fun g e h => hP37.2 g h e) (by rw [List.length_take, Qa3]; show _ + 1 ≤ _; omega) y9_13 fun z5 W14 f49 y14 l14 hP46 => ?_
    have x14 := Ext.low x13 l14 xx1.size
    refine sg 1 kj ?_
    refine Qaj ?_
    refine hK34 _ _ ?_
    refine Qad ?_
    refine sg 1 kj ?_
    refine Qaa (.int .i64 ((i + 1 : Nat) : Int)) 31 rfl kj (Qag (u := .int .i64 (IntKind.i64.wrap (((i : Nat) : Int) + 1))) kj (congrArg (Value.int .i64) (i64n _ _ (by omega) (by omega)))) ?_
    refine sg 1 kj ?_
    refine Qaj ?_
    repeat (first | with_reducible refine goX1 ?_ | with_reducible refine goX2 ?_ | with_reducible refine goX3 ?_)
    exact Qa4 ((i + 1), z4, z5) ⟨kj, kj, kj, kj, kj, kj, trivial⟩ ⟨(by omega), (by rw [QcY _ _ hlt29]; exact hP46.1), (by rw [QcY _ _ hlt29]; exact f49), (fun g e h => hP46.2 g h e), y14, x14⟩ (by show 64 - (i + 1) < 64 - i; omega)
   ·skip
    have heq29 : i = 64 := by have := of_decide_eq_false c33; omega
    subst heq29
    rw [Qfo] at hu hv
    refine wp_exit ?_
    refine hK27 _ _ ?_
    refine sgC fun K51 hK51 => ?_
    refine sg 2 kj ?_
    refine Qb5 (k := .u8) (T := 5) (xs := padX 54 key) (ys := text) (V := V1) 1 (.tmp 48) (.tmp 49) 38 rfl kj kj (by decide) 50 rfl kj kj kj hu (RdK.ext ht xx2) hv hd (by rw [Qa3]; omega) e10 fun z6 W11 f53 y11 l11 hP52 => ?_
    have x11 := Ext.low xx2 l11 xx1.size
    refine Qax (.agg (ints .u8 (dig (padX 54 key ++ text)))) 60 #[z6] 51 rfl kj kj (QdP (padX 54 key ++ text) _ _ _ (by rw [List.length_append, Qa3]; omega) (Qb4 (QbU _ _) htb) (OwnN.rd f53)) fun W12 e12 => ?_
    have x12 := Ext.tr x11 e12
    have f55_12 := (hP52.1.ext e12)
    refine Qar (ints .u8 (List.replicate 32 0)) 23 10 rfl kj kj fun g56 W13 l56 e13 r56_13 => ?_
    have x13 := Ext.tr x12 e13
    refine Qai g56 _ (ints .u8 (dig (padX 54 key ++ text))) 23 r56_13 rfl kj (Qaq 23 _ _ g56 23 _ _ r56_13 rfl kj kj (isz (n := 32) kj ((Qac _ _).trans (QaM _))) (eqsz (n := 32) ((Qac _ _).trans (List.length_replicate (n := 32))) ((Qac _ _).trans (QaM _))) (Qa2 _ _)) fun W14 p14 r56_14 => ?_
    have x14 := Puts.ext p14 x13 (Nat.le_trans x12.size l56)
    refine sgN hK51 ?_
    refine sgC fun K57 hK57 => ?_
    have nb10 : (v : Value).ownBlock ≠ some g56 := fun e => by have h1 := OwnN.lt f55_12 e; have h2 := l56; omega
    refine sg 2 kj ?_
    have y9_12 := (Rely.Ext.trans y11 e12)
    have y9_13 := (Rely.Ext.trans y9_12 e13)
    refine QaC (k := .u8) (T := 5) (xs := padX 92 key) (ys := dig (padX 54 key ++ text)) (V := V1) 1 (.tmp 52) (.tmp 53) 38 rfl kj kj (by decide) 54 rfl kj kj kj ((f55_12.ext e13).puts p14 nb10) (QaK (xs := dig (padX 54 key ++ text)) (n := 32) (QaM _) r56_14 (Qat r56_14) (show 32 ≤ maxLen from by decide)) (by rw [Qa3, QaM]; decide) (Puts.ext p14 y9_13 (Nat.le_trans y9_12.size l56)) fun z7 W15 f60 y15 l15 => ?_
    refine Qax (.agg (ints .u8 (dig (padX 92 key ++ dig (padX 54 key ++ text))))) 60 #[z7] 55 rfl kj kj (QdP (padX 92 key ++ dig (padX 54 key ++ text)) _ _ _ (by rw [List.length_append, Qa3, QaM]; decide) (Qb4 (QbU _ _) (Qdi _)) (OwnN.rd f60)) fun W16 e16 => ?_
    have r2_10 := (Qab r2_9 e10)
    have r2_11 := (Qbb l11 r2_10 (Qat r2_9))
    have r2_12 := (Qab r2_11 e12)
    have r2_16 := (Qab (Qbb l15 (Puts.row p14 (Qab r2_12 e13) (Qaf r2_12 l56)) (Qat r2_9)) e16)
    refine Qai g2 _ (ints .u8 (dig (padX 92 key ++ dig (padX 54 key ++ text)))) 23 r2_16 rfl kj (Qaq 23 _ _ g2 23 _ _ r2_16 rfl kj kj (isz (n := 32) kj ((Qac _ _).trans (QaM _))) (eqsz (n := 32) ((Qac _ _).trans (List.length_replicate (n := 32))) ((Qac _ _).trans (QaM _))) (Qa2 _ _)) fun W17 p17 r2_17 => ?_
    refine sgN hK57 ?_
    refine wp_ret ?_
    repeat (first | with_reducible refine goR1 ?_ | with_reducible refine goR2 ?_)
    exact (show bodyPost _ _ _ .ret _ _ from ret1 (.agg (ints .u8 (dig (padX 92 key ++ dig (padX 54 key ++ text))))) rfl (QaR g2 23 _ r2_17 kj kj (isz (n := 32) kj ((Qac _ _).trans (QaM _)))) ⟨rfl, (Puts.ext p17 (Ext.tr (Ext.low x14 l15 xx1.size) e16) b2)⟩)
 ·skip
  have hlong : ¬ 64 < key.length := by have := of_decide_eq_false c10; omega
  refine wp_skip ?_
  refine hK8 _ _ ?_
  refine wp_seq_k fun K62 hK62 => ?_
  refine wp_block ?_
  have hk0 : OwnN .u8 5 W1.heap.size (keyL key ++ List.replicate 0 0) (.slice a5_7 ((key).length) c5_7) W3 := by rw [List.replicate_zero, List.append_nil, ← QgR hlong]; exact hu6
  have hkl := QeR key
  refine Qa9 (fun (s3 : Nat × Value) => [(1, .slice a_text text.length c_text), (4, .pointer (some ⟨g2, 0, none⟩)), (5, s3.2)]) (fun (s3 : Nat × Value) W => (s3.1 ≤ 64 - (keyL key).length) ∧ (OwnN .u8 5 W1.heap.size (keyL key ++ List.replicate s3.1 0) s3.2 W) ∧ (Below W1.heap.size W3 W) ∧ (Ext w W)) (fun (s3 : Nat × Value) => 64 - (keyL key).length - s3.1) (0, .slice a5_7 ((key).length) c5_7) ⟨kj, kj, kj, trivial⟩ ⟨(Nat.zero_le _), hk0, (RowKit.Below.refl _ W3), x3⟩ fun s3 X3 V3 hI3 => ?_
  obtain ⟨i, u⟩ := s3
  obtain ⟨hi, hu, kk3, xx3⟩ := hI3
  replace hi : i ≤ 64 - (keyL key).length := hi
  replace hu : OwnN .u8 5 W1.heap.size (keyL key ++ List.replicate i 0) u V3 := hu
  replace kk3 : Below W1.heap.size W3 V3 := kk3
  replace xx3 : Ext w V3 := xx3
  have l4 := kk3
  obtain ⟨a5, c5, rfl, -⟩ := id (OwnN.rd hu)
  refine wp_seq_k fun K63 hK63 => ?_
  refine sgC fun K64 hK64 => ?_
  refine sg 2 kj ?_
  refine Qaa (.bool (decide (i < 64 - (keyL key).length))) 24 rfl kj (Qag (u := .bool (decide ((((keyL key ++ List.replicate i 0).length : Nat) : Int) < 64))) kj (congrArg Value.bool (by rw [List.length_append, List.length_replicate]; exact Qgr _ _ hkl))) ?_
  refine sgN hK64 ?_
  refine Qa5 (t := decide (i < 64 - (keyL key).length)) kj (fun c65 => ?_) (fun c65 => ?_)
  ·skip
   have hlt24 : i < 64 - (keyL key).length := by have := of_decide_eq_true c65; omega
   refine wp_skip ?_
   refine hK63 _ _ ?_
   refine wp_block ?_
   refine Qad ?_
   refine sg 1 kj ?_
   refine QaB (ints .u8 ([0])) 5 1 26 rfl kj kj fun g66 W5 l66 e5 r66_5 => ?_
   have x5 := Ext.tr xx3 e5
   have b66 := Nat.le_trans xx3.size l66
   have y1_4 := (Ext.low y3 l4 (Rely.Ext.refl W1).size)
   refine QaC (k := .u8) (T := 5) (xs := keyL key ++ List.replicate i 0) (ys := [0]) (V := W1) 1 (.tmp 25) (.tmp 26) 38 rfl kj kj (by decide) 27 rfl kj kj kj (hu.ext e5) (QaK (xs := [0]) (n := 1) rfl r66_5 (Qat r66_5) (show 1 ≤ maxLen from by decide)) (by simp only [List.length_append, List.length_replicate, List.length_cons, List.length_nil]; omega) (Rely.Ext.trans y1_4 e5) fun z8 W6 f68 y6 l6 => ?_
   have x6 := Ext.low x5 l6 x1.size
   refine sg 1 kj ?_
   refine Qaj ?_
   repeat (first | with_reducible refine goX1 ?_ | with_reducible refine goX2 ?_ | with_reducible refine goX3 ?_)
   exact Qa4 ((i + 1), z8) ⟨kj, kj, kj, trivial⟩ ⟨(by omega), (by rw [List.replicate_succ', ← List.append_assoc]; exact f68), (RowKit.Below.trans (RowKit.Below.trans l4 (RowKit.Below.mono e5 y1_4.size)) l6), x6⟩ (by show 64 - (keyL key).length - (i + 1) < 64 - (keyL key).length - i; omega)
  ·skip
   have heq24 : i = 64 - (keyL key).length := by have := of_decide_eq_false c65; omega
   subst heq24
   have hkB : OwnN .u8 5 W1.heap.size (keyB key) (.slice a5 (keyL key ++ List.replicate (64 - (keyL key).length) 0).length c5) V3 := hu
   refine wp_exit ?_
   refine hK62 _ _ ?_
   refine sgB kj ?_
   refine sgB kj ?_
   refine wp_seq_k fun K72 hK72 => ?_
   refine sgB kj ?_
   refine wp_block ?_
   have r2_2 := (Qab r2_1 e2)
   have r2_3 := (Qbb l3 r2_2 (Qat r2_1))
   have r2_4 := (Qbb l4 r2_3 (Qat r2_1))
   refine Qa9 (fun (s4 : Nat × Value × Value) => [(1, .slice a_text text.length c_text), (4, .pointer (some ⟨g2, 0, none⟩)), (5, .slice a5 ((keyL key ++ List.replicate (64 - (keyL key).length) 0).length) c5), (7, s4.2.1), (8, s4.2.2), (9, .int .i64 ((s4.1 : Nat) : Int))]) (fun (s4 : Nat × Value × Value) W => (s4.1 ≤ 64) ∧ (OwnN .u8 5 V3.heap.size ((padX 54 key).take s4.1) s4.2.1 W) ∧ (OwnN .u8 5 V3.heap.size ((padX 92 key).take s4.1) s4.2.2 W) ∧ (∀ g, s4.2.2.ownBlock = some g → s4.2.1.ownBlock ≠ some g) ∧ (Ext V3 W) ∧ (Ext w W)) (fun (s4 : Nat × Value × Value) => 64 - s4.1) (0, (.slice none 0 0), (.slice none 0 0)) ⟨kj, kj, kj, kj, kj, kj, trivial⟩ ⟨(Nat.zero_le _), (Qbv _ _ _ _), (Qbv _ _ _ _), (fun g e => by cases e), (Rely.Ext.refl V3), xx3⟩ fun s4 X4 V4 hI4 => ?_
   obtain ⟨i, u, v⟩ := s4
   obtain ⟨hi, hu, hv, hd, kk4, xx4⟩ := hI4
   replace hi : i ≤ 64 := hi
   replace hu : OwnN .u8 5 V3.heap.size ((padX 54 key).take i) u V4 := hu
   replace hv : OwnN .u8 5 V3.heap.size ((padX 92 key).take i) v V4 := hv
   replace hd : ∀ g, v.ownBlock = some g → u.ownBlock ≠ some g := hd
   replace kk4 : Ext V3 V4 := kk4
   replace xx4 : Ext w V4 := xx4
   have e5 := kk4
   have f75_5 := (hkB.ext e5)
   have hnk_74 : (keyB key).length = 64 := (Qbn key)
   obtain ⟨gck_74, ock_74, hak_74, hlk_74, hck_74⟩ := rdK_open (OwnN.rd f75_5) (by rw [hnk_74]; omega)
   refine wp_seq_k fun K76 hK76 => ?_
   refine sgB kj ?_
   refine Qa5 (t := decide (((i : Nat) : Int) < 64)) kj (fun c78 => ?_) (fun c78 => ?_)
   ·skip
    have hlt29 : i < 64 := by have := of_decide_eq_true c78; omega
    refine wp_skip ?_
    refine hK76 _ _ ?_
    refine wp_seq_k fun K79 hK79 => ?_
    refine wp_block ?_
    refine sgC fun K80 hK80 => ?_
    refine sg 3 kj ?_
    refine Qaa (.pointer (some ⟨gck_74, ock_74 + i, none⟩)) 35 rfl kj (run_indexA 38 _ _ .i64 i gck_74 ock_74 ((keyL key ++ List.replicate (64 - (keyL key).length) 0).length) c5 5 a5 _ hak_74 rfl rfl kj kj kj kj (Nat.lt_of_lt_of_eq (show i < 64 by omega) hnk_74.symm)) ?_
    refine Qaa (.int .u8 (nth (keyB key) (i))) 36 rfl kj (QaA 5 _ _ (.int .u8 (nth (keyB key) (i))) (hck_74 i (Nat.lt_of_lt_of_eq (show i < 64 by omega) hnk_74.symm)) rfl kj kj) ?_
    refine Qaa (.int .u8 (nth (padX 54 key) i)) 37 rfl kj (Qag (u := .int .u8 (bits .xor .u8 ((nth (keyB key) (i))) (54))) kj (congrArg (Value.int .u8) (Qcd 54 key hlt29).symm)) ?_
    refine QaB (ints .u8 ([(nth (padX 54 key) i)])) 5 1 38 rfl kj kj fun g81 W6 l81 e6 r81_6 => ?_
    have x6 := Ext.tr xx4 e6
    have b81 := Nat.le_trans xx4.size l81
    refine Qb5 (k := .u8) (T := 5) (xs := (padX 54 key).take i) (ys := [(nth (padX 54 key) i)]) (V := V3) 1 (.tmp 32) (.tmp 38) 38 rfl kj kj (by decide) 39 rfl kj kj kj (hu.ext e6) (QaK (xs := [(nth (padX 54 key) i)]) (n := 1) rfl r81_6 (Qat r81_6) (show 1 ≤ maxLen from by decide)) (hv.ext e6) hd (by rw [List.length_take, Qa3]; show _ + 1 ≤ _; omega) (Rely.Ext.trans e5 e6) fun z9 W7 f85 y7 l7 hP82 => ?_
    have x7 := Ext.low x6 l7 xx3.size
    refine sg 1 kj ?_
    refine sgN hK80 ?_
    refine Qad ?_
    have hnk_87 : (keyB key).length = 64 := (Qbn key)
    obtain ⟨gck_87, ock_87, hak_87, hlk_87, hck_87⟩ := rdK_open (OwnN.rd (OwnN.low (n := 0) (f75_5.ext e6) hkB l7)) (by rw [hnk_87]; omega)
    refine sg 3 kj ?_
    refine Qaa (.pointer (some ⟨gck_87, ock_87 + i, none⟩)) 43 rfl kj (run_indexA 38 _ _ .i64 i gck_87 ock_87 ((keyL key ++ List.replicate (64 - (keyL key).length) 0).length) c5 5 a5 _ hak_87 rfl rfl kj kj kj kj (Nat.lt_of_lt_of_eq (show i < 64 by omega) hnk_87.symm)) ?_
    refine Qaa (.int .u8 (nth (keyB key) (i))) 44 rfl kj (QaA 5 _ _ (.int .u8 (nth (keyB key) (i))) (hck_87 i (Nat.lt_of_lt_of_eq (show i < 64 by omega) hnk_87.symm)) rfl kj kj) ?_
    refine Qaa (.int .u8 (nth (padX 92 key) i)) 45 rfl kj (Qag (u := .int .u8 (bits .xor .u8 ((nth (keyB key) (i))) (92))) kj (congrArg (Value.int .u8) (Qcd 92 key hlt29).symm)) ?_
    refine QaB (ints .u8 ([(nth (padX 92 key) i)])) 5 1 46 rfl kj kj fun g90 W8 l90 e8 r90_8 => ?_
    have x8 := Ext.tr x7 e8
    have b90 := Nat.le_trans x7.size l90
    have y4_8 := (Rely.Ext.trans y7 e8)
    refine Qb5 (k := .u8) (T := 5) (xs := (padX 92 key).take i) (ys := [(nth (padX 92 key) i)]) (V := V3) 1 (.tmp 40) (.tmp 46) 38 rfl kj kj (by decide) 47 rfl kj kj kj (hP82.1.ext e8) (QaK (xs := [(nth (padX 92 key) i)]) (n := 1) rfl r90_8 (Qat r90_8) (show 1 ≤ maxLen from by decide)) (f85.ext e8) (fun g e h => hP82.2 g h e) (by rw [List.length_take, Qa3]; show _ + 1 ≤ _; omega) y4_8 fun z10 W9 f94 y9 l9 hP91 => ?_
    have x9 := Ext.low x8 l9 xx3.size
    refine sg 1 kj ?_
    refine Qaj ?_
    refine hK79 _ _ ?_
    refine Qad ?_
    refine sg 1 kj ?_
    refine Qaa (.int .i64 ((i + 1 : Nat) : Int)) 31 rfl kj (Qag (u := .int .i64 (IntKind.i64.wrap (((i : Nat) : Int) + 1))) kj (congrArg (Value.int .i64) (i64n _ _ (by omega) (by omega)))) ?_
    refine sg 1 kj ?_
    refine Qaj ?_
    repeat (first | with_reducible refine goX1 ?_ | with_reducible refine goX2 ?_ | with_reducible refine goX3 ?_)
    exact Qa4 ((i + 1), z9, z10) ⟨kj, kj, kj, kj, kj, kj, trivial⟩ ⟨(by omega), (by rw [QcY _ _ hlt29]; exact hP91.1), (by rw [QcY _ _ hlt29]; exact f94), (fun g e h => hP91.2 g h e), y9, x9⟩ (by show 64 - (i + 1) < 64 - i; omega)
   ·skip
    have heq29 : i = 64 := by have := of_decide_eq_false c78; omega
    subst heq29
    rw [Qfo] at hu hv
    refine wp_exit ?_
    refine hK72 _ _ ?_
    refine sgC fun K96 hK96 => ?_
    refine sg 2 kj ?_
    refine Qb5 (k := .u8) (T := 5) (xs := padX 54 key) (ys := text) (V := V3) 1 (.tmp 48) (.tmp 49) 38 rfl kj kj (by decide) 50 rfl kj kj kj hu (RdK.ext ht xx4) hv hd (by rw [Qa3]; omega) e5 fun z11 W6 f98 y6 l6 hP97 => ?_
    have x6 := Ext.low xx4 l6 xx3.size
    refine Qax (.agg (ints .u8 (dig (padX 54 key ++ text)))) 60 #[z11] 51 rfl kj kj (QdP (padX 54 key ++ text) _ _ _ (by rw [List.length_append, Qa3]; omega) (Qb4 (QbU _ _) htb) (OwnN.rd f98)) fun W7 e7 => ?_
    have x7 := Ext.tr x6 e7
    have f100_7 := (hP97.1.ext e7)
    refine Qar (ints .u8 (List.replicate 32 0)) 23 10 rfl kj kj fun g101 W8 l101 e8 r101_8 => ?_
    have x8 := Ext.tr x7 e8
    refine Qai g101 _ (ints .u8 (dig (padX 54 key ++ text))) 23 r101_8 rfl kj (Qaq 23 _ _ g101 23 _ _ r101_8 rfl kj kj (isz (n := 32) kj ((Qac _ _).trans (QaM _))) (eqsz (n := 32) ((Qac _ _).trans (List.length_replicate (n := 32))) ((Qac _ _).trans (QaM _))) (Qa2 _ _)) fun W9 p9 r101_9 => ?_
    have x9 := Puts.ext p9 x8 (Nat.le_trans x7.size l101)
    refine sgN hK96 ?_
    refine sgC fun K102 hK102 => ?_
    have nb10 : (v : Value).ownBlock ≠ some g101 := fun e => by have h1 := OwnN.lt f100_7 e; have h2 := l101; omega
    refine sg 2 kj ?_
    have y4_7 := (Rely.Ext.trans y6 e7)
    have y4_8 := (Rely.Ext.trans y4_7 e8)
    refine QaC (k := .u8) (T := 5) (xs := padX 92 key) (ys := dig (padX 54 key ++ text)) (V := V3) 1 (.tmp 52) (.tmp 53) 38 rfl kj kj (by decide) 54 rfl kj kj kj ((f100_7.ext e8).puts p9 nb10) (QaK (xs := dig (padX 54 key ++ text)) (n := 32) (QaM _) r101_9 (Qat r101_9) (show 32 ≤ maxLen from by decide)) (by rw [Qa3, QaM]; decide) (Puts.ext p9 y4_8 (Nat.le_trans y4_7.size l101)) fun z12 W10 f105 y10 l10 => ?_
    have x10 := Ext.low x9 l10 xx3.size
    refine Qax (.agg (ints .u8 (dig (padX 92 key ++ dig (padX 54 key ++ text))))) 60 #[z12] 55 rfl kj kj (QdP (padX 92 key ++ dig (padX 54 key ++ text)) _ _ _ (by rw [List.length_append, Qa3, QaM]; decide) (Qb4 (QbU _ _) (Qdi _)) (OwnN.rd f105)) fun W11 e11 => ?_
    have x11 := Ext.tr x10 e11
    have r2_5 := (Qab r2_4 e5)
    have r2_6 := (Qbb l6 r2_5 (Qat r2_4))
    have r2_7 := (Qab r2_6 e7)
    have r2_8 := (Qab r2_7 e8)
    have r2_9 := (Puts.row p9 r2_8 (Qaf r2_7 l101))
    have r2_10 := (Qbb l10 r2_9 (Qat r2_4))
    have r2_11 := (Qab r2_10 e11)
    refine Qai g2 _ (ints .u8 (dig (padX 92 key ++ dig (padX 54 key ++ text)))) 23 r2_11 rfl kj (Qaq 23 _ _ g2 23 _ _ r2_11 rfl kj kj (isz (n := 32) kj ((Qac _ _).trans (QaM _))) (eqsz (n := 32) ((Qac _ _).trans (List.length_replicate (n := 32))) ((Qac _ _).trans (QaM _))) (Qa2 _ _)) fun W12 p12 r2_12 => ?_
    have x12 := Puts.ext p12 x11 b2
    refine sgN hK102 ?_
    refine wp_ret ?_
    repeat (first | with_reducible refine goR1 ?_ | with_reducible refine goR2 ?_)
    exact (show bodyPost _ _ _ .ret _ _ from ret1 (.agg (ints .u8 (dig (padX 92 key ++ dig (padX 54 key ++ text))))) rfl (QaR g2 23 _ r2_12 kj kj (isz (n := 32) kj ((Qac _ _).trans (QaM _)))) ⟨rfl, x12⟩)
end Go.Proofs.YtibegnjaphohaaaDoor.Sha
end
section
namespace Go.Proofs.YtibegnjaphohaaaDoor.Sha
open Go Go.RowKit
open Rely Auto Own
set_option linter.unusedVariables false
set_option linter.unusedSimpArgs false
section
variable {P : Program} {ρ : Operand → Value} {o : Oper} {w : World}
theorem QfD (t : TypeId) (x z : Operand) (h : Nat) (e : TypeId) (ho : o.op = .slice t x none (some z) none) {a : Option Addr} {len cap : Nat} (hx : ρ x = .slice a len cap)
    (hu : P.underlying t = some (.slice e)) (hs : (P.info? e).map (·.size) = some 1) (kz : IntKind) (hz : ρ z = .int kz (h : Int)) (h2 : h ≤ cap) :
    (execOp ρ o).run P w = .ok (.value (.slice a h cap)) w := by
  cases hq : P.info? e with
  | none => simp [hq] at hs
  | some i =>
    have hs' : i.size = 1 := by simpa [hq] using hs
    unfold execOp
    have hadd : ∀ a : Option Addr, Option.map (fun x => x.add 0) a = a := fun a => by
      cases a with
      | none => rfl
      | some a => obtain ⟨b, o, s⟩ := a; cases s <;> simp [Addr.add]
    simp [ho, hx, hz, Instr.sliceAt, Instr.slice, Instr.sliceBounds, run_sliceBound, run_underlying hu, sizeOf, typeInfo, hq, hs', h2, hadd]
end
theorem Qi6 {T : TypeId} {base n c : Nat} {xs : List Int} {a : Option Addr} {W : World} (h : OwnN .u8 T base xs (.slice a xs.length c) W) (hn : n ≤ xs.length) : OwnN .u8 T base (xs.take n) (.slice a n c) W := by
  have hl : (xs.take n).length = n := by rw [List.length_take]; omega
  obtain ⟨⟨h1, h2⟩, hm⟩ := h
  rcases h2 with ⟨h2, h3⟩ | ⟨g, c', cur, e, q2, q3, q4, q5, q6, q7⟩
  · simp only [Value.slice.injEq] at h2
    obtain ⟨rfl, h4, rfl⟩ := h2
    obtain rfl := List.length_eq_zero_iff.1 h4
    obtain rfl : n = 0 := by simpa using hn
    exact Qbv _ _ _ _
  · simp only [Value.slice.injEq] at e
    obtain ⟨rfl, -, rfl⟩ := e
    refine QeK hl q2 q3 (by omega) (by omega) q5 ?_
    have : cur.toList.take n = (cur.toList.take (xs.length * 1)).take n := by rw [List.take_take]; congr 1; omega
    rw [this, q7, List.map_take]
set_option maxHeartbeats 4000000 in
theorem Qiw (key info : List Int) (v1 v2 : Value) (B B2 n : Nat) (w : World) (hn : n ≤ 8160) (hkl : key.length ≤ 800000000) (hil : info.length ≤ 700000000) (hkb : Qao key) (hib : Qao info) (hk : RdK .u8 B key v1 w) (hi : RdK .u8 B2 info v2 w) :
  Calls Tryd.prog 49 #[v1, v2, .int .i64 ((n : Nat) : Int)] w (QbH w (fun v W => ∃ u k, v = .tuple #[u, .bool true] ∧ n ≤ 32 * k ∧ OwnN .u8 5 w.heap.size ((okm key info k).take n) u W)) := by
 obtain ⟨a_key, c_key, rfl, -⟩ := id hk
 obtain ⟨a_info, c_info, rfl, -⟩ := id hi
 refine enter 44 [(0, .slice a_key key.length c_key), (1, .slice a_info info.length c_info), (2, .int .i64 ((n : Nat) : Int))] Tryd.func49 rfl rfl kj rfl ?_
 refine wp_seq_k fun K1 hK1 => ?_
 refine Qad ?_
 refine Qaa (.slice none 0 0) 6 rfl kj kj ?_
 refine Qaa (.bool false) 7 rfl kj kj ?_
 refine Qaj ?_
 refine hK1 _ _ ?_
 refine wp_seq_k fun K2 hK2 => ?_
 refine wp_seq_k fun K3 hK3 => ?_
 refine Qad ?_
 refine Qaa (.int .i64 ((n : Nat) : Int)) 12 rfl kj kj ?_
 refine Qaa (.bool false) 13 rfl kj (Qag (u := .bool (decide (((n : Nat) : Int) < 0))) kj (congrArg Value.bool (decide_eq_false (by omega)))) ?_
 refine Qaa (.bool false) 14 rfl kj kj ?_
 refine Qaa (.int .i64 ((n : Nat) : Int)) 15 rfl kj kj ?_
 refine Qaa (.bool false) 16 rfl kj (Qag (u := .bool (decide (((n : Nat) : Int) > 8160))) kj (congrArg Value.bool (decide_eq_false (by omega)))) ?_
 refine Qaa (.bool false) 17 rfl kj kj ?_
 refine Qaj ?_
 refine hK3 _ _ ?_
 refine cond_false kj ?_
 refine wp_skip ?_
 refine hK2 _ _ ?_
 refine wp_seq_k fun K4 hK4 => ?_
 refine Qad ?_
 refine Qaa (.slice none 0 0) 8 rfl kj kj ?_
 refine Qaj ?_
 refine hK4 _ _ ?_
 refine wp_seq_k fun K5 hK5 => ?_
 refine Qad ?_
 refine Qaa (.slice none 0 0) 9 rfl kj kj ?_
 refine Qaj ?_
 refine hK5 _ _ ?_
 refine wp_seq_k fun K6 hK6 => ?_
 refine wp_seq_k fun K7 hK7 => ?_
 refine Qad ?_
 refine Qaa (.int .i64 1) 10 rfl kj kj ?_
 refine Qaj ?_
 refine hK7 _ _ ?_
 refine wp_block ?_
 refine Qa9 (fun (s1 : Nat × Value × Value) => [(0, .slice a_key key.length c_key), (1, .slice a_info info.length c_info), (2, .int .i64 ((n : Nat) : Int)), (8, s1.2.1), (9, s1.2.2), (10, .int .i64 ((s1.1 + 1 : Nat) : Int))]) (fun (s1 : Nat × Value × Value) W => (32 * s1.1 < n + 32) ∧ (OwnN .u8 5 w.heap.size (okm key info s1.1) s1.2.1 W) ∧ (OwnN .u8 5 w.heap.size (tg key info s1.1) s1.2.2 W) ∧ (∀ g, s1.2.2.ownBlock = some g → s1.2.1.ownBlock ≠ some g) ∧ (Ext w W) ∧ (Ext w W)) (fun (s1 : Nat × Value × Value) => n - 32 * s1.1) (0, (.slice none 0 0), (.slice none 0 0)) ⟨rfl, rfl, rfl, rfl, rfl, rfl, trivial⟩ ⟨(show 32 * 0 < n + 32 by omega), (Qbv _ _ _ _), (Qbv _ _ _ _), (fun g e => by cases e), (Rely.Ext.refl w), (Rely.Ext.refl w)⟩ fun s1 X1 V1 hI1 => ?_
 obtain ⟨k, u, v⟩ := s1
 obtain ⟨hkn, hu, hv, hd, kk1, xx1⟩ := hI1
 replace hkn : 32 * k < n + 32 := hkn
 replace hu : OwnN .u8 5 w.heap.size (okm key info k) u V1 := hu
 replace hv : OwnN .u8 5 w.heap.size (tg key info k) v V1 := hv
 replace hd : ∀ g, v.ownBlock = some g → u.ownBlock ≠ some g := hd
 replace kk1 : Ext w V1 := kk1
 replace xx1 : Ext w V1 := xx1
 have e1 := kk1
 obtain ⟨a8, c8, rfl, -⟩ := id (OwnN.rd hu)
 refine wp_seq_k fun K8 hK8 => ?_
 refine wp_seq_k fun K9 hK9 => ?_
 refine Qad ?_
 refine Qaa (.slice a8 ((okm key info k).length) c8) 18 rfl kj kj ?_
 refine Qaa (.int .i64 (((okm key info k).length : Nat) : Int)) 19 rfl kj kj ?_
 refine Qaa (.int .i64 ((n : Nat) : Int)) 20 rfl kj kj ?_
 refine Qaa (.bool (decide (32 * k < n))) 21 rfl kj (Qag (u := .bool (decide ((((okm key info k).length : Nat) : Int) < ((n : Nat) : Int)))) kj (congrArg Value.bool (QiP _ _ _ _))) ?_
 refine Qaj ?_
 refine hK9 _ _ ?_
 refine Qa5 (t := decide (32 * k < n)) kj (fun c10 => ?_) (fun c10 => ?_)
 ·skip
  have hlt : 32 * k < n := of_decide_eq_true c10
  refine wp_skip ?_
  refine hK8 _ _ ?_
  refine wp_seq_k fun K11 hK11 => ?_
  refine wp_block ?_
  refine wp_seq_k fun K12 hK12 => ?_
  refine Qad ?_
  refine Qaa (.slice a_key key.length c_key) 24 rfl kj kj ?_
  refine QaB (ints .u8 ([])) 5 0 25 rfl kj kj fun g13 W2 l13 e2 r13_2 => ?_
  have x2 : Ext w W2 := Ext.tr xx1 e2
  have b13 : w.heap.size ≤ g13 := Nat.le_trans xx1.size l13
  refine Qaa (v) 26 rfl kj kj ?_
  have f14_2 := (hv.ext e2)
  have y1_2 : Ext V1 W2 := (Rely.Ext.trans (Rely.Ext.refl V1) e2)
  refine QaC (k := .u8) (T := 5) (xs := []) (ys := tg key info k) (V := V1) 1 (.tmp 25) (.tmp 26) 38 rfl kj kj (by decide) 27 rfl kj kj kj (QbD (xs := []) rfl l13 r13_2 (by decide)) (OwnN.rd f14_2) (by have := Qhj key info k; simp only [List.length_append, List.length_cons, List.length_nil]; omega) y1_2 fun z1 W3 f15 y3 l3 => ?_
  have x3 : Ext w W3 := Ext.low x2 l3 xx1.size
  refine Qaa (.slice a_info info.length c_info) 28 rfl kj kj ?_
  refine QaC (k := .u8) (T := 5) (xs := [] ++ tg key info k) (ys := info) (V := V1) 1 (.tmp 27) (.tmp 28) 38 rfl kj kj (by decide) 29 rfl kj kj kj f15 (RdK.ext hi x3) (by have := Qhj key info k; simp only [List.length_append, List.length_cons, List.length_nil]; omega) y3 fun z2 W4 f17 y4 l4 => ?_
  have x4 : Ext w W4 := Ext.low x3 l4 xx1.size
  refine Qaa (.int .i64 ((k + 1 : Nat) : Int)) 30 rfl kj kj ?_
  refine Qaa (.int .u8 (((k + 1 : Nat) : Int))) 31 rfl kj (Qag (u := .int .u8 (IntKind.u8.wrap ((k + 1 : Nat) : Int))) kj (congrArg (Value.int .u8) (u8_n _ (by omega)))) ?_
  refine QaB (ints .u8 ([(((k + 1 : Nat) : Int))])) 5 1 32 rfl kj kj fun g19 W5 l19 e5 r19_5 => ?_
  have x5 : Ext w W5 := Ext.tr x4 e5
  have b19 : w.heap.size ≤ g19 := Nat.le_trans x4.size l19
  have f20_5 := (f17.ext e5)
  have y1_5 : Ext V1 W5 := (Rely.Ext.trans y4 e5)
  refine QaC (k := .u8) (T := 5) (xs := [] ++ tg key info k ++ info) (ys := [(((k + 1 : Nat) : Int))]) (V := V1) 1 (.tmp 29) (.tmp 32) 38 rfl kj kj (by decide) 33 rfl kj kj kj f20_5 (QaK (xs := [(((k + 1 : Nat) : Int))]) (n := 1) rfl r19_5 (Qat r19_5) (show 1 ≤ maxLen from by decide)) (by have := Qhj key info k; simp only [List.length_append, List.length_cons, List.length_nil]; omega) y1_5 fun z3 W6 f21 y6 l6 => ?_
  have x6 : Ext w W6 := Ext.low x5 l6 xx1.size
  have hm23 : OwnN .u8 5 V1.heap.size ((tg key info k ++ info) ++ [((k + 1 : Nat) : Int)]) z3 W6 := f21
  refine Qax (.agg (ints .u8 (hmac (key) ((tg key info k ++ info) ++ [((k + 1 : Nat) : Int)])))) 57 #[.slice a_key key.length c_key, z3] 34 rfl kj kj (QkY key ((tg key info k ++ info) ++ [((k + 1 : Nat) : Int)]) _ _ _ _ _ (by omega) (by have := Qhj key info k; simp only [List.length_append, List.length_cons, List.length_nil]; omega) hkb (Qb4 (Qb4 (QeA _ _ _) hib) (fun x hx => by rw [List.mem_singleton] at hx; subst hx; omega)) (RdK.ext hk x6) (OwnN.rd hm23)) fun W7 e7 => ?_
  have x7 : Ext w W7 := Ext.tr x6 e7
  have f24_2 := (hu.ext e2)
  have f25_3 := (OwnN.low (n := 0) f24_2 hu l3)
  have f26_4 := (OwnN.low (n := 0) f25_3 hu l4)
  have f27_5 := (f26_4.ext e5)
  have f28_6 := (OwnN.low (n := 0) f27_5 hu l6)
  have f29_7 := (f28_6.ext e7)
  refine Qar (ints .u8 (List.replicate 32 0)) 23 11 rfl kj kj fun g30 W8 l30 e8 r30_8 => ?_
  have x8 : Ext w W8 := Ext.tr x7 e8
  have b30 : w.heap.size ≤ g30 := Nat.le_trans x7.size l30
  have nb11 : (.slice a8 ((okm key info k).length) c8 : Value).ownBlock ≠ some g30 := fun e => by have h1 := OwnN.lt f29_7 e; have h2 := l30; omega
  refine Qai g30 _ (ints .u8 (hmac (key) ((tg key info k ++ info) ++ [((k + 1 : Nat) : Int)]))) 23 r30_8 rfl kj (Qaq 23 _ _ g30 23 _ _ r30_8 rfl kj kj (isz (n := 32) kj ((Qac _ _).trans (Qbs _ _))) (eqsz (n := 32) ((Qac _ _).trans (List.length_replicate (n := 32))) ((Qac _ _).trans (Qbs _ _))) (Qa2 _ _)) fun W9 p9 r30_9 => ?_
  have x9 : Ext w W9 := Puts.ext p9 x8 b30
  refine Qaj ?_
  refine hK12 _ _ ?_
  refine wp_seq_k fun K31 hK31 => ?_
  refine Qad ?_
  have f32_8 := (f29_7.ext e8)
  have f33_9 := (f32_8.puts p9 nb11)
  refine QaB (ints .u8 ([])) 5 0 35 rfl kj kj fun g34 W10 l34 e10 r34_10 => ?_
  have x10 : Ext w W10 := Ext.tr x9 e10
  have b34 : w.heap.size ≤ g34 := Nat.le_trans x9.size l34
  refine Qaa (.slice (some ⟨g30, 0, none⟩) 32 32) 36 rfl kj kj ?_
  have r30_10 := (Qab r30_9 e10)
  have y9_10 : Ext W9 W10 := (Rely.Ext.trans (Rely.Ext.refl W9) e10)
  refine QaC (k := .u8) (T := 5) (xs := []) (ys := hmac (key) ((tg key info k ++ info) ++ [((k + 1 : Nat) : Int)])) (V := W9) 1 (.tmp 35) (.tmp 36) 38 rfl kj kj (by decide) 37 rfl kj kj kj (QbD (xs := []) rfl l34 r34_10 (by decide)) (QaK (xs := hmac (key) ((tg key info k ++ info) ++ [((k + 1 : Nat) : Int)])) (n := 32) (Qbs _ _) r30_10 (Qat r30_10) (show 32 ≤ maxLen from by decide)) (by rw [Qbs]; decide) y9_10 fun z4 W11 f35 y11 l11 => ?_
  have x11 : Ext w W11 := Ext.low x10 l11 x9.size
  refine Qaa (z4) 9 rfl kj kj ?_
  refine Qaj ?_
  refine hK31 _ _ ?_
  refine Qad ?_
  have hz37 : OwnN .u8 5 W9.heap.size (tg key info (k + 1)) z4 W11 := f35
  have hd37 : ∀ g, (z4 : Value).ownBlock = some g → (.slice a8 ((okm key info k).length) c8 : Value).ownBlock ≠ some g := fun g e1 e2 => by have h1 := OwnN.ge hz37 e1; have h2 := OwnN.lt f33_9 e2; omega
  refine Qaa (.slice a8 ((okm key info k).length) c8) 38 rfl kj kj ?_
  refine Qaa (z4) 39 rfl kj kj ?_
  have f38_10 := (f33_9.ext e10)
  have f39_11 := (OwnN.low (n := 0) f38_10 f33_9 l11)
  have y0_2 : Ext w W2 := (Rely.Ext.trans e1 e2)
  have y0_3 : Ext w W3 := (Ext.low y0_2 l3 e1.size)
  have y0_4 : Ext w W4 := (Ext.low y0_3 l4 e1.size)
  have y0_5 : Ext w W5 := (Rely.Ext.trans y0_4 e5)
  have y0_6 : Ext w W6 := (Ext.low y0_5 l6 e1.size)
  have y0_7 : Ext w W7 := (Rely.Ext.trans y0_6 e7)
  have y0_8 : Ext w W8 := (Rely.Ext.trans y0_7 e8)
  have y0_9 : Ext w W9 := (Puts.ext p9 y0_8 (Nat.le_trans y0_7.size l30))
  have y0_10 : Ext w W10 := (Rely.Ext.trans y0_9 e10)
  have y0_11 : Ext w W11 := (Ext.low y0_10 l11 y0_9.size)
  refine Qb5 (k := .u8) (T := 5) (xs := okm key info k) (ys := tg key info (k + 1)) (V := w) 1 (.tmp 38) (.tmp 39) 38 rfl kj kj (by decide) 40 rfl kj kj kj f39_11 (OwnN.rd hz37) hz37 hd37 (by rw [QcO, tg, Qbs]; omega) y0_11 fun z5 W12 f40 y12 l12 hP => ?_
  have x12 : Ext w W12 := Ext.low x11 l12 (Rely.Ext.refl w).size
  refine Qaa (z5) 8 rfl kj kj ?_
  refine Qaj ?_
  refine hK11 _ _ ?_
  refine Qad ?_
  refine Qaa (.int .i64 ((k + 1 : Nat) : Int)) 22 rfl kj kj ?_
  refine Qaa (.int .i64 (((k + 1) + 1 : Nat) : Int)) 23 rfl kj (Qag (u := .int .i64 (IntKind.i64.wrap (((k + 1 : Nat) : Int) + 1))) kj (congrArg (Value.int .i64) (i64n _ _ (by omega) (by omega)))) ?_
  refine Qaa (.int .i64 (((k + 1) + 1 : Nat) : Int)) 10 rfl kj kj ?_
  refine Qaj ?_
  repeat (first | with_reducible refine goX1 ?_ | with_reducible refine goX2 ?_ | with_reducible refine goX3 ?_)
  exact Qa4 ((k + 1), z5, z4) ⟨rfl, rfl, rfl, rfl, rfl, rfl, trivial⟩ ⟨(by omega), (by rw [okm]; exact f40), (OwnN.base y0_9.size hP.1), hP.2, y12, x12⟩ (by show n - 32 * (k + 1) < n - 32 * k; omega)
 ·skip
  have hge : n ≤ 32 * k := by have := of_decide_eq_false c10; omega
  have hcap : n ≤ c8 := by
   obtain ⟨_, _, e, q2, _⟩ := OwnN.rd hu
   simp only [Value.slice.injEq] at e
   obtain ⟨-, -, rfl⟩ := e
   rw [QcO] at q2; omega
  refine wp_exit ?_
  refine hK6 _ _ ?_
  refine wp_seq_k fun K42 hK42 => ?_
  refine Qad ?_
  refine Qaa (.slice a8 ((okm key info k).length) c8) 41 rfl kj kj ?_
  refine Qaa (.int .i64 ((n : Nat) : Int)) 42 rfl kj kj ?_
  refine Qaa (.slice a8 n c8) 43 rfl kj (QfD (len := (okm key info k).length) 38 _ _ n 5 rfl kj kj kj .i64 kj hcap) ?_
  refine Qaa (.slice a8 n c8) 6 rfl kj kj ?_
  refine Qaa (.bool true) 7 rfl kj kj ?_
  refine Qaj ?_
  refine hK42 _ _ ?_
  refine wp_ret ?_
  repeat (first | with_reducible refine goR1 ?_ | with_reducible refine goR2 ?_)
  exact (show bodyPost _ _ _ .ret _ _ from ret2 (.slice a8 n c8) (.bool true) rfl (Qa7 kj) (Qa7 kj) ⟨_, rfl, xx1, _, k, rfl, hge, OwnN.base (Rely.Ext.refl w).size (Qi6 hu (by rw [QcO]; exact hge))⟩)
end Go.Proofs.YtibegnjaphohaaaDoor.Sha
end
section
namespace Go.Proofs.YtibegnjaphohaaaDoor.Sha
open Go Go.RowKit
open Rely Auto Own
set_option linter.unusedVariables false
structure Once (base n : Nat) (ys : List Int) (W W' : World) : Prop where
  os : W'.os = W.os
  tape : W'.tape = W.tape
  output : W'.output = W.output
  size : W.heap.size ≤ W'.heap.size
  block : ∀ g, g < W.heap.size → W'.heap[g]? = W.heap[g]? ∨ (base ≤ g ∧ ∃ cs cs' T, W.heap[g]? = some (.cells cs T) ∧ W'.heap[g]? = some (.cells cs' T) ∧ cs'.size = cs.size ∧ ∀ i, cs'[i]? = cs[i]? ∨ (n ≤ i ∧ cs'[i]? = some (.int .u8 (nth ys (i - n)))))
theorem Once.refl (base n : Nat) (ys : List Int) (W : World) : Once base n ys W W := ⟨rfl, rfl, rfl, Nat.le_refl _, fun _ _ => .inl rfl⟩
theorem Once.trans {base n : Nat} {ys : List Int} {a b c : World} (h : Once base n ys a b) (k : Once base n ys b c) : Once base n ys a c := by
  refine ⟨k.os.trans h.os, k.tape.trans h.tape, k.output.trans h.output, Nat.le_trans h.size k.size, fun g hg => ?_⟩
  rcases k.block g (Nat.lt_of_lt_of_le hg h.size) with h2 | ⟨hb, cs, cs', T, r1, r2, r3, r4⟩
  · rw [h2]; exact h.block g hg
  · rcases h.block g hg with h1 | ⟨_, ds, ds', T', s1, s2, s3, s4⟩
    · exact .inr ⟨hb, cs, cs', T, h1 ▸ r1, r2, r3, r4⟩
    · rw [s2] at r1
      simp only [Option.some.injEq, Obj.cells.injEq] at r1
      obtain ⟨rfl, rfl, -⟩ := r1
      refine .inr ⟨hb, ds, cs', T', s1, r2, r3.trans s3, fun i => ?_⟩
      rcases r4 i with r | ⟨r, r'⟩
      · rw [r]; exact s4 i
      · exact .inr ⟨r, r'⟩
theorem Once.ext {base n : Nat} {ys : List Int} {a b : World} (e : Ext a b) : Once base n ys a b := ⟨e.os, e.tape, e.output, e.size, fun g hg => .inl (e.block g hg)⟩
theorem Once.low {n : Nat} {ys : List Int} {w0 W : World} (h : Once w0.heap.size n ys w0 W) : Ext w0 W :=
  ⟨h.os, h.tape, h.output, h.size, fun g hg => by
    rcases h.block g hg with h | ⟨hb, _⟩
    · exact h
    · omega⟩
theorem Qhk {cs : Array Value} {xs : List Int} {k : IntKind} (h : ∀ i, i < xs.length → cs[i]? = some (.int k (nth xs i))) : cs.toList.take xs.length = xs.map (Value.int k) := by
  apply List.ext_getElem?
  intro i
  rw [List.getElem?_take]
  by_cases hi : i < xs.length
  · rw [if_pos hi, Array.getElem?_toList, h i hi, List.getElem?_map, List.getElem?_eq_getElem hi]
    simp [nth, hi]
  · rw [if_neg hi, List.getElem?_map, List.getElem?_eq_none (by omega)]; rfl
theorem Qi9 {base n : Nat} {ys xs : List Int} {T : TypeId} (hx : ∀ i, i < xs.length → n ≤ i → nth xs i = nth ys (i - n)) : Qbp (Once base n ys) (OwnN .u8 T base xs) := fun v W W' hR h => by
  rcases Nat.eq_zero_or_pos xs.length with h0 | h0
  · obtain ⟨⟨h1, h2⟩, hm⟩ := h
    refine ⟨⟨h1, ?_⟩, hm⟩
    rcases h2 with h2 | ⟨g, c, cur, rfl, q2, q3, q4, q5, q6, q7⟩
    · exact .inl h2
    · rcases hR.block g (Qat q3) with h | ⟨hb, cs, cs', T', r1, r2, r3, r4⟩
      · exact .inr ⟨g, c, cur, rfl, q2, h.trans q3, q4, q5, q6, q7⟩
      · rw [q3] at r1
        simp only [Option.some.injEq, Obj.cells.injEq] at r1
        obtain ⟨rfl, rfl, -⟩ := r1
        refine .inr ⟨g, c, cs', rfl, q2, r2, q4, q5, r3.trans q6, ?_⟩
        obtain rfl := List.length_eq_zero_iff.1 h0
        rfl
  · obtain ⟨g, c, cur, rfl, q2, q3, q4, q5, q6, q7⟩ := QcZ h h0
    rcases hR.block g (Qat q3) with h2 | ⟨hb, cs, cs', T', r1, r2, r3, r4⟩
    · exact h.keep fun g' hg => by
        obtain rfl : g = g' := Option.some.inj hg
        exact h2
    · rw [q3] at r1
      simp only [Option.some.injEq, Obj.cells.injEq] at r1
      obtain ⟨rfl, rfl, -⟩ := r1
      refine QeK rfl q2 r2 (r3.trans q4) q5 q6 (Qhk fun i hi => ?_)
      rcases r4 i with r | ⟨r, r'⟩
      · rw [r]; exact QcP q7 hi
      · rw [r', hx i hi r]
theorem Qja {P : Program} {T : TypeId} {b : Nat} {ρ : Operand → Value} {o : Oper} {W : World} (s x : Operand) (t : TypeId) (ho : o.op = .call { callee := .builtin .append, args := #[s, x], argTypes := #[t, t] })
    (ht : P.underlying t = some (.slice T)) (hi : (P.info? T).map (fun i => (i.zero, i.size, i.bytes)) = some (some (.int .u8 0), 1, b)) (hb8 : b ≤ 8) {base B n : Nat} {v y : Value} {xs ys Y : List Int} (hs : ρ s = v) (hx : ρ x = y)
    (h : OwnN .u8 T base xs v W) (hy : RdK .u8 B ys y W) (hn : xs.length + ys.length ≤ 1000000000) (hbase : base ≤ W.heap.size) (hY : (∃ g, v = .slice (some ⟨g, 0, none⟩) 0 0) ∨ (xs.length = n ∧ ys = Y)) :
    ∃ v' W', (execOp ρ o).run P W = .ok (.value v') W' ∧ Once base n Y W W' ∧ OwnN .u8 T base (xs ++ ys) v' W' := by
  obtain ⟨i, hq, hi1, hi2, hi3⟩ := QjK hi
  obtain ⟨v2, W2, r2, o2, g2, -⟩ := Qdk (ρ := ρ) (o := o) (W := W) s x t ho ht hi hb8 hs hx h hy hn hbase
  refine ⟨v2, W2, r2, ?_, o2⟩
  rcases h.1.2 with ⟨h0, h0'⟩ | ⟨g, c, cur, rfl, q2, q3, q4, q5, q6, q7⟩
  · exact ⟨g2.os, g2.tape, g2.output, g2.size, fun k hk => .inl (g2.block k hk (by rw [h0]; intro e; cases e))⟩
  · have hc0 : (∃ g', (Value.slice (some ⟨g, 0, none⟩) xs.length c) = .slice (some ⟨g', 0, none⟩) 0 0) → c = 0 := fun ⟨g', e'⟩ => by
      simp only [Value.slice.injEq] at e'
      exact e'.2.2
    obtain ⟨a, cap, rfl, y2, y3, y4, y5⟩ := hy
    have hgo : ∀ (v' : Value) (W' : World), (Builtin.append_ #[t, t] o.type #[.slice (some ⟨g, 0, none⟩) xs.length c, .slice a ys.length cap]).run P W = .ok v' W' → (execOp ρ o).run P W = .ok (.value v') W' := fun v' W' hr => by
      unfold execOp
      simp only [ho, resolve, invoke, builtin, Sem.run_bind, Sem.run_pure, Result.andThen_ok, List.map_toArray, List.map_cons, List.map_nil, hs, hx, hr]
    have same : ∀ (v' : Value) (W' : World), (execOp ρ o).run P W = .ok (.value v') W' → W2 = W' := fun v' W' hr => by
      rw [r2] at hr
      injection hr
    refine ⟨g2.os, g2.tape, g2.output, g2.size, fun k hk => ?_⟩
    by_cases hkg : k = g
    · subst hkg
      cases a with
      | none =>
        have hc0 := y4 rfl
        have hy0 : ys = [] := List.length_eq_zero_iff.1 (by omega)
        subst hy0
        subst hc0
        exact .inl (by rw [same _ _ (hgo _ _ (run_append_owned_none (P := P) W base t o.type T i 1 ht hq _ xs.length _ h.1))])
      | some a =>
        have hnews : ∀ j u, (ys.map (Value.int .u8))[j]? = some u → W.cell? (a.add j) = some u := by
          rcases y5 with rfl | ⟨g', o', e1, e2, e3, e4⟩
          · intro j u hu; simp at hu
          · obtain rfl := Option.some.inj e1
            exact QhB e4
        by_cases hroom : xs.length + ys.length ≤ c
        · have hr := run_append_room (P := P) W t o.type T i ht hq k xs.length c cur q3 a ys.length cap (ys.map (Value.int .u8)) (by simp [hi2]) hnews (Qh9 _ ys) hroom (by rw [hi2]; simp; omega)
          have hW := same _ _ (hgo _ _ hr)
          rw [hW]
          refine .inr ⟨q2, _, _, _, q3, setRow_heap W k cur _ T _ q3, ?_, fun j => ?_⟩
          · simp only [List.size_toArray, List.length_append, List.length_take, List.length_drop, List.length_map, Array.length_toList, hi2]; omega
          · simp only [List.getElem?_toArray, hi2, Nat.mul_one]
            have hl1 : (List.take xs.length cur.toList).length = xs.length := by
              have e : cur.toList.length = cur.size := Array.length_toList
              rw [List.length_take, e]; omega
            rw [List.append_assoc]
            rcases Nat.lt_or_ge j xs.length with hj | hj
            · left
              rw [List.getElem?_append_left (by omega), List.getElem?_take, if_pos hj, Array.getElem?_toList]
            · rw [List.getElem?_append_right (by omega), hl1]
              rcases Nat.lt_or_ge (j - xs.length) ys.length with hj2 | hj2
              · right
                rcases hY with hY | ⟨rfl, rfl⟩
                · have := hc0 hY; omega
                · refine ⟨hj, ?_⟩
                  rw [List.getElem?_append_left (by rw [List.length_map]; exact hj2), List.getElem?_map, List.getElem?_eq_getElem hj2]
                  simp [nth, hj2]
              · left
                rw [List.getElem?_append_right (by rw [List.length_map]; exact hj2), List.length_map, List.getElem?_drop, Array.getElem?_toList]
                congr 1; omega
        · have holds := h.1.cells (g := k) rfl
          have hr := run_append_grow (P := P) W t o.type T i (.int .u8 0) ht hq hi1 ⟨k, 0, none⟩ xs.length c (xs.map (Value.int .u8)) (by simp [hi2]) (by simpa using holds) a ys.length cap (ys.map (Value.int .u8)) (by simp [hi2]) hnews (by omega) (by omega) (growslice_fits (by omega) (by
            rw [hi3]
            have : (xs.length + ys.length) * b ≤ 1000000000 * 8 := Nat.mul_le_mul hn hb8
            omega))
          have hW := same _ _ (hgo _ _ hr)
          rw [hW]
          exact .inl (heap_alloc_old W.drew _ hk)
    · exact .inl (g2.block k hk (fun e => hkg (Option.some.inj e)))
end Go.Proofs.YtibegnjaphohaaaDoor.Sha
end
section
namespace Go.Proofs.YtibegnjaphohaaaDoor.Sha
open Go Go.RowKit
open Rely Auto Own
set_option linter.unusedVariables false
set_option linter.unusedSimpArgs false
theorem Qiv (key info : List Int) (v1 v2 : Value) (B B2 n : Nat) (w : World) (hn : n ≤ 8160) (hkl : key.length ≤ 800000000) (hil : info.length ≤ 700000000) (hkb : Qao key) (hib : Qao info) (hk : RdK .u8 B key v1 w) (hi : RdK .u8 B2 info v2 w) :
    Calls Tryd.prog 49 #[v1, v2, .int .i64 ((n : Nat) : Int)] w (QbH w (fun v W => ∃ u, v = .tuple #[u, .bool true] ∧ OwnN .u8 5 w.heap.size (kx key info n) u W)) :=
  (Qiw key info v1 v2 B B2 n w hn hkl hil hkb hib hk hi).mono fun e W' ⟨v, h1, h2, u, k, h3, h4, h5⟩ => ⟨v, h1, h2, u, h3, Qk6 key info n k h4 ▸ h5⟩
theorem QfS {P : Program} {ds : List Deferred} {id : Nat} {Q : Exit → Act → World → Prop} {N : Nat} {L : Env} {w : World} {l : List Oper} (R : World → World → Prop) (hrf : ∀ W, R W W) (htr : ∀ {a b c : World}, R a b → R b c → R a c) (n : Nat) (S : List Src) (hm : P.follows .mixedOrders = true) (hok : ok l n N S = true)
    (h : ∀ F : List KE → Prop, (∀ C, (∀ W, R w.drew W → finE (fun L W => WL P l.toArray Q (l.drop n) (Qav ds N L) W) (l.take n) C L W) → F C) → Qbg P R w.drew N L F (l.take n) S []) :
    (Code.region id l.toArray true).wp P Q (Qav ds N L) w := by
  refine Qcf R n N S hm hok (Qci N L) hrf (fun a b => htr a b) fun F r0 hr hF => ?_
  rw [Qbx] at hr
  subst hr
  have := h (fun C => ∀ W, R w.drew W → finE (fun L W => WL P l.toArray Q (l.drop n) (Qav ds N L) W) (l.take n) C L W) (fun C h => h)
  exact QbP (G := F) (fun C h => hF.out fun W hR => QhU (Q := fun a W => wpList P l.toArray Q (l.drop n) a W) _ _ _ (Qc7 (fun L W h => h.out) _ _ _ _ (h W hR))) _ _ [] this
theorem Once.below {base n : Nat} {ys : List Int} {W W' : World} (h : Once base n ys W W') (hb : base ≤ W.heap.size) : Below base W W' :=
  ⟨h.os, h.tape, h.output, h.size, fun g hg => by
    rcases h.block g (by omega) with h | ⟨hb, _⟩
    · exact h
    · omega⟩
theorem Once.rd {base n B : Nat} {k : IntKind} {ys zs : List Int} {v : Value} {W W' : World} (h : Once base n ys W W') (hr : RdK k B zs v W) (hB : B ≤ base) : RdK k B zs v W' := hr.keep h.size fun g hg hl => by
  rcases h.block g hl with h | ⟨hb, _⟩
  · exact h
  · omega
structure QbT (g base n : Nat) (ys : List Int) (W W' : World) : Prop where
  once : Once base n ys W W'
  other : ∀ k, k < W.heap.size → k ≠ g → W'.heap[k]? = W.heap[k]?
theorem QbT.refl (g base n : Nat) (ys : List Int) (W : World) : QbT g base n ys W W := ⟨Once.refl _ _ _ _, fun _ _ _ => rfl⟩
theorem QbT.trans {g base n : Nat} {ys : List Int} {a b c : World} (h : QbT g base n ys a b) (k : QbT g base n ys b c) : QbT g base n ys a c := ⟨h.once.trans k.once, fun i hi hn => (k.other i (Nat.lt_of_lt_of_le hi h.once.size) hn).trans (h.other i hi hn)⟩
theorem QbT.ext {g base n : Nat} {ys : List Int} {a b : World} (e : Ext a b) : QbT g base n ys a b := ⟨Once.ext e, fun i hi _ => e.block i hi⟩
theorem QbT.row {g base n : Nat} {ys : List Int} {a b : World} {k : Nat} {ob : Obj} (h : QbT g base n ys a b) (r : a.heap[k]? = some ob) (hn : k ≠ g) : b.heap[k]? = some ob := (h.other k (Qat r) hn).trans r
theorem Qfp {g base n : Nat} {ys xs : List Int} {T : TypeId} (hx : ∀ i, i < xs.length → n ≤ i → nth xs i = nth ys (i - n)) : Qbp (QbT g base n ys) (OwnN .u8 T base xs) := fun v W W' hR h => Qi9 hx v W W' hR.once h
theorem Qew {g base n b : Nat} {ys xs : List Int} {T : TypeId} {v : Value} {W W' : World} (hR : QbT g base n ys W W') (h : OwnN .u8 T b xs v W) (hn : v.ownBlock ≠ some g) : OwnN .u8 T b xs v W' := h.keep fun k hk => hR.other k (h.lt hk) (fun e => hn (by rw [hk, e]))
theorem Qii {P : Program} {T : TypeId} {ρ : Operand → Value} {o : Oper} {W : World} (s x : Operand) (t : TypeId) (ho : o.op = .call { callee := .builtin .append, args := #[s, x], argTypes := #[t, t] })
    (ht : P.underlying t = some (.slice T)) (hi : (P.info? T).map (fun i => (i.zero, i.size, i.bytes)) = some (some (.int .u8 0), 1, 1)) {g c base B : Nat} {y : Value} {xs ys : List Int} (hs : ρ s = .slice (some ⟨g, 0, none⟩) xs.length c) (hx : ρ x = y)
    (h : OwnN .u8 T base xs (.slice (some ⟨g, 0, none⟩) xs.length c) W) (hy : RdK .u8 B ys y W) (hn : xs.length + ys.length ≤ 1000000000) (hbase : base ≤ W.heap.size) :
    ∃ v' W', (execOp ρ o).run P W = .ok (.value v') W' ∧ QbT g base xs.length ys W W' ∧ OwnN .u8 T base (xs ++ ys) v' W' := by
  obtain ⟨v', W', r, q, p⟩ := Qja (ρ := ρ) (o := o) (W := W) (n := xs.length) (Y := ys) (b := 1) s x t ho ht hi (by decide) hs hx h hy hn hbase (.inr ⟨rfl, rfl⟩)
  obtain ⟨v2, W2, r2, o2, g2, -⟩ := Qdk (ρ := ρ) (o := o) (W := W) (b := 1) s x t ho ht hi (by decide) hs hx h hy hn hbase
  rw [r] at r2
  injection r2 with _ r3
  subst r3
  exact ⟨v', W', r, ⟨q, fun k hk hn => g2.block k hk (fun e => hn (Option.some.inj e))⟩, p⟩
theorem run_extractT {P : Program} {ρ : Operand → Value} {o : Oper} {w : World} (x : Operand) (i : Nat) (vs : Array Value) (u : Value) (ho : o.op = .extract x i) (hx : ρ x = .tuple vs) (hi : vs[i]? = some u) : (execOp ρ o).run P w = .ok (.value u) w := by
  unfold execOp
  simp [ho, hx, Instr.extract, hi]
section
variable {P : Program} {R : World → World → Prop} {w0 : World} {N : Nat} {L : Env} {F : List KE → Prop} {o : Oper} {os : List Oper} {s : Src} {ss : List Src} {C : List KE}
theorem Qjc (φ : Fact) (hφ : Qbp R φ) {rd : List (Tmp × Option Nat)}
    (h : ∀ (ρ : Tmp → Value) (W : World), R w0 W → Qca (envN N L) (C.map KE.fact) ρ W rd → ∃ v W', (execOp (Rely.look ρ) o).run P W = .ok (.value v) W' ∧ R W W' ∧ φ v W')
    (hk : Qbg P R w0 N L F os ss (C ++ [.ex φ])) : Qbg P R w0 N L F (o :: os) (⟨none, rd⟩ :: ss) C :=
  ⟨.ex φ, hφ, fun ρ W hR hh => by
    obtain ⟨v, W', h1, h2, h3⟩ := h ρ W hR hh
    show QbK _ _ _ _ _
    rw [h1]
    exact ⟨h2, h3⟩, hk⟩
theorem Qil (hrf : ∀ W, R W W) (hre : ∀ {A B : World}, Ext A B → R A B) (φ : Fact) (hφ : Qbp R φ) (f : FuncId) {rd : List (Tmp × Option Nat)}
    (h : ∀ (ρ : Tmp → Value) (W : World), R w0 W → Qca (envN N L) (C.map KE.fact) ρ W rd → ∃ args, (execOp (Rely.look ρ) o).run P W = .ok (.enter f args) W ∧ Calls P f args W (QbH W φ))
    (hk : Qbg P R w0 N L F os ss (C ++ [.ex φ])) : Qbg P R w0 N L F (o :: os) (⟨none, rd⟩ :: ss) C :=
  ⟨.ex φ, hφ, fun ρ W hR hh => by
    obtain ⟨args, h1, h2⟩ := h ρ W hR hh
    show QbK _ _ _ _ _
    rw [h1]
    exact ⟨hrf _, h2.mono fun _ _ h => Qhx h.fact (fun e => hre e)⟩, hk⟩
end
set_option maxHeartbeats 4000000 in
theorem Qiu (sec ctx : List Int) (s : ByteArray) (v2 : Value) (B2 : Nat) (w : World)   (hsl : sec.length = 32) (hsb : Qao sec) (hxb : Qao ctx) (hx : RdK .u8 B2 ctx v2 w) (n : Int) (h : 255 < (strB s).length) : Calls Tryd.prog 37 #[.agg (ints .u8 sec), .string s, v2, .int .i64 n] w (Ret w (.tuple #[.slice none 0 0, .bool false])) := by
  obtain ⟨a_ctx, c_ctx, rfl, -⟩ := id hx
  refine enter 67 [(0, .agg (ints .u8 (sec))), (1, .string s), (2, .slice a_ctx ctx.length c_ctx), (3, .int .i64 n)] Tryd.func37 rfl rfl kj rfl ?_
  refine wp_seq_k fun K1 hK1 => ?_
  refine Qad ?_
  refine Qar (ints .u8 (sec)) 23 4 rfl kj kj fun g2 W1 l2 e1 r2_1 => ?_
  have x1 : Ext w W1 := Ext.tr (Rely.Ext.refl w) e1
  have b2 : w.heap.size ≤ g2 := Nat.le_trans (Rely.Ext.refl w).size l2
  refine Qaa (.slice none 0 0) 8 rfl kj kj ?_
  refine Qaa (.bool false) 9 rfl kj kj ?_
  refine Qaj ?_
  refine hK1 _ _ ?_
  refine wp_seq_k fun K3 hK3 => ?_
  refine wp_seq_k fun K4 hK4 => ?_
  refine Qad ?_
  refine Qaa (.string s) 12 rfl kj kj ?_
  refine Qaa (.int .i64 (((strB s).length : Nat) : Int)) 13 rfl kj (Qag (u := .int .i64 ((s.size : Nat) : Int)) kj (congrArg (fun z : Nat => Value.int .i64 (z : Int)) (Qb9 s).symm)) ?_
  refine Qaa (.bool true) 14 rfl kj (Qag (u := .bool (decide ((((strB s).length : Nat) : Int) > 255))) kj (congrArg Value.bool (decide_eq_true (by omega)))) ?_
  refine Qaa (.bool true) 15 rfl kj kj ?_
  refine QbA 16 rfl kj ?_
  refine QbA 17 rfl kj ?_
  refine QbA 18 rfl kj ?_
  refine Qaa (.bool true) 19 rfl kj kj ?_
  refine Qaa (.bool true) 20 rfl kj kj ?_
  refine QbA 21 rfl kj ?_
  refine QbA 22 rfl kj ?_
  refine Qaa (.bool true) 23 rfl kj kj ?_
  refine Qaa (.bool true) 24 rfl kj kj ?_
  refine QbA 25 rfl kj ?_
  refine QbA 26 rfl kj ?_
  refine Qaa (.bool true) 27 rfl kj kj ?_
  refine Qaj ?_
  refine hK4 _ _ ?_
  refine cond_true kj ?_
  refine wp_seq_k fun K5 hK5 => ?_
  refine Qad ?_
  refine Qaa (.slice none 0 0) 8 rfl kj kj ?_
  refine Qaa (.bool false) 9 rfl kj kj ?_
  refine Qaj ?_
  refine hK5 _ _ ?_
  refine wp_ret ?_
  repeat (first | with_reducible refine goR1 ?_ | with_reducible refine goR2 ?_)
  exact (show bodyPost _ _ _ .ret _ _ from ret2 (.slice none 0 0) (.bool false) rfl (Qa7 kj) (Qa7 kj) ⟨rfl, x1⟩)
set_option maxHeartbeats 4000000 in
theorem Qhw (sec ctx : List Int) (s : ByteArray) (v2 : Value) (B2 : Nat) (w : World)   (hsl : sec.length = 32) (hsb : Qao sec) (hxb : Qao ctx) (hx : RdK .u8 B2 ctx v2 w) (n : Nat) (hn : n ≤ 8160) (hl : (strB s).length ≤ 255) (hc2 : ctx.length ≤ 65536) : Calls Tryd.prog 37 #[.agg (ints .u8 sec), .string s, v2, .int .i64 ((n : Nat) : Int)] w (QbH w (fun v W => ∃ u, v = .tuple #[u, .bool true] ∧ OwnN .u8 5 w.heap.size (kx sec (Qbd (strB s) ctx n) n) u W)) := by
  obtain ⟨a_ctx, c_ctx, rfl, -⟩ := id hx
  refine enter 67 [(0, .agg (ints .u8 (sec))), (1, .string s), (2, .slice a_ctx ctx.length c_ctx), (3, .int .i64 ((n : Nat) : Int))] Tryd.func37 rfl rfl kj rfl ?_
  refine wp_seq_k fun K1 hK1 => ?_
  refine Qad ?_
  refine Qar (ints .u8 (sec)) 23 4 rfl kj kj fun g2 W1 l2 e1 r2_1 => ?_
  have x1 : Ext w W1 := Ext.tr (Rely.Ext.refl w) e1
  have b2 : w.heap.size ≤ g2 := Nat.le_trans (Rely.Ext.refl w).size l2
  refine Qaa (.slice none 0 0) 8 rfl kj kj ?_
  refine Qaa (.bool false) 9 rfl kj kj ?_
  refine Qaj ?_
  refine hK1 _ _ ?_
  refine wp_seq_k fun K3 hK3 => ?_
  refine wp_seq_k fun K4 hK4 => ?_
  refine Qad ?_
  refine Qaa (.string s) 12 rfl kj kj ?_
  refine Qaa (.int .i64 (((strB s).length : Nat) : Int)) 13 rfl kj (Qag (u := .int .i64 ((s.size : Nat) : Int)) kj (congrArg (fun z : Nat => Value.int .i64 (z : Int)) (Qb9 s).symm)) ?_
  refine Qaa (.bool false) 14 rfl kj (Qag (u := .bool (decide ((((strB s).length : Nat) : Int) > 255))) kj (congrArg Value.bool (decide_eq_false (by omega)))) ?_
  refine Qaa (.bool false) 15 rfl kj kj ?_
  refine Qaa (.slice a_ctx ctx.length c_ctx) 16 rfl kj kj ?_
  refine Qaa (.int .i64 ((ctx.length : Nat) : Int)) 17 rfl kj kj ?_
  refine Qaa (.bool false) 18 rfl kj (Qag (u := .bool (decide (((ctx.length : Nat) : Int) > 65536))) kj (congrArg Value.bool (decide_eq_false (by omega)))) ?_
  refine Qaa (.bool false) 19 rfl kj kj ?_
  refine Qaa (.bool false) 20 rfl kj kj ?_
  refine Qaa (.int .i64 ((n : Nat) : Int)) 21 rfl kj kj ?_
  refine Qaa (.bool false) 22 rfl kj (Qag (u := .bool (decide (((n : Nat) : Int) < 0))) kj (congrArg Value.bool (decide_eq_false (by omega)))) ?_
  refine Qaa (.bool false) 23 rfl kj kj ?_
  refine Qaa (.bool false) 24 rfl kj kj ?_
  refine Qaa (.int .i64 ((n : Nat) : Int)) 25 rfl kj kj ?_
  refine Qaa (.bool false) 26 rfl kj (Qag (u := .bool (decide (((n : Nat) : Int) > 8160))) kj (congrArg Value.bool (decide_eq_false (by omega)))) ?_
  refine Qaa (.bool false) 27 rfl kj kj ?_
  refine Qaj ?_
  refine hK4 _ _ ?_
  refine cond_false kj ?_
  refine wp_skip ?_
  refine hK3 _ _ ?_
  refine wp_seq_k fun K5 hK5 => ?_
  refine Qad ?_
  refine Qaa (.slice a_ctx ctx.length c_ctx) 28 rfl kj kj ?_
  refine Qaa (.int .i64 ((ctx.length : Nat) : Int)) 29 rfl kj kj ?_
  refine Qaa (.int .i64 ((ctx.length : Nat) : Int)) 10 rfl kj kj ?_
  refine Qaj ?_
  refine hK5 _ _ ?_
  refine wp_seq_k fun K6 hK6 => ?_
  refine Qad ?_
  refine Qaa (.int .i64 ((n : Nat) : Int)) 30 rfl kj kj ?_
  refine Qaa (.int .i64 ((n / 256 : Nat) : Int)) 31 rfl kj (Qag (u := .int .i64 (IntKind.i64.wrap (Int.tdiv (((n : Nat) : Int)) (256)))) kj (congrArg (Value.int .i64) (Qdx _ 256 (by omega)))) ?_
  refine Qaa (.int .u8 (((n / 256 : Nat) : Int))) 32 rfl kj (Qag (u := .int .u8 (IntKind.u8.wrap ((n / 256 : Nat) : Int))) kj (congrArg (Value.int .u8) (Qdj (n / 256) (n / 256) (by omega)))) ?_
  refine Qaa (.int .i64 ((n : Nat) : Int)) 33 rfl kj kj ?_
  refine Qaa (.int .i64 ((n % 256 : Nat) : Int)) 34 rfl kj (Qag (u := .int .i64 (Int.tmod (((n : Nat) : Int)) (256))) kj (congrArg (Value.int .i64) (QbY _ 256))) ?_
  refine Qaa (.int .u8 (((n % 256 : Nat) : Int))) 35 rfl kj (Qag (u := .int .u8 (IntKind.u8.wrap ((n % 256 : Nat) : Int))) kj (congrArg (Value.int .u8) (Qdj (n % 256) (n % 256) (by omega)))) ?_
  refine Qaa (.string s) 36 rfl kj kj ?_
  refine Qaa (.int .i64 (((strB s).length : Nat) : Int)) 37 rfl kj (Qag (u := .int .i64 ((s.size : Nat) : Int)) kj (congrArg (fun z : Nat => Value.int .i64 (z : Int)) (Qb9 s).symm)) ?_
  refine Qaa (.int .u8 ((((strB s).length : Nat) : Int))) 38 rfl kj (Qag (u := .int .u8 (IntKind.u8.wrap (((strB s).length : Nat) : Int))) kj (congrArg (Value.int .u8) (Qdj ((strB s).length) ((strB s).length) (by omega)))) ?_
  refine QaB (ints .u8 ([(((n / 256 : Nat) : Int)), (((n % 256 : Nat) : Int)), ((((strB s).length : Nat) : Int))])) 5 3 39 rfl kj kj fun g7 W2 l7 e2 r7_2 => ?_
  have x2 : Ext w W2 := Ext.tr x1 e2
  have b7 : w.heap.size ≤ g7 := Nat.le_trans x1.size l7
  refine Qaa (.string s) 40 rfl kj kj ?_
  have y1_2 : Ext W1 W2 := (Rely.Ext.trans (Rely.Ext.refl W1) e2)
  refine QdO (T := 5) (xs := [(((n / 256 : Nat) : Int)), (((n % 256 : Nat) : Int)), ((((strB s).length : Nat) : Int))]) (lab := s) (V := W1) (.tmp 39) (.tmp 40) 38 9 rfl kj kj kj 41 rfl kj kj kj (QbD (xs := [(((n / 256 : Nat) : Int)), (((n % 256 : Nat) : Int)), ((((strB s).length : Nat) : Int))]) (n := 3) rfl l7 r7_2 (by decide)) (by have : (QbN (strB s) n).length = 3 := rfl; (try simp only [List.length_append, List.length_cons, List.length_nil]); omega) y1_2 fun z2 W3 f8 y3 l3 => ?_
  have x3 : Ext w W3 := Ext.low x2 l3 x1.size
  have hu9 : OwnN .u8 5 W1.heap.size (QbN (strB s) n ++ strB s) z2 W3 := f8
  refine Qaa (z2) 11 rfl kj kj ?_
  refine Qaj ?_
  refine hK6 _ _ ?_
  refine wp_seq_k fun K10 hK10 => ?_
  refine Qad ?_
  refine Qaa (z2) 42 rfl kj kj ?_
  refine Qaa (.int .i64 ((ctx.length : Nat) : Int)) 43 rfl kj kj ?_
  refine Qaa (.int .i64 ((ctx.length / 16777216 : Nat) : Int)) 44 rfl kj (Qag (u := .int .i64 (IntKind.i64.wrap (Int.tdiv (((ctx.length : Nat) : Int)) (16777216)))) kj (congrArg (Value.int .i64) (Qdx _ 16777216 (by omega)))) ?_
  refine Qaa (.int .u8 (((ctx.length / 16777216 : Nat) : Int))) 45 rfl kj (Qag (u := .int .u8 (IntKind.u8.wrap ((ctx.length / 16777216 : Nat) : Int))) kj (congrArg (Value.int .u8) (Qdj (ctx.length / 16777216) (ctx.length / 16777216) (by omega)))) ?_
  refine Qaa (.int .i64 ((ctx.length : Nat) : Int)) 46 rfl kj kj ?_
  refine Qaa (.int .i64 ((ctx.length / 65536 : Nat) : Int)) 47 rfl kj (Qag (u := .int .i64 (IntKind.i64.wrap (Int.tdiv (((ctx.length : Nat) : Int)) (65536)))) kj (congrArg (Value.int .i64) (Qdx _ 65536 (by omega)))) ?_
  refine Qaa (.int .i64 (((ctx.length / 65536) % 256 : Nat) : Int)) 48 rfl kj (Qag (u := .int .i64 (Int.tmod (((ctx.length / 65536 : Nat) : Int)) (256))) kj (congrArg (Value.int .i64) (QbY _ 256))) ?_
  refine Qaa (.int .u8 (((ctx.length / 65536 % 256 : Nat) : Int))) 49 rfl kj (Qag (u := .int .u8 (IntKind.u8.wrap (((ctx.length / 65536) % 256 : Nat) : Int))) kj (congrArg (Value.int .u8) (Qdj (ctx.length / 65536 % 256) (ctx.length / 65536 % 256) (by omega)))) ?_
  refine Qaa (.int .i64 ((ctx.length : Nat) : Int)) 50 rfl kj kj ?_
  refine Qaa (.int .i64 ((ctx.length / 256 : Nat) : Int)) 51 rfl kj (Qag (u := .int .i64 (IntKind.i64.wrap (Int.tdiv (((ctx.length : Nat) : Int)) (256)))) kj (congrArg (Value.int .i64) (Qdx _ 256 (by omega)))) ?_
  refine Qaa (.int .i64 (((ctx.length / 256) % 256 : Nat) : Int)) 52 rfl kj (Qag (u := .int .i64 (Int.tmod (((ctx.length / 256 : Nat) : Int)) (256))) kj (congrArg (Value.int .i64) (QbY _ 256))) ?_
  refine Qaa (.int .u8 (((ctx.length / 256 % 256 : Nat) : Int))) 53 rfl kj (Qag (u := .int .u8 (IntKind.u8.wrap (((ctx.length / 256) % 256 : Nat) : Int))) kj (congrArg (Value.int .u8) (Qdj (ctx.length / 256 % 256) (ctx.length / 256 % 256) (by omega)))) ?_
  refine Qaa (.int .i64 ((ctx.length : Nat) : Int)) 54 rfl kj kj ?_
  refine Qaa (.int .i64 ((ctx.length % 256 : Nat) : Int)) 55 rfl kj (Qag (u := .int .i64 (Int.tmod (((ctx.length : Nat) : Int)) (256))) kj (congrArg (Value.int .i64) (QbY _ 256))) ?_
  refine Qaa (.int .u8 (((ctx.length % 256 : Nat) : Int))) 56 rfl kj (Qag (u := .int .u8 (IntKind.u8.wrap ((ctx.length % 256 : Nat) : Int))) kj (congrArg (Value.int .u8) (Qdj (ctx.length % 256) (ctx.length % 256) (by omega)))) ?_
  refine QaB (ints .u8 ([(((ctx.length / 16777216 : Nat) : Int)), (((ctx.length / 65536 % 256 : Nat) : Int)), (((ctx.length / 256 % 256 : Nat) : Int)), (((ctx.length % 256 : Nat) : Int))])) 5 4 57 rfl kj kj fun g11 W4 l11 e4 r11_4 => ?_
  have x4 : Ext w W4 := Ext.tr x3 e4
  have b11 : w.heap.size ≤ g11 := Nat.le_trans x3.size l11
  have f12_4 := (hu9.ext e4)
  have y1_4 : Ext W1 W4 := (Rely.Ext.trans y3 e4)
  refine QaC (k := .u8) (T := 5) (xs := QbN (strB s) n ++ strB s) (ys := [(((ctx.length / 16777216 : Nat) : Int)), (((ctx.length / 65536 % 256 : Nat) : Int)), (((ctx.length / 256 % 256 : Nat) : Int)), (((ctx.length % 256 : Nat) : Int))]) (V := W1) 1 (.tmp 42) (.tmp 57) 38 rfl kj kj (by decide) 58 rfl kj kj kj f12_4 (QaK (xs := [(((ctx.length / 16777216 : Nat) : Int)), (((ctx.length / 65536 % 256 : Nat) : Int)), (((ctx.length / 256 % 256 : Nat) : Int)), (((ctx.length % 256 : Nat) : Int))]) (n := 4) rfl r11_4 (Qat r11_4) (show 4 ≤ maxLen from by decide)) (by have : (QbN (strB s) n).length = 3 := rfl; simp only [List.length_append, List.length_cons, List.length_nil]; omega) y1_4 fun z3 W5 f13 y5 l5 => ?_
  have x5 : Ext w W5 := Ext.low x4 l5 x1.size
  have hu15 : OwnN .u8 5 W1.heap.size ((QbN (strB s) n ++ strB s) ++ QcR ctx.length) z3 W5 := f13
  refine Qaa (z3) 11 rfl kj kj ?_
  refine Qaj ?_
  refine hK10 _ _ ?_
  refine wp_seq_k fun K16 hK16 => ?_
  have hxs : RdK .u8 w.heap.size ctx (.slice a_ctx ctx.length c_ctx) W5 := (RdK.here hx).ext x5
  have hbx : w.heap.size ≤ W1.heap.size := x1.size
  have hbW : W1.heap.size ≤ W5.heap.size := y5.size
  have hlx : ((QbN (strB s) n ++ strB s) ++ QcR ctx.length).length + ctx.length ≤ 1000000000 := by have : (QbN (strB s) n).length = 3 := rfl; have : (QcR ctx.length).length = 4 := rfl; simp only [List.length_append]; omega
  obtain ⟨gz, cz, curz, hze, hz1, hz2, -, -, -, -⟩ := QcZ hu15 (by have : (QbN (strB s) n).length = 3 := rfl; simp only [List.length_append]; omega)
  have hgz := Qat hz2
  subst hze
  have r2_2 := (Qab r2_1 e2)
  have r2_3 := (Qbb l3 r2_2 (Qat r2_1))
  have r2_4 := (Qab r2_3 e4)
  have r2_5 := (Qbb l5 r2_4 (Qat r2_1))
  have hn4 : g2 ≠ gz := by have h1 := Qat r2_1; omega
  refine QfS (QbT gz W1.heap.size ((QbN (strB s) n ++ strB s) ++ QcR ctx.length).length ctx) (QbT.refl _ _ _ _) (fun h k => QbT.trans h k) 8 [⟨none, [(4, none)]⟩, ⟨none, [(11, none)]⟩, ⟨none, [(2, none)]⟩, ⟨none, [(60, some 1), (61, some 2)]⟩, ⟨none, [(3, none)]⟩, ⟨none, [(59, some 0), (62, some 3), (63, some 4)]⟩, ⟨none, [(64, some 5)]⟩, ⟨none, [(64, some 5)]⟩] kj kj fun F hF => ?_
  refine Qe6 (QbT.refl _ _ _ _) (.slice (some ⟨g2, 0, none⟩) 32 32) kj kj (fun W hR => by kernel_rfl) ?_
  refine Qe6 (QbT.refl _ _ _ _) (.slice (some ⟨gz, 0, none⟩) ((QbN (strB s) n ++ strB s) ++ QcR ctx.length).length cz) kj kj (fun W hR => by kernel_rfl) ?_
  refine Qe6 (QbT.refl _ _ _ _) (.slice a_ctx ctx.length c_ctx) kj kj (fun W hR => by kernel_rfl) ?_
  refine Qkh (OwnN .u8 5 W1.heap.size (((QbN (strB s) n ++ strB s) ++ QcR ctx.length) ++ ctx)) (Qfp (fun i hi h => by unfold nth; rw [List.getD_eq_getElem?_getD, List.getD_eq_getElem?_getD, List.getElem?_append_right h])) kj kj (fun W hR => Qii (.tmp 60) (.tmp 61) 38 (by rfl) kj kj kj kj (Qfp (fun i hi h => absurd hi (by omega)) _ _ _ hR (hu15.ext (Qas _))) (hR.once.rd (hxs.ext (Qas _)) hbx) hlx (Nat.le_trans hbW (Nat.le_trans (Qas W5).size hR.once.size))) ?_
  refine Qe6 (QbT.refl _ _ _ _) (.int .i64 ((n : Nat) : Int)) kj kj (fun W hR => by kernel_rfl) ?_
  refine Qil (QbT.refl _ _ _ _) (fun e => QbT.ext e) (fun v W => ∃ u, v = .tuple #[u, .bool true] ∧ OwnN .u8 5 w.heap.size (kx sec (Qbd (strB s) ctx n) n) u W ∧ u.ownBlock ≠ some gz) (fun v W W' hR h => by obtain ⟨u, e, h1, h2⟩ := h; exact ⟨u, e, Qew hR h1 h2, h2⟩) 49 (fun ρ W hR hh => ?_) ?_
  · have e59 : ρ 59 = .slice (some ⟨g2, 0, none⟩) 32 32 := hh.1
    have h62 : OwnN .u8 5 W1.heap.size (((QbN (strB s) n ++ strB s) ++ QcR ctx.length) ++ ctx) (ρ 62) W := hh.2.1
    have e63 : ρ 63 = .int .i64 ((n : Nat) : Int) := hh.2.2.1
    have h4 := hR.row (Qab r2_5 (Qas _)) hn4
    have hWs : w.heap.size ≤ W.heap.size := Nat.le_trans x5.size (Nat.le_trans (Qas W5).size hR.once.size)
    have hgW : gz < W.heap.size := Nat.lt_of_lt_of_le hgz (Nat.le_trans (Qas W5).size hR.once.size)
    refine ⟨#[.slice (some ⟨g2, 0, none⟩) 32 32, ρ 62, .int .i64 ((n : Nat) : Int)], Eq.trans (b := Result.ok (Next.enter 49 #[ρ 59, ρ 62, ρ 63]) W) kj (by rw [e59, e63]), ?_⟩
    exact (Qiv sec (Qbd (strB s) ctx n) _ _ _ _ n _ hn (by omega) (by rw [Qf0]; omega) hsb (QdY _ _ _ (Qeq s) hxb hl hc2 hn) (QaK (xs := sec) (n := 32) hsl h4 (Qat h4) (by decide)) (OwnN.rd h62)).mono fun e W' ⟨v, q1, q2, u, q3, q4⟩ => ⟨v, q1, q2, u, q3, OwnN.base hWs q4, fun e => by have := q4.ge e; omega⟩
  refine Qjc (fun v W => OwnN .u8 5 w.heap.size (kx sec (Qbd (strB s) ctx n) n) v W ∧ v.ownBlock ≠ some gz) (fun v W W' hR h => ⟨Qew hR h.1 h.2, h.2⟩) (fun ρ W hR hh => ?_) ?_
  · obtain ⟨u, e64, q1, q2⟩ := hh.1
    exact ⟨u, W, run_extractT (.tmp 64) 0 #[u, .bool true] u rfl e64 rfl, QbT.refl _ _ _ _ _, q1, q2⟩
  refine Qjc (fun v W => v = .bool true) (fun v W W' hR h => h) (fun ρ W hR hh => ?_) ?_
  · obtain ⟨u, e64, q1, q2⟩ := hh.1
    exact ⟨.bool true, W, run_extractT (.tmp 64) 1 #[u, .bool true] _ rfl e64 rfl, QbT.refl _ _ _ _ _, rfl⟩
  refine Qcz (hF _ fun W6 hR => ?_)
  simp only [List.nil_append, List.cons_append, List.take_succ_cons, List.take_zero, List.drop_succ_cons, List.drop_zero, finE, up]
  rintro z4 hz4 z64 hz64 z65 ⟨hz65, -⟩ z66 rfl
  clear hF
  have l6 : Below W1.heap.size W5 W6 := QgY (hR.once.below (Nat.le_trans hbW (Qas _).size)) hbW
  have x6 : Ext w W6 := Ext.low x5 l6 x1.size
  refine Qaa (z65) 8 rfl kj kj ?_
  refine Qaa (.bool true) 9 rfl kj kj ?_
  refine Qaj ?_
  refine hK16 _ _ ?_
  refine wp_ret ?_
  repeat (first | with_reducible refine goR1 ?_ | with_reducible refine goR2 ?_)
  exact (show bodyPost _ _ _ .ret _ _ from ret2 (z65) (.bool true) rfl (Qa7 kj) (Qa7 kj) ⟨_, rfl, x6, z65, rfl, hz65⟩)
end Go.Proofs.YtibegnjaphohaaaDoor.Sha
end
