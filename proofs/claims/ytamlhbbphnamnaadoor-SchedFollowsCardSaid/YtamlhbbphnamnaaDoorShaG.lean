/- SHA-256: the sum of a digest. -/
import Derived.Test.YtamlhbbphnamnaaDoorShaE
namespace Go.Proofs.YtamlhbbphnamnaaDoor.Sha
open Go Go.RowKit
open Go.Proofs.YtamlhbbphnamnaaDoor.Rely Go.Proofs.YtamlhbbphnamnaaDoor.Auto Go.Proofs.YtamlhbbphnamnaaDoor.Own
set_option linter.unusedVariables false
set_option linter.unusedSimpArgs false

theorem wrap8' (x : Int) : IntKind.u8.wrap x = x % 256 := by
  have : IntKind.u8.wrap x = x % 2 ^ 8 := rfl
  rw [this]; rfl
theorem w_byte (x : Wd) (n d : Nat) (h : 2 ^ n = d) : IntKind.u8.wrap (wv (x >>> n)) = ((x.toNat / d % 256 : Nat) : Int) := by
  subst h
  rw [wrap8']; unfold wv; rw [BitVec.toNat_ushiftRight, Nat.shiftRight_eq_div_pow]; omega
theorem tailP_bytes (n : Nat) : AreBytes (tailP n) := fun x hx => by
  unfold tailP at hx
  rcases List.mem_cons.1 hx with h | h
  · omega
  · rcases List.mem_append.1 h with h | h
    · exact bytes_zeros _ x h
    · simp only [be8, List.mem_cons, List.not_mem_nil, or_false] at h
      rcases h with h | h | h | h | h | h | h | h <;> omega
set_option maxHeartbeats 8000000 in
theorem sumC (g : Nat) (t : List Int) (tc : TypeId) (w : World) (hc : w.heap[1]? = some (.cells (ints .u64 cubesI) tc)) (hlen : t.length ≤ 900000000) (hd : HasD g t w) : Calls Tryd.prog 43 #[.pointer (some ⟨g, 0, none⟩)] w (Ret w (.agg (ints .u8 (dig t)))) := by
  obtain ⟨b, hbl, hbb, hbp, hmany, hrow⟩ := hd
  obtain ⟨s, hs⟩ : ∃ z, z = absorb S0 t (t.length / 64) := ⟨_, rfl⟩
  rw [← hs] at hrow
  replace hrow : w.heap[g]? = some (.cells (cat [ints .u32 ([wv s.a, wv s.b, wv s.c, wv s.d, wv s.e, wv s.f, wv s.g, wv s.h]), ints .u8 (b), #[.int .i64 ((t.length : Nat) : Int)]]) 90) := hrow
  refine enter 43 [(0, .pointer (some ⟨g, 0, none⟩))] Tryd.func43 rfl rfl kj rfl ?_
  refine wp_seq_k fun K3 hK3 => ?_
  refine region_lit ?_
  refine seq_alloc (ints .u8 ([0, 0, 0, 0, 0, 0, 0, 0, 0, 0, 0, 0, 0, 0, 0, 0, 0, 0, 0, 0, 0, 0, 0, 0, 0, 0, 0, 0, 0, 0, 0, 0])) 26 2 rfl kj kj fun g4 W1 l4 e1 r4_1 => ?_
  have x1 : Ext w W1 := Ext.tr (Rely.Ext.refl w) e1
  have b4 : w.heap.size ≤ g4 := Nat.le_trans (Rely.Ext.refl w).size l4
  refine seq_nil ?_
  refine hK3 _ _ ?_
  try clear hK3 K3
  refine wp_seq_k fun K5 hK5 => ?_
  refine region_lit ?_
  refine seq_alloc (ints .u8 ([0, 0, 0, 0, 0, 0, 0, 0, 0, 0, 0, 0, 0, 0, 0, 0, 0, 0, 0, 0, 0, 0, 0, 0, 0, 0, 0, 0, 0, 0, 0, 0])) 26 3 rfl kj kj fun g6 W2 l6 e2 r6_2 => ?_
  have x2 : Ext w W2 := Ext.tr x1 e2
  have b6 : w.heap.size ≤ g6 := Nat.le_trans x1.size l6
  refine seq_nil ?_
  refine hK5 _ _ ?_
  try clear hK5 K5
  refine wp_seq_k fun K7 hK7 => ?_
  refine wp_seq_k fun K8 hK8 => ?_
  refine region_lit ?_
  refine seq_val (.pointer (some ⟨g, 0, none⟩)) 8 rfl kj kj ?_
  refine seq_val (.bool false) 9 rfl kj kj ?_
  refine seq_nil ?_
  refine hK8 _ _ ?_
  try clear hK8 K8
  refine cond_false kj ?_
  refine wp_skip ?_
  refine hK7 _ _ ?_
  try clear hK7 K7
  refine wp_seq_k fun K9 hK9 => ?_
  refine region_lit ?_
  refine seq_val (.pointer (some ⟨g, 0, none⟩)) 11 rfl kj kj ?_
  refine seq_val (.pointer (some ⟨g, 0, none⟩)) 12 rfl kj kj ?_
  have r2_1 := (row_ext hrow e1)
  have r2_2 := (row_ext r2_1 e2)
  refine seq_val (.agg (cat [ints .u32 ([wv s.a, wv s.b, wv s.c, wv s.d, wv s.e, wv s.f, wv s.g, wv s.h]), ints .u8 (b), #[.int .i64 ((t.length : Nat) : Int)]])) 13 rfl kj (run_load_row 90 _ g 90 _ _ r2_2 rfl kj kj (isz (n := 73) kj (by rw [cat_cons, cat_cons, cat_cons]; simp only [Array.size_append, cat, ((ints_size _ _).trans hbl)]; rfl))) ?_
  refine seq_alloc (cat [ints .u32 ([0, 0, 0, 0, 0, 0, 0, 0]), ints .u8 (List.replicate 64 0), #[.int .i64 0]]) 90 4 rfl kj kj fun g10 W3 l10 e3 r10_3 => ?_
  have x3 : Ext w W3 := Ext.tr x2 e3
  have b10 : w.heap.size ≤ g10 := Nat.le_trans x2.size l10
  refine seq_store g10 _ (cat [ints .u32 ([wv s.a, wv s.b, wv s.c, wv s.d, wv s.e, wv s.f, wv s.g, wv s.h]), ints .u8 (b), #[.int .i64 ((t.length : Nat) : Int)]]) 90 r10_3 rfl kj (run_store_row 90 _ _ g10 90 _ _ r10_3 rfl kj kj (isz (n := 73) kj (by rw [cat_cons, cat_cons, cat_cons]; simp only [Array.size_append, cat, ((ints_size _ _).trans hbl)]; rfl)) (eqsz (n := 73) (by rw [cat_cons, cat_cons, cat_cons]; simp only [Array.size_append, cat, ((ints_size _ _).trans (List.length_replicate (n := 64)))]; rfl) (by rw [cat_cons, cat_cons, cat_cons]; simp only [Array.size_append, cat, ((ints_size _ _).trans hbl)]; rfl)) (cat_one _ (by intro a ha; simp only [List.mem_cons, List.not_mem_nil, or_false] at ha; rcases ha with rfl | rfl | rfl; exact (ints_one _ _); exact (ints_one _ _); exact (one_leaf _ rfl)))) fun W4 p4 r10_4 => ?_
  have x4 : Ext w W4 := Puts.ext p4 x3 b10
  refine seq_nil ?_
  refine hK9 _ _ ?_
  try clear hK9 K9
  refine wp_seq_k fun K11 hK11 => ?_
  refine region_lit ?_
  refine seq_val (.pointer (some ⟨g, 0, none⟩)) 14 rfl kj kj ?_
  refine seq_val (.pointer (some ⟨g, 0, none⟩)) 15 rfl kj kj ?_
  refine seq_val (.pointer (some ⟨g, 72, none⟩)) 16 rfl kj kj ?_
  have r2_3 := (row_ext r2_2 e3)
  have r2_4 := (Puts.row p4 r2_3 (ne_of_old r2_2 l10))
  refine seq_val (.int .i64 ((t.length : Nat) : Int)) 17 rfl kj (run_loadC1 3 _ g 72 90 _ (.int .i64 ((t.length : Nat) : Int)) _ r2_4 rfl kj (cat_part [ints .u32 ([wv s.a, wv s.b, wv s.c, wv s.d, wv s.e, wv s.f, wv s.g, wv s.h]), ints .u8 (b)] [#[.int .i64 ((t.length : Nat) : Int)]] [] 72 (by rw [cat_cons, cat_cons]; simp only [Array.size_append, cat, ((ints_size _ _).trans hbl)]; rfl) 0 _ rfl) kj) ?_
  refine seq_callR (fun v W' => (OwnN .u8 5 W4.heap.size (tailP t.length)) v W' ∧ Ext W4 W') 54 #[.int .i64 ((t.length : Nat) : Int), .int .i64 64, .int .i64 8] 18 rfl kj kj ((paddingC t.length (by omega) _).mono (by rintro e w' ⟨v, rfl, e1, hv⟩; exact ⟨v, rfl, hv, e1⟩)) fun vv12 W5 hh12 => ?_
  obtain ⟨hv12, e5⟩ := hh12
  have x5 : Ext w W5 := Ext.tr x4 e5
  have r10_5 := (row_ext r10_4 e5)
  have r1_1 := (row_ext hc e1)
  have r1_2 := (row_ext r1_1 e2)
  have r1_3 := (row_ext r1_2 e3)
  have r1_4 := (Puts.row p4 r1_3 (ne_of_old r1_2 l10))
  have r1_5 := (row_ext r1_4 e5)
  have hd4 : HasD g10 t W5 := ⟨b, hbl, hbb, hbp, hmany, by rw [← hs]; exact r10_5⟩
  have hp4 := hv12
  have hfl : fillN t.length < 64 := by unfold fillN; omega
  have hpl : t.length + (tailP t.length).length ≤ 1000000000 := by rw [tailP_len]; omega
  refine seq_callR (fun v W' => v = .tuple #[] ∧ ExtB g10 W5 W' ∧ HasD g10 (t ++ tailP t.length) W') 42 #[.pointer (some ⟨g10, 0, none⟩), vv12] 19 rfl kj kj ((addC g10 _ t (tailP t.length) _ tc _ r1_5 (ne_of_old r1_2 l10) (.inr (hp4.nb (row_lt r10_4))) (tailP_bytes _) hpl hd4 (OwnN.rd hp4)).mono fun e w' h => ⟨_, h.1, rfl, h.2⟩) fun v W6 h => ?_
  obtain ⟨rfl, q6, hD5⟩ := h
  have x6 : Ext w W6 := ExtB.up x5 q6 b10
  obtain ⟨b5, hbl5, hbb5, -, -, hrow5⟩ := hD5
  obtain ⟨s5, hs5⟩ : ∃ z, z = absorb S0 (padT t) ((padT t).length / 64) := ⟨_, rfl⟩
  rw [show t ++ tailP t.length = padT t from rfl, ← hs5] at hrow5
  replace hrow5 : W6.heap[g10]? = some (.cells (cat [ints .u32 ([wv s5.a, wv s5.b, wv s5.c, wv s5.d, wv s5.e, wv s5.f, wv s5.g, wv s5.h]), ints .u8 (b5), #[.int .i64 (((padT t).length : Nat) : Int)]]) 90) := hrow5
  refine seq_nil ?_
  refine hK11 _ _ ?_
  try clear hK11 K11
  refine wp_seq_k fun K13 hK13 => ?_
  refine wp_seq_k fun K14 hK14 => ?_
  refine region_lit ?_
  refine seq_val (.pointer (some ⟨g10, 0, none⟩)) 20 rfl kj kj ?_
  refine seq_val (.agg (ints .u32 ([wv s5.a, wv s5.b, wv s5.c, wv s5.d, wv s5.e, wv s5.f, wv s5.g, wv s5.h]))) 21 rfl kj (run_load_part 88 _ g10 0 90 _ _ _ hrow5 rfl kj (cat_part [] [ints .u32 ([wv s5.a, wv s5.b, wv s5.c, wv s5.d, wv s5.e, wv s5.f, wv s5.g, wv s5.h])] [ints .u8 (b5), #[.int .i64 (((padT t).length : Nat) : Int)]] 0 kj) kj (isz (n := 8) kj kj)) ?_
  refine seq_val (.int .i64 0) 22 rfl kj kj ?_
  refine seq_nil ?_
  refine hK14 _ _ ?_
  try clear hK14 K14
  refine wp_block ?_
  refine wp_loop_rounds 9 ?_
  show Code.wp _ _ (Exit.then (Code.rounds _ _ _ 8) _) _ _
  refine wp_seq_k fun K15 hK15 => ?_
  refine region_lit ?_
  refine seq_val (.bool true) 23 rfl kj kj ?_
  refine seq_nil ?_
  refine hK15 _ _ ?_
  try clear hK15 K15
  refine wp_seq_k fun K16 hK16 => ?_
  refine cond_true kj ?_
  refine wp_skip ?_
  refine hK16 _ _ ?_
  try clear hK16 K16
  refine wp_seq_k fun K17 hK17 => ?_
  refine wp_block ?_
  refine wp_seq_k fun K18 hK18 => ?_
  refine region_lit ?_
  refine seq_val (.int .i64 0) 24 rfl kj kj ?_
  refine seq_val (.int .u32 (wv s5.a)) 25 rfl kj (run_index_il 88 _ _ .i64 .u32 ([wv s5.a, wv s5.b, wv s5.c, wv s5.d, wv s5.e, wv s5.f, wv s5.g, wv s5.h]) 0 8 84 (wv s5.a) rfl kj kj kj kj kj rfl (by decide) rfl) ?_
  refine seq_val (.int .i64 0) 5 rfl kj kj ?_
  refine seq_val (.int .u32 (wv s5.a)) 6 rfl kj kj ?_
  refine seq_nil ?_
  refine hK18 _ _ ?_
  try clear hK18 K18
  refine wp_seq_k fun K19 hK19 => ?_
  refine region_lit ?_
  refine seq_val (.int .i64 0) 26 rfl kj kj ?_
  refine seq_nil ?_
  refine hK19 _ _ ?_
  try clear hK19 K19
  refine wp_block ?_
  refine wp_loop_rounds 5 ?_
  show Code.wp _ _ (Exit.then (Code.rounds _ _ _ 4) _) _ _
  refine wp_seq_k fun K20 hK20 => ?_
  refine region_lit ?_
  refine seq_val (.bool true) 27 rfl kj kj ?_
  refine seq_nil ?_
  refine hK20 _ _ ?_
  try clear hK20 K20
  refine wp_seq_k fun K21 hK21 => ?_
  refine cond_true kj ?_
  refine wp_skip ?_
  refine hK21 _ _ ?_
  try clear hK21 K21
  refine wp_seq_k fun K22 hK22 => ?_
  refine wp_block ?_
  refine wp_seq_k fun K23 hK23 => ?_
  refine region_lit ?_
  refine seq_val (.int .i64 0) 28 rfl kj kj ?_
  refine seq_val (.int .i64 0) 7 rfl kj kj ?_
  refine seq_nil ?_
  refine hK23 _ _ ?_
  try clear hK23 K23
  refine region_lit ?_
  refine seq_val (.int .i64 0) 29 rfl kj kj ?_
  refine seq_val (.int .i64 0) 30 rfl kj kj ?_
  refine seq_val (.int .i64 0) 31 rfl kj kj ?_
  refine seq_val (.int .i64 0) 32 rfl kj kj ?_
  refine seq_val (.int .u32 (wv s5.a)) 33 rfl kj kj ?_
  refine seq_val (.int .i64 0) 34 rfl kj kj ?_
  refine seq_val (.int .i64 0) 35 rfl kj kj ?_
  refine seq_val (.int .i64 24) 36 rfl kj kj ?_
  refine seq_val (.int .u32 (wv ((s5.a) >>> 24))) 37 rfl kj (run_bin .shr _ _ _ _ .u32 .i64 _ _ _ rfl kj kj (b_shr _ _ _ _ _ _ (by decide) (w_shr _ _ 24 rfl (by decide)))) ?_
  refine seq_val (.int .u8 (((s5.a.toNat / 16777216 % 256 : Nat) : Int))) 38 rfl kj (run_eq (u := .int .u8 (IntKind.u8.wrap (wv ((s5.a) >>> 24)))) kj (congrArg (Value.int .u8) (w_byte s5.a 24 16777216 (by decide)))) ?_
  refine seq_val (.pointer (some ⟨g6, 0, none⟩)) 39 rfl kj kj ?_
  have r6_3 := (row_ext r6_2 e3)
  have r6_4 := (Puts.row p4 r6_3 (ne_of_old r6_2 l10))
  have r6_5 := (row_ext r6_4 e5)
  have r6_6 := (ExtB.row q6 r6_5 (ne_of_old r6_2 l10))
  refine seq_store g6 _ (ints .u8 ([(((s5.a.toNat / 16777216 % 256 : Nat) : Int)), 0, 0, 0, 0, 0, 0, 0, 0, 0, 0, 0, 0, 0, 0, 0, 0, 0, 0, 0, 0, 0, 0, 0, 0, 0, 0, 0, 0, 0, 0, 0])) 26 r6_6 rfl kj (run_storeI 5 _ _ g6 0 26 _ _ r6_6 rfl kj kj kj (show 0 < 32 by decide)) fun W7 p7 r6_7 => ?_
  have x7 : Ext w W7 := Puts.ext p7 x6 b6
  refine seq_nil ?_
  refine hK22 _ _ ?_
  try clear hK22 K22
  refine region_lit ?_
  refine seq_val (.int .i64 1) 40 rfl kj kj ?_
  refine seq_val (.int .i64 1) 26 rfl kj kj ?_
  refine seq_nil ?_
  show Code.rounds _ _ _ 4 _ _
  show Code.wp _ _ (Exit.then (Code.rounds _ _ _ 3) _) _ _
  refine wp_seq_k fun K24 hK24 => ?_
  refine region_lit ?_
  refine seq_val (.bool true) 27 rfl kj kj ?_
  refine seq_nil ?_
  refine hK24 _ _ ?_
  try clear hK24 K24
  refine wp_seq_k fun K25 hK25 => ?_
  refine cond_true kj ?_
  refine wp_skip ?_
  refine hK25 _ _ ?_
  try clear hK25 K25
  refine wp_seq_k fun K26 hK26 => ?_
  refine wp_block ?_
  refine wp_seq_k fun K27 hK27 => ?_
  refine region_lit ?_
  refine seq_val (.int .i64 1) 28 rfl kj kj ?_
  refine seq_val (.int .i64 1) 7 rfl kj kj ?_
  refine seq_nil ?_
  refine hK27 _ _ ?_
  try clear hK27 K27
  refine region_lit ?_
  refine seq_val (.int .i64 0) 29 rfl kj kj ?_
  refine seq_val (.int .i64 0) 30 rfl kj kj ?_
  refine seq_val (.int .i64 1) 31 rfl kj kj ?_
  refine seq_val (.int .i64 1) 32 rfl kj kj ?_
  refine seq_val (.int .u32 (wv s5.a)) 33 rfl kj kj ?_
  refine seq_val (.int .i64 1) 34 rfl kj kj ?_
  refine seq_val (.int .i64 8) 35 rfl kj kj ?_
  refine seq_val (.int .i64 16) 36 rfl kj kj ?_
  refine seq_val (.int .u32 (wv ((s5.a) >>> 16))) 37 rfl kj (run_bin .shr _ _ _ _ .u32 .i64 _ _ _ rfl kj kj (b_shr _ _ _ _ _ _ (by decide) (w_shr _ _ 16 rfl (by decide)))) ?_
  refine seq_val (.int .u8 (((s5.a.toNat / 65536 % 256 : Nat) : Int))) 38 rfl kj (run_eq (u := .int .u8 (IntKind.u8.wrap (wv ((s5.a) >>> 16)))) kj (congrArg (Value.int .u8) (w_byte s5.a 16 65536 (by decide)))) ?_
  refine seq_val (.pointer (some ⟨g6, 1, none⟩)) 39 rfl kj kj ?_
  refine seq_store g6 _ (ints .u8 ([(((s5.a.toNat / 16777216 % 256 : Nat) : Int)), (((s5.a.toNat / 65536 % 256 : Nat) : Int)), 0, 0, 0, 0, 0, 0, 0, 0, 0, 0, 0, 0, 0, 0, 0, 0, 0, 0, 0, 0, 0, 0, 0, 0, 0, 0, 0, 0, 0, 0])) 26 r6_7 rfl kj (run_storeI 5 _ _ g6 1 26 _ _ r6_7 rfl kj kj kj (show 1 < 32 by decide)) fun W8 p8 r6_8 => ?_
  have x8 : Ext w W8 := Puts.ext p8 x7 b6
  refine seq_nil ?_
  refine hK26 _ _ ?_
  try clear hK26 K26
  refine region_lit ?_
  refine seq_val (.int .i64 2) 40 rfl kj kj ?_
  refine seq_val (.int .i64 2) 26 rfl kj kj ?_
  refine seq_nil ?_
  show Code.rounds _ _ _ 3 _ _
  show Code.wp _ _ (Exit.then (Code.rounds _ _ _ 2) _) _ _
  refine wp_seq_k fun K28 hK28 => ?_
  refine region_lit ?_
  refine seq_val (.bool true) 27 rfl kj kj ?_
  refine seq_nil ?_
  refine hK28 _ _ ?_
  try clear hK28 K28
  refine wp_seq_k fun K29 hK29 => ?_
  refine cond_true kj ?_
  refine wp_skip ?_
  refine hK29 _ _ ?_
  try clear hK29 K29
  refine wp_seq_k fun K30 hK30 => ?_
  refine wp_block ?_
  refine wp_seq_k fun K31 hK31 => ?_
  refine region_lit ?_
  refine seq_val (.int .i64 2) 28 rfl kj kj ?_
  refine seq_val (.int .i64 2) 7 rfl kj kj ?_
  refine seq_nil ?_
  refine hK31 _ _ ?_
  try clear hK31 K31
  refine region_lit ?_
  refine seq_val (.int .i64 0) 29 rfl kj kj ?_
  refine seq_val (.int .i64 0) 30 rfl kj kj ?_
  refine seq_val (.int .i64 2) 31 rfl kj kj ?_
  refine seq_val (.int .i64 2) 32 rfl kj kj ?_
  refine seq_val (.int .u32 (wv s5.a)) 33 rfl kj kj ?_
  refine seq_val (.int .i64 2) 34 rfl kj kj ?_
  refine seq_val (.int .i64 16) 35 rfl kj kj ?_
  refine seq_val (.int .i64 8) 36 rfl kj kj ?_
  refine seq_val (.int .u32 (wv ((s5.a) >>> 8))) 37 rfl kj (run_bin .shr _ _ _ _ .u32 .i64 _ _ _ rfl kj kj (b_shr _ _ _ _ _ _ (by decide) (w_shr _ _ 8 rfl (by decide)))) ?_
  refine seq_val (.int .u8 (((s5.a.toNat / 256 % 256 : Nat) : Int))) 38 rfl kj (run_eq (u := .int .u8 (IntKind.u8.wrap (wv ((s5.a) >>> 8)))) kj (congrArg (Value.int .u8) (w_byte s5.a 8 256 (by decide)))) ?_
  refine seq_val (.pointer (some ⟨g6, 2, none⟩)) 39 rfl kj kj ?_
  refine seq_store g6 _ (ints .u8 ([(((s5.a.toNat / 16777216 % 256 : Nat) : Int)), (((s5.a.toNat / 65536 % 256 : Nat) : Int)), (((s5.a.toNat / 256 % 256 : Nat) : Int)), 0, 0, 0, 0, 0, 0, 0, 0, 0, 0, 0, 0, 0, 0, 0, 0, 0, 0, 0, 0, 0, 0, 0, 0, 0, 0, 0, 0, 0])) 26 r6_8 rfl kj (run_storeI 5 _ _ g6 2 26 _ _ r6_8 rfl kj kj kj (show 2 < 32 by decide)) fun W9 p9 r6_9 => ?_
  have x9 : Ext w W9 := Puts.ext p9 x8 b6
  refine seq_nil ?_
  refine hK30 _ _ ?_
  try clear hK30 K30
  refine region_lit ?_
  refine seq_val (.int .i64 3) 40 rfl kj kj ?_
  refine seq_val (.int .i64 3) 26 rfl kj kj ?_
  refine seq_nil ?_
  show Code.rounds _ _ _ 2 _ _
  show Code.wp _ _ (Exit.then (Code.rounds _ _ _ 1) _) _ _
  refine wp_seq_k fun K32 hK32 => ?_
  refine region_lit ?_
  refine seq_val (.bool true) 27 rfl kj kj ?_
  refine seq_nil ?_
  refine hK32 _ _ ?_
  try clear hK32 K32
  refine wp_seq_k fun K33 hK33 => ?_
  refine cond_true kj ?_
  refine wp_skip ?_
  refine hK33 _ _ ?_
  try clear hK33 K33
  refine wp_seq_k fun K34 hK34 => ?_
  refine wp_block ?_
  refine wp_seq_k fun K35 hK35 => ?_
  refine region_lit ?_
  refine seq_val (.int .i64 3) 28 rfl kj kj ?_
  refine seq_val (.int .i64 3) 7 rfl kj kj ?_
  refine seq_nil ?_
  refine hK35 _ _ ?_
  try clear hK35 K35
  refine region_lit ?_
  refine seq_val (.int .i64 0) 29 rfl kj kj ?_
  refine seq_val (.int .i64 0) 30 rfl kj kj ?_
  refine seq_val (.int .i64 3) 31 rfl kj kj ?_
  refine seq_val (.int .i64 3) 32 rfl kj kj ?_
  refine seq_val (.int .u32 (wv s5.a)) 33 rfl kj kj ?_
  refine seq_val (.int .i64 3) 34 rfl kj kj ?_
  refine seq_val (.int .i64 24) 35 rfl kj kj ?_
  refine seq_val (.int .i64 0) 36 rfl kj kj ?_
  refine seq_val (.int .u32 (wv ((s5.a) >>> 0))) 37 rfl kj (run_bin .shr _ _ _ _ .u32 .i64 _ _ _ rfl kj kj (b_shr _ _ _ _ _ _ (by decide) (w_shr _ _ 0 rfl (by decide)))) ?_
  refine seq_val (.int .u8 (((s5.a.toNat / 1 % 256 : Nat) : Int))) 38 rfl kj (run_eq (u := .int .u8 (IntKind.u8.wrap (wv ((s5.a) >>> 0)))) kj (congrArg (Value.int .u8) (w_byte s5.a 0 1 (by decide)))) ?_
  refine seq_val (.pointer (some ⟨g6, 3, none⟩)) 39 rfl kj kj ?_
  refine seq_store g6 _ (ints .u8 ([(((s5.a.toNat / 16777216 % 256 : Nat) : Int)), (((s5.a.toNat / 65536 % 256 : Nat) : Int)), (((s5.a.toNat / 256 % 256 : Nat) : Int)), (((s5.a.toNat / 1 % 256 : Nat) : Int)), 0, 0, 0, 0, 0, 0, 0, 0, 0, 0, 0, 0, 0, 0, 0, 0, 0, 0, 0, 0, 0, 0, 0, 0, 0, 0, 0, 0])) 26 r6_9 rfl kj (run_storeI 5 _ _ g6 3 26 _ _ r6_9 rfl kj kj kj (show 3 < 32 by decide)) fun W10 p10 r6_10 => ?_
  have x10 : Ext w W10 := Puts.ext p10 x9 b6
  refine seq_nil ?_
  refine hK34 _ _ ?_
  try clear hK34 K34
  refine region_lit ?_
  refine seq_val (.int .i64 4) 40 rfl kj kj ?_
  refine seq_val (.int .i64 4) 26 rfl kj kj ?_
  refine seq_nil ?_
  show Code.rounds _ _ _ 1 _ _
  show Code.wp _ _ (Exit.then (Code.rounds _ _ _ 0) _) _ _
  refine wp_seq_k fun K36 hK36 => ?_
  refine region_lit ?_
  refine seq_val (.bool false) 27 rfl kj kj ?_
  refine seq_nil ?_
  refine hK36 _ _ ?_
  try clear hK36 K36
  refine wp_seq_k fun K37 hK37 => ?_
  refine cond_false kj ?_
  refine wp_exit ?_
  refine hK17 _ _ ?_
  try clear hK17 K17
  refine region_lit ?_
  refine seq_val (.int .i64 1) 41 rfl kj kj ?_
  refine seq_val (.int .i64 1) 22 rfl kj kj ?_
  refine seq_nil ?_
  show Code.rounds _ _ _ 8 _ _
  show Code.wp _ _ (Exit.then (Code.rounds _ _ _ 7) _) _ _
  refine wp_seq_k fun K38 hK38 => ?_
  refine region_lit ?_
  refine seq_val (.bool true) 23 rfl kj kj ?_
  refine seq_nil ?_
  refine hK38 _ _ ?_
  try clear hK38 K38
  refine wp_seq_k fun K39 hK39 => ?_
  refine cond_true kj ?_
  refine wp_skip ?_
  refine hK39 _ _ ?_
  try clear hK39 K39
  refine wp_seq_k fun K40 hK40 => ?_
  refine wp_block ?_
  refine wp_seq_k fun K41 hK41 => ?_
  refine region_lit ?_
  refine seq_val (.int .i64 1) 24 rfl kj kj ?_
  refine seq_val (.int .u32 (wv s5.b)) 25 rfl kj (run_index_il 88 _ _ .i64 .u32 ([wv s5.a, wv s5.b, wv s5.c, wv s5.d, wv s5.e, wv s5.f, wv s5.g, wv s5.h]) 1 8 84 (wv s5.b) rfl kj kj kj kj kj rfl (by decide) rfl) ?_
  refine seq_val (.int .i64 1) 5 rfl kj kj ?_
  refine seq_val (.int .u32 (wv s5.b)) 6 rfl kj kj ?_
  refine seq_nil ?_
  refine hK41 _ _ ?_
  try clear hK41 K41
  refine wp_seq_k fun K42 hK42 => ?_
  refine region_lit ?_
  refine seq_val (.int .i64 0) 26 rfl kj kj ?_
  refine seq_nil ?_
  refine hK42 _ _ ?_
  try clear hK42 K42
  refine wp_block ?_
  refine wp_loop_rounds 5 ?_
  show Code.wp _ _ (Exit.then (Code.rounds _ _ _ 4) _) _ _
  refine wp_seq_k fun K43 hK43 => ?_
  refine region_lit ?_
  refine seq_val (.bool true) 27 rfl kj kj ?_
  refine seq_nil ?_
  refine hK43 _ _ ?_
  try clear hK43 K43
  refine wp_seq_k fun K44 hK44 => ?_
  refine cond_true kj ?_
  refine wp_skip ?_
  refine hK44 _ _ ?_
  try clear hK44 K44
  refine wp_seq_k fun K45 hK45 => ?_
  refine wp_block ?_
  refine wp_seq_k fun K46 hK46 => ?_
  refine region_lit ?_
  refine seq_val (.int .i64 0) 28 rfl kj kj ?_
  refine seq_val (.int .i64 0) 7 rfl kj kj ?_
  refine seq_nil ?_
  refine hK46 _ _ ?_
  try clear hK46 K46
  refine region_lit ?_
  refine seq_val (.int .i64 1) 29 rfl kj kj ?_
  refine seq_val (.int .i64 4) 30 rfl kj kj ?_
  refine seq_val (.int .i64 0) 31 rfl kj kj ?_
  refine seq_val (.int .i64 4) 32 rfl kj kj ?_
  refine seq_val (.int .u32 (wv s5.b)) 33 rfl kj kj ?_
  refine seq_val (.int .i64 0) 34 rfl kj kj ?_
  refine seq_val (.int .i64 0) 35 rfl kj kj ?_
  refine seq_val (.int .i64 24) 36 rfl kj kj ?_
  refine seq_val (.int .u32 (wv ((s5.b) >>> 24))) 37 rfl kj (run_bin .shr _ _ _ _ .u32 .i64 _ _ _ rfl kj kj (b_shr _ _ _ _ _ _ (by decide) (w_shr _ _ 24 rfl (by decide)))) ?_
  refine seq_val (.int .u8 (((s5.b.toNat / 16777216 % 256 : Nat) : Int))) 38 rfl kj (run_eq (u := .int .u8 (IntKind.u8.wrap (wv ((s5.b) >>> 24)))) kj (congrArg (Value.int .u8) (w_byte s5.b 24 16777216 (by decide)))) ?_
  refine seq_val (.pointer (some ⟨g6, 4, none⟩)) 39 rfl kj kj ?_
  refine seq_store g6 _ (ints .u8 ([(((s5.a.toNat / 16777216 % 256 : Nat) : Int)), (((s5.a.toNat / 65536 % 256 : Nat) : Int)), (((s5.a.toNat / 256 % 256 : Nat) : Int)), (((s5.a.toNat / 1 % 256 : Nat) : Int)), (((s5.b.toNat / 16777216 % 256 : Nat) : Int)), 0, 0, 0, 0, 0, 0, 0, 0, 0, 0, 0, 0, 0, 0, 0, 0, 0, 0, 0, 0, 0, 0, 0, 0, 0, 0, 0])) 26 r6_10 rfl kj (run_storeI 5 _ _ g6 4 26 _ _ r6_10 rfl kj kj kj (show 4 < 32 by decide)) fun W11 p11 r6_11 => ?_
  have x11 : Ext w W11 := Puts.ext p11 x10 b6
  refine seq_nil ?_
  refine hK45 _ _ ?_
  try clear hK45 K45
  refine region_lit ?_
  refine seq_val (.int .i64 1) 40 rfl kj kj ?_
  refine seq_val (.int .i64 1) 26 rfl kj kj ?_
  refine seq_nil ?_
  show Code.rounds _ _ _ 4 _ _
  show Code.wp _ _ (Exit.then (Code.rounds _ _ _ 3) _) _ _
  refine wp_seq_k fun K47 hK47 => ?_
  refine region_lit ?_
  refine seq_val (.bool true) 27 rfl kj kj ?_
  refine seq_nil ?_
  refine hK47 _ _ ?_
  try clear hK47 K47
  refine wp_seq_k fun K48 hK48 => ?_
  refine cond_true kj ?_
  refine wp_skip ?_
  refine hK48 _ _ ?_
  try clear hK48 K48
  refine wp_seq_k fun K49 hK49 => ?_
  refine wp_block ?_
  refine wp_seq_k fun K50 hK50 => ?_
  refine region_lit ?_
  refine seq_val (.int .i64 1) 28 rfl kj kj ?_
  refine seq_val (.int .i64 1) 7 rfl kj kj ?_
  refine seq_nil ?_
  refine hK50 _ _ ?_
  try clear hK50 K50
  refine region_lit ?_
  refine seq_val (.int .i64 1) 29 rfl kj kj ?_
  refine seq_val (.int .i64 4) 30 rfl kj kj ?_
  refine seq_val (.int .i64 1) 31 rfl kj kj ?_
  refine seq_val (.int .i64 5) 32 rfl kj kj ?_
  refine seq_val (.int .u32 (wv s5.b)) 33 rfl kj kj ?_
  refine seq_val (.int .i64 1) 34 rfl kj kj ?_
  refine seq_val (.int .i64 8) 35 rfl kj kj ?_
  refine seq_val (.int .i64 16) 36 rfl kj kj ?_
  refine seq_val (.int .u32 (wv ((s5.b) >>> 16))) 37 rfl kj (run_bin .shr _ _ _ _ .u32 .i64 _ _ _ rfl kj kj (b_shr _ _ _ _ _ _ (by decide) (w_shr _ _ 16 rfl (by decide)))) ?_
  refine seq_val (.int .u8 (((s5.b.toNat / 65536 % 256 : Nat) : Int))) 38 rfl kj (run_eq (u := .int .u8 (IntKind.u8.wrap (wv ((s5.b) >>> 16)))) kj (congrArg (Value.int .u8) (w_byte s5.b 16 65536 (by decide)))) ?_
  refine seq_val (.pointer (some ⟨g6, 5, none⟩)) 39 rfl kj kj ?_
  refine seq_store g6 _ (ints .u8 ([(((s5.a.toNat / 16777216 % 256 : Nat) : Int)), (((s5.a.toNat / 65536 % 256 : Nat) : Int)), (((s5.a.toNat / 256 % 256 : Nat) : Int)), (((s5.a.toNat / 1 % 256 : Nat) : Int)), (((s5.b.toNat / 16777216 % 256 : Nat) : Int)), (((s5.b.toNat / 65536 % 256 : Nat) : Int)), 0, 0, 0, 0, 0, 0, 0, 0, 0, 0, 0, 0, 0, 0, 0, 0, 0, 0, 0, 0, 0, 0, 0, 0, 0, 0])) 26 r6_11 rfl kj (run_storeI 5 _ _ g6 5 26 _ _ r6_11 rfl kj kj kj (show 5 < 32 by decide)) fun W12 p12 r6_12 => ?_
  have x12 : Ext w W12 := Puts.ext p12 x11 b6
  refine seq_nil ?_
  refine hK49 _ _ ?_
  try clear hK49 K49
  refine region_lit ?_
  refine seq_val (.int .i64 2) 40 rfl kj kj ?_
  refine seq_val (.int .i64 2) 26 rfl kj kj ?_
  refine seq_nil ?_
  show Code.rounds _ _ _ 3 _ _
  show Code.wp _ _ (Exit.then (Code.rounds _ _ _ 2) _) _ _
  refine wp_seq_k fun K51 hK51 => ?_
  refine region_lit ?_
  refine seq_val (.bool true) 27 rfl kj kj ?_
  refine seq_nil ?_
  refine hK51 _ _ ?_
  try clear hK51 K51
  refine wp_seq_k fun K52 hK52 => ?_
  refine cond_true kj ?_
  refine wp_skip ?_
  refine hK52 _ _ ?_
  try clear hK52 K52
  refine wp_seq_k fun K53 hK53 => ?_
  refine wp_block ?_
  refine wp_seq_k fun K54 hK54 => ?_
  refine region_lit ?_
  refine seq_val (.int .i64 2) 28 rfl kj kj ?_
  refine seq_val (.int .i64 2) 7 rfl kj kj ?_
  refine seq_nil ?_
  refine hK54 _ _ ?_
  try clear hK54 K54
  refine region_lit ?_
  refine seq_val (.int .i64 1) 29 rfl kj kj ?_
  refine seq_val (.int .i64 4) 30 rfl kj kj ?_
  refine seq_val (.int .i64 2) 31 rfl kj kj ?_
  refine seq_val (.int .i64 6) 32 rfl kj kj ?_
  refine seq_val (.int .u32 (wv s5.b)) 33 rfl kj kj ?_
  refine seq_val (.int .i64 2) 34 rfl kj kj ?_
  refine seq_val (.int .i64 16) 35 rfl kj kj ?_
  refine seq_val (.int .i64 8) 36 rfl kj kj ?_
  refine seq_val (.int .u32 (wv ((s5.b) >>> 8))) 37 rfl kj (run_bin .shr _ _ _ _ .u32 .i64 _ _ _ rfl kj kj (b_shr _ _ _ _ _ _ (by decide) (w_shr _ _ 8 rfl (by decide)))) ?_
  refine seq_val (.int .u8 (((s5.b.toNat / 256 % 256 : Nat) : Int))) 38 rfl kj (run_eq (u := .int .u8 (IntKind.u8.wrap (wv ((s5.b) >>> 8)))) kj (congrArg (Value.int .u8) (w_byte s5.b 8 256 (by decide)))) ?_
  refine seq_val (.pointer (some ⟨g6, 6, none⟩)) 39 rfl kj kj ?_
  refine seq_store g6 _ (ints .u8 ([(((s5.a.toNat / 16777216 % 256 : Nat) : Int)), (((s5.a.toNat / 65536 % 256 : Nat) : Int)), (((s5.a.toNat / 256 % 256 : Nat) : Int)), (((s5.a.toNat / 1 % 256 : Nat) : Int)), (((s5.b.toNat / 16777216 % 256 : Nat) : Int)), (((s5.b.toNat / 65536 % 256 : Nat) : Int)), (((s5.b.toNat / 256 % 256 : Nat) : Int)), 0, 0, 0, 0, 0, 0, 0, 0, 0, 0, 0, 0, 0, 0, 0, 0, 0, 0, 0, 0, 0, 0, 0, 0, 0])) 26 r6_12 rfl kj (run_storeI 5 _ _ g6 6 26 _ _ r6_12 rfl kj kj kj (show 6 < 32 by decide)) fun W13 p13 r6_13 => ?_
  have x13 : Ext w W13 := Puts.ext p13 x12 b6
  refine seq_nil ?_
  refine hK53 _ _ ?_
  try clear hK53 K53
  refine region_lit ?_
  refine seq_val (.int .i64 3) 40 rfl kj kj ?_
  refine seq_val (.int .i64 3) 26 rfl kj kj ?_
  refine seq_nil ?_
  show Code.rounds _ _ _ 2 _ _
  show Code.wp _ _ (Exit.then (Code.rounds _ _ _ 1) _) _ _
  refine wp_seq_k fun K55 hK55 => ?_
  refine region_lit ?_
  refine seq_val (.bool true) 27 rfl kj kj ?_
  refine seq_nil ?_
  refine hK55 _ _ ?_
  try clear hK55 K55
  refine wp_seq_k fun K56 hK56 => ?_
  refine cond_true kj ?_
  refine wp_skip ?_
  refine hK56 _ _ ?_
  try clear hK56 K56
  refine wp_seq_k fun K57 hK57 => ?_
  refine wp_block ?_
  refine wp_seq_k fun K58 hK58 => ?_
  refine region_lit ?_
  refine seq_val (.int .i64 3) 28 rfl kj kj ?_
  refine seq_val (.int .i64 3) 7 rfl kj kj ?_
  refine seq_nil ?_
  refine hK58 _ _ ?_
  try clear hK58 K58
  refine region_lit ?_
  refine seq_val (.int .i64 1) 29 rfl kj kj ?_
  refine seq_val (.int .i64 4) 30 rfl kj kj ?_
  refine seq_val (.int .i64 3) 31 rfl kj kj ?_
  refine seq_val (.int .i64 7) 32 rfl kj kj ?_
  refine seq_val (.int .u32 (wv s5.b)) 33 rfl kj kj ?_
  refine seq_val (.int .i64 3) 34 rfl kj kj ?_
  refine seq_val (.int .i64 24) 35 rfl kj kj ?_
  refine seq_val (.int .i64 0) 36 rfl kj kj ?_
  refine seq_val (.int .u32 (wv ((s5.b) >>> 0))) 37 rfl kj (run_bin .shr _ _ _ _ .u32 .i64 _ _ _ rfl kj kj (b_shr _ _ _ _ _ _ (by decide) (w_shr _ _ 0 rfl (by decide)))) ?_
  refine seq_val (.int .u8 (((s5.b.toNat / 1 % 256 : Nat) : Int))) 38 rfl kj (run_eq (u := .int .u8 (IntKind.u8.wrap (wv ((s5.b) >>> 0)))) kj (congrArg (Value.int .u8) (w_byte s5.b 0 1 (by decide)))) ?_
  refine seq_val (.pointer (some ⟨g6, 7, none⟩)) 39 rfl kj kj ?_
  refine seq_store g6 _ (ints .u8 ([(((s5.a.toNat / 16777216 % 256 : Nat) : Int)), (((s5.a.toNat / 65536 % 256 : Nat) : Int)), (((s5.a.toNat / 256 % 256 : Nat) : Int)), (((s5.a.toNat / 1 % 256 : Nat) : Int)), (((s5.b.toNat / 16777216 % 256 : Nat) : Int)), (((s5.b.toNat / 65536 % 256 : Nat) : Int)), (((s5.b.toNat / 256 % 256 : Nat) : Int)), (((s5.b.toNat / 1 % 256 : Nat) : Int)), 0, 0, 0, 0, 0, 0, 0, 0, 0, 0, 0, 0, 0, 0, 0, 0, 0, 0, 0, 0, 0, 0, 0, 0])) 26 r6_13 rfl kj (run_storeI 5 _ _ g6 7 26 _ _ r6_13 rfl kj kj kj (show 7 < 32 by decide)) fun W14 p14 r6_14 => ?_
  have x14 : Ext w W14 := Puts.ext p14 x13 b6
  refine seq_nil ?_
  refine hK57 _ _ ?_
  try clear hK57 K57
  refine region_lit ?_
  refine seq_val (.int .i64 4) 40 rfl kj kj ?_
  refine seq_val (.int .i64 4) 26 rfl kj kj ?_
  refine seq_nil ?_
  show Code.rounds _ _ _ 1 _ _
  show Code.wp _ _ (Exit.then (Code.rounds _ _ _ 0) _) _ _
  refine wp_seq_k fun K59 hK59 => ?_
  refine region_lit ?_
  refine seq_val (.bool false) 27 rfl kj kj ?_
  refine seq_nil ?_
  refine hK59 _ _ ?_
  try clear hK59 K59
  refine wp_seq_k fun K60 hK60 => ?_
  refine cond_false kj ?_
  refine wp_exit ?_
  refine hK40 _ _ ?_
  try clear hK40 K40
  refine region_lit ?_
  refine seq_val (.int .i64 2) 41 rfl kj kj ?_
  refine seq_val (.int .i64 2) 22 rfl kj kj ?_
  refine seq_nil ?_
  show Code.rounds _ _ _ 7 _ _
  show Code.wp _ _ (Exit.then (Code.rounds _ _ _ 6) _) _ _
  refine wp_seq_k fun K61 hK61 => ?_
  refine region_lit ?_
  refine seq_val (.bool true) 23 rfl kj kj ?_
  refine seq_nil ?_
  refine hK61 _ _ ?_
  try clear hK61 K61
  refine wp_seq_k fun K62 hK62 => ?_
  refine cond_true kj ?_
  refine wp_skip ?_
  refine hK62 _ _ ?_
  try clear hK62 K62
  refine wp_seq_k fun K63 hK63 => ?_
  refine wp_block ?_
  refine wp_seq_k fun K64 hK64 => ?_
  refine region_lit ?_
  refine seq_val (.int .i64 2) 24 rfl kj kj ?_
  refine seq_val (.int .u32 (wv s5.c)) 25 rfl kj (run_index_il 88 _ _ .i64 .u32 ([wv s5.a, wv s5.b, wv s5.c, wv s5.d, wv s5.e, wv s5.f, wv s5.g, wv s5.h]) 2 8 84 (wv s5.c) rfl kj kj kj kj kj rfl (by decide) rfl) ?_
  refine seq_val (.int .i64 2) 5 rfl kj kj ?_
  refine seq_val (.int .u32 (wv s5.c)) 6 rfl kj kj ?_
  refine seq_nil ?_
  refine hK64 _ _ ?_
  try clear hK64 K64
  refine wp_seq_k fun K65 hK65 => ?_
  refine region_lit ?_
  refine seq_val (.int .i64 0) 26 rfl kj kj ?_
  refine seq_nil ?_
  refine hK65 _ _ ?_
  try clear hK65 K65
  refine wp_block ?_
  refine wp_loop_rounds 5 ?_
  show Code.wp _ _ (Exit.then (Code.rounds _ _ _ 4) _) _ _
  refine wp_seq_k fun K66 hK66 => ?_
  refine region_lit ?_
  refine seq_val (.bool true) 27 rfl kj kj ?_
  refine seq_nil ?_
  refine hK66 _ _ ?_
  try clear hK66 K66
  refine wp_seq_k fun K67 hK67 => ?_
  refine cond_true kj ?_
  refine wp_skip ?_
  refine hK67 _ _ ?_
  try clear hK67 K67
  refine wp_seq_k fun K68 hK68 => ?_
  refine wp_block ?_
  refine wp_seq_k fun K69 hK69 => ?_
  refine region_lit ?_
  refine seq_val (.int .i64 0) 28 rfl kj kj ?_
  refine seq_val (.int .i64 0) 7 rfl kj kj ?_
  refine seq_nil ?_
  refine hK69 _ _ ?_
  try clear hK69 K69
  refine region_lit ?_
  refine seq_val (.int .i64 2) 29 rfl kj kj ?_
  refine seq_val (.int .i64 8) 30 rfl kj kj ?_
  refine seq_val (.int .i64 0) 31 rfl kj kj ?_
  refine seq_val (.int .i64 8) 32 rfl kj kj ?_
  refine seq_val (.int .u32 (wv s5.c)) 33 rfl kj kj ?_
  refine seq_val (.int .i64 0) 34 rfl kj kj ?_
  refine seq_val (.int .i64 0) 35 rfl kj kj ?_
  refine seq_val (.int .i64 24) 36 rfl kj kj ?_
  refine seq_val (.int .u32 (wv ((s5.c) >>> 24))) 37 rfl kj (run_bin .shr _ _ _ _ .u32 .i64 _ _ _ rfl kj kj (b_shr _ _ _ _ _ _ (by decide) (w_shr _ _ 24 rfl (by decide)))) ?_
  refine seq_val (.int .u8 (((s5.c.toNat / 16777216 % 256 : Nat) : Int))) 38 rfl kj (run_eq (u := .int .u8 (IntKind.u8.wrap (wv ((s5.c) >>> 24)))) kj (congrArg (Value.int .u8) (w_byte s5.c 24 16777216 (by decide)))) ?_
  refine seq_val (.pointer (some ⟨g6, 8, none⟩)) 39 rfl kj kj ?_
  refine seq_store g6 _ (ints .u8 ([(((s5.a.toNat / 16777216 % 256 : Nat) : Int)), (((s5.a.toNat / 65536 % 256 : Nat) : Int)), (((s5.a.toNat / 256 % 256 : Nat) : Int)), (((s5.a.toNat / 1 % 256 : Nat) : Int)), (((s5.b.toNat / 16777216 % 256 : Nat) : Int)), (((s5.b.toNat / 65536 % 256 : Nat) : Int)), (((s5.b.toNat / 256 % 256 : Nat) : Int)), (((s5.b.toNat / 1 % 256 : Nat) : Int)), (((s5.c.toNat / 16777216 % 256 : Nat) : Int)), 0, 0, 0, 0, 0, 0, 0, 0, 0, 0, 0, 0, 0, 0, 0, 0, 0, 0, 0, 0, 0, 0, 0])) 26 r6_14 rfl kj (run_storeI 5 _ _ g6 8 26 _ _ r6_14 rfl kj kj kj (show 8 < 32 by decide)) fun W15 p15 r6_15 => ?_
  have x15 : Ext w W15 := Puts.ext p15 x14 b6
  refine seq_nil ?_
  refine hK68 _ _ ?_
  try clear hK68 K68
  refine region_lit ?_
  refine seq_val (.int .i64 1) 40 rfl kj kj ?_
  refine seq_val (.int .i64 1) 26 rfl kj kj ?_
  refine seq_nil ?_
  show Code.rounds _ _ _ 4 _ _
  show Code.wp _ _ (Exit.then (Code.rounds _ _ _ 3) _) _ _
  refine wp_seq_k fun K70 hK70 => ?_
  refine region_lit ?_
  refine seq_val (.bool true) 27 rfl kj kj ?_
  refine seq_nil ?_
  refine hK70 _ _ ?_
  try clear hK70 K70
  refine wp_seq_k fun K71 hK71 => ?_
  refine cond_true kj ?_
  refine wp_skip ?_
  refine hK71 _ _ ?_
  try clear hK71 K71
  refine wp_seq_k fun K72 hK72 => ?_
  refine wp_block ?_
  refine wp_seq_k fun K73 hK73 => ?_
  refine region_lit ?_
  refine seq_val (.int .i64 1) 28 rfl kj kj ?_
  refine seq_val (.int .i64 1) 7 rfl kj kj ?_
  refine seq_nil ?_
  refine hK73 _ _ ?_
  try clear hK73 K73
  refine region_lit ?_
  refine seq_val (.int .i64 2) 29 rfl kj kj ?_
  refine seq_val (.int .i64 8) 30 rfl kj kj ?_
  refine seq_val (.int .i64 1) 31 rfl kj kj ?_
  refine seq_val (.int .i64 9) 32 rfl kj kj ?_
  refine seq_val (.int .u32 (wv s5.c)) 33 rfl kj kj ?_
  refine seq_val (.int .i64 1) 34 rfl kj kj ?_
  refine seq_val (.int .i64 8) 35 rfl kj kj ?_
  refine seq_val (.int .i64 16) 36 rfl kj kj ?_
  refine seq_val (.int .u32 (wv ((s5.c) >>> 16))) 37 rfl kj (run_bin .shr _ _ _ _ .u32 .i64 _ _ _ rfl kj kj (b_shr _ _ _ _ _ _ (by decide) (w_shr _ _ 16 rfl (by decide)))) ?_
  refine seq_val (.int .u8 (((s5.c.toNat / 65536 % 256 : Nat) : Int))) 38 rfl kj (run_eq (u := .int .u8 (IntKind.u8.wrap (wv ((s5.c) >>> 16)))) kj (congrArg (Value.int .u8) (w_byte s5.c 16 65536 (by decide)))) ?_
  refine seq_val (.pointer (some ⟨g6, 9, none⟩)) 39 rfl kj kj ?_
  refine seq_store g6 _ (ints .u8 ([(((s5.a.toNat / 16777216 % 256 : Nat) : Int)), (((s5.a.toNat / 65536 % 256 : Nat) : Int)), (((s5.a.toNat / 256 % 256 : Nat) : Int)), (((s5.a.toNat / 1 % 256 : Nat) : Int)), (((s5.b.toNat / 16777216 % 256 : Nat) : Int)), (((s5.b.toNat / 65536 % 256 : Nat) : Int)), (((s5.b.toNat / 256 % 256 : Nat) : Int)), (((s5.b.toNat / 1 % 256 : Nat) : Int)), (((s5.c.toNat / 16777216 % 256 : Nat) : Int)), (((s5.c.toNat / 65536 % 256 : Nat) : Int)), 0, 0, 0, 0, 0, 0, 0, 0, 0, 0, 0, 0, 0, 0, 0, 0, 0, 0, 0, 0, 0, 0])) 26 r6_15 rfl kj (run_storeI 5 _ _ g6 9 26 _ _ r6_15 rfl kj kj kj (show 9 < 32 by decide)) fun W16 p16 r6_16 => ?_
  have x16 : Ext w W16 := Puts.ext p16 x15 b6
  refine seq_nil ?_
  refine hK72 _ _ ?_
  try clear hK72 K72
  refine region_lit ?_
  refine seq_val (.int .i64 2) 40 rfl kj kj ?_
  refine seq_val (.int .i64 2) 26 rfl kj kj ?_
  refine seq_nil ?_
  show Code.rounds _ _ _ 3 _ _
  show Code.wp _ _ (Exit.then (Code.rounds _ _ _ 2) _) _ _
  refine wp_seq_k fun K74 hK74 => ?_
  refine region_lit ?_
  refine seq_val (.bool true) 27 rfl kj kj ?_
  refine seq_nil ?_
  refine hK74 _ _ ?_
  try clear hK74 K74
  refine wp_seq_k fun K75 hK75 => ?_
  refine cond_true kj ?_
  refine wp_skip ?_
  refine hK75 _ _ ?_
  try clear hK75 K75
  refine wp_seq_k fun K76 hK76 => ?_
  refine wp_block ?_
  refine wp_seq_k fun K77 hK77 => ?_
  refine region_lit ?_
  refine seq_val (.int .i64 2) 28 rfl kj kj ?_
  refine seq_val (.int .i64 2) 7 rfl kj kj ?_
  refine seq_nil ?_
  refine hK77 _ _ ?_
  try clear hK77 K77
  refine region_lit ?_
  refine seq_val (.int .i64 2) 29 rfl kj kj ?_
  refine seq_val (.int .i64 8) 30 rfl kj kj ?_
  refine seq_val (.int .i64 2) 31 rfl kj kj ?_
  refine seq_val (.int .i64 10) 32 rfl kj kj ?_
  refine seq_val (.int .u32 (wv s5.c)) 33 rfl kj kj ?_
  refine seq_val (.int .i64 2) 34 rfl kj kj ?_
  refine seq_val (.int .i64 16) 35 rfl kj kj ?_
  refine seq_val (.int .i64 8) 36 rfl kj kj ?_
  refine seq_val (.int .u32 (wv ((s5.c) >>> 8))) 37 rfl kj (run_bin .shr _ _ _ _ .u32 .i64 _ _ _ rfl kj kj (b_shr _ _ _ _ _ _ (by decide) (w_shr _ _ 8 rfl (by decide)))) ?_
  refine seq_val (.int .u8 (((s5.c.toNat / 256 % 256 : Nat) : Int))) 38 rfl kj (run_eq (u := .int .u8 (IntKind.u8.wrap (wv ((s5.c) >>> 8)))) kj (congrArg (Value.int .u8) (w_byte s5.c 8 256 (by decide)))) ?_
  refine seq_val (.pointer (some ⟨g6, 10, none⟩)) 39 rfl kj kj ?_
  refine seq_store g6 _ (ints .u8 ([(((s5.a.toNat / 16777216 % 256 : Nat) : Int)), (((s5.a.toNat / 65536 % 256 : Nat) : Int)), (((s5.a.toNat / 256 % 256 : Nat) : Int)), (((s5.a.toNat / 1 % 256 : Nat) : Int)), (((s5.b.toNat / 16777216 % 256 : Nat) : Int)), (((s5.b.toNat / 65536 % 256 : Nat) : Int)), (((s5.b.toNat / 256 % 256 : Nat) : Int)), (((s5.b.toNat / 1 % 256 : Nat) : Int)), (((s5.c.toNat / 16777216 % 256 : Nat) : Int)), (((s5.c.toNat / 65536 % 256 : Nat) : Int)), (((s5.c.toNat / 256 % 256 : Nat) : Int)), 0, 0, 0, 0, 0, 0, 0, 0, 0, 0, 0, 0, 0, 0, 0, 0, 0, 0, 0, 0, 0])) 26 r6_16 rfl kj (run_storeI 5 _ _ g6 10 26 _ _ r6_16 rfl kj kj kj (show 10 < 32 by decide)) fun W17 p17 r6_17 => ?_
  have x17 : Ext w W17 := Puts.ext p17 x16 b6
  refine seq_nil ?_
  refine hK76 _ _ ?_
  try clear hK76 K76
  refine region_lit ?_
  refine seq_val (.int .i64 3) 40 rfl kj kj ?_
  refine seq_val (.int .i64 3) 26 rfl kj kj ?_
  refine seq_nil ?_
  show Code.rounds _ _ _ 2 _ _
  show Code.wp _ _ (Exit.then (Code.rounds _ _ _ 1) _) _ _
  refine wp_seq_k fun K78 hK78 => ?_
  refine region_lit ?_
  refine seq_val (.bool true) 27 rfl kj kj ?_
  refine seq_nil ?_
  refine hK78 _ _ ?_
  try clear hK78 K78
  refine wp_seq_k fun K79 hK79 => ?_
  refine cond_true kj ?_
  refine wp_skip ?_
  refine hK79 _ _ ?_
  try clear hK79 K79
  refine wp_seq_k fun K80 hK80 => ?_
  refine wp_block ?_
  refine wp_seq_k fun K81 hK81 => ?_
  refine region_lit ?_
  refine seq_val (.int .i64 3) 28 rfl kj kj ?_
  refine seq_val (.int .i64 3) 7 rfl kj kj ?_
  refine seq_nil ?_
  refine hK81 _ _ ?_
  try clear hK81 K81
  refine region_lit ?_
  refine seq_val (.int .i64 2) 29 rfl kj kj ?_
  refine seq_val (.int .i64 8) 30 rfl kj kj ?_
  refine seq_val (.int .i64 3) 31 rfl kj kj ?_
  refine seq_val (.int .i64 11) 32 rfl kj kj ?_
  refine seq_val (.int .u32 (wv s5.c)) 33 rfl kj kj ?_
  refine seq_val (.int .i64 3) 34 rfl kj kj ?_
  refine seq_val (.int .i64 24) 35 rfl kj kj ?_
  refine seq_val (.int .i64 0) 36 rfl kj kj ?_
  refine seq_val (.int .u32 (wv ((s5.c) >>> 0))) 37 rfl kj (run_bin .shr _ _ _ _ .u32 .i64 _ _ _ rfl kj kj (b_shr _ _ _ _ _ _ (by decide) (w_shr _ _ 0 rfl (by decide)))) ?_
  refine seq_val (.int .u8 (((s5.c.toNat / 1 % 256 : Nat) : Int))) 38 rfl kj (run_eq (u := .int .u8 (IntKind.u8.wrap (wv ((s5.c) >>> 0)))) kj (congrArg (Value.int .u8) (w_byte s5.c 0 1 (by decide)))) ?_
  refine seq_val (.pointer (some ⟨g6, 11, none⟩)) 39 rfl kj kj ?_
  refine seq_store g6 _ (ints .u8 ([(((s5.a.toNat / 16777216 % 256 : Nat) : Int)), (((s5.a.toNat / 65536 % 256 : Nat) : Int)), (((s5.a.toNat / 256 % 256 : Nat) : Int)), (((s5.a.toNat / 1 % 256 : Nat) : Int)), (((s5.b.toNat / 16777216 % 256 : Nat) : Int)), (((s5.b.toNat / 65536 % 256 : Nat) : Int)), (((s5.b.toNat / 256 % 256 : Nat) : Int)), (((s5.b.toNat / 1 % 256 : Nat) : Int)), (((s5.c.toNat / 16777216 % 256 : Nat) : Int)), (((s5.c.toNat / 65536 % 256 : Nat) : Int)), (((s5.c.toNat / 256 % 256 : Nat) : Int)), (((s5.c.toNat / 1 % 256 : Nat) : Int)), 0, 0, 0, 0, 0, 0, 0, 0, 0, 0, 0, 0, 0, 0, 0, 0, 0, 0, 0, 0])) 26 r6_17 rfl kj (run_storeI 5 _ _ g6 11 26 _ _ r6_17 rfl kj kj kj (show 11 < 32 by decide)) fun W18 p18 r6_18 => ?_
  have x18 : Ext w W18 := Puts.ext p18 x17 b6
  refine seq_nil ?_
  refine hK80 _ _ ?_
  try clear hK80 K80
  refine region_lit ?_
  refine seq_val (.int .i64 4) 40 rfl kj kj ?_
  refine seq_val (.int .i64 4) 26 rfl kj kj ?_
  refine seq_nil ?_
  show Code.rounds _ _ _ 1 _ _
  show Code.wp _ _ (Exit.then (Code.rounds _ _ _ 0) _) _ _
  refine wp_seq_k fun K82 hK82 => ?_
  refine region_lit ?_
  refine seq_val (.bool false) 27 rfl kj kj ?_
  refine seq_nil ?_
  refine hK82 _ _ ?_
  try clear hK82 K82
  refine wp_seq_k fun K83 hK83 => ?_
  refine cond_false kj ?_
  refine wp_exit ?_
  refine hK63 _ _ ?_
  try clear hK63 K63
  refine region_lit ?_
  refine seq_val (.int .i64 3) 41 rfl kj kj ?_
  refine seq_val (.int .i64 3) 22 rfl kj kj ?_
  refine seq_nil ?_
  show Code.rounds _ _ _ 6 _ _
  show Code.wp _ _ (Exit.then (Code.rounds _ _ _ 5) _) _ _
  refine wp_seq_k fun K84 hK84 => ?_
  refine region_lit ?_
  refine seq_val (.bool true) 23 rfl kj kj ?_
  refine seq_nil ?_
  refine hK84 _ _ ?_
  try clear hK84 K84
  refine wp_seq_k fun K85 hK85 => ?_
  refine cond_true kj ?_
  refine wp_skip ?_
  refine hK85 _ _ ?_
  try clear hK85 K85
  refine wp_seq_k fun K86 hK86 => ?_
  refine wp_block ?_
  refine wp_seq_k fun K87 hK87 => ?_
  refine region_lit ?_
  refine seq_val (.int .i64 3) 24 rfl kj kj ?_
  refine seq_val (.int .u32 (wv s5.d)) 25 rfl kj (run_index_il 88 _ _ .i64 .u32 ([wv s5.a, wv s5.b, wv s5.c, wv s5.d, wv s5.e, wv s5.f, wv s5.g, wv s5.h]) 3 8 84 (wv s5.d) rfl kj kj kj kj kj rfl (by decide) rfl) ?_
  refine seq_val (.int .i64 3) 5 rfl kj kj ?_
  refine seq_val (.int .u32 (wv s5.d)) 6 rfl kj kj ?_
  refine seq_nil ?_
  refine hK87 _ _ ?_
  try clear hK87 K87
  refine wp_seq_k fun K88 hK88 => ?_
  refine region_lit ?_
  refine seq_val (.int .i64 0) 26 rfl kj kj ?_
  refine seq_nil ?_
  refine hK88 _ _ ?_
  try clear hK88 K88
  refine wp_block ?_
  refine wp_loop_rounds 5 ?_
  show Code.wp _ _ (Exit.then (Code.rounds _ _ _ 4) _) _ _
  refine wp_seq_k fun K89 hK89 => ?_
  refine region_lit ?_
  refine seq_val (.bool true) 27 rfl kj kj ?_
  refine seq_nil ?_
  refine hK89 _ _ ?_
  try clear hK89 K89
  refine wp_seq_k fun K90 hK90 => ?_
  refine cond_true kj ?_
  refine wp_skip ?_
  refine hK90 _ _ ?_
  try clear hK90 K90
  refine wp_seq_k fun K91 hK91 => ?_
  refine wp_block ?_
  refine wp_seq_k fun K92 hK92 => ?_
  refine region_lit ?_
  refine seq_val (.int .i64 0) 28 rfl kj kj ?_
  refine seq_val (.int .i64 0) 7 rfl kj kj ?_
  refine seq_nil ?_
  refine hK92 _ _ ?_
  try clear hK92 K92
  refine region_lit ?_
  refine seq_val (.int .i64 3) 29 rfl kj kj ?_
  refine seq_val (.int .i64 12) 30 rfl kj kj ?_
  refine seq_val (.int .i64 0) 31 rfl kj kj ?_
  refine seq_val (.int .i64 12) 32 rfl kj kj ?_
  refine seq_val (.int .u32 (wv s5.d)) 33 rfl kj kj ?_
  refine seq_val (.int .i64 0) 34 rfl kj kj ?_
  refine seq_val (.int .i64 0) 35 rfl kj kj ?_
  refine seq_val (.int .i64 24) 36 rfl kj kj ?_
  refine seq_val (.int .u32 (wv ((s5.d) >>> 24))) 37 rfl kj (run_bin .shr _ _ _ _ .u32 .i64 _ _ _ rfl kj kj (b_shr _ _ _ _ _ _ (by decide) (w_shr _ _ 24 rfl (by decide)))) ?_
  refine seq_val (.int .u8 (((s5.d.toNat / 16777216 % 256 : Nat) : Int))) 38 rfl kj (run_eq (u := .int .u8 (IntKind.u8.wrap (wv ((s5.d) >>> 24)))) kj (congrArg (Value.int .u8) (w_byte s5.d 24 16777216 (by decide)))) ?_
  refine seq_val (.pointer (some ⟨g6, 12, none⟩)) 39 rfl kj kj ?_
  refine seq_store g6 _ (ints .u8 ([(((s5.a.toNat / 16777216 % 256 : Nat) : Int)), (((s5.a.toNat / 65536 % 256 : Nat) : Int)), (((s5.a.toNat / 256 % 256 : Nat) : Int)), (((s5.a.toNat / 1 % 256 : Nat) : Int)), (((s5.b.toNat / 16777216 % 256 : Nat) : Int)), (((s5.b.toNat / 65536 % 256 : Nat) : Int)), (((s5.b.toNat / 256 % 256 : Nat) : Int)), (((s5.b.toNat / 1 % 256 : Nat) : Int)), (((s5.c.toNat / 16777216 % 256 : Nat) : Int)), (((s5.c.toNat / 65536 % 256 : Nat) : Int)), (((s5.c.toNat / 256 % 256 : Nat) : Int)), (((s5.c.toNat / 1 % 256 : Nat) : Int)), (((s5.d.toNat / 16777216 % 256 : Nat) : Int)), 0, 0, 0, 0, 0, 0, 0, 0, 0, 0, 0, 0, 0, 0, 0, 0, 0, 0, 0])) 26 r6_18 rfl kj (run_storeI 5 _ _ g6 12 26 _ _ r6_18 rfl kj kj kj (show 12 < 32 by decide)) fun W19 p19 r6_19 => ?_
  have x19 : Ext w W19 := Puts.ext p19 x18 b6
  refine seq_nil ?_
  refine hK91 _ _ ?_
  try clear hK91 K91
  refine region_lit ?_
  refine seq_val (.int .i64 1) 40 rfl kj kj ?_
  refine seq_val (.int .i64 1) 26 rfl kj kj ?_
  refine seq_nil ?_
  show Code.rounds _ _ _ 4 _ _
  show Code.wp _ _ (Exit.then (Code.rounds _ _ _ 3) _) _ _
  refine wp_seq_k fun K93 hK93 => ?_
  refine region_lit ?_
  refine seq_val (.bool true) 27 rfl kj kj ?_
  refine seq_nil ?_
  refine hK93 _ _ ?_
  try clear hK93 K93
  refine wp_seq_k fun K94 hK94 => ?_
  refine cond_true kj ?_
  refine wp_skip ?_
  refine hK94 _ _ ?_
  try clear hK94 K94
  refine wp_seq_k fun K95 hK95 => ?_
  refine wp_block ?_
  refine wp_seq_k fun K96 hK96 => ?_
  refine region_lit ?_
  refine seq_val (.int .i64 1) 28 rfl kj kj ?_
  refine seq_val (.int .i64 1) 7 rfl kj kj ?_
  refine seq_nil ?_
  refine hK96 _ _ ?_
  try clear hK96 K96
  refine region_lit ?_
  refine seq_val (.int .i64 3) 29 rfl kj kj ?_
  refine seq_val (.int .i64 12) 30 rfl kj kj ?_
  refine seq_val (.int .i64 1) 31 rfl kj kj ?_
  refine seq_val (.int .i64 13) 32 rfl kj kj ?_
  refine seq_val (.int .u32 (wv s5.d)) 33 rfl kj kj ?_
  refine seq_val (.int .i64 1) 34 rfl kj kj ?_
  refine seq_val (.int .i64 8) 35 rfl kj kj ?_
  refine seq_val (.int .i64 16) 36 rfl kj kj ?_
  refine seq_val (.int .u32 (wv ((s5.d) >>> 16))) 37 rfl kj (run_bin .shr _ _ _ _ .u32 .i64 _ _ _ rfl kj kj (b_shr _ _ _ _ _ _ (by decide) (w_shr _ _ 16 rfl (by decide)))) ?_
  refine seq_val (.int .u8 (((s5.d.toNat / 65536 % 256 : Nat) : Int))) 38 rfl kj (run_eq (u := .int .u8 (IntKind.u8.wrap (wv ((s5.d) >>> 16)))) kj (congrArg (Value.int .u8) (w_byte s5.d 16 65536 (by decide)))) ?_
  refine seq_val (.pointer (some ⟨g6, 13, none⟩)) 39 rfl kj kj ?_
  refine seq_store g6 _ (ints .u8 ([(((s5.a.toNat / 16777216 % 256 : Nat) : Int)), (((s5.a.toNat / 65536 % 256 : Nat) : Int)), (((s5.a.toNat / 256 % 256 : Nat) : Int)), (((s5.a.toNat / 1 % 256 : Nat) : Int)), (((s5.b.toNat / 16777216 % 256 : Nat) : Int)), (((s5.b.toNat / 65536 % 256 : Nat) : Int)), (((s5.b.toNat / 256 % 256 : Nat) : Int)), (((s5.b.toNat / 1 % 256 : Nat) : Int)), (((s5.c.toNat / 16777216 % 256 : Nat) : Int)), (((s5.c.toNat / 65536 % 256 : Nat) : Int)), (((s5.c.toNat / 256 % 256 : Nat) : Int)), (((s5.c.toNat / 1 % 256 : Nat) : Int)), (((s5.d.toNat / 16777216 % 256 : Nat) : Int)), (((s5.d.toNat / 65536 % 256 : Nat) : Int)), 0, 0, 0, 0, 0, 0, 0, 0, 0, 0, 0, 0, 0, 0, 0, 0, 0, 0])) 26 r6_19 rfl kj (run_storeI 5 _ _ g6 13 26 _ _ r6_19 rfl kj kj kj (show 13 < 32 by decide)) fun W20 p20 r6_20 => ?_
  have x20 : Ext w W20 := Puts.ext p20 x19 b6
  refine seq_nil ?_
  refine hK95 _ _ ?_
  try clear hK95 K95
  refine region_lit ?_
  refine seq_val (.int .i64 2) 40 rfl kj kj ?_
  refine seq_val (.int .i64 2) 26 rfl kj kj ?_
  refine seq_nil ?_
  show Code.rounds _ _ _ 3 _ _
  show Code.wp _ _ (Exit.then (Code.rounds _ _ _ 2) _) _ _
  refine wp_seq_k fun K97 hK97 => ?_
  refine region_lit ?_
  refine seq_val (.bool true) 27 rfl kj kj ?_
  refine seq_nil ?_
  refine hK97 _ _ ?_
  try clear hK97 K97
  refine wp_seq_k fun K98 hK98 => ?_
  refine cond_true kj ?_
  refine wp_skip ?_
  refine hK98 _ _ ?_
  try clear hK98 K98
  refine wp_seq_k fun K99 hK99 => ?_
  refine wp_block ?_
  refine wp_seq_k fun K100 hK100 => ?_
  refine region_lit ?_
  refine seq_val (.int .i64 2) 28 rfl kj kj ?_
  refine seq_val (.int .i64 2) 7 rfl kj kj ?_
  refine seq_nil ?_
  refine hK100 _ _ ?_
  try clear hK100 K100
  refine region_lit ?_
  refine seq_val (.int .i64 3) 29 rfl kj kj ?_
  refine seq_val (.int .i64 12) 30 rfl kj kj ?_
  refine seq_val (.int .i64 2) 31 rfl kj kj ?_
  refine seq_val (.int .i64 14) 32 rfl kj kj ?_
  refine seq_val (.int .u32 (wv s5.d)) 33 rfl kj kj ?_
  refine seq_val (.int .i64 2) 34 rfl kj kj ?_
  refine seq_val (.int .i64 16) 35 rfl kj kj ?_
  refine seq_val (.int .i64 8) 36 rfl kj kj ?_
  refine seq_val (.int .u32 (wv ((s5.d) >>> 8))) 37 rfl kj (run_bin .shr _ _ _ _ .u32 .i64 _ _ _ rfl kj kj (b_shr _ _ _ _ _ _ (by decide) (w_shr _ _ 8 rfl (by decide)))) ?_
  refine seq_val (.int .u8 (((s5.d.toNat / 256 % 256 : Nat) : Int))) 38 rfl kj (run_eq (u := .int .u8 (IntKind.u8.wrap (wv ((s5.d) >>> 8)))) kj (congrArg (Value.int .u8) (w_byte s5.d 8 256 (by decide)))) ?_
  refine seq_val (.pointer (some ⟨g6, 14, none⟩)) 39 rfl kj kj ?_
  refine seq_store g6 _ (ints .u8 ([(((s5.a.toNat / 16777216 % 256 : Nat) : Int)), (((s5.a.toNat / 65536 % 256 : Nat) : Int)), (((s5.a.toNat / 256 % 256 : Nat) : Int)), (((s5.a.toNat / 1 % 256 : Nat) : Int)), (((s5.b.toNat / 16777216 % 256 : Nat) : Int)), (((s5.b.toNat / 65536 % 256 : Nat) : Int)), (((s5.b.toNat / 256 % 256 : Nat) : Int)), (((s5.b.toNat / 1 % 256 : Nat) : Int)), (((s5.c.toNat / 16777216 % 256 : Nat) : Int)), (((s5.c.toNat / 65536 % 256 : Nat) : Int)), (((s5.c.toNat / 256 % 256 : Nat) : Int)), (((s5.c.toNat / 1 % 256 : Nat) : Int)), (((s5.d.toNat / 16777216 % 256 : Nat) : Int)), (((s5.d.toNat / 65536 % 256 : Nat) : Int)), (((s5.d.toNat / 256 % 256 : Nat) : Int)), 0, 0, 0, 0, 0, 0, 0, 0, 0, 0, 0, 0, 0, 0, 0, 0, 0])) 26 r6_20 rfl kj (run_storeI 5 _ _ g6 14 26 _ _ r6_20 rfl kj kj kj (show 14 < 32 by decide)) fun W21 p21 r6_21 => ?_
  have x21 : Ext w W21 := Puts.ext p21 x20 b6
  refine seq_nil ?_
  refine hK99 _ _ ?_
  try clear hK99 K99
  refine region_lit ?_
  refine seq_val (.int .i64 3) 40 rfl kj kj ?_
  refine seq_val (.int .i64 3) 26 rfl kj kj ?_
  refine seq_nil ?_
  show Code.rounds _ _ _ 2 _ _
  show Code.wp _ _ (Exit.then (Code.rounds _ _ _ 1) _) _ _
  refine wp_seq_k fun K101 hK101 => ?_
  refine region_lit ?_
  refine seq_val (.bool true) 27 rfl kj kj ?_
  refine seq_nil ?_
  refine hK101 _ _ ?_
  try clear hK101 K101
  refine wp_seq_k fun K102 hK102 => ?_
  refine cond_true kj ?_
  refine wp_skip ?_
  refine hK102 _ _ ?_
  try clear hK102 K102
  refine wp_seq_k fun K103 hK103 => ?_
  refine wp_block ?_
  refine wp_seq_k fun K104 hK104 => ?_
  refine region_lit ?_
  refine seq_val (.int .i64 3) 28 rfl kj kj ?_
  refine seq_val (.int .i64 3) 7 rfl kj kj ?_
  refine seq_nil ?_
  refine hK104 _ _ ?_
  try clear hK104 K104
  refine region_lit ?_
  refine seq_val (.int .i64 3) 29 rfl kj kj ?_
  refine seq_val (.int .i64 12) 30 rfl kj kj ?_
  refine seq_val (.int .i64 3) 31 rfl kj kj ?_
  refine seq_val (.int .i64 15) 32 rfl kj kj ?_
  refine seq_val (.int .u32 (wv s5.d)) 33 rfl kj kj ?_
  refine seq_val (.int .i64 3) 34 rfl kj kj ?_
  refine seq_val (.int .i64 24) 35 rfl kj kj ?_
  refine seq_val (.int .i64 0) 36 rfl kj kj ?_
  refine seq_val (.int .u32 (wv ((s5.d) >>> 0))) 37 rfl kj (run_bin .shr _ _ _ _ .u32 .i64 _ _ _ rfl kj kj (b_shr _ _ _ _ _ _ (by decide) (w_shr _ _ 0 rfl (by decide)))) ?_
  refine seq_val (.int .u8 (((s5.d.toNat / 1 % 256 : Nat) : Int))) 38 rfl kj (run_eq (u := .int .u8 (IntKind.u8.wrap (wv ((s5.d) >>> 0)))) kj (congrArg (Value.int .u8) (w_byte s5.d 0 1 (by decide)))) ?_
  refine seq_val (.pointer (some ⟨g6, 15, none⟩)) 39 rfl kj kj ?_
  refine seq_store g6 _ (ints .u8 ([(((s5.a.toNat / 16777216 % 256 : Nat) : Int)), (((s5.a.toNat / 65536 % 256 : Nat) : Int)), (((s5.a.toNat / 256 % 256 : Nat) : Int)), (((s5.a.toNat / 1 % 256 : Nat) : Int)), (((s5.b.toNat / 16777216 % 256 : Nat) : Int)), (((s5.b.toNat / 65536 % 256 : Nat) : Int)), (((s5.b.toNat / 256 % 256 : Nat) : Int)), (((s5.b.toNat / 1 % 256 : Nat) : Int)), (((s5.c.toNat / 16777216 % 256 : Nat) : Int)), (((s5.c.toNat / 65536 % 256 : Nat) : Int)), (((s5.c.toNat / 256 % 256 : Nat) : Int)), (((s5.c.toNat / 1 % 256 : Nat) : Int)), (((s5.d.toNat / 16777216 % 256 : Nat) : Int)), (((s5.d.toNat / 65536 % 256 : Nat) : Int)), (((s5.d.toNat / 256 % 256 : Nat) : Int)), (((s5.d.toNat / 1 % 256 : Nat) : Int)), 0, 0, 0, 0, 0, 0, 0, 0, 0, 0, 0, 0, 0, 0, 0, 0])) 26 r6_21 rfl kj (run_storeI 5 _ _ g6 15 26 _ _ r6_21 rfl kj kj kj (show 15 < 32 by decide)) fun W22 p22 r6_22 => ?_
  have x22 : Ext w W22 := Puts.ext p22 x21 b6
  refine seq_nil ?_
  refine hK103 _ _ ?_
  try clear hK103 K103
  refine region_lit ?_
  refine seq_val (.int .i64 4) 40 rfl kj kj ?_
  refine seq_val (.int .i64 4) 26 rfl kj kj ?_
  refine seq_nil ?_
  show Code.rounds _ _ _ 1 _ _
  show Code.wp _ _ (Exit.then (Code.rounds _ _ _ 0) _) _ _
  refine wp_seq_k fun K105 hK105 => ?_
  refine region_lit ?_
  refine seq_val (.bool false) 27 rfl kj kj ?_
  refine seq_nil ?_
  refine hK105 _ _ ?_
  try clear hK105 K105
  refine wp_seq_k fun K106 hK106 => ?_
  refine cond_false kj ?_
  refine wp_exit ?_
  refine hK86 _ _ ?_
  try clear hK86 K86
  refine region_lit ?_
  refine seq_val (.int .i64 4) 41 rfl kj kj ?_
  refine seq_val (.int .i64 4) 22 rfl kj kj ?_
  refine seq_nil ?_
  show Code.rounds _ _ _ 5 _ _
  show Code.wp _ _ (Exit.then (Code.rounds _ _ _ 4) _) _ _
  refine wp_seq_k fun K107 hK107 => ?_
  refine region_lit ?_
  refine seq_val (.bool true) 23 rfl kj kj ?_
  refine seq_nil ?_
  refine hK107 _ _ ?_
  try clear hK107 K107
  refine wp_seq_k fun K108 hK108 => ?_
  refine cond_true kj ?_
  refine wp_skip ?_
  refine hK108 _ _ ?_
  try clear hK108 K108
  refine wp_seq_k fun K109 hK109 => ?_
  refine wp_block ?_
  refine wp_seq_k fun K110 hK110 => ?_
  refine region_lit ?_
  refine seq_val (.int .i64 4) 24 rfl kj kj ?_
  refine seq_val (.int .u32 (wv s5.e)) 25 rfl kj (run_index_il 88 _ _ .i64 .u32 ([wv s5.a, wv s5.b, wv s5.c, wv s5.d, wv s5.e, wv s5.f, wv s5.g, wv s5.h]) 4 8 84 (wv s5.e) rfl kj kj kj kj kj rfl (by decide) rfl) ?_
  refine seq_val (.int .i64 4) 5 rfl kj kj ?_
  refine seq_val (.int .u32 (wv s5.e)) 6 rfl kj kj ?_
  refine seq_nil ?_
  refine hK110 _ _ ?_
  try clear hK110 K110
  refine wp_seq_k fun K111 hK111 => ?_
  refine region_lit ?_
  refine seq_val (.int .i64 0) 26 rfl kj kj ?_
  refine seq_nil ?_
  refine hK111 _ _ ?_
  try clear hK111 K111
  refine wp_block ?_
  refine wp_loop_rounds 5 ?_
  show Code.wp _ _ (Exit.then (Code.rounds _ _ _ 4) _) _ _
  refine wp_seq_k fun K112 hK112 => ?_
  refine region_lit ?_
  refine seq_val (.bool true) 27 rfl kj kj ?_
  refine seq_nil ?_
  refine hK112 _ _ ?_
  try clear hK112 K112
  refine wp_seq_k fun K113 hK113 => ?_
  refine cond_true kj ?_
  refine wp_skip ?_
  refine hK113 _ _ ?_
  try clear hK113 K113
  refine wp_seq_k fun K114 hK114 => ?_
  refine wp_block ?_
  refine wp_seq_k fun K115 hK115 => ?_
  refine region_lit ?_
  refine seq_val (.int .i64 0) 28 rfl kj kj ?_
  refine seq_val (.int .i64 0) 7 rfl kj kj ?_
  refine seq_nil ?_
  refine hK115 _ _ ?_
  try clear hK115 K115
  refine region_lit ?_
  refine seq_val (.int .i64 4) 29 rfl kj kj ?_
  refine seq_val (.int .i64 16) 30 rfl kj kj ?_
  refine seq_val (.int .i64 0) 31 rfl kj kj ?_
  refine seq_val (.int .i64 16) 32 rfl kj kj ?_
  refine seq_val (.int .u32 (wv s5.e)) 33 rfl kj kj ?_
  refine seq_val (.int .i64 0) 34 rfl kj kj ?_
  refine seq_val (.int .i64 0) 35 rfl kj kj ?_
  refine seq_val (.int .i64 24) 36 rfl kj kj ?_
  refine seq_val (.int .u32 (wv ((s5.e) >>> 24))) 37 rfl kj (run_bin .shr _ _ _ _ .u32 .i64 _ _ _ rfl kj kj (b_shr _ _ _ _ _ _ (by decide) (w_shr _ _ 24 rfl (by decide)))) ?_
  refine seq_val (.int .u8 (((s5.e.toNat / 16777216 % 256 : Nat) : Int))) 38 rfl kj (run_eq (u := .int .u8 (IntKind.u8.wrap (wv ((s5.e) >>> 24)))) kj (congrArg (Value.int .u8) (w_byte s5.e 24 16777216 (by decide)))) ?_
  refine seq_val (.pointer (some ⟨g6, 16, none⟩)) 39 rfl kj kj ?_
  refine seq_store g6 _ (ints .u8 ([(((s5.a.toNat / 16777216 % 256 : Nat) : Int)), (((s5.a.toNat / 65536 % 256 : Nat) : Int)), (((s5.a.toNat / 256 % 256 : Nat) : Int)), (((s5.a.toNat / 1 % 256 : Nat) : Int)), (((s5.b.toNat / 16777216 % 256 : Nat) : Int)), (((s5.b.toNat / 65536 % 256 : Nat) : Int)), (((s5.b.toNat / 256 % 256 : Nat) : Int)), (((s5.b.toNat / 1 % 256 : Nat) : Int)), (((s5.c.toNat / 16777216 % 256 : Nat) : Int)), (((s5.c.toNat / 65536 % 256 : Nat) : Int)), (((s5.c.toNat / 256 % 256 : Nat) : Int)), (((s5.c.toNat / 1 % 256 : Nat) : Int)), (((s5.d.toNat / 16777216 % 256 : Nat) : Int)), (((s5.d.toNat / 65536 % 256 : Nat) : Int)), (((s5.d.toNat / 256 % 256 : Nat) : Int)), (((s5.d.toNat / 1 % 256 : Nat) : Int)), (((s5.e.toNat / 16777216 % 256 : Nat) : Int)), 0, 0, 0, 0, 0, 0, 0, 0, 0, 0, 0, 0, 0, 0, 0])) 26 r6_22 rfl kj (run_storeI 5 _ _ g6 16 26 _ _ r6_22 rfl kj kj kj (show 16 < 32 by decide)) fun W23 p23 r6_23 => ?_
  have x23 : Ext w W23 := Puts.ext p23 x22 b6
  refine seq_nil ?_
  refine hK114 _ _ ?_
  try clear hK114 K114
  refine region_lit ?_
  refine seq_val (.int .i64 1) 40 rfl kj kj ?_
  refine seq_val (.int .i64 1) 26 rfl kj kj ?_
  refine seq_nil ?_
  show Code.rounds _ _ _ 4 _ _
  show Code.wp _ _ (Exit.then (Code.rounds _ _ _ 3) _) _ _
  refine wp_seq_k fun K116 hK116 => ?_
  refine region_lit ?_
  refine seq_val (.bool true) 27 rfl kj kj ?_
  refine seq_nil ?_
  refine hK116 _ _ ?_
  try clear hK116 K116
  refine wp_seq_k fun K117 hK117 => ?_
  refine cond_true kj ?_
  refine wp_skip ?_
  refine hK117 _ _ ?_
  try clear hK117 K117
  refine wp_seq_k fun K118 hK118 => ?_
  refine wp_block ?_
  refine wp_seq_k fun K119 hK119 => ?_
  refine region_lit ?_
  refine seq_val (.int .i64 1) 28 rfl kj kj ?_
  refine seq_val (.int .i64 1) 7 rfl kj kj ?_
  refine seq_nil ?_
  refine hK119 _ _ ?_
  try clear hK119 K119
  refine region_lit ?_
  refine seq_val (.int .i64 4) 29 rfl kj kj ?_
  refine seq_val (.int .i64 16) 30 rfl kj kj ?_
  refine seq_val (.int .i64 1) 31 rfl kj kj ?_
  refine seq_val (.int .i64 17) 32 rfl kj kj ?_
  refine seq_val (.int .u32 (wv s5.e)) 33 rfl kj kj ?_
  refine seq_val (.int .i64 1) 34 rfl kj kj ?_
  refine seq_val (.int .i64 8) 35 rfl kj kj ?_
  refine seq_val (.int .i64 16) 36 rfl kj kj ?_
  refine seq_val (.int .u32 (wv ((s5.e) >>> 16))) 37 rfl kj (run_bin .shr _ _ _ _ .u32 .i64 _ _ _ rfl kj kj (b_shr _ _ _ _ _ _ (by decide) (w_shr _ _ 16 rfl (by decide)))) ?_
  refine seq_val (.int .u8 (((s5.e.toNat / 65536 % 256 : Nat) : Int))) 38 rfl kj (run_eq (u := .int .u8 (IntKind.u8.wrap (wv ((s5.e) >>> 16)))) kj (congrArg (Value.int .u8) (w_byte s5.e 16 65536 (by decide)))) ?_
  refine seq_val (.pointer (some ⟨g6, 17, none⟩)) 39 rfl kj kj ?_
  refine seq_store g6 _ (ints .u8 ([(((s5.a.toNat / 16777216 % 256 : Nat) : Int)), (((s5.a.toNat / 65536 % 256 : Nat) : Int)), (((s5.a.toNat / 256 % 256 : Nat) : Int)), (((s5.a.toNat / 1 % 256 : Nat) : Int)), (((s5.b.toNat / 16777216 % 256 : Nat) : Int)), (((s5.b.toNat / 65536 % 256 : Nat) : Int)), (((s5.b.toNat / 256 % 256 : Nat) : Int)), (((s5.b.toNat / 1 % 256 : Nat) : Int)), (((s5.c.toNat / 16777216 % 256 : Nat) : Int)), (((s5.c.toNat / 65536 % 256 : Nat) : Int)), (((s5.c.toNat / 256 % 256 : Nat) : Int)), (((s5.c.toNat / 1 % 256 : Nat) : Int)), (((s5.d.toNat / 16777216 % 256 : Nat) : Int)), (((s5.d.toNat / 65536 % 256 : Nat) : Int)), (((s5.d.toNat / 256 % 256 : Nat) : Int)), (((s5.d.toNat / 1 % 256 : Nat) : Int)), (((s5.e.toNat / 16777216 % 256 : Nat) : Int)), (((s5.e.toNat / 65536 % 256 : Nat) : Int)), 0, 0, 0, 0, 0, 0, 0, 0, 0, 0, 0, 0, 0, 0])) 26 r6_23 rfl kj (run_storeI 5 _ _ g6 17 26 _ _ r6_23 rfl kj kj kj (show 17 < 32 by decide)) fun W24 p24 r6_24 => ?_
  have x24 : Ext w W24 := Puts.ext p24 x23 b6
  refine seq_nil ?_
  refine hK118 _ _ ?_
  try clear hK118 K118
  refine region_lit ?_
  refine seq_val (.int .i64 2) 40 rfl kj kj ?_
  refine seq_val (.int .i64 2) 26 rfl kj kj ?_
  refine seq_nil ?_
  show Code.rounds _ _ _ 3 _ _
  show Code.wp _ _ (Exit.then (Code.rounds _ _ _ 2) _) _ _
  refine wp_seq_k fun K120 hK120 => ?_
  refine region_lit ?_
  refine seq_val (.bool true) 27 rfl kj kj ?_
  refine seq_nil ?_
  refine hK120 _ _ ?_
  try clear hK120 K120
  refine wp_seq_k fun K121 hK121 => ?_
  refine cond_true kj ?_
  refine wp_skip ?_
  refine hK121 _ _ ?_
  try clear hK121 K121
  refine wp_seq_k fun K122 hK122 => ?_
  refine wp_block ?_
  refine wp_seq_k fun K123 hK123 => ?_
  refine region_lit ?_
  refine seq_val (.int .i64 2) 28 rfl kj kj ?_
  refine seq_val (.int .i64 2) 7 rfl kj kj ?_
  refine seq_nil ?_
  refine hK123 _ _ ?_
  try clear hK123 K123
  refine region_lit ?_
  refine seq_val (.int .i64 4) 29 rfl kj kj ?_
  refine seq_val (.int .i64 16) 30 rfl kj kj ?_
  refine seq_val (.int .i64 2) 31 rfl kj kj ?_
  refine seq_val (.int .i64 18) 32 rfl kj kj ?_
  refine seq_val (.int .u32 (wv s5.e)) 33 rfl kj kj ?_
  refine seq_val (.int .i64 2) 34 rfl kj kj ?_
  refine seq_val (.int .i64 16) 35 rfl kj kj ?_
  refine seq_val (.int .i64 8) 36 rfl kj kj ?_
  refine seq_val (.int .u32 (wv ((s5.e) >>> 8))) 37 rfl kj (run_bin .shr _ _ _ _ .u32 .i64 _ _ _ rfl kj kj (b_shr _ _ _ _ _ _ (by decide) (w_shr _ _ 8 rfl (by decide)))) ?_
  refine seq_val (.int .u8 (((s5.e.toNat / 256 % 256 : Nat) : Int))) 38 rfl kj (run_eq (u := .int .u8 (IntKind.u8.wrap (wv ((s5.e) >>> 8)))) kj (congrArg (Value.int .u8) (w_byte s5.e 8 256 (by decide)))) ?_
  refine seq_val (.pointer (some ⟨g6, 18, none⟩)) 39 rfl kj kj ?_
  refine seq_store g6 _ (ints .u8 ([(((s5.a.toNat / 16777216 % 256 : Nat) : Int)), (((s5.a.toNat / 65536 % 256 : Nat) : Int)), (((s5.a.toNat / 256 % 256 : Nat) : Int)), (((s5.a.toNat / 1 % 256 : Nat) : Int)), (((s5.b.toNat / 16777216 % 256 : Nat) : Int)), (((s5.b.toNat / 65536 % 256 : Nat) : Int)), (((s5.b.toNat / 256 % 256 : Nat) : Int)), (((s5.b.toNat / 1 % 256 : Nat) : Int)), (((s5.c.toNat / 16777216 % 256 : Nat) : Int)), (((s5.c.toNat / 65536 % 256 : Nat) : Int)), (((s5.c.toNat / 256 % 256 : Nat) : Int)), (((s5.c.toNat / 1 % 256 : Nat) : Int)), (((s5.d.toNat / 16777216 % 256 : Nat) : Int)), (((s5.d.toNat / 65536 % 256 : Nat) : Int)), (((s5.d.toNat / 256 % 256 : Nat) : Int)), (((s5.d.toNat / 1 % 256 : Nat) : Int)), (((s5.e.toNat / 16777216 % 256 : Nat) : Int)), (((s5.e.toNat / 65536 % 256 : Nat) : Int)), (((s5.e.toNat / 256 % 256 : Nat) : Int)), 0, 0, 0, 0, 0, 0, 0, 0, 0, 0, 0, 0, 0])) 26 r6_24 rfl kj (run_storeI 5 _ _ g6 18 26 _ _ r6_24 rfl kj kj kj (show 18 < 32 by decide)) fun W25 p25 r6_25 => ?_
  have x25 : Ext w W25 := Puts.ext p25 x24 b6
  refine seq_nil ?_
  refine hK122 _ _ ?_
  try clear hK122 K122
  refine region_lit ?_
  refine seq_val (.int .i64 3) 40 rfl kj kj ?_
  refine seq_val (.int .i64 3) 26 rfl kj kj ?_
  refine seq_nil ?_
  show Code.rounds _ _ _ 2 _ _
  show Code.wp _ _ (Exit.then (Code.rounds _ _ _ 1) _) _ _
  refine wp_seq_k fun K124 hK124 => ?_
  refine region_lit ?_
  refine seq_val (.bool true) 27 rfl kj kj ?_
  refine seq_nil ?_
  refine hK124 _ _ ?_
  try clear hK124 K124
  refine wp_seq_k fun K125 hK125 => ?_
  refine cond_true kj ?_
  refine wp_skip ?_
  refine hK125 _ _ ?_
  try clear hK125 K125
  refine wp_seq_k fun K126 hK126 => ?_
  refine wp_block ?_
  refine wp_seq_k fun K127 hK127 => ?_
  refine region_lit ?_
  refine seq_val (.int .i64 3) 28 rfl kj kj ?_
  refine seq_val (.int .i64 3) 7 rfl kj kj ?_
  refine seq_nil ?_
  refine hK127 _ _ ?_
  try clear hK127 K127
  refine region_lit ?_
  refine seq_val (.int .i64 4) 29 rfl kj kj ?_
  refine seq_val (.int .i64 16) 30 rfl kj kj ?_
  refine seq_val (.int .i64 3) 31 rfl kj kj ?_
  refine seq_val (.int .i64 19) 32 rfl kj kj ?_
  refine seq_val (.int .u32 (wv s5.e)) 33 rfl kj kj ?_
  refine seq_val (.int .i64 3) 34 rfl kj kj ?_
  refine seq_val (.int .i64 24) 35 rfl kj kj ?_
  refine seq_val (.int .i64 0) 36 rfl kj kj ?_
  refine seq_val (.int .u32 (wv ((s5.e) >>> 0))) 37 rfl kj (run_bin .shr _ _ _ _ .u32 .i64 _ _ _ rfl kj kj (b_shr _ _ _ _ _ _ (by decide) (w_shr _ _ 0 rfl (by decide)))) ?_
  refine seq_val (.int .u8 (((s5.e.toNat / 1 % 256 : Nat) : Int))) 38 rfl kj (run_eq (u := .int .u8 (IntKind.u8.wrap (wv ((s5.e) >>> 0)))) kj (congrArg (Value.int .u8) (w_byte s5.e 0 1 (by decide)))) ?_
  refine seq_val (.pointer (some ⟨g6, 19, none⟩)) 39 rfl kj kj ?_
  refine seq_store g6 _ (ints .u8 ([(((s5.a.toNat / 16777216 % 256 : Nat) : Int)), (((s5.a.toNat / 65536 % 256 : Nat) : Int)), (((s5.a.toNat / 256 % 256 : Nat) : Int)), (((s5.a.toNat / 1 % 256 : Nat) : Int)), (((s5.b.toNat / 16777216 % 256 : Nat) : Int)), (((s5.b.toNat / 65536 % 256 : Nat) : Int)), (((s5.b.toNat / 256 % 256 : Nat) : Int)), (((s5.b.toNat / 1 % 256 : Nat) : Int)), (((s5.c.toNat / 16777216 % 256 : Nat) : Int)), (((s5.c.toNat / 65536 % 256 : Nat) : Int)), (((s5.c.toNat / 256 % 256 : Nat) : Int)), (((s5.c.toNat / 1 % 256 : Nat) : Int)), (((s5.d.toNat / 16777216 % 256 : Nat) : Int)), (((s5.d.toNat / 65536 % 256 : Nat) : Int)), (((s5.d.toNat / 256 % 256 : Nat) : Int)), (((s5.d.toNat / 1 % 256 : Nat) : Int)), (((s5.e.toNat / 16777216 % 256 : Nat) : Int)), (((s5.e.toNat / 65536 % 256 : Nat) : Int)), (((s5.e.toNat / 256 % 256 : Nat) : Int)), (((s5.e.toNat / 1 % 256 : Nat) : Int)), 0, 0, 0, 0, 0, 0, 0, 0, 0, 0, 0, 0])) 26 r6_25 rfl kj (run_storeI 5 _ _ g6 19 26 _ _ r6_25 rfl kj kj kj (show 19 < 32 by decide)) fun W26 p26 r6_26 => ?_
  have x26 : Ext w W26 := Puts.ext p26 x25 b6
  refine seq_nil ?_
  refine hK126 _ _ ?_
  try clear hK126 K126
  refine region_lit ?_
  refine seq_val (.int .i64 4) 40 rfl kj kj ?_
  refine seq_val (.int .i64 4) 26 rfl kj kj ?_
  refine seq_nil ?_
  show Code.rounds _ _ _ 1 _ _
  show Code.wp _ _ (Exit.then (Code.rounds _ _ _ 0) _) _ _
  refine wp_seq_k fun K128 hK128 => ?_
  refine region_lit ?_
  refine seq_val (.bool false) 27 rfl kj kj ?_
  refine seq_nil ?_
  refine hK128 _ _ ?_
  try clear hK128 K128
  refine wp_seq_k fun K129 hK129 => ?_
  refine cond_false kj ?_
  refine wp_exit ?_
  refine hK109 _ _ ?_
  try clear hK109 K109
  refine region_lit ?_
  refine seq_val (.int .i64 5) 41 rfl kj kj ?_
  refine seq_val (.int .i64 5) 22 rfl kj kj ?_
  refine seq_nil ?_
  show Code.rounds _ _ _ 4 _ _
  show Code.wp _ _ (Exit.then (Code.rounds _ _ _ 3) _) _ _
  refine wp_seq_k fun K130 hK130 => ?_
  refine region_lit ?_
  refine seq_val (.bool true) 23 rfl kj kj ?_
  refine seq_nil ?_
  refine hK130 _ _ ?_
  try clear hK130 K130
  refine wp_seq_k fun K131 hK131 => ?_
  refine cond_true kj ?_
  refine wp_skip ?_
  refine hK131 _ _ ?_
  try clear hK131 K131
  refine wp_seq_k fun K132 hK132 => ?_
  refine wp_block ?_
  refine wp_seq_k fun K133 hK133 => ?_
  refine region_lit ?_
  refine seq_val (.int .i64 5) 24 rfl kj kj ?_
  refine seq_val (.int .u32 (wv s5.f)) 25 rfl kj (run_index_il 88 _ _ .i64 .u32 ([wv s5.a, wv s5.b, wv s5.c, wv s5.d, wv s5.e, wv s5.f, wv s5.g, wv s5.h]) 5 8 84 (wv s5.f) rfl kj kj kj kj kj rfl (by decide) rfl) ?_
  refine seq_val (.int .i64 5) 5 rfl kj kj ?_
  refine seq_val (.int .u32 (wv s5.f)) 6 rfl kj kj ?_
  refine seq_nil ?_
  refine hK133 _ _ ?_
  try clear hK133 K133
  refine wp_seq_k fun K134 hK134 => ?_
  refine region_lit ?_
  refine seq_val (.int .i64 0) 26 rfl kj kj ?_
  refine seq_nil ?_
  refine hK134 _ _ ?_
  try clear hK134 K134
  refine wp_block ?_
  refine wp_loop_rounds 5 ?_
  show Code.wp _ _ (Exit.then (Code.rounds _ _ _ 4) _) _ _
  refine wp_seq_k fun K135 hK135 => ?_
  refine region_lit ?_
  refine seq_val (.bool true) 27 rfl kj kj ?_
  refine seq_nil ?_
  refine hK135 _ _ ?_
  try clear hK135 K135
  refine wp_seq_k fun K136 hK136 => ?_
  refine cond_true kj ?_
  refine wp_skip ?_
  refine hK136 _ _ ?_
  try clear hK136 K136
  refine wp_seq_k fun K137 hK137 => ?_
  refine wp_block ?_
  refine wp_seq_k fun K138 hK138 => ?_
  refine region_lit ?_
  refine seq_val (.int .i64 0) 28 rfl kj kj ?_
  refine seq_val (.int .i64 0) 7 rfl kj kj ?_
  refine seq_nil ?_
  refine hK138 _ _ ?_
  try clear hK138 K138
  refine region_lit ?_
  refine seq_val (.int .i64 5) 29 rfl kj kj ?_
  refine seq_val (.int .i64 20) 30 rfl kj kj ?_
  refine seq_val (.int .i64 0) 31 rfl kj kj ?_
  refine seq_val (.int .i64 20) 32 rfl kj kj ?_
  refine seq_val (.int .u32 (wv s5.f)) 33 rfl kj kj ?_
  refine seq_val (.int .i64 0) 34 rfl kj kj ?_
  refine seq_val (.int .i64 0) 35 rfl kj kj ?_
  refine seq_val (.int .i64 24) 36 rfl kj kj ?_
  refine seq_val (.int .u32 (wv ((s5.f) >>> 24))) 37 rfl kj (run_bin .shr _ _ _ _ .u32 .i64 _ _ _ rfl kj kj (b_shr _ _ _ _ _ _ (by decide) (w_shr _ _ 24 rfl (by decide)))) ?_
  refine seq_val (.int .u8 (((s5.f.toNat / 16777216 % 256 : Nat) : Int))) 38 rfl kj (run_eq (u := .int .u8 (IntKind.u8.wrap (wv ((s5.f) >>> 24)))) kj (congrArg (Value.int .u8) (w_byte s5.f 24 16777216 (by decide)))) ?_
  refine seq_val (.pointer (some ⟨g6, 20, none⟩)) 39 rfl kj kj ?_
  refine seq_store g6 _ (ints .u8 ([(((s5.a.toNat / 16777216 % 256 : Nat) : Int)), (((s5.a.toNat / 65536 % 256 : Nat) : Int)), (((s5.a.toNat / 256 % 256 : Nat) : Int)), (((s5.a.toNat / 1 % 256 : Nat) : Int)), (((s5.b.toNat / 16777216 % 256 : Nat) : Int)), (((s5.b.toNat / 65536 % 256 : Nat) : Int)), (((s5.b.toNat / 256 % 256 : Nat) : Int)), (((s5.b.toNat / 1 % 256 : Nat) : Int)), (((s5.c.toNat / 16777216 % 256 : Nat) : Int)), (((s5.c.toNat / 65536 % 256 : Nat) : Int)), (((s5.c.toNat / 256 % 256 : Nat) : Int)), (((s5.c.toNat / 1 % 256 : Nat) : Int)), (((s5.d.toNat / 16777216 % 256 : Nat) : Int)), (((s5.d.toNat / 65536 % 256 : Nat) : Int)), (((s5.d.toNat / 256 % 256 : Nat) : Int)), (((s5.d.toNat / 1 % 256 : Nat) : Int)), (((s5.e.toNat / 16777216 % 256 : Nat) : Int)), (((s5.e.toNat / 65536 % 256 : Nat) : Int)), (((s5.e.toNat / 256 % 256 : Nat) : Int)), (((s5.e.toNat / 1 % 256 : Nat) : Int)), (((s5.f.toNat / 16777216 % 256 : Nat) : Int)), 0, 0, 0, 0, 0, 0, 0, 0, 0, 0, 0])) 26 r6_26 rfl kj (run_storeI 5 _ _ g6 20 26 _ _ r6_26 rfl kj kj kj (show 20 < 32 by decide)) fun W27 p27 r6_27 => ?_
  have x27 : Ext w W27 := Puts.ext p27 x26 b6
  refine seq_nil ?_
  refine hK137 _ _ ?_
  try clear hK137 K137
  refine region_lit ?_
  refine seq_val (.int .i64 1) 40 rfl kj kj ?_
  refine seq_val (.int .i64 1) 26 rfl kj kj ?_
  refine seq_nil ?_
  show Code.rounds _ _ _ 4 _ _
  show Code.wp _ _ (Exit.then (Code.rounds _ _ _ 3) _) _ _
  refine wp_seq_k fun K139 hK139 => ?_
  refine region_lit ?_
  refine seq_val (.bool true) 27 rfl kj kj ?_
  refine seq_nil ?_
  refine hK139 _ _ ?_
  try clear hK139 K139
  refine wp_seq_k fun K140 hK140 => ?_
  refine cond_true kj ?_
  refine wp_skip ?_
  refine hK140 _ _ ?_
  try clear hK140 K140
  refine wp_seq_k fun K141 hK141 => ?_
  refine wp_block ?_
  refine wp_seq_k fun K142 hK142 => ?_
  refine region_lit ?_
  refine seq_val (.int .i64 1) 28 rfl kj kj ?_
  refine seq_val (.int .i64 1) 7 rfl kj kj ?_
  refine seq_nil ?_
  refine hK142 _ _ ?_
  try clear hK142 K142
  refine region_lit ?_
  refine seq_val (.int .i64 5) 29 rfl kj kj ?_
  refine seq_val (.int .i64 20) 30 rfl kj kj ?_
  refine seq_val (.int .i64 1) 31 rfl kj kj ?_
  refine seq_val (.int .i64 21) 32 rfl kj kj ?_
  refine seq_val (.int .u32 (wv s5.f)) 33 rfl kj kj ?_
  refine seq_val (.int .i64 1) 34 rfl kj kj ?_
  refine seq_val (.int .i64 8) 35 rfl kj kj ?_
  refine seq_val (.int .i64 16) 36 rfl kj kj ?_
  refine seq_val (.int .u32 (wv ((s5.f) >>> 16))) 37 rfl kj (run_bin .shr _ _ _ _ .u32 .i64 _ _ _ rfl kj kj (b_shr _ _ _ _ _ _ (by decide) (w_shr _ _ 16 rfl (by decide)))) ?_
  refine seq_val (.int .u8 (((s5.f.toNat / 65536 % 256 : Nat) : Int))) 38 rfl kj (run_eq (u := .int .u8 (IntKind.u8.wrap (wv ((s5.f) >>> 16)))) kj (congrArg (Value.int .u8) (w_byte s5.f 16 65536 (by decide)))) ?_
  refine seq_val (.pointer (some ⟨g6, 21, none⟩)) 39 rfl kj kj ?_
  refine seq_store g6 _ (ints .u8 ([(((s5.a.toNat / 16777216 % 256 : Nat) : Int)), (((s5.a.toNat / 65536 % 256 : Nat) : Int)), (((s5.a.toNat / 256 % 256 : Nat) : Int)), (((s5.a.toNat / 1 % 256 : Nat) : Int)), (((s5.b.toNat / 16777216 % 256 : Nat) : Int)), (((s5.b.toNat / 65536 % 256 : Nat) : Int)), (((s5.b.toNat / 256 % 256 : Nat) : Int)), (((s5.b.toNat / 1 % 256 : Nat) : Int)), (((s5.c.toNat / 16777216 % 256 : Nat) : Int)), (((s5.c.toNat / 65536 % 256 : Nat) : Int)), (((s5.c.toNat / 256 % 256 : Nat) : Int)), (((s5.c.toNat / 1 % 256 : Nat) : Int)), (((s5.d.toNat / 16777216 % 256 : Nat) : Int)), (((s5.d.toNat / 65536 % 256 : Nat) : Int)), (((s5.d.toNat / 256 % 256 : Nat) : Int)), (((s5.d.toNat / 1 % 256 : Nat) : Int)), (((s5.e.toNat / 16777216 % 256 : Nat) : Int)), (((s5.e.toNat / 65536 % 256 : Nat) : Int)), (((s5.e.toNat / 256 % 256 : Nat) : Int)), (((s5.e.toNat / 1 % 256 : Nat) : Int)), (((s5.f.toNat / 16777216 % 256 : Nat) : Int)), (((s5.f.toNat / 65536 % 256 : Nat) : Int)), 0, 0, 0, 0, 0, 0, 0, 0, 0, 0])) 26 r6_27 rfl kj (run_storeI 5 _ _ g6 21 26 _ _ r6_27 rfl kj kj kj (show 21 < 32 by decide)) fun W28 p28 r6_28 => ?_
  have x28 : Ext w W28 := Puts.ext p28 x27 b6
  refine seq_nil ?_
  refine hK141 _ _ ?_
  try clear hK141 K141
  refine region_lit ?_
  refine seq_val (.int .i64 2) 40 rfl kj kj ?_
  refine seq_val (.int .i64 2) 26 rfl kj kj ?_
  refine seq_nil ?_
  show Code.rounds _ _ _ 3 _ _
  show Code.wp _ _ (Exit.then (Code.rounds _ _ _ 2) _) _ _
  refine wp_seq_k fun K143 hK143 => ?_
  refine region_lit ?_
  refine seq_val (.bool true) 27 rfl kj kj ?_
  refine seq_nil ?_
  refine hK143 _ _ ?_
  try clear hK143 K143
  refine wp_seq_k fun K144 hK144 => ?_
  refine cond_true kj ?_
  refine wp_skip ?_
  refine hK144 _ _ ?_
  try clear hK144 K144
  refine wp_seq_k fun K145 hK145 => ?_
  refine wp_block ?_
  refine wp_seq_k fun K146 hK146 => ?_
  refine region_lit ?_
  refine seq_val (.int .i64 2) 28 rfl kj kj ?_
  refine seq_val (.int .i64 2) 7 rfl kj kj ?_
  refine seq_nil ?_
  refine hK146 _ _ ?_
  try clear hK146 K146
  refine region_lit ?_
  refine seq_val (.int .i64 5) 29 rfl kj kj ?_
  refine seq_val (.int .i64 20) 30 rfl kj kj ?_
  refine seq_val (.int .i64 2) 31 rfl kj kj ?_
  refine seq_val (.int .i64 22) 32 rfl kj kj ?_
  refine seq_val (.int .u32 (wv s5.f)) 33 rfl kj kj ?_
  refine seq_val (.int .i64 2) 34 rfl kj kj ?_
  refine seq_val (.int .i64 16) 35 rfl kj kj ?_
  refine seq_val (.int .i64 8) 36 rfl kj kj ?_
  refine seq_val (.int .u32 (wv ((s5.f) >>> 8))) 37 rfl kj (run_bin .shr _ _ _ _ .u32 .i64 _ _ _ rfl kj kj (b_shr _ _ _ _ _ _ (by decide) (w_shr _ _ 8 rfl (by decide)))) ?_
  refine seq_val (.int .u8 (((s5.f.toNat / 256 % 256 : Nat) : Int))) 38 rfl kj (run_eq (u := .int .u8 (IntKind.u8.wrap (wv ((s5.f) >>> 8)))) kj (congrArg (Value.int .u8) (w_byte s5.f 8 256 (by decide)))) ?_
  refine seq_val (.pointer (some ⟨g6, 22, none⟩)) 39 rfl kj kj ?_
  refine seq_store g6 _ (ints .u8 ([(((s5.a.toNat / 16777216 % 256 : Nat) : Int)), (((s5.a.toNat / 65536 % 256 : Nat) : Int)), (((s5.a.toNat / 256 % 256 : Nat) : Int)), (((s5.a.toNat / 1 % 256 : Nat) : Int)), (((s5.b.toNat / 16777216 % 256 : Nat) : Int)), (((s5.b.toNat / 65536 % 256 : Nat) : Int)), (((s5.b.toNat / 256 % 256 : Nat) : Int)), (((s5.b.toNat / 1 % 256 : Nat) : Int)), (((s5.c.toNat / 16777216 % 256 : Nat) : Int)), (((s5.c.toNat / 65536 % 256 : Nat) : Int)), (((s5.c.toNat / 256 % 256 : Nat) : Int)), (((s5.c.toNat / 1 % 256 : Nat) : Int)), (((s5.d.toNat / 16777216 % 256 : Nat) : Int)), (((s5.d.toNat / 65536 % 256 : Nat) : Int)), (((s5.d.toNat / 256 % 256 : Nat) : Int)), (((s5.d.toNat / 1 % 256 : Nat) : Int)), (((s5.e.toNat / 16777216 % 256 : Nat) : Int)), (((s5.e.toNat / 65536 % 256 : Nat) : Int)), (((s5.e.toNat / 256 % 256 : Nat) : Int)), (((s5.e.toNat / 1 % 256 : Nat) : Int)), (((s5.f.toNat / 16777216 % 256 : Nat) : Int)), (((s5.f.toNat / 65536 % 256 : Nat) : Int)), (((s5.f.toNat / 256 % 256 : Nat) : Int)), 0, 0, 0, 0, 0, 0, 0, 0, 0])) 26 r6_28 rfl kj (run_storeI 5 _ _ g6 22 26 _ _ r6_28 rfl kj kj kj (show 22 < 32 by decide)) fun W29 p29 r6_29 => ?_
  have x29 : Ext w W29 := Puts.ext p29 x28 b6
  refine seq_nil ?_
  refine hK145 _ _ ?_
  try clear hK145 K145
  refine region_lit ?_
  refine seq_val (.int .i64 3) 40 rfl kj kj ?_
  refine seq_val (.int .i64 3) 26 rfl kj kj ?_
  refine seq_nil ?_
  show Code.rounds _ _ _ 2 _ _
  show Code.wp _ _ (Exit.then (Code.rounds _ _ _ 1) _) _ _
  refine wp_seq_k fun K147 hK147 => ?_
  refine region_lit ?_
  refine seq_val (.bool true) 27 rfl kj kj ?_
  refine seq_nil ?_
  refine hK147 _ _ ?_
  try clear hK147 K147
  refine wp_seq_k fun K148 hK148 => ?_
  refine cond_true kj ?_
  refine wp_skip ?_
  refine hK148 _ _ ?_
  try clear hK148 K148
  refine wp_seq_k fun K149 hK149 => ?_
  refine wp_block ?_
  refine wp_seq_k fun K150 hK150 => ?_
  refine region_lit ?_
  refine seq_val (.int .i64 3) 28 rfl kj kj ?_
  refine seq_val (.int .i64 3) 7 rfl kj kj ?_
  refine seq_nil ?_
  refine hK150 _ _ ?_
  try clear hK150 K150
  refine region_lit ?_
  refine seq_val (.int .i64 5) 29 rfl kj kj ?_
  refine seq_val (.int .i64 20) 30 rfl kj kj ?_
  refine seq_val (.int .i64 3) 31 rfl kj kj ?_
  refine seq_val (.int .i64 23) 32 rfl kj kj ?_
  refine seq_val (.int .u32 (wv s5.f)) 33 rfl kj kj ?_
  refine seq_val (.int .i64 3) 34 rfl kj kj ?_
  refine seq_val (.int .i64 24) 35 rfl kj kj ?_
  refine seq_val (.int .i64 0) 36 rfl kj kj ?_
  refine seq_val (.int .u32 (wv ((s5.f) >>> 0))) 37 rfl kj (run_bin .shr _ _ _ _ .u32 .i64 _ _ _ rfl kj kj (b_shr _ _ _ _ _ _ (by decide) (w_shr _ _ 0 rfl (by decide)))) ?_
  refine seq_val (.int .u8 (((s5.f.toNat / 1 % 256 : Nat) : Int))) 38 rfl kj (run_eq (u := .int .u8 (IntKind.u8.wrap (wv ((s5.f) >>> 0)))) kj (congrArg (Value.int .u8) (w_byte s5.f 0 1 (by decide)))) ?_
  refine seq_val (.pointer (some ⟨g6, 23, none⟩)) 39 rfl kj kj ?_
  refine seq_store g6 _ (ints .u8 ([(((s5.a.toNat / 16777216 % 256 : Nat) : Int)), (((s5.a.toNat / 65536 % 256 : Nat) : Int)), (((s5.a.toNat / 256 % 256 : Nat) : Int)), (((s5.a.toNat / 1 % 256 : Nat) : Int)), (((s5.b.toNat / 16777216 % 256 : Nat) : Int)), (((s5.b.toNat / 65536 % 256 : Nat) : Int)), (((s5.b.toNat / 256 % 256 : Nat) : Int)), (((s5.b.toNat / 1 % 256 : Nat) : Int)), (((s5.c.toNat / 16777216 % 256 : Nat) : Int)), (((s5.c.toNat / 65536 % 256 : Nat) : Int)), (((s5.c.toNat / 256 % 256 : Nat) : Int)), (((s5.c.toNat / 1 % 256 : Nat) : Int)), (((s5.d.toNat / 16777216 % 256 : Nat) : Int)), (((s5.d.toNat / 65536 % 256 : Nat) : Int)), (((s5.d.toNat / 256 % 256 : Nat) : Int)), (((s5.d.toNat / 1 % 256 : Nat) : Int)), (((s5.e.toNat / 16777216 % 256 : Nat) : Int)), (((s5.e.toNat / 65536 % 256 : Nat) : Int)), (((s5.e.toNat / 256 % 256 : Nat) : Int)), (((s5.e.toNat / 1 % 256 : Nat) : Int)), (((s5.f.toNat / 16777216 % 256 : Nat) : Int)), (((s5.f.toNat / 65536 % 256 : Nat) : Int)), (((s5.f.toNat / 256 % 256 : Nat) : Int)), (((s5.f.toNat / 1 % 256 : Nat) : Int)), 0, 0, 0, 0, 0, 0, 0, 0])) 26 r6_29 rfl kj (run_storeI 5 _ _ g6 23 26 _ _ r6_29 rfl kj kj kj (show 23 < 32 by decide)) fun W30 p30 r6_30 => ?_
  have x30 : Ext w W30 := Puts.ext p30 x29 b6
  refine seq_nil ?_
  refine hK149 _ _ ?_
  try clear hK149 K149
  refine region_lit ?_
  refine seq_val (.int .i64 4) 40 rfl kj kj ?_
  refine seq_val (.int .i64 4) 26 rfl kj kj ?_
  refine seq_nil ?_
  show Code.rounds _ _ _ 1 _ _
  show Code.wp _ _ (Exit.then (Code.rounds _ _ _ 0) _) _ _
  refine wp_seq_k fun K151 hK151 => ?_
  refine region_lit ?_
  refine seq_val (.bool false) 27 rfl kj kj ?_
  refine seq_nil ?_
  refine hK151 _ _ ?_
  try clear hK151 K151
  refine wp_seq_k fun K152 hK152 => ?_
  refine cond_false kj ?_
  refine wp_exit ?_
  refine hK132 _ _ ?_
  try clear hK132 K132
  refine region_lit ?_
  refine seq_val (.int .i64 6) 41 rfl kj kj ?_
  refine seq_val (.int .i64 6) 22 rfl kj kj ?_
  refine seq_nil ?_
  show Code.rounds _ _ _ 3 _ _
  show Code.wp _ _ (Exit.then (Code.rounds _ _ _ 2) _) _ _
  refine wp_seq_k fun K153 hK153 => ?_
  refine region_lit ?_
  refine seq_val (.bool true) 23 rfl kj kj ?_
  refine seq_nil ?_
  refine hK153 _ _ ?_
  try clear hK153 K153
  refine wp_seq_k fun K154 hK154 => ?_
  refine cond_true kj ?_
  refine wp_skip ?_
  refine hK154 _ _ ?_
  try clear hK154 K154
  refine wp_seq_k fun K155 hK155 => ?_
  refine wp_block ?_
  refine wp_seq_k fun K156 hK156 => ?_
  refine region_lit ?_
  refine seq_val (.int .i64 6) 24 rfl kj kj ?_
  refine seq_val (.int .u32 (wv s5.g)) 25 rfl kj (run_index_il 88 _ _ .i64 .u32 ([wv s5.a, wv s5.b, wv s5.c, wv s5.d, wv s5.e, wv s5.f, wv s5.g, wv s5.h]) 6 8 84 (wv s5.g) rfl kj kj kj kj kj rfl (by decide) rfl) ?_
  refine seq_val (.int .i64 6) 5 rfl kj kj ?_
  refine seq_val (.int .u32 (wv s5.g)) 6 rfl kj kj ?_
  refine seq_nil ?_
  refine hK156 _ _ ?_
  try clear hK156 K156
  refine wp_seq_k fun K157 hK157 => ?_
  refine region_lit ?_
  refine seq_val (.int .i64 0) 26 rfl kj kj ?_
  refine seq_nil ?_
  refine hK157 _ _ ?_
  try clear hK157 K157
  refine wp_block ?_
  refine wp_loop_rounds 5 ?_
  show Code.wp _ _ (Exit.then (Code.rounds _ _ _ 4) _) _ _
  refine wp_seq_k fun K158 hK158 => ?_
  refine region_lit ?_
  refine seq_val (.bool true) 27 rfl kj kj ?_
  refine seq_nil ?_
  refine hK158 _ _ ?_
  try clear hK158 K158
  refine wp_seq_k fun K159 hK159 => ?_
  refine cond_true kj ?_
  refine wp_skip ?_
  refine hK159 _ _ ?_
  try clear hK159 K159
  refine wp_seq_k fun K160 hK160 => ?_
  refine wp_block ?_
  refine wp_seq_k fun K161 hK161 => ?_
  refine region_lit ?_
  refine seq_val (.int .i64 0) 28 rfl kj kj ?_
  refine seq_val (.int .i64 0) 7 rfl kj kj ?_
  refine seq_nil ?_
  refine hK161 _ _ ?_
  try clear hK161 K161
  refine region_lit ?_
  refine seq_val (.int .i64 6) 29 rfl kj kj ?_
  refine seq_val (.int .i64 24) 30 rfl kj kj ?_
  refine seq_val (.int .i64 0) 31 rfl kj kj ?_
  refine seq_val (.int .i64 24) 32 rfl kj kj ?_
  refine seq_val (.int .u32 (wv s5.g)) 33 rfl kj kj ?_
  refine seq_val (.int .i64 0) 34 rfl kj kj ?_
  refine seq_val (.int .i64 0) 35 rfl kj kj ?_
  refine seq_val (.int .i64 24) 36 rfl kj kj ?_
  refine seq_val (.int .u32 (wv ((s5.g) >>> 24))) 37 rfl kj (run_bin .shr _ _ _ _ .u32 .i64 _ _ _ rfl kj kj (b_shr _ _ _ _ _ _ (by decide) (w_shr _ _ 24 rfl (by decide)))) ?_
  refine seq_val (.int .u8 (((s5.g.toNat / 16777216 % 256 : Nat) : Int))) 38 rfl kj (run_eq (u := .int .u8 (IntKind.u8.wrap (wv ((s5.g) >>> 24)))) kj (congrArg (Value.int .u8) (w_byte s5.g 24 16777216 (by decide)))) ?_
  refine seq_val (.pointer (some ⟨g6, 24, none⟩)) 39 rfl kj kj ?_
  refine seq_store g6 _ (ints .u8 ([(((s5.a.toNat / 16777216 % 256 : Nat) : Int)), (((s5.a.toNat / 65536 % 256 : Nat) : Int)), (((s5.a.toNat / 256 % 256 : Nat) : Int)), (((s5.a.toNat / 1 % 256 : Nat) : Int)), (((s5.b.toNat / 16777216 % 256 : Nat) : Int)), (((s5.b.toNat / 65536 % 256 : Nat) : Int)), (((s5.b.toNat / 256 % 256 : Nat) : Int)), (((s5.b.toNat / 1 % 256 : Nat) : Int)), (((s5.c.toNat / 16777216 % 256 : Nat) : Int)), (((s5.c.toNat / 65536 % 256 : Nat) : Int)), (((s5.c.toNat / 256 % 256 : Nat) : Int)), (((s5.c.toNat / 1 % 256 : Nat) : Int)), (((s5.d.toNat / 16777216 % 256 : Nat) : Int)), (((s5.d.toNat / 65536 % 256 : Nat) : Int)), (((s5.d.toNat / 256 % 256 : Nat) : Int)), (((s5.d.toNat / 1 % 256 : Nat) : Int)), (((s5.e.toNat / 16777216 % 256 : Nat) : Int)), (((s5.e.toNat / 65536 % 256 : Nat) : Int)), (((s5.e.toNat / 256 % 256 : Nat) : Int)), (((s5.e.toNat / 1 % 256 : Nat) : Int)), (((s5.f.toNat / 16777216 % 256 : Nat) : Int)), (((s5.f.toNat / 65536 % 256 : Nat) : Int)), (((s5.f.toNat / 256 % 256 : Nat) : Int)), (((s5.f.toNat / 1 % 256 : Nat) : Int)), (((s5.g.toNat / 16777216 % 256 : Nat) : Int)), 0, 0, 0, 0, 0, 0, 0])) 26 r6_30 rfl kj (run_storeI 5 _ _ g6 24 26 _ _ r6_30 rfl kj kj kj (show 24 < 32 by decide)) fun W31 p31 r6_31 => ?_
  have x31 : Ext w W31 := Puts.ext p31 x30 b6
  refine seq_nil ?_
  refine hK160 _ _ ?_
  try clear hK160 K160
  refine region_lit ?_
  refine seq_val (.int .i64 1) 40 rfl kj kj ?_
  refine seq_val (.int .i64 1) 26 rfl kj kj ?_
  refine seq_nil ?_
  show Code.rounds _ _ _ 4 _ _
  show Code.wp _ _ (Exit.then (Code.rounds _ _ _ 3) _) _ _
  refine wp_seq_k fun K162 hK162 => ?_
  refine region_lit ?_
  refine seq_val (.bool true) 27 rfl kj kj ?_
  refine seq_nil ?_
  refine hK162 _ _ ?_
  try clear hK162 K162
  refine wp_seq_k fun K163 hK163 => ?_
  refine cond_true kj ?_
  refine wp_skip ?_
  refine hK163 _ _ ?_
  try clear hK163 K163
  refine wp_seq_k fun K164 hK164 => ?_
  refine wp_block ?_
  refine wp_seq_k fun K165 hK165 => ?_
  refine region_lit ?_
  refine seq_val (.int .i64 1) 28 rfl kj kj ?_
  refine seq_val (.int .i64 1) 7 rfl kj kj ?_
  refine seq_nil ?_
  refine hK165 _ _ ?_
  try clear hK165 K165
  refine region_lit ?_
  refine seq_val (.int .i64 6) 29 rfl kj kj ?_
  refine seq_val (.int .i64 24) 30 rfl kj kj ?_
  refine seq_val (.int .i64 1) 31 rfl kj kj ?_
  refine seq_val (.int .i64 25) 32 rfl kj kj ?_
  refine seq_val (.int .u32 (wv s5.g)) 33 rfl kj kj ?_
  refine seq_val (.int .i64 1) 34 rfl kj kj ?_
  refine seq_val (.int .i64 8) 35 rfl kj kj ?_
  refine seq_val (.int .i64 16) 36 rfl kj kj ?_
  refine seq_val (.int .u32 (wv ((s5.g) >>> 16))) 37 rfl kj (run_bin .shr _ _ _ _ .u32 .i64 _ _ _ rfl kj kj (b_shr _ _ _ _ _ _ (by decide) (w_shr _ _ 16 rfl (by decide)))) ?_
  refine seq_val (.int .u8 (((s5.g.toNat / 65536 % 256 : Nat) : Int))) 38 rfl kj (run_eq (u := .int .u8 (IntKind.u8.wrap (wv ((s5.g) >>> 16)))) kj (congrArg (Value.int .u8) (w_byte s5.g 16 65536 (by decide)))) ?_
  refine seq_val (.pointer (some ⟨g6, 25, none⟩)) 39 rfl kj kj ?_
  refine seq_store g6 _ (ints .u8 ([(((s5.a.toNat / 16777216 % 256 : Nat) : Int)), (((s5.a.toNat / 65536 % 256 : Nat) : Int)), (((s5.a.toNat / 256 % 256 : Nat) : Int)), (((s5.a.toNat / 1 % 256 : Nat) : Int)), (((s5.b.toNat / 16777216 % 256 : Nat) : Int)), (((s5.b.toNat / 65536 % 256 : Nat) : Int)), (((s5.b.toNat / 256 % 256 : Nat) : Int)), (((s5.b.toNat / 1 % 256 : Nat) : Int)), (((s5.c.toNat / 16777216 % 256 : Nat) : Int)), (((s5.c.toNat / 65536 % 256 : Nat) : Int)), (((s5.c.toNat / 256 % 256 : Nat) : Int)), (((s5.c.toNat / 1 % 256 : Nat) : Int)), (((s5.d.toNat / 16777216 % 256 : Nat) : Int)), (((s5.d.toNat / 65536 % 256 : Nat) : Int)), (((s5.d.toNat / 256 % 256 : Nat) : Int)), (((s5.d.toNat / 1 % 256 : Nat) : Int)), (((s5.e.toNat / 16777216 % 256 : Nat) : Int)), (((s5.e.toNat / 65536 % 256 : Nat) : Int)), (((s5.e.toNat / 256 % 256 : Nat) : Int)), (((s5.e.toNat / 1 % 256 : Nat) : Int)), (((s5.f.toNat / 16777216 % 256 : Nat) : Int)), (((s5.f.toNat / 65536 % 256 : Nat) : Int)), (((s5.f.toNat / 256 % 256 : Nat) : Int)), (((s5.f.toNat / 1 % 256 : Nat) : Int)), (((s5.g.toNat / 16777216 % 256 : Nat) : Int)), (((s5.g.toNat / 65536 % 256 : Nat) : Int)), 0, 0, 0, 0, 0, 0])) 26 r6_31 rfl kj (run_storeI 5 _ _ g6 25 26 _ _ r6_31 rfl kj kj kj (show 25 < 32 by decide)) fun W32 p32 r6_32 => ?_
  have x32 : Ext w W32 := Puts.ext p32 x31 b6
  refine seq_nil ?_
  refine hK164 _ _ ?_
  try clear hK164 K164
  refine region_lit ?_
  refine seq_val (.int .i64 2) 40 rfl kj kj ?_
  refine seq_val (.int .i64 2) 26 rfl kj kj ?_
  refine seq_nil ?_
  show Code.rounds _ _ _ 3 _ _
  show Code.wp _ _ (Exit.then (Code.rounds _ _ _ 2) _) _ _
  refine wp_seq_k fun K166 hK166 => ?_
  refine region_lit ?_
  refine seq_val (.bool true) 27 rfl kj kj ?_
  refine seq_nil ?_
  refine hK166 _ _ ?_
  try clear hK166 K166
  refine wp_seq_k fun K167 hK167 => ?_
  refine cond_true kj ?_
  refine wp_skip ?_
  refine hK167 _ _ ?_
  try clear hK167 K167
  refine wp_seq_k fun K168 hK168 => ?_
  refine wp_block ?_
  refine wp_seq_k fun K169 hK169 => ?_
  refine region_lit ?_
  refine seq_val (.int .i64 2) 28 rfl kj kj ?_
  refine seq_val (.int .i64 2) 7 rfl kj kj ?_
  refine seq_nil ?_
  refine hK169 _ _ ?_
  try clear hK169 K169
  refine region_lit ?_
  refine seq_val (.int .i64 6) 29 rfl kj kj ?_
  refine seq_val (.int .i64 24) 30 rfl kj kj ?_
  refine seq_val (.int .i64 2) 31 rfl kj kj ?_
  refine seq_val (.int .i64 26) 32 rfl kj kj ?_
  refine seq_val (.int .u32 (wv s5.g)) 33 rfl kj kj ?_
  refine seq_val (.int .i64 2) 34 rfl kj kj ?_
  refine seq_val (.int .i64 16) 35 rfl kj kj ?_
  refine seq_val (.int .i64 8) 36 rfl kj kj ?_
  refine seq_val (.int .u32 (wv ((s5.g) >>> 8))) 37 rfl kj (run_bin .shr _ _ _ _ .u32 .i64 _ _ _ rfl kj kj (b_shr _ _ _ _ _ _ (by decide) (w_shr _ _ 8 rfl (by decide)))) ?_
  refine seq_val (.int .u8 (((s5.g.toNat / 256 % 256 : Nat) : Int))) 38 rfl kj (run_eq (u := .int .u8 (IntKind.u8.wrap (wv ((s5.g) >>> 8)))) kj (congrArg (Value.int .u8) (w_byte s5.g 8 256 (by decide)))) ?_
  refine seq_val (.pointer (some ⟨g6, 26, none⟩)) 39 rfl kj kj ?_
  refine seq_store g6 _ (ints .u8 ([(((s5.a.toNat / 16777216 % 256 : Nat) : Int)), (((s5.a.toNat / 65536 % 256 : Nat) : Int)), (((s5.a.toNat / 256 % 256 : Nat) : Int)), (((s5.a.toNat / 1 % 256 : Nat) : Int)), (((s5.b.toNat / 16777216 % 256 : Nat) : Int)), (((s5.b.toNat / 65536 % 256 : Nat) : Int)), (((s5.b.toNat / 256 % 256 : Nat) : Int)), (((s5.b.toNat / 1 % 256 : Nat) : Int)), (((s5.c.toNat / 16777216 % 256 : Nat) : Int)), (((s5.c.toNat / 65536 % 256 : Nat) : Int)), (((s5.c.toNat / 256 % 256 : Nat) : Int)), (((s5.c.toNat / 1 % 256 : Nat) : Int)), (((s5.d.toNat / 16777216 % 256 : Nat) : Int)), (((s5.d.toNat / 65536 % 256 : Nat) : Int)), (((s5.d.toNat / 256 % 256 : Nat) : Int)), (((s5.d.toNat / 1 % 256 : Nat) : Int)), (((s5.e.toNat / 16777216 % 256 : Nat) : Int)), (((s5.e.toNat / 65536 % 256 : Nat) : Int)), (((s5.e.toNat / 256 % 256 : Nat) : Int)), (((s5.e.toNat / 1 % 256 : Nat) : Int)), (((s5.f.toNat / 16777216 % 256 : Nat) : Int)), (((s5.f.toNat / 65536 % 256 : Nat) : Int)), (((s5.f.toNat / 256 % 256 : Nat) : Int)), (((s5.f.toNat / 1 % 256 : Nat) : Int)), (((s5.g.toNat / 16777216 % 256 : Nat) : Int)), (((s5.g.toNat / 65536 % 256 : Nat) : Int)), (((s5.g.toNat / 256 % 256 : Nat) : Int)), 0, 0, 0, 0, 0])) 26 r6_32 rfl kj (run_storeI 5 _ _ g6 26 26 _ _ r6_32 rfl kj kj kj (show 26 < 32 by decide)) fun W33 p33 r6_33 => ?_
  have x33 : Ext w W33 := Puts.ext p33 x32 b6
  refine seq_nil ?_
  refine hK168 _ _ ?_
  try clear hK168 K168
  refine region_lit ?_
  refine seq_val (.int .i64 3) 40 rfl kj kj ?_
  refine seq_val (.int .i64 3) 26 rfl kj kj ?_
  refine seq_nil ?_
  show Code.rounds _ _ _ 2 _ _
  show Code.wp _ _ (Exit.then (Code.rounds _ _ _ 1) _) _ _
  refine wp_seq_k fun K170 hK170 => ?_
  refine region_lit ?_
  refine seq_val (.bool true) 27 rfl kj kj ?_
  refine seq_nil ?_
  refine hK170 _ _ ?_
  try clear hK170 K170
  refine wp_seq_k fun K171 hK171 => ?_
  refine cond_true kj ?_
  refine wp_skip ?_
  refine hK171 _ _ ?_
  try clear hK171 K171
  refine wp_seq_k fun K172 hK172 => ?_
  refine wp_block ?_
  refine wp_seq_k fun K173 hK173 => ?_
  refine region_lit ?_
  refine seq_val (.int .i64 3) 28 rfl kj kj ?_
  refine seq_val (.int .i64 3) 7 rfl kj kj ?_
  refine seq_nil ?_
  refine hK173 _ _ ?_
  try clear hK173 K173
  refine region_lit ?_
  refine seq_val (.int .i64 6) 29 rfl kj kj ?_
  refine seq_val (.int .i64 24) 30 rfl kj kj ?_
  refine seq_val (.int .i64 3) 31 rfl kj kj ?_
  refine seq_val (.int .i64 27) 32 rfl kj kj ?_
  refine seq_val (.int .u32 (wv s5.g)) 33 rfl kj kj ?_
  refine seq_val (.int .i64 3) 34 rfl kj kj ?_
  refine seq_val (.int .i64 24) 35 rfl kj kj ?_
  refine seq_val (.int .i64 0) 36 rfl kj kj ?_
  refine seq_val (.int .u32 (wv ((s5.g) >>> 0))) 37 rfl kj (run_bin .shr _ _ _ _ .u32 .i64 _ _ _ rfl kj kj (b_shr _ _ _ _ _ _ (by decide) (w_shr _ _ 0 rfl (by decide)))) ?_
  refine seq_val (.int .u8 (((s5.g.toNat / 1 % 256 : Nat) : Int))) 38 rfl kj (run_eq (u := .int .u8 (IntKind.u8.wrap (wv ((s5.g) >>> 0)))) kj (congrArg (Value.int .u8) (w_byte s5.g 0 1 (by decide)))) ?_
  refine seq_val (.pointer (some ⟨g6, 27, none⟩)) 39 rfl kj kj ?_
  refine seq_store g6 _ (ints .u8 ([(((s5.a.toNat / 16777216 % 256 : Nat) : Int)), (((s5.a.toNat / 65536 % 256 : Nat) : Int)), (((s5.a.toNat / 256 % 256 : Nat) : Int)), (((s5.a.toNat / 1 % 256 : Nat) : Int)), (((s5.b.toNat / 16777216 % 256 : Nat) : Int)), (((s5.b.toNat / 65536 % 256 : Nat) : Int)), (((s5.b.toNat / 256 % 256 : Nat) : Int)), (((s5.b.toNat / 1 % 256 : Nat) : Int)), (((s5.c.toNat / 16777216 % 256 : Nat) : Int)), (((s5.c.toNat / 65536 % 256 : Nat) : Int)), (((s5.c.toNat / 256 % 256 : Nat) : Int)), (((s5.c.toNat / 1 % 256 : Nat) : Int)), (((s5.d.toNat / 16777216 % 256 : Nat) : Int)), (((s5.d.toNat / 65536 % 256 : Nat) : Int)), (((s5.d.toNat / 256 % 256 : Nat) : Int)), (((s5.d.toNat / 1 % 256 : Nat) : Int)), (((s5.e.toNat / 16777216 % 256 : Nat) : Int)), (((s5.e.toNat / 65536 % 256 : Nat) : Int)), (((s5.e.toNat / 256 % 256 : Nat) : Int)), (((s5.e.toNat / 1 % 256 : Nat) : Int)), (((s5.f.toNat / 16777216 % 256 : Nat) : Int)), (((s5.f.toNat / 65536 % 256 : Nat) : Int)), (((s5.f.toNat / 256 % 256 : Nat) : Int)), (((s5.f.toNat / 1 % 256 : Nat) : Int)), (((s5.g.toNat / 16777216 % 256 : Nat) : Int)), (((s5.g.toNat / 65536 % 256 : Nat) : Int)), (((s5.g.toNat / 256 % 256 : Nat) : Int)), (((s5.g.toNat / 1 % 256 : Nat) : Int)), 0, 0, 0, 0])) 26 r6_33 rfl kj (run_storeI 5 _ _ g6 27 26 _ _ r6_33 rfl kj kj kj (show 27 < 32 by decide)) fun W34 p34 r6_34 => ?_
  have x34 : Ext w W34 := Puts.ext p34 x33 b6
  refine seq_nil ?_
  refine hK172 _ _ ?_
  try clear hK172 K172
  refine region_lit ?_
  refine seq_val (.int .i64 4) 40 rfl kj kj ?_
  refine seq_val (.int .i64 4) 26 rfl kj kj ?_
  refine seq_nil ?_
  show Code.rounds _ _ _ 1 _ _
  show Code.wp _ _ (Exit.then (Code.rounds _ _ _ 0) _) _ _
  refine wp_seq_k fun K174 hK174 => ?_
  refine region_lit ?_
  refine seq_val (.bool false) 27 rfl kj kj ?_
  refine seq_nil ?_
  refine hK174 _ _ ?_
  try clear hK174 K174
  refine wp_seq_k fun K175 hK175 => ?_
  refine cond_false kj ?_
  refine wp_exit ?_
  refine hK155 _ _ ?_
  try clear hK155 K155
  refine region_lit ?_
  refine seq_val (.int .i64 7) 41 rfl kj kj ?_
  refine seq_val (.int .i64 7) 22 rfl kj kj ?_
  refine seq_nil ?_
  show Code.rounds _ _ _ 2 _ _
  show Code.wp _ _ (Exit.then (Code.rounds _ _ _ 1) _) _ _
  refine wp_seq_k fun K176 hK176 => ?_
  refine region_lit ?_
  refine seq_val (.bool true) 23 rfl kj kj ?_
  refine seq_nil ?_
  refine hK176 _ _ ?_
  try clear hK176 K176
  refine wp_seq_k fun K177 hK177 => ?_
  refine cond_true kj ?_
  refine wp_skip ?_
  refine hK177 _ _ ?_
  try clear hK177 K177
  refine wp_seq_k fun K178 hK178 => ?_
  refine wp_block ?_
  refine wp_seq_k fun K179 hK179 => ?_
  refine region_lit ?_
  refine seq_val (.int .i64 7) 24 rfl kj kj ?_
  refine seq_val (.int .u32 (wv s5.h)) 25 rfl kj (run_index_il 88 _ _ .i64 .u32 ([wv s5.a, wv s5.b, wv s5.c, wv s5.d, wv s5.e, wv s5.f, wv s5.g, wv s5.h]) 7 8 84 (wv s5.h) rfl kj kj kj kj kj rfl (by decide) rfl) ?_
  refine seq_val (.int .i64 7) 5 rfl kj kj ?_
  refine seq_val (.int .u32 (wv s5.h)) 6 rfl kj kj ?_
  refine seq_nil ?_
  refine hK179 _ _ ?_
  try clear hK179 K179
  refine wp_seq_k fun K180 hK180 => ?_
  refine region_lit ?_
  refine seq_val (.int .i64 0) 26 rfl kj kj ?_
  refine seq_nil ?_
  refine hK180 _ _ ?_
  try clear hK180 K180
  refine wp_block ?_
  refine wp_loop_rounds 5 ?_
  show Code.wp _ _ (Exit.then (Code.rounds _ _ _ 4) _) _ _
  refine wp_seq_k fun K181 hK181 => ?_
  refine region_lit ?_
  refine seq_val (.bool true) 27 rfl kj kj ?_
  refine seq_nil ?_
  refine hK181 _ _ ?_
  try clear hK181 K181
  refine wp_seq_k fun K182 hK182 => ?_
  refine cond_true kj ?_
  refine wp_skip ?_
  refine hK182 _ _ ?_
  try clear hK182 K182
  refine wp_seq_k fun K183 hK183 => ?_
  refine wp_block ?_
  refine wp_seq_k fun K184 hK184 => ?_
  refine region_lit ?_
  refine seq_val (.int .i64 0) 28 rfl kj kj ?_
  refine seq_val (.int .i64 0) 7 rfl kj kj ?_
  refine seq_nil ?_
  refine hK184 _ _ ?_
  try clear hK184 K184
  refine region_lit ?_
  refine seq_val (.int .i64 7) 29 rfl kj kj ?_
  refine seq_val (.int .i64 28) 30 rfl kj kj ?_
  refine seq_val (.int .i64 0) 31 rfl kj kj ?_
  refine seq_val (.int .i64 28) 32 rfl kj kj ?_
  refine seq_val (.int .u32 (wv s5.h)) 33 rfl kj kj ?_
  refine seq_val (.int .i64 0) 34 rfl kj kj ?_
  refine seq_val (.int .i64 0) 35 rfl kj kj ?_
  refine seq_val (.int .i64 24) 36 rfl kj kj ?_
  refine seq_val (.int .u32 (wv ((s5.h) >>> 24))) 37 rfl kj (run_bin .shr _ _ _ _ .u32 .i64 _ _ _ rfl kj kj (b_shr _ _ _ _ _ _ (by decide) (w_shr _ _ 24 rfl (by decide)))) ?_
  refine seq_val (.int .u8 (((s5.h.toNat / 16777216 % 256 : Nat) : Int))) 38 rfl kj (run_eq (u := .int .u8 (IntKind.u8.wrap (wv ((s5.h) >>> 24)))) kj (congrArg (Value.int .u8) (w_byte s5.h 24 16777216 (by decide)))) ?_
  refine seq_val (.pointer (some ⟨g6, 28, none⟩)) 39 rfl kj kj ?_
  refine seq_store g6 _ (ints .u8 ([(((s5.a.toNat / 16777216 % 256 : Nat) : Int)), (((s5.a.toNat / 65536 % 256 : Nat) : Int)), (((s5.a.toNat / 256 % 256 : Nat) : Int)), (((s5.a.toNat / 1 % 256 : Nat) : Int)), (((s5.b.toNat / 16777216 % 256 : Nat) : Int)), (((s5.b.toNat / 65536 % 256 : Nat) : Int)), (((s5.b.toNat / 256 % 256 : Nat) : Int)), (((s5.b.toNat / 1 % 256 : Nat) : Int)), (((s5.c.toNat / 16777216 % 256 : Nat) : Int)), (((s5.c.toNat / 65536 % 256 : Nat) : Int)), (((s5.c.toNat / 256 % 256 : Nat) : Int)), (((s5.c.toNat / 1 % 256 : Nat) : Int)), (((s5.d.toNat / 16777216 % 256 : Nat) : Int)), (((s5.d.toNat / 65536 % 256 : Nat) : Int)), (((s5.d.toNat / 256 % 256 : Nat) : Int)), (((s5.d.toNat / 1 % 256 : Nat) : Int)), (((s5.e.toNat / 16777216 % 256 : Nat) : Int)), (((s5.e.toNat / 65536 % 256 : Nat) : Int)), (((s5.e.toNat / 256 % 256 : Nat) : Int)), (((s5.e.toNat / 1 % 256 : Nat) : Int)), (((s5.f.toNat / 16777216 % 256 : Nat) : Int)), (((s5.f.toNat / 65536 % 256 : Nat) : Int)), (((s5.f.toNat / 256 % 256 : Nat) : Int)), (((s5.f.toNat / 1 % 256 : Nat) : Int)), (((s5.g.toNat / 16777216 % 256 : Nat) : Int)), (((s5.g.toNat / 65536 % 256 : Nat) : Int)), (((s5.g.toNat / 256 % 256 : Nat) : Int)), (((s5.g.toNat / 1 % 256 : Nat) : Int)), (((s5.h.toNat / 16777216 % 256 : Nat) : Int)), 0, 0, 0])) 26 r6_34 rfl kj (run_storeI 5 _ _ g6 28 26 _ _ r6_34 rfl kj kj kj (show 28 < 32 by decide)) fun W35 p35 r6_35 => ?_
  have x35 : Ext w W35 := Puts.ext p35 x34 b6
  refine seq_nil ?_
  refine hK183 _ _ ?_
  try clear hK183 K183
  refine region_lit ?_
  refine seq_val (.int .i64 1) 40 rfl kj kj ?_
  refine seq_val (.int .i64 1) 26 rfl kj kj ?_
  refine seq_nil ?_
  show Code.rounds _ _ _ 4 _ _
  show Code.wp _ _ (Exit.then (Code.rounds _ _ _ 3) _) _ _
  refine wp_seq_k fun K185 hK185 => ?_
  refine region_lit ?_
  refine seq_val (.bool true) 27 rfl kj kj ?_
  refine seq_nil ?_
  refine hK185 _ _ ?_
  try clear hK185 K185
  refine wp_seq_k fun K186 hK186 => ?_
  refine cond_true kj ?_
  refine wp_skip ?_
  refine hK186 _ _ ?_
  try clear hK186 K186
  refine wp_seq_k fun K187 hK187 => ?_
  refine wp_block ?_
  refine wp_seq_k fun K188 hK188 => ?_
  refine region_lit ?_
  refine seq_val (.int .i64 1) 28 rfl kj kj ?_
  refine seq_val (.int .i64 1) 7 rfl kj kj ?_
  refine seq_nil ?_
  refine hK188 _ _ ?_
  try clear hK188 K188
  refine region_lit ?_
  refine seq_val (.int .i64 7) 29 rfl kj kj ?_
  refine seq_val (.int .i64 28) 30 rfl kj kj ?_
  refine seq_val (.int .i64 1) 31 rfl kj kj ?_
  refine seq_val (.int .i64 29) 32 rfl kj kj ?_
  refine seq_val (.int .u32 (wv s5.h)) 33 rfl kj kj ?_
  refine seq_val (.int .i64 1) 34 rfl kj kj ?_
  refine seq_val (.int .i64 8) 35 rfl kj kj ?_
  refine seq_val (.int .i64 16) 36 rfl kj kj ?_
  refine seq_val (.int .u32 (wv ((s5.h) >>> 16))) 37 rfl kj (run_bin .shr _ _ _ _ .u32 .i64 _ _ _ rfl kj kj (b_shr _ _ _ _ _ _ (by decide) (w_shr _ _ 16 rfl (by decide)))) ?_
  refine seq_val (.int .u8 (((s5.h.toNat / 65536 % 256 : Nat) : Int))) 38 rfl kj (run_eq (u := .int .u8 (IntKind.u8.wrap (wv ((s5.h) >>> 16)))) kj (congrArg (Value.int .u8) (w_byte s5.h 16 65536 (by decide)))) ?_
  refine seq_val (.pointer (some ⟨g6, 29, none⟩)) 39 rfl kj kj ?_
  refine seq_store g6 _ (ints .u8 ([(((s5.a.toNat / 16777216 % 256 : Nat) : Int)), (((s5.a.toNat / 65536 % 256 : Nat) : Int)), (((s5.a.toNat / 256 % 256 : Nat) : Int)), (((s5.a.toNat / 1 % 256 : Nat) : Int)), (((s5.b.toNat / 16777216 % 256 : Nat) : Int)), (((s5.b.toNat / 65536 % 256 : Nat) : Int)), (((s5.b.toNat / 256 % 256 : Nat) : Int)), (((s5.b.toNat / 1 % 256 : Nat) : Int)), (((s5.c.toNat / 16777216 % 256 : Nat) : Int)), (((s5.c.toNat / 65536 % 256 : Nat) : Int)), (((s5.c.toNat / 256 % 256 : Nat) : Int)), (((s5.c.toNat / 1 % 256 : Nat) : Int)), (((s5.d.toNat / 16777216 % 256 : Nat) : Int)), (((s5.d.toNat / 65536 % 256 : Nat) : Int)), (((s5.d.toNat / 256 % 256 : Nat) : Int)), (((s5.d.toNat / 1 % 256 : Nat) : Int)), (((s5.e.toNat / 16777216 % 256 : Nat) : Int)), (((s5.e.toNat / 65536 % 256 : Nat) : Int)), (((s5.e.toNat / 256 % 256 : Nat) : Int)), (((s5.e.toNat / 1 % 256 : Nat) : Int)), (((s5.f.toNat / 16777216 % 256 : Nat) : Int)), (((s5.f.toNat / 65536 % 256 : Nat) : Int)), (((s5.f.toNat / 256 % 256 : Nat) : Int)), (((s5.f.toNat / 1 % 256 : Nat) : Int)), (((s5.g.toNat / 16777216 % 256 : Nat) : Int)), (((s5.g.toNat / 65536 % 256 : Nat) : Int)), (((s5.g.toNat / 256 % 256 : Nat) : Int)), (((s5.g.toNat / 1 % 256 : Nat) : Int)), (((s5.h.toNat / 16777216 % 256 : Nat) : Int)), (((s5.h.toNat / 65536 % 256 : Nat) : Int)), 0, 0])) 26 r6_35 rfl kj (run_storeI 5 _ _ g6 29 26 _ _ r6_35 rfl kj kj kj (show 29 < 32 by decide)) fun W36 p36 r6_36 => ?_
  have x36 : Ext w W36 := Puts.ext p36 x35 b6
  refine seq_nil ?_
  refine hK187 _ _ ?_
  try clear hK187 K187
  refine region_lit ?_
  refine seq_val (.int .i64 2) 40 rfl kj kj ?_
  refine seq_val (.int .i64 2) 26 rfl kj kj ?_
  refine seq_nil ?_
  show Code.rounds _ _ _ 3 _ _
  show Code.wp _ _ (Exit.then (Code.rounds _ _ _ 2) _) _ _
  refine wp_seq_k fun K189 hK189 => ?_
  refine region_lit ?_
  refine seq_val (.bool true) 27 rfl kj kj ?_
  refine seq_nil ?_
  refine hK189 _ _ ?_
  try clear hK189 K189
  refine wp_seq_k fun K190 hK190 => ?_
  refine cond_true kj ?_
  refine wp_skip ?_
  refine hK190 _ _ ?_
  try clear hK190 K190
  refine wp_seq_k fun K191 hK191 => ?_
  refine wp_block ?_
  refine wp_seq_k fun K192 hK192 => ?_
  refine region_lit ?_
  refine seq_val (.int .i64 2) 28 rfl kj kj ?_
  refine seq_val (.int .i64 2) 7 rfl kj kj ?_
  refine seq_nil ?_
  refine hK192 _ _ ?_
  try clear hK192 K192
  refine region_lit ?_
  refine seq_val (.int .i64 7) 29 rfl kj kj ?_
  refine seq_val (.int .i64 28) 30 rfl kj kj ?_
  refine seq_val (.int .i64 2) 31 rfl kj kj ?_
  refine seq_val (.int .i64 30) 32 rfl kj kj ?_
  refine seq_val (.int .u32 (wv s5.h)) 33 rfl kj kj ?_
  refine seq_val (.int .i64 2) 34 rfl kj kj ?_
  refine seq_val (.int .i64 16) 35 rfl kj kj ?_
  refine seq_val (.int .i64 8) 36 rfl kj kj ?_
  refine seq_val (.int .u32 (wv ((s5.h) >>> 8))) 37 rfl kj (run_bin .shr _ _ _ _ .u32 .i64 _ _ _ rfl kj kj (b_shr _ _ _ _ _ _ (by decide) (w_shr _ _ 8 rfl (by decide)))) ?_
  refine seq_val (.int .u8 (((s5.h.toNat / 256 % 256 : Nat) : Int))) 38 rfl kj (run_eq (u := .int .u8 (IntKind.u8.wrap (wv ((s5.h) >>> 8)))) kj (congrArg (Value.int .u8) (w_byte s5.h 8 256 (by decide)))) ?_
  refine seq_val (.pointer (some ⟨g6, 30, none⟩)) 39 rfl kj kj ?_
  refine seq_store g6 _ (ints .u8 ([(((s5.a.toNat / 16777216 % 256 : Nat) : Int)), (((s5.a.toNat / 65536 % 256 : Nat) : Int)), (((s5.a.toNat / 256 % 256 : Nat) : Int)), (((s5.a.toNat / 1 % 256 : Nat) : Int)), (((s5.b.toNat / 16777216 % 256 : Nat) : Int)), (((s5.b.toNat / 65536 % 256 : Nat) : Int)), (((s5.b.toNat / 256 % 256 : Nat) : Int)), (((s5.b.toNat / 1 % 256 : Nat) : Int)), (((s5.c.toNat / 16777216 % 256 : Nat) : Int)), (((s5.c.toNat / 65536 % 256 : Nat) : Int)), (((s5.c.toNat / 256 % 256 : Nat) : Int)), (((s5.c.toNat / 1 % 256 : Nat) : Int)), (((s5.d.toNat / 16777216 % 256 : Nat) : Int)), (((s5.d.toNat / 65536 % 256 : Nat) : Int)), (((s5.d.toNat / 256 % 256 : Nat) : Int)), (((s5.d.toNat / 1 % 256 : Nat) : Int)), (((s5.e.toNat / 16777216 % 256 : Nat) : Int)), (((s5.e.toNat / 65536 % 256 : Nat) : Int)), (((s5.e.toNat / 256 % 256 : Nat) : Int)), (((s5.e.toNat / 1 % 256 : Nat) : Int)), (((s5.f.toNat / 16777216 % 256 : Nat) : Int)), (((s5.f.toNat / 65536 % 256 : Nat) : Int)), (((s5.f.toNat / 256 % 256 : Nat) : Int)), (((s5.f.toNat / 1 % 256 : Nat) : Int)), (((s5.g.toNat / 16777216 % 256 : Nat) : Int)), (((s5.g.toNat / 65536 % 256 : Nat) : Int)), (((s5.g.toNat / 256 % 256 : Nat) : Int)), (((s5.g.toNat / 1 % 256 : Nat) : Int)), (((s5.h.toNat / 16777216 % 256 : Nat) : Int)), (((s5.h.toNat / 65536 % 256 : Nat) : Int)), (((s5.h.toNat / 256 % 256 : Nat) : Int)), 0])) 26 r6_36 rfl kj (run_storeI 5 _ _ g6 30 26 _ _ r6_36 rfl kj kj kj (show 30 < 32 by decide)) fun W37 p37 r6_37 => ?_
  have x37 : Ext w W37 := Puts.ext p37 x36 b6
  refine seq_nil ?_
  refine hK191 _ _ ?_
  try clear hK191 K191
  refine region_lit ?_
  refine seq_val (.int .i64 3) 40 rfl kj kj ?_
  refine seq_val (.int .i64 3) 26 rfl kj kj ?_
  refine seq_nil ?_
  show Code.rounds _ _ _ 2 _ _
  show Code.wp _ _ (Exit.then (Code.rounds _ _ _ 1) _) _ _
  refine wp_seq_k fun K193 hK193 => ?_
  refine region_lit ?_
  refine seq_val (.bool true) 27 rfl kj kj ?_
  refine seq_nil ?_
  refine hK193 _ _ ?_
  try clear hK193 K193
  refine wp_seq_k fun K194 hK194 => ?_
  refine cond_true kj ?_
  refine wp_skip ?_
  refine hK194 _ _ ?_
  try clear hK194 K194
  refine wp_seq_k fun K195 hK195 => ?_
  refine wp_block ?_
  refine wp_seq_k fun K196 hK196 => ?_
  refine region_lit ?_
  refine seq_val (.int .i64 3) 28 rfl kj kj ?_
  refine seq_val (.int .i64 3) 7 rfl kj kj ?_
  refine seq_nil ?_
  refine hK196 _ _ ?_
  try clear hK196 K196
  refine region_lit ?_
  refine seq_val (.int .i64 7) 29 rfl kj kj ?_
  refine seq_val (.int .i64 28) 30 rfl kj kj ?_
  refine seq_val (.int .i64 3) 31 rfl kj kj ?_
  refine seq_val (.int .i64 31) 32 rfl kj kj ?_
  refine seq_val (.int .u32 (wv s5.h)) 33 rfl kj kj ?_
  refine seq_val (.int .i64 3) 34 rfl kj kj ?_
  refine seq_val (.int .i64 24) 35 rfl kj kj ?_
  refine seq_val (.int .i64 0) 36 rfl kj kj ?_
  refine seq_val (.int .u32 (wv ((s5.h) >>> 0))) 37 rfl kj (run_bin .shr _ _ _ _ .u32 .i64 _ _ _ rfl kj kj (b_shr _ _ _ _ _ _ (by decide) (w_shr _ _ 0 rfl (by decide)))) ?_
  refine seq_val (.int .u8 (((s5.h.toNat / 1 % 256 : Nat) : Int))) 38 rfl kj (run_eq (u := .int .u8 (IntKind.u8.wrap (wv ((s5.h) >>> 0)))) kj (congrArg (Value.int .u8) (w_byte s5.h 0 1 (by decide)))) ?_
  refine seq_val (.pointer (some ⟨g6, 31, none⟩)) 39 rfl kj kj ?_
  refine seq_store g6 _ (ints .u8 ([(((s5.a.toNat / 16777216 % 256 : Nat) : Int)), (((s5.a.toNat / 65536 % 256 : Nat) : Int)), (((s5.a.toNat / 256 % 256 : Nat) : Int)), (((s5.a.toNat / 1 % 256 : Nat) : Int)), (((s5.b.toNat / 16777216 % 256 : Nat) : Int)), (((s5.b.toNat / 65536 % 256 : Nat) : Int)), (((s5.b.toNat / 256 % 256 : Nat) : Int)), (((s5.b.toNat / 1 % 256 : Nat) : Int)), (((s5.c.toNat / 16777216 % 256 : Nat) : Int)), (((s5.c.toNat / 65536 % 256 : Nat) : Int)), (((s5.c.toNat / 256 % 256 : Nat) : Int)), (((s5.c.toNat / 1 % 256 : Nat) : Int)), (((s5.d.toNat / 16777216 % 256 : Nat) : Int)), (((s5.d.toNat / 65536 % 256 : Nat) : Int)), (((s5.d.toNat / 256 % 256 : Nat) : Int)), (((s5.d.toNat / 1 % 256 : Nat) : Int)), (((s5.e.toNat / 16777216 % 256 : Nat) : Int)), (((s5.e.toNat / 65536 % 256 : Nat) : Int)), (((s5.e.toNat / 256 % 256 : Nat) : Int)), (((s5.e.toNat / 1 % 256 : Nat) : Int)), (((s5.f.toNat / 16777216 % 256 : Nat) : Int)), (((s5.f.toNat / 65536 % 256 : Nat) : Int)), (((s5.f.toNat / 256 % 256 : Nat) : Int)), (((s5.f.toNat / 1 % 256 : Nat) : Int)), (((s5.g.toNat / 16777216 % 256 : Nat) : Int)), (((s5.g.toNat / 65536 % 256 : Nat) : Int)), (((s5.g.toNat / 256 % 256 : Nat) : Int)), (((s5.g.toNat / 1 % 256 : Nat) : Int)), (((s5.h.toNat / 16777216 % 256 : Nat) : Int)), (((s5.h.toNat / 65536 % 256 : Nat) : Int)), (((s5.h.toNat / 256 % 256 : Nat) : Int)), (((s5.h.toNat / 1 % 256 : Nat) : Int))])) 26 r6_37 rfl kj (run_storeI 5 _ _ g6 31 26 _ _ r6_37 rfl kj kj kj (show 31 < 32 by decide)) fun W38 p38 r6_38 => ?_
  have x38 : Ext w W38 := Puts.ext p38 x37 b6
  refine seq_nil ?_
  refine hK195 _ _ ?_
  try clear hK195 K195
  refine region_lit ?_
  refine seq_val (.int .i64 4) 40 rfl kj kj ?_
  refine seq_val (.int .i64 4) 26 rfl kj kj ?_
  refine seq_nil ?_
  show Code.rounds _ _ _ 1 _ _
  show Code.wp _ _ (Exit.then (Code.rounds _ _ _ 0) _) _ _
  refine wp_seq_k fun K197 hK197 => ?_
  refine region_lit ?_
  refine seq_val (.bool false) 27 rfl kj kj ?_
  refine seq_nil ?_
  refine hK197 _ _ ?_
  try clear hK197 K197
  refine wp_seq_k fun K198 hK198 => ?_
  refine cond_false kj ?_
  refine wp_exit ?_
  refine hK178 _ _ ?_
  try clear hK178 K178
  refine region_lit ?_
  refine seq_val (.int .i64 8) 41 rfl kj kj ?_
  refine seq_val (.int .i64 8) 22 rfl kj kj ?_
  refine seq_nil ?_
  show Code.rounds _ _ _ 1 _ _
  show Code.wp _ _ (Exit.then (Code.rounds _ _ _ 0) _) _ _
  refine wp_seq_k fun K199 hK199 => ?_
  refine region_lit ?_
  refine seq_val (.bool false) 23 rfl kj kj ?_
  refine seq_nil ?_
  refine hK199 _ _ ?_
  try clear hK199 K199
  refine wp_seq_k fun K200 hK200 => ?_
  refine cond_false kj ?_
  refine wp_exit ?_
  refine hK13 _ _ ?_
  try clear hK13 K13
  refine wp_seq_k fun K201 hK201 => ?_
  refine region_lit ?_
  refine seq_val (.agg (ints .u8 ([(((s5.a.toNat / 16777216 % 256 : Nat) : Int)), (((s5.a.toNat / 65536 % 256 : Nat) : Int)), (((s5.a.toNat / 256 % 256 : Nat) : Int)), (((s5.a.toNat / 1 % 256 : Nat) : Int)), (((s5.b.toNat / 16777216 % 256 : Nat) : Int)), (((s5.b.toNat / 65536 % 256 : Nat) : Int)), (((s5.b.toNat / 256 % 256 : Nat) : Int)), (((s5.b.toNat / 1 % 256 : Nat) : Int)), (((s5.c.toNat / 16777216 % 256 : Nat) : Int)), (((s5.c.toNat / 65536 % 256 : Nat) : Int)), (((s5.c.toNat / 256 % 256 : Nat) : Int)), (((s5.c.toNat / 1 % 256 : Nat) : Int)), (((s5.d.toNat / 16777216 % 256 : Nat) : Int)), (((s5.d.toNat / 65536 % 256 : Nat) : Int)), (((s5.d.toNat / 256 % 256 : Nat) : Int)), (((s5.d.toNat / 1 % 256 : Nat) : Int)), (((s5.e.toNat / 16777216 % 256 : Nat) : Int)), (((s5.e.toNat / 65536 % 256 : Nat) : Int)), (((s5.e.toNat / 256 % 256 : Nat) : Int)), (((s5.e.toNat / 1 % 256 : Nat) : Int)), (((s5.f.toNat / 16777216 % 256 : Nat) : Int)), (((s5.f.toNat / 65536 % 256 : Nat) : Int)), (((s5.f.toNat / 256 % 256 : Nat) : Int)), (((s5.f.toNat / 1 % 256 : Nat) : Int)), (((s5.g.toNat / 16777216 % 256 : Nat) : Int)), (((s5.g.toNat / 65536 % 256 : Nat) : Int)), (((s5.g.toNat / 256 % 256 : Nat) : Int)), (((s5.g.toNat / 1 % 256 : Nat) : Int)), (((s5.h.toNat / 16777216 % 256 : Nat) : Int)), (((s5.h.toNat / 65536 % 256 : Nat) : Int)), (((s5.h.toNat / 256 % 256 : Nat) : Int)), (((s5.h.toNat / 1 % 256 : Nat) : Int))]))) 42 rfl kj (run_load_row 26 _ g6 26 _ _ r6_38 rfl kj kj (isz (n := 32) kj kj)) ?_
  have r4_2 := (row_ext r4_1 e2)
  have r4_3 := (row_ext r4_2 e3)
  have r4_4 := (Puts.row p4 r4_3 (ne_of_old r4_2 l10))
  have r4_5 := (row_ext r4_4 e5)
  have r4_6 := (ExtB.row q6 r4_5 (ne_of_old r4_2 l10))
  have r4_7 := (Puts.row p7 r4_6 (ne_of_old r4_1 l6))
  have r4_8 := (Puts.row p8 r4_7 (ne_of_old r4_1 l6))
  have r4_9 := (Puts.row p9 r4_8 (ne_of_old r4_1 l6))
  have r4_10 := (Puts.row p10 r4_9 (ne_of_old r4_1 l6))
  have r4_11 := (Puts.row p11 r4_10 (ne_of_old r4_1 l6))
  have r4_12 := (Puts.row p12 r4_11 (ne_of_old r4_1 l6))
  have r4_13 := (Puts.row p13 r4_12 (ne_of_old r4_1 l6))
  have r4_14 := (Puts.row p14 r4_13 (ne_of_old r4_1 l6))
  have r4_15 := (Puts.row p15 r4_14 (ne_of_old r4_1 l6))
  have r4_16 := (Puts.row p16 r4_15 (ne_of_old r4_1 l6))
  have r4_17 := (Puts.row p17 r4_16 (ne_of_old r4_1 l6))
  have r4_18 := (Puts.row p18 r4_17 (ne_of_old r4_1 l6))
  have r4_19 := (Puts.row p19 r4_18 (ne_of_old r4_1 l6))
  have r4_20 := (Puts.row p20 r4_19 (ne_of_old r4_1 l6))
  have r4_21 := (Puts.row p21 r4_20 (ne_of_old r4_1 l6))
  have r4_22 := (Puts.row p22 r4_21 (ne_of_old r4_1 l6))
  have r4_23 := (Puts.row p23 r4_22 (ne_of_old r4_1 l6))
  have r4_24 := (Puts.row p24 r4_23 (ne_of_old r4_1 l6))
  have r4_25 := (Puts.row p25 r4_24 (ne_of_old r4_1 l6))
  have r4_26 := (Puts.row p26 r4_25 (ne_of_old r4_1 l6))
  have r4_27 := (Puts.row p27 r4_26 (ne_of_old r4_1 l6))
  have r4_28 := (Puts.row p28 r4_27 (ne_of_old r4_1 l6))
  have r4_29 := (Puts.row p29 r4_28 (ne_of_old r4_1 l6))
  have r4_30 := (Puts.row p30 r4_29 (ne_of_old r4_1 l6))
  have r4_31 := (Puts.row p31 r4_30 (ne_of_old r4_1 l6))
  have r4_32 := (Puts.row p32 r4_31 (ne_of_old r4_1 l6))
  have r4_33 := (Puts.row p33 r4_32 (ne_of_old r4_1 l6))
  have r4_34 := (Puts.row p34 r4_33 (ne_of_old r4_1 l6))
  have r4_35 := (Puts.row p35 r4_34 (ne_of_old r4_1 l6))
  have r4_36 := (Puts.row p36 r4_35 (ne_of_old r4_1 l6))
  have r4_37 := (Puts.row p37 r4_36 (ne_of_old r4_1 l6))
  have r4_38 := (Puts.row p38 r4_37 (ne_of_old r4_1 l6))
  refine seq_store g4 _ (ints .u8 ([(((s5.a.toNat / 16777216 % 256 : Nat) : Int)), (((s5.a.toNat / 65536 % 256 : Nat) : Int)), (((s5.a.toNat / 256 % 256 : Nat) : Int)), (((s5.a.toNat / 1 % 256 : Nat) : Int)), (((s5.b.toNat / 16777216 % 256 : Nat) : Int)), (((s5.b.toNat / 65536 % 256 : Nat) : Int)), (((s5.b.toNat / 256 % 256 : Nat) : Int)), (((s5.b.toNat / 1 % 256 : Nat) : Int)), (((s5.c.toNat / 16777216 % 256 : Nat) : Int)), (((s5.c.toNat / 65536 % 256 : Nat) : Int)), (((s5.c.toNat / 256 % 256 : Nat) : Int)), (((s5.c.toNat / 1 % 256 : Nat) : Int)), (((s5.d.toNat / 16777216 % 256 : Nat) : Int)), (((s5.d.toNat / 65536 % 256 : Nat) : Int)), (((s5.d.toNat / 256 % 256 : Nat) : Int)), (((s5.d.toNat / 1 % 256 : Nat) : Int)), (((s5.e.toNat / 16777216 % 256 : Nat) : Int)), (((s5.e.toNat / 65536 % 256 : Nat) : Int)), (((s5.e.toNat / 256 % 256 : Nat) : Int)), (((s5.e.toNat / 1 % 256 : Nat) : Int)), (((s5.f.toNat / 16777216 % 256 : Nat) : Int)), (((s5.f.toNat / 65536 % 256 : Nat) : Int)), (((s5.f.toNat / 256 % 256 : Nat) : Int)), (((s5.f.toNat / 1 % 256 : Nat) : Int)), (((s5.g.toNat / 16777216 % 256 : Nat) : Int)), (((s5.g.toNat / 65536 % 256 : Nat) : Int)), (((s5.g.toNat / 256 % 256 : Nat) : Int)), (((s5.g.toNat / 1 % 256 : Nat) : Int)), (((s5.h.toNat / 16777216 % 256 : Nat) : Int)), (((s5.h.toNat / 65536 % 256 : Nat) : Int)), (((s5.h.toNat / 256 % 256 : Nat) : Int)), (((s5.h.toNat / 1 % 256 : Nat) : Int))])) 26 r4_38 rfl kj (run_store_row 26 _ _ g4 26 _ _ r4_38 rfl kj kj (isz (n := 32) kj kj) (eqsz (n := 32) kj kj) (ints_one _ _)) fun W39 p39 r4_39 => ?_
  have x39 : Ext w W39 := Puts.ext p39 x38 b4
  refine seq_nil ?_
  refine hK201 _ _ ?_
  try clear hK201 K201
  refine wp_ret ?_
  repeat (first | with_reducible refine goR1 ?_ | with_reducible refine goR2 ?_)
  exact (show bodyPost _ _ _ .ret _ _ from ret1 (.agg (ints .u8 ([(((s5.a.toNat / 16777216 % 256 : Nat) : Int)), (((s5.a.toNat / 65536 % 256 : Nat) : Int)), (((s5.a.toNat / 256 % 256 : Nat) : Int)), (((s5.a.toNat / 1 % 256 : Nat) : Int)), (((s5.b.toNat / 16777216 % 256 : Nat) : Int)), (((s5.b.toNat / 65536 % 256 : Nat) : Int)), (((s5.b.toNat / 256 % 256 : Nat) : Int)), (((s5.b.toNat / 1 % 256 : Nat) : Int)), (((s5.c.toNat / 16777216 % 256 : Nat) : Int)), (((s5.c.toNat / 65536 % 256 : Nat) : Int)), (((s5.c.toNat / 256 % 256 : Nat) : Int)), (((s5.c.toNat / 1 % 256 : Nat) : Int)), (((s5.d.toNat / 16777216 % 256 : Nat) : Int)), (((s5.d.toNat / 65536 % 256 : Nat) : Int)), (((s5.d.toNat / 256 % 256 : Nat) : Int)), (((s5.d.toNat / 1 % 256 : Nat) : Int)), (((s5.e.toNat / 16777216 % 256 : Nat) : Int)), (((s5.e.toNat / 65536 % 256 : Nat) : Int)), (((s5.e.toNat / 256 % 256 : Nat) : Int)), (((s5.e.toNat / 1 % 256 : Nat) : Int)), (((s5.f.toNat / 16777216 % 256 : Nat) : Int)), (((s5.f.toNat / 65536 % 256 : Nat) : Int)), (((s5.f.toNat / 256 % 256 : Nat) : Int)), (((s5.f.toNat / 1 % 256 : Nat) : Int)), (((s5.g.toNat / 16777216 % 256 : Nat) : Int)), (((s5.g.toNat / 65536 % 256 : Nat) : Int)), (((s5.g.toNat / 256 % 256 : Nat) : Int)), (((s5.g.toNat / 1 % 256 : Nat) : Int)), (((s5.h.toNat / 16777216 % 256 : Nat) : Int)), (((s5.h.toNat / 65536 % 256 : Nat) : Int)), (((s5.h.toNat / 256 % 256 : Nat) : Int)), (((s5.h.toNat / 1 % 256 : Nat) : Int))]))) rfl (res_cell g4 26 _ r4_39 kj kj (isz (n := 32) kj kj)) ⟨by rw [show dig t = s5.out by rw [hs5]; rfl]; rfl, x39⟩)

end Go.Proofs.YtamlhbbphnamnaaDoor.Sha
