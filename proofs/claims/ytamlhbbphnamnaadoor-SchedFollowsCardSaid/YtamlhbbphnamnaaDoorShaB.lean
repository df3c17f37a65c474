/- SHA-256: a block is taken in. -/
import Derived.Test.YtamlhbbphnamnaaDoorShaA
namespace Go.Proofs.YtamlhbbphnamnaaDoor.Sha
open Go Go.RowKit
open Go.Proofs.YtamlhbbphnamnaaDoor.Rely Go.Proofs.YtamlhbbphnamnaaDoor.Auto Go.Proofs.YtamlhbbphnamnaaDoor.Own
set_option linter.unusedVariables false
set_option linter.unusedSimpArgs false

def cubesI : List Int := cubesN.map Int.ofNat
def squaresI : List Int := [0x6a09e667f3bcc908, 0xbb67ae8584caa73b, 0x3c6ef372fe94f82b, 0xa54ff53a5f1d36f1, 0x510e527fade682d1, 0x9b05688c2b3e6c1f, 0x1f83d9abfb41bd6b, 0x5be0cd19137e2179]
theorem cube_k (i : Nat) (h : i < 64) : IntKind.u32.wrap (nth cubesI i / 4294967296) = wv (wget KK i) := by
  have : ∀ i : Fin 64, IntKind.u32.wrap (nth cubesI i.1 / 4294967296) = wv (wget KK i.1) := by decide +kernel
  exact this ⟨i, h⟩
theorem shr32 (n : Int) : n.fdiv (2 ^ min (32 : Int).toNat IntKind.u64.bits) = n / 4294967296 := Int.fdiv_eq_ediv_of_nonneg n (by decide)
set_option maxHeartbeats 4000000 in
theorem turnB (g : Nat) (s : S8) (b : List Int) (hbl : b.length = 64) (hbb : AreBytes b) (m : Int) (tc : TypeId) (w : World) (hc : w.heap[1]? = some (.cells (ints .u64 cubesI) tc)) (hg : w.heap[g]? = some (.cells (cat [ints .u32 ([wv s.a, wv s.b, wv s.c, wv s.d, wv s.e, wv s.f, wv s.g, wv s.h]), ints .u8 (b), #[.int .i64 m]]) 90)) :
    Calls Tryd.prog 53 #[.pointer (some ⟨g, 0, none⟩)] w (fun e W => e = .returned (.tuple #[]) ∧ ExtB g w W ∧ W.heap[g]? = some (.cells (cat [ints .u32 ((blk s b).l.map wv), ints .u8 b, #[.int .i64 m]]) 90)) := by
  have hl64 : ((w64 b).map wv).length = 64 := by rw [List.length_map, w64_len]
  refine enter 137 [(0, .pointer (some ⟨g, 0, none⟩))] Tryd.func53 rfl rfl kj rfl ?_
  refine wp_seq_k fun K3 hK3 => ?_
  refine region_lit ?_
  refine seq_val (.pointer (some ⟨g, 0, none⟩)) 20 rfl kj kj ?_
  refine seq_val (.pointer (some ⟨g, 0, none⟩)) 21 rfl kj kj ?_
  refine seq_val (.pointer (some ⟨g, 8, none⟩)) 22 rfl kj kj ?_
  refine seq_val (.agg (ints .u8 (b))) 23 rfl kj (run_load_part 62 _ g 8 90 _ _ _ hg rfl kj (cat_part [ints .u32 ([wv s.a, wv s.b, wv s.c, wv s.d, wv s.e, wv s.f, wv s.g, wv s.h])] [ints .u8 (b)] [#[.int .i64 m]] 8 kj) kj (isz (n := 64) kj ((ints_size _ _).trans hbl))) ?_
  refine seq_call (.agg (ints .u32 ((w64 b).map wv))) 60 #[.agg (ints .u8 (b))] 24 rfl kj kj ((spreadC b hbl hbb) _) fun W1 e1 => ?_
  have x1 : ExtB g w W1 := ExtB.ext (ExtB.refl g w) e1
  refine seq_alloc (ints .u32 (List.replicate 64 0)) 102 2 rfl kj kj fun g4 W2 l4 e2 r4_2 => ?_
  have x2 : ExtB g w W2 := ExtB.ext x1 e2
  have b4 : w.heap.size ≤ g4 := Nat.le_trans x1.size l4
  refine seq_store g4 _ (ints .u32 ((w64 b).map wv)) 102 r4_2 rfl kj (run_store_row 102 _ _ g4 102 _ _ r4_2 rfl kj kj (isz (n := 64) kj ((ints_size _ _).trans hl64)) (eqsz (n := 64) ((ints_size _ _).trans (List.length_replicate (n := 64))) ((ints_size _ _).trans hl64)) (ints_one _ _)) fun W3 p3 r4_3 => ?_
  have x3 : ExtB g w W3 := ExtB.putsN x2 p3 b4
  refine seq_nil ?_
  refine hK3 _ _ ?_
  try clear hK3 K3
  refine wp_seq_k fun K5 hK5 => ?_
  refine region_lit ?_
  refine seq_val (.pointer (some ⟨g, 0, none⟩)) 25 rfl kj kj ?_
  refine seq_val (.pointer (some ⟨g, 0, none⟩)) 26 rfl kj kj ?_
  refine seq_val (.pointer (some ⟨g, 0, none⟩)) 27 rfl kj kj ?_
  have r2_1 := (row_ext hg e1)
  have r2_2 := (row_ext r2_1 e2)
  have r2_3 := (Puts.row p3 r2_2 (ne_of_old r2_1 l4))
  refine seq_val (.agg (ints .u32 ([wv s.a, wv s.b, wv s.c, wv s.d, wv s.e, wv s.f, wv s.g, wv s.h]))) 28 rfl kj (run_load_part 88 _ g 0 90 _ _ _ r2_3 rfl kj (cat_part [] [ints .u32 ([wv s.a, wv s.b, wv s.c, wv s.d, wv s.e, wv s.f, wv s.g, wv s.h])] [ints .u8 (b), #[.int .i64 m]] 0 kj) kj (isz (n := 8) kj kj)) ?_
  refine seq_alloc (ints .u32 ([0, 0, 0, 0, 0, 0, 0, 0])) 88 3 rfl kj kj fun g6 W4 l6 e4 r6_4 => ?_
  have x4 : ExtB g w W4 := ExtB.ext x3 e4
  have b6 : w.heap.size ≤ g6 := Nat.le_trans x3.size l6
  refine seq_store g6 _ (ints .u32 ([wv s.a, wv s.b, wv s.c, wv s.d, wv s.e, wv s.f, wv s.g, wv s.h])) 88 r6_4 rfl kj (run_store_row 88 _ _ g6 88 _ _ r6_4 rfl kj kj (isz (n := 8) kj kj) (eqsz (n := 8) kj kj) (ints_one _ _)) fun W5 p5 r6_5 => ?_
  have x5 : ExtB g w W5 := ExtB.putsN x4 p5 b6
  refine seq_nil ?_
  refine hK5 _ _ ?_
  try clear hK5 K5
  refine wp_seq_k fun K7 hK7 => ?_
  refine any_region 23 [⟨none, [(3, none)]⟩, ⟨none, [(29, some 0)]⟩, ⟨none, [(3, none)]⟩, ⟨none, [(31, some 2)]⟩, ⟨none, [(3, none)]⟩, ⟨none, [(33, some 4)]⟩, ⟨none, [(3, none)]⟩, ⟨none, [(35, some 6)]⟩, ⟨none, [(3, none)]⟩, ⟨none, [(37, some 8)]⟩, ⟨none, [(3, none)]⟩, ⟨none, [(39, some 10)]⟩, ⟨none, [(3, none)]⟩, ⟨none, [(41, some 12)]⟩, ⟨none, [(3, none)]⟩, ⟨none, [(43, some 14)]⟩, ⟨none, [(30, some 1)]⟩, ⟨none, [(32, some 3)]⟩, ⟨none, [(34, some 5)]⟩, ⟨none, [(36, some 7)]⟩, ⟨none, [(38, some 9)]⟩, ⟨none, [(40, some 11)]⟩, ⟨none, [(42, some 13)]⟩] kj kj fun F hF => ?_
  refine any_val (.pointer (some ⟨g6, 0, none⟩)) kj kj (fun W => by kernel_rfl) ?_
  refine any_read (.int .u32 (wv s.a)) kj kj (fun W hR => (run_loadC1 84 _ g6 0 88 _ (.int .u32 (wv s.a)) _ (row_ext (row_ext r6_5 (ext_drew _)) hR) rfl kj kj kj)) ?_
  refine any_val (.pointer (some ⟨g6, 1, none⟩)) kj kj (fun W => by kernel_rfl) ?_
  refine any_read (.int .u32 (wv s.b)) kj kj (fun W hR => (run_loadC1 84 _ g6 1 88 _ (.int .u32 (wv s.b)) _ (row_ext (row_ext r6_5 (ext_drew _)) hR) rfl kj kj kj)) ?_
  refine any_val (.pointer (some ⟨g6, 2, none⟩)) kj kj (fun W => by kernel_rfl) ?_
  refine any_read (.int .u32 (wv s.c)) kj kj (fun W hR => (run_loadC1 84 _ g6 2 88 _ (.int .u32 (wv s.c)) _ (row_ext (row_ext r6_5 (ext_drew _)) hR) rfl kj kj kj)) ?_
  refine any_val (.pointer (some ⟨g6, 3, none⟩)) kj kj (fun W => by kernel_rfl) ?_
  refine any_read (.int .u32 (wv s.d)) kj kj (fun W hR => (run_loadC1 84 _ g6 3 88 _ (.int .u32 (wv s.d)) _ (row_ext (row_ext r6_5 (ext_drew _)) hR) rfl kj kj kj)) ?_
  refine any_val (.pointer (some ⟨g6, 4, none⟩)) kj kj (fun W => by kernel_rfl) ?_
  refine any_read (.int .u32 (wv s.e)) kj kj (fun W hR => (run_loadC1 84 _ g6 4 88 _ (.int .u32 (wv s.e)) _ (row_ext (row_ext r6_5 (ext_drew _)) hR) rfl kj kj kj)) ?_
  refine any_val (.pointer (some ⟨g6, 5, none⟩)) kj kj (fun W => by kernel_rfl) ?_
  refine any_read (.int .u32 (wv s.f)) kj kj (fun W hR => (run_loadC1 84 _ g6 5 88 _ (.int .u32 (wv s.f)) _ (row_ext (row_ext r6_5 (ext_drew _)) hR) rfl kj kj kj)) ?_
  refine any_val (.pointer (some ⟨g6, 6, none⟩)) kj kj (fun W => by kernel_rfl) ?_
  refine any_read (.int .u32 (wv s.g)) kj kj (fun W hR => (run_loadC1 84 _ g6 6 88 _ (.int .u32 (wv s.g)) _ (row_ext (row_ext r6_5 (ext_drew _)) hR) rfl kj kj kj)) ?_
  refine any_val (.pointer (some ⟨g6, 7, none⟩)) kj kj (fun W => by kernel_rfl) ?_
  refine any_read (.int .u32 (wv s.h)) kj kj (fun W hR => (run_loadC1 84 _ g6 7 88 _ (.int .u32 (wv s.h)) _ (row_ext (row_ext r6_5 (ext_drew _)) hR) rfl kj kj kj)) ?_
  refine any_val (.int .u32 (wv s.a)) kj kj (fun W => by kernel_rfl) ?_
  refine any_val (.int .u32 (wv s.b)) kj kj (fun W => by kernel_rfl) ?_
  refine any_val (.int .u32 (wv s.c)) kj kj (fun W => by kernel_rfl) ?_
  refine any_val (.int .u32 (wv s.d)) kj kj (fun W => by kernel_rfl) ?_
  refine any_val (.int .u32 (wv s.e)) kj kj (fun W => by kernel_rfl) ?_
  refine any_val (.int .u32 (wv s.f)) kj kj (fun W => by kernel_rfl) ?_
  refine any_val (.int .u32 (wv s.g)) kj kj (fun W => by kernel_rfl) ?_
  refine steps_nil (hF _ kj fun W6 e6 => ?_)
  simp only [ups, up, Kn.val, List.take_succ_cons, List.take_zero, List.drop_succ_cons, List.drop_zero, List.nil_append, List.cons_append]
  clear hF
  have x6 : ExtB g w W6 := ExtB.ext x5 e6
  refine seq_val (.int .u32 (wv s.h)) 11 rfl kj kj ?_
  refine seq_nil ?_
  refine hK7 _ _ ?_
  try clear hK7 K7
  refine wp_seq_k fun K8 hK8 => ?_
  refine wp_seq_k fun K9 hK9 => ?_
  refine region_lit ?_
  have r4_4 := (row_ext r4_3 e4)
  have r4_5 := (Puts.row p5 r4_4 (ne_of_old r4_3 l6))
  have r4_6 := (row_ext r4_5 e6)
  refine seq_val (.agg (ints .u32 ((w64 b).map wv))) 45 rfl kj (run_load_row 102 _ g4 102 _ _ r4_6 rfl kj kj (isz (n := 64) kj ((ints_size _ _).trans hl64))) ?_
  refine seq_val (.int .i64 0) 46 rfl kj kj ?_
  refine seq_nil ?_
  refine hK9 _ _ ?_
  try clear hK9 K9
  refine wp_block ?_
  refine loop_auto (fun (s1 : Nat) => [(0, .pointer (some ⟨g, 0, none⟩)), (45, .agg (ints .u32 ((w64 b).map wv))), (46, .int .i64 ((s1 : Nat) : Int)), (4, .int .u32 (wv ((rnds KK (w64 b) s s1).a))), (5, .int .u32 (wv ((rnds KK (w64 b) s s1).b))), (6, .int .u32 (wv ((rnds KK (w64 b) s s1).c))), (7, .int .u32 (wv ((rnds KK (w64 b) s s1).d))), (8, .int .u32 (wv ((rnds KK (w64 b) s s1).e))), (9, .int .u32 (wv ((rnds KK (w64 b) s s1).f))), (10, .int .u32 (wv ((rnds KK (w64 b) s s1).g))), (11, .int .u32 (wv ((rnds KK (w64 b) s s1).h)))]) (fun (s1 : Nat) W => (s1 ≤ 64) ∧ (Ext W6 W) ∧ (ExtB g w W)) (fun (s1 : Nat) => 64 - s1) 0 ⟨rfl, rfl, rfl, rfl, rfl, rfl, rfl, rfl, rfl, rfl, rfl, trivial⟩ ⟨(Nat.zero_le _), (Rely.Ext.refl W6), x6⟩ fun s1 X1 V1 hI1 => ?_
  obtain ⟨i, hs1⟩ : ∃ z, z = s1 := ⟨_, rfl⟩
  subst hs1
  obtain ⟨hi, kk1, xx1⟩ := hI1
  replace hi : i ≤ 64 := hi
  replace kk1 : Ext W6 V1 := kk1
  replace xx1 : ExtB g w V1 := xx1
  have e7 := kk1
  refine wp_seq_k fun K10 hK10 => ?_
  refine region_lit ?_
  refine seq_val (.bool (decide (((i : Nat) : Int) < 64))) 47 rfl kj kj ?_
  refine seq_nil ?_
  refine hK10 _ _ ?_
  try clear hK10 K10
  refine wp_seq_k fun K11 hK11 => ?_
  refine cond_split (t := decide (((i : Nat) : Int) < 64)) kj (fun c12 => ?_) (fun c12 => ?_)
  · skip
    have hlt47 : i < 64 := by have := of_decide_eq_true c12; omega
    refine wp_skip ?_
    refine hK11 _ _ ?_
    try clear hK11 K11
    refine wp_seq_k fun K13 hK13 => ?_
    refine wp_block ?_
    refine wp_seq_k fun K14 hK14 => ?_
    refine region_lit ?_
    refine seq_val (.int .i64 ((i : Nat) : Int)) 48 rfl kj kj ?_
    refine seq_val (.int .u32 (wv (wget (w64 b) i))) 49 rfl kj (run_index_il 102 _ _ .i64 .u32 ((w64 b).map wv) i 64 84 (wv (wget (w64 b) i)) rfl kj kj kj kj kj hl64 (by omega) (nth_map _ _)) ?_
    refine seq_val (.int .i64 ((i : Nat) : Int)) 12 rfl kj kj ?_
    refine seq_val (.int .u32 (wv (wget (w64 b) i))) 13 rfl kj kj ?_
    refine seq_nil ?_
    refine hK14 _ _ ?_
    try clear hK14 K14
    refine wp_seq_k fun K15 hK15 => ?_
    refine region_lit ?_
    refine seq_val (.int .u32 (wv ((rnds KK (w64 b) s i).e))) 50 rfl kj kj ?_
    refine seq_call (.int .u32 (wv (rr ((rnds KK (w64 b) s i).e) 6))) 61 #[.int .u32 (wv ((rnds KK (w64 b) s i).e)), .int .i64 (-6)] 51 rfl kj kj ((rotC ((rnds KK (w64 b) s i).e) 6 (-6) (by decide) (by decide) (by decide)) _) fun W8 e8 => ?_
    have x8 : ExtB g w W8 := ExtB.ext xx1 e8
    refine seq_val (.int .u32 (wv ((rnds KK (w64 b) s i).e))) 52 rfl kj kj ?_
    refine seq_call (.int .u32 (wv (rr ((rnds KK (w64 b) s i).e) 11))) 61 #[.int .u32 (wv ((rnds KK (w64 b) s i).e)), .int .i64 (-11)] 53 rfl kj kj ((rotC ((rnds KK (w64 b) s i).e) 11 (-11) (by decide) (by decide) (by decide)) _) fun W9 e9 => ?_
    have x9 : ExtB g w W9 := ExtB.ext x8 e9
    refine seq_val (.int .u32 (wv (((rr ((rnds KK (w64 b) s i).e) 6)) ^^^ ((rr ((rnds KK (w64 b) s i).e) 11))))) 54 rfl kj (run_eq (u := .int .u32 (bits .xor .u32 (wv (rr ((rnds KK (w64 b) s i).e) 6)) (wv (rr ((rnds KK (w64 b) s i).e) 11)))) kj (congrArg (Value.int .u32) (w_xor _ _))) ?_
    refine seq_val (.int .u32 (wv ((rnds KK (w64 b) s i).e))) 55 rfl kj kj ?_
    refine seq_call (.int .u32 (wv (rr ((rnds KK (w64 b) s i).e) 25))) 61 #[.int .u32 (wv ((rnds KK (w64 b) s i).e)), .int .i64 (-25)] 56 rfl kj kj ((rotC ((rnds KK (w64 b) s i).e) 25 (-25) (by decide) (by decide) (by decide)) _) fun W10 e10 => ?_
    have x10 : ExtB g w W10 := ExtB.ext x9 e10
    refine seq_val (.int .u32 (wv (((((rr ((rnds KK (w64 b) s i).e) 6)) ^^^ ((rr ((rnds KK (w64 b) s i).e) 11)))) ^^^ ((rr ((rnds KK (w64 b) s i).e) 25))))) 57 rfl kj (run_eq (u := .int .u32 (bits .xor .u32 (wv (((rr ((rnds KK (w64 b) s i).e) 6)) ^^^ ((rr ((rnds KK (w64 b) s i).e) 11)))) (wv (rr ((rnds KK (w64 b) s i).e) 25)))) kj (congrArg (Value.int .u32) (w_xor _ _))) ?_
    refine seq_val (.int .u32 (wv (((((rr ((rnds KK (w64 b) s i).e) 6)) ^^^ ((rr ((rnds KK (w64 b) s i).e) 11)))) ^^^ ((rr ((rnds KK (w64 b) s i).e) 25))))) 14 rfl kj kj ?_
    refine seq_nil ?_
    refine hK15 _ _ ?_
    try clear hK15 K15
    refine wp_seq_k fun K16 hK16 => ?_
    refine region_lit ?_
    refine seq_val (.int .u32 (wv ((rnds KK (w64 b) s i).a))) 58 rfl kj kj ?_
    refine seq_call (.int .u32 (wv (rr ((rnds KK (w64 b) s i).a) 2))) 61 #[.int .u32 (wv ((rnds KK (w64 b) s i).a)), .int .i64 (-2)] 59 rfl kj kj ((rotC ((rnds KK (w64 b) s i).a) 2 (-2) (by decide) (by decide) (by decide)) _) fun W11 e11 => ?_
    have x11 : ExtB g w W11 := ExtB.ext x10 e11
    refine seq_val (.int .u32 (wv ((rnds KK (w64 b) s i).a))) 60 rfl kj kj ?_
    refine seq_call (.int .u32 (wv (rr ((rnds KK (w64 b) s i).a) 13))) 61 #[.int .u32 (wv ((rnds KK (w64 b) s i).a)), .int .i64 (-13)] 61 rfl kj kj ((rotC ((rnds KK (w64 b) s i).a) 13 (-13) (by decide) (by decide) (by decide)) _) fun W12 e12 => ?_
    have x12 : ExtB g w W12 := ExtB.ext x11 e12
    refine seq_val (.int .u32 (wv (((rr ((rnds KK (w64 b) s i).a) 2)) ^^^ ((rr ((rnds KK (w64 b) s i).a) 13))))) 62 rfl kj (run_eq (u := .int .u32 (bits .xor .u32 (wv (rr ((rnds KK (w64 b) s i).a) 2)) (wv (rr ((rnds KK (w64 b) s i).a) 13)))) kj (congrArg (Value.int .u32) (w_xor _ _))) ?_
    refine seq_val (.int .u32 (wv ((rnds KK (w64 b) s i).a))) 63 rfl kj kj ?_
    refine seq_call (.int .u32 (wv (rr ((rnds KK (w64 b) s i).a) 22))) 61 #[.int .u32 (wv ((rnds KK (w64 b) s i).a)), .int .i64 (-22)] 64 rfl kj kj ((rotC ((rnds KK (w64 b) s i).a) 22 (-22) (by decide) (by decide) (by decide)) _) fun W13 e13 => ?_
    have x13 : ExtB g w W13 := ExtB.ext x12 e13
    refine seq_val (.int .u32 (wv (((((rr ((rnds KK (w64 b) s i).a) 2)) ^^^ ((rr ((rnds KK (w64 b) s i).a) 13)))) ^^^ ((rr ((rnds KK (w64 b) s i).a) 22))))) 65 rfl kj (run_eq (u := .int .u32 (bits .xor .u32 (wv (((rr ((rnds KK (w64 b) s i).a) 2)) ^^^ ((rr ((rnds KK (w64 b) s i).a) 13)))) (wv (rr ((rnds KK (w64 b) s i).a) 22)))) kj (congrArg (Value.int .u32) (w_xor _ _))) ?_
    refine seq_val (.int .u32 (wv (((((rr ((rnds KK (w64 b) s i).a) 2)) ^^^ ((rr ((rnds KK (w64 b) s i).a) 13)))) ^^^ ((rr ((rnds KK (w64 b) s i).a) 22))))) 15 rfl kj kj ?_
    refine seq_nil ?_
    refine hK16 _ _ ?_
    try clear hK16 K16
    refine wp_seq_k fun K17 hK17 => ?_
    refine region_lit ?_
    refine seq_val (.int .u32 (wv ((rnds KK (w64 b) s i).h))) 66 rfl kj kj ?_
    refine seq_val (.int .u32 (wv (((((rr ((rnds KK (w64 b) s i).e) 6)) ^^^ ((rr ((rnds KK (w64 b) s i).e) 11)))) ^^^ ((rr ((rnds KK (w64 b) s i).e) 25))))) 67 rfl kj kj ?_
    refine seq_val (.int .u32 (wv ((((rnds KK (w64 b) s i).h)) + ((((((rr ((rnds KK (w64 b) s i).e) 6)) ^^^ ((rr ((rnds KK (w64 b) s i).e) 11)))) ^^^ ((rr ((rnds KK (w64 b) s i).e) 25))))))) 68 rfl kj (run_eq (u := .int .u32 (IntKind.u32.wrap (wv ((rnds KK (w64 b) s i).h) + wv (((((rr ((rnds KK (w64 b) s i).e) 6)) ^^^ ((rr ((rnds KK (w64 b) s i).e) 11)))) ^^^ ((rr ((rnds KK (w64 b) s i).e) 25)))))) kj (congrArg (Value.int .u32) (w_add _ _))) ?_
    refine seq_val (.int .u32 (wv ((rnds KK (w64 b) s i).e))) 69 rfl kj kj ?_
    refine seq_val (.int .u32 (wv ((rnds KK (w64 b) s i).f))) 70 rfl kj kj ?_
    refine seq_val (.int .u32 (wv ((((rnds KK (w64 b) s i).e)) &&& (((rnds KK (w64 b) s i).f))))) 71 rfl kj (run_eq (u := .int .u32 (bits .and .u32 (wv ((rnds KK (w64 b) s i).e)) (wv ((rnds KK (w64 b) s i).f)))) kj (congrArg (Value.int .u32) (w_and _ _))) ?_
    refine seq_val (.int .u32 (wv ((rnds KK (w64 b) s i).e))) 72 rfl kj kj ?_
    refine seq_val (.int .u32 (wv (~~~(((rnds KK (w64 b) s i).e))))) 73 rfl kj (run_eq (u := .int .u32 (bits .xor .u32 4294967295 (wv ((rnds KK (w64 b) s i).e)))) kj (congrArg (Value.int .u32) (w_com _))) ?_
    refine seq_val (.int .u32 (wv ((rnds KK (w64 b) s i).g))) 74 rfl kj kj ?_
    refine seq_val (.int .u32 (wv (((~~~(((rnds KK (w64 b) s i).e)))) &&& (((rnds KK (w64 b) s i).g))))) 75 rfl kj (run_eq (u := .int .u32 (bits .and .u32 (wv (~~~(((rnds KK (w64 b) s i).e)))) (wv ((rnds KK (w64 b) s i).g)))) kj (congrArg (Value.int .u32) (w_and _ _))) ?_
    refine seq_val (.int .u32 (wv ((((((rnds KK (w64 b) s i).e)) &&& (((rnds KK (w64 b) s i).f)))) ^^^ ((((~~~(((rnds KK (w64 b) s i).e)))) &&& (((rnds KK (w64 b) s i).g))))))) 76 rfl kj (run_eq (u := .int .u32 (bits .xor .u32 (wv ((((rnds KK (w64 b) s i).e)) &&& (((rnds KK (w64 b) s i).f)))) (wv (((~~~(((rnds KK (w64 b) s i).e)))) &&& (((rnds KK (w64 b) s i).g)))))) kj (congrArg (Value.int .u32) (w_xor _ _))) ?_
    refine seq_val (.int .u32 (wv ((((((rnds KK (w64 b) s i).h)) + ((((((rr ((rnds KK (w64 b) s i).e) 6)) ^^^ ((rr ((rnds KK (w64 b) s i).e) 11)))) ^^^ ((rr ((rnds KK (w64 b) s i).e) 25)))))) + (((((((rnds KK (w64 b) s i).e)) &&& (((rnds KK (w64 b) s i).f)))) ^^^ ((((~~~(((rnds KK (w64 b) s i).e)))) &&& (((rnds KK (w64 b) s i).g))))))))) 77 rfl kj (run_eq (u := .int .u32 (IntKind.u32.wrap (wv ((((rnds KK (w64 b) s i).h)) + ((((((rr ((rnds KK (w64 b) s i).e) 6)) ^^^ ((rr ((rnds KK (w64 b) s i).e) 11)))) ^^^ ((rr ((rnds KK (w64 b) s i).e) 25))))) + wv ((((((rnds KK (w64 b) s i).e)) &&& (((rnds KK (w64 b) s i).f)))) ^^^ ((((~~~(((rnds KK (w64 b) s i).e)))) &&& (((rnds KK (w64 b) s i).g)))))))) kj (congrArg (Value.int .u32) (w_add _ _))) ?_
    refine seq_val (.int .i64 ((i : Nat) : Int)) 78 rfl kj kj ?_
    refine seq_val (.pointer (some ⟨1, i, none⟩)) 79 rfl kj (run_index0 _ _ _ .i64 (i) _ 80 91 rfl kj kj kj kj (by omega)) ?_
    have r1_1 := (row_ext hc e1)
    have r1_2 := (row_ext r1_1 e2)
    have r1_3 := (Puts.row p3 r1_2 (ne_of_old r1_1 l4))
    have r1_4 := (row_ext r1_3 e4)
    have r1_5 := (Puts.row p5 r1_4 (ne_of_old r1_3 l6))
    have r1_6 := (row_ext r1_5 e6)
    have r1_7 := (row_ext r1_6 e7)
    have r1_8 := (row_ext r1_7 e8)
    have r1_9 := (row_ext r1_8 e9)
    have r1_10 := (row_ext r1_9 e10)
    have r1_11 := (row_ext r1_10 e11)
    have r1_12 := (row_ext r1_11 e12)
    have r1_13 := (row_ext r1_12 e13)
    refine seq_val (.int .u64 (nth (cubesI) i)) 80 rfl kj (run_loadC1 91 _ 1 i tc _ (.int .u64 (nth (cubesI) i)) _ r1_13 rfl kj (ints_get _ _ _ (Nat.lt_of_lt_of_eq (by omega) (show cubesI.length = 80 from rfl).symm)) kj) ?_
    refine seq_val (.int .u64 (nth cubesI i / 4294967296)) 81 rfl kj (run_bin .shr _ _ _ _ .u64 .u64 _ _ _ rfl kj kj (b_shr _ _ _ _ _ _ (by decide) (shr32 _))) ?_
    refine seq_val (.int .u32 (wv (wget KK i))) 82 rfl kj (run_eq (u := .int .u32 (IntKind.u32.wrap (nth cubesI i / 4294967296))) kj (congrArg (Value.int .u32) (cube_k i hlt47))) ?_
    refine seq_val (.int .u32 (wv ((((((((rnds KK (w64 b) s i).h)) + ((((((rr ((rnds KK (w64 b) s i).e) 6)) ^^^ ((rr ((rnds KK (w64 b) s i).e) 11)))) ^^^ ((rr ((rnds KK (w64 b) s i).e) 25)))))) + (((((((rnds KK (w64 b) s i).e)) &&& (((rnds KK (w64 b) s i).f)))) ^^^ ((((~~~(((rnds KK (w64 b) s i).e)))) &&& (((rnds KK (w64 b) s i).g)))))))) + ((wget KK i))))) 83 rfl kj (run_eq (u := .int .u32 (IntKind.u32.wrap (wv ((((((rnds KK (w64 b) s i).h)) + ((((((rr ((rnds KK (w64 b) s i).e) 6)) ^^^ ((rr ((rnds KK (w64 b) s i).e) 11)))) ^^^ ((rr ((rnds KK (w64 b) s i).e) 25)))))) + (((((((rnds KK (w64 b) s i).e)) &&& (((rnds KK (w64 b) s i).f)))) ^^^ ((((~~~(((rnds KK (w64 b) s i).e)))) &&& (((rnds KK (w64 b) s i).g))))))) + wv (wget KK i)))) kj (congrArg (Value.int .u32) (w_add _ _))) ?_
    refine seq_val (.int .u32 (wv (wget (w64 b) i))) 84 rfl kj kj ?_
    refine seq_val (.int .u32 (wv ((((((((((rnds KK (w64 b) s i).h)) + ((((((rr ((rnds KK (w64 b) s i).e) 6)) ^^^ ((rr ((rnds KK (w64 b) s i).e) 11)))) ^^^ ((rr ((rnds KK (w64 b) s i).e) 25)))))) + (((((((rnds KK (w64 b) s i).e)) &&& (((rnds KK (w64 b) s i).f)))) ^^^ ((((~~~(((rnds KK (w64 b) s i).e)))) &&& (((rnds KK (w64 b) s i).g)))))))) + ((wget KK i)))) + ((wget (w64 b) i))))) 85 rfl kj (run_eq (u := .int .u32 (IntKind.u32.wrap (wv ((((((((rnds KK (w64 b) s i).h)) + ((((((rr ((rnds KK (w64 b) s i).e) 6)) ^^^ ((rr ((rnds KK (w64 b) s i).e) 11)))) ^^^ ((rr ((rnds KK (w64 b) s i).e) 25)))))) + (((((((rnds KK (w64 b) s i).e)) &&& (((rnds KK (w64 b) s i).f)))) ^^^ ((((~~~(((rnds KK (w64 b) s i).e)))) &&& (((rnds KK (w64 b) s i).g)))))))) + ((wget KK i))) + wv (wget (w64 b) i)))) kj (congrArg (Value.int .u32) (w_add _ _))) ?_
    refine seq_val (.int .u32 (wv ((((((((((rnds KK (w64 b) s i).h)) + ((((((rr ((rnds KK (w64 b) s i).e) 6)) ^^^ ((rr ((rnds KK (w64 b) s i).e) 11)))) ^^^ ((rr ((rnds KK (w64 b) s i).e) 25)))))) + (((((((rnds KK (w64 b) s i).e)) &&& (((rnds KK (w64 b) s i).f)))) ^^^ ((((~~~(((rnds KK (w64 b) s i).e)))) &&& (((rnds KK (w64 b) s i).g)))))))) + ((wget KK i)))) + ((wget (w64 b) i))))) 16 rfl kj kj ?_
    refine seq_nil ?_
    refine hK17 _ _ ?_
    try clear hK17 K17
    refine wp_seq_k fun K18 hK18 => ?_
    refine region_lit ?_
    refine seq_val (.int .u32 (wv (((((rr ((rnds KK (w64 b) s i).a) 2)) ^^^ ((rr ((rnds KK (w64 b) s i).a) 13)))) ^^^ ((rr ((rnds KK (w64 b) s i).a) 22))))) 86 rfl kj kj ?_
    refine seq_val (.int .u32 (wv ((rnds KK (w64 b) s i).a))) 87 rfl kj kj ?_
    refine seq_val (.int .u32 (wv ((rnds KK (w64 b) s i).b))) 88 rfl kj kj ?_
    refine seq_val (.int .u32 (wv ((((rnds KK (w64 b) s i).a)) &&& (((rnds KK (w64 b) s i).b))))) 89 rfl kj (run_eq (u := .int .u32 (bits .and .u32 (wv ((rnds KK (w64 b) s i).a)) (wv ((rnds KK (w64 b) s i).b)))) kj (congrArg (Value.int .u32) (w_and _ _))) ?_
    refine seq_val (.int .u32 (wv ((rnds KK (w64 b) s i).a))) 90 rfl kj kj ?_
    refine seq_val (.int .u32 (wv ((rnds KK (w64 b) s i).c))) 91 rfl kj kj ?_
    refine seq_val (.int .u32 (wv ((((rnds KK (w64 b) s i).a)) &&& (((rnds KK (w64 b) s i).c))))) 92 rfl kj (run_eq (u := .int .u32 (bits .and .u32 (wv ((rnds KK (w64 b) s i).a)) (wv ((rnds KK (w64 b) s i).c)))) kj (congrArg (Value.int .u32) (w_and _ _))) ?_
    refine seq_val (.int .u32 (wv ((((((rnds KK (w64 b) s i).a)) &&& (((rnds KK (w64 b) s i).b)))) ^^^ (((((rnds KK (w64 b) s i).a)) &&& (((rnds KK (w64 b) s i).c))))))) 93 rfl kj (run_eq (u := .int .u32 (bits .xor .u32 (wv ((((rnds KK (w64 b) s i).a)) &&& (((rnds KK (w64 b) s i).b)))) (wv ((((rnds KK (w64 b) s i).a)) &&& (((rnds KK (w64 b) s i).c)))))) kj (congrArg (Value.int .u32) (w_xor _ _))) ?_
    refine seq_val (.int .u32 (wv ((rnds KK (w64 b) s i).b))) 94 rfl kj kj ?_
    refine seq_val (.int .u32 (wv ((rnds KK (w64 b) s i).c))) 95 rfl kj kj ?_
    refine seq_val (.int .u32 (wv ((((rnds KK (w64 b) s i).b)) &&& (((rnds KK (w64 b) s i).c))))) 96 rfl kj (run_eq (u := .int .u32 (bits .and .u32 (wv ((rnds KK (w64 b) s i).b)) (wv ((rnds KK (w64 b) s i).c)))) kj (congrArg (Value.int .u32) (w_and _ _))) ?_
    refine seq_val (.int .u32 (wv ((((((((rnds KK (w64 b) s i).a)) &&& (((rnds KK (w64 b) s i).b)))) ^^^ (((((rnds KK (w64 b) s i).a)) &&& (((rnds KK (w64 b) s i).c)))))) ^^^ (((((rnds KK (w64 b) s i).b)) &&& (((rnds KK (w64 b) s i).c))))))) 97 rfl kj (run_eq (u := .int .u32 (bits .xor .u32 (wv ((((((rnds KK (w64 b) s i).a)) &&& (((rnds KK (w64 b) s i).b)))) ^^^ (((((rnds KK (w64 b) s i).a)) &&& (((rnds KK (w64 b) s i).c)))))) (wv ((((rnds KK (w64 b) s i).b)) &&& (((rnds KK (w64 b) s i).c)))))) kj (congrArg (Value.int .u32) (w_xor _ _))) ?_
    refine seq_val (.int .u32 (wv (((((((rr ((rnds KK (w64 b) s i).a) 2)) ^^^ ((rr ((rnds KK (w64 b) s i).a) 13)))) ^^^ ((rr ((rnds KK (w64 b) s i).a) 22)))) + (((((((((rnds KK (w64 b) s i).a)) &&& (((rnds KK (w64 b) s i).b)))) ^^^ (((((rnds KK (w64 b) s i).a)) &&& (((rnds KK (w64 b) s i).c)))))) ^^^ (((((rnds KK (w64 b) s i).b)) &&& (((rnds KK (w64 b) s i).c))))))))) 98 rfl kj (run_eq (u := .int .u32 (IntKind.u32.wrap (wv (((((rr ((rnds KK (w64 b) s i).a) 2)) ^^^ ((rr ((rnds KK (w64 b) s i).a) 13)))) ^^^ ((rr ((rnds KK (w64 b) s i).a) 22))) + wv ((((((((rnds KK (w64 b) s i).a)) &&& (((rnds KK (w64 b) s i).b)))) ^^^ (((((rnds KK (w64 b) s i).a)) &&& (((rnds KK (w64 b) s i).c)))))) ^^^ (((((rnds KK (w64 b) s i).b)) &&& (((rnds KK (w64 b) s i).c)))))))) kj (congrArg (Value.int .u32) (w_add _ _))) ?_
    refine seq_val (.int .u32 (wv (((((((rr ((rnds KK (w64 b) s i).a) 2)) ^^^ ((rr ((rnds KK (w64 b) s i).a) 13)))) ^^^ ((rr ((rnds KK (w64 b) s i).a) 22)))) + (((((((((rnds KK (w64 b) s i).a)) &&& (((rnds KK (w64 b) s i).b)))) ^^^ (((((rnds KK (w64 b) s i).a)) &&& (((rnds KK (w64 b) s i).c)))))) ^^^ (((((rnds KK (w64 b) s i).b)) &&& (((rnds KK (w64 b) s i).c))))))))) 17 rfl kj kj ?_
    refine seq_nil ?_
    refine hK18 _ _ ?_
    try clear hK18 K18
    refine region_lit ?_
    refine seq_val (.int .u32 (wv ((rnds KK (w64 b) s i).g))) 99 rfl kj kj ?_
    refine seq_val (.int .u32 (wv ((rnds KK (w64 b) s i).f))) 100 rfl kj kj ?_
    refine seq_val (.int .u32 (wv ((rnds KK (w64 b) s i).e))) 101 rfl kj kj ?_
    refine seq_val (.int .u32 (wv ((rnds KK (w64 b) s i).d))) 102 rfl kj kj ?_
    refine seq_val (.int .u32 (wv ((((((((((rnds KK (w64 b) s i).h)) + ((((((rr ((rnds KK (w64 b) s i).e) 6)) ^^^ ((rr ((rnds KK (w64 b) s i).e) 11)))) ^^^ ((rr ((rnds KK (w64 b) s i).e) 25)))))) + (((((((rnds KK (w64 b) s i).e)) &&& (((rnds KK (w64 b) s i).f)))) ^^^ ((((~~~(((rnds KK (w64 b) s i).e)))) &&& (((rnds KK (w64 b) s i).g)))))))) + ((wget KK i)))) + ((wget (w64 b) i))))) 103 rfl kj kj ?_
    refine seq_val (.int .u32 (wv ((((rnds KK (w64 b) s i).d)) + (((((((((((rnds KK (w64 b) s i).h)) + ((((((rr ((rnds KK (w64 b) s i).e) 6)) ^^^ ((rr ((rnds KK (w64 b) s i).e) 11)))) ^^^ ((rr ((rnds KK (w64 b) s i).e) 25)))))) + (((((((rnds KK (w64 b) s i).e)) &&& (((rnds KK (w64 b) s i).f)))) ^^^ ((((~~~(((rnds KK (w64 b) s i).e)))) &&& (((rnds KK (w64 b) s i).g)))))))) + ((wget KK i)))) + ((wget (w64 b) i))))))) 104 rfl kj (run_eq (u := .int .u32 (IntKind.u32.wrap (wv ((rnds KK (w64 b) s i).d) + wv ((((((((((rnds KK (w64 b) s i).h)) + ((((((rr ((rnds KK (w64 b) s i).e) 6)) ^^^ ((rr ((rnds KK (w64 b) s i).e) 11)))) ^^^ ((rr ((rnds KK (w64 b) s i).e) 25)))))) + (((((((rnds KK (w64 b) s i).e)) &&& (((rnds KK (w64 b) s i).f)))) ^^^ ((((~~~(((rnds KK (w64 b) s i).e)))) &&& (((rnds KK (w64 b) s i).g)))))))) + ((wget KK i)))) + ((wget (w64 b) i)))))) kj (congrArg (Value.int .u32) (w_add _ _))) ?_
    refine seq_val (.int .u32 (wv ((rnds KK (w64 b) s i).c))) 105 rfl kj kj ?_
    refine seq_val (.int .u32 (wv ((rnds KK (w64 b) s i).b))) 106 rfl kj kj ?_
    refine seq_val (.int .u32 (wv ((rnds KK (w64 b) s i).a))) 107 rfl kj kj ?_
    refine seq_val (.int .u32 (wv ((((((((((rnds KK (w64 b) s i).h)) + ((((((rr ((rnds KK (w64 b) s i).e) 6)) ^^^ ((rr ((rnds KK (w64 b) s i).e) 11)))) ^^^ ((rr ((rnds KK (w64 b) s i).e) 25)))))) + (((((((rnds KK (w64 b) s i).e)) &&& (((rnds KK (w64 b) s i).f)))) ^^^ ((((~~~(((rnds KK (w64 b) s i).e)))) &&& (((rnds KK (w64 b) s i).g)))))))) + ((wget KK i)))) + ((wget (w64 b) i))))) 108 rfl kj kj ?_
    refine seq_val (.int .u32 (wv (((((((rr ((rnds KK (w64 b) s i).a) 2)) ^^^ ((rr ((rnds KK (w64 b) s i).a) 13)))) ^^^ ((rr ((rnds KK (w64 b) s i).a) 22)))) + (((((((((rnds KK (w64 b) s i).a)) &&& (((rnds KK (w64 b) s i).b)))) ^^^ (((((rnds KK (w64 b) s i).a)) &&& (((rnds KK (w64 b) s i).c)))))) ^^^ (((((rnds KK (w64 b) s i).b)) &&& (((rnds KK (w64 b) s i).c))))))))) 109 rfl kj kj ?_
    refine seq_val (.int .u32 (wv ((((((((((((rnds KK (w64 b) s i).h)) + ((((((rr ((rnds KK (w64 b) s i).e) 6)) ^^^ ((rr ((rnds KK (w64 b) s i).e) 11)))) ^^^ ((rr ((rnds KK (w64 b) s i).e) 25)))))) + (((((((rnds KK (w64 b) s i).e)) &&& (((rnds KK (w64 b) s i).f)))) ^^^ ((((~~~(((rnds KK (w64 b) s i).e)))) &&& (((rnds KK (w64 b) s i).g)))))))) + ((wget KK i)))) + ((wget (w64 b) i)))) + ((((((((rr ((rnds KK (w64 b) s i).a) 2)) ^^^ ((rr ((rnds KK (w64 b) s i).a) 13)))) ^^^ ((rr ((rnds KK (w64 b) s i).a) 22)))) + (((((((((rnds KK (w64 b) s i).a)) &&& (((rnds KK (w64 b) s i).b)))) ^^^ (((((rnds KK (w64 b) s i).a)) &&& (((rnds KK (w64 b) s i).c)))))) ^^^ (((((rnds KK (w64 b) s i).b)) &&& (((rnds KK (w64 b) s i).c))))))))))) 110 rfl kj (run_eq (u := .int .u32 (IntKind.u32.wrap (wv ((((((((((rnds KK (w64 b) s i).h)) + ((((((rr ((rnds KK (w64 b) s i).e) 6)) ^^^ ((rr ((rnds KK (w64 b) s i).e) 11)))) ^^^ ((rr ((rnds KK (w64 b) s i).e) 25)))))) + (((((((rnds KK (w64 b) s i).e)) &&& (((rnds KK (w64 b) s i).f)))) ^^^ ((((~~~(((rnds KK (w64 b) s i).e)))) &&& (((rnds KK (w64 b) s i).g)))))))) + ((wget KK i)))) + ((wget (w64 b) i))) + wv (((((((rr ((rnds KK (w64 b) s i).a) 2)) ^^^ ((rr ((rnds KK (w64 b) s i).a) 13)))) ^^^ ((rr ((rnds KK (w64 b) s i).a) 22)))) + (((((((((rnds KK (w64 b) s i).a)) &&& (((rnds KK (w64 b) s i).b)))) ^^^ (((((rnds KK (w64 b) s i).a)) &&& (((rnds KK (w64 b) s i).c)))))) ^^^ (((((rnds KK (w64 b) s i).b)) &&& (((rnds KK (w64 b) s i).c)))))))))) kj (congrArg (Value.int .u32) (w_add _ _))) ?_
    refine seq_val (.int .u32 (wv ((rnds KK (w64 b) s i).g))) 11 rfl kj kj ?_
    refine seq_val (.int .u32 (wv ((rnds KK (w64 b) s i).f))) 10 rfl kj kj ?_
    refine seq_val (.int .u32 (wv ((rnds KK (w64 b) s i).e))) 9 rfl kj kj ?_
    refine seq_val (.int .u32 (wv ((((rnds KK (w64 b) s i).d)) + (((((((((((rnds KK (w64 b) s i).h)) + ((((((rr ((rnds KK (w64 b) s i).e) 6)) ^^^ ((rr ((rnds KK (w64 b) s i).e) 11)))) ^^^ ((rr ((rnds KK (w64 b) s i).e) 25)))))) + (((((((rnds KK (w64 b) s i).e)) &&& (((rnds KK (w64 b) s i).f)))) ^^^ ((((~~~(((rnds KK (w64 b) s i).e)))) &&& (((rnds KK (w64 b) s i).g)))))))) + ((wget KK i)))) + ((wget (w64 b) i))))))) 8 rfl kj kj ?_
    refine seq_val (.int .u32 (wv ((rnds KK (w64 b) s i).c))) 7 rfl kj kj ?_
    refine seq_val (.int .u32 (wv ((rnds KK (w64 b) s i).b))) 6 rfl kj kj ?_
    refine seq_val (.int .u32 (wv ((rnds KK (w64 b) s i).a))) 5 rfl kj kj ?_
    refine seq_val (.int .u32 (wv ((((((((((((rnds KK (w64 b) s i).h)) + ((((((rr ((rnds KK (w64 b) s i).e) 6)) ^^^ ((rr ((rnds KK (w64 b) s i).e) 11)))) ^^^ ((rr ((rnds KK (w64 b) s i).e) 25)))))) + (((((((rnds KK (w64 b) s i).e)) &&& (((rnds KK (w64 b) s i).f)))) ^^^ ((((~~~(((rnds KK (w64 b) s i).e)))) &&& (((rnds KK (w64 b) s i).g)))))))) + ((wget KK i)))) + ((wget (w64 b) i)))) + ((((((((rr ((rnds KK (w64 b) s i).a) 2)) ^^^ ((rr ((rnds KK (w64 b) s i).a) 13)))) ^^^ ((rr ((rnds KK (w64 b) s i).a) 22)))) + (((((((((rnds KK (w64 b) s i).a)) &&& (((rnds KK (w64 b) s i).b)))) ^^^ (((((rnds KK (w64 b) s i).a)) &&& (((rnds KK (w64 b) s i).c)))))) ^^^ (((((rnds KK (w64 b) s i).b)) &&& (((rnds KK (w64 b) s i).c))))))))))) 4 rfl kj kj ?_
    refine seq_nil ?_
    refine hK13 _ _ ?_
    try clear hK13 K13
    refine region_lit ?_
    refine seq_val (.int .i64 ((i + 1 : Nat) : Int)) 111 rfl kj (run_eq (u := .int .i64 (IntKind.i64.wrap (((i : Nat) : Int) + 1))) kj (congrArg (Value.int .i64) (i64n _ _ (by omega) (by omega)))) ?_
    refine seq_val (.int .i64 ((i + 1 : Nat) : Int)) 46 rfl kj kj ?_
    refine seq_nil ?_
    have y6_8 : Ext W6 W8 := (Rely.Ext.trans e7 e8)
    have y6_9 : Ext W6 W9 := (Rely.Ext.trans y6_8 e9)
    have y6_10 : Ext W6 W10 := (Rely.Ext.trans y6_9 e10)
    have y6_11 : Ext W6 W11 := (Rely.Ext.trans y6_10 e11)
    have y6_12 : Ext W6 W12 := (Rely.Ext.trans y6_11 e12)
    have y6_13 : Ext W6 W13 := (Rely.Ext.trans y6_12 e13)
    repeat (first | with_reducible refine goX1 ?_ | with_reducible refine goX2 ?_ | with_reducible refine goX3 ?_)
    exact goes_then (i + 1) ⟨rfl, rfl, rfl, rfl, rfl, rfl, rfl, rfl, rfl, rfl, rfl, trivial⟩ ⟨(by omega), y6_13, x13⟩ (by omega)
  · skip
    have heq47 : i = 64 := by have := of_decide_eq_false c12; omega
    refine wp_exit ?_
    refine hK8 _ _ ?_
    try clear hK8 K8
    refine wp_seq_k fun K19 hK19 => ?_
    refine region_lit ?_
    refine seq_val (.int .u32 (wv ((rnds KK (w64 b) s i).a))) 112 rfl kj kj ?_
    refine seq_val (.int .u32 (wv ((rnds KK (w64 b) s i).b))) 113 rfl kj kj ?_
    refine seq_val (.int .u32 (wv ((rnds KK (w64 b) s i).c))) 114 rfl kj kj ?_
    refine seq_val (.int .u32 (wv ((rnds KK (w64 b) s i).d))) 115 rfl kj kj ?_
    refine seq_val (.int .u32 (wv ((rnds KK (w64 b) s i).e))) 116 rfl kj kj ?_
    refine seq_val (.int .u32 (wv ((rnds KK (w64 b) s i).f))) 117 rfl kj kj ?_
    refine seq_val (.int .u32 (wv ((rnds KK (w64 b) s i).g))) 118 rfl kj kj ?_
    refine seq_val (.int .u32 (wv ((rnds KK (w64 b) s i).h))) 119 rfl kj kj ?_
    refine seq_val (.agg (ints .u32 ([wv (rnds KK (w64 b) s i).a, wv (rnds KK (w64 b) s i).b, wv (rnds KK (w64 b) s i).c, wv (rnds KK (w64 b) s i).d, wv (rnds KK (w64 b) s i).e, wv (rnds KK (w64 b) s i).f, wv (rnds KK (w64 b) s i).g, wv (rnds KK (w64 b) s i).h]))) 120 rfl kj kj ?_
    refine seq_val (.int .i64 0) 121 rfl kj kj ?_
    refine seq_nil ?_
    refine hK19 _ _ ?_
    try clear hK19 K19
    refine wp_block ?_
    refine wp_loop_rounds 9 ?_
    show Code.wp _ _ (Exit.then (Code.rounds _ _ _ 8) _) _ _
    refine wp_seq_k fun K20 hK20 => ?_
    refine region_lit ?_
    refine seq_val (.bool true) 122 rfl kj kj ?_
    refine seq_nil ?_
    refine hK20 _ _ ?_
    try clear hK20 K20
    refine wp_seq_k fun K21 hK21 => ?_
    refine cond_true kj ?_
    refine wp_skip ?_
    refine hK21 _ _ ?_
    try clear hK21 K21
    refine wp_seq_k fun K22 hK22 => ?_
    refine wp_block ?_
    refine wp_seq_k fun K23 hK23 => ?_
    refine region_lit ?_
    refine seq_val (.int .i64 0) 123 rfl kj kj ?_
    refine seq_val (.int .u32 (wv (rnds KK (w64 b) s i).a)) 124 rfl kj (run_index_il 88 _ _ .i64 .u32 ([wv (rnds KK (w64 b) s i).a, wv (rnds KK (w64 b) s i).b, wv (rnds KK (w64 b) s i).c, wv (rnds KK (w64 b) s i).d, wv (rnds KK (w64 b) s i).e, wv (rnds KK (w64 b) s i).f, wv (rnds KK (w64 b) s i).g, wv (rnds KK (w64 b) s i).h]) 0 8 84 (wv (rnds KK (w64 b) s i).a) rfl kj kj kj kj kj rfl (by decide) rfl) ?_
    refine seq_val (.int .i64 0) 18 rfl kj kj ?_
    refine seq_val (.int .u32 (wv (rnds KK (w64 b) s i).a)) 19 rfl kj kj ?_
    refine seq_nil ?_
    refine hK23 _ _ ?_
    try clear hK23 K23
    refine any_region 11 [⟨none, [(0, none)]⟩, ⟨none, [(18, none)]⟩, ⟨none, [(125, some 0)]⟩, ⟨none, [(127, some 2)]⟩, ⟨none, [(128, some 3), (126, some 1)]⟩, ⟨none, [(129, some 4)]⟩, ⟨none, [(19, none)]⟩, ⟨none, [(130, some 5), (131, some 6)]⟩, ⟨none, [(125, some 0)]⟩, ⟨none, [(133, some 8)]⟩, ⟨none, [(134, some 9), (126, some 1)]⟩] kj kj fun F hF => ?_
    refine any_val (.pointer (some ⟨g, 0, none⟩)) kj kj (fun W => by kernel_rfl) ?_
    refine any_val (.int .i64 0) kj kj (fun W => by kernel_rfl) ?_
    refine any_val (.pointer (some ⟨g, 0, none⟩)) kj kj (fun W => by kernel_rfl) ?_
    refine any_val (.pointer (some ⟨g, 0, none⟩)) kj kj (fun W => by kernel_rfl) ?_
    refine any_val (.pointer (some ⟨g, 0, none⟩)) kj kj (fun W => by kernel_rfl) ?_
    have r2_4 := (row_ext r2_3 e4)
    have r2_5 := (Puts.row p5 r2_4 (ne_of_old r2_3 l6))
    have r2_6 := (row_ext r2_5 e6)
    have r2_7 := (row_ext r2_6 e7)
    refine any_read (.int .u32 (wv s.a)) kj kj (fun W hR => (run_loadC1 84 _ g 0 90 _ (.int .u32 (wv s.a)) _ (row_ext (row_ext r2_7 (ext_drew _)) hR) rfl kj (get_part [] [ints .u8 (b), #[.int .i64 m]] ([wv s.a, wv s.b, wv s.c, wv s.d, wv s.e, wv s.f, wv s.g, wv s.h]) 0 0 0 kj rfl (Nat.lt_of_lt_of_eq (show 0 < 8 by decide) rfl.symm)) kj)) ?_
    refine any_val (.int .u32 (wv (rnds KK (w64 b) s i).a)) kj kj (fun W => by kernel_rfl) ?_
    refine any_val (.int .u32 (wv ((s.a) + ((rnds KK (w64 b) s i).a)))) kj kj (fun W => (run_eq (u := .int .u32 (IntKind.u32.wrap (wv s.a + wv ((rnds KK (w64 b) s i).a)))) kj (congrArg (Value.int .u32) (w_add _ _)))) ?_
    refine any_val (.pointer (some ⟨g, 0, none⟩)) kj kj (fun W => by kernel_rfl) ?_
    refine any_val (.pointer (some ⟨g, 0, none⟩)) kj kj (fun W => by kernel_rfl) ?_
    refine any_val (.pointer (some ⟨g, 0, none⟩)) kj kj (fun W => by kernel_rfl) ?_
    refine steps_nil (hF _ kj fun W8 e8 => ?_)
    simp only [ups, up, Kn.val, List.take_succ_cons, List.take_zero, List.drop_succ_cons, List.drop_zero, List.nil_append, List.cons_append]
    clear hF
    have x8 : ExtB g w W8 := ExtB.ext xx1 e8
    have r2_8 := (row_ext r2_7 e8)
    refine seq_store g _ (cat [ints .u32 ([(wv ((s.a) + ((rnds KK (w64 b) s i).a))), wv s.b, wv s.c, wv s.d, wv s.e, wv s.f, wv s.g, wv s.h]), ints .u8 (b), #[.int .i64 m]]) 90 r2_8 rfl kj (run_storeP 84 _ _ g 0 90 [] [ints .u8 (b), #[.int .i64 m]] ([wv s.a, wv s.b, wv s.c, wv s.d, wv s.e, wv s.f, wv s.g, wv s.h]) 0 0 _ r2_8 rfl kj kj kj kj rfl (Nat.lt_of_lt_of_eq (show 0 < 8 by decide) rfl.symm)) fun W9 p9 r2_9 => ?_
    have x9 : ExtB g w W9 := ExtB.puts x8 p9
    refine seq_nil ?_
    refine hK22 _ _ ?_
    try clear hK22 K22
    refine region_lit ?_
    refine seq_val (.int .i64 1) 136 rfl kj kj ?_
    refine seq_val (.int .i64 1) 121 rfl kj kj ?_
    refine seq_nil ?_
    show Code.rounds _ _ _ 8 _ _
    show Code.wp _ _ (Exit.then (Code.rounds _ _ _ 7) _) _ _
    refine wp_seq_k fun K24 hK24 => ?_
    refine region_lit ?_
    refine seq_val (.bool true) 122 rfl kj kj ?_
    refine seq_nil ?_
    refine hK24 _ _ ?_
    try clear hK24 K24
    refine wp_seq_k fun K25 hK25 => ?_
    refine cond_true kj ?_
    refine wp_skip ?_
    refine hK25 _ _ ?_
    try clear hK25 K25
    refine wp_seq_k fun K26 hK26 => ?_
    refine wp_block ?_
    refine wp_seq_k fun K27 hK27 => ?_
    refine region_lit ?_
    refine seq_val (.int .i64 1) 123 rfl kj kj ?_
    refine seq_val (.int .u32 (wv (rnds KK (w64 b) s i).b)) 124 rfl kj (run_index_il 88 _ _ .i64 .u32 ([wv (rnds KK (w64 b) s i).a, wv (rnds KK (w64 b) s i).b, wv (rnds KK (w64 b) s i).c, wv (rnds KK (w64 b) s i).d, wv (rnds KK (w64 b) s i).e, wv (rnds KK (w64 b) s i).f, wv (rnds KK (w64 b) s i).g, wv (rnds KK (w64 b) s i).h]) 1 8 84 (wv (rnds KK (w64 b) s i).b) rfl kj kj kj kj kj rfl (by decide) rfl) ?_
    refine seq_val (.int .i64 1) 18 rfl kj kj ?_
    refine seq_val (.int .u32 (wv (rnds KK (w64 b) s i).b)) 19 rfl kj kj ?_
    refine seq_nil ?_
    refine hK27 _ _ ?_
    try clear hK27 K27
    refine any_region 11 [⟨none, [(0, none)]⟩, ⟨none, [(18, none)]⟩, ⟨none, [(125, some 0)]⟩, ⟨none, [(127, some 2)]⟩, ⟨none, [(128, some 3), (126, some 1)]⟩, ⟨none, [(129, some 4)]⟩, ⟨none, [(19, none)]⟩, ⟨none, [(130, some 5), (131, some 6)]⟩, ⟨none, [(125, some 0)]⟩, ⟨none, [(133, some 8)]⟩, ⟨none, [(134, some 9), (126, some 1)]⟩] kj kj fun F hF => ?_
    refine any_val (.pointer (some ⟨g, 0, none⟩)) kj kj (fun W => by kernel_rfl) ?_
    refine any_val (.int .i64 1) kj kj (fun W => by kernel_rfl) ?_
    refine any_val (.pointer (some ⟨g, 0, none⟩)) kj kj (fun W => by kernel_rfl) ?_
    refine any_val (.pointer (some ⟨g, 0, none⟩)) kj kj (fun W => by kernel_rfl) ?_
    refine any_val (.pointer (some ⟨g, 1, none⟩)) kj kj (fun W => by kernel_rfl) ?_
    refine any_read (.int .u32 (wv s.b)) kj kj (fun W hR => (run_loadC1 84 _ g 1 90 _ (.int .u32 (wv s.b)) _ (row_ext (row_ext r2_9 (ext_drew _)) hR) rfl kj (get_part [] [ints .u8 (b), #[.int .i64 m]] ([(wv ((s.a) + ((rnds KK (w64 b) s i).a))), wv s.b, wv s.c, wv s.d, wv s.e, wv s.f, wv s.g, wv s.h]) 0 1 1 kj rfl (Nat.lt_of_lt_of_eq (show 1 < 8 by decide) rfl.symm)) kj)) ?_
    refine any_val (.int .u32 (wv (rnds KK (w64 b) s i).b)) kj kj (fun W => by kernel_rfl) ?_
    refine any_val (.int .u32 (wv ((s.b) + ((rnds KK (w64 b) s i).b)))) kj kj (fun W => (run_eq (u := .int .u32 (IntKind.u32.wrap (wv s.b + wv ((rnds KK (w64 b) s i).b)))) kj (congrArg (Value.int .u32) (w_add _ _)))) ?_
    refine any_val (.pointer (some ⟨g, 0, none⟩)) kj kj (fun W => by kernel_rfl) ?_
    refine any_val (.pointer (some ⟨g, 0, none⟩)) kj kj (fun W => by kernel_rfl) ?_
    refine any_val (.pointer (some ⟨g, 1, none⟩)) kj kj (fun W => by kernel_rfl) ?_
    refine steps_nil (hF _ kj fun W10 e10 => ?_)
    simp only [ups, up, Kn.val, List.take_succ_cons, List.take_zero, List.drop_succ_cons, List.drop_zero, List.nil_append, List.cons_append]
    clear hF
    have x10 : ExtB g w W10 := ExtB.ext x9 e10
    have r2_10 := (row_ext r2_9 e10)
    refine seq_store g _ (cat [ints .u32 ([(wv ((s.a) + ((rnds KK (w64 b) s i).a))), (wv ((s.b) + ((rnds KK (w64 b) s i).b))), wv s.c, wv s.d, wv s.e, wv s.f, wv s.g, wv s.h]), ints .u8 (b), #[.int .i64 m]]) 90 r2_10 rfl kj (run_storeP 84 _ _ g 1 90 [] [ints .u8 (b), #[.int .i64 m]] ([(wv ((s.a) + ((rnds KK (w64 b) s i).a))), wv s.b, wv s.c, wv s.d, wv s.e, wv s.f, wv s.g, wv s.h]) 0 1 _ r2_10 rfl kj kj kj kj rfl (Nat.lt_of_lt_of_eq (show 1 < 8 by decide) rfl.symm)) fun W11 p11 r2_11 => ?_
    have x11 : ExtB g w W11 := ExtB.puts x10 p11
    refine seq_nil ?_
    refine hK26 _ _ ?_
    try clear hK26 K26
    refine region_lit ?_
    refine seq_val (.int .i64 2) 136 rfl kj kj ?_
    refine seq_val (.int .i64 2) 121 rfl kj kj ?_
    refine seq_nil ?_
    show Code.rounds _ _ _ 7 _ _
    show Code.wp _ _ (Exit.then (Code.rounds _ _ _ 6) _) _ _
    refine wp_seq_k fun K28 hK28 => ?_
    refine region_lit ?_
    refine seq_val (.bool true) 122 rfl kj kj ?_
    refine seq_nil ?_
    refine hK28 _ _ ?_
    try clear hK28 K28
    refine wp_seq_k fun K29 hK29 => ?_
    refine cond_true kj ?_
    refine wp_skip ?_
    refine hK29 _ _ ?_
    try clear hK29 K29
    refine wp_seq_k fun K30 hK30 => ?_
    refine wp_block ?_
    refine wp_seq_k fun K31 hK31 => ?_
    refine region_lit ?_
    refine seq_val (.int .i64 2) 123 rfl kj kj ?_
    refine seq_val (.int .u32 (wv (rnds KK (w64 b) s i).c)) 124 rfl kj (run_index_il 88 _ _ .i64 .u32 ([wv (rnds KK (w64 b) s i).a, wv (rnds KK (w64 b) s i).b, wv (rnds KK (w64 b) s i).c, wv (rnds KK (w64 b) s i).d, wv (rnds KK (w64 b) s i).e, wv (rnds KK (w64 b) s i).f, wv (rnds KK (w64 b) s i).g, wv (rnds KK (w64 b) s i).h]) 2 8 84 (wv (rnds KK (w64 b) s i).c) rfl kj kj kj kj kj rfl (by decide) rfl) ?_
    refine seq_val (.int .i64 2) 18 rfl kj kj ?_
    refine seq_val (.int .u32 (wv (rnds KK (w64 b) s i).c)) 19 rfl kj kj ?_
    refine seq_nil ?_
    refine hK31 _ _ ?_
    try clear hK31 K31
    refine any_region 11 [⟨none, [(0, none)]⟩, ⟨none, [(18, none)]⟩, ⟨none, [(125, some 0)]⟩, ⟨none, [(127, some 2)]⟩, ⟨none, [(128, some 3), (126, some 1)]⟩, ⟨none, [(129, some 4)]⟩, ⟨none, [(19, none)]⟩, ⟨none, [(130, some 5), (131, some 6)]⟩, ⟨none, [(125, some 0)]⟩, ⟨none, [(133, some 8)]⟩, ⟨none, [(134, some 9), (126, some 1)]⟩] kj kj fun F hF => ?_
    refine any_val (.pointer (some ⟨g, 0, none⟩)) kj kj (fun W => by kernel_rfl) ?_
    refine any_val (.int .i64 2) kj kj (fun W => by kernel_rfl) ?_
    refine any_val (.pointer (some ⟨g, 0, none⟩)) kj kj (fun W => by kernel_rfl) ?_
    refine any_val (.pointer (some ⟨g, 0, none⟩)) kj kj (fun W => by kernel_rfl) ?_
    refine any_val (.pointer (some ⟨g, 2, none⟩)) kj kj (fun W => by kernel_rfl) ?_
    refine any_read (.int .u32 (wv s.c)) kj kj (fun W hR => (run_loadC1 84 _ g 2 90 _ (.int .u32 (wv s.c)) _ (row_ext (row_ext r2_11 (ext_drew _)) hR) rfl kj (get_part [] [ints .u8 (b), #[.int .i64 m]] ([(wv ((s.a) + ((rnds KK (w64 b) s i).a))), (wv ((s.b) + ((rnds KK (w64 b) s i).b))), wv s.c, wv s.d, wv s.e, wv s.f, wv s.g, wv s.h]) 0 2 2 kj rfl (Nat.lt_of_lt_of_eq (show 2 < 8 by decide) rfl.symm)) kj)) ?_
    refine any_val (.int .u32 (wv (rnds KK (w64 b) s i).c)) kj kj (fun W => by kernel_rfl) ?_
    refine any_val (.int .u32 (wv ((s.c) + ((rnds KK (w64 b) s i).c)))) kj kj (fun W => (run_eq (u := .int .u32 (IntKind.u32.wrap (wv s.c + wv ((rnds KK (w64 b) s i).c)))) kj (congrArg (Value.int .u32) (w_add _ _)))) ?_
    refine any_val (.pointer (some ⟨g, 0, none⟩)) kj kj (fun W => by kernel_rfl) ?_
    refine any_val (.pointer (some ⟨g, 0, none⟩)) kj kj (fun W => by kernel_rfl) ?_
    refine any_val (.pointer (some ⟨g, 2, none⟩)) kj kj (fun W => by kernel_rfl) ?_
    refine steps_nil (hF _ kj fun W12 e12 => ?_)
    simp only [ups, up, Kn.val, List.take_succ_cons, List.take_zero, List.drop_succ_cons, List.drop_zero, List.nil_append, List.cons_append]
    clear hF
    have x12 : ExtB g w W12 := ExtB.ext x11 e12
    have r2_12 := (row_ext r2_11 e12)
    refine seq_store g _ (cat [ints .u32 ([(wv ((s.a) + ((rnds KK (w64 b) s i).a))), (wv ((s.b) + ((rnds KK (w64 b) s i).b))), (wv ((s.c) + ((rnds KK (w64 b) s i).c))), wv s.d, wv s.e, wv s.f, wv s.g, wv s.h]), ints .u8 (b), #[.int .i64 m]]) 90 r2_12 rfl kj (run_storeP 84 _ _ g 2 90 [] [ints .u8 (b), #[.int .i64 m]] ([(wv ((s.a) + ((rnds KK (w64 b) s i).a))), (wv ((s.b) + ((rnds KK (w64 b) s i).b))), wv s.c, wv s.d, wv s.e, wv s.f, wv s.g, wv s.h]) 0 2 _ r2_12 rfl kj kj kj kj rfl (Nat.lt_of_lt_of_eq (show 2 < 8 by decide) rfl.symm)) fun W13 p13 r2_13 => ?_
    have x13 : ExtB g w W13 := ExtB.puts x12 p13
    refine seq_nil ?_
    refine hK30 _ _ ?_
    try clear hK30 K30
    refine region_lit ?_
    refine seq_val (.int .i64 3) 136 rfl kj kj ?_
    refine seq_val (.int .i64 3) 121 rfl kj kj ?_
    refine seq_nil ?_
    show Code.rounds _ _ _ 6 _ _
    show Code.wp _ _ (Exit.then (Code.rounds _ _ _ 5) _) _ _
    refine wp_seq_k fun K32 hK32 => ?_
    refine region_lit ?_
    refine seq_val (.bool true) 122 rfl kj kj ?_
    refine seq_nil ?_
    refine hK32 _ _ ?_
    try clear hK32 K32
    refine wp_seq_k fun K33 hK33 => ?_
    refine cond_true kj ?_
    refine wp_skip ?_
    refine hK33 _ _ ?_
    try clear hK33 K33
    refine wp_seq_k fun K34 hK34 => ?_
    refine wp_block ?_
    refine wp_seq_k fun K35 hK35 => ?_
    refine region_lit ?_
    refine seq_val (.int .i64 3) 123 rfl kj kj ?_
    refine seq_val (.int .u32 (wv (rnds KK (w64 b) s i).d)) 124 rfl kj (run_index_il 88 _ _ .i64 .u32 ([wv (rnds KK (w64 b) s i).a, wv (rnds KK (w64 b) s i).b, wv (rnds KK (w64 b) s i).c, wv (rnds KK (w64 b) s i).d, wv (rnds KK (w64 b) s i).e, wv (rnds KK (w64 b) s i).f, wv (rnds KK (w64 b) s i).g, wv (rnds KK (w64 b) s i).h]) 3 8 84 (wv (rnds KK (w64 b) s i).d) rfl kj kj kj kj kj rfl (by decide) rfl) ?_
    refine seq_val (.int .i64 3) 18 rfl kj kj ?_
    refine seq_val (.int .u32 (wv (rnds KK (w64 b) s i).d)) 19 rfl kj kj ?_
    refine seq_nil ?_
    refine hK35 _ _ ?_
    try clear hK35 K35
    refine any_region 11 [⟨none, [(0, none)]⟩, ⟨none, [(18, none)]⟩, ⟨none, [(125, some 0)]⟩, ⟨none, [(127, some 2)]⟩, ⟨none, [(128, some 3), (126, some 1)]⟩, ⟨none, [(129, some 4)]⟩, ⟨none, [(19, none)]⟩, ⟨none, [(130, some 5), (131, some 6)]⟩, ⟨none, [(125, some 0)]⟩, ⟨none, [(133, some 8)]⟩, ⟨none, [(134, some 9), (126, some 1)]⟩] kj kj fun F hF => ?_
    refine any_val (.pointer (some ⟨g, 0, none⟩)) kj kj (fun W => by kernel_rfl) ?_
    refine any_val (.int .i64 3) kj kj (fun W => by kernel_rfl) ?_
    refine any_val (.pointer (some ⟨g, 0, none⟩)) kj kj (fun W => by kernel_rfl) ?_
    refine any_val (.pointer (some ⟨g, 0, none⟩)) kj kj (fun W => by kernel_rfl) ?_
    refine any_val (.pointer (some ⟨g, 3, none⟩)) kj kj (fun W => by kernel_rfl) ?_
    refine any_read (.int .u32 (wv s.d)) kj kj (fun W hR => (run_loadC1 84 _ g 3 90 _ (.int .u32 (wv s.d)) _ (row_ext (row_ext r2_13 (ext_drew _)) hR) rfl kj (get_part [] [ints .u8 (b), #[.int .i64 m]] ([(wv ((s.a) + ((rnds KK (w64 b) s i).a))), (wv ((s.b) + ((rnds KK (w64 b) s i).b))), (wv ((s.c) + ((rnds KK (w64 b) s i).c))), wv s.d, wv s.e, wv s.f, wv s.g, wv s.h]) 0 3 3 kj rfl (Nat.lt_of_lt_of_eq (show 3 < 8 by decide) rfl.symm)) kj)) ?_
    refine any_val (.int .u32 (wv (rnds KK (w64 b) s i).d)) kj kj (fun W => by kernel_rfl) ?_
    refine any_val (.int .u32 (wv ((s.d) + ((rnds KK (w64 b) s i).d)))) kj kj (fun W => (run_eq (u := .int .u32 (IntKind.u32.wrap (wv s.d + wv ((rnds KK (w64 b) s i).d)))) kj (congrArg (Value.int .u32) (w_add _ _)))) ?_
    refine any_val (.pointer (some ⟨g, 0, none⟩)) kj kj (fun W => by kernel_rfl) ?_
    refine any_val (.pointer (some ⟨g, 0, none⟩)) kj kj (fun W => by kernel_rfl) ?_
    refine any_val (.pointer (some ⟨g, 3, none⟩)) kj kj (fun W => by kernel_rfl) ?_
    refine steps_nil (hF _ kj fun W14 e14 => ?_)
    simp only [ups, up, Kn.val, List.take_succ_cons, List.take_zero, List.drop_succ_cons, List.drop_zero, List.nil_append, List.cons_append]
    clear hF
    have x14 : ExtB g w W14 := ExtB.ext x13 e14
    have r2_14 := (row_ext r2_13 e14)
    refine seq_store g _ (cat [ints .u32 ([(wv ((s.a) + ((rnds KK (w64 b) s i).a))), (wv ((s.b) + ((rnds KK (w64 b) s i).b))), (wv ((s.c) + ((rnds KK (w64 b) s i).c))), (wv ((s.d) + ((rnds KK (w64 b) s i).d))), wv s.e, wv s.f, wv s.g, wv s.h]), ints .u8 (b), #[.int .i64 m]]) 90 r2_14 rfl kj (run_storeP 84 _ _ g 3 90 [] [ints .u8 (b), #[.int .i64 m]] ([(wv ((s.a) + ((rnds KK (w64 b) s i).a))), (wv ((s.b) + ((rnds KK (w64 b) s i).b))), (wv ((s.c) + ((rnds KK (w64 b) s i).c))), wv s.d, wv s.e, wv s.f, wv s.g, wv s.h]) 0 3 _ r2_14 rfl kj kj kj kj rfl (Nat.lt_of_lt_of_eq (show 3 < 8 by decide) rfl.symm)) fun W15 p15 r2_15 => ?_
    have x15 : ExtB g w W15 := ExtB.puts x14 p15
    refine seq_nil ?_
    refine hK34 _ _ ?_
    try clear hK34 K34
    refine region_lit ?_
    refine seq_val (.int .i64 4) 136 rfl kj kj ?_
    refine seq_val (.int .i64 4) 121 rfl kj kj ?_
    refine seq_nil ?_
    show Code.rounds _ _ _ 5 _ _
    show Code.wp _ _ (Exit.then (Code.rounds _ _ _ 4) _) _ _
    refine wp_seq_k fun K36 hK36 => ?_
    refine region_lit ?_
    refine seq_val (.bool true) 122 rfl kj kj ?_
    refine seq_nil ?_
    refine hK36 _ _ ?_
    try clear hK36 K36
    refine wp_seq_k fun K37 hK37 => ?_
    refine cond_true kj ?_
    refine wp_skip ?_
    refine hK37 _ _ ?_
    try clear hK37 K37
    refine wp_seq_k fun K38 hK38 => ?_
    refine wp_block ?_
    refine wp_seq_k fun K39 hK39 => ?_
    refine region_lit ?_
    refine seq_val (.int .i64 4) 123 rfl kj kj ?_
    refine seq_val (.int .u32 (wv (rnds KK (w64 b) s i).e)) 124 rfl kj (run_index_il 88 _ _ .i64 .u32 ([wv (rnds KK (w64 b) s i).a, wv (rnds KK (w64 b) s i).b, wv (rnds KK (w64 b) s i).c, wv (rnds KK (w64 b) s i).d, wv (rnds KK (w64 b) s i).e, wv (rnds KK (w64 b) s i).f, wv (rnds KK (w64 b) s i).g, wv (rnds KK (w64 b) s i).h]) 4 8 84 (wv (rnds KK (w64 b) s i).e) rfl kj kj kj kj kj rfl (by decide) rfl) ?_
    refine seq_val (.int .i64 4) 18 rfl kj kj ?_
    refine seq_val (.int .u32 (wv (rnds KK (w64 b) s i).e)) 19 rfl kj kj ?_
    refine seq_nil ?_
    refine hK39 _ _ ?_
    try clear hK39 K39
    refine any_region 11 [⟨none, [(0, none)]⟩, ⟨none, [(18, none)]⟩, ⟨none, [(125, some 0)]⟩, ⟨none, [(127, some 2)]⟩, ⟨none, [(128, some 3), (126, some 1)]⟩, ⟨none, [(129, some 4)]⟩, ⟨none, [(19, none)]⟩, ⟨none, [(130, some 5), (131, some 6)]⟩, ⟨none, [(125, some 0)]⟩, ⟨none, [(133, some 8)]⟩, ⟨none, [(134, some 9), (126, some 1)]⟩] kj kj fun F hF => ?_
    refine any_val (.pointer (some ⟨g, 0, none⟩)) kj kj (fun W => by kernel_rfl) ?_
    refine any_val (.int .i64 4) kj kj (fun W => by kernel_rfl) ?_
    refine any_val (.pointer (some ⟨g, 0, none⟩)) kj kj (fun W => by kernel_rfl) ?_
    refine any_val (.pointer (some ⟨g, 0, none⟩)) kj kj (fun W => by kernel_rfl) ?_
    refine any_val (.pointer (some ⟨g, 4, none⟩)) kj kj (fun W => by kernel_rfl) ?_
    refine any_read (.int .u32 (wv s.e)) kj kj (fun W hR => (run_loadC1 84 _ g 4 90 _ (.int .u32 (wv s.e)) _ (row_ext (row_ext r2_15 (ext_drew _)) hR) rfl kj (get_part [] [ints .u8 (b), #[.int .i64 m]] ([(wv ((s.a) + ((rnds KK (w64 b) s i).a))), (wv ((s.b) + ((rnds KK (w64 b) s i).b))), (wv ((s.c) + ((rnds KK (w64 b) s i).c))), (wv ((s.d) + ((rnds KK (w64 b) s i).d))), wv s.e, wv s.f, wv s.g, wv s.h]) 0 4 4 kj rfl (Nat.lt_of_lt_of_eq (show 4 < 8 by decide) rfl.symm)) kj)) ?_
    refine any_val (.int .u32 (wv (rnds KK (w64 b) s i).e)) kj kj (fun W => by kernel_rfl) ?_
    refine any_val (.int .u32 (wv ((s.e) + ((rnds KK (w64 b) s i).e)))) kj kj (fun W => (run_eq (u := .int .u32 (IntKind.u32.wrap (wv s.e + wv ((rnds KK (w64 b) s i).e)))) kj (congrArg (Value.int .u32) (w_add _ _)))) ?_
    refine any_val (.pointer (some ⟨g, 0, none⟩)) kj kj (fun W => by kernel_rfl) ?_
    refine any_val (.pointer (some ⟨g, 0, none⟩)) kj kj (fun W => by kernel_rfl) ?_
    refine any_val (.pointer (some ⟨g, 4, none⟩)) kj kj (fun W => by kernel_rfl) ?_
    refine steps_nil (hF _ kj fun W16 e16 => ?_)
    simp only [ups, up, Kn.val, List.take_succ_cons, List.take_zero, List.drop_succ_cons, List.drop_zero, List.nil_append, List.cons_append]
    clear hF
    have x16 : ExtB g w W16 := ExtB.ext x15 e16
    have r2_16 := (row_ext r2_15 e16)
    refine seq_store g _ (cat [ints .u32 ([(wv ((s.a) + ((rnds KK (w64 b) s i).a))), (wv ((s.b) + ((rnds KK (w64 b) s i).b))), (wv ((s.c) + ((rnds KK (w64 b) s i).c))), (wv ((s.d) + ((rnds KK (w64 b) s i).d))), (wv ((s.e) + ((rnds KK (w64 b) s i).e))), wv s.f, wv s.g, wv s.h]), ints .u8 (b), #[.int .i64 m]]) 90 r2_16 rfl kj (run_storeP 84 _ _ g 4 90 [] [ints .u8 (b), #[.int .i64 m]] ([(wv ((s.a) + ((rnds KK (w64 b) s i).a))), (wv ((s.b) + ((rnds KK (w64 b) s i).b))), (wv ((s.c) + ((rnds KK (w64 b) s i).c))), (wv ((s.d) + ((rnds KK (w64 b) s i).d))), wv s.e, wv s.f, wv s.g, wv s.h]) 0 4 _ r2_16 rfl kj kj kj kj rfl (Nat.lt_of_lt_of_eq (show 4 < 8 by decide) rfl.symm)) fun W17 p17 r2_17 => ?_
    have x17 : ExtB g w W17 := ExtB.puts x16 p17
    refine seq_nil ?_
    refine hK38 _ _ ?_
    try clear hK38 K38
    refine region_lit ?_
    refine seq_val (.int .i64 5) 136 rfl kj kj ?_
    refine seq_val (.int .i64 5) 121 rfl kj kj ?_
    refine seq_nil ?_
    show Code.rounds _ _ _ 4 _ _
    show Code.wp _ _ (Exit.then (Code.rounds _ _ _ 3) _) _ _
    refine wp_seq_k fun K40 hK40 => ?_
    refine region_lit ?_
    refine seq_val (.bool true) 122 rfl kj kj ?_
    refine seq_nil ?_
    refine hK40 _ _ ?_
    try clear hK40 K40
    refine wp_seq_k fun K41 hK41 => ?_
    refine cond_true kj ?_
    refine wp_skip ?_
    refine hK41 _ _ ?_
    try clear hK41 K41
    refine wp_seq_k fun K42 hK42 => ?_
    refine wp_block ?_
    refine wp_seq_k fun K43 hK43 => ?_
    refine region_lit ?_
    refine seq_val (.int .i64 5) 123 rfl kj kj ?_
    refine seq_val (.int .u32 (wv (rnds KK (w64 b) s i).f)) 124 rfl kj (run_index_il 88 _ _ .i64 .u32 ([wv (rnds KK (w64 b) s i).a, wv (rnds KK (w64 b) s i).b, wv (rnds KK (w64 b) s i).c, wv (rnds KK (w64 b) s i).d, wv (rnds KK (w64 b) s i).e, wv (rnds KK (w64 b) s i).f, wv (rnds KK (w64 b) s i).g, wv (rnds KK (w64 b) s i).h]) 5 8 84 (wv (rnds KK (w64 b) s i).f) rfl kj kj kj kj kj rfl (by decide) rfl) ?_
    refine seq_val (.int .i64 5) 18 rfl kj kj ?_
    refine seq_val (.int .u32 (wv (rnds KK (w64 b) s i).f)) 19 rfl kj kj ?_
    refine seq_nil ?_
    refine hK43 _ _ ?_
    try clear hK43 K43
    refine any_region 11 [⟨none, [(0, none)]⟩, ⟨none, [(18, none)]⟩, ⟨none, [(125, some 0)]⟩, ⟨none, [(127, some 2)]⟩, ⟨none, [(128, some 3), (126, some 1)]⟩, ⟨none, [(129, some 4)]⟩, ⟨none, [(19, none)]⟩, ⟨none, [(130, some 5), (131, some 6)]⟩, ⟨none, [(125, some 0)]⟩, ⟨none, [(133, some 8)]⟩, ⟨none, [(134, some 9), (126, some 1)]⟩] kj kj fun F hF => ?_
    refine any_val (.pointer (some ⟨g, 0, none⟩)) kj kj (fun W => by kernel_rfl) ?_
    refine any_val (.int .i64 5) kj kj (fun W => by kernel_rfl) ?_
    refine any_val (.pointer (some ⟨g, 0, none⟩)) kj kj (fun W => by kernel_rfl) ?_
    refine any_val (.pointer (some ⟨g, 0, none⟩)) kj kj (fun W => by kernel_rfl) ?_
    refine any_val (.pointer (some ⟨g, 5, none⟩)) kj kj (fun W => by kernel_rfl) ?_
    refine any_read (.int .u32 (wv s.f)) kj kj (fun W hR => (run_loadC1 84 _ g 5 90 _ (.int .u32 (wv s.f)) _ (row_ext (row_ext r2_17 (ext_drew _)) hR) rfl kj (get_part [] [ints .u8 (b), #[.int .i64 m]] ([(wv ((s.a) + ((rnds KK (w64 b) s i).a))), (wv ((s.b) + ((rnds KK (w64 b) s i).b))), (wv ((s.c) + ((rnds KK (w64 b) s i).c))), (wv ((s.d) + ((rnds KK (w64 b) s i).d))), (wv ((s.e) + ((rnds KK (w64 b) s i).e))), wv s.f, wv s.g, wv s.h]) 0 5 5 kj rfl (Nat.lt_of_lt_of_eq (show 5 < 8 by decide) rfl.symm)) kj)) ?_
    refine any_val (.int .u32 (wv (rnds KK (w64 b) s i).f)) kj kj (fun W => by kernel_rfl) ?_
    refine any_val (.int .u32 (wv ((s.f) + ((rnds KK (w64 b) s i).f)))) kj kj (fun W => (run_eq (u := .int .u32 (IntKind.u32.wrap (wv s.f + wv ((rnds KK (w64 b) s i).f)))) kj (congrArg (Value.int .u32) (w_add _ _)))) ?_
    refine any_val (.pointer (some ⟨g, 0, none⟩)) kj kj (fun W => by kernel_rfl) ?_
    refine any_val (.pointer (some ⟨g, 0, none⟩)) kj kj (fun W => by kernel_rfl) ?_
    refine any_val (.pointer (some ⟨g, 5, none⟩)) kj kj (fun W => by kernel_rfl) ?_
    refine steps_nil (hF _ kj fun W18 e18 => ?_)
    simp only [ups, up, Kn.val, List.take_succ_cons, List.take_zero, List.drop_succ_cons, List.drop_zero, List.nil_append, List.cons_append]
    clear hF
    have x18 : ExtB g w W18 := ExtB.ext x17 e18
    have r2_18 := (row_ext r2_17 e18)
    refine seq_store g _ (cat [ints .u32 ([(wv ((s.a) + ((rnds KK (w64 b) s i).a))), (wv ((s.b) + ((rnds KK (w64 b) s i).b))), (wv ((s.c) + ((rnds KK (w64 b) s i).c))), (wv ((s.d) + ((rnds KK (w64 b) s i).d))), (wv ((s.e) + ((rnds KK (w64 b) s i).e))), (wv ((s.f) + ((rnds KK (w64 b) s i).f))), wv s.g, wv s.h]), ints .u8 (b), #[.int .i64 m]]) 90 r2_18 rfl kj (run_storeP 84 _ _ g 5 90 [] [ints .u8 (b), #[.int .i64 m]] ([(wv ((s.a) + ((rnds KK (w64 b) s i).a))), (wv ((s.b) + ((rnds KK (w64 b) s i).b))), (wv ((s.c) + ((rnds KK (w64 b) s i).c))), (wv ((s.d) + ((rnds KK (w64 b) s i).d))), (wv ((s.e) + ((rnds KK (w64 b) s i).e))), wv s.f, wv s.g, wv s.h]) 0 5 _ r2_18 rfl kj kj kj kj rfl (Nat.lt_of_lt_of_eq (show 5 < 8 by decide) rfl.symm)) fun W19 p19 r2_19 => ?_
    have x19 : ExtB g w W19 := ExtB.puts x18 p19
    refine seq_nil ?_
    refine hK42 _ _ ?_
    try clear hK42 K42
    refine region_lit ?_
    refine seq_val (.int .i64 6) 136 rfl kj kj ?_
    refine seq_val (.int .i64 6) 121 rfl kj kj ?_
    refine seq_nil ?_
    show Code.rounds _ _ _ 3 _ _
    show Code.wp _ _ (Exit.then (Code.rounds _ _ _ 2) _) _ _
    refine wp_seq_k fun K44 hK44 => ?_
    refine region_lit ?_
    refine seq_val (.bool true) 122 rfl kj kj ?_
    refine seq_nil ?_
    refine hK44 _ _ ?_
    try clear hK44 K44
    refine wp_seq_k fun K45 hK45 => ?_
    refine cond_true kj ?_
    refine wp_skip ?_
    refine hK45 _ _ ?_
    try clear hK45 K45
    refine wp_seq_k fun K46 hK46 => ?_
    refine wp_block ?_
    refine wp_seq_k fun K47 hK47 => ?_
    refine region_lit ?_
    refine seq_val (.int .i64 6) 123 rfl kj kj ?_
    refine seq_val (.int .u32 (wv (rnds KK (w64 b) s i).g)) 124 rfl kj (run_index_il 88 _ _ .i64 .u32 ([wv (rnds KK (w64 b) s i).a, wv (rnds KK (w64 b) s i).b, wv (rnds KK (w64 b) s i).c, wv (rnds KK (w64 b) s i).d, wv (rnds KK (w64 b) s i).e, wv (rnds KK (w64 b) s i).f, wv (rnds KK (w64 b) s i).g, wv (rnds KK (w64 b) s i).h]) 6 8 84 (wv (rnds KK (w64 b) s i).g) rfl kj kj kj kj kj rfl (by decide) rfl) ?_
    refine seq_val (.int .i64 6) 18 rfl kj kj ?_
    refine seq_val (.int .u32 (wv (rnds KK (w64 b) s i).g)) 19 rfl kj kj ?_
    refine seq_nil ?_
    refine hK47 _ _ ?_
    try clear hK47 K47
    refine any_region 11 [⟨none, [(0, none)]⟩, ⟨none, [(18, none)]⟩, ⟨none, [(125, some 0)]⟩, ⟨none, [(127, some 2)]⟩, ⟨none, [(128, some 3), (126, some 1)]⟩, ⟨none, [(129, some 4)]⟩, ⟨none, [(19, none)]⟩, ⟨none, [(130, some 5), (131, some 6)]⟩, ⟨none, [(125, some 0)]⟩, ⟨none, [(133, some 8)]⟩, ⟨none, [(134, some 9), (126, some 1)]⟩] kj kj fun F hF => ?_
    refine any_val (.pointer (some ⟨g, 0, none⟩)) kj kj (fun W => by kernel_rfl) ?_
    refine any_val (.int .i64 6) kj kj (fun W => by kernel_rfl) ?_
    refine any_val (.pointer (some ⟨g, 0, none⟩)) kj kj (fun W => by kernel_rfl) ?_
    refine any_val (.pointer (some ⟨g, 0, none⟩)) kj kj (fun W => by kernel_rfl) ?_
    refine any_val (.pointer (some ⟨g, 6, none⟩)) kj kj (fun W => by kernel_rfl) ?_
    refine any_read (.int .u32 (wv s.g)) kj kj (fun W hR => (run_loadC1 84 _ g 6 90 _ (.int .u32 (wv s.g)) _ (row_ext (row_ext r2_19 (ext_drew _)) hR) rfl kj (get_part [] [ints .u8 (b), #[.int .i64 m]] ([(wv ((s.a) + ((rnds KK (w64 b) s i).a))), (wv ((s.b) + ((rnds KK (w64 b) s i).b))), (wv ((s.c) + ((rnds KK (w64 b) s i).c))), (wv ((s.d) + ((rnds KK (w64 b) s i).d))), (wv ((s.e) + ((rnds KK (w64 b) s i).e))), (wv ((s.f) + ((rnds KK (w64 b) s i).f))), wv s.g, wv s.h]) 0 6 6 kj rfl (Nat.lt_of_lt_of_eq (show 6 < 8 by decide) rfl.symm)) kj)) ?_
    refine any_val (.int .u32 (wv (rnds KK (w64 b) s i).g)) kj kj (fun W => by kernel_rfl) ?_
    refine any_val (.int .u32 (wv ((s.g) + ((rnds KK (w64 b) s i).g)))) kj kj (fun W => (run_eq (u := .int .u32 (IntKind.u32.wrap (wv s.g + wv ((rnds KK (w64 b) s i).g)))) kj (congrArg (Value.int .u32) (w_add _ _)))) ?_
    refine any_val (.pointer (some ⟨g, 0, none⟩)) kj kj (fun W => by kernel_rfl) ?_
    refine any_val (.pointer (some ⟨g, 0, none⟩)) kj kj (fun W => by kernel_rfl) ?_
    refine any_val (.pointer (some ⟨g, 6, none⟩)) kj kj (fun W => by kernel_rfl) ?_
    refine steps_nil (hF _ kj fun W20 e20 => ?_)
    simp only [ups, up, Kn.val, List.take_succ_cons, List.take_zero, List.drop_succ_cons, List.drop_zero, List.nil_append, List.cons_append]
    clear hF
    have x20 : ExtB g w W20 := ExtB.ext x19 e20
    have r2_20 := (row_ext r2_19 e20)
    refine seq_store g _ (cat [ints .u32 ([(wv ((s.a) + ((rnds KK (w64 b) s i).a))), (wv ((s.b) + ((rnds KK (w64 b) s i).b))), (wv ((s.c) + ((rnds KK (w64 b) s i).c))), (wv ((s.d) + ((rnds KK (w64 b) s i).d))), (wv ((s.e) + ((rnds KK (w64 b) s i).e))), (wv ((s.f) + ((rnds KK (w64 b) s i).f))), (wv ((s.g) + ((rnds KK (w64 b) s i).g))), wv s.h]), ints .u8 (b), #[.int .i64 m]]) 90 r2_20 rfl kj (run_storeP 84 _ _ g 6 90 [] [ints .u8 (b), #[.int .i64 m]] ([(wv ((s.a) + ((rnds KK (w64 b) s i).a))), (wv ((s.b) + ((rnds KK (w64 b) s i).b))), (wv ((s.c) + ((rnds KK (w64 b) s i).c))), (wv ((s.d) + ((rnds KK (w64 b) s i).d))), (wv ((s.e) + ((rnds KK (w64 b) s i).e))), (wv ((s.f) + ((rnds KK (w64 b) s i).f))), wv s.g, wv s.h]) 0 6 _ r2_20 rfl kj kj kj kj rfl (Nat.lt_of_lt_of_eq (show 6 < 8 by decide) rfl.symm)) fun W21 p21 r2_21 => ?_
    have x21 : ExtB g w W21 := ExtB.puts x20 p21
    refine seq_nil ?_
    refine hK46 _ _ ?_
    try clear hK46 K46
    refine region_lit ?_
    refine seq_val (.int .i64 7) 136 rfl kj kj ?_
    refine seq_val (.int .i64 7) 121 rfl kj kj ?_
    refine seq_nil ?_
    show Code.rounds _ _ _ 2 _ _
    show Code.wp _ _ (Exit.then (Code.rounds _ _ _ 1) _) _ _
    refine wp_seq_k fun K48 hK48 => ?_
    refine region_lit ?_
    refine seq_val (.bool true) 122 rfl kj kj ?_
    refine seq_nil ?_
    refine hK48 _ _ ?_
    try clear hK48 K48
    refine wp_seq_k fun K49 hK49 => ?_
    refine cond_true kj ?_
    refine wp_skip ?_
    refine hK49 _ _ ?_
    try clear hK49 K49
    refine wp_seq_k fun K50 hK50 => ?_
    refine wp_block ?_
    refine wp_seq_k fun K51 hK51 => ?_
    refine region_lit ?_
    refine seq_val (.int .i64 7) 123 rfl kj kj ?_
    refine seq_val (.int .u32 (wv (rnds KK (w64 b) s i).h)) 124 rfl kj (run_index_il 88 _ _ .i64 .u32 ([wv (rnds KK (w64 b) s i).a, wv (rnds KK (w64 b) s i).b, wv (rnds KK (w64 b) s i).c, wv (rnds KK (w64 b) s i).d, wv (rnds KK (w64 b) s i).e, wv (rnds KK (w64 b) s i).f, wv (rnds KK (w64 b) s i).g, wv (rnds KK (w64 b) s i).h]) 7 8 84 (wv (rnds KK (w64 b) s i).h) rfl kj kj kj kj kj rfl (by decide) rfl) ?_
    refine seq_val (.int .i64 7) 18 rfl kj kj ?_
    refine seq_val (.int .u32 (wv (rnds KK (w64 b) s i).h)) 19 rfl kj kj ?_
    refine seq_nil ?_
    refine hK51 _ _ ?_
    try clear hK51 K51
    refine any_region 11 [⟨none, [(0, none)]⟩, ⟨none, [(18, none)]⟩, ⟨none, [(125, some 0)]⟩, ⟨none, [(127, some 2)]⟩, ⟨none, [(128, some 3), (126, some 1)]⟩, ⟨none, [(129, some 4)]⟩, ⟨none, [(19, none)]⟩, ⟨none, [(130, some 5), (131, some 6)]⟩, ⟨none, [(125, some 0)]⟩, ⟨none, [(133, some 8)]⟩, ⟨none, [(134, some 9), (126, some 1)]⟩] kj kj fun F hF => ?_
    refine any_val (.pointer (some ⟨g, 0, none⟩)) kj kj (fun W => by kernel_rfl) ?_
    refine any_val (.int .i64 7) kj kj (fun W => by kernel_rfl) ?_
    refine any_val (.pointer (some ⟨g, 0, none⟩)) kj kj (fun W => by kernel_rfl) ?_
    refine any_val (.pointer (some ⟨g, 0, none⟩)) kj kj (fun W => by kernel_rfl) ?_
    refine any_val (.pointer (some ⟨g, 7, none⟩)) kj kj (fun W => by kernel_rfl) ?_
    refine any_read (.int .u32 (wv s.h)) kj kj (fun W hR => (run_loadC1 84 _ g 7 90 _ (.int .u32 (wv s.h)) _ (row_ext (row_ext r2_21 (ext_drew _)) hR) rfl kj (get_part [] [ints .u8 (b), #[.int .i64 m]] ([(wv ((s.a) + ((rnds KK (w64 b) s i).a))), (wv ((s.b) + ((rnds KK (w64 b) s i).b))), (wv ((s.c) + ((rnds KK (w64 b) s i).c))), (wv ((s.d) + ((rnds KK (w64 b) s i).d))), (wv ((s.e) + ((rnds KK (w64 b) s i).e))), (wv ((s.f) + ((rnds KK (w64 b) s i).f))), (wv ((s.g) + ((rnds KK (w64 b) s i).g))), wv s.h]) 0 7 7 kj rfl (Nat.lt_of_lt_of_eq (show 7 < 8 by decide) rfl.symm)) kj)) ?_
    refine any_val (.int .u32 (wv (rnds KK (w64 b) s i).h)) kj kj (fun W => by kernel_rfl) ?_
    refine any_val (.int .u32 (wv ((s.h) + ((rnds KK (w64 b) s i).h)))) kj kj (fun W => (run_eq (u := .int .u32 (IntKind.u32.wrap (wv s.h + wv ((rnds KK (w64 b) s i).h)))) kj (congrArg (Value.int .u32) (w_add _ _)))) ?_
    refine any_val (.pointer (some ⟨g, 0, none⟩)) kj kj (fun W => by kernel_rfl) ?_
    refine any_val (.pointer (some ⟨g, 0, none⟩)) kj kj (fun W => by kernel_rfl) ?_
    refine any_val (.pointer (some ⟨g, 7, none⟩)) kj kj (fun W => by kernel_rfl) ?_
    refine steps_nil (hF _ kj fun W22 e22 => ?_)
    simp only [ups, up, Kn.val, List.take_succ_cons, List.take_zero, List.drop_succ_cons, List.drop_zero, List.nil_append, List.cons_append]
    clear hF
    have x22 : ExtB g w W22 := ExtB.ext x21 e22
    have r2_22 := (row_ext r2_21 e22)
    refine seq_store g _ (cat [ints .u32 ([(wv ((s.a) + ((rnds KK (w64 b) s i).a))), (wv ((s.b) + ((rnds KK (w64 b) s i).b))), (wv ((s.c) + ((rnds KK (w64 b) s i).c))), (wv ((s.d) + ((rnds KK (w64 b) s i).d))), (wv ((s.e) + ((rnds KK (w64 b) s i).e))), (wv ((s.f) + ((rnds KK (w64 b) s i).f))), (wv ((s.g) + ((rnds KK (w64 b) s i).g))), (wv ((s.h) + ((rnds KK (w64 b) s i).h)))]), ints .u8 (b), #[.int .i64 m]]) 90 r2_22 rfl kj (run_storeP 84 _ _ g 7 90 [] [ints .u8 (b), #[.int .i64 m]] ([(wv ((s.a) + ((rnds KK (w64 b) s i).a))), (wv ((s.b) + ((rnds KK (w64 b) s i).b))), (wv ((s.c) + ((rnds KK (w64 b) s i).c))), (wv ((s.d) + ((rnds KK (w64 b) s i).d))), (wv ((s.e) + ((rnds KK (w64 b) s i).e))), (wv ((s.f) + ((rnds KK (w64 b) s i).f))), (wv ((s.g) + ((rnds KK (w64 b) s i).g))), wv s.h]) 0 7 _ r2_22 rfl kj kj kj kj rfl (Nat.lt_of_lt_of_eq (show 7 < 8 by decide) rfl.symm)) fun W23 p23 r2_23 => ?_
    have x23 : ExtB g w W23 := ExtB.puts x22 p23
    refine seq_nil ?_
    refine hK50 _ _ ?_
    try clear hK50 K50
    refine region_lit ?_
    refine seq_val (.int .i64 8) 136 rfl kj kj ?_
    refine seq_val (.int .i64 8) 121 rfl kj kj ?_
    refine seq_nil ?_
    show Code.rounds _ _ _ 1 _ _
    show Code.wp _ _ (Exit.then (Code.rounds _ _ _ 0) _) _ _
    refine wp_seq_k fun K52 hK52 => ?_
    refine region_lit ?_
    refine seq_val (.bool false) 122 rfl kj kj ?_
    refine seq_nil ?_
    refine hK52 _ _ ?_
    try clear hK52 K52
    refine wp_seq_k fun K53 hK53 => ?_
    refine cond_false kj ?_
    refine wp_exit ?_
    repeat (first | with_reducible refine goX1 ?_ | with_reducible refine goX2 ?_ | with_reducible refine goX3 ?_)
    exact (show bodyPost _ _ _ .normal _ _ from end0 rfl ⟨rfl, x23, by rw [heq47] at *; exact r2_23⟩)

end Go.Proofs.YtamlhbbphnamnaaDoor.Sha
