/- The key schedule: contexts. -/
import Derived.Test.YtamlhbbphnamnaaDoorSchC
namespace Go.Proofs.YtamlhbbphnamnaaDoor.Sha
open Go Go.RowKit
open Go.Proofs.YtamlhbbphnamnaaDoor.Rely Go.Proofs.YtamlhbbphnamnaaDoor.Auto Go.Proofs.YtamlhbbphnamnaaDoor.Own
set_option linter.unusedVariables false
set_option linter.unusedSimpArgs false

theorem byteZ (x y : Int) (h : x % 256 = y) : IntKind.u8.wrap x = y := by
  have : IntKind.u8.wrap x = x % 2 ^ 8 := rfl
  rw [this, ← h]; rfl
theorem word32 (x : Int) : IntKind.u32.wrap x = x % 4294967296 := by
  have : IntKind.u32.wrap x = x % 2 ^ 32 := rfl
  rw [this]; rfl
theorem shrZ (a : Int) (s : Int) (c : Int) (hc : 0 ≤ c) (h : (2 : Int) ^ min s.toNat IntKind.i64.bits = c) : a.fdiv (2 ^ min s.toNat IntKind.i64.bits) = a / c := by
  rw [h, Int.fdiv_eq_ediv_of_nonneg _ hc]
theorem quo32 (e c y : Int) (hc : 1 ≤ c) (h : e % 4294967296 / c = y) : IntKind.u32.wrap (Int.tdiv (e % 4294967296) c) = y := by
  have h0 : 0 ≤ e % 4294967296 := by omega
  rw [word32, Int.tdiv_eq_ediv_of_nonneg h0, h]
  have h1 : 0 ≤ y := by rw [← h]; exact Int.ediv_nonneg h0 (by omega)
  have h2 : y ≤ e % 4294967296 := by rw [← h]; exact Int.ediv_le_self _ h0
  omega
theorem rem32 (x y : Int) (h0 : 0 ≤ x) (h : x % 256 = y) : Int.tmod x 256 = y := by rw [Int.tmod_eq_emod_of_nonneg h0, h]
def epB (e : Int) : List Int := [e / 16777216 % 256, e / 65536 % 256, e / 256 % 256, e % 256]
def ctxL (g : List Int) (e : Int) (t c : List Int) : List Int := ((g ++ epB e) ++ t) ++ c
theorem ctxL_len (g : List Int) (e : Int) (t c : List Int) (hg : g.length = 32) (ht : t.length = 32) (hc : c.length = 32) : (ctxL g e t c).length = 100 := by
  unfold ctxL epB
  simp only [List.length_append, List.length_cons, List.length_nil]; omega
theorem ctxL_bytes (g : List Int) (e : Int) (t c : List Int) (hg : AreBytes g) (ht : AreBytes t) (hc : AreBytes c) : AreBytes (ctxL g e t c) := by
  unfold ctxL epB
  refine bytes_app (bytes_app (bytes_app hg ?_) ht) hc
  intro x hx
  simp only [List.mem_cons, List.not_mem_nil, or_false] at hx
  omega
set_option maxHeartbeats 4000000 in
theorem contextC (g t c : List Int) (e : Int) (w : World) (hgl : g.length = 32) (htl : t.length = 32) (hcl : c.length = 32) : Calls Tryd.prog 28 #[.agg (ints .u8 g), .int .i64 e, .agg (ints .u8 t), .agg (ints .u8 c)] w (Gives w (OwnN .u8 5 w.heap.size (ctxL g e t c))) := by
  refine enter 34 [(0, .agg (ints .u8 (g))), (1, .int .i64 e), (2, .agg (ints .u8 (t))), (3, .agg (ints .u8 (c)))] Tryd.func28 rfl rfl kj rfl ?_
  refine wp_seq_k fun K1 hK1 => ?_
  refine region_lit ?_
  refine seq_alloc (ints .u8 (g)) 26 4 rfl kj kj fun g2 W1 l2 e1 r2_1 => ?_
  have x1 : Ext w W1 := Ext.tr (Rely.Ext.refl w) e1
  have b2 : w.heap.size ≤ g2 := Nat.le_trans (Rely.Ext.refl w).size l2
  refine seq_alloc (ints .u8 (t)) 26 6 rfl kj kj fun g3 W2 l3 e2 r3_2 => ?_
  have x2 : Ext w W2 := Ext.tr x1 e2
  have b3 : w.heap.size ≤ g3 := Nat.le_trans x1.size l3
  refine seq_alloc (ints .u8 (c)) 26 7 rfl kj kj fun g4 W3 l4 e3 r4_3 => ?_
  have x3 : Ext w W3 := Ext.tr x2 e3
  have b4 : w.heap.size ≤ g4 := Nat.le_trans x2.size l4
  refine seq_val (.slice none 0 0) 8 rfl kj kj ?_
  refine seq_nil ?_
  refine hK1 _ _ ?_
  try clear hK1 K1
  refine wp_seq_k fun K5 hK5 => ?_
  refine region_lit ?_
  refine seq_makeC (ints .u8 (List.replicate (100) 0)) 5 (100) 10 rfl kj (run_makeC 22 _ _ .i64 .i64 (100) 5 rfl kj kj kj kj (by omega)) fun g6 W4 l6 e4 r6_4 => ?_
  have x4 : Ext w W4 := Ext.tr x3 e4
  have b6 : w.heap.size ≤ g6 := Nat.le_trans x3.size l6
  have hz0 : OwnN .u8 5 W3.heap.size [] (.slice (some ⟨g6, 0, none⟩) 0 (100)) W4 := ownN_at (n := 0) rfl l6 r6_4 (by rw [ints_size, List.length_replicate]) (Nat.zero_le _) (by simp only [maxLen]; omega) rfl
  refine seq_val (.slice (some ⟨g6, 0, none⟩) 0 100) 9 rfl kj kj ?_
  refine seq_nil ?_
  refine hK5 _ _ ?_
  try clear hK5 K5
  refine wp_seq_k fun K7 hK7 => ?_
  refine region_lit ?_
  refine seq_val (.slice (some ⟨g6, 0, none⟩) 0 100) 11 rfl kj kj ?_
  refine seq_val (.slice (some ⟨g2, 0, none⟩) 32 32) 12 rfl kj kj ?_
  have r2_2 := (row_ext r2_1 e2)
  have r2_3 := (row_ext r2_2 e3)
  have r2_4 := (row_ext r2_3 e4)
  have y3_4 : Ext W3 W4 := (Rely.Ext.trans (Rely.Ext.refl W3) e4)
  refine seq_appendN (k := .u8) (T := 5) (xs := []) (ys := g) (V := W3) 1 (.tmp 11) (.tmp 12) 22 rfl kj kj (by decide) 13 rfl kj kj kj hz0 (rdK_ints (xs := g) (n := 32) hgl r2_4 (row_lt r2_4) (show 32 ≤ maxLen from by decide)) (by have : (epB e).length = 4 := rfl; simp only [List.length_append, List.length_nil, List.length_cons]; omega) y3_4 fun z1 W5 f8 y5 l5 => ?_
  have x5 : Ext w W5 := Ext.low x4 l5 x3.size
  have hu10 : OwnN .u8 5 W3.heap.size (g) z1 W5 := f8
  refine seq_val (z1) 9 rfl kj kj ?_
  refine seq_nil ?_
  refine hK7 _ _ ?_
  try clear hK7 K7
  refine wp_seq_k fun K11 hK11 => ?_
  refine region_lit ?_
  refine seq_val (z1) 14 rfl kj kj ?_
  refine seq_val (.int .i64 e) 15 rfl kj kj ?_
  refine seq_val (.int .i64 (e / 16777216)) 16 rfl kj (run_bin .shr _ _ _ _ .i64 .u64 _ _ _ rfl kj kj (b_shr _ _ _ _ _ _ (by decide) (shrZ e 24 16777216 (by decide) (by decide)))) ?_
  refine seq_val (.int .u8 (e / 16777216 % 256)) 17 rfl kj (run_eq (u := .int .u8 (IntKind.u8.wrap (e / 16777216))) kj (congrArg (Value.int .u8) (byteZ _ _ rfl))) ?_
  refine seq_val (.int .i64 e) 18 rfl kj kj ?_
  refine seq_val (.int .i64 (e / 65536)) 19 rfl kj (run_bin .shr _ _ _ _ .i64 .u64 _ _ _ rfl kj kj (b_shr _ _ _ _ _ _ (by decide) (shrZ e 16 65536 (by decide) (by decide)))) ?_
  refine seq_val (.int .u8 (e / 65536 % 256)) 20 rfl kj (run_eq (u := .int .u8 (IntKind.u8.wrap (e / 65536))) kj (congrArg (Value.int .u8) (byteZ _ _ rfl))) ?_
  refine seq_val (.int .i64 e) 21 rfl kj kj ?_
  refine seq_val (.int .i64 (e / 256)) 22 rfl kj (run_bin .shr _ _ _ _ .i64 .u64 _ _ _ rfl kj kj (b_shr _ _ _ _ _ _ (by decide) (shrZ e 8 256 (by decide) (by decide)))) ?_
  refine seq_val (.int .u8 (e / 256 % 256)) 23 rfl kj (run_eq (u := .int .u8 (IntKind.u8.wrap (e / 256))) kj (congrArg (Value.int .u8) (byteZ _ _ rfl))) ?_
  refine seq_val (.int .i64 e) 24 rfl kj kj ?_
  refine seq_val (.int .u8 (e % 256)) 25 rfl kj (run_eq (u := .int .u8 (IntKind.u8.wrap (e))) kj (congrArg (Value.int .u8) (byteZ _ _ rfl))) ?_
  refine seq_makeS (ints .u8 ([(e / 16777216 % 256), (e / 65536 % 256), (e / 256 % 256), (e % 256)])) 5 4 26 rfl kj kj fun g12 W6 l12 e6 r12_6 => ?_
  have x6 : Ext w W6 := Ext.tr x5 e6
  have b12 : w.heap.size ≤ g12 := Nat.le_trans x5.size l12
  have f13_6 := (hu10.ext e6)
  have y3_6 : Ext W3 W6 := (Rely.Ext.trans y5 e6)
  refine seq_appendN (k := .u8) (T := 5) (xs := g) (ys := [(e / 16777216 % 256), (e / 65536 % 256), (e / 256 % 256), (e % 256)]) (V := W3) 1 (.tmp 14) (.tmp 26) 22 rfl kj kj (by decide) 27 rfl kj kj kj f13_6 (rdK_ints (xs := [(e / 16777216 % 256), (e / 65536 % 256), (e / 256 % 256), (e % 256)]) (n := 4) rfl r12_6 (row_lt r12_6) (show 4 ≤ maxLen from by decide)) (by have : (epB e).length = 4 := rfl; simp only [List.length_append, List.length_nil, List.length_cons]; omega) y3_6 fun z2 W7 f14 y7 l7 => ?_
  have x7 : Ext w W7 := Ext.low x6 l7 x3.size
  have hu16 : OwnN .u8 5 W3.heap.size (g ++ epB e) z2 W7 := f14
  refine seq_val (z2) 9 rfl kj kj ?_
  refine seq_nil ?_
  refine hK11 _ _ ?_
  try clear hK11 K11
  refine wp_seq_k fun K17 hK17 => ?_
  refine region_lit ?_
  refine seq_val (z2) 28 rfl kj kj ?_
  refine seq_val (.slice (some ⟨g3, 0, none⟩) 32 32) 29 rfl kj kj ?_
  have r3_3 := (row_ext r3_2 e3)
  have r3_4 := (row_ext r3_3 e4)
  have r3_5 := (low_row l5 r3_4 (row_lt r3_3))
  have r3_6 := (row_ext r3_5 e6)
  have r3_7 := (low_row l7 r3_6 (row_lt r3_3))
  refine seq_appendN (k := .u8) (T := 5) (xs := g ++ epB e) (ys := t) (V := W3) 1 (.tmp 28) (.tmp 29) 22 rfl kj kj (by decide) 30 rfl kj kj kj hu16 (rdK_ints (xs := t) (n := 32) htl r3_7 (row_lt r3_7) (show 32 ≤ maxLen from by decide)) (by have : (epB e).length = 4 := rfl; simp only [List.length_append, List.length_nil, List.length_cons]; omega) y7 fun z3 W8 f18 y8 l8 => ?_
  have x8 : Ext w W8 := Ext.low x7 l8 x3.size
  have hu20 : OwnN .u8 5 W3.heap.size ((g ++ epB e) ++ t) z3 W8 := f18
  refine seq_val (z3) 9 rfl kj kj ?_
  refine seq_nil ?_
  refine hK17 _ _ ?_
  try clear hK17 K17
  refine wp_seq_k fun K21 hK21 => ?_
  refine region_lit ?_
  refine seq_val (z3) 31 rfl kj kj ?_
  refine seq_val (.slice (some ⟨g4, 0, none⟩) 32 32) 32 rfl kj kj ?_
  have r4_4 := (row_ext r4_3 e4)
  have r4_5 := (low_row l5 r4_4 (row_lt r4_3))
  have r4_6 := (row_ext r4_5 e6)
  have r4_7 := (low_row l7 r4_6 (row_lt r4_3))
  have r4_8 := (low_row l8 r4_7 (row_lt r4_3))
  refine seq_appendN (k := .u8) (T := 5) (xs := (g ++ epB e) ++ t) (ys := c) (V := W3) 1 (.tmp 31) (.tmp 32) 22 rfl kj kj (by decide) 33 rfl kj kj kj hu20 (rdK_ints (xs := c) (n := 32) hcl r4_8 (row_lt r4_8) (show 32 ≤ maxLen from by decide)) (by have : (epB e).length = 4 := rfl; simp only [List.length_append, List.length_nil, List.length_cons]; omega) y8 fun z4 W9 f22 y9 l9 => ?_
  have x9 : Ext w W9 := Ext.low x8 l9 x3.size
  have hu24 : OwnN .u8 5 W3.heap.size (ctxL g e t c) z4 W9 := f22
  refine seq_val (z4) 8 rfl kj kj ?_
  refine seq_nil ?_
  refine hK21 _ _ ?_
  try clear hK21 K21
  refine wp_ret ?_
  repeat (first | with_reducible refine goR1 ?_ | with_reducible refine goR2 ?_)
  exact (show bodyPost _ _ _ .ret _ _ from ret1 (z4) rfl (res_tmp kj) ⟨_, rfl, x9, OwnN.base x3.size hu24⟩)
set_option maxHeartbeats 4000000 in
theorem rcontextC (g t c : List Int) (e : Int) (w : World) (hgl : g.length = 32) (htl : t.length = 32) (hcl : c.length = 32) : Calls Tryd.prog 29 #[.agg (ints .u8 g), .int .i64 e, .agg (ints .u8 t), .agg (ints .u8 c)] w (Gives w (OwnN .u8 5 w.heap.size (ctxL g e t c))) := by
  refine enter 38 [(0, .agg (ints .u8 (g))), (1, .int .i64 e), (2, .agg (ints .u8 (t))), (3, .agg (ints .u8 (c)))] Tryd.func29 rfl rfl kj rfl ?_
  refine wp_seq_k fun K1 hK1 => ?_
  refine region_lit ?_
  refine seq_alloc (ints .u8 (g)) 26 4 rfl kj kj fun g2 W1 l2 e1 r2_1 => ?_
  have x1 : Ext w W1 := Ext.tr (Rely.Ext.refl w) e1
  have b2 : w.heap.size ≤ g2 := Nat.le_trans (Rely.Ext.refl w).size l2
  refine seq_alloc (ints .u8 (t)) 26 6 rfl kj kj fun g3 W2 l3 e2 r3_2 => ?_
  have x2 : Ext w W2 := Ext.tr x1 e2
  have b3 : w.heap.size ≤ g3 := Nat.le_trans x1.size l3
  refine seq_alloc (ints .u8 (c)) 26 7 rfl kj kj fun g4 W3 l4 e3 r4_3 => ?_
  have x3 : Ext w W3 := Ext.tr x2 e3
  have b4 : w.heap.size ≤ g4 := Nat.le_trans x2.size l4
  refine seq_val (.slice none 0 0) 8 rfl kj kj ?_
  refine seq_nil ?_
  refine hK1 _ _ ?_
  try clear hK1 K1
  refine wp_seq_k fun K5 hK5 => ?_
  refine region_lit ?_
  refine seq_val (.int .i64 e) 11 rfl kj kj ?_
  refine seq_val (.int .u32 (e % 4294967296)) 12 rfl kj (run_eq (u := .int .u32 (IntKind.u32.wrap (e))) kj (congrArg (Value.int .u32) (word32 e))) ?_
  refine seq_val (.int .u32 (e % 4294967296)) 9 rfl kj kj ?_
  refine seq_nil ?_
  refine hK5 _ _ ?_
  try clear hK5 K5
  refine wp_seq_k fun K6 hK6 => ?_
  refine region_lit ?_
  refine seq_makeS (ints .u8 ([])) 5 0 13 rfl kj kj fun g7 W4 l7 e4 r7_4 => ?_
  have x4 : Ext w W4 := Ext.tr x3 e4
  have b7 : w.heap.size ≤ g7 := Nat.le_trans x3.size l7
  refine seq_val (.slice (some ⟨g2, 0, none⟩) 32 32) 14 rfl kj kj ?_
  have r2_2 := (row_ext r2_1 e2)
  have r2_3 := (row_ext r2_2 e3)
  have r2_4 := (row_ext r2_3 e4)
  have y3_4 : Ext W3 W4 := (Rely.Ext.trans (Rely.Ext.refl W3) e4)
  refine seq_appendN (k := .u8) (T := 5) (xs := []) (ys := g) (V := W3) 1 (.tmp 13) (.tmp 14) 22 rfl kj kj (by decide) 15 rfl kj kj kj (ownN_row (xs := []) rfl l7 r7_4 (by decide)) (rdK_ints (xs := g) (n := 32) hgl r2_4 (row_lt r2_4) (show 32 ≤ maxLen from by decide)) (by have : (epB e).length = 4 := rfl; simp only [List.length_append, List.length_nil, List.length_cons]; omega) y3_4 fun z1 W5 f8 y5 l5 => ?_
  have x5 : Ext w W5 := Ext.low x4 l5 x3.size
  have hu10 : OwnN .u8 5 W3.heap.size (g) z1 W5 := f8
  refine seq_val (z1) 10 rfl kj kj ?_
  refine seq_nil ?_
  refine hK6 _ _ ?_
  try clear hK6 K6
  refine wp_seq_k fun K11 hK11 => ?_
  refine region_lit ?_
  refine seq_val (z1) 16 rfl kj kj ?_
  refine seq_val (.int .u32 (e % 4294967296)) 17 rfl kj kj ?_
  refine seq_val (.int .u32 (e / 16777216 % 256)) 18 rfl kj (run_eq (u := .int .u32 (IntKind.u32.wrap (Int.tdiv ((e % 4294967296)) (16777216)))) kj (congrArg (Value.int .u32) (quo32 e 16777216 (e / 16777216 % 256) (by decide) (by omega)))) ?_
  refine seq_val (.int .u8 (e / 16777216 % 256)) 19 rfl kj (run_eq (u := .int .u8 (IntKind.u8.wrap (e / 16777216 % 256))) kj (congrArg (Value.int .u8) (byteZ _ _ (by omega)))) ?_
  refine seq_val (.int .u32 (e % 4294967296)) 20 rfl kj kj ?_
  refine seq_val (.int .u32 (e % 4294967296 / 65536)) 21 rfl kj (run_eq (u := .int .u32 (IntKind.u32.wrap (Int.tdiv ((e % 4294967296)) (65536)))) kj (congrArg (Value.int .u32) (quo32 e 65536 (e % 4294967296 / 65536) (by decide) (by omega)))) ?_
  refine seq_val (.int .u32 (e / 65536 % 256)) 22 rfl kj (run_eq (u := .int .u32 (Int.tmod ((e % 4294967296 / 65536)) (256))) kj (congrArg (Value.int .u32) (rem32 (e % 4294967296 / 65536) (e / 65536 % 256) (by omega) (by omega)))) ?_
  refine seq_val (.int .u8 (e / 65536 % 256)) 23 rfl kj (run_eq (u := .int .u8 (IntKind.u8.wrap (e / 65536 % 256))) kj (congrArg (Value.int .u8) (byteZ _ _ (by omega)))) ?_
  refine seq_val (.int .u32 (e % 4294967296)) 24 rfl kj kj ?_
  refine seq_val (.int .u32 (e % 4294967296 / 256)) 25 rfl kj (run_eq (u := .int .u32 (IntKind.u32.wrap (Int.tdiv ((e % 4294967296)) (256)))) kj (congrArg (Value.int .u32) (quo32 e 256 (e % 4294967296 / 256) (by decide) (by omega)))) ?_
  refine seq_val (.int .u32 (e / 256 % 256)) 26 rfl kj (run_eq (u := .int .u32 (Int.tmod ((e % 4294967296 / 256)) (256))) kj (congrArg (Value.int .u32) (rem32 (e % 4294967296 / 256) (e / 256 % 256) (by omega) (by omega)))) ?_
  refine seq_val (.int .u8 (e / 256 % 256)) 27 rfl kj (run_eq (u := .int .u8 (IntKind.u8.wrap (e / 256 % 256))) kj (congrArg (Value.int .u8) (byteZ _ _ (by omega)))) ?_
  refine seq_val (.int .u32 (e % 4294967296)) 28 rfl kj kj ?_
  refine seq_val (.int .u32 (e % 256)) 29 rfl kj (run_eq (u := .int .u32 (Int.tmod ((e % 4294967296)) (256))) kj (congrArg (Value.int .u32) (rem32 (e % 4294967296) (e % 256) (by omega) (by omega)))) ?_
  refine seq_val (.int .u8 (e % 256)) 30 rfl kj (run_eq (u := .int .u8 (IntKind.u8.wrap (e % 256))) kj (congrArg (Value.int .u8) (byteZ _ _ (by omega)))) ?_
  refine seq_makeS (ints .u8 ([(e / 16777216 % 256), (e / 65536 % 256), (e / 256 % 256), (e % 256)])) 5 4 31 rfl kj kj fun g12 W6 l12 e6 r12_6 => ?_
  have x6 : Ext w W6 := Ext.tr x5 e6
  have b12 : w.heap.size ≤ g12 := Nat.le_trans x5.size l12
  have f13_6 := (hu10.ext e6)
  have y3_6 : Ext W3 W6 := (Rely.Ext.trans y5 e6)
  refine seq_appendN (k := .u8) (T := 5) (xs := g) (ys := [(e / 16777216 % 256), (e / 65536 % 256), (e / 256 % 256), (e % 256)]) (V := W3) 1 (.tmp 16) (.tmp 31) 22 rfl kj kj (by decide) 32 rfl kj kj kj f13_6 (rdK_ints (xs := [(e / 16777216 % 256), (e / 65536 % 256), (e / 256 % 256), (e % 256)]) (n := 4) rfl r12_6 (row_lt r12_6) (show 4 ≤ maxLen from by decide)) (by have : (epB e).length = 4 := rfl; simp only [List.length_append, List.length_nil, List.length_cons]; omega) y3_6 fun z2 W7 f14 y7 l7 => ?_
  have x7 : Ext w W7 := Ext.low x6 l7 x3.size
  have hu16 : OwnN .u8 5 W3.heap.size (g ++ epB e) z2 W7 := f14
  refine seq_val (z2) 10 rfl kj kj ?_
  refine seq_nil ?_
  refine hK11 _ _ ?_
  try clear hK11 K11
  refine wp_seq_k fun K17 hK17 => ?_
  have r3_3 := (row_ext r3_2 e3)
  have r3_4 := (row_ext r3_3 e4)
  have r3_5 := (low_row l5 r3_4 (row_lt r3_3))
  have r3_6 := (row_ext r3_5 e6)
  have r3_7 := (low_row l7 r3_6 (row_lt r3_3))
  have hbW : W3.heap.size ≤ W7.heap.size := y7.size
  have hlx : (g ++ epB e).length + t.length ≤ 1000000000 := by have : (epB e).length = 4 := rfl; simp only [List.length_append]; omega
  obtain ⟨gz, cz, curz, hze, hz1, hz2, -, -, -, -⟩ := ownN_open hu16 (by simp only [List.length_append]; omega)
  have hgz := row_lt hz2
  subst hze
  have hn6 : g3 ≠ gz := by have h1 := row_lt r3_3; omega
  refine any_regionX (OnceB gz W3.heap.size (g ++ epB e).length t) (OnceB.refl _ _ _ _) (fun h k => OnceB.trans h k) 4 [⟨none, [(10, none)]⟩, ⟨none, [(6, none)]⟩, ⟨none, [(33, some 0), (34, some 1)]⟩, ⟨none, [(7, none)]⟩] kj kj fun F hF => ?_
  refine x_val (OnceB.refl _ _ _ _) (.slice (some ⟨gz, 0, none⟩) (g ++ epB e).length cz) kj kj (fun W hR => by kernel_rfl) ?_
  refine x_val (OnceB.refl _ _ _ _) (.slice (some ⟨g3, 0, none⟩) 32 32) kj kj (fun W hR => by kernel_rfl) ?_
  refine x_put (OwnN .u8 5 W3.heap.size ((g ++ epB e) ++ t)) (onceB_own (fun i hi h => by unfold nth; rw [List.getD_eq_getElem?_getD, List.getD_eq_getElem?_getD, List.getElem?_append_right h])) kj kj (fun W hR => ?_) ?_
  · have h6 := hR.row (row_ext r3_7 (ext_drew _)) hn6
    exact append_OB (.tmp 33) (.tmp 34) 22 (by rfl) kj kj kj kj (onceB_own (fun i hi h => absurd hi (by omega)) _ _ _ hR (hu16.ext (ext_drew _))) (rdK_ints (xs := t) (n := 32) htl h6 (row_lt h6) (by decide)) hlx (Nat.le_trans hbW (Nat.le_trans (ext_drew W7).size hR.once.size))
  refine x_val (OnceB.refl _ _ _ _) (.slice (some ⟨g4, 0, none⟩) 32 32) kj kj (fun W hR => by kernel_rfl) ?_
  refine e_nil (hF _ fun W8 hR => ?_)
  simp only [List.nil_append, List.cons_append, List.take_succ_cons, List.take_zero, List.drop_succ_cons, List.drop_zero, finE, up]
  intro z3 hz3
  clear hF
  have l8 : Below W3.heap.size W7 W8 := below_drew (hR.once.below (Nat.le_trans hbW (ext_drew _).size)) hbW
  have x8 : Ext w W8 := Ext.low x7 l8 x3.size
  have r4_4 := (row_ext r4_3 e4)
  have r4_5 := (low_row l5 r4_4 (row_lt r4_3))
  have r4_6 := (row_ext r4_5 e6)
  have r4_7 := (low_row l7 r4_6 (row_lt r4_3))
  have r4_8 := (low_row l8 r4_7 (row_lt r4_3))
  have y3_8 : Ext W3 W8 := (Ext.low y7 l8 (Rely.Ext.refl W3).size)
  refine seq_appendN (k := .u8) (T := 5) (xs := (g ++ epB e) ++ t) (ys := c) (V := W3) 1 (.tmp 35) (.tmp 36) 22 rfl kj kj (by decide) 37 rfl kj kj kj hz3 (rdK_ints (xs := c) (n := 32) hcl r4_8 (row_lt r4_8) (show 32 ≤ maxLen from by decide)) (by have : (epB e).length = 4 := rfl; simp only [List.length_append, List.length_nil, List.length_cons]; omega) y3_8 fun z4 W9 f18 y9 l9 => ?_
  have x9 : Ext w W9 := Ext.low x8 l9 x3.size
  have hu20 : OwnN .u8 5 W3.heap.size (ctxL g e t c) z4 W9 := f18
  refine seq_val (z4) 8 rfl kj kj ?_
  refine seq_nil ?_
  refine hK17 _ _ ?_
  try clear hK17 K17
  refine wp_ret ?_
  repeat (first | with_reducible refine goR1 ?_ | with_reducible refine goR2 ?_)
  exact (show bodyPost _ _ _ .ret _ _ from ret1 (z4) rfl (res_tmp kj) ⟨_, rfl, x9, OwnN.base x3.size hu20⟩)

end Go.Proofs.YtamlhbbphnamnaaDoor.Sha
