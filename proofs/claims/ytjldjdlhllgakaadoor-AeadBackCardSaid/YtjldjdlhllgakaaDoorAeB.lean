/- Poly1305: products. -/
import Derived.Test.YtjldjdlhllgakaaDoorAeA
import Derived.Laws.Externs
import Derived.Shelf.Spec.BitsCarry
import Derived.Shelf.Bits.Mul64
import Derived.Laws.Bits64b
namespace Go.Proofs.YtjldjdlhllgakaaDoor.Ae
open Go Go.RowKit
open Go.Proofs.YtjldjdlhllgakaaDoor.Rely Go.Proofs.YtjldjdlhllgakaaDoor.Auto Go.Proofs.YtjldjdlhllgakaaDoor.Own Go.Proofs.YtjldjdlhllgakaaDoor.Sha
set_option linter.unusedVariables false
set_option linter.unusedSimpArgs false

open Go.Proofs.YtjldjdlhllgakaaDoor.Sha Go.Proofs.YtjldjdlhllgakaaDoor.Cha
theorem mulR {x y hi lo : Int} {w : World} (h : Calls Tryd.prog 56 #[.int .u64 x, .int .u64 y] w (fun e w' => e = .returned (.tuple #[.int .u64 hi, .int .u64 lo]) ∧ w' = w)) : Calls Tryd.prog 56 #[.int .u64 x, .int .u64 y] w (Ret w (.tuple #[.int .u64 hi, .int .u64 lo])) :=
  h.mono fun e w' h => ⟨h.1, h.2 ▸ Rely.Ext.refl _⟩
set_option maxRecDepth 100000 in
set_option maxHeartbeats 4000000 in
theorem madd_0 (g : Nat) (q0_ q1_ q2_ q3_ q4_ q5_ xx yy p : Int) (hq0_ : isW q0_) (hq1_ : isW q1_) (hq2_ : isW q2_) (hq3_ : isW q3_) (hq4_ : isW q4_) (hq5_ : isW q5_) (hxx : isW xx) (hyy : isW yy) (hp : xx * yy = p) (hlt : (q0_ + 18446744073709551616 * q1_ + 340282366920938463463374607431768211456 * q2_ + 6277101735386680763835789423207666416102355444464034512896 * q3_ + 115792089237316195423570985008687907853269984665640564039457584007913129639936 * q4_ + 2135987035920910082395021706169552114602704522356652769947041607822219725780640550022962086936576 * q5_) + 1 * p < 39402006196394479212279040100143613805079739270465446667948293404245721771497210611414266254884915640806627990306816) (w : World) (hg : w.heap[g]? = some (.cells (ints .u64 [q0_, q1_, q2_, q3_, q4_, q5_]) 94)) :
    Calls Tryd.prog 55 #[.int .i64 0, .int .u64 xx, .int .u64 yy, .pointer (some ⟨g, 0, none⟩)] w (fun e W => e = .returned (.tuple #[]) ∧ ∃ r0 r1 r2 r3 r4 r5 : Int, isW r0 ∧ isW r1 ∧ isW r2 ∧ isW r3 ∧ isW r4 ∧ isW r5 ∧ (r0 + 18446744073709551616 * r1 + 340282366920938463463374607431768211456 * r2 + 6277101735386680763835789423207666416102355444464034512896 * r3 + 115792089237316195423570985008687907853269984665640564039457584007913129639936 * r4 + 2135987035920910082395021706169552114602704522356652769947041607822219725780640550022962086936576 * r5) = (q0_ + 18446744073709551616 * q1_ + 340282366920938463463374607431768211456 * q2_ + 6277101735386680763835789423207666416102355444464034512896 * q3_ + 115792089237316195423570985008687907853269984665640564039457584007913129639936 * q4_ + 2135987035920910082395021706169552114602704522356652769947041607822219725780640550022962086936576 * q5_) + 1 * p ∧ ExtB g w W ∧ W.heap[g]? = some (.cells (ints .u64 [r0, r1, r2, r3, r4, r5]) 94)) := by
  refine enter 44 [(0, .int .i64 0), (1, .int .u64 (xx)), (2, .int .u64 (yy)), (3, .pointer (some ⟨g, 0, none⟩))] Tryd.func55 rfl rfl kj rfl ?_
  refine wp_seq_k fun K2 hK2 => ?_
  refine region_lit ?_
  refine seq_val (.int .u64 (xx)) 12 rfl kj kj ?_
  refine seq_val (.int .u64 (yy)) 13 rfl kj kj ?_
  obtain ⟨hi_, lo_, hhi, hlo, hml, cml⟩ := mul64 xx yy hxx hyy
  rw [hp] at hml
  refine seq_call (.tuple #[.int .u64 (hi_), .int .u64 (lo_)]) 56 #[.int .u64 (xx), .int .u64 (yy)] 14 rfl kj kj ((mulR (cml _))) fun W1 e1 => ?_
  have x1 : ExtB g w W1 := ExtB.ext (ExtB.refl g w) e1
  refine seq_val (.tuple #[.int .u64 (hi_), .int .u64 (lo_)]) 11 rfl kj kj ?_
  refine seq_val (.int .u64 (hi_)) 15 rfl kj kj ?_
  refine seq_val (.int .u64 (lo_)) 16 rfl kj kj ?_
  refine seq_val (.int .u64 (hi_)) 7 rfl kj kj ?_
  refine seq_val (.int .u64 (lo_)) 8 rfl kj kj ?_
  refine seq_nil ?_
  refine hK2 _ _ ?_
  try clear hK2 K2
  refine wp_seq_k fun K3 hK3 => ?_
  refine region_lit ?_
  refine seq_val (.int .u64 0) 9 rfl kj kj ?_
  refine seq_nil ?_
  refine hK3 _ _ ?_
  try clear hK3 K3
  refine wp_seq_k fun K4 hK4 => ?_
  refine region_lit ?_
  refine seq_val (.int .i64 0) 18 rfl kj kj ?_
  refine seq_val (.int .i64 0) 19 rfl kj kj ?_
  refine seq_val (.pointer (some ⟨g, 0, none⟩)) 20 rfl kj kj ?_
  have r1_1 := (row_ext hg e1)
  refine seq_val (.int .u64 q0_) 21 rfl kj (run_loadC1 64 _ g 0 94 _ (.int .u64 q0_) _ r1_1 rfl kj kj kj) ?_
  refine seq_val (.int .u64 (lo_)) 22 rfl kj kj ?_
  obtain ⟨s1, d1, hs1, hd1, he1, ra1⟩ := add64 (q0_) (lo_) (0) hq0_ hlo ⟨by decide, by decide⟩
  refine seq_val (.tuple #[.int .u64 (s1), .int .u64 (d1)]) 23 rfl kj (run_extF (f := 48) (args := #[.int .u64 q0_, .int .u64 (lo_), .int .u64 0]) _ _ _ rfl kj kj (ra1 _)) ?_
  refine seq_val (.tuple #[.int .u64 (s1), .int .u64 (d1)]) 17 rfl kj kj ?_
  refine seq_val (.int .u64 (s1)) 24 rfl kj kj ?_
  refine seq_val (.int .u64 (d1)) 25 rfl kj kj ?_
  refine seq_val (.pointer (some ⟨g, 0, none⟩)) 26 rfl kj kj ?_
  refine seq_store g _ (ints .u64 ([(s1), q1_, q2_, q3_, q4_, q5_])) 94 r1_1 rfl kj (run_storeI 64 _ _ g 0 94 _ _ r1_1 rfl kj kj kj (show 0 < 6 by decide)) fun W2 p2 r1_2 => ?_
  have x2 : ExtB g w W2 := ExtB.puts x1 p2
  refine seq_val (.int .u64 (d1)) 9 rfl kj kj ?_
  refine seq_nil ?_
  refine hK4 _ _ ?_
  try clear hK4 K4
  refine wp_seq_k fun K5 hK5 => ?_
  refine region_lit ?_
  refine seq_val (.int .i64 0) 27 rfl kj kj ?_
  refine seq_val (.int .i64 1) 28 rfl kj kj ?_
  refine seq_val (.int .i64 1) 10 rfl kj kj ?_
  refine seq_nil ?_
  refine hK5 _ _ ?_
  try clear hK5 K5
  refine wp_block ?_
  refine wp_loop_rounds 6 ?_
  show Code.wp _ _ (Exit.then (Code.rounds _ _ _ 5) _) _ _
  refine wp_seq_k fun K6 hK6 => ?_
  refine wp_seq_k fun K7 hK7 => ?_
  refine region_lit ?_
  refine seq_val (.int .i64 1) 29 rfl kj kj ?_
  refine seq_val (.bool true) 30 rfl kj kj ?_
  refine seq_nil ?_
  refine hK7 _ _ ?_
  try clear hK7 K7
  refine cond_true kj ?_
  refine wp_skip ?_
  refine hK6 _ _ ?_
  try clear hK6 K6
  refine wp_seq_k fun K8 hK8 => ?_
  refine wp_block ?_
  refine wp_seq_k fun K9 hK9 => ?_
  refine region_lit ?_
  refine seq_val (.int .i64 1) 34 rfl kj kj ?_
  refine seq_val (.int .i64 1) 35 rfl kj kj ?_
  refine seq_val (.pointer (some ⟨g, 1, none⟩)) 36 rfl kj kj ?_
  refine seq_val (.int .u64 q1_) 37 rfl kj (run_loadC1 64 _ g 1 94 _ (.int .u64 q1_) _ r1_2 rfl kj kj kj) ?_
  refine seq_val (.int .u64 (hi_)) 38 rfl kj kj ?_
  refine seq_val (.int .u64 (d1)) 39 rfl kj kj ?_
  obtain ⟨s2, d2, hs2, hd2, he2, ra2⟩ := add64 (q1_) (hi_) (d1) hq1_ hhi hd1
  refine seq_val (.tuple #[.int .u64 (s2), .int .u64 (d2)]) 40 rfl kj (run_extF (f := 48) (args := #[.int .u64 q1_, .int .u64 (hi_), .int .u64 (d1)]) _ _ _ rfl kj kj (ra2 _)) ?_
  refine seq_val (.tuple #[.int .u64 (s2), .int .u64 (d2)]) 33 rfl kj kj ?_
  refine seq_val (.int .u64 (s2)) 41 rfl kj kj ?_
  refine seq_val (.int .u64 (d2)) 42 rfl kj kj ?_
  refine seq_val (.pointer (some ⟨g, 1, none⟩)) 43 rfl kj kj ?_
  refine seq_store g _ (ints .u64 ([(s1), (s2), q2_, q3_, q4_, q5_])) 94 r1_2 rfl kj (run_storeI 64 _ _ g 1 94 _ _ r1_2 rfl kj kj kj (show 1 < 6 by decide)) fun W3 p3 r1_3 => ?_
  have x3 : ExtB g w W3 := ExtB.puts x2 p3
  refine seq_val (.int .u64 (d2)) 9 rfl kj kj ?_
  refine seq_nil ?_
  refine hK9 _ _ ?_
  try clear hK9 K9
  refine region_lit ?_
  refine seq_val (.int .u64 0) 7 rfl kj kj ?_
  refine seq_nil ?_
  refine hK8 _ _ ?_
  try clear hK8 K8
  refine region_lit ?_
  refine seq_val (.int .i64 1) 31 rfl kj kj ?_
  refine seq_val (.int .i64 2) 32 rfl kj kj ?_
  refine seq_val (.int .i64 2) 10 rfl kj kj ?_
  refine seq_nil ?_
  show Code.rounds _ _ _ 5 _ _
  show Code.wp _ _ (Exit.then (Code.rounds _ _ _ 4) _) _ _
  refine wp_seq_k fun K10 hK10 => ?_
  refine wp_seq_k fun K11 hK11 => ?_
  refine region_lit ?_
  refine seq_val (.int .i64 2) 29 rfl kj kj ?_
  refine seq_val (.bool true) 30 rfl kj kj ?_
  refine seq_nil ?_
  refine hK11 _ _ ?_
  try clear hK11 K11
  refine cond_true kj ?_
  refine wp_skip ?_
  refine hK10 _ _ ?_
  try clear hK10 K10
  refine wp_seq_k fun K12 hK12 => ?_
  refine wp_block ?_
  refine wp_seq_k fun K13 hK13 => ?_
  refine region_lit ?_
  refine seq_val (.int .i64 2) 34 rfl kj kj ?_
  refine seq_val (.int .i64 2) 35 rfl kj kj ?_
  refine seq_val (.pointer (some ⟨g, 2, none⟩)) 36 rfl kj kj ?_
  refine seq_val (.int .u64 q2_) 37 rfl kj (run_loadC1 64 _ g 2 94 _ (.int .u64 q2_) _ r1_3 rfl kj kj kj) ?_
  refine seq_val (.int .u64 0) 38 rfl kj kj ?_
  refine seq_val (.int .u64 (d2)) 39 rfl kj kj ?_
  obtain ⟨s3, d3, hs3, hd3, he3, ra3⟩ := add64 (q2_) (0) (d2) hq2_ zero_isW hd2
  refine seq_val (.tuple #[.int .u64 (s3), .int .u64 (d3)]) 40 rfl kj (run_extF (f := 48) (args := #[.int .u64 q2_, .int .u64 0, .int .u64 (d2)]) _ _ _ rfl kj kj (ra3 _)) ?_
  refine seq_val (.tuple #[.int .u64 (s3), .int .u64 (d3)]) 33 rfl kj kj ?_
  refine seq_val (.int .u64 (s3)) 41 rfl kj kj ?_
  refine seq_val (.int .u64 (d3)) 42 rfl kj kj ?_
  refine seq_val (.pointer (some ⟨g, 2, none⟩)) 43 rfl kj kj ?_
  refine seq_store g _ (ints .u64 ([(s1), (s2), (s3), q3_, q4_, q5_])) 94 r1_3 rfl kj (run_storeI 64 _ _ g 2 94 _ _ r1_3 rfl kj kj kj (show 2 < 6 by decide)) fun W4 p4 r1_4 => ?_
  have x4 : ExtB g w W4 := ExtB.puts x3 p4
  refine seq_val (.int .u64 (d3)) 9 rfl kj kj ?_
  refine seq_nil ?_
  refine hK13 _ _ ?_
  try clear hK13 K13
  refine region_lit ?_
  refine seq_val (.int .u64 0) 7 rfl kj kj ?_
  refine seq_nil ?_
  refine hK12 _ _ ?_
  try clear hK12 K12
  refine region_lit ?_
  refine seq_val (.int .i64 2) 31 rfl kj kj ?_
  refine seq_val (.int .i64 3) 32 rfl kj kj ?_
  refine seq_val (.int .i64 3) 10 rfl kj kj ?_
  refine seq_nil ?_
  show Code.rounds _ _ _ 4 _ _
  show Code.wp _ _ (Exit.then (Code.rounds _ _ _ 3) _) _ _
  refine wp_seq_k fun K14 hK14 => ?_
  refine wp_seq_k fun K15 hK15 => ?_
  refine region_lit ?_
  refine seq_val (.int .i64 3) 29 rfl kj kj ?_
  refine seq_val (.bool true) 30 rfl kj kj ?_
  refine seq_nil ?_
  refine hK15 _ _ ?_
  try clear hK15 K15
  refine cond_true kj ?_
  refine wp_skip ?_
  refine hK14 _ _ ?_
  try clear hK14 K14
  refine wp_seq_k fun K16 hK16 => ?_
  refine wp_block ?_
  refine wp_seq_k fun K17 hK17 => ?_
  refine region_lit ?_
  refine seq_val (.int .i64 3) 34 rfl kj kj ?_
  refine seq_val (.int .i64 3) 35 rfl kj kj ?_
  refine seq_val (.pointer (some ⟨g, 3, none⟩)) 36 rfl kj kj ?_
  refine seq_val (.int .u64 q3_) 37 rfl kj (run_loadC1 64 _ g 3 94 _ (.int .u64 q3_) _ r1_4 rfl kj kj kj) ?_
  refine seq_val (.int .u64 0) 38 rfl kj kj ?_
  refine seq_val (.int .u64 (d3)) 39 rfl kj kj ?_
  obtain ⟨s4, d4, hs4, hd4, he4, ra4⟩ := add64 (q3_) (0) (d3) hq3_ zero_isW hd3
  refine seq_val (.tuple #[.int .u64 (s4), .int .u64 (d4)]) 40 rfl kj (run_extF (f := 48) (args := #[.int .u64 q3_, .int .u64 0, .int .u64 (d3)]) _ _ _ rfl kj kj (ra4 _)) ?_
  refine seq_val (.tuple #[.int .u64 (s4), .int .u64 (d4)]) 33 rfl kj kj ?_
  refine seq_val (.int .u64 (s4)) 41 rfl kj kj ?_
  refine seq_val (.int .u64 (d4)) 42 rfl kj kj ?_
  refine seq_val (.pointer (some ⟨g, 3, none⟩)) 43 rfl kj kj ?_
  refine seq_store g _ (ints .u64 ([(s1), (s2), (s3), (s4), q4_, q5_])) 94 r1_4 rfl kj (run_storeI 64 _ _ g 3 94 _ _ r1_4 rfl kj kj kj (show 3 < 6 by decide)) fun W5 p5 r1_5 => ?_
  have x5 : ExtB g w W5 := ExtB.puts x4 p5
  refine seq_val (.int .u64 (d4)) 9 rfl kj kj ?_
  refine seq_nil ?_
  refine hK17 _ _ ?_
  try clear hK17 K17
  refine region_lit ?_
  refine seq_val (.int .u64 0) 7 rfl kj kj ?_
  refine seq_nil ?_
  refine hK16 _ _ ?_
  try clear hK16 K16
  refine region_lit ?_
  refine seq_val (.int .i64 3) 31 rfl kj kj ?_
  refine seq_val (.int .i64 4) 32 rfl kj kj ?_
  refine seq_val (.int .i64 4) 10 rfl kj kj ?_
  refine seq_nil ?_
  show Code.rounds _ _ _ 3 _ _
  show Code.wp _ _ (Exit.then (Code.rounds _ _ _ 2) _) _ _
  refine wp_seq_k fun K18 hK18 => ?_
  refine wp_seq_k fun K19 hK19 => ?_
  refine region_lit ?_
  refine seq_val (.int .i64 4) 29 rfl kj kj ?_
  refine seq_val (.bool true) 30 rfl kj kj ?_
  refine seq_nil ?_
  refine hK19 _ _ ?_
  try clear hK19 K19
  refine cond_true kj ?_
  refine wp_skip ?_
  refine hK18 _ _ ?_
  try clear hK18 K18
  refine wp_seq_k fun K20 hK20 => ?_
  refine wp_block ?_
  refine wp_seq_k fun K21 hK21 => ?_
  refine region_lit ?_
  refine seq_val (.int .i64 4) 34 rfl kj kj ?_
  refine seq_val (.int .i64 4) 35 rfl kj kj ?_
  refine seq_val (.pointer (some ⟨g, 4, none⟩)) 36 rfl kj kj ?_
  refine seq_val (.int .u64 q4_) 37 rfl kj (run_loadC1 64 _ g 4 94 _ (.int .u64 q4_) _ r1_5 rfl kj kj kj) ?_
  refine seq_val (.int .u64 0) 38 rfl kj kj ?_
  refine seq_val (.int .u64 (d4)) 39 rfl kj kj ?_
  obtain ⟨s5, d5, hs5, hd5, he5, ra5⟩ := add64 (q4_) (0) (d4) hq4_ zero_isW hd4
  refine seq_val (.tuple #[.int .u64 (s5), .int .u64 (d5)]) 40 rfl kj (run_extF (f := 48) (args := #[.int .u64 q4_, .int .u64 0, .int .u64 (d4)]) _ _ _ rfl kj kj (ra5 _)) ?_
  refine seq_val (.tuple #[.int .u64 (s5), .int .u64 (d5)]) 33 rfl kj kj ?_
  refine seq_val (.int .u64 (s5)) 41 rfl kj kj ?_
  refine seq_val (.int .u64 (d5)) 42 rfl kj kj ?_
  refine seq_val (.pointer (some ⟨g, 4, none⟩)) 43 rfl kj kj ?_
  refine seq_store g _ (ints .u64 ([(s1), (s2), (s3), (s4), (s5), q5_])) 94 r1_5 rfl kj (run_storeI 64 _ _ g 4 94 _ _ r1_5 rfl kj kj kj (show 4 < 6 by decide)) fun W6 p6 r1_6 => ?_
  have x6 : ExtB g w W6 := ExtB.puts x5 p6
  refine seq_val (.int .u64 (d5)) 9 rfl kj kj ?_
  refine seq_nil ?_
  refine hK21 _ _ ?_
  try clear hK21 K21
  refine region_lit ?_
  refine seq_val (.int .u64 0) 7 rfl kj kj ?_
  refine seq_nil ?_
  refine hK20 _ _ ?_
  try clear hK20 K20
  refine region_lit ?_
  refine seq_val (.int .i64 4) 31 rfl kj kj ?_
  refine seq_val (.int .i64 5) 32 rfl kj kj ?_
  refine seq_val (.int .i64 5) 10 rfl kj kj ?_
  refine seq_nil ?_
  show Code.rounds _ _ _ 2 _ _
  show Code.wp _ _ (Exit.then (Code.rounds _ _ _ 1) _) _ _
  refine wp_seq_k fun K22 hK22 => ?_
  refine wp_seq_k fun K23 hK23 => ?_
  refine region_lit ?_
  refine seq_val (.int .i64 5) 29 rfl kj kj ?_
  refine seq_val (.bool true) 30 rfl kj kj ?_
  refine seq_nil ?_
  refine hK23 _ _ ?_
  try clear hK23 K23
  refine cond_true kj ?_
  refine wp_skip ?_
  refine hK22 _ _ ?_
  try clear hK22 K22
  refine wp_seq_k fun K24 hK24 => ?_
  refine wp_block ?_
  refine wp_seq_k fun K25 hK25 => ?_
  refine region_lit ?_
  refine seq_val (.int .i64 5) 34 rfl kj kj ?_
  refine seq_val (.int .i64 5) 35 rfl kj kj ?_
  refine seq_val (.pointer (some ⟨g, 5, none⟩)) 36 rfl kj kj ?_
  refine seq_val (.int .u64 q5_) 37 rfl kj (run_loadC1 64 _ g 5 94 _ (.int .u64 q5_) _ r1_6 rfl kj kj kj) ?_
  refine seq_val (.int .u64 0) 38 rfl kj kj ?_
  refine seq_val (.int .u64 (d5)) 39 rfl kj kj ?_
  obtain ⟨s6, d6, hs6, hd6, he6, ra6⟩ := add64 (q5_) (0) (d5) hq5_ zero_isW hd5
  refine seq_val (.tuple #[.int .u64 (s6), .int .u64 (d6)]) 40 rfl kj (run_extF (f := 48) (args := #[.int .u64 q5_, .int .u64 0, .int .u64 (d5)]) _ _ _ rfl kj kj (ra6 _)) ?_
  refine seq_val (.tuple #[.int .u64 (s6), .int .u64 (d6)]) 33 rfl kj kj ?_
  refine seq_val (.int .u64 (s6)) 41 rfl kj kj ?_
  refine seq_val (.int .u64 (d6)) 42 rfl kj kj ?_
  refine seq_val (.pointer (some ⟨g, 5, none⟩)) 43 rfl kj kj ?_
  refine seq_store g _ (ints .u64 ([(s1), (s2), (s3), (s4), (s5), (s6)])) 94 r1_6 rfl kj (run_storeI 64 _ _ g 5 94 _ _ r1_6 rfl kj kj kj (show 5 < 6 by decide)) fun W7 p7 r1_7 => ?_
  have x7 : ExtB g w W7 := ExtB.puts x6 p7
  refine seq_val (.int .u64 (d6)) 9 rfl kj kj ?_
  refine seq_nil ?_
  refine hK25 _ _ ?_
  try clear hK25 K25
  refine region_lit ?_
  refine seq_val (.int .u64 0) 7 rfl kj kj ?_
  refine seq_nil ?_
  refine hK24 _ _ ?_
  try clear hK24 K24
  refine region_lit ?_
  refine seq_val (.int .i64 5) 31 rfl kj kj ?_
  refine seq_val (.int .i64 6) 32 rfl kj kj ?_
  refine seq_val (.int .i64 6) 10 rfl kj kj ?_
  refine seq_nil ?_
  show Code.rounds _ _ _ 1 _ _
  show Code.wp _ _ (Exit.then (Code.rounds _ _ _ 0) _) _ _
  refine wp_seq_k fun K26 hK26 => ?_
  refine wp_seq_k fun K27 hK27 => ?_
  refine region_lit ?_
  refine seq_val (.int .i64 6) 29 rfl kj kj ?_
  refine seq_val (.bool false) 30 rfl kj kj ?_
  refine seq_nil ?_
  refine hK27 _ _ ?_
  try clear hK27 K27
  refine cond_false kj ?_
  refine wp_exit ?_
  repeat (first | with_reducible refine goX1 ?_ | with_reducible refine goX2 ?_ | with_reducible refine goX3 ?_)
  exact (show bodyPost _ _ _ .normal _ _ from end0 rfl ⟨rfl, s1, s2, s3, s4, s5, s6, hs1, hs2, hs3, hs4, hs5, hs6, (by obtain ⟨u1, v1⟩ := id hs1; obtain ⟨u2, v2⟩ := id hs2; obtain ⟨u3, v3⟩ := id hs3; obtain ⟨u4, v4⟩ := id hs4; obtain ⟨u5, v5⟩ := id hs5; obtain ⟨u6, v6⟩ := id hs6; obtain ⟨uq0, vq0⟩ := id hq0_; obtain ⟨uq1, vq1⟩ := id hq1_; obtain ⟨uq2, vq2⟩ := id hq2_; obtain ⟨uq3, vq3⟩ := id hq3_; obtain ⟨uq4, vq4⟩ := id hq4_; obtain ⟨uq5, vq5⟩ := id hq5_; obtain ⟨ud1, vd1⟩ := id hd1; obtain ⟨ud2, vd2⟩ := id hd2; obtain ⟨ud3, vd3⟩ := id hd3; obtain ⟨ud4, vd4⟩ := id hd4; obtain ⟨ud5, vd5⟩ := id hd5; obtain ⟨ud6, vd6⟩ := id hd6; obtain ⟨uh1, uh2⟩ := id hhi; obtain ⟨ul1, ul2⟩ := id hlo; omega), x7, r1_7⟩)
set_option maxRecDepth 100000 in
set_option maxHeartbeats 4000000 in
theorem madd_1 (g : Nat) (q0_ q1_ q2_ q3_ q4_ q5_ xx yy p : Int) (hq0_ : isW q0_) (hq1_ : isW q1_) (hq2_ : isW q2_) (hq3_ : isW q3_) (hq4_ : isW q4_) (hq5_ : isW q5_) (hxx : isW xx) (hyy : isW yy) (hp : xx * yy = p) (hlt : (q0_ + 18446744073709551616 * q1_ + 340282366920938463463374607431768211456 * q2_ + 6277101735386680763835789423207666416102355444464034512896 * q3_ + 115792089237316195423570985008687907853269984665640564039457584007913129639936 * q4_ + 2135987035920910082395021706169552114602704522356652769947041607822219725780640550022962086936576 * q5_) + 18446744073709551616 * p < 39402006196394479212279040100143613805079739270465446667948293404245721771497210611414266254884915640806627990306816) (w : World) (hg : w.heap[g]? = some (.cells (ints .u64 [q0_, q1_, q2_, q3_, q4_, q5_]) 94)) :
    Calls Tryd.prog 55 #[.int .i64 1, .int .u64 xx, .int .u64 yy, .pointer (some ⟨g, 0, none⟩)] w (fun e W => e = .returned (.tuple #[]) ∧ ∃ r0 r1 r2 r3 r4 r5 : Int, isW r0 ∧ isW r1 ∧ isW r2 ∧ isW r3 ∧ isW r4 ∧ isW r5 ∧ (r0 + 18446744073709551616 * r1 + 340282366920938463463374607431768211456 * r2 + 6277101735386680763835789423207666416102355444464034512896 * r3 + 115792089237316195423570985008687907853269984665640564039457584007913129639936 * r4 + 2135987035920910082395021706169552114602704522356652769947041607822219725780640550022962086936576 * r5) = (q0_ + 18446744073709551616 * q1_ + 340282366920938463463374607431768211456 * q2_ + 6277101735386680763835789423207666416102355444464034512896 * q3_ + 115792089237316195423570985008687907853269984665640564039457584007913129639936 * q4_ + 2135987035920910082395021706169552114602704522356652769947041607822219725780640550022962086936576 * q5_) + 18446744073709551616 * p ∧ ExtB g w W ∧ W.heap[g]? = some (.cells (ints .u64 [r0, r1, r2, r3, r4, r5]) 94)) := by
  refine enter 44 [(0, .int .i64 1), (1, .int .u64 (xx)), (2, .int .u64 (yy)), (3, .pointer (some ⟨g, 0, none⟩))] Tryd.func55 rfl rfl kj rfl ?_
  refine wp_seq_k fun K2 hK2 => ?_
  refine region_lit ?_
  refine seq_val (.int .u64 (xx)) 12 rfl kj kj ?_
  refine seq_val (.int .u64 (yy)) 13 rfl kj kj ?_
  obtain ⟨hi_, lo_, hhi, hlo, hml, cml⟩ := mul64 xx yy hxx hyy
  rw [hp] at hml
  refine seq_call (.tuple #[.int .u64 (hi_), .int .u64 (lo_)]) 56 #[.int .u64 (xx), .int .u64 (yy)] 14 rfl kj kj ((mulR (cml _))) fun W1 e1 => ?_
  have x1 : ExtB g w W1 := ExtB.ext (ExtB.refl g w) e1
  refine seq_val (.tuple #[.int .u64 (hi_), .int .u64 (lo_)]) 11 rfl kj kj ?_
  refine seq_val (.int .u64 (hi_)) 15 rfl kj kj ?_
  refine seq_val (.int .u64 (lo_)) 16 rfl kj kj ?_
  refine seq_val (.int .u64 (hi_)) 7 rfl kj kj ?_
  refine seq_val (.int .u64 (lo_)) 8 rfl kj kj ?_
  refine seq_nil ?_
  refine hK2 _ _ ?_
  try clear hK2 K2
  refine wp_seq_k fun K3 hK3 => ?_
  refine region_lit ?_
  refine seq_val (.int .u64 0) 9 rfl kj kj ?_
  refine seq_nil ?_
  refine hK3 _ _ ?_
  try clear hK3 K3
  refine wp_seq_k fun K4 hK4 => ?_
  refine region_lit ?_
  refine seq_val (.int .i64 1) 18 rfl kj kj ?_
  refine seq_val (.int .i64 1) 19 rfl kj kj ?_
  refine seq_val (.pointer (some ⟨g, 1, none⟩)) 20 rfl kj kj ?_
  have r1_1 := (row_ext hg e1)
  refine seq_val (.int .u64 q1_) 21 rfl kj (run_loadC1 64 _ g 1 94 _ (.int .u64 q1_) _ r1_1 rfl kj kj kj) ?_
  refine seq_val (.int .u64 (lo_)) 22 rfl kj kj ?_
  obtain ⟨s1, d1, hs1, hd1, he1, ra1⟩ := add64 (q1_) (lo_) (0) hq1_ hlo ⟨by decide, by decide⟩
  refine seq_val (.tuple #[.int .u64 (s1), .int .u64 (d1)]) 23 rfl kj (run_extF (f := 48) (args := #[.int .u64 q1_, .int .u64 (lo_), .int .u64 0]) _ _ _ rfl kj kj (ra1 _)) ?_
  refine seq_val (.tuple #[.int .u64 (s1), .int .u64 (d1)]) 17 rfl kj kj ?_
  refine seq_val (.int .u64 (s1)) 24 rfl kj kj ?_
  refine seq_val (.int .u64 (d1)) 25 rfl kj kj ?_
  refine seq_val (.pointer (some ⟨g, 1, none⟩)) 26 rfl kj kj ?_
  refine seq_store g _ (ints .u64 ([q0_, (s1), q2_, q3_, q4_, q5_])) 94 r1_1 rfl kj (run_storeI 64 _ _ g 1 94 _ _ r1_1 rfl kj kj kj (show 1 < 6 by decide)) fun W2 p2 r1_2 => ?_
  have x2 : ExtB g w W2 := ExtB.puts x1 p2
  refine seq_val (.int .u64 (d1)) 9 rfl kj kj ?_
  refine seq_nil ?_
  refine hK4 _ _ ?_
  try clear hK4 K4
  refine wp_seq_k fun K5 hK5 => ?_
  refine region_lit ?_
  refine seq_val (.int .i64 1) 27 rfl kj kj ?_
  refine seq_val (.int .i64 2) 28 rfl kj kj ?_
  refine seq_val (.int .i64 2) 10 rfl kj kj ?_
  refine seq_nil ?_
  refine hK5 _ _ ?_
  try clear hK5 K5
  refine wp_block ?_
  refine wp_loop_rounds 5 ?_
  show Code.wp _ _ (Exit.then (Code.rounds _ _ _ 4) _) _ _
  refine wp_seq_k fun K6 hK6 => ?_
  refine wp_seq_k fun K7 hK7 => ?_
  refine region_lit ?_
  refine seq_val (.int .i64 2) 29 rfl kj kj ?_
  refine seq_val (.bool true) 30 rfl kj kj ?_
  refine seq_nil ?_
  refine hK7 _ _ ?_
  try clear hK7 K7
  refine cond_true kj ?_
  refine wp_skip ?_
  refine hK6 _ _ ?_
  try clear hK6 K6
  refine wp_seq_k fun K8 hK8 => ?_
  refine wp_block ?_
  refine wp_seq_k fun K9 hK9 => ?_
  refine region_lit ?_
  refine seq_val (.int .i64 2) 34 rfl kj kj ?_
  refine seq_val (.int .i64 2) 35 rfl kj kj ?_
  refine seq_val (.pointer (some ⟨g, 2, none⟩)) 36 rfl kj kj ?_
  refine seq_val (.int .u64 q2_) 37 rfl kj (run_loadC1 64 _ g 2 94 _ (.int .u64 q2_) _ r1_2 rfl kj kj kj) ?_
  refine seq_val (.int .u64 (hi_)) 38 rfl kj kj ?_
  refine seq_val (.int .u64 (d1)) 39 rfl kj kj ?_
  obtain ⟨s2, d2, hs2, hd2, he2, ra2⟩ := add64 (q2_) (hi_) (d1) hq2_ hhi hd1
  refine seq_val (.tuple #[.int .u64 (s2), .int .u64 (d2)]) 40 rfl kj (run_extF (f := 48) (args := #[.int .u64 q2_, .int .u64 (hi_), .int .u64 (d1)]) _ _ _ rfl kj kj (ra2 _)) ?_
  refine seq_val (.tuple #[.int .u64 (s2), .int .u64 (d2)]) 33 rfl kj kj ?_
  refine seq_val (.int .u64 (s2)) 41 rfl kj kj ?_
  refine seq_val (.int .u64 (d2)) 42 rfl kj kj ?_
  refine seq_val (.pointer (some ⟨g, 2, none⟩)) 43 rfl kj kj ?_
  refine seq_store g _ (ints .u64 ([q0_, (s1), (s2), q3_, q4_, q5_])) 94 r1_2 rfl kj (run_storeI 64 _ _ g 2 94 _ _ r1_2 rfl kj kj kj (show 2 < 6 by decide)) fun W3 p3 r1_3 => ?_
  have x3 : ExtB g w W3 := ExtB.puts x2 p3
  refine seq_val (.int .u64 (d2)) 9 rfl kj kj ?_
  refine seq_nil ?_
  refine hK9 _ _ ?_
  try clear hK9 K9
  refine region_lit ?_
  refine seq_val (.int .u64 0) 7 rfl kj kj ?_
  refine seq_nil ?_
  refine hK8 _ _ ?_
  try clear hK8 K8
  refine region_lit ?_
  refine seq_val (.int .i64 2) 31 rfl kj kj ?_
  refine seq_val (.int .i64 3) 32 rfl kj kj ?_
  refine seq_val (.int .i64 3) 10 rfl kj kj ?_
  refine seq_nil ?_
  show Code.rounds _ _ _ 4 _ _
  show Code.wp _ _ (Exit.then (Code.rounds _ _ _ 3) _) _ _
  refine wp_seq_k fun K10 hK10 => ?_
  refine wp_seq_k fun K11 hK11 => ?_
  refine region_lit ?_
  refine seq_val (.int .i64 3) 29 rfl kj kj ?_
  refine seq_val (.bool true) 30 rfl kj kj ?_
  refine seq_nil ?_
  refine hK11 _ _ ?_
  try clear hK11 K11
  refine cond_true kj ?_
  refine wp_skip ?_
  refine hK10 _ _ ?_
  try clear hK10 K10
  refine wp_seq_k fun K12 hK12 => ?_
  refine wp_block ?_
  refine wp_seq_k fun K13 hK13 => ?_
  refine region_lit ?_
  refine seq_val (.int .i64 3) 34 rfl kj kj ?_
  refine seq_val (.int .i64 3) 35 rfl kj kj ?_
  refine seq_val (.pointer (some ⟨g, 3, none⟩)) 36 rfl kj kj ?_
  refine seq_val (.int .u64 q3_) 37 rfl kj (run_loadC1 64 _ g 3 94 _ (.int .u64 q3_) _ r1_3 rfl kj kj kj) ?_
  refine seq_val (.int .u64 0) 38 rfl kj kj ?_
  refine seq_val (.int .u64 (d2)) 39 rfl kj kj ?_
  obtain ⟨s3, d3, hs3, hd3, he3, ra3⟩ := add64 (q3_) (0) (d2) hq3_ zero_isW hd2
  refine seq_val (.tuple #[.int .u64 (s3), .int .u64 (d3)]) 40 rfl kj (run_extF (f := 48) (args := #[.int .u64 q3_, .int .u64 0, .int .u64 (d2)]) _ _ _ rfl kj kj (ra3 _)) ?_
  refine seq_val (.tuple #[.int .u64 (s3), .int .u64 (d3)]) 33 rfl kj kj ?_
  refine seq_val (.int .u64 (s3)) 41 rfl kj kj ?_
  refine seq_val (.int .u64 (d3)) 42 rfl kj kj ?_
  refine seq_val (.pointer (some ⟨g, 3, none⟩)) 43 rfl kj kj ?_
  refine seq_store g _ (ints .u64 ([q0_, (s1), (s2), (s3), q4_, q5_])) 94 r1_3 rfl kj (run_storeI 64 _ _ g 3 94 _ _ r1_3 rfl kj kj kj (show 3 < 6 by decide)) fun W4 p4 r1_4 => ?_
  have x4 : ExtB g w W4 := ExtB.puts x3 p4
  refine seq_val (.int .u64 (d3)) 9 rfl kj kj ?_
  refine seq_nil ?_
  refine hK13 _ _ ?_
  try clear hK13 K13
  refine region_lit ?_
  refine seq_val (.int .u64 0) 7 rfl kj kj ?_
  refine seq_nil ?_
  refine hK12 _ _ ?_
  try clear hK12 K12
  refine region_lit ?_
  refine seq_val (.int .i64 3) 31 rfl kj kj ?_
  refine seq_val (.int .i64 4) 32 rfl kj kj ?_
  refine seq_val (.int .i64 4) 10 rfl kj kj ?_
  refine seq_nil ?_
  show Code.rounds _ _ _ 3 _ _
  show Code.wp _ _ (Exit.then (Code.rounds _ _ _ 2) _) _ _
  refine wp_seq_k fun K14 hK14 => ?_
  refine wp_seq_k fun K15 hK15 => ?_
  refine region_lit ?_
  refine seq_val (.int .i64 4) 29 rfl kj kj ?_
  refine seq_val (.bool true) 30 rfl kj kj ?_
  refine seq_nil ?_
  refine hK15 _ _ ?_
  try clear hK15 K15
  refine cond_true kj ?_
  refine wp_skip ?_
  refine hK14 _ _ ?_
  try clear hK14 K14
  refine wp_seq_k fun K16 hK16 => ?_
  refine wp_block ?_
  refine wp_seq_k fun K17 hK17 => ?_
  refine region_lit ?_
  refine seq_val (.int .i64 4) 34 rfl kj kj ?_
  refine seq_val (.int .i64 4) 35 rfl kj kj ?_
  refine seq_val (.pointer (some ⟨g, 4, none⟩)) 36 rfl kj kj ?_
  refine seq_val (.int .u64 q4_) 37 rfl kj (run_loadC1 64 _ g 4 94 _ (.int .u64 q4_) _ r1_4 rfl kj kj kj) ?_
  refine seq_val (.int .u64 0) 38 rfl kj kj ?_
  refine seq_val (.int .u64 (d3)) 39 rfl kj kj ?_
  obtain ⟨s4, d4, hs4, hd4, he4, ra4⟩ := add64 (q4_) (0) (d3) hq4_ zero_isW hd3
  refine seq_val (.tuple #[.int .u64 (s4), .int .u64 (d4)]) 40 rfl kj (run_extF (f := 48) (args := #[.int .u64 q4_, .int .u64 0, .int .u64 (d3)]) _ _ _ rfl kj kj (ra4 _)) ?_
  refine seq_val (.tuple #[.int .u64 (s4), .int .u64 (d4)]) 33 rfl kj kj ?_
  refine seq_val (.int .u64 (s4)) 41 rfl kj kj ?_
  refine seq_val (.int .u64 (d4)) 42 rfl kj kj ?_
  refine seq_val (.pointer (some ⟨g, 4, none⟩)) 43 rfl kj kj ?_
  refine seq_store g _ (ints .u64 ([q0_, (s1), (s2), (s3), (s4), q5_])) 94 r1_4 rfl kj (run_storeI 64 _ _ g 4 94 _ _ r1_4 rfl kj kj kj (show 4 < 6 by decide)) fun W5 p5 r1_5 => ?_
  have x5 : ExtB g w W5 := ExtB.puts x4 p5
  refine seq_val (.int .u64 (d4)) 9 rfl kj kj ?_
  refine seq_nil ?_
  refine hK17 _ _ ?_
  try clear hK17 K17
  refine region_lit ?_
  refine seq_val (.int .u64 0) 7 rfl kj kj ?_
  refine seq_nil ?_
  refine hK16 _ _ ?_
  try clear hK16 K16
  refine region_lit ?_
  refine seq_val (.int .i64 4) 31 rfl kj kj ?_
  refine seq_val (.int .i64 5) 32 rfl kj kj ?_
  refine seq_val (.int .i64 5) 10 rfl kj kj ?_
  refine seq_nil ?_
  show Code.rounds _ _ _ 2 _ _
  show Code.wp _ _ (Exit.then (Code.rounds _ _ _ 1) _) _ _
  refine wp_seq_k fun K18 hK18 => ?_
  refine wp_seq_k fun K19 hK19 => ?_
  refine region_lit ?_
  refine seq_val (.int .i64 5) 29 rfl kj kj ?_
  refine seq_val (.bool true) 30 rfl kj kj ?_
  refine seq_nil ?_
  refine hK19 _ _ ?_
  try clear hK19 K19
  refine cond_true kj ?_
  refine wp_skip ?_
  refine hK18 _ _ ?_
  try clear hK18 K18
  refine wp_seq_k fun K20 hK20 => ?_
  refine wp_block ?_
  refine wp_seq_k fun K21 hK21 => ?_
  refine region_lit ?_
  refine seq_val (.int .i64 5) 34 rfl kj kj ?_
  refine seq_val (.int .i64 5) 35 rfl kj kj ?_
  refine seq_val (.pointer (some ⟨g, 5, none⟩)) 36 rfl kj kj ?_
  refine seq_val (.int .u64 q5_) 37 rfl kj (run_loadC1 64 _ g 5 94 _ (.int .u64 q5_) _ r1_5 rfl kj kj kj) ?_
  refine seq_val (.int .u64 0) 38 rfl kj kj ?_
  refine seq_val (.int .u64 (d4)) 39 rfl kj kj ?_
  obtain ⟨s5, d5, hs5, hd5, he5, ra5⟩ := add64 (q5_) (0) (d4) hq5_ zero_isW hd4
  refine seq_val (.tuple #[.int .u64 (s5), .int .u64 (d5)]) 40 rfl kj (run_extF (f := 48) (args := #[.int .u64 q5_, .int .u64 0, .int .u64 (d4)]) _ _ _ rfl kj kj (ra5 _)) ?_
  refine seq_val (.tuple #[.int .u64 (s5), .int .u64 (d5)]) 33 rfl kj kj ?_
  refine seq_val (.int .u64 (s5)) 41 rfl kj kj ?_
  refine seq_val (.int .u64 (d5)) 42 rfl kj kj ?_
  refine seq_val (.pointer (some ⟨g, 5, none⟩)) 43 rfl kj kj ?_
  refine seq_store g _ (ints .u64 ([q0_, (s1), (s2), (s3), (s4), (s5)])) 94 r1_5 rfl kj (run_storeI 64 _ _ g 5 94 _ _ r1_5 rfl kj kj kj (show 5 < 6 by decide)) fun W6 p6 r1_6 => ?_
  have x6 : ExtB g w W6 := ExtB.puts x5 p6
  refine seq_val (.int .u64 (d5)) 9 rfl kj kj ?_
  refine seq_nil ?_
  refine hK21 _ _ ?_
  try clear hK21 K21
  refine region_lit ?_
  refine seq_val (.int .u64 0) 7 rfl kj kj ?_
  refine seq_nil ?_
  refine hK20 _ _ ?_
  try clear hK20 K20
  refine region_lit ?_
  refine seq_val (.int .i64 5) 31 rfl kj kj ?_
  refine seq_val (.int .i64 6) 32 rfl kj kj ?_
  refine seq_val (.int .i64 6) 10 rfl kj kj ?_
  refine seq_nil ?_
  show Code.rounds _ _ _ 1 _ _
  show Code.wp _ _ (Exit.then (Code.rounds _ _ _ 0) _) _ _
  refine wp_seq_k fun K22 hK22 => ?_
  refine wp_seq_k fun K23 hK23 => ?_
  refine region_lit ?_
  refine seq_val (.int .i64 6) 29 rfl kj kj ?_
  refine seq_val (.bool false) 30 rfl kj kj ?_
  refine seq_nil ?_
  refine hK23 _ _ ?_
  try clear hK23 K23
  refine cond_false kj ?_
  refine wp_exit ?_
  repeat (first | with_reducible refine goX1 ?_ | with_reducible refine goX2 ?_ | with_reducible refine goX3 ?_)
  exact (show bodyPost _ _ _ .normal _ _ from end0 rfl ⟨rfl, q0_, s1, s2, s3, s4, s5, hq0_, hs1, hs2, hs3, hs4, hs5, (by obtain ⟨u1, v1⟩ := id hs1; obtain ⟨u2, v2⟩ := id hs2; obtain ⟨u3, v3⟩ := id hs3; obtain ⟨u4, v4⟩ := id hs4; obtain ⟨u5, v5⟩ := id hs5; obtain ⟨uq0, vq0⟩ := id hq0_; obtain ⟨uq1, vq1⟩ := id hq1_; obtain ⟨uq2, vq2⟩ := id hq2_; obtain ⟨uq3, vq3⟩ := id hq3_; obtain ⟨uq4, vq4⟩ := id hq4_; obtain ⟨uq5, vq5⟩ := id hq5_; obtain ⟨ud1, vd1⟩ := id hd1; obtain ⟨ud2, vd2⟩ := id hd2; obtain ⟨ud3, vd3⟩ := id hd3; obtain ⟨ud4, vd4⟩ := id hd4; obtain ⟨ud5, vd5⟩ := id hd5; obtain ⟨uh1, uh2⟩ := id hhi; obtain ⟨ul1, ul2⟩ := id hlo; omega), x6, r1_6⟩)
set_option maxRecDepth 100000 in
set_option maxHeartbeats 4000000 in
theorem madd_2 (g : Nat) (q0_ q1_ q2_ q3_ q4_ q5_ xx yy p : Int) (hq0_ : isW q0_) (hq1_ : isW q1_) (hq2_ : isW q2_) (hq3_ : isW q3_) (hq4_ : isW q4_) (hq5_ : isW q5_) (hxx : isW xx) (hyy : isW yy) (hp : xx * yy = p) (hlt : (q0_ + 18446744073709551616 * q1_ + 340282366920938463463374607431768211456 * q2_ + 6277101735386680763835789423207666416102355444464034512896 * q3_ + 115792089237316195423570985008687907853269984665640564039457584007913129639936 * q4_ + 2135987035920910082395021706169552114602704522356652769947041607822219725780640550022962086936576 * q5_) + 340282366920938463463374607431768211456 * p < 39402006196394479212279040100143613805079739270465446667948293404245721771497210611414266254884915640806627990306816) (w : World) (hg : w.heap[g]? = some (.cells (ints .u64 [q0_, q1_, q2_, q3_, q4_, q5_]) 94)) :
    Calls Tryd.prog 55 #[.int .i64 2, .int .u64 xx, .int .u64 yy, .pointer (some ⟨g, 0, none⟩)] w (fun e W => e = .returned (.tuple #[]) ∧ ∃ r0 r1 r2 r3 r4 r5 : Int, isW r0 ∧ isW r1 ∧ isW r2 ∧ isW r3 ∧ isW r4 ∧ isW r5 ∧ (r0 + 18446744073709551616 * r1 + 340282366920938463463374607431768211456 * r2 + 6277101735386680763835789423207666416102355444464034512896 * r3 + 115792089237316195423570985008687907853269984665640564039457584007913129639936 * r4 + 2135987035920910082395021706169552114602704522356652769947041607822219725780640550022962086936576 * r5) = (q0_ + 18446744073709551616 * q1_ + 340282366920938463463374607431768211456 * q2_ + 6277101735386680763835789423207666416102355444464034512896 * q3_ + 115792089237316195423570985008687907853269984665640564039457584007913129639936 * q4_ + 2135987035920910082395021706169552114602704522356652769947041607822219725780640550022962086936576 * q5_) + 340282366920938463463374607431768211456 * p ∧ ExtB g w W ∧ W.heap[g]? = some (.cells (ints .u64 [r0, r1, r2, r3, r4, r5]) 94)) := by
  refine enter 44 [(0, .int .i64 2), (1, .int .u64 (xx)), (2, .int .u64 (yy)), (3, .pointer (some ⟨g, 0, none⟩))] Tryd.func55 rfl rfl kj rfl ?_
  refine wp_seq_k fun K2 hK2 => ?_
  refine region_lit ?_
  refine seq_val (.int .u64 (xx)) 12 rfl kj kj ?_
  refine seq_val (.int .u64 (yy)) 13 rfl kj kj ?_
  obtain ⟨hi_, lo_, hhi, hlo, hml, cml⟩ := mul64 xx yy hxx hyy
  rw [hp] at hml
  refine seq_call (.tuple #[.int .u64 (hi_), .int .u64 (lo_)]) 56 #[.int .u64 (xx), .int .u64 (yy)] 14 rfl kj kj ((mulR (cml _))) fun W1 e1 => ?_
  have x1 : ExtB g w W1 := ExtB.ext (ExtB.refl g w) e1
  refine seq_val (.tuple #[.int .u64 (hi_), .int .u64 (lo_)]) 11 rfl kj kj ?_
  refine seq_val (.int .u64 (hi_)) 15 rfl kj kj ?_
  refine seq_val (.int .u64 (lo_)) 16 rfl kj kj ?_
  refine seq_val (.int .u64 (hi_)) 7 rfl kj kj ?_
  refine seq_val (.int .u64 (lo_)) 8 rfl kj kj ?_
  refine seq_nil ?_
  refine hK2 _ _ ?_
  try clear hK2 K2
  refine wp_seq_k fun K3 hK3 => ?_
  refine region_lit ?_
  refine seq_val (.int .u64 0) 9 rfl kj kj ?_
  refine seq_nil ?_
  refine hK3 _ _ ?_
  try clear hK3 K3
  refine wp_seq_k fun K4 hK4 => ?_
  refine region_lit ?_
  refine seq_val (.int .i64 2) 18 rfl kj kj ?_
  refine seq_val (.int .i64 2) 19 rfl kj kj ?_
  refine seq_val (.pointer (some ⟨g, 2, none⟩)) 20 rfl kj kj ?_
  have r1_1 := (row_ext hg e1)
  refine seq_val (.int .u64 q2_) 21 rfl kj (run_loadC1 64 _ g 2 94 _ (.int .u64 q2_) _ r1_1 rfl kj kj kj) ?_
  refine seq_val (.int .u64 (lo_)) 22 rfl kj kj ?_
  obtain ⟨s1, d1, hs1, hd1, he1, ra1⟩ := add64 (q2_) (lo_) (0) hq2_ hlo ⟨by decide, by decide⟩
  refine seq_val (.tuple #[.int .u64 (s1), .int .u64 (d1)]) 23 rfl kj (run_extF (f := 48) (args := #[.int .u64 q2_, .int .u64 (lo_), .int .u64 0]) _ _ _ rfl kj kj (ra1 _)) ?_
  refine seq_val (.tuple #[.int .u64 (s1), .int .u64 (d1)]) 17 rfl kj kj ?_
  refine seq_val (.int .u64 (s1)) 24 rfl kj kj ?_
  refine seq_val (.int .u64 (d1)) 25 rfl kj kj ?_
  refine seq_val (.pointer (some ⟨g, 2, none⟩)) 26 rfl kj kj ?_
  refine seq_store g _ (ints .u64 ([q0_, q1_, (s1), q3_, q4_, q5_])) 94 r1_1 rfl kj (run_storeI 64 _ _ g 2 94 _ _ r1_1 rfl kj kj kj (show 2 < 6 by decide)) fun W2 p2 r1_2 => ?_
  have x2 : ExtB g w W2 := ExtB.puts x1 p2
  refine seq_val (.int .u64 (d1)) 9 rfl kj kj ?_
  refine seq_nil ?_
  refine hK4 _ _ ?_
  try clear hK4 K4
  refine wp_seq_k fun K5 hK5 => ?_
  refine region_lit ?_
  refine seq_val (.int .i64 2) 27 rfl kj kj ?_
  refine seq_val (.int .i64 3) 28 rfl kj kj ?_
  refine seq_val (.int .i64 3) 10 rfl kj kj ?_
  refine seq_nil ?_
  refine hK5 _ _ ?_
  try clear hK5 K5
  refine wp_block ?_
  refine wp_loop_rounds 4 ?_
  show Code.wp _ _ (Exit.then (Code.rounds _ _ _ 3) _) _ _
  refine wp_seq_k fun K6 hK6 => ?_
  refine wp_seq_k fun K7 hK7 => ?_
  refine region_lit ?_
  refine seq_val (.int .i64 3) 29 rfl kj kj ?_
  refine seq_val (.bool true) 30 rfl kj kj ?_
  refine seq_nil ?_
  refine hK7 _ _ ?_
  try clear hK7 K7
  refine cond_true kj ?_
  refine wp_skip ?_
  refine hK6 _ _ ?_
  try clear hK6 K6
  refine wp_seq_k fun K8 hK8 => ?_
  refine wp_block ?_
  refine wp_seq_k fun K9 hK9 => ?_
  refine region_lit ?_
  refine seq_val (.int .i64 3) 34 rfl kj kj ?_
  refine seq_val (.int .i64 3) 35 rfl kj kj ?_
  refine seq_val (.pointer (some ⟨g, 3, none⟩)) 36 rfl kj kj ?_
  refine seq_val (.int .u64 q3_) 37 rfl kj (run_loadC1 64 _ g 3 94 _ (.int .u64 q3_) _ r1_2 rfl kj kj kj) ?_
  refine seq_val (.int .u64 (hi_)) 38 rfl kj kj ?_
  refine seq_val (.int .u64 (d1)) 39 rfl kj kj ?_
  obtain ⟨s2, d2, hs2, hd2, he2, ra2⟩ := add64 (q3_) (hi_) (d1) hq3_ hhi hd1
  refine seq_val (.tuple #[.int .u64 (s2), .int .u64 (d2)]) 40 rfl kj (run_extF (f := 48) (args := #[.int .u64 q3_, .int .u64 (hi_), .int .u64 (d1)]) _ _ _ rfl kj kj (ra2 _)) ?_
  refine seq_val (.tuple #[.int .u64 (s2), .int .u64 (d2)]) 33 rfl kj kj ?_
  refine seq_val (.int .u64 (s2)) 41 rfl kj kj ?_
  refine seq_val (.int .u64 (d2)) 42 rfl kj kj ?_
  refine seq_val (.pointer (some ⟨g, 3, none⟩)) 43 rfl kj kj ?_
  refine seq_store g _ (ints .u64 ([q0_, q1_, (s1), (s2), q4_, q5_])) 94 r1_2 rfl kj (run_storeI 64 _ _ g 3 94 _ _ r1_2 rfl kj kj kj (show 3 < 6 by decide)) fun W3 p3 r1_3 => ?_
  have x3 : ExtB g w W3 := ExtB.puts x2 p3
  refine seq_val (.int .u64 (d2)) 9 rfl kj kj ?_
  refine seq_nil ?_
  refine hK9 _ _ ?_
  try clear hK9 K9
  refine region_lit ?_
  refine seq_val (.int .u64 0) 7 rfl kj kj ?_
  refine seq_nil ?_
  refine hK8 _ _ ?_
  try clear hK8 K8
  refine region_lit ?_
  refine seq_val (.int .i64 3) 31 rfl kj kj ?_
  refine seq_val (.int .i64 4) 32 rfl kj kj ?_
  refine seq_val (.int .i64 4) 10 rfl kj kj ?_
  refine seq_nil ?_
  show Code.rounds _ _ _ 3 _ _
  show Code.wp _ _ (Exit.then (Code.rounds _ _ _ 2) _) _ _
  refine wp_seq_k fun K10 hK10 => ?_
  refine wp_seq_k fun K11 hK11 => ?_
  refine region_lit ?_
  refine seq_val (.int .i64 4) 29 rfl kj kj ?_
  refine seq_val (.bool true) 30 rfl kj kj ?_
  refine seq_nil ?_
  refine hK11 _ _ ?_
  try clear hK11 K11
  refine cond_true kj ?_
  refine wp_skip ?_
  refine hK10 _ _ ?_
  try clear hK10 K10
  refine wp_seq_k fun K12 hK12 => ?_
  refine wp_block ?_
  refine wp_seq_k fun K13 hK13 => ?_
  refine region_lit ?_
  refine seq_val (.int .i64 4) 34 rfl kj kj ?_
  refine seq_val (.int .i64 4) 35 rfl kj kj ?_
  refine seq_val (.pointer (some ⟨g, 4, none⟩)) 36 rfl kj kj ?_
  refine seq_val (.int .u64 q4_) 37 rfl kj (run_loadC1 64 _ g 4 94 _ (.int .u64 q4_) _ r1_3 rfl kj kj kj) ?_
  refine seq_val (.int .u64 0) 38 rfl kj kj ?_
  refine seq_val (.int .u64 (d2)) 39 rfl kj kj ?_
  obtain ⟨s3, d3, hs3, hd3, he3, ra3⟩ := add64 (q4_) (0) (d2) hq4_ zero_isW hd2
  refine seq_val (.tuple #[.int .u64 (s3), .int .u64 (d3)]) 40 rfl kj (run_extF (f := 48) (args := #[.int .u64 q4_, .int .u64 0, .int .u64 (d2)]) _ _ _ rfl kj kj (ra3 _)) ?_
  refine seq_val (.tuple #[.int .u64 (s3), .int .u64 (d3)]) 33 rfl kj kj ?_
  refine seq_val (.int .u64 (s3)) 41 rfl kj kj ?_
  refine seq_val (.int .u64 (d3)) 42 rfl kj kj ?_
  refine seq_val (.pointer (some ⟨g, 4, none⟩)) 43 rfl kj kj ?_
  refine seq_store g _ (ints .u64 ([q0_, q1_, (s1), (s2), (s3), q5_])) 94 r1_3 rfl kj (run_storeI 64 _ _ g 4 94 _ _ r1_3 rfl kj kj kj (show 4 < 6 by decide)) fun W4 p4 r1_4 => ?_
  have x4 : ExtB g w W4 := ExtB.puts x3 p4
  refine seq_val (.int .u64 (d3)) 9 rfl kj kj ?_
  refine seq_nil ?_
  refine hK13 _ _ ?_
  try clear hK13 K13
  refine region_lit ?_
  refine seq_val (.int .u64 0) 7 rfl kj kj ?_
  refine seq_nil ?_
  refine hK12 _ _ ?_
  try clear hK12 K12
  refine region_lit ?_
  refine seq_val (.int .i64 4) 31 rfl kj kj ?_
  refine seq_val (.int .i64 5) 32 rfl kj kj ?_
  refine seq_val (.int .i64 5) 10 rfl kj kj ?_
  refine seq_nil ?_
  show Code.rounds _ _ _ 2 _ _
  show Code.wp _ _ (Exit.then (Code.rounds _ _ _ 1) _) _ _
  refine wp_seq_k fun K14 hK14 => ?_
  refine wp_seq_k fun K15 hK15 => ?_
  refine region_lit ?_
  refine seq_val (.int .i64 5) 29 rfl kj kj ?_
  refine seq_val (.bool true) 30 rfl kj kj ?_
  refine seq_nil ?_
  refine hK15 _ _ ?_
  try clear hK15 K15
  refine cond_true kj ?_
  refine wp_skip ?_
  refine hK14 _ _ ?_
  try clear hK14 K14
  refine wp_seq_k fun K16 hK16 => ?_
  refine wp_block ?_
  refine wp_seq_k fun K17 hK17 => ?_
  refine region_lit ?_
  refine seq_val (.int .i64 5) 34 rfl kj kj ?_
  refine seq_val (.int .i64 5) 35 rfl kj kj ?_
  refine seq_val (.pointer (some ⟨g, 5, none⟩)) 36 rfl kj kj ?_
  refine seq_val (.int .u64 q5_) 37 rfl kj (run_loadC1 64 _ g 5 94 _ (.int .u64 q5_) _ r1_4 rfl kj kj kj) ?_
  refine seq_val (.int .u64 0) 38 rfl kj kj ?_
  refine seq_val (.int .u64 (d3)) 39 rfl kj kj ?_
  obtain ⟨s4, d4, hs4, hd4, he4, ra4⟩ := add64 (q5_) (0) (d3) hq5_ zero_isW hd3
  refine seq_val (.tuple #[.int .u64 (s4), .int .u64 (d4)]) 40 rfl kj (run_extF (f := 48) (args := #[.int .u64 q5_, .int .u64 0, .int .u64 (d3)]) _ _ _ rfl kj kj (ra4 _)) ?_
  refine seq_val (.tuple #[.int .u64 (s4), .int .u64 (d4)]) 33 rfl kj kj ?_
  refine seq_val (.int .u64 (s4)) 41 rfl kj kj ?_
  refine seq_val (.int .u64 (d4)) 42 rfl kj kj ?_
  refine seq_val (.pointer (some ⟨g, 5, none⟩)) 43 rfl kj kj ?_
  refine seq_store g _ (ints .u64 ([q0_, q1_, (s1), (s2), (s3), (s4)])) 94 r1_4 rfl kj (run_storeI 64 _ _ g 5 94 _ _ r1_4 rfl kj kj kj (show 5 < 6 by decide)) fun W5 p5 r1_5 => ?_
  have x5 : ExtB g w W5 := ExtB.puts x4 p5
  refine seq_val (.int .u64 (d4)) 9 rfl kj kj ?_
  refine seq_nil ?_
  refine hK17 _ _ ?_
  try clear hK17 K17
  refine region_lit ?_
  refine seq_val (.int .u64 0) 7 rfl kj kj ?_
  refine seq_nil ?_
  refine hK16 _ _ ?_
  try clear hK16 K16
  refine region_lit ?_
  refine seq_val (.int .i64 5) 31 rfl kj kj ?_
  refine seq_val (.int .i64 6) 32 rfl kj kj ?_
  refine seq_val (.int .i64 6) 10 rfl kj kj ?_
  refine seq_nil ?_
  show Code.rounds _ _ _ 1 _ _
  show Code.wp _ _ (Exit.then (Code.rounds _ _ _ 0) _) _ _
  refine wp_seq_k fun K18 hK18 => ?_
  refine wp_seq_k fun K19 hK19 => ?_
  refine region_lit ?_
  refine seq_val (.int .i64 6) 29 rfl kj kj ?_
  refine seq_val (.bool false) 30 rfl kj kj ?_
  refine seq_nil ?_
  refine hK19 _ _ ?_
  try clear hK19 K19
  refine cond_false kj ?_
  refine wp_exit ?_
  repeat (first | with_reducible refine goX1 ?_ | with_reducible refine goX2 ?_ | with_reducible refine goX3 ?_)
  exact (show bodyPost _ _ _ .normal _ _ from end0 rfl ⟨rfl, q0_, q1_, s1, s2, s3, s4, hq0_, hq1_, hs1, hs2, hs3, hs4, (by obtain ⟨u1, v1⟩ := id hs1; obtain ⟨u2, v2⟩ := id hs2; obtain ⟨u3, v3⟩ := id hs3; obtain ⟨u4, v4⟩ := id hs4; obtain ⟨uq0, vq0⟩ := id hq0_; obtain ⟨uq1, vq1⟩ := id hq1_; obtain ⟨uq2, vq2⟩ := id hq2_; obtain ⟨uq3, vq3⟩ := id hq3_; obtain ⟨uq4, vq4⟩ := id hq4_; obtain ⟨uq5, vq5⟩ := id hq5_; obtain ⟨ud1, vd1⟩ := id hd1; obtain ⟨ud2, vd2⟩ := id hd2; obtain ⟨ud3, vd3⟩ := id hd3; obtain ⟨ud4, vd4⟩ := id hd4; obtain ⟨uh1, uh2⟩ := id hhi; obtain ⟨ul1, ul2⟩ := id hlo; omega), x5, r1_5⟩)
set_option maxRecDepth 100000 in
set_option maxHeartbeats 4000000 in
theorem madd_3 (g : Nat) (q0_ q1_ q2_ q3_ q4_ q5_ xx yy p : Int) (hq0_ : isW q0_) (hq1_ : isW q1_) (hq2_ : isW q2_) (hq3_ : isW q3_) (hq4_ : isW q4_) (hq5_ : isW q5_) (hxx : isW xx) (hyy : isW yy) (hp : xx * yy = p) (hlt : (q0_ + 18446744073709551616 * q1_ + 340282366920938463463374607431768211456 * q2_ + 6277101735386680763835789423207666416102355444464034512896 * q3_ + 115792089237316195423570985008687907853269984665640564039457584007913129639936 * q4_ + 2135987035920910082395021706169552114602704522356652769947041607822219725780640550022962086936576 * q5_) + 6277101735386680763835789423207666416102355444464034512896 * p < 39402006196394479212279040100143613805079739270465446667948293404245721771497210611414266254884915640806627990306816) (w : World) (hg : w.heap[g]? = some (.cells (ints .u64 [q0_, q1_, q2_, q3_, q4_, q5_]) 94)) :
    Calls Tryd.prog 55 #[.int .i64 3, .int .u64 xx, .int .u64 yy, .pointer (some ⟨g, 0, none⟩)] w (fun e W => e = .returned (.tuple #[]) ∧ ∃ r0 r1 r2 r3 r4 r5 : Int, isW r0 ∧ isW r1 ∧ isW r2 ∧ isW r3 ∧ isW r4 ∧ isW r5 ∧ (r0 + 18446744073709551616 * r1 + 340282366920938463463374607431768211456 * r2 + 6277101735386680763835789423207666416102355444464034512896 * r3 + 115792089237316195423570985008687907853269984665640564039457584007913129639936 * r4 + 2135987035920910082395021706169552114602704522356652769947041607822219725780640550022962086936576 * r5) = (q0_ + 18446744073709551616 * q1_ + 340282366920938463463374607431768211456 * q2_ + 6277101735386680763835789423207666416102355444464034512896 * q3_ + 115792089237316195423570985008687907853269984665640564039457584007913129639936 * q4_ + 2135987035920910082395021706169552114602704522356652769947041607822219725780640550022962086936576 * q5_) + 6277101735386680763835789423207666416102355444464034512896 * p ∧ ExtB g w W ∧ W.heap[g]? = some (.cells (ints .u64 [r0, r1, r2, r3, r4, r5]) 94)) := by
  refine enter 44 [(0, .int .i64 3), (1, .int .u64 (xx)), (2, .int .u64 (yy)), (3, .pointer (some ⟨g, 0, none⟩))] Tryd.func55 rfl rfl kj rfl ?_
  refine wp_seq_k fun K2 hK2 => ?_
  refine region_lit ?_
  refine seq_val (.int .u64 (xx)) 12 rfl kj kj ?_
  refine seq_val (.int .u64 (yy)) 13 rfl kj kj ?_
  obtain ⟨hi_, lo_, hhi, hlo, hml, cml⟩ := mul64 xx yy hxx hyy
  rw [hp] at hml
  refine seq_call (.tuple #[.int .u64 (hi_), .int .u64 (lo_)]) 56 #[.int .u64 (xx), .int .u64 (yy)] 14 rfl kj kj ((mulR (cml _))) fun W1 e1 => ?_
  have x1 : ExtB g w W1 := ExtB.ext (ExtB.refl g w) e1
  refine seq_val (.tuple #[.int .u64 (hi_), .int .u64 (lo_)]) 11 rfl kj kj ?_
  refine seq_val (.int .u64 (hi_)) 15 rfl kj kj ?_
  refine seq_val (.int .u64 (lo_)) 16 rfl kj kj ?_
  refine seq_val (.int .u64 (hi_)) 7 rfl kj kj ?_
  refine seq_val (.int .u64 (lo_)) 8 rfl kj kj ?_
  refine seq_nil ?_
  refine hK2 _ _ ?_
  try clear hK2 K2
  refine wp_seq_k fun K3 hK3 => ?_
  refine region_lit ?_
  refine seq_val (.int .u64 0) 9 rfl kj kj ?_
  refine seq_nil ?_
  refine hK3 _ _ ?_
  try clear hK3 K3
  refine wp_seq_k fun K4 hK4 => ?_
  refine region_lit ?_
  refine seq_val (.int .i64 3) 18 rfl kj kj ?_
  refine seq_val (.int .i64 3) 19 rfl kj kj ?_
  refine seq_val (.pointer (some ⟨g, 3, none⟩)) 20 rfl kj kj ?_
  have r1_1 := (row_ext hg e1)
  refine seq_val (.int .u64 q3_) 21 rfl kj (run_loadC1 64 _ g 3 94 _ (.int .u64 q3_) _ r1_1 rfl kj kj kj) ?_
  refine seq_val (.int .u64 (lo_)) 22 rfl kj kj ?_
  obtain ⟨s1, d1, hs1, hd1, he1, ra1⟩ := add64 (q3_) (lo_) (0) hq3_ hlo ⟨by decide, by decide⟩
  refine seq_val (.tuple #[.int .u64 (s1), .int .u64 (d1)]) 23 rfl kj (run_extF (f := 48) (args := #[.int .u64 q3_, .int .u64 (lo_), .int .u64 0]) _ _ _ rfl kj kj (ra1 _)) ?_
  refine seq_val (.tuple #[.int .u64 (s1), .int .u64 (d1)]) 17 rfl kj kj ?_
  refine seq_val (.int .u64 (s1)) 24 rfl kj kj ?_
  refine seq_val (.int .u64 (d1)) 25 rfl kj kj ?_
  refine seq_val (.pointer (some ⟨g, 3, none⟩)) 26 rfl kj kj ?_
  refine seq_store g _ (ints .u64 ([q0_, q1_, q2_, (s1), q4_, q5_])) 94 r1_1 rfl kj (run_storeI 64 _ _ g 3 94 _ _ r1_1 rfl kj kj kj (show 3 < 6 by decide)) fun W2 p2 r1_2 => ?_
  have x2 : ExtB g w W2 := ExtB.puts x1 p2
  refine seq_val (.int .u64 (d1)) 9 rfl kj kj ?_
  refine seq_nil ?_
  refine hK4 _ _ ?_
  try clear hK4 K4
  refine wp_seq_k fun K5 hK5 => ?_
  refine region_lit ?_
  refine seq_val (.int .i64 3) 27 rfl kj kj ?_
  refine seq_val (.int .i64 4) 28 rfl kj kj ?_
  refine seq_val (.int .i64 4) 10 rfl kj kj ?_
  refine seq_nil ?_
  refine hK5 _ _ ?_
  try clear hK5 K5
  refine wp_block ?_
  refine wp_loop_rounds 3 ?_
  show Code.wp _ _ (Exit.then (Code.rounds _ _ _ 2) _) _ _
  refine wp_seq_k fun K6 hK6 => ?_
  refine wp_seq_k fun K7 hK7 => ?_
  refine region_lit ?_
  refine seq_val (.int .i64 4) 29 rfl kj kj ?_
  refine seq_val (.bool true) 30 rfl kj kj ?_
  refine seq_nil ?_
  refine hK7 _ _ ?_
  try clear hK7 K7
  refine cond_true kj ?_
  refine wp_skip ?_
  refine hK6 _ _ ?_
  try clear hK6 K6
  refine wp_seq_k fun K8 hK8 => ?_
  refine wp_block ?_
  refine wp_seq_k fun K9 hK9 => ?_
  refine region_lit ?_
  refine seq_val (.int .i64 4) 34 rfl kj kj ?_
  refine seq_val (.int .i64 4) 35 rfl kj kj ?_
  refine seq_val (.pointer (some ⟨g, 4, none⟩)) 36 rfl kj kj ?_
  refine seq_val (.int .u64 q4_) 37 rfl kj (run_loadC1 64 _ g 4 94 _ (.int .u64 q4_) _ r1_2 rfl kj kj kj) ?_
  refine seq_val (.int .u64 (hi_)) 38 rfl kj kj ?_
  refine seq_val (.int .u64 (d1)) 39 rfl kj kj ?_
  obtain ⟨s2, d2, hs2, hd2, he2, ra2⟩ := add64 (q4_) (hi_) (d1) hq4_ hhi hd1
  refine seq_val (.tuple #[.int .u64 (s2), .int .u64 (d2)]) 40 rfl kj (run_extF (f := 48) (args := #[.int .u64 q4_, .int .u64 (hi_), .int .u64 (d1)]) _ _ _ rfl kj kj (ra2 _)) ?_
  refine seq_val (.tuple #[.int .u64 (s2), .int .u64 (d2)]) 33 rfl kj kj ?_
  refine seq_val (.int .u64 (s2)) 41 rfl kj kj ?_
  refine seq_val (.int .u64 (d2)) 42 rfl kj kj ?_
  refine seq_val (.pointer (some ⟨g, 4, none⟩)) 43 rfl kj kj ?_
  refine seq_store g _ (ints .u64 ([q0_, q1_, q2_, (s1), (s2), q5_])) 94 r1_2 rfl kj (run_storeI 64 _ _ g 4 94 _ _ r1_2 rfl kj kj kj (show 4 < 6 by decide)) fun W3 p3 r1_3 => ?_
  have x3 : ExtB g w W3 := ExtB.puts x2 p3
  refine seq_val (.int .u64 (d2)) 9 rfl kj kj ?_
  refine seq_nil ?_
  refine hK9 _ _ ?_
  try clear hK9 K9
  refine region_lit ?_
  refine seq_val (.int .u64 0) 7 rfl kj kj ?_
  refine seq_nil ?_
  refine hK8 _ _ ?_
  try clear hK8 K8
  refine region_lit ?_
  refine seq_val (.int .i64 4) 31 rfl kj kj ?_
  refine seq_val (.int .i64 5) 32 rfl kj kj ?_
  refine seq_val (.int .i64 5) 10 rfl kj kj ?_
  refine seq_nil ?_
  show Code.rounds _ _ _ 2 _ _
  show Code.wp _ _ (Exit.then (Code.rounds _ _ _ 1) _) _ _
  refine wp_seq_k fun K10 hK10 => ?_
  refine wp_seq_k fun K11 hK11 => ?_
  refine region_lit ?_
  refine seq_val (.int .i64 5) 29 rfl kj kj ?_
  refine seq_val (.bool true) 30 rfl kj kj ?_
  refine seq_nil ?_
  refine hK11 _ _ ?_
  try clear hK11 K11
  refine cond_true kj ?_
  refine wp_skip ?_
  refine hK10 _ _ ?_
  try clear hK10 K10
  refine wp_seq_k fun K12 hK12 => ?_
  refine wp_block ?_
  refine wp_seq_k fun K13 hK13 => ?_
  refine region_lit ?_
  refine seq_val (.int .i64 5) 34 rfl kj kj ?_
  refine seq_val (.int .i64 5) 35 rfl kj kj ?_
  refine seq_val (.pointer (some ⟨g, 5, none⟩)) 36 rfl kj kj ?_
  refine seq_val (.int .u64 q5_) 37 rfl kj (run_loadC1 64 _ g 5 94 _ (.int .u64 q5_) _ r1_3 rfl kj kj kj) ?_
  refine seq_val (.int .u64 0) 38 rfl kj kj ?_
  refine seq_val (.int .u64 (d2)) 39 rfl kj kj ?_
  obtain ⟨s3, d3, hs3, hd3, he3, ra3⟩ := add64 (q5_) (0) (d2) hq5_ zero_isW hd2
  refine seq_val (.tuple #[.int .u64 (s3), .int .u64 (d3)]) 40 rfl kj (run_extF (f := 48) (args := #[.int .u64 q5_, .int .u64 0, .int .u64 (d2)]) _ _ _ rfl kj kj (ra3 _)) ?_
  refine seq_val (.tuple #[.int .u64 (s3), .int .u64 (d3)]) 33 rfl kj kj ?_
  refine seq_val (.int .u64 (s3)) 41 rfl kj kj ?_
  refine seq_val (.int .u64 (d3)) 42 rfl kj kj ?_
  refine seq_val (.pointer (some ⟨g, 5, none⟩)) 43 rfl kj kj ?_
  refine seq_store g _ (ints .u64 ([q0_, q1_, q2_, (s1), (s2), (s3)])) 94 r1_3 rfl kj (run_storeI 64 _ _ g 5 94 _ _ r1_3 rfl kj kj kj (show 5 < 6 by decide)) fun W4 p4 r1_4 => ?_
  have x4 : ExtB g w W4 := ExtB.puts x3 p4
  refine seq_val (.int .u64 (d3)) 9 rfl kj kj ?_
  refine seq_nil ?_
  refine hK13 _ _ ?_
  try clear hK13 K13
  refine region_lit ?_
  refine seq_val (.int .u64 0) 7 rfl kj kj ?_
  refine seq_nil ?_
  refine hK12 _ _ ?_
  try clear hK12 K12
  refine region_lit ?_
  refine seq_val (.int .i64 5) 31 rfl kj kj ?_
  refine seq_val (.int .i64 6) 32 rfl kj kj ?_
  refine seq_val (.int .i64 6) 10 rfl kj kj ?_
  refine seq_nil ?_
  show Code.rounds _ _ _ 1 _ _
  show Code.wp _ _ (Exit.then (Code.rounds _ _ _ 0) _) _ _
  refine wp_seq_k fun K14 hK14 => ?_
  refine wp_seq_k fun K15 hK15 => ?_
  refine region_lit ?_
  refine seq_val (.int .i64 6) 29 rfl kj kj ?_
  refine seq_val (.bool false) 30 rfl kj kj ?_
  refine seq_nil ?_
  refine hK15 _ _ ?_
  try clear hK15 K15
  refine cond_false kj ?_
  refine wp_exit ?_
  repeat (first | with_reducible refine goX1 ?_ | with_reducible refine goX2 ?_ | with_reducible refine goX3 ?_)
  exact (show bodyPost _ _ _ .normal _ _ from end0 rfl ⟨rfl, q0_, q1_, q2_, s1, s2, s3, hq0_, hq1_, hq2_, hs1, hs2, hs3, (by obtain ⟨u1, v1⟩ := id hs1; obtain ⟨u2, v2⟩ := id hs2; obtain ⟨u3, v3⟩ := id hs3; obtain ⟨uq0, vq0⟩ := id hq0_; obtain ⟨uq1, vq1⟩ := id hq1_; obtain ⟨uq2, vq2⟩ := id hq2_; obtain ⟨uq3, vq3⟩ := id hq3_; obtain ⟨uq4, vq4⟩ := id hq4_; obtain ⟨uq5, vq5⟩ := id hq5_; obtain ⟨ud1, vd1⟩ := id hd1; obtain ⟨ud2, vd2⟩ := id hd2; obtain ⟨ud3, vd3⟩ := id hd3; obtain ⟨uh1, uh2⟩ := id hhi; obtain ⟨ul1, ul2⟩ := id hlo; omega), x4, r1_4⟩)
set_option maxRecDepth 100000 in
set_option maxHeartbeats 4000000 in
theorem madd_4 (g : Nat) (q0_ q1_ q2_ q3_ q4_ q5_ xx yy p : Int) (hq0_ : isW q0_) (hq1_ : isW q1_) (hq2_ : isW q2_) (hq3_ : isW q3_) (hq4_ : isW q4_) (hq5_ : isW q5_) (hxx : isW xx) (hyy : isW yy) (hp : xx * yy = p) (hlt : (q0_ + 18446744073709551616 * q1_ + 340282366920938463463374607431768211456 * q2_ + 6277101735386680763835789423207666416102355444464034512896 * q3_ + 115792089237316195423570985008687907853269984665640564039457584007913129639936 * q4_ + 2135987035920910082395021706169552114602704522356652769947041607822219725780640550022962086936576 * q5_) + 115792089237316195423570985008687907853269984665640564039457584007913129639936 * p < 39402006196394479212279040100143613805079739270465446667948293404245721771497210611414266254884915640806627990306816) (w : World) (hg : w.heap[g]? = some (.cells (ints .u64 [q0_, q1_, q2_, q3_, q4_, q5_]) 94)) :
    Calls Tryd.prog 55 #[.int .i64 4, .int .u64 xx, .int .u64 yy, .pointer (some ⟨g, 0, none⟩)] w (fun e W => e = .returned (.tuple #[]) ∧ ∃ r0 r1 r2 r3 r4 r5 : Int, isW r0 ∧ isW r1 ∧ isW r2 ∧ isW r3 ∧ isW r4 ∧ isW r5 ∧ (r0 + 18446744073709551616 * r1 + 340282366920938463463374607431768211456 * r2 + 6277101735386680763835789423207666416102355444464034512896 * r3 + 115792089237316195423570985008687907853269984665640564039457584007913129639936 * r4 + 2135987035920910082395021706169552114602704522356652769947041607822219725780640550022962086936576 * r5) = (q0_ + 18446744073709551616 * q1_ + 340282366920938463463374607431768211456 * q2_ + 6277101735386680763835789423207666416102355444464034512896 * q3_ + 115792089237316195423570985008687907853269984665640564039457584007913129639936 * q4_ + 2135987035920910082395021706169552114602704522356652769947041607822219725780640550022962086936576 * q5_) + 115792089237316195423570985008687907853269984665640564039457584007913129639936 * p ∧ ExtB g w W ∧ W.heap[g]? = some (.cells (ints .u64 [r0, r1, r2, r3, r4, r5]) 94)) := by
  refine enter 44 [(0, .int .i64 4), (1, .int .u64 (xx)), (2, .int .u64 (yy)), (3, .pointer (some ⟨g, 0, none⟩))] Tryd.func55 rfl rfl kj rfl ?_
  refine wp_seq_k fun K2 hK2 => ?_
  refine region_lit ?_
  refine seq_val (.int .u64 (xx)) 12 rfl kj kj ?_
  refine seq_val (.int .u64 (yy)) 13 rfl kj kj ?_
  obtain ⟨hi_, lo_, hhi, hlo, hml, cml⟩ := mul64 xx yy hxx hyy
  rw [hp] at hml
  refine seq_call (.tuple #[.int .u64 (hi_), .int .u64 (lo_)]) 56 #[.int .u64 (xx), .int .u64 (yy)] 14 rfl kj kj ((mulR (cml _))) fun W1 e1 => ?_
  have x1 : ExtB g w W1 := ExtB.ext (ExtB.refl g w) e1
  refine seq_val (.tuple #[.int .u64 (hi_), .int .u64 (lo_)]) 11 rfl kj kj ?_
  refine seq_val (.int .u64 (hi_)) 15 rfl kj kj ?_
  refine seq_val (.int .u64 (lo_)) 16 rfl kj kj ?_
  refine seq_val (.int .u64 (hi_)) 7 rfl kj kj ?_
  refine seq_val (.int .u64 (lo_)) 8 rfl kj kj ?_
  refine seq_nil ?_
  refine hK2 _ _ ?_
  try clear hK2 K2
  refine wp_seq_k fun K3 hK3 => ?_
  refine region_lit ?_
  refine seq_val (.int .u64 0) 9 rfl kj kj ?_
  refine seq_nil ?_
  refine hK3 _ _ ?_
  try clear hK3 K3
  refine wp_seq_k fun K4 hK4 => ?_
  refine region_lit ?_
  refine seq_val (.int .i64 4) 18 rfl kj kj ?_
  refine seq_val (.int .i64 4) 19 rfl kj kj ?_
  refine seq_val (.pointer (some ⟨g, 4, none⟩)) 20 rfl kj kj ?_
  have r1_1 := (row_ext hg e1)
  refine seq_val (.int .u64 q4_) 21 rfl kj (run_loadC1 64 _ g 4 94 _ (.int .u64 q4_) _ r1_1 rfl kj kj kj) ?_
  refine seq_val (.int .u64 (lo_)) 22 rfl kj kj ?_
  obtain ⟨s1, d1, hs1, hd1, he1, ra1⟩ := add64 (q4_) (lo_) (0) hq4_ hlo ⟨by decide, by decide⟩
  refine seq_val (.tuple #[.int .u64 (s1), .int .u64 (d1)]) 23 rfl kj (run_extF (f := 48) (args := #[.int .u64 q4_, .int .u64 (lo_), .int .u64 0]) _ _ _ rfl kj kj (ra1 _)) ?_
  refine seq_val (.tuple #[.int .u64 (s1), .int .u64 (d1)]) 17 rfl kj kj ?_
  refine seq_val (.int .u64 (s1)) 24 rfl kj kj ?_
  refine seq_val (.int .u64 (d1)) 25 rfl kj kj ?_
  refine seq_val (.pointer (some ⟨g, 4, none⟩)) 26 rfl kj kj ?_
  refine seq_store g _ (ints .u64 ([q0_, q1_, q2_, q3_, (s1), q5_])) 94 r1_1 rfl kj (run_storeI 64 _ _ g 4 94 _ _ r1_1 rfl kj kj kj (show 4 < 6 by decide)) fun W2 p2 r1_2 => ?_
  have x2 : ExtB g w W2 := ExtB.puts x1 p2
  refine seq_val (.int .u64 (d1)) 9 rfl kj kj ?_
  refine seq_nil ?_
  refine hK4 _ _ ?_
  try clear hK4 K4
  refine wp_seq_k fun K5 hK5 => ?_
  refine region_lit ?_
  refine seq_val (.int .i64 4) 27 rfl kj kj ?_
  refine seq_val (.int .i64 5) 28 rfl kj kj ?_
  refine seq_val (.int .i64 5) 10 rfl kj kj ?_
  refine seq_nil ?_
  refine hK5 _ _ ?_
  try clear hK5 K5
  refine wp_block ?_
  refine wp_loop_rounds 2 ?_
  show Code.wp _ _ (Exit.then (Code.rounds _ _ _ 1) _) _ _
  refine wp_seq_k fun K6 hK6 => ?_
  refine wp_seq_k fun K7 hK7 => ?_
  refine region_lit ?_
  refine seq_val (.int .i64 5) 29 rfl kj kj ?_
  refine seq_val (.bool true) 30 rfl kj kj ?_
  refine seq_nil ?_
  refine hK7 _ _ ?_
  try clear hK7 K7
  refine cond_true kj ?_
  refine wp_skip ?_
  refine hK6 _ _ ?_
  try clear hK6 K6
  refine wp_seq_k fun K8 hK8 => ?_
  refine wp_block ?_
  refine wp_seq_k fun K9 hK9 => ?_
  refine region_lit ?_
  refine seq_val (.int .i64 5) 34 rfl kj kj ?_
  refine seq_val (.int .i64 5) 35 rfl kj kj ?_
  refine seq_val (.pointer (some ⟨g, 5, none⟩)) 36 rfl kj kj ?_
  refine seq_val (.int .u64 q5_) 37 rfl kj (run_loadC1 64 _ g 5 94 _ (.int .u64 q5_) _ r1_2 rfl kj kj kj) ?_
  refine seq_val (.int .u64 (hi_)) 38 rfl kj kj ?_
  refine seq_val (.int .u64 (d1)) 39 rfl kj kj ?_
  obtain ⟨s2, d2, hs2, hd2, he2, ra2⟩ := add64 (q5_) (hi_) (d1) hq5_ hhi hd1
  refine seq_val (.tuple #[.int .u64 (s2), .int .u64 (d2)]) 40 rfl kj (run_extF (f := 48) (args := #[.int .u64 q5_, .int .u64 (hi_), .int .u64 (d1)]) _ _ _ rfl kj kj (ra2 _)) ?_
  refine seq_val (.tuple #[.int .u64 (s2), .int .u64 (d2)]) 33 rfl kj kj ?_
  refine seq_val (.int .u64 (s2)) 41 rfl kj kj ?_
  refine seq_val (.int .u64 (d2)) 42 rfl kj kj ?_
  refine seq_val (.pointer (some ⟨g, 5, none⟩)) 43 rfl kj kj ?_
  refine seq_store g _ (ints .u64 ([q0_, q1_, q2_, q3_, (s1), (s2)])) 94 r1_2 rfl kj (run_storeI 64 _ _ g 5 94 _ _ r1_2 rfl kj kj kj (show 5 < 6 by decide)) fun W3 p3 r1_3 => ?_
  have x3 : ExtB g w W3 := ExtB.puts x2 p3
  refine seq_val (.int .u64 (d2)) 9 rfl kj kj ?_
  refine seq_nil ?_
  refine hK9 _ _ ?_
  try clear hK9 K9
  refine region_lit ?_
  refine seq_val (.int .u64 0) 7 rfl kj kj ?_
  refine seq_nil ?_
  refine hK8 _ _ ?_
  try clear hK8 K8
  refine region_lit ?_
  refine seq_val (.int .i64 5) 31 rfl kj kj ?_
  refine seq_val (.int .i64 6) 32 rfl kj kj ?_
  refine seq_val (.int .i64 6) 10 rfl kj kj ?_
  refine seq_nil ?_
  show Code.rounds _ _ _ 1 _ _
  show Code.wp _ _ (Exit.then (Code.rounds _ _ _ 0) _) _ _
  refine wp_seq_k fun K10 hK10 => ?_
  refine wp_seq_k fun K11 hK11 => ?_
  refine region_lit ?_
  refine seq_val (.int .i64 6) 29 rfl kj kj ?_
  refine seq_val (.bool false) 30 rfl kj kj ?_
  refine seq_nil ?_
  refine hK11 _ _ ?_
  try clear hK11 K11
  refine cond_false kj ?_
  refine wp_exit ?_
  repeat (first | with_reducible refine goX1 ?_ | with_reducible refine goX2 ?_ | with_reducible refine goX3 ?_)
  exact (show bodyPost _ _ _ .normal _ _ from end0 rfl ⟨rfl, q0_, q1_, q2_, q3_, s1, s2, hq0_, hq1_, hq2_, hq3_, hs1, hs2, (by obtain ⟨u1, v1⟩ := id hs1; obtain ⟨u2, v2⟩ := id hs2; obtain ⟨uq0, vq0⟩ := id hq0_; obtain ⟨uq1, vq1⟩ := id hq1_; obtain ⟨uq2, vq2⟩ := id hq2_; obtain ⟨uq3, vq3⟩ := id hq3_; obtain ⟨uq4, vq4⟩ := id hq4_; obtain ⟨uq5, vq5⟩ := id hq5_; obtain ⟨ud1, vd1⟩ := id hd1; obtain ⟨ud2, vd2⟩ := id hd2; obtain ⟨uh1, uh2⟩ := id hhi; obtain ⟨ul1, ul2⟩ := id hlo; omega), x3, r1_3⟩)

end Go.Proofs.YtjldjdlhllgakaaDoor.Ae
