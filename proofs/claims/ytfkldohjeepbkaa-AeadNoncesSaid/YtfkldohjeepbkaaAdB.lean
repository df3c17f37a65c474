/- Nonces: both sides. -/
import Derived.Test.YtfkldohjeepbkaaAdA
namespace Go.Proofs.Ytfkldohjeepbkaa.Ad
open Go Go.RowKit
open Go.Proofs.Ytfkldohjeepbkaa.Rely Go.Proofs.Ytfkldohjeepbkaa.Auto Go.Proofs.Ytfkldohjeepbkaa.Own
set_option linter.unusedVariables false

set_option maxHeartbeats 4000000 in
theorem refNonceC (n : Int) (w : World) : Calls Try.prog 7 #[.int .i64 n] w (Gives w (OwnB w.heap.size ([0, 0, 0, 0] ++ leN n))) := by
  refine enter 22 [(0, .int .i64 n)] Try.func7 rfl rfl (by kernel_rfl) rfl ?_
  refine wp_seq_k fun K1 hK1 => ?_
  refine region_lit ?_
  refine seq_val (.slice none 0 0) 2 rfl (by kernel_rfl) (by kernel_rfl) ?_
  refine seq_nil ?_
  refine hK1 _ _ ?_
  try clear hK1 K1
  refine wp_seq_k fun K2 hK2 => ?_
  refine region_lit ?_
  refine seq_makeS (ints .u8 ([0, 0, 0, 0])) 5 4 6 rfl (by kernel_rfl) (by kernel_rfl) fun g3 W1 l3 e1 r3_1 => ?_
  have x1 : Ext w W1 := Ext.tr (Rely.Ext.refl w) e1
  have b3 : w.heap.size ≤ g3 := Nat.le_trans (Rely.Ext.refl w).size l3
  refine seq_val (.slice (some ⟨g3, 0, none⟩) 4 4) 3 rfl (by kernel_rfl) (by kernel_rfl) ?_
  refine seq_nil ?_
  refine hK2 _ _ ?_
  try clear hK2 K2
  refine wp_seq_k fun K4 hK4 => ?_
  refine region_lit ?_
  refine seq_val (.int .i64 n) 7 rfl (by kernel_rfl) (by kernel_rfl) ?_
  refine seq_val (.int .u64 (n % 18446744073709551616 / 1)) 8 rfl (by kernel_rfl) (run_eq (u := .int .u64 (IntKind.u64.wrap (n))) (by kernel_rfl) (congrArg (Value.int .u64) (by rw [wrap64]; omega))) ?_
  refine seq_val (.int .u64 (n % 18446744073709551616 / 1)) 4 rfl (by kernel_rfl) (by kernel_rfl) ?_
  refine seq_nil ?_
  refine hK4 _ _ ?_
  try clear hK4 K4
  refine wp_seq_k fun K5 hK5 => ?_
  refine wp_seq_k fun K6 hK6 => ?_
  refine region_lit ?_
  refine seq_val (.int .i64 0) 5 rfl (by kernel_rfl) (by kernel_rfl) ?_
  refine seq_nil ?_
  refine hK6 _ _ ?_
  try clear hK6 K6
  refine wp_block ?_
  refine wp_loop_rounds 9 ?_
  show Code.wp _ _ (Exit.then (Code.rounds _ _ _ 8) _) _ _
  refine wp_seq_k fun K7 hK7 => ?_
  refine wp_seq_k fun K8 hK8 => ?_
  refine region_lit ?_
  refine seq_val (.int .i64 0) 9 rfl (by kernel_rfl) (by kernel_rfl) ?_
  refine seq_val (.bool true) 10 rfl (by kernel_rfl) (by kernel_rfl) ?_
  refine seq_nil ?_
  refine hK8 _ _ ?_
  try clear hK8 K8
  refine cond_true (by kernel_rfl) ?_
  refine wp_skip ?_
  refine hK7 _ _ ?_
  try clear hK7 K7
  refine wp_seq_k fun K9 hK9 => ?_
  refine wp_block ?_
  refine wp_seq_k fun K10 hK10 => ?_
  refine region_lit ?_
  refine seq_val (.slice (some ⟨g3, 0, none⟩) 4 4) 13 rfl (by kernel_rfl) (by kernel_rfl) ?_
  refine seq_val (.int .u64 (n % 18446744073709551616 / 1)) 14 rfl (by kernel_rfl) (by kernel_rfl) ?_
  refine seq_val (.int .u64 (n % 18446744073709551616 / 1 % 256)) 15 rfl (by kernel_rfl) (run_eq (u := .int .u64 (Int.tmod ((n % 18446744073709551616 / 1)) (256))) (by kernel_rfl) (congrArg (Value.int .u64) (remI (by omega)))) ?_
  refine seq_val (.int .u8 (n / 1 % 256)) 16 rfl (by kernel_rfl) (run_eq (u := .int .u8 (IntKind.u8.wrap (n % 18446744073709551616 / 1 % 256))) (by kernel_rfl) (congrArg (Value.int .u8) (by rw [wrap8]; omega))) ?_
  refine seq_makeS (ints .u8 ([(n / 1 % 256)])) 5 1 17 rfl (by kernel_rfl) (by kernel_rfl) fun g11 W2 l11 e2 r11_2 => ?_
  have x2 : Ext w W2 := Ext.tr x1 e2
  have b11 : w.heap.size ≤ g11 := Nat.le_trans x1.size l11
  have r3_2 := (row_ext r3_1 e2)
  refine seq_append8 (.tmp 13) (.tmp 17) 22 rfl (by kernel_rfl) 18 rfl (by kernel_rfl) (by kernel_rfl) (by kernel_rfl) (own_of_row [0, 0, 0, 0] b3 r3_2 (show 4 ≤ maxLen by decide)) (own_of_row [(n / 1 % 256)] b11 r11_2 (show 1 ≤ maxLen by decide)) (show 4 + 1 ≤ 1000000 by decide) (show 0 < 4 + 1 by decide) x2.size [0, 0, 0, 0, (n / 1 % 256)] rfl 5 rfl fun gg3 c3 cur3 W3 hO3 hE3 hg3 => ?_
  obtain ⟨lo3, r3, sf3⟩ := hO3
  have x3 : Ext w W3 := ExtB.up x2 hE3 b3
  refine seq_val (.slice (some ⟨gg3, 0, none⟩) 5 c3) 3 rfl (by kernel_rfl) (by kernel_rfl) ?_
  refine seq_nil ?_
  refine hK10 _ _ ?_
  try clear hK10 K10
  refine region_lit ?_
  refine seq_val (.int .u64 (n % 18446744073709551616 / 1)) 19 rfl (by kernel_rfl) (by kernel_rfl) ?_
  refine seq_val (.int .u64 (n % 18446744073709551616 / 256)) 20 rfl (by kernel_rfl) (run_eq (u := .int .u64 (IntKind.u64.wrap (Int.tdiv ((n % 18446744073709551616 / 1)) (256)))) (by kernel_rfl) (congrArg (Value.int .u64) (quoI (by omega) (by omega)))) ?_
  refine seq_val (.int .u64 (n % 18446744073709551616 / 256)) 4 rfl (by kernel_rfl) (by kernel_rfl) ?_
  refine seq_nil ?_
  refine hK9 _ _ ?_
  try clear hK9 K9
  refine region_lit ?_
  refine seq_val (.int .i64 0) 11 rfl (by kernel_rfl) (by kernel_rfl) ?_
  refine seq_val (.int .i64 1) 12 rfl (by kernel_rfl) (by kernel_rfl) ?_
  refine seq_val (.int .i64 1) 5 rfl (by kernel_rfl) (by kernel_rfl) ?_
  refine seq_nil ?_
  show Code.rounds _ _ _ 8 _ _
  show Code.wp _ _ (Exit.then (Code.rounds _ _ _ 7) _) _ _
  refine wp_seq_k fun K13 hK13 => ?_
  refine wp_seq_k fun K14 hK14 => ?_
  refine region_lit ?_
  refine seq_val (.int .i64 1) 9 rfl (by kernel_rfl) (by kernel_rfl) ?_
  refine seq_val (.bool true) 10 rfl (by kernel_rfl) (by kernel_rfl) ?_
  refine seq_nil ?_
  refine hK14 _ _ ?_
  try clear hK14 K14
  refine cond_true (by kernel_rfl) ?_
  refine wp_skip ?_
  refine hK13 _ _ ?_
  try clear hK13 K13
  refine wp_seq_k fun K15 hK15 => ?_
  refine wp_block ?_
  refine wp_seq_k fun K16 hK16 => ?_
  refine region_lit ?_
  refine seq_val (.slice (some ⟨gg3, 0, none⟩) 5 c3) 13 rfl (by kernel_rfl) (by kernel_rfl) ?_
  refine seq_val (.int .u64 (n % 18446744073709551616 / 256)) 14 rfl (by kernel_rfl) (by kernel_rfl) ?_
  refine seq_val (.int .u64 (n % 18446744073709551616 / 256 % 256)) 15 rfl (by kernel_rfl) (run_eq (u := .int .u64 (Int.tmod ((n % 18446744073709551616 / 256)) (256))) (by kernel_rfl) (congrArg (Value.int .u64) (remI (by omega)))) ?_
  refine seq_val (.int .u8 (n / 256 % 256)) 16 rfl (by kernel_rfl) (run_eq (u := .int .u8 (IntKind.u8.wrap (n % 18446744073709551616 / 256 % 256))) (by kernel_rfl) (congrArg (Value.int .u8) (by rw [wrap8]; omega))) ?_
  refine seq_makeS (ints .u8 ([(n / 256 % 256)])) 5 1 17 rfl (by kernel_rfl) (by kernel_rfl) fun g17 W4 l17 e4 r17_4 => ?_
  have x4 : Ext w W4 := Ext.tr x3 e4
  have b17 : w.heap.size ≤ g17 := Nat.le_trans x3.size l17
  have r12_4 := (row_ext r3 e4)
  refine seq_append8 (.tmp 13) (.tmp 17) 22 rfl (by kernel_rfl) 18 rfl (by kernel_rfl) (by kernel_rfl) (by kernel_rfl) ⟨lo3, r12_4, sf3⟩ (own_of_row [(n / 256 % 256)] b17 r17_4 (show 1 ≤ maxLen by decide)) (show 5 + 1 ≤ 1000000 by decide) (show 0 < 5 + 1 by decide) x4.size [0, 0, 0, 0, (n / 1 % 256), (n / 256 % 256)] rfl 6 rfl fun gg5 c5 cur5 W5 hO5 hE5 hg5 => ?_
  obtain ⟨lo5, r5, sf5⟩ := hO5
  have x5 : Ext w W5 := ExtB.up x4 hE5 lo3
  refine seq_val (.slice (some ⟨gg5, 0, none⟩) 6 c5) 3 rfl (by kernel_rfl) (by kernel_rfl) ?_
  refine seq_nil ?_
  refine hK16 _ _ ?_
  try clear hK16 K16
  refine region_lit ?_
  refine seq_val (.int .u64 (n % 18446744073709551616 / 256)) 19 rfl (by kernel_rfl) (by kernel_rfl) ?_
  refine seq_val (.int .u64 (n % 18446744073709551616 / 65536)) 20 rfl (by kernel_rfl) (run_eq (u := .int .u64 (IntKind.u64.wrap (Int.tdiv ((n % 18446744073709551616 / 256)) (256)))) (by kernel_rfl) (congrArg (Value.int .u64) (quoI (by omega) (by omega)))) ?_
  refine seq_val (.int .u64 (n % 18446744073709551616 / 65536)) 4 rfl (by kernel_rfl) (by kernel_rfl) ?_
  refine seq_nil ?_
  refine hK15 _ _ ?_
  try clear hK15 K15
  refine region_lit ?_
  refine seq_val (.int .i64 1) 11 rfl (by kernel_rfl) (by kernel_rfl) ?_
  refine seq_val (.int .i64 2) 12 rfl (by kernel_rfl) (by kernel_rfl) ?_
  refine seq_val (.int .i64 2) 5 rfl (by kernel_rfl) (by kernel_rfl) ?_
  refine seq_nil ?_
  show Code.rounds _ _ _ 7 _ _
  show Code.wp _ _ (Exit.then (Code.rounds _ _ _ 6) _) _ _
  refine wp_seq_k fun K19 hK19 => ?_
  refine wp_seq_k fun K20 hK20 => ?_
  refine region_lit ?_
  refine seq_val (.int .i64 2) 9 rfl (by kernel_rfl) (by kernel_rfl) ?_
  refine seq_val (.bool true) 10 rfl (by kernel_rfl) (by kernel_rfl) ?_
  refine seq_nil ?_
  refine hK20 _ _ ?_
  try clear hK20 K20
  refine cond_true (by kernel_rfl) ?_
  refine wp_skip ?_
  refine hK19 _ _ ?_
  try clear hK19 K19
  refine wp_seq_k fun K21 hK21 => ?_
  refine wp_block ?_
  refine wp_seq_k fun K22 hK22 => ?_
  refine region_lit ?_
  refine seq_val (.slice (some ⟨gg5, 0, none⟩) 6 c5) 13 rfl (by kernel_rfl) (by kernel_rfl) ?_
  refine seq_val (.int .u64 (n % 18446744073709551616 / 65536)) 14 rfl (by kernel_rfl) (by kernel_rfl) ?_
  refine seq_val (.int .u64 (n % 18446744073709551616 / 65536 % 256)) 15 rfl (by kernel_rfl) (run_eq (u := .int .u64 (Int.tmod ((n % 18446744073709551616 / 65536)) (256))) (by kernel_rfl) (congrArg (Value.int .u64) (remI (by omega)))) ?_
  refine seq_val (.int .u8 (n / 65536 % 256)) 16 rfl (by kernel_rfl) (run_eq (u := .int .u8 (IntKind.u8.wrap (n % 18446744073709551616 / 65536 % 256))) (by kernel_rfl) (congrArg (Value.int .u8) (by rw [wrap8]; omega))) ?_
  refine seq_makeS (ints .u8 ([(n / 65536 % 256)])) 5 1 17 rfl (by kernel_rfl) (by kernel_rfl) fun g23 W6 l23 e6 r23_6 => ?_
  have x6 : Ext w W6 := Ext.tr x5 e6
  have b23 : w.heap.size ≤ g23 := Nat.le_trans x5.size l23
  have r18_6 := (row_ext r5 e6)
  refine seq_append8 (.tmp 13) (.tmp 17) 22 rfl (by kernel_rfl) 18 rfl (by kernel_rfl) (by kernel_rfl) (by kernel_rfl) ⟨lo5, r18_6, sf5⟩ (own_of_row [(n / 65536 % 256)] b23 r23_6 (show 1 ≤ maxLen by decide)) (show 6 + 1 ≤ 1000000 by decide) (show 0 < 6 + 1 by decide) x6.size [0, 0, 0, 0, (n / 1 % 256), (n / 256 % 256), (n / 65536 % 256)] rfl 7 rfl fun gg7 c7 cur7 W7 hO7 hE7 hg7 => ?_
  obtain ⟨lo7, r7, sf7⟩ := hO7
  have x7 : Ext w W7 := ExtB.up x6 hE7 lo5
  refine seq_val (.slice (some ⟨gg7, 0, none⟩) 7 c7) 3 rfl (by kernel_rfl) (by kernel_rfl) ?_
  refine seq_nil ?_
  refine hK22 _ _ ?_
  try clear hK22 K22
  refine region_lit ?_
  refine seq_val (.int .u64 (n % 18446744073709551616 / 65536)) 19 rfl (by kernel_rfl) (by kernel_rfl) ?_
  refine seq_val (.int .u64 (n % 18446744073709551616 / 16777216)) 20 rfl (by kernel_rfl) (run_eq (u := .int .u64 (IntKind.u64.wrap (Int.tdiv ((n % 18446744073709551616 / 65536)) (256)))) (by kernel_rfl) (congrArg (Value.int .u64) (quoI (by omega) (by omega)))) ?_
  refine seq_val (.int .u64 (n % 18446744073709551616 / 16777216)) 4 rfl (by kernel_rfl) (by kernel_rfl) ?_
  refine seq_nil ?_
  refine hK21 _ _ ?_
  try clear hK21 K21
  refine region_lit ?_
  refine seq_val (.int .i64 2) 11 rfl (by kernel_rfl) (by kernel_rfl) ?_
  refine seq_val (.int .i64 3) 12 rfl (by kernel_rfl) (by kernel_rfl) ?_
  refine seq_val (.int .i64 3) 5 rfl (by kernel_rfl) (by kernel_rfl) ?_
  refine seq_nil ?_
  show Code.rounds _ _ _ 6 _ _
  show Code.wp _ _ (Exit.then (Code.rounds _ _ _ 5) _) _ _
  refine wp_seq_k fun K25 hK25 => ?_
  refine wp_seq_k fun K26 hK26 => ?_
  refine region_lit ?_
  refine seq_val (.int .i64 3) 9 rfl (by kernel_rfl) (by kernel_rfl) ?_
  refine seq_val (.bool true) 10 rfl (by kernel_rfl) (by kernel_rfl) ?_
  refine seq_nil ?_
  refine hK26 _ _ ?_
  try clear hK26 K26
  refine cond_true (by kernel_rfl) ?_
  refine wp_skip ?_
  refine hK25 _ _ ?_
  try clear hK25 K25
  refine wp_seq_k fun K27 hK27 => ?_
  refine wp_block ?_
  refine wp_seq_k fun K28 hK28 => ?_
  refine region_lit ?_
  refine seq_val (.slice (some ⟨gg7, 0, none⟩) 7 c7) 13 rfl (by kernel_rfl) (by kernel_rfl) ?_
  refine seq_val (.int .u64 (n % 18446744073709551616 / 16777216)) 14 rfl (by kernel_rfl) (by kernel_rfl) ?_
  refine seq_val (.int .u64 (n % 18446744073709551616 / 16777216 % 256)) 15 rfl (by kernel_rfl) (run_eq (u := .int .u64 (Int.tmod ((n % 18446744073709551616 / 16777216)) (256))) (by kernel_rfl) (congrArg (Value.int .u64) (remI (by omega)))) ?_
  refine seq_val (.int .u8 (n / 16777216 % 256)) 16 rfl (by kernel_rfl) (run_eq (u := .int .u8 (IntKind.u8.wrap (n % 18446744073709551616 / 16777216 % 256))) (by kernel_rfl) (congrArg (Value.int .u8) (by rw [wrap8]; omega))) ?_
  refine seq_makeS (ints .u8 ([(n / 16777216 % 256)])) 5 1 17 rfl (by kernel_rfl) (by kernel_rfl) fun g29 W8 l29 e8 r29_8 => ?_
  have x8 : Ext w W8 := Ext.tr x7 e8
  have b29 : w.heap.size ≤ g29 := Nat.le_trans x7.size l29
  have r24_8 := (row_ext r7 e8)
  refine seq_append8 (.tmp 13) (.tmp 17) 22 rfl (by kernel_rfl) 18 rfl (by kernel_rfl) (by kernel_rfl) (by kernel_rfl) ⟨lo7, r24_8, sf7⟩ (own_of_row [(n / 16777216 % 256)] b29 r29_8 (show 1 ≤ maxLen by decide)) (show 7 + 1 ≤ 1000000 by decide) (show 0 < 7 + 1 by decide) x8.size [0, 0, 0, 0, (n / 1 % 256), (n / 256 % 256), (n / 65536 % 256), (n / 16777216 % 256)] rfl 8 rfl fun gg9 c9 cur9 W9 hO9 hE9 hg9 => ?_
  obtain ⟨lo9, r9, sf9⟩ := hO9
  have x9 : Ext w W9 := ExtB.up x8 hE9 lo7
  refine seq_val (.slice (some ⟨gg9, 0, none⟩) 8 c9) 3 rfl (by kernel_rfl) (by kernel_rfl) ?_
  refine seq_nil ?_
  refine hK28 _ _ ?_
  try clear hK28 K28
  refine region_lit ?_
  refine seq_val (.int .u64 (n % 18446744073709551616 / 16777216)) 19 rfl (by kernel_rfl) (by kernel_rfl) ?_
  refine seq_val (.int .u64 (n % 18446744073709551616 / 4294967296)) 20 rfl (by kernel_rfl) (run_eq (u := .int .u64 (IntKind.u64.wrap (Int.tdiv ((n % 18446744073709551616 / 16777216)) (256)))) (by kernel_rfl) (congrArg (Value.int .u64) (quoI (by omega) (by omega)))) ?_
  refine seq_val (.int .u64 (n % 18446744073709551616 / 4294967296)) 4 rfl (by kernel_rfl) (by kernel_rfl) ?_
  refine seq_nil ?_
  refine hK27 _ _ ?_
  try clear hK27 K27
  refine region_lit ?_
  refine seq_val (.int .i64 3) 11 rfl (by kernel_rfl) (by kernel_rfl) ?_
  refine seq_val (.int .i64 4) 12 rfl (by kernel_rfl) (by kernel_rfl) ?_
  refine seq_val (.int .i64 4) 5 rfl (by kernel_rfl) (by kernel_rfl) ?_
  refine seq_nil ?_
  show Code.rounds _ _ _ 5 _ _
  show Code.wp _ _ (Exit.then (Code.rounds _ _ _ 4) _) _ _
  refine wp_seq_k fun K31 hK31 => ?_
  refine wp_seq_k fun K32 hK32 => ?_
  refine region_lit ?_
  refine seq_val (.int .i64 4) 9 rfl (by kernel_rfl) (by kernel_rfl) ?_
  refine seq_val (.bool true) 10 rfl (by kernel_rfl) (by kernel_rfl) ?_
  refine seq_nil ?_
  refine hK32 _ _ ?_
  try clear hK32 K32
  refine cond_true (by kernel_rfl) ?_
  refine wp_skip ?_
  refine hK31 _ _ ?_
  try clear hK31 K31
  refine wp_seq_k fun K33 hK33 => ?_
  refine wp_block ?_
  refine wp_seq_k fun K34 hK34 => ?_
  refine region_lit ?_
  refine seq_val (.slice (some ⟨gg9, 0, none⟩) 8 c9) 13 rfl (by kernel_rfl) (by kernel_rfl) ?_
  refine seq_val (.int .u64 (n % 18446744073709551616 / 4294967296)) 14 rfl (by kernel_rfl) (by kernel_rfl) ?_
  refine seq_val (.int .u64 (n % 18446744073709551616 / 4294967296 % 256)) 15 rfl (by kernel_rfl) (run_eq (u := .int .u64 (Int.tmod ((n % 18446744073709551616 / 4294967296)) (256))) (by kernel_rfl) (congrArg (Value.int .u64) (remI (by omega)))) ?_
  refine seq_val (.int .u8 (n / 4294967296 % 256)) 16 rfl (by kernel_rfl) (run_eq (u := .int .u8 (IntKind.u8.wrap (n % 18446744073709551616 / 4294967296 % 256))) (by kernel_rfl) (congrArg (Value.int .u8) (by rw [wrap8]; omega))) ?_
  refine seq_makeS (ints .u8 ([(n / 4294967296 % 256)])) 5 1 17 rfl (by kernel_rfl) (by kernel_rfl) fun g35 W10 l35 e10 r35_10 => ?_
  have x10 : Ext w W10 := Ext.tr x9 e10
  have b35 : w.heap.size ≤ g35 := Nat.le_trans x9.size l35
  have r30_10 := (row_ext r9 e10)
  refine seq_append8 (.tmp 13) (.tmp 17) 22 rfl (by kernel_rfl) 18 rfl (by kernel_rfl) (by kernel_rfl) (by kernel_rfl) ⟨lo9, r30_10, sf9⟩ (own_of_row [(n / 4294967296 % 256)] b35 r35_10 (show 1 ≤ maxLen by decide)) (show 8 + 1 ≤ 1000000 by decide) (show 0 < 8 + 1 by decide) x10.size [0, 0, 0, 0, (n / 1 % 256), (n / 256 % 256), (n / 65536 % 256), (n / 16777216 % 256), (n / 4294967296 % 256)] rfl 9 rfl fun gg11 c11 cur11 W11 hO11 hE11 hg11 => ?_
  obtain ⟨lo11, r11, sf11⟩ := hO11
  have x11 : Ext w W11 := ExtB.up x10 hE11 lo9
  refine seq_val (.slice (some ⟨gg11, 0, none⟩) 9 c11) 3 rfl (by kernel_rfl) (by kernel_rfl) ?_
  refine seq_nil ?_
  refine hK34 _ _ ?_
  try clear hK34 K34
  refine region_lit ?_
  refine seq_val (.int .u64 (n % 18446744073709551616 / 4294967296)) 19 rfl (by kernel_rfl) (by kernel_rfl) ?_
  refine seq_val (.int .u64 (n % 18446744073709551616 / 1099511627776)) 20 rfl (by kernel_rfl) (run_eq (u := .int .u64 (IntKind.u64.wrap (Int.tdiv ((n % 18446744073709551616 / 4294967296)) (256)))) (by kernel_rfl) (congrArg (Value.int .u64) (quoI (by omega) (by omega)))) ?_
  refine seq_val (.int .u64 (n % 18446744073709551616 / 1099511627776)) 4 rfl (by kernel_rfl) (by kernel_rfl) ?_
  refine seq_nil ?_
  refine hK33 _ _ ?_
  try clear hK33 K33
  refine region_lit ?_
  refine seq_val (.int .i64 4) 11 rfl (by kernel_rfl) (by kernel_rfl) ?_
  refine seq_val (.int .i64 5) 12 rfl (by kernel_rfl) (by kernel_rfl) ?_
  refine seq_val (.int .i64 5) 5 rfl (by kernel_rfl) (by kernel_rfl) ?_
  refine seq_nil ?_
  show Code.rounds _ _ _ 4 _ _
  show Code.wp _ _ (Exit.then (Code.rounds _ _ _ 3) _) _ _
  refine wp_seq_k fun K37 hK37 => ?_
  refine wp_seq_k fun K38 hK38 => ?_
  refine region_lit ?_
  refine seq_val (.int .i64 5) 9 rfl (by kernel_rfl) (by kernel_rfl) ?_
  refine seq_val (.bool true) 10 rfl (by kernel_rfl) (by kernel_rfl) ?_
  refine seq_nil ?_
  refine hK38 _ _ ?_
  try clear hK38 K38
  refine cond_true (by kernel_rfl) ?_
  refine wp_skip ?_
  refine hK37 _ _ ?_
  try clear hK37 K37
  refine wp_seq_k fun K39 hK39 => ?_
  refine wp_block ?_
  refine wp_seq_k fun K40 hK40 => ?_
  refine region_lit ?_
  refine seq_val (.slice (some ⟨gg11, 0, none⟩) 9 c11) 13 rfl (by kernel_rfl) (by kernel_rfl) ?_
  refine seq_val (.int .u64 (n % 18446744073709551616 / 1099511627776)) 14 rfl (by kernel_rfl) (by kernel_rfl) ?_
  refine seq_val (.int .u64 (n % 18446744073709551616 / 1099511627776 % 256)) 15 rfl (by kernel_rfl) (run_eq (u := .int .u64 (Int.tmod ((n % 18446744073709551616 / 1099511627776)) (256))) (by kernel_rfl) (congrArg (Value.int .u64) (remI (by omega)))) ?_
  refine seq_val (.int .u8 (n / 1099511627776 % 256)) 16 rfl (by kernel_rfl) (run_eq (u := .int .u8 (IntKind.u8.wrap (n % 18446744073709551616 / 1099511627776 % 256))) (by kernel_rfl) (congrArg (Value.int .u8) (by rw [wrap8]; omega))) ?_
  refine seq_makeS (ints .u8 ([(n / 1099511627776 % 256)])) 5 1 17 rfl (by kernel_rfl) (by kernel_rfl) fun g41 W12 l41 e12 r41_12 => ?_
  have x12 : Ext w W12 := Ext.tr x11 e12
  have b41 : w.heap.size ≤ g41 := Nat.le_trans x11.size l41
  have r36_12 := (row_ext r11 e12)
  refine seq_append8 (.tmp 13) (.tmp 17) 22 rfl (by kernel_rfl) 18 rfl (by kernel_rfl) (by kernel_rfl) (by kernel_rfl) ⟨lo11, r36_12, sf11⟩ (own_of_row [(n / 1099511627776 % 256)] b41 r41_12 (show 1 ≤ maxLen by decide)) (show 9 + 1 ≤ 1000000 by decide) (show 0 < 9 + 1 by decide) x12.size [0, 0, 0, 0, (n / 1 % 256), (n / 256 % 256), (n / 65536 % 256), (n / 16777216 % 256), (n / 4294967296 % 256), (n / 1099511627776 % 256)] rfl 10 rfl fun gg13 c13 cur13 W13 hO13 hE13 hg13 => ?_
  obtain ⟨lo13, r13, sf13⟩ := hO13
  have x13 : Ext w W13 := ExtB.up x12 hE13 lo11
  refine seq_val (.slice (some ⟨gg13, 0, none⟩) 10 c13) 3 rfl (by kernel_rfl) (by kernel_rfl) ?_
  refine seq_nil ?_
  refine hK40 _ _ ?_
  try clear hK40 K40
  refine region_lit ?_
  refine seq_val (.int .u64 (n % 18446744073709551616 / 1099511627776)) 19 rfl (by kernel_rfl) (by kernel_rfl) ?_
  refine seq_val (.int .u64 (n % 18446744073709551616 / 281474976710656)) 20 rfl (by kernel_rfl) (run_eq (u := .int .u64 (IntKind.u64.wrap (Int.tdiv ((n % 18446744073709551616 / 1099511627776)) (256)))) (by kernel_rfl) (congrArg (Value.int .u64) (quoI (by omega) (by omega)))) ?_
  refine seq_val (.int .u64 (n % 18446744073709551616 / 281474976710656)) 4 rfl (by kernel_rfl) (by kernel_rfl) ?_
  refine seq_nil ?_
  refine hK39 _ _ ?_
  try clear hK39 K39
  refine region_lit ?_
  refine seq_val (.int .i64 5) 11 rfl (by kernel_rfl) (by kernel_rfl) ?_
  refine seq_val (.int .i64 6) 12 rfl (by kernel_rfl) (by kernel_rfl) ?_
  refine seq_val (.int .i64 6) 5 rfl (by kernel_rfl) (by kernel_rfl) ?_
  refine seq_nil ?_
  show Code.rounds _ _ _ 3 _ _
  show Code.wp _ _ (Exit.then (Code.rounds _ _ _ 2) _) _ _
  refine wp_seq_k fun K43 hK43 => ?_
  refine wp_seq_k fun K44 hK44 => ?_
  refine region_lit ?_
  refine seq_val (.int .i64 6) 9 rfl (by kernel_rfl) (by kernel_rfl) ?_
  refine seq_val (.bool true) 10 rfl (by kernel_rfl) (by kernel_rfl) ?_
  refine seq_nil ?_
  refine hK44 _ _ ?_
  try clear hK44 K44
  refine cond_true (by kernel_rfl) ?_
  refine wp_skip ?_
  refine hK43 _ _ ?_
  try clear hK43 K43
  refine wp_seq_k fun K45 hK45 => ?_
  refine wp_block ?_
  refine wp_seq_k fun K46 hK46 => ?_
  refine region_lit ?_
  refine seq_val (.slice (some ⟨gg13, 0, none⟩) 10 c13) 13 rfl (by kernel_rfl) (by kernel_rfl) ?_
  refine seq_val (.int .u64 (n % 18446744073709551616 / 281474976710656)) 14 rfl (by kernel_rfl) (by kernel_rfl) ?_
  refine seq_val (.int .u64 (n % 18446744073709551616 / 281474976710656 % 256)) 15 rfl (by kernel_rfl) (run_eq (u := .int .u64 (Int.tmod ((n % 18446744073709551616 / 281474976710656)) (256))) (by kernel_rfl) (congrArg (Value.int .u64) (remI (by omega)))) ?_
  refine seq_val (.int .u8 (n / 281474976710656 % 256)) 16 rfl (by kernel_rfl) (run_eq (u := .int .u8 (IntKind.u8.wrap (n % 18446744073709551616 / 281474976710656 % 256))) (by kernel_rfl) (congrArg (Value.int .u8) (by rw [wrap8]; omega))) ?_
  refine seq_makeS (ints .u8 ([(n / 281474976710656 % 256)])) 5 1 17 rfl (by kernel_rfl) (by kernel_rfl) fun g47 W14 l47 e14 r47_14 => ?_
  have x14 : Ext w W14 := Ext.tr x13 e14
  have b47 : w.heap.size ≤ g47 := Nat.le_trans x13.size l47
  have r42_14 := (row_ext r13 e14)
  refine seq_append8 (.tmp 13) (.tmp 17) 22 rfl (by kernel_rfl) 18 rfl (by kernel_rfl) (by kernel_rfl) (by kernel_rfl) ⟨lo13, r42_14, sf13⟩ (own_of_row [(n / 281474976710656 % 256)] b47 r47_14 (show 1 ≤ maxLen by decide)) (show 10 + 1 ≤ 1000000 by decide) (show 0 < 10 + 1 by decide) x14.size [0, 0, 0, 0, (n / 1 % 256), (n / 256 % 256), (n / 65536 % 256), (n / 16777216 % 256), (n / 4294967296 % 256), (n / 1099511627776 % 256), (n / 281474976710656 % 256)] rfl 11 rfl fun gg15 c15 cur15 W15 hO15 hE15 hg15 => ?_
  obtain ⟨lo15, r15, sf15⟩ := hO15
  have x15 : Ext w W15 := ExtB.up x14 hE15 lo13
  refine seq_val (.slice (some ⟨gg15, 0, none⟩) 11 c15) 3 rfl (by kernel_rfl) (by kernel_rfl) ?_
  refine seq_nil ?_
  refine hK46 _ _ ?_
  try clear hK46 K46
  refine region_lit ?_
  refine seq_val (.int .u64 (n % 18446744073709551616 / 281474976710656)) 19 rfl (by kernel_rfl) (by kernel_rfl) ?_
  refine seq_val (.int .u64 (n % 18446744073709551616 / 72057594037927936)) 20 rfl (by kernel_rfl) (run_eq (u := .int .u64 (IntKind.u64.wrap (Int.tdiv ((n % 18446744073709551616 / 281474976710656)) (256)))) (by kernel_rfl) (congrArg (Value.int .u64) (quoI (by omega) (by omega)))) ?_
  refine seq_val (.int .u64 (n % 18446744073709551616 / 72057594037927936)) 4 rfl (by kernel_rfl) (by kernel_rfl) ?_
  refine seq_nil ?_
  refine hK45 _ _ ?_
  try clear hK45 K45
  refine region_lit ?_
  refine seq_val (.int .i64 6) 11 rfl (by kernel_rfl) (by kernel_rfl) ?_
  refine seq_val (.int .i64 7) 12 rfl (by kernel_rfl) (by kernel_rfl) ?_
  refine seq_val (.int .i64 7) 5 rfl (by kernel_rfl) (by kernel_rfl) ?_
  refine seq_nil ?_
  show Code.rounds _ _ _ 2 _ _
  show Code.wp _ _ (Exit.then (Code.rounds _ _ _ 1) _) _ _
  refine wp_seq_k fun K49 hK49 => ?_
  refine wp_seq_k fun K50 hK50 => ?_
  refine region_lit ?_
  refine seq_val (.int .i64 7) 9 rfl (by kernel_rfl) (by kernel_rfl) ?_
  refine seq_val (.bool true) 10 rfl (by kernel_rfl) (by kernel_rfl) ?_
  refine seq_nil ?_
  refine hK50 _ _ ?_
  try clear hK50 K50
  refine cond_true (by kernel_rfl) ?_
  refine wp_skip ?_
  refine hK49 _ _ ?_
  try clear hK49 K49
  refine wp_seq_k fun K51 hK51 => ?_
  refine wp_block ?_
  refine wp_seq_k fun K52 hK52 => ?_
  refine region_lit ?_
  refine seq_val (.slice (some ⟨gg15, 0, none⟩) 11 c15) 13 rfl (by kernel_rfl) (by kernel_rfl) ?_
  refine seq_val (.int .u64 (n % 18446744073709551616 / 72057594037927936)) 14 rfl (by kernel_rfl) (by kernel_rfl) ?_
  refine seq_val (.int .u64 (n % 18446744073709551616 / 72057594037927936 % 256)) 15 rfl (by kernel_rfl) (run_eq (u := .int .u64 (Int.tmod ((n % 18446744073709551616 / 72057594037927936)) (256))) (by kernel_rfl) (congrArg (Value.int .u64) (remI (by omega)))) ?_
  refine seq_val (.int .u8 (n / 72057594037927936 % 256)) 16 rfl (by kernel_rfl) (run_eq (u := .int .u8 (IntKind.u8.wrap (n % 18446744073709551616 / 72057594037927936 % 256))) (by kernel_rfl) (congrArg (Value.int .u8) (by rw [wrap8]; omega))) ?_
  refine seq_makeS (ints .u8 ([(n / 72057594037927936 % 256)])) 5 1 17 rfl (by kernel_rfl) (by kernel_rfl) fun g53 W16 l53 e16 r53_16 => ?_
  have x16 : Ext w W16 := Ext.tr x15 e16
  have b53 : w.heap.size ≤ g53 := Nat.le_trans x15.size l53
  have r48_16 := (row_ext r15 e16)
  refine seq_append8 (.tmp 13) (.tmp 17) 22 rfl (by kernel_rfl) 18 rfl (by kernel_rfl) (by kernel_rfl) (by kernel_rfl) ⟨lo15, r48_16, sf15⟩ (own_of_row [(n / 72057594037927936 % 256)] b53 r53_16 (show 1 ≤ maxLen by decide)) (show 11 + 1 ≤ 1000000 by decide) (show 0 < 11 + 1 by decide) x16.size [0, 0, 0, 0, (n / 1 % 256), (n / 256 % 256), (n / 65536 % 256), (n / 16777216 % 256), (n / 4294967296 % 256), (n / 1099511627776 % 256), (n / 281474976710656 % 256), (n / 72057594037927936 % 256)] rfl 12 rfl fun gg17 c17 cur17 W17 hO17 hE17 hg17 => ?_
  obtain ⟨lo17, r17, sf17⟩ := hO17
  have x17 : Ext w W17 := ExtB.up x16 hE17 lo15
  refine seq_val (.slice (some ⟨gg17, 0, none⟩) 12 c17) 3 rfl (by kernel_rfl) (by kernel_rfl) ?_
  refine seq_nil ?_
  refine hK52 _ _ ?_
  try clear hK52 K52
  refine region_lit ?_
  refine seq_val (.int .u64 (n % 18446744073709551616 / 72057594037927936)) 19 rfl (by kernel_rfl) (by kernel_rfl) ?_
  refine seq_val (.int .u64 (n % 18446744073709551616 / 18446744073709551616)) 20 rfl (by kernel_rfl) (run_eq (u := .int .u64 (IntKind.u64.wrap (Int.tdiv ((n % 18446744073709551616 / 72057594037927936)) (256)))) (by kernel_rfl) (congrArg (Value.int .u64) (quoI (by omega) (by omega)))) ?_
  refine seq_val (.int .u64 (n % 18446744073709551616 / 18446744073709551616)) 4 rfl (by kernel_rfl) (by kernel_rfl) ?_
  refine seq_nil ?_
  refine hK51 _ _ ?_
  try clear hK51 K51
  refine region_lit ?_
  refine seq_val (.int .i64 7) 11 rfl (by kernel_rfl) (by kernel_rfl) ?_
  refine seq_val (.int .i64 8) 12 rfl (by kernel_rfl) (by kernel_rfl) ?_
  refine seq_val (.int .i64 8) 5 rfl (by kernel_rfl) (by kernel_rfl) ?_
  refine seq_nil ?_
  show Code.rounds _ _ _ 1 _ _
  show Code.wp _ _ (Exit.then (Code.rounds _ _ _ 0) _) _ _
  refine wp_seq_k fun K55 hK55 => ?_
  refine wp_seq_k fun K56 hK56 => ?_
  refine region_lit ?_
  refine seq_val (.int .i64 8) 9 rfl (by kernel_rfl) (by kernel_rfl) ?_
  refine seq_val (.bool false) 10 rfl (by kernel_rfl) (by kernel_rfl) ?_
  refine seq_nil ?_
  refine hK56 _ _ ?_
  try clear hK56 K56
  refine cond_false (by kernel_rfl) ?_
  refine wp_exit ?_
  refine hK5 _ _ ?_
  try clear hK5 K5
  refine wp_seq_k fun K57 hK57 => ?_
  refine region_lit ?_
  refine seq_val (.slice (some ⟨gg17, 0, none⟩) 12 c17) 21 rfl (by kernel_rfl) (by kernel_rfl) ?_
  refine seq_val (.slice (some ⟨gg17, 0, none⟩) 12 c17) 2 rfl (by kernel_rfl) (by kernel_rfl) ?_
  refine seq_nil ?_
  refine hK57 _ _ ?_
  try clear hK57 K57
  refine wp_ret ?_
  repeat (first | with_reducible refine goR1 ?_ | with_reducible refine goR2 ?_)
  exact (show bodyPost _ _ _ .ret _ _ from ret1 (.slice (some ⟨gg17, 0, none⟩) 12 c17) rfl (res_tmp (by kernel_rfl)) ⟨_, rfl, x17, _, _, _, rfl, ⟨lo17, r17, sf17⟩⟩)

end Go.Proofs.Ytfkldohjeepbkaa.Ad
