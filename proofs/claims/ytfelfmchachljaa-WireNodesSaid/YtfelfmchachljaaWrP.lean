/- TakePacket, TakeWelcome. -/
import Derived.Test.YtfelfmchachljaaWrO
namespace Go.Proofs.Ytfelfmchachljaa.Wr
open Go Go.RowKit
open Go.Proofs.Ytfelfmchachljaa.Rely Go.Proofs.Ytfelfmchachljaa.Auto Go.Proofs.Ytfelfmchachljaa.Own Go.Proofs.Ytfelfmchachljaa.Sha
set_option linter.unusedVariables false
set_option linter.unusedSimpArgs false

/-- what a reader has at first -/
def startS (xs : List Int) : Option (List Int) := bif decide ((65536 : Int) < ((xs.length : Nat) : Int)) then none else some xs
theorem pGrp_len (s : Option (List Int)) : (pGrp s).length = 32 := keyV_len _ (takeL_le s 32)
theorem ExtB.toExt {g : Nat} {u w W : World} (h : Ext u w) (q : ExtB g w W) (hg : u.heap.size ≤ g) : Ext u W :=
  ⟨q.1.trans h.os, q.2.1.trans h.tape, q.2.2.1.trans h.output, Nat.le_trans h.size q.2.2.2.1, fun k hk => (q.2.2.2.2 k (Nat.lt_of_lt_of_le hk h.size) (by omega)).trans (h.block k hk)⟩
set_option maxHeartbeats 4000000 in
theorem rtakePacket_A (xs : List Int) (a_y : Option Addr) (c_y : Nat) (w : World) (hyb : AreBytes xs) (hy : RdK .u8 w.heap.size xs (.slice a_y xs.length c_y) w) (hS : packR (startS xs) = none) : Calls Try.prog 83 #[.slice a_y xs.length c_y, .func (.func 84) #[] #[]] w (Ret w (.tuple #[.agg (cat [(Array.replicate 32 (.int .u8 0)), #[.int .i64 0], #[.int .i64 0], #[.int .i64 0], #[.slice none 0 0]]), .iface 102 (.int .i64 3)])) := by
  refine enter 33 [(0, .slice a_y xs.length c_y), (1, .func (.func 84) #[] #[])] Try.func83 rfl rfl kj rfl ?_
  refine wp_seq_k fun K1 hK1 => ?_
  refine region_lit ?_
  refine seq_alloc (cat [(Array.replicate 32 (.int .u8 0)), #[.int .i64 0], #[.int .i64 0], #[.int .i64 0], #[.slice none 0 0]]) 81 4 rfl kj kj fun g2 W1 l2 e1 r2_1 => ?_
  have x1 : Ext w W1 := Ext.tr (Rely.Ext.refl w) e1
  have b2 : w.heap.size ≤ g2 := Nat.le_trans (Rely.Ext.refl w).size l2
  refine seq_val (.nilIface) 5 rfl kj kj ?_
  refine seq_nil ?_
  refine hK1 _ _ ?_
  try clear hK1 K1
  refine wp_seq_k fun K3 hK3 => ?_
  refine region_lit ?_
  refine seq_val (.slice a_y xs.length c_y) 9 rfl kj kj ?_
  refine seq_val (.slice a_y xs.length c_y) 10 rfl kj kj ?_
  refine seq_val (.int .i64 ((xs.length : Nat) : Int)) 11 rfl kj kj ?_
  refine seq_val (.bool (decide (((xs.length : Nat) : Int) > 65536))) 12 rfl kj kj ?_
  refine seq_val (.agg (cat [#[.slice a_y xs.length c_y], #[.bool (decide (((xs.length : Nat) : Int) > 65536))]])) 13 rfl kj kj ?_
  refine seq_alloc (cat [#[.slice a_y xs.length c_y], #[.bool (decide (((xs.length : Nat) : Int) > 65536))]]) 179 14 rfl kj kj fun g4 W2 l4 e2 r4_2 => ?_
  have x2 : Ext w W2 := Ext.tr x1 e2
  have b4 : w.heap.size ≤ g4 := Nat.le_trans x1.size l4
  refine seq_val (.pointer (some ⟨g4, 0, none⟩)) 6 rfl kj kj ?_
  refine seq_nil ?_
  refine hK3 _ _ ?_
  try clear hK3 K3
  refine wp_seq_k fun K5 hK5 => ?_
  refine region_lit ?_
  refine seq_val (.func (.func 84) #[] #[]) 15 rfl kj kj ?_
  refine seq_val (.pointer (some ⟨g4, 0, none⟩)) 16 rfl kj kj ?_
  refine seq_callR (fun v W' => ExtB g4 W2 W' ∧ RSt w.heap.size g4 (packR (startS xs)) W' ∧ ∃ (a_s : Option Addr) (c_s : Nat), v = .agg (cat [ints .u8 (pGrp (startS xs)), #[.int .i64 (pEp (startS xs))], #[.int .i64 (pFr (startS xs))], #[.int .i64 (pNo (startS xs))], #[.slice a_s (pSe (startS xs)).length c_s]]) ∧ OwnN .u8 5 W2.heap.size (pSe (startS xs)) (.slice a_s (pSe (startS xs)).length c_s) W' ∧ AreBytes (pSe (startS xs)) ∧ (pSe (startS xs)).length ≤ 65535) 84 #[.pointer (some ⟨g4, 0, none⟩)] 17 rfl kj kj (rpacketR w.heap.size g4 (startS xs) _ b4 ⟨_, xs, _, r4_2, RdK.ext hy x2, hyb, rfl⟩) fun vv6 W3 hh6 => ?_
  obtain ⟨q3, ⟨u6, xs2, bad, rb3, hu6, -, hS2⟩, hv6⟩ := hh6
  rw [hS] at hS2
  obtain ⟨au_, cu_, rfl, -⟩ := id hu6
  obtain rfl : bad = true := by cases bad with | true => rfl | false => cases hS2
  have rc3 : W3.heap[g4]? = some (.cells (cat [#[.slice au_ xs2.length cu_], #[.bool true]]) 179) := rb3
  have x3 : Ext w W3 := ExtB.toExt x2 q3 b4
  obtain ⟨a7pSe_, c7pSe_, rfl, ⟨ho7pSe, hb7pSe, hl7pSe⟩⟩ := hv6
  refine seq_alloc (cat [(Array.replicate 32 (.int .u8 0)), #[.int .i64 0], #[.int .i64 0], #[.int .i64 0], #[.slice none 0 0]]) 81 7 rfl kj kj fun g8 W4 l8 e4 r8_4 => ?_
  have x4 : Ext w W4 := Ext.tr x3 e4
  have b8 : w.heap.size ≤ g8 := Nat.le_trans x3.size l8
  refine seq_store g8 _ (cat [ints .u8 (pGrp (startS xs)), #[.int .i64 (pEp (startS xs))], #[.int .i64 (pFr (startS xs))], #[.int .i64 (pNo (startS xs))], #[.slice a7pSe_ ((pSe (startS xs)).length) c7pSe_]]) 81 r8_4 rfl kj (run_store_row 81 _ _ g8 81 _ _ r8_4 rfl kj kj (isz (n := 36) kj (by rw [cat_cons, cat_cons, cat_cons, cat_cons, cat_cons]; simp only [Array.size_append, cat, ((ints_size _ _).trans (pGrp_len (startS xs)))]; rfl)) (eqsz (n := 36) kj (by rw [cat_cons, cat_cons, cat_cons, cat_cons, cat_cons]; simp only [Array.size_append, cat, ((ints_size _ _).trans (pGrp_len (startS xs)))]; rfl)) (cat_one _ (by intro a ha; simp only [List.mem_cons, List.not_mem_nil, or_false] at ha; rcases ha with rfl | rfl | rfl | rfl | rfl; exact (ints_one _ _); exact (one_leaf _ rfl); exact (one_leaf _ rfl); exact (one_leaf _ rfl); exact (one_leaf _ rfl)))) fun W5 p5 r8_5 => ?_
  have x5 : Ext w W5 := Puts.ext p5 x4 b8
  refine seq_nil ?_
  refine hK5 _ _ ?_
  try clear hK5 K5
  refine wp_seq_k fun K9 hK9 => ?_
  refine wp_seq_k fun K10 hK10 => ?_
  refine region_lit ?_
  refine seq_val (.pointer (some ⟨g4, 0, none⟩)) 18 rfl kj kj ?_
  refine seq_val (.pointer (some ⟨g4, 0, none⟩)) 19 rfl kj kj ?_
  refine seq_val (.pointer (some ⟨g4, 1, none⟩)) 20 rfl kj kj ?_
  have r4_4 := (row_ext rc3 e4)
  have r4_5 := (Puts.row p5 r4_4 (ne_of_old rc3 l8))
  refine seq_val (.bool true) 21 rfl kj (run_loadC1 4 _ g4 1 179 _ (.bool true) _ r4_5 rfl kj kj kj) ?_
  refine seq_val (.bool true) 22 rfl kj kj ?_
  refine seq_skip 23 rfl kj ?_
  refine seq_skip 24 rfl kj ?_
  refine seq_skip 25 rfl kj ?_
  refine seq_skip 26 rfl kj ?_
  refine seq_skip 27 rfl kj ?_
  refine seq_skip 28 rfl kj ?_
  refine seq_val (.bool true) 29 rfl kj kj ?_
  refine seq_nil ?_
  refine hK10 _ _ ?_
  try clear hK10 K10
  refine cond_true kj ?_
  refine wp_seq_k fun K11 hK11 => ?_
  refine region_lit ?_
  refine seq_alloc (cat [(Array.replicate 32 (.int .u8 0)), #[.int .i64 0], #[.int .i64 0], #[.int .i64 0], #[.slice none 0 0]]) 81 8 rfl kj kj fun g12 W6 l12 e6 r12_6 => ?_
  have x6 : Ext w W6 := Ext.tr x5 e6
  have b12 : w.heap.size ≤ g12 := Nat.le_trans x5.size l12
  refine seq_nil ?_
  refine hK11 _ _ ?_
  try clear hK11 K11
  refine wp_seq_k fun K13 hK13 => ?_
  refine region_lit ?_
  refine seq_val (.agg (cat [(Array.replicate 32 (.int .u8 0)), #[.int .i64 0], #[.int .i64 0], #[.int .i64 0], #[.slice none 0 0]])) 30 rfl kj (run_load_row 81 _ g12 81 _ _ r12_6 rfl kj kj (isz (n := 36) kj kj)) ?_
  refine seq_val (.iface 102 (.int .i64 3)) 31 rfl kj kj ?_
  have r2_2 := (row_ext r2_1 e2)
  have r2_3 := (ExtB.row q3 r2_2 (ne_of_old r2_1 l4))
  have r2_4 := (row_ext r2_3 e4)
  have r2_5 := (Puts.row p5 r2_4 (ne_of_old r2_3 l8))
  have r2_6 := (row_ext r2_5 e6)
  refine seq_store g2 _ (cat [(Array.replicate 32 (.int .u8 0)), #[.int .i64 0], #[.int .i64 0], #[.int .i64 0], #[.slice none 0 0]]) 81 r2_6 rfl kj (run_store_row 81 _ _ g2 81 _ _ r2_6 rfl kj kj (isz (n := 36) kj kj) (eqsz (n := 36) kj kj) kj) fun W7 p7 r2_7 => ?_
  have x7 : Ext w W7 := Puts.ext p7 x6 b2
  refine seq_val (.iface 102 (.int .i64 3)) 5 rfl kj kj ?_
  refine seq_nil ?_
  refine hK13 _ _ ?_
  try clear hK13 K13
  refine wp_ret ?_
  repeat (first | with_reducible refine goR1 ?_ | with_reducible refine goR2 ?_)
  exact (show bodyPost _ _ _ .ret _ _ from ret2 (.agg (cat [(Array.replicate 32 (.int .u8 0)), #[.int .i64 0], #[.int .i64 0], #[.int .i64 0], #[.slice none 0 0]])) (.iface 102 (.int .i64 3)) rfl (res_cell g2 81 _ r2_7 kj kj (isz (n := 36) kj kj)) (res_tmp kj) ⟨rfl, x7⟩)
set_option maxHeartbeats 4000000 in
theorem rtakePacket_B (xs : List Int) (a_y : Option Addr) (c_y : Nat) (w : World) (hyb : AreBytes xs) (hy : RdK .u8 w.heap.size xs (.slice a_y xs.length c_y) w) (hS : packR (startS xs) = some []) : Calls Try.prog 83 #[.slice a_y xs.length c_y, .func (.func 84) #[] #[]] w (Gives w (fun v W => ∃ (a_s : Option Addr) (c_s : Nat), v = .tuple #[.agg (cat [ints .u8 (pGrp (startS xs)), #[.int .i64 (pEp (startS xs))], #[.int .i64 (pFr (startS xs))], #[.int .i64 (pNo (startS xs))], #[.slice a_s (pSe (startS xs)).length c_s]]), .nilIface] ∧ OwnN .u8 5 w.heap.size (pSe (startS xs)) (.slice a_s (pSe (startS xs)).length c_s) W ∧ AreBytes (pSe (startS xs)) ∧ (pSe (startS xs)).length ≤ 65535)) := by
  refine enter 33 [(0, .slice a_y xs.length c_y), (1, .func (.func 84) #[] #[])] Try.func83 rfl rfl kj rfl ?_
  refine wp_seq_k fun K1 hK1 => ?_
  refine region_lit ?_
  refine seq_alloc (cat [(Array.replicate 32 (.int .u8 0)), #[.int .i64 0], #[.int .i64 0], #[.int .i64 0], #[.slice none 0 0]]) 81 4 rfl kj kj fun g2 W1 l2 e1 r2_1 => ?_
  have x1 : Ext w W1 := Ext.tr (Rely.Ext.refl w) e1
  have b2 : w.heap.size ≤ g2 := Nat.le_trans (Rely.Ext.refl w).size l2
  refine seq_val (.nilIface) 5 rfl kj kj ?_
  refine seq_nil ?_
  refine hK1 _ _ ?_
  try clear hK1 K1
  refine wp_seq_k fun K3 hK3 => ?_
  refine region_lit ?_
  refine seq_val (.slice a_y xs.length c_y) 9 rfl kj kj ?_
  refine seq_val (.slice a_y xs.length c_y) 10 rfl kj kj ?_
  refine seq_val (.int .i64 ((xs.length : Nat) : Int)) 11 rfl kj kj ?_
  refine seq_val (.bool (decide (((xs.length : Nat) : Int) > 65536))) 12 rfl kj kj ?_
  refine seq_val (.agg (cat [#[.slice a_y xs.length c_y], #[.bool (decide (((xs.length : Nat) : Int) > 65536))]])) 13 rfl kj kj ?_
  refine seq_alloc (cat [#[.slice a_y xs.length c_y], #[.bool (decide (((xs.length : Nat) : Int) > 65536))]]) 179 14 rfl kj kj fun g4 W2 l4 e2 r4_2 => ?_
  have x2 : Ext w W2 := Ext.tr x1 e2
  have b4 : w.heap.size ≤ g4 := Nat.le_trans x1.size l4
  refine seq_val (.pointer (some ⟨g4, 0, none⟩)) 6 rfl kj kj ?_
  refine seq_nil ?_
  refine hK3 _ _ ?_
  try clear hK3 K3
  refine wp_seq_k fun K5 hK5 => ?_
  refine region_lit ?_
  refine seq_val (.func (.func 84) #[] #[]) 15 rfl kj kj ?_
  refine seq_val (.pointer (some ⟨g4, 0, none⟩)) 16 rfl kj kj ?_
  refine seq_callR (fun v W' => ExtB g4 W2 W' ∧ RSt w.heap.size g4 (packR (startS xs)) W' ∧ ∃ (a_s : Option Addr) (c_s : Nat), v = .agg (cat [ints .u8 (pGrp (startS xs)), #[.int .i64 (pEp (startS xs))], #[.int .i64 (pFr (startS xs))], #[.int .i64 (pNo (startS xs))], #[.slice a_s (pSe (startS xs)).length c_s]]) ∧ OwnN .u8 5 W2.heap.size (pSe (startS xs)) (.slice a_s (pSe (startS xs)).length c_s) W' ∧ AreBytes (pSe (startS xs)) ∧ (pSe (startS xs)).length ≤ 65535) 84 #[.pointer (some ⟨g4, 0, none⟩)] 17 rfl kj kj (rpacketR w.heap.size g4 (startS xs) _ b4 ⟨_, xs, _, r4_2, RdK.ext hy x2, hyb, rfl⟩) fun vv6 W3 hh6 => ?_
  obtain ⟨q3, ⟨u6, xs2, bad, rb3, hu6, -, hS2⟩, hv6⟩ := hh6
  rw [hS] at hS2
  obtain ⟨au_, cu_, rfl, -⟩ := id hu6
  obtain ⟨rfl, rfl⟩ : bad = false ∧ xs2 = [] := by cases bad with | true => cases hS2 | false => exact ⟨rfl, (Option.some.inj hS2).symm⟩
  have rc3 : W3.heap[g4]? = some (.cells (cat [#[.slice au_ 0 cu_], #[.bool false]]) 179) := rb3
  have x3 : Ext w W3 := ExtB.toExt x2 q3 b4
  obtain ⟨a7pSe_, c7pSe_, rfl, ⟨ho7pSe, hb7pSe, hl7pSe⟩⟩ := hv6
  refine seq_alloc (cat [(Array.replicate 32 (.int .u8 0)), #[.int .i64 0], #[.int .i64 0], #[.int .i64 0], #[.slice none 0 0]]) 81 7 rfl kj kj fun g8 W4 l8 e4 r8_4 => ?_
  have x4 : Ext w W4 := Ext.tr x3 e4
  have b8 : w.heap.size ≤ g8 := Nat.le_trans x3.size l8
  refine seq_store g8 _ (cat [ints .u8 (pGrp (startS xs)), #[.int .i64 (pEp (startS xs))], #[.int .i64 (pFr (startS xs))], #[.int .i64 (pNo (startS xs))], #[.slice a7pSe_ ((pSe (startS xs)).length) c7pSe_]]) 81 r8_4 rfl kj (run_store_row 81 _ _ g8 81 _ _ r8_4 rfl kj kj (isz (n := 36) kj (by rw [cat_cons, cat_cons, cat_cons, cat_cons, cat_cons]; simp only [Array.size_append, cat, ((ints_size _ _).trans (pGrp_len (startS xs)))]; rfl)) (eqsz (n := 36) kj (by rw [cat_cons, cat_cons, cat_cons, cat_cons, cat_cons]; simp only [Array.size_append, cat, ((ints_size _ _).trans (pGrp_len (startS xs)))]; rfl)) (cat_one _ (by intro a ha; simp only [List.mem_cons, List.not_mem_nil, or_false] at ha; rcases ha with rfl | rfl | rfl | rfl | rfl; exact (ints_one _ _); exact (one_leaf _ rfl); exact (one_leaf _ rfl); exact (one_leaf _ rfl); exact (one_leaf _ rfl)))) fun W5 p5 r8_5 => ?_
  have x5 : Ext w W5 := Puts.ext p5 x4 b8
  refine seq_nil ?_
  refine hK5 _ _ ?_
  try clear hK5 K5
  refine wp_seq_k fun K9 hK9 => ?_
  refine wp_seq_k fun K10 hK10 => ?_
  refine region_lit ?_
  refine seq_val (.pointer (some ⟨g4, 0, none⟩)) 18 rfl kj kj ?_
  refine seq_val (.pointer (some ⟨g4, 0, none⟩)) 19 rfl kj kj ?_
  refine seq_val (.pointer (some ⟨g4, 1, none⟩)) 20 rfl kj kj ?_
  have r4_4 := (row_ext rc3 e4)
  have r4_5 := (Puts.row p5 r4_4 (ne_of_old rc3 l8))
  refine seq_val (.bool false) 21 rfl kj (run_loadC1 4 _ g4 1 179 _ (.bool false) _ r4_5 rfl kj kj kj) ?_
  refine seq_val (.bool false) 22 rfl kj kj ?_
  refine seq_val (.pointer (some ⟨g4, 0, none⟩)) 23 rfl kj kj ?_
  refine seq_val (.pointer (some ⟨g4, 0, none⟩)) 24 rfl kj kj ?_
  refine seq_val (.pointer (some ⟨g4, 0, none⟩)) 25 rfl kj kj ?_
  refine seq_val (.slice au_ 0 cu_) 26 rfl kj (run_loadC1 26 _ g4 0 179 _ (.slice au_ 0 cu_) _ r4_5 rfl kj kj kj) ?_
  refine seq_val (.int .i64 0) 27 rfl kj kj ?_
  refine seq_val (.bool false) 28 rfl kj kj ?_
  refine seq_val (.bool false) 29 rfl kj kj ?_
  refine seq_nil ?_
  refine hK10 _ _ ?_
  try clear hK10 K10
  refine cond_false kj ?_
  refine wp_skip ?_
  refine hK9 _ _ ?_
  try clear hK9 K9
  refine wp_seq_k fun K11 hK11 => ?_
  refine region_lit ?_
  refine seq_val (.agg (cat [ints .u8 (pGrp (startS xs)), #[.int .i64 (pEp (startS xs))], #[.int .i64 (pFr (startS xs))], #[.int .i64 (pNo (startS xs))], #[.slice a7pSe_ ((pSe (startS xs)).length) c7pSe_]])) 32 rfl kj (run_load_row 81 _ g8 81 _ _ r8_5 rfl kj kj (isz (n := 36) kj (by rw [cat_cons, cat_cons, cat_cons, cat_cons, cat_cons]; simp only [Array.size_append, cat, ((ints_size _ _).trans (pGrp_len (startS xs)))]; rfl))) ?_
  have r2_2 := (row_ext r2_1 e2)
  have r2_3 := (ExtB.row q3 r2_2 (ne_of_old r2_1 l4))
  have r2_4 := (row_ext r2_3 e4)
  have r2_5 := (Puts.row p5 r2_4 (ne_of_old r2_3 l8))
  refine seq_store g2 _ (cat [ints .u8 (pGrp (startS xs)), #[.int .i64 (pEp (startS xs))], #[.int .i64 (pFr (startS xs))], #[.int .i64 (pNo (startS xs))], #[.slice a7pSe_ ((pSe (startS xs)).length) c7pSe_]]) 81 r2_5 rfl kj (run_store_row 81 _ _ g2 81 _ _ r2_5 rfl kj kj (isz (n := 36) kj (by rw [cat_cons, cat_cons, cat_cons, cat_cons, cat_cons]; simp only [Array.size_append, cat, ((ints_size _ _).trans (pGrp_len (startS xs)))]; rfl)) (eqsz (n := 36) kj (by rw [cat_cons, cat_cons, cat_cons, cat_cons, cat_cons]; simp only [Array.size_append, cat, ((ints_size _ _).trans (pGrp_len (startS xs)))]; rfl)) (cat_one _ (by intro a ha; simp only [List.mem_cons, List.not_mem_nil, or_false] at ha; rcases ha with rfl | rfl | rfl | rfl | rfl; exact (ints_one _ _); exact (one_leaf _ rfl); exact (one_leaf _ rfl); exact (one_leaf _ rfl); exact (one_leaf _ rfl)))) fun W6 p6 r2_6 => ?_
  have x6 : Ext w W6 := Puts.ext p6 x5 b2
  refine seq_val (.nilIface) 5 rfl kj kj ?_
  refine seq_nil ?_
  refine hK11 _ _ ?_
  try clear hK11 K11
  refine wp_ret ?_
  repeat (first | with_reducible refine goR1 ?_ | with_reducible refine goR2 ?_)
  have f12_4 := (ho7pSe.ext e4)
  have f13_5 := (f12_4.puts p5 (nb_new ho7pSe l8))
  have f14_6 := (f13_5.puts p6 (nb_old ho7pSe (row_lt r2_2)))
  exact (show bodyPost _ _ _ .ret _ _ from ret2 (.agg (cat [ints .u8 (pGrp (startS xs)), #[.int .i64 (pEp (startS xs))], #[.int .i64 (pFr (startS xs))], #[.int .i64 (pNo (startS xs))], #[.slice a7pSe_ ((pSe (startS xs)).length) c7pSe_]])) (.nilIface) rfl (res_cell g2 81 _ r2_6 kj kj (isz (n := 36) kj (by rw [cat_cons, cat_cons, cat_cons, cat_cons, cat_cons]; simp only [Array.size_append, cat, ((ints_size _ _).trans (pGrp_len (startS xs)))]; rfl))) (res_tmp kj) ⟨_, rfl, x6, _, _, rfl, ⟨OwnN.base x2.size f14_6, hb7pSe, hl7pSe⟩⟩)
set_option maxHeartbeats 4000000 in
theorem rtakePacket_C (xs : List Int) (a_y : Option Addr) (c_y : Nat) (w : World) (hyb : AreBytes xs) (hy : RdK .u8 w.heap.size xs (.slice a_y xs.length c_y) w) (y : Int) (ys : List Int) (hS : packR (startS xs) = some (y :: ys)) : Calls Try.prog 83 #[.slice a_y xs.length c_y, .func (.func 84) #[] #[]] w (Ret w (.tuple #[.agg (cat [(Array.replicate 32 (.int .u8 0)), #[.int .i64 0], #[.int .i64 0], #[.int .i64 0], #[.slice none 0 0]]), .iface 102 (.int .i64 3)])) := by
  refine enter 33 [(0, .slice a_y xs.length c_y), (1, .func (.func 84) #[] #[])] Try.func83 rfl rfl kj rfl ?_
  refine wp_seq_k fun K1 hK1 => ?_
  refine region_lit ?_
  refine seq_alloc (cat [(Array.replicate 32 (.int .u8 0)), #[.int .i64 0], #[.int .i64 0], #[.int .i64 0], #[.slice none 0 0]]) 81 4 rfl kj kj fun g2 W1 l2 e1 r2_1 => ?_
  have x1 : Ext w W1 := Ext.tr (Rely.Ext.refl w) e1
  have b2 : w.heap.size ≤ g2 := Nat.le_trans (Rely.Ext.refl w).size l2
  refine seq_val (.nilIface) 5 rfl kj kj ?_
  refine seq_nil ?_
  refine hK1 _ _ ?_
  try clear hK1 K1
  refine wp_seq_k fun K3 hK3 => ?_
  refine region_lit ?_
  refine seq_val (.slice a_y xs.length c_y) 9 rfl kj kj ?_
  refine seq_val (.slice a_y xs.length c_y) 10 rfl kj kj ?_
  refine seq_val (.int .i64 ((xs.length : Nat) : Int)) 11 rfl kj kj ?_
  refine seq_val (.bool (decide (((xs.length : Nat) : Int) > 65536))) 12 rfl kj kj ?_
  refine seq_val (.agg (cat [#[.slice a_y xs.length c_y], #[.bool (decide (((xs.length : Nat) : Int) > 65536))]])) 13 rfl kj kj ?_
  refine seq_alloc (cat [#[.slice a_y xs.length c_y], #[.bool (decide (((xs.length : Nat) : Int) > 65536))]]) 179 14 rfl kj kj fun g4 W2 l4 e2 r4_2 => ?_
  have x2 : Ext w W2 := Ext.tr x1 e2
  have b4 : w.heap.size ≤ g4 := Nat.le_trans x1.size l4
  refine seq_val (.pointer (some ⟨g4, 0, none⟩)) 6 rfl kj kj ?_
  refine seq_nil ?_
  refine hK3 _ _ ?_
  try clear hK3 K3
  refine wp_seq_k fun K5 hK5 => ?_
  refine region_lit ?_
  refine seq_val (.func (.func 84) #[] #[]) 15 rfl kj kj ?_
  refine seq_val (.pointer (some ⟨g4, 0, none⟩)) 16 rfl kj kj ?_
  refine seq_callR (fun v W' => ExtB g4 W2 W' ∧ RSt w.heap.size g4 (packR (startS xs)) W' ∧ ∃ (a_s : Option Addr) (c_s : Nat), v = .agg (cat [ints .u8 (pGrp (startS xs)), #[.int .i64 (pEp (startS xs))], #[.int .i64 (pFr (startS xs))], #[.int .i64 (pNo (startS xs))], #[.slice a_s (pSe (startS xs)).length c_s]]) ∧ OwnN .u8 5 W2.heap.size (pSe (startS xs)) (.slice a_s (pSe (startS xs)).length c_s) W' ∧ AreBytes (pSe (startS xs)) ∧ (pSe (startS xs)).length ≤ 65535) 84 #[.pointer (some ⟨g4, 0, none⟩)] 17 rfl kj kj (rpacketR w.heap.size g4 (startS xs) _ b4 ⟨_, xs, _, r4_2, RdK.ext hy x2, hyb, rfl⟩) fun vv6 W3 hh6 => ?_
  obtain ⟨q3, ⟨u6, xs2, bad, rb3, hu6, -, hS2⟩, hv6⟩ := hh6
  rw [hS] at hS2
  obtain ⟨au_, cu_, rfl, -⟩ := id hu6
  obtain ⟨rfl, rfl⟩ : bad = false ∧ xs2 = y :: ys := by cases bad with | true => cases hS2 | false => exact ⟨rfl, (Option.some.inj hS2).symm⟩
  have rc3 : W3.heap[g4]? = some (.cells (cat [#[.slice au_ ((y :: ys).length) cu_], #[.bool false]]) 179) := rb3
  have x3 : Ext w W3 := ExtB.toExt x2 q3 b4
  obtain ⟨a7pSe_, c7pSe_, rfl, ⟨ho7pSe, hb7pSe, hl7pSe⟩⟩ := hv6
  refine seq_alloc (cat [(Array.replicate 32 (.int .u8 0)), #[.int .i64 0], #[.int .i64 0], #[.int .i64 0], #[.slice none 0 0]]) 81 7 rfl kj kj fun g8 W4 l8 e4 r8_4 => ?_
  have x4 : Ext w W4 := Ext.tr x3 e4
  have b8 : w.heap.size ≤ g8 := Nat.le_trans x3.size l8
  refine seq_store g8 _ (cat [ints .u8 (pGrp (startS xs)), #[.int .i64 (pEp (startS xs))], #[.int .i64 (pFr (startS xs))], #[.int .i64 (pNo (startS xs))], #[.slice a7pSe_ ((pSe (startS xs)).length) c7pSe_]]) 81 r8_4 rfl kj (run_store_row 81 _ _ g8 81 _ _ r8_4 rfl kj kj (isz (n := 36) kj (by rw [cat_cons, cat_cons, cat_cons, cat_cons, cat_cons]; simp only [Array.size_append, cat, ((ints_size _ _).trans (pGrp_len (startS xs)))]; rfl)) (eqsz (n := 36) kj (by rw [cat_cons, cat_cons, cat_cons, cat_cons, cat_cons]; simp only [Array.size_append, cat, ((ints_size _ _).trans (pGrp_len (startS xs)))]; rfl)) (cat_one _ (by intro a ha; simp only [List.mem_cons, List.not_mem_nil, or_false] at ha; rcases ha with rfl | rfl | rfl | rfl | rfl; exact (ints_one _ _); exact (one_leaf _ rfl); exact (one_leaf _ rfl); exact (one_leaf _ rfl); exact (one_leaf _ rfl)))) fun W5 p5 r8_5 => ?_
  have x5 : Ext w W5 := Puts.ext p5 x4 b8
  refine seq_nil ?_
  refine hK5 _ _ ?_
  try clear hK5 K5
  refine wp_seq_k fun K9 hK9 => ?_
  refine wp_seq_k fun K10 hK10 => ?_
  refine region_lit ?_
  refine seq_val (.pointer (some ⟨g4, 0, none⟩)) 18 rfl kj kj ?_
  refine seq_val (.pointer (some ⟨g4, 0, none⟩)) 19 rfl kj kj ?_
  refine seq_val (.pointer (some ⟨g4, 1, none⟩)) 20 rfl kj kj ?_
  have r4_4 := (row_ext rc3 e4)
  have r4_5 := (Puts.row p5 r4_4 (ne_of_old rc3 l8))
  refine seq_val (.bool false) 21 rfl kj (run_loadC1 4 _ g4 1 179 _ (.bool false) _ r4_5 rfl kj kj kj) ?_
  refine seq_val (.bool false) 22 rfl kj kj ?_
  refine seq_val (.pointer (some ⟨g4, 0, none⟩)) 23 rfl kj kj ?_
  refine seq_val (.pointer (some ⟨g4, 0, none⟩)) 24 rfl kj kj ?_
  refine seq_val (.pointer (some ⟨g4, 0, none⟩)) 25 rfl kj kj ?_
  refine seq_val (.slice au_ ((y :: ys).length) cu_) 26 rfl kj (run_loadC1 26 _ g4 0 179 _ (.slice au_ ((y :: ys).length) cu_) _ r4_5 rfl kj kj kj) ?_
  refine seq_val (.int .i64 (((y :: ys).length : Nat) : Int)) 27 rfl kj kj ?_
  refine seq_val (.bool true) 28 rfl kj (run_eq (u := .bool (decide ((((y :: ys).length : Nat) : Int) > 0))) kj (congrArg Value.bool (decide_eq_true (by simp only [List.length_cons]; omega)))) ?_
  refine seq_val (.bool true) 29 rfl kj kj ?_
  refine seq_nil ?_
  refine hK10 _ _ ?_
  try clear hK10 K10
  refine cond_true kj ?_
  refine wp_seq_k fun K11 hK11 => ?_
  refine region_lit ?_
  refine seq_alloc (cat [(Array.replicate 32 (.int .u8 0)), #[.int .i64 0], #[.int .i64 0], #[.int .i64 0], #[.slice none 0 0]]) 81 8 rfl kj kj fun g12 W6 l12 e6 r12_6 => ?_
  have x6 : Ext w W6 := Ext.tr x5 e6
  have b12 : w.heap.size ≤ g12 := Nat.le_trans x5.size l12
  refine seq_nil ?_
  refine hK11 _ _ ?_
  try clear hK11 K11
  refine wp_seq_k fun K13 hK13 => ?_
  refine region_lit ?_
  refine seq_val (.agg (cat [(Array.replicate 32 (.int .u8 0)), #[.int .i64 0], #[.int .i64 0], #[.int .i64 0], #[.slice none 0 0]])) 30 rfl kj (run_load_row 81 _ g12 81 _ _ r12_6 rfl kj kj (isz (n := 36) kj kj)) ?_
  refine seq_val (.iface 102 (.int .i64 3)) 31 rfl kj kj ?_
  have r2_2 := (row_ext r2_1 e2)
  have r2_3 := (ExtB.row q3 r2_2 (ne_of_old r2_1 l4))
  have r2_4 := (row_ext r2_3 e4)
  have r2_5 := (Puts.row p5 r2_4 (ne_of_old r2_3 l8))
  have r2_6 := (row_ext r2_5 e6)
  refine seq_store g2 _ (cat [(Array.replicate 32 (.int .u8 0)), #[.int .i64 0], #[.int .i64 0], #[.int .i64 0], #[.slice none 0 0]]) 81 r2_6 rfl kj (run_store_row 81 _ _ g2 81 _ _ r2_6 rfl kj kj (isz (n := 36) kj kj) (eqsz (n := 36) kj kj) kj) fun W7 p7 r2_7 => ?_
  have x7 : Ext w W7 := Puts.ext p7 x6 b2
  refine seq_val (.iface 102 (.int .i64 3)) 5 rfl kj kj ?_
  refine seq_nil ?_
  refine hK13 _ _ ?_
  try clear hK13 K13
  refine wp_ret ?_
  repeat (first | with_reducible refine goR1 ?_ | with_reducible refine goR2 ?_)
  exact (show bodyPost _ _ _ .ret _ _ from ret2 (.agg (cat [(Array.replicate 32 (.int .u8 0)), #[.int .i64 0], #[.int .i64 0], #[.int .i64 0], #[.slice none 0 0]])) (.iface 102 (.int .i64 3)) rfl (res_cell g2 81 _ r2_7 kj kj (isz (n := 36) kj kj)) (res_tmp kj) ⟨rfl, x7⟩)
set_option maxHeartbeats 4000000 in
theorem rTakePacket_A (xs : List Int) (a_y : Option Addr) (c_y : Nat) (w : World) (hyb : AreBytes xs) (hy : RdK .u8 w.heap.size xs (.slice a_y xs.length c_y) w) (hS : packR (startS xs) = none) : Calls Try.prog 36 #[.slice a_y xs.length c_y] w (Ret w (.tuple #[.agg (cat [(Array.replicate 32 (.int .u8 0)), #[.int .i64 0], #[.int .i64 0], #[.int .i64 0], #[.slice none 0 0]]), .iface 102 (.int .i64 3)])) := by
  refine enter 8 [(0, .slice a_y xs.length c_y)] Try.func36 rfl rfl kj rfl ?_
  refine wp_seq_k fun K1 hK1 => ?_
  refine region_lit ?_
  refine seq_alloc (cat [(Array.replicate 32 (.int .u8 0)), #[.int .i64 0], #[.int .i64 0], #[.int .i64 0], #[.slice none 0 0]]) 81 2 rfl kj kj fun g2 W1 l2 e1 r2_1 => ?_
  have x1 : Ext w W1 := Ext.tr (Rely.Ext.refl w) e1
  have b2 : w.heap.size ≤ g2 := Nat.le_trans (Rely.Ext.refl w).size l2
  refine seq_val (.nilIface) 3 rfl kj kj ?_
  refine seq_nil ?_
  refine hK1 _ _ ?_
  try clear hK1 K1
  refine wp_seq_k fun K3 hK3 => ?_
  refine region_lit ?_
  refine seq_val (.slice a_y xs.length c_y) 4 rfl kj kj ?_
  refine seq_call (.tuple #[.agg (cat [(Array.replicate 32 (.int .u8 0)), #[.int .i64 0], #[.int .i64 0], #[.int .i64 0], #[.slice none 0 0]]), .iface 102 (.int .i64 3)]) 83 #[.slice a_y xs.length c_y, .func (.func 84) #[] #[]] 5 rfl kj kj (rtakePacket_A xs _ _ _ hyb (RdK.here (RdK.ext hy x1)) hS) fun W2 e2 => ?_
  have x2 : Ext w W2 := Ext.tr x1 e2
  refine seq_val (.agg (cat [(Array.replicate 32 (.int .u8 0)), #[.int .i64 0], #[.int .i64 0], #[.int .i64 0], #[.slice none 0 0]])) 6 rfl kj kj ?_
  refine seq_val (.iface 102 (.int .i64 3)) 7 rfl kj kj ?_
  have r2_2 := (row_ext r2_1 e2)
  refine seq_store g2 _ (cat [(Array.replicate 32 (.int .u8 0)), #[.int .i64 0], #[.int .i64 0], #[.int .i64 0], #[.slice none 0 0]]) 81 r2_2 rfl kj (run_store_row 81 _ _ g2 81 _ _ r2_2 rfl kj kj (isz (n := 36) kj kj) (eqsz (n := 36) kj kj) kj) fun W3 p3 r2_3 => ?_
  have x3 : Ext w W3 := Puts.ext p3 x2 b2
  refine seq_val (.iface 102 (.int .i64 3)) 3 rfl kj kj ?_
  refine seq_nil ?_
  refine hK3 _ _ ?_
  try clear hK3 K3
  refine wp_ret ?_
  repeat (first | with_reducible refine goR1 ?_ | with_reducible refine goR2 ?_)
  exact (show bodyPost _ _ _ .ret _ _ from ret2 (.agg (cat [(Array.replicate 32 (.int .u8 0)), #[.int .i64 0], #[.int .i64 0], #[.int .i64 0], #[.slice none 0 0]])) (.iface 102 (.int .i64 3)) rfl (res_cell g2 81 _ r2_3 kj kj (isz (n := 36) kj kj)) (res_tmp kj) ⟨rfl, x3⟩)
set_option maxHeartbeats 4000000 in
theorem rTakePacket_B (xs : List Int) (a_y : Option Addr) (c_y : Nat) (w : World) (hyb : AreBytes xs) (hy : RdK .u8 w.heap.size xs (.slice a_y xs.length c_y) w) (hS : packR (startS xs) = some []) : Calls Try.prog 36 #[.slice a_y xs.length c_y] w (Gives w (fun v W => ∃ (a_s : Option Addr) (c_s : Nat), v = .tuple #[.agg (cat [ints .u8 (pGrp (startS xs)), #[.int .i64 (pEp (startS xs))], #[.int .i64 (pFr (startS xs))], #[.int .i64 (pNo (startS xs))], #[.slice a_s (pSe (startS xs)).length c_s]]), .nilIface] ∧ OwnN .u8 5 w.heap.size (pSe (startS xs)) (.slice a_s (pSe (startS xs)).length c_s) W ∧ AreBytes (pSe (startS xs)) ∧ (pSe (startS xs)).length ≤ 65535)) := by
  refine enter 8 [(0, .slice a_y xs.length c_y)] Try.func36 rfl rfl kj rfl ?_
  refine wp_seq_k fun K1 hK1 => ?_
  refine region_lit ?_
  refine seq_alloc (cat [(Array.replicate 32 (.int .u8 0)), #[.int .i64 0], #[.int .i64 0], #[.int .i64 0], #[.slice none 0 0]]) 81 2 rfl kj kj fun g2 W1 l2 e1 r2_1 => ?_
  have x1 : Ext w W1 := Ext.tr (Rely.Ext.refl w) e1
  have b2 : w.heap.size ≤ g2 := Nat.le_trans (Rely.Ext.refl w).size l2
  refine seq_val (.nilIface) 3 rfl kj kj ?_
  refine seq_nil ?_
  refine hK1 _ _ ?_
  try clear hK1 K1
  refine wp_seq_k fun K3 hK3 => ?_
  refine region_lit ?_
  refine seq_val (.slice a_y xs.length c_y) 4 rfl kj kj ?_
  refine seq_callR (fun v W' => (fun v W => ∃ (a_s : Option Addr) (c_s : Nat), v = .tuple #[.agg (cat [ints .u8 (pGrp (startS xs)), #[.int .i64 (pEp (startS xs))], #[.int .i64 (pFr (startS xs))], #[.int .i64 (pNo (startS xs))], #[.slice a_s (pSe (startS xs)).length c_s]]), .nilIface] ∧ OwnN .u8 5 W1.heap.size (pSe (startS xs)) (.slice a_s (pSe (startS xs)).length c_s) W ∧ AreBytes (pSe (startS xs)) ∧ (pSe (startS xs)).length ≤ 65535) v W' ∧ Ext W1 W') 83 #[.slice a_y xs.length c_y, .func (.func 84) #[] #[]] 5 rfl kj kj ((rtakePacket_B xs _ _ _ hyb (RdK.here (RdK.ext hy x1)) hS).mono (by rintro e w' ⟨v, rfl, e1, hv⟩; exact ⟨v, rfl, hv, e1⟩)) fun vv4 W2 hh4 => ?_
  obtain ⟨hv4, e2⟩ := hh4
  have x2 : Ext w W2 := Ext.tr x1 e2
  obtain ⟨a5pSe_, c5pSe_, rfl, ⟨ho5pSe, hb5pSe, hl5pSe⟩⟩ := hv4
  refine seq_val (.agg (cat [ints .u8 (pGrp (startS xs)), #[.int .i64 (pEp (startS xs))], #[.int .i64 (pFr (startS xs))], #[.int .i64 (pNo (startS xs))], #[.slice a5pSe_ ((pSe (startS xs)).length) c5pSe_]])) 6 rfl kj kj ?_
  refine seq_val (.nilIface) 7 rfl kj kj ?_
  have r2_2 := (row_ext r2_1 e2)
  refine seq_store g2 _ (cat [ints .u8 (pGrp (startS xs)), #[.int .i64 (pEp (startS xs))], #[.int .i64 (pFr (startS xs))], #[.int .i64 (pNo (startS xs))], #[.slice a5pSe_ ((pSe (startS xs)).length) c5pSe_]]) 81 r2_2 rfl kj (run_store_row 81 _ _ g2 81 _ _ r2_2 rfl kj kj (isz (n := 36) kj (by rw [cat_cons, cat_cons, cat_cons, cat_cons, cat_cons]; simp only [Array.size_append, cat, ((ints_size _ _).trans (pGrp_len (startS xs)))]; rfl)) (eqsz (n := 36) kj (by rw [cat_cons, cat_cons, cat_cons, cat_cons, cat_cons]; simp only [Array.size_append, cat, ((ints_size _ _).trans (pGrp_len (startS xs)))]; rfl)) (cat_one _ (by intro a ha; simp only [List.mem_cons, List.not_mem_nil, or_false] at ha; rcases ha with rfl | rfl | rfl | rfl | rfl; exact (ints_one _ _); exact (one_leaf _ rfl); exact (one_leaf _ rfl); exact (one_leaf _ rfl); exact (one_leaf _ rfl)))) fun W3 p3 r2_3 => ?_
  have x3 : Ext w W3 := Puts.ext p3 x2 b2
  refine seq_val (.nilIface) 3 rfl kj kj ?_
  refine seq_nil ?_
  refine hK3 _ _ ?_
  try clear hK3 K3
  refine wp_ret ?_
  repeat (first | with_reducible refine goR1 ?_ | with_reducible refine goR2 ?_)
  have f6_3 := (ho5pSe.puts p3 (nb_old ho5pSe (row_lt r2_1)))
  exact (show bodyPost _ _ _ .ret _ _ from ret2 (.agg (cat [ints .u8 (pGrp (startS xs)), #[.int .i64 (pEp (startS xs))], #[.int .i64 (pFr (startS xs))], #[.int .i64 (pNo (startS xs))], #[.slice a5pSe_ ((pSe (startS xs)).length) c5pSe_]])) (.nilIface) rfl (res_cell g2 81 _ r2_3 kj kj (isz (n := 36) kj (by rw [cat_cons, cat_cons, cat_cons, cat_cons, cat_cons]; simp only [Array.size_append, cat, ((ints_size _ _).trans (pGrp_len (startS xs)))]; rfl))) (res_tmp kj) ⟨_, rfl, x3, _, _, rfl, ⟨OwnN.base x1.size f6_3, hb5pSe, hl5pSe⟩⟩)
set_option maxHeartbeats 4000000 in
theorem rTakePacket_C (xs : List Int) (a_y : Option Addr) (c_y : Nat) (w : World) (hyb : AreBytes xs) (hy : RdK .u8 w.heap.size xs (.slice a_y xs.length c_y) w) (y : Int) (ys : List Int) (hS : packR (startS xs) = some (y :: ys)) : Calls Try.prog 36 #[.slice a_y xs.length c_y] w (Ret w (.tuple #[.agg (cat [(Array.replicate 32 (.int .u8 0)), #[.int .i64 0], #[.int .i64 0], #[.int .i64 0], #[.slice none 0 0]]), .iface 102 (.int .i64 3)])) := by
  refine enter 8 [(0, .slice a_y xs.length c_y)] Try.func36 rfl rfl kj rfl ?_
  refine wp_seq_k fun K1 hK1 => ?_
  refine region_lit ?_
  refine seq_alloc (cat [(Array.replicate 32 (.int .u8 0)), #[.int .i64 0], #[.int .i64 0], #[.int .i64 0], #[.slice none 0 0]]) 81 2 rfl kj kj fun g2 W1 l2 e1 r2_1 => ?_
  have x1 : Ext w W1 := Ext.tr (Rely.Ext.refl w) e1
  have b2 : w.heap.size ≤ g2 := Nat.le_trans (Rely.Ext.refl w).size l2
  refine seq_val (.nilIface) 3 rfl kj kj ?_
  refine seq_nil ?_
  refine hK1 _ _ ?_
  try clear hK1 K1
  refine wp_seq_k fun K3 hK3 => ?_
  refine region_lit ?_
  refine seq_val (.slice a_y xs.length c_y) 4 rfl kj kj ?_
  refine seq_call (.tuple #[.agg (cat [(Array.replicate 32 (.int .u8 0)), #[.int .i64 0], #[.int .i64 0], #[.int .i64 0], #[.slice none 0 0]]), .iface 102 (.int .i64 3)]) 83 #[.slice a_y xs.length c_y, .func (.func 84) #[] #[]] 5 rfl kj kj (rtakePacket_C xs _ _ _ hyb (RdK.here (RdK.ext hy x1)) y ys hS) fun W2 e2 => ?_
  have x2 : Ext w W2 := Ext.tr x1 e2
  refine seq_val (.agg (cat [(Array.replicate 32 (.int .u8 0)), #[.int .i64 0], #[.int .i64 0], #[.int .i64 0], #[.slice none 0 0]])) 6 rfl kj kj ?_
  refine seq_val (.iface 102 (.int .i64 3)) 7 rfl kj kj ?_
  have r2_2 := (row_ext r2_1 e2)
  refine seq_store g2 _ (cat [(Array.replicate 32 (.int .u8 0)), #[.int .i64 0], #[.int .i64 0], #[.int .i64 0], #[.slice none 0 0]]) 81 r2_2 rfl kj (run_store_row 81 _ _ g2 81 _ _ r2_2 rfl kj kj (isz (n := 36) kj kj) (eqsz (n := 36) kj kj) kj) fun W3 p3 r2_3 => ?_
  have x3 : Ext w W3 := Puts.ext p3 x2 b2
  refine seq_val (.iface 102 (.int .i64 3)) 3 rfl kj kj ?_
  refine seq_nil ?_
  refine hK3 _ _ ?_
  try clear hK3 K3
  refine wp_ret ?_
  repeat (first | with_reducible refine goR1 ?_ | with_reducible refine goR2 ?_)
  exact (show bodyPost _ _ _ .ret _ _ from ret2 (.agg (cat [(Array.replicate 32 (.int .u8 0)), #[.int .i64 0], #[.int .i64 0], #[.int .i64 0], #[.slice none 0 0]])) (.iface 102 (.int .i64 3)) rfl (res_cell g2 81 _ r2_3 kj kj (isz (n := 36) kj kj)) (res_tmp kj) ⟨rfl, x3⟩)
theorem rTakePacketN (xs : List Int) (a_y : Option Addr) (c_y : Nat) (w : World) (hyb : AreBytes xs) (hy : RdK .u8 w.heap.size xs (.slice a_y xs.length c_y) w) (hS : packR (startS xs) ≠ some []) : Calls Try.prog 36 #[.slice a_y xs.length c_y] w (Ret w (.tuple #[.agg (cat [(Array.replicate 32 (.int .u8 0)), #[.int .i64 0], #[.int .i64 0], #[.int .i64 0], #[.slice none 0 0]]), .iface 102 (.int .i64 3)])) := by
  cases h : packR (startS xs) with
  | none => exact rTakePacket_A xs a_y c_y w hyb hy h
  | some l => cases l with
    | nil => exact absurd h hS
    | cons y ys => exact rTakePacket_C xs a_y c_y w hyb hy y ys h
set_option maxHeartbeats 4000000 in
theorem rtakeWelcome_A (xs : List Int) (a_y : Option Addr) (c_y : Nat) (w : World) (hyb : AreBytes xs) (hy : RdK .u8 w.heap.size xs (.slice a_y xs.length c_y) w) (hS : welcR (startS xs) = none) : Calls Try.prog 79 #[.slice a_y xs.length c_y, .func (.func 80) #[] #[]] w (Ret w (.tuple #[.agg (cat [#[.int .i64 0], #[.slice none 0 0], #[.slice none 0 0]]), .iface 102 (.int .i64 3)])) := by
  refine enter 33 [(0, .slice a_y xs.length c_y), (1, .func (.func 80) #[] #[])] Try.func79 rfl rfl kj rfl ?_
  refine wp_seq_k fun K1 hK1 => ?_
  refine region_lit ?_
  refine seq_alloc (cat [#[.int .i64 0], #[.slice none 0 0], #[.slice none 0 0]]) 74 4 rfl kj kj fun g2 W1 l2 e1 r2_1 => ?_
  have x1 : Ext w W1 := Ext.tr (Rely.Ext.refl w) e1
  have b2 : w.heap.size ≤ g2 := Nat.le_trans (Rely.Ext.refl w).size l2
  refine seq_val (.nilIface) 5 rfl kj kj ?_
  refine seq_nil ?_
  refine hK1 _ _ ?_
  try clear hK1 K1
  refine wp_seq_k fun K3 hK3 => ?_
  refine region_lit ?_
  refine seq_val (.slice a_y xs.length c_y) 9 rfl kj kj ?_
  refine seq_val (.slice a_y xs.length c_y) 10 rfl kj kj ?_
  refine seq_val (.int .i64 ((xs.length : Nat) : Int)) 11 rfl kj kj ?_
  refine seq_val (.bool (decide (((xs.length : Nat) : Int) > 65536))) 12 rfl kj kj ?_
  refine seq_val (.agg (cat [#[.slice a_y xs.length c_y], #[.bool (decide (((xs.length : Nat) : Int) > 65536))]])) 13 rfl kj kj ?_
  refine seq_alloc (cat [#[.slice a_y xs.length c_y], #[.bool (decide (((xs.length : Nat) : Int) > 65536))]]) 179 14 rfl kj kj fun g4 W2 l4 e2 r4_2 => ?_
  have x2 : Ext w W2 := Ext.tr x1 e2
  have b4 : w.heap.size ≤ g4 := Nat.le_trans x1.size l4
  refine seq_val (.pointer (some ⟨g4, 0, none⟩)) 6 rfl kj kj ?_
  refine seq_nil ?_
  refine hK3 _ _ ?_
  try clear hK3 K3
  refine wp_seq_k fun K5 hK5 => ?_
  refine region_lit ?_
  refine seq_val (.func (.func 80) #[] #[]) 15 rfl kj kj ?_
  refine seq_val (.pointer (some ⟨g4, 0, none⟩)) 16 rfl kj kj ?_
  refine seq_callR (fun v W' => ExtB g4 W2 W' ∧ RSt w.heap.size g4 (welcR (startS xs)) W' ∧ ∃ (a_s : Option Addr) (c_s : Nat) (a_i : Option Addr) (c_i : Nat), v = .agg (cat [#[.int .i64 (wNm (startS xs))], #[.slice a_s (wSe (startS xs)).length c_s], #[.slice a_i (wIn (startS xs)).length c_i]]) ∧ (OwnN .u8 5 W2.heap.size (wSe (startS xs)) (.slice a_s (wSe (startS xs)).length c_s) W' ∧ AreBytes (wSe (startS xs)) ∧ (wSe (startS xs)).length ≤ 65535) ∧ OwnN .u8 5 W2.heap.size (wIn (startS xs)) (.slice a_i (wIn (startS xs)).length c_i) W' ∧ AreBytes (wIn (startS xs)) ∧ (wIn (startS xs)).length ≤ 65535) 80 #[.pointer (some ⟨g4, 0, none⟩)] 17 rfl kj kj (rwelcomeR w.heap.size g4 (startS xs) _ b4 ⟨_, xs, _, r4_2, RdK.ext hy x2, hyb, rfl⟩) fun vv6 W3 hh6 => ?_
  obtain ⟨q3, ⟨u6, xs2, bad, rb3, hu6, -, hS2⟩, hv6⟩ := hh6
  rw [hS] at hS2
  obtain ⟨au_, cu_, rfl, -⟩ := id hu6
  obtain rfl : bad = true := by cases bad with | true => rfl | false => cases hS2
  have rc3 : W3.heap[g4]? = some (.cells (cat [#[.slice au_ xs2.length cu_], #[.bool true]]) 179) := rb3
  have x3 : Ext w W3 := ExtB.toExt x2 q3 b4
  obtain ⟨a7wSe_, c7wSe_, a7wIn_, c7wIn_, rfl, ⟨ho7wSe, hb7wSe, hl7wSe⟩, ⟨ho7wIn, hb7wIn, hl7wIn⟩⟩ := hv6
  refine seq_alloc (cat [#[.int .i64 0], #[.slice none 0 0], #[.slice none 0 0]]) 74 7 rfl kj kj fun g8 W4 l8 e4 r8_4 => ?_
  have x4 : Ext w W4 := Ext.tr x3 e4
  have b8 : w.heap.size ≤ g8 := Nat.le_trans x3.size l8
  refine seq_store g8 _ (cat [#[.int .i64 (wNm (startS xs))], #[.slice a7wSe_ ((wSe (startS xs)).length) c7wSe_], #[.slice a7wIn_ ((wIn (startS xs)).length) c7wIn_]]) 74 r8_4 rfl kj (run_store_row 74 _ _ g8 74 _ _ r8_4 rfl kj kj (isz (n := 3) kj kj) (eqsz (n := 3) kj kj) kj) fun W5 p5 r8_5 => ?_
  have x5 : Ext w W5 := Puts.ext p5 x4 b8
  refine seq_nil ?_
  refine hK5 _ _ ?_
  try clear hK5 K5
  refine wp_seq_k fun K9 hK9 => ?_
  refine wp_seq_k fun K10 hK10 => ?_
  refine region_lit ?_
  refine seq_val (.pointer (some ⟨g4, 0, none⟩)) 18 rfl kj kj ?_
  refine seq_val (.pointer (some ⟨g4, 0, none⟩)) 19 rfl kj kj ?_
  refine seq_val (.pointer (some ⟨g4, 1, none⟩)) 20 rfl kj kj ?_
  have r4_4 := (row_ext rc3 e4)
  have r4_5 := (Puts.row p5 r4_4 (ne_of_old rc3 l8))
  refine seq_val (.bool true) 21 rfl kj (run_loadC1 4 _ g4 1 179 _ (.bool true) _ r4_5 rfl kj kj kj) ?_
  refine seq_val (.bool true) 22 rfl kj kj ?_
  refine seq_skip 23 rfl kj ?_
  refine seq_skip 24 rfl kj ?_
  refine seq_skip 25 rfl kj ?_
  refine seq_skip 26 rfl kj ?_
  refine seq_skip 27 rfl kj ?_
  refine seq_skip 28 rfl kj ?_
  refine seq_val (.bool true) 29 rfl kj kj ?_
  refine seq_nil ?_
  refine hK10 _ _ ?_
  try clear hK10 K10
  refine cond_true kj ?_
  refine wp_seq_k fun K11 hK11 => ?_
  refine region_lit ?_
  refine seq_alloc (cat [#[.int .i64 0], #[.slice none 0 0], #[.slice none 0 0]]) 74 8 rfl kj kj fun g12 W6 l12 e6 r12_6 => ?_
  have x6 : Ext w W6 := Ext.tr x5 e6
  have b12 : w.heap.size ≤ g12 := Nat.le_trans x5.size l12
  refine seq_nil ?_
  refine hK11 _ _ ?_
  try clear hK11 K11
  refine wp_seq_k fun K13 hK13 => ?_
  refine region_lit ?_
  refine seq_val (.agg (cat [#[.int .i64 0], #[.slice none 0 0], #[.slice none 0 0]])) 30 rfl kj (run_load_row 74 _ g12 74 _ _ r12_6 rfl kj kj (isz (n := 3) kj kj)) ?_
  refine seq_val (.iface 102 (.int .i64 3)) 31 rfl kj kj ?_
  have r2_2 := (row_ext r2_1 e2)
  have r2_3 := (ExtB.row q3 r2_2 (ne_of_old r2_1 l4))
  have r2_4 := (row_ext r2_3 e4)
  have r2_5 := (Puts.row p5 r2_4 (ne_of_old r2_3 l8))
  have r2_6 := (row_ext r2_5 e6)
  refine seq_store g2 _ (cat [#[.int .i64 0], #[.slice none 0 0], #[.slice none 0 0]]) 74 r2_6 rfl kj (run_store_row 74 _ _ g2 74 _ _ r2_6 rfl kj kj (isz (n := 3) kj kj) (eqsz (n := 3) kj kj) kj) fun W7 p7 r2_7 => ?_
  have x7 : Ext w W7 := Puts.ext p7 x6 b2
  refine seq_val (.iface 102 (.int .i64 3)) 5 rfl kj kj ?_
  refine seq_nil ?_
  refine hK13 _ _ ?_
  try clear hK13 K13
  refine wp_ret ?_
  repeat (first | with_reducible refine goR1 ?_ | with_reducible refine goR2 ?_)
  exact (show bodyPost _ _ _ .ret _ _ from ret2 (.agg (cat [#[.int .i64 0], #[.slice none 0 0], #[.slice none 0 0]])) (.iface 102 (.int .i64 3)) rfl (res_cell g2 74 _ r2_7 kj kj (isz (n := 3) kj kj)) (res_tmp kj) ⟨rfl, x7⟩)
set_option maxHeartbeats 4000000 in
theorem rtakeWelcome_B (xs : List Int) (a_y : Option Addr) (c_y : Nat) (w : World) (hyb : AreBytes xs) (hy : RdK .u8 w.heap.size xs (.slice a_y xs.length c_y) w) (hS : welcR (startS xs) = some []) : Calls Try.prog 79 #[.slice a_y xs.length c_y, .func (.func 80) #[] #[]] w (Gives w (fun v W => ∃ (a_s : Option Addr) (c_s : Nat) (a_i : Option Addr) (c_i : Nat), v = .tuple #[.agg (cat [#[.int .i64 (wNm (startS xs))], #[.slice a_s (wSe (startS xs)).length c_s], #[.slice a_i (wIn (startS xs)).length c_i]]), .nilIface] ∧ (OwnN .u8 5 w.heap.size (wSe (startS xs)) (.slice a_s (wSe (startS xs)).length c_s) W ∧ AreBytes (wSe (startS xs)) ∧ (wSe (startS xs)).length ≤ 65535) ∧ OwnN .u8 5 w.heap.size (wIn (startS xs)) (.slice a_i (wIn (startS xs)).length c_i) W ∧ AreBytes (wIn (startS xs)) ∧ (wIn (startS xs)).length ≤ 65535)) := by
  refine enter 33 [(0, .slice a_y xs.length c_y), (1, .func (.func 80) #[] #[])] Try.func79 rfl rfl kj rfl ?_
  refine wp_seq_k fun K1 hK1 => ?_
  refine region_lit ?_
  refine seq_alloc (cat [#[.int .i64 0], #[.slice none 0 0], #[.slice none 0 0]]) 74 4 rfl kj kj fun g2 W1 l2 e1 r2_1 => ?_
  have x1 : Ext w W1 := Ext.tr (Rely.Ext.refl w) e1
  have b2 : w.heap.size ≤ g2 := Nat.le_trans (Rely.Ext.refl w).size l2
  refine seq_val (.nilIface) 5 rfl kj kj ?_
  refine seq_nil ?_
  refine hK1 _ _ ?_
  try clear hK1 K1
  refine wp_seq_k fun K3 hK3 => ?_
  refine region_lit ?_
  refine seq_val (.slice a_y xs.length c_y) 9 rfl kj kj ?_
  refine seq_val (.slice a_y xs.length c_y) 10 rfl kj kj ?_
  refine seq_val (.int .i64 ((xs.length : Nat) : Int)) 11 rfl kj kj ?_
  refine seq_val (.bool (decide (((xs.length : Nat) : Int) > 65536))) 12 rfl kj kj ?_
  refine seq_val (.agg (cat [#[.slice a_y xs.length c_y], #[.bool (decide (((xs.length : Nat) : Int) > 65536))]])) 13 rfl kj kj ?_
  refine seq_alloc (cat [#[.slice a_y xs.length c_y], #[.bool (decide (((xs.length : Nat) : Int) > 65536))]]) 179 14 rfl kj kj fun g4 W2 l4 e2 r4_2 => ?_
  have x2 : Ext w W2 := Ext.tr x1 e2
  have b4 : w.heap.size ≤ g4 := Nat.le_trans x1.size l4
  refine seq_val (.pointer (some ⟨g4, 0, none⟩)) 6 rfl kj kj ?_
  refine seq_nil ?_
  refine hK3 _ _ ?_
  try clear hK3 K3
  refine wp_seq_k fun K5 hK5 => ?_
  refine region_lit ?_
  refine seq_val (.func (.func 80) #[] #[]) 15 rfl kj kj ?_
  refine seq_val (.pointer (some ⟨g4, 0, none⟩)) 16 rfl kj kj ?_
  refine seq_callR (fun v W' => ExtB g4 W2 W' ∧ RSt w.heap.size g4 (welcR (startS xs)) W' ∧ ∃ (a_s : Option Addr) (c_s : Nat) (a_i : Option Addr) (c_i : Nat), v = .agg (cat [#[.int .i64 (wNm (startS xs))], #[.slice a_s (wSe (startS xs)).length c_s], #[.slice a_i (wIn (startS xs)).length c_i]]) ∧ (OwnN .u8 5 W2.heap.size (wSe (startS xs)) (.slice a_s (wSe (startS xs)).length c_s) W' ∧ AreBytes (wSe (startS xs)) ∧ (wSe (startS xs)).length ≤ 65535) ∧ OwnN .u8 5 W2.heap.size (wIn (startS xs)) (.slice a_i (wIn (startS xs)).length c_i) W' ∧ AreBytes (wIn (startS xs)) ∧ (wIn (startS xs)).length ≤ 65535) 80 #[.pointer (some ⟨g4, 0, none⟩)] 17 rfl kj kj (rwelcomeR w.heap.size g4 (startS xs) _ b4 ⟨_, xs, _, r4_2, RdK.ext hy x2, hyb, rfl⟩) fun vv6 W3 hh6 => ?_
  obtain ⟨q3, ⟨u6, xs2, bad, rb3, hu6, -, hS2⟩, hv6⟩ := hh6
  rw [hS] at hS2
  obtain ⟨au_, cu_, rfl, -⟩ := id hu6
  obtain ⟨rfl, rfl⟩ : bad = false ∧ xs2 = [] := by cases bad with | true => cases hS2 | false => exact ⟨rfl, (Option.some.inj hS2).symm⟩
  have rc3 : W3.heap[g4]? = some (.cells (cat [#[.slice au_ 0 cu_], #[.bool false]]) 179) := rb3
  have x3 : Ext w W3 := ExtB.toExt x2 q3 b4
  obtain ⟨a7wSe_, c7wSe_, a7wIn_, c7wIn_, rfl, ⟨ho7wSe, hb7wSe, hl7wSe⟩, ⟨ho7wIn, hb7wIn, hl7wIn⟩⟩ := hv6
  refine seq_alloc (cat [#[.int .i64 0], #[.slice none 0 0], #[.slice none 0 0]]) 74 7 rfl kj kj fun g8 W4 l8 e4 r8_4 => ?_
  have x4 : Ext w W4 := Ext.tr x3 e4
  have b8 : w.heap.size ≤ g8 := Nat.le_trans x3.size l8
  refine seq_store g8 _ (cat [#[.int .i64 (wNm (startS xs))], #[.slice a7wSe_ ((wSe (startS xs)).length) c7wSe_], #[.slice a7wIn_ ((wIn (startS xs)).length) c7wIn_]]) 74 r8_4 rfl kj (run_store_row 74 _ _ g8 74 _ _ r8_4 rfl kj kj (isz (n := 3) kj kj) (eqsz (n := 3) kj kj) kj) fun W5 p5 r8_5 => ?_
  have x5 : Ext w W5 := Puts.ext p5 x4 b8
  refine seq_nil ?_
  refine hK5 _ _ ?_
  try clear hK5 K5
  refine wp_seq_k fun K9 hK9 => ?_
  refine wp_seq_k fun K10 hK10 => ?_
  refine region_lit ?_
  refine seq_val (.pointer (some ⟨g4, 0, none⟩)) 18 rfl kj kj ?_
  refine seq_val (.pointer (some ⟨g4, 0, none⟩)) 19 rfl kj kj ?_
  refine seq_val (.pointer (some ⟨g4, 1, none⟩)) 20 rfl kj kj ?_
  have r4_4 := (row_ext rc3 e4)
  have r4_5 := (Puts.row p5 r4_4 (ne_of_old rc3 l8))
  refine seq_val (.bool false) 21 rfl kj (run_loadC1 4 _ g4 1 179 _ (.bool false) _ r4_5 rfl kj kj kj) ?_
  refine seq_val (.bool false) 22 rfl kj kj ?_
  refine seq_val (.pointer (some ⟨g4, 0, none⟩)) 23 rfl kj kj ?_
  refine seq_val (.pointer (some ⟨g4, 0, none⟩)) 24 rfl kj kj ?_
  refine seq_val (.pointer (some ⟨g4, 0, none⟩)) 25 rfl kj kj ?_
  refine seq_val (.slice au_ 0 cu_) 26 rfl kj (run_loadC1 26 _ g4 0 179 _ (.slice au_ 0 cu_) _ r4_5 rfl kj kj kj) ?_
  refine seq_val (.int .i64 0) 27 rfl kj kj ?_
  refine seq_val (.bool false) 28 rfl kj kj ?_
  refine seq_val (.bool false) 29 rfl kj kj ?_
  refine seq_nil ?_
  refine hK10 _ _ ?_
  try clear hK10 K10
  refine cond_false kj ?_
  refine wp_skip ?_
  refine hK9 _ _ ?_
  try clear hK9 K9
  refine wp_seq_k fun K11 hK11 => ?_
  refine region_lit ?_
  refine seq_val (.agg (cat [#[.int .i64 (wNm (startS xs))], #[.slice a7wSe_ ((wSe (startS xs)).length) c7wSe_], #[.slice a7wIn_ ((wIn (startS xs)).length) c7wIn_]])) 32 rfl kj (run_load_row 74 _ g8 74 _ _ r8_5 rfl kj kj (isz (n := 3) kj kj)) ?_
  have r2_2 := (row_ext r2_1 e2)
  have r2_3 := (ExtB.row q3 r2_2 (ne_of_old r2_1 l4))
  have r2_4 := (row_ext r2_3 e4)
  have r2_5 := (Puts.row p5 r2_4 (ne_of_old r2_3 l8))
  refine seq_store g2 _ (cat [#[.int .i64 (wNm (startS xs))], #[.slice a7wSe_ ((wSe (startS xs)).length) c7wSe_], #[.slice a7wIn_ ((wIn (startS xs)).length) c7wIn_]]) 74 r2_5 rfl kj (run_store_row 74 _ _ g2 74 _ _ r2_5 rfl kj kj (isz (n := 3) kj kj) (eqsz (n := 3) kj kj) kj) fun W6 p6 r2_6 => ?_
  have x6 : Ext w W6 := Puts.ext p6 x5 b2
  refine seq_val (.nilIface) 5 rfl kj kj ?_
  refine seq_nil ?_
  refine hK11 _ _ ?_
  try clear hK11 K11
  refine wp_ret ?_
  repeat (first | with_reducible refine goR1 ?_ | with_reducible refine goR2 ?_)
  have f12_4 := (ho7wSe.ext e4)
  have f13_5 := (f12_4.puts p5 (nb_new ho7wSe l8))
  have f14_6 := (f13_5.puts p6 (nb_old ho7wSe (row_lt r2_2)))
  have f15_4 := (ho7wIn.ext e4)
  have f16_5 := (f15_4.puts p5 (nb_new ho7wIn l8))
  have f17_6 := (f16_5.puts p6 (nb_old ho7wIn (row_lt r2_2)))
  exact (show bodyPost _ _ _ .ret _ _ from ret2 (.agg (cat [#[.int .i64 (wNm (startS xs))], #[.slice a7wSe_ ((wSe (startS xs)).length) c7wSe_], #[.slice a7wIn_ ((wIn (startS xs)).length) c7wIn_]])) (.nilIface) rfl (res_cell g2 74 _ r2_6 kj kj (isz (n := 3) kj kj)) (res_tmp kj) ⟨_, rfl, x6, _, _, _, _, rfl, ⟨OwnN.base x2.size f14_6, hb7wSe, hl7wSe⟩, ⟨OwnN.base x2.size f17_6, hb7wIn, hl7wIn⟩⟩)
set_option maxHeartbeats 4000000 in
theorem rtakeWelcome_C (xs : List Int) (a_y : Option Addr) (c_y : Nat) (w : World) (hyb : AreBytes xs) (hy : RdK .u8 w.heap.size xs (.slice a_y xs.length c_y) w) (y : Int) (ys : List Int) (hS : welcR (startS xs) = some (y :: ys)) : Calls Try.prog 79 #[.slice a_y xs.length c_y, .func (.func 80) #[] #[]] w (Ret w (.tuple #[.agg (cat [#[.int .i64 0], #[.slice none 0 0], #[.slice none 0 0]]), .iface 102 (.int .i64 3)])) := by
  refine enter 33 [(0, .slice a_y xs.length c_y), (1, .func (.func 80) #[] #[])] Try.func79 rfl rfl kj rfl ?_
  refine wp_seq_k fun K1 hK1 => ?_
  refine region_lit ?_
  refine seq_alloc (cat [#[.int .i64 0], #[.slice none 0 0], #[.slice none 0 0]]) 74 4 rfl kj kj fun g2 W1 l2 e1 r2_1 => ?_
  have x1 : Ext w W1 := Ext.tr (Rely.Ext.refl w) e1
  have b2 : w.heap.size ≤ g2 := Nat.le_trans (Rely.Ext.refl w).size l2
  refine seq_val (.nilIface) 5 rfl kj kj ?_
  refine seq_nil ?_
  refine hK1 _ _ ?_
  try clear hK1 K1
  refine wp_seq_k fun K3 hK3 => ?_
  refine region_lit ?_
  refine seq_val (.slice a_y xs.length c_y) 9 rfl kj kj ?_
  refine seq_val (.slice a_y xs.length c_y) 10 rfl kj kj ?_
  refine seq_val (.int .i64 ((xs.length : Nat) : Int)) 11 rfl kj kj ?_
  refine seq_val (.bool (decide (((xs.length : Nat) : Int) > 65536))) 12 rfl kj kj ?_
  refine seq_val (.agg (cat [#[.slice a_y xs.length c_y], #[.bool (decide (((xs.length : Nat) : Int) > 65536))]])) 13 rfl kj kj ?_
  refine seq_alloc (cat [#[.slice a_y xs.length c_y], #[.bool (decide (((xs.length : Nat) : Int) > 65536))]]) 179 14 rfl kj kj fun g4 W2 l4 e2 r4_2 => ?_
  have x2 : Ext w W2 := Ext.tr x1 e2
  have b4 : w.heap.size ≤ g4 := Nat.le_trans x1.size l4
  refine seq_val (.pointer (some ⟨g4, 0, none⟩)) 6 rfl kj kj ?_
  refine seq_nil ?_
  refine hK3 _ _ ?_
  try clear hK3 K3
  refine wp_seq_k fun K5 hK5 => ?_
  refine region_lit ?_
  refine seq_val (.func (.func 80) #[] #[]) 15 rfl kj kj ?_
  refine seq_val (.pointer (some ⟨g4, 0, none⟩)) 16 rfl kj kj ?_
  refine seq_callR (fun v W' => ExtB g4 W2 W' ∧ RSt w.heap.size g4 (welcR (startS xs)) W' ∧ ∃ (a_s : Option Addr) (c_s : Nat) (a_i : Option Addr) (c_i : Nat), v = .agg (cat [#[.int .i64 (wNm (startS xs))], #[.slice a_s (wSe (startS xs)).length c_s], #[.slice a_i (wIn (startS xs)).length c_i]]) ∧ (OwnN .u8 5 W2.heap.size (wSe (startS xs)) (.slice a_s (wSe (startS xs)).length c_s) W' ∧ AreBytes (wSe (startS xs)) ∧ (wSe (startS xs)).length ≤ 65535) ∧ OwnN .u8 5 W2.heap.size (wIn (startS xs)) (.slice a_i (wIn (startS xs)).length c_i) W' ∧ AreBytes (wIn (startS xs)) ∧ (wIn (startS xs)).length ≤ 65535) 80 #[.pointer (some ⟨g4, 0, none⟩)] 17 rfl kj kj (rwelcomeR w.heap.size g4 (startS xs) _ b4 ⟨_, xs, _, r4_2, RdK.ext hy x2, hyb, rfl⟩) fun vv6 W3 hh6 => ?_
  obtain ⟨q3, ⟨u6, xs2, bad, rb3, hu6, -, hS2⟩, hv6⟩ := hh6
  rw [hS] at hS2
  obtain ⟨au_, cu_, rfl, -⟩ := id hu6
  obtain ⟨rfl, rfl⟩ : bad = false ∧ xs2 = y :: ys := by cases bad with | true => cases hS2 | false => exact ⟨rfl, (Option.some.inj hS2).symm⟩
  have rc3 : W3.heap[g4]? = some (.cells (cat [#[.slice au_ ((y :: ys).length) cu_], #[.bool false]]) 179) := rb3
  have x3 : Ext w W3 := ExtB.toExt x2 q3 b4
  obtain ⟨a7wSe_, c7wSe_, a7wIn_, c7wIn_, rfl, ⟨ho7wSe, hb7wSe, hl7wSe⟩, ⟨ho7wIn, hb7wIn, hl7wIn⟩⟩ := hv6
  refine seq_alloc (cat [#[.int .i64 0], #[.slice none 0 0], #[.slice none 0 0]]) 74 7 rfl kj kj fun g8 W4 l8 e4 r8_4 => ?_
  have x4 : Ext w W4 := Ext.tr x3 e4
  have b8 : w.heap.size ≤ g8 := Nat.le_trans x3.size l8
  refine seq_store g8 _ (cat [#[.int .i64 (wNm (startS xs))], #[.slice a7wSe_ ((wSe (startS xs)).length) c7wSe_], #[.slice a7wIn_ ((wIn (startS xs)).length) c7wIn_]]) 74 r8_4 rfl kj (run_store_row 74 _ _ g8 74 _ _ r8_4 rfl kj kj (isz (n := 3) kj kj) (eqsz (n := 3) kj kj) kj) fun W5 p5 r8_5 => ?_
  have x5 : Ext w W5 := Puts.ext p5 x4 b8
  refine seq_nil ?_
  refine hK5 _ _ ?_
  try clear hK5 K5
  refine wp_seq_k fun K9 hK9 => ?_
  refine wp_seq_k fun K10 hK10 => ?_
  refine region_lit ?_
  refine seq_val (.pointer (some ⟨g4, 0, none⟩)) 18 rfl kj kj ?_
  refine seq_val (.pointer (some ⟨g4, 0, none⟩)) 19 rfl kj kj ?_
  refine seq_val (.pointer (some ⟨g4, 1, none⟩)) 20 rfl kj kj ?_
  have r4_4 := (row_ext rc3 e4)
  have r4_5 := (Puts.row p5 r4_4 (ne_of_old rc3 l8))
  refine seq_val (.bool false) 21 rfl kj (run_loadC1 4 _ g4 1 179 _ (.bool false) _ r4_5 rfl kj kj kj) ?_
  refine seq_val (.bool false) 22 rfl kj kj ?_
  refine seq_val (.pointer (some ⟨g4, 0, none⟩)) 23 rfl kj kj ?_
  refine seq_val (.pointer (some ⟨g4, 0, none⟩)) 24 rfl kj kj ?_
  refine seq_val (.pointer (some ⟨g4, 0, none⟩)) 25 rfl kj kj ?_
  refine seq_val (.slice au_ ((y :: ys).length) cu_) 26 rfl kj (run_loadC1 26 _ g4 0 179 _ (.slice au_ ((y :: ys).length) cu_) _ r4_5 rfl kj kj kj) ?_
  refine seq_val (.int .i64 (((y :: ys).length : Nat) : Int)) 27 rfl kj kj ?_
  refine seq_val (.bool true) 28 rfl kj (run_eq (u := .bool (decide ((((y :: ys).length : Nat) : Int) > 0))) kj (congrArg Value.bool (decide_eq_true (by simp only [List.length_cons]; omega)))) ?_
  refine seq_val (.bool true) 29 rfl kj kj ?_
  refine seq_nil ?_
  refine hK10 _ _ ?_
  try clear hK10 K10
  refine cond_true kj ?_
  refine wp_seq_k fun K11 hK11 => ?_
  refine region_lit ?_
  refine seq_alloc (cat [#[.int .i64 0], #[.slice none 0 0], #[.slice none 0 0]]) 74 8 rfl kj kj fun g12 W6 l12 e6 r12_6 => ?_
  have x6 : Ext w W6 := Ext.tr x5 e6
  have b12 : w.heap.size ≤ g12 := Nat.le_trans x5.size l12
  refine seq_nil ?_
  refine hK11 _ _ ?_
  try clear hK11 K11
  refine wp_seq_k fun K13 hK13 => ?_
  refine region_lit ?_
  refine seq_val (.agg (cat [#[.int .i64 0], #[.slice none 0 0], #[.slice none 0 0]])) 30 rfl kj (run_load_row 74 _ g12 74 _ _ r12_6 rfl kj kj (isz (n := 3) kj kj)) ?_
  refine seq_val (.iface 102 (.int .i64 3)) 31 rfl kj kj ?_
  have r2_2 := (row_ext r2_1 e2)
  have r2_3 := (ExtB.row q3 r2_2 (ne_of_old r2_1 l4))
  have r2_4 := (row_ext r2_3 e4)
  have r2_5 := (Puts.row p5 r2_4 (ne_of_old r2_3 l8))
  have r2_6 := (row_ext r2_5 e6)
  refine seq_store g2 _ (cat [#[.int .i64 0], #[.slice none 0 0], #[.slice none 0 0]]) 74 r2_6 rfl kj (run_store_row 74 _ _ g2 74 _ _ r2_6 rfl kj kj (isz (n := 3) kj kj) (eqsz (n := 3) kj kj) kj) fun W7 p7 r2_7 => ?_
  have x7 : Ext w W7 := Puts.ext p7 x6 b2
  refine seq_val (.iface 102 (.int .i64 3)) 5 rfl kj kj ?_
  refine seq_nil ?_
  refine hK13 _ _ ?_
  try clear hK13 K13
  refine wp_ret ?_
  repeat (first | with_reducible refine goR1 ?_ | with_reducible refine goR2 ?_)
  exact (show bodyPost _ _ _ .ret _ _ from ret2 (.agg (cat [#[.int .i64 0], #[.slice none 0 0], #[.slice none 0 0]])) (.iface 102 (.int .i64 3)) rfl (res_cell g2 74 _ r2_7 kj kj (isz (n := 3) kj kj)) (res_tmp kj) ⟨rfl, x7⟩)
set_option maxHeartbeats 4000000 in
theorem rTakeWelcome_A (xs : List Int) (a_y : Option Addr) (c_y : Nat) (w : World) (hyb : AreBytes xs) (hy : RdK .u8 w.heap.size xs (.slice a_y xs.length c_y) w) (hS : welcR (startS xs) = none) : Calls Try.prog 33 #[.slice a_y xs.length c_y] w (Ret w (.tuple #[.agg (cat [#[.int .i64 0], #[.slice none 0 0], #[.slice none 0 0]]), .iface 102 (.int .i64 3)])) := by
  refine enter 8 [(0, .slice a_y xs.length c_y)] Try.func33 rfl rfl kj rfl ?_
  refine wp_seq_k fun K1 hK1 => ?_
  refine region_lit ?_
  refine seq_alloc (cat [#[.int .i64 0], #[.slice none 0 0], #[.slice none 0 0]]) 74 2 rfl kj kj fun g2 W1 l2 e1 r2_1 => ?_
  have x1 : Ext w W1 := Ext.tr (Rely.Ext.refl w) e1
  have b2 : w.heap.size ≤ g2 := Nat.le_trans (Rely.Ext.refl w).size l2
  refine seq_val (.nilIface) 3 rfl kj kj ?_
  refine seq_nil ?_
  refine hK1 _ _ ?_
  try clear hK1 K1
  refine wp_seq_k fun K3 hK3 => ?_
  refine region_lit ?_
  refine seq_val (.slice a_y xs.length c_y) 4 rfl kj kj ?_
  refine seq_call (.tuple #[.agg (cat [#[.int .i64 0], #[.slice none 0 0], #[.slice none 0 0]]), .iface 102 (.int .i64 3)]) 79 #[.slice a_y xs.length c_y, .func (.func 80) #[] #[]] 5 rfl kj kj (rtakeWelcome_A xs _ _ _ hyb (RdK.here (RdK.ext hy x1)) hS) fun W2 e2 => ?_
  have x2 : Ext w W2 := Ext.tr x1 e2
  refine seq_val (.agg (cat [#[.int .i64 0], #[.slice none 0 0], #[.slice none 0 0]])) 6 rfl kj kj ?_
  refine seq_val (.iface 102 (.int .i64 3)) 7 rfl kj kj ?_
  have r2_2 := (row_ext r2_1 e2)
  refine seq_store g2 _ (cat [#[.int .i64 0], #[.slice none 0 0], #[.slice none 0 0]]) 74 r2_2 rfl kj (run_store_row 74 _ _ g2 74 _ _ r2_2 rfl kj kj (isz (n := 3) kj kj) (eqsz (n := 3) kj kj) kj) fun W3 p3 r2_3 => ?_
  have x3 : Ext w W3 := Puts.ext p3 x2 b2
  refine seq_val (.iface 102 (.int .i64 3)) 3 rfl kj kj ?_
  refine seq_nil ?_
  refine hK3 _ _ ?_
  try clear hK3 K3
  refine wp_ret ?_
  repeat (first | with_reducible refine goR1 ?_ | with_reducible refine goR2 ?_)
  exact (show bodyPost _ _ _ .ret _ _ from ret2 (.agg (cat [#[.int .i64 0], #[.slice none 0 0], #[.slice none 0 0]])) (.iface 102 (.int .i64 3)) rfl (res_cell g2 74 _ r2_3 kj kj (isz (n := 3) kj kj)) (res_tmp kj) ⟨rfl, x3⟩)
set_option maxHeartbeats 4000000 in
theorem rTakeWelcome_B (xs : List Int) (a_y : Option Addr) (c_y : Nat) (w : World) (hyb : AreBytes xs) (hy : RdK .u8 w.heap.size xs (.slice a_y xs.length c_y) w) (hS : welcR (startS xs) = some []) : Calls Try.prog 33 #[.slice a_y xs.length c_y] w (Gives w (fun v W => ∃ (a_s : Option Addr) (c_s : Nat) (a_i : Option Addr) (c_i : Nat), v = .tuple #[.agg (cat [#[.int .i64 (wNm (startS xs))], #[.slice a_s (wSe (startS xs)).length c_s], #[.slice a_i (wIn (startS xs)).length c_i]]), .nilIface] ∧ (OwnN .u8 5 w.heap.size (wSe (startS xs)) (.slice a_s (wSe (startS xs)).length c_s) W ∧ AreBytes (wSe (startS xs)) ∧ (wSe (startS xs)).length ≤ 65535) ∧ OwnN .u8 5 w.heap.size (wIn (startS xs)) (.slice a_i (wIn (startS xs)).length c_i) W ∧ AreBytes (wIn (startS xs)) ∧ (wIn (startS xs)).length ≤ 65535)) := by
  refine enter 8 [(0, .slice a_y xs.length c_y)] Try.func33 rfl rfl kj rfl ?_
  refine wp_seq_k fun K1 hK1 => ?_
  refine region_lit ?_
  refine seq_alloc (cat [#[.int .i64 0], #[.slice none 0 0], #[.slice none 0 0]]) 74 2 rfl kj kj fun g2 W1 l2 e1 r2_1 => ?_
  have x1 : Ext w W1 := Ext.tr (Rely.Ext.refl w) e1
  have b2 : w.heap.size ≤ g2 := Nat.le_trans (Rely.Ext.refl w).size l2
  refine seq_val (.nilIface) 3 rfl kj kj ?_
  refine seq_nil ?_
  refine hK1 _ _ ?_
  try clear hK1 K1
  refine wp_seq_k fun K3 hK3 => ?_
  refine region_lit ?_
  refine seq_val (.slice a_y xs.length c_y) 4 rfl kj kj ?_
  refine seq_callR (fun v W' => (fun v W => ∃ (a_s : Option Addr) (c_s : Nat) (a_i : Option Addr) (c_i : Nat), v = .tuple #[.agg (cat [#[.int .i64 (wNm (startS xs))], #[.slice a_s (wSe (startS xs)).length c_s], #[.slice a_i (wIn (startS xs)).length c_i]]), .nilIface] ∧ (OwnN .u8 5 W1.heap.size (wSe (startS xs)) (.slice a_s (wSe (startS xs)).length c_s) W ∧ AreBytes (wSe (startS xs)) ∧ (wSe (startS xs)).length ≤ 65535) ∧ OwnN .u8 5 W1.heap.size (wIn (startS xs)) (.slice a_i (wIn (startS xs)).length c_i) W ∧ AreBytes (wIn (startS xs)) ∧ (wIn (startS xs)).length ≤ 65535) v W' ∧ Ext W1 W') 79 #[.slice a_y xs.length c_y, .func (.func 80) #[] #[]] 5 rfl kj kj ((rtakeWelcome_B xs _ _ _ hyb (RdK.here (RdK.ext hy x1)) hS).mono (by rintro e w' ⟨v, rfl, e1, hv⟩; exact ⟨v, rfl, hv, e1⟩)) fun vv4 W2 hh4 => ?_
  obtain ⟨hv4, e2⟩ := hh4
  have x2 : Ext w W2 := Ext.tr x1 e2
  obtain ⟨a5wSe_, c5wSe_, a5wIn_, c5wIn_, rfl, ⟨ho5wSe, hb5wSe, hl5wSe⟩, ⟨ho5wIn, hb5wIn, hl5wIn⟩⟩ := hv4
  refine seq_val (.agg (cat [#[.int .i64 (wNm (startS xs))], #[.slice a5wSe_ ((wSe (startS xs)).length) c5wSe_], #[.slice a5wIn_ ((wIn (startS xs)).length) c5wIn_]])) 6 rfl kj kj ?_
  refine seq_val (.nilIface) 7 rfl kj kj ?_
  have r2_2 := (row_ext r2_1 e2)
  refine seq_store g2 _ (cat [#[.int .i64 (wNm (startS xs))], #[.slice a5wSe_ ((wSe (startS xs)).length) c5wSe_], #[.slice a5wIn_ ((wIn (startS xs)).length) c5wIn_]]) 74 r2_2 rfl kj (run_store_row 74 _ _ g2 74 _ _ r2_2 rfl kj kj (isz (n := 3) kj kj) (eqsz (n := 3) kj kj) kj) fun W3 p3 r2_3 => ?_
  have x3 : Ext w W3 := Puts.ext p3 x2 b2
  refine seq_val (.nilIface) 3 rfl kj kj ?_
  refine seq_nil ?_
  refine hK3 _ _ ?_
  try clear hK3 K3
  refine wp_ret ?_
  repeat (first | with_reducible refine goR1 ?_ | with_reducible refine goR2 ?_)
  have f6_3 := (ho5wSe.puts p3 (nb_old ho5wSe (row_lt r2_1)))
  have f7_3 := (ho5wIn.puts p3 (nb_old ho5wIn (row_lt r2_1)))
  exact (show bodyPost _ _ _ .ret _ _ from ret2 (.agg (cat [#[.int .i64 (wNm (startS xs))], #[.slice a5wSe_ ((wSe (startS xs)).length) c5wSe_], #[.slice a5wIn_ ((wIn (startS xs)).length) c5wIn_]])) (.nilIface) rfl (res_cell g2 74 _ r2_3 kj kj (isz (n := 3) kj kj)) (res_tmp kj) ⟨_, rfl, x3, _, _, _, _, rfl, ⟨OwnN.base x1.size f6_3, hb5wSe, hl5wSe⟩, ⟨OwnN.base x1.size f7_3, hb5wIn, hl5wIn⟩⟩)
set_option maxHeartbeats 4000000 in
theorem rTakeWelcome_C (xs : List Int) (a_y : Option Addr) (c_y : Nat) (w : World) (hyb : AreBytes xs) (hy : RdK .u8 w.heap.size xs (.slice a_y xs.length c_y) w) (y : Int) (ys : List Int) (hS : welcR (startS xs) = some (y :: ys)) : Calls Try.prog 33 #[.slice a_y xs.length c_y] w (Ret w (.tuple #[.agg (cat [#[.int .i64 0], #[.slice none 0 0], #[.slice none 0 0]]), .iface 102 (.int .i64 3)])) := by
  refine enter 8 [(0, .slice a_y xs.length c_y)] Try.func33 rfl rfl kj rfl ?_
  refine wp_seq_k fun K1 hK1 => ?_
  refine region_lit ?_
  refine seq_alloc (cat [#[.int .i64 0], #[.slice none 0 0], #[.slice none 0 0]]) 74 2 rfl kj kj fun g2 W1 l2 e1 r2_1 => ?_
  have x1 : Ext w W1 := Ext.tr (Rely.Ext.refl w) e1
  have b2 : w.heap.size ≤ g2 := Nat.le_trans (Rely.Ext.refl w).size l2
  refine seq_val (.nilIface) 3 rfl kj kj ?_
  refine seq_nil ?_
  refine hK1 _ _ ?_
  try clear hK1 K1
  refine wp_seq_k fun K3 hK3 => ?_
  refine region_lit ?_
  refine seq_val (.slice a_y xs.length c_y) 4 rfl kj kj ?_
  refine seq_call (.tuple #[.agg (cat [#[.int .i64 0], #[.slice none 0 0], #[.slice none 0 0]]), .iface 102 (.int .i64 3)]) 79 #[.slice a_y xs.length c_y, .func (.func 80) #[] #[]] 5 rfl kj kj (rtakeWelcome_C xs _ _ _ hyb (RdK.here (RdK.ext hy x1)) y ys hS) fun W2 e2 => ?_
  have x2 : Ext w W2 := Ext.tr x1 e2
  refine seq_val (.agg (cat [#[.int .i64 0], #[.slice none 0 0], #[.slice none 0 0]])) 6 rfl kj kj ?_
  refine seq_val (.iface 102 (.int .i64 3)) 7 rfl kj kj ?_
  have r2_2 := (row_ext r2_1 e2)
  refine seq_store g2 _ (cat [#[.int .i64 0], #[.slice none 0 0], #[.slice none 0 0]]) 74 r2_2 rfl kj (run_store_row 74 _ _ g2 74 _ _ r2_2 rfl kj kj (isz (n := 3) kj kj) (eqsz (n := 3) kj kj) kj) fun W3 p3 r2_3 => ?_
  have x3 : Ext w W3 := Puts.ext p3 x2 b2
  refine seq_val (.iface 102 (.int .i64 3)) 3 rfl kj kj ?_
  refine seq_nil ?_
  refine hK3 _ _ ?_
  try clear hK3 K3
  refine wp_ret ?_
  repeat (first | with_reducible refine goR1 ?_ | with_reducible refine goR2 ?_)
  exact (show bodyPost _ _ _ .ret _ _ from ret2 (.agg (cat [#[.int .i64 0], #[.slice none 0 0], #[.slice none 0 0]])) (.iface 102 (.int .i64 3)) rfl (res_cell g2 74 _ r2_3 kj kj (isz (n := 3) kj kj)) (res_tmp kj) ⟨rfl, x3⟩)
theorem rTakeWelcomeN (xs : List Int) (a_y : Option Addr) (c_y : Nat) (w : World) (hyb : AreBytes xs) (hy : RdK .u8 w.heap.size xs (.slice a_y xs.length c_y) w) (hS : welcR (startS xs) ≠ some []) : Calls Try.prog 33 #[.slice a_y xs.length c_y] w (Ret w (.tuple #[.agg (cat [#[.int .i64 0], #[.slice none 0 0], #[.slice none 0 0]]), .iface 102 (.int .i64 3)])) := by
  cases h : welcR (startS xs) with
  | none => exact rTakeWelcome_A xs a_y c_y w hyb hy h
  | some l => cases l with
    | nil => exact absurd h hS
    | cons y ys => exact rTakeWelcome_C xs a_y c_y w hyb hy y ys h

end Go.Proofs.Ytfelfmchachljaa.Wr
