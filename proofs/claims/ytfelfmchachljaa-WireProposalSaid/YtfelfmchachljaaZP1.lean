/- Texts of this claim, joined (P1). -/
import Derived.Test.YtfelfmchachljaaZP0

section
namespace Go.Proofs.Ytfelfmchachljaa.Wr
open Go Go.RowKit
open Rely Auto Own Sha
set_option linter.unusedVariables false
set_option linter.unusedSimpArgs false
def Qai (xs : List Int) : Option (List Int) := bif decide ((65536 : Int) < ((xs.length : Nat) : Int)) then none else some xs
theorem Qbf (s : Option (List Int)) : (pGrp s).length = 32 := Qan _ (Qam s 32)
theorem ExtB.toExt {g : Nat} {u w W : World} (h : Ext u w) (q : ExtB g w W) (hg : u.heap.size ≤ g) : Ext u W :=
  ⟨q.1.trans h.os, q.2.1.trans h.tape, q.2.2.1.trans h.output, Nat.le_trans h.size q.2.2.2.1, fun k hk => (q.2.2.2.2 k (Nat.lt_of_lt_of_le hk h.size) (by omega)).trans (h.block k hk)⟩
set_option maxHeartbeats 4000000 in
theorem Qdg (xs : List Int) (a_y : Option Addr) (c_y : Nat) (w : World) (hyb : Qag xs) (hy : RdK .u8 w.heap.size xs (.slice a_y xs.length c_y) w) (hS : Qc1 (Qai xs) = none) : Calls Try.prog 83 #[.slice a_y xs.length c_y, .func (.func 84) #[] #[]] w (Ret w (.tuple #[.agg (cat [(Array.replicate 32 (.int .u8 0)), #[.int .i64 0], #[.int .i64 0], #[.int .i64 0], #[.slice none 0 0]]), .iface 102 (.int .i64 3)])) := by
  refine enter 33 [(0, .slice a_y xs.length c_y), (1, .func (.func 84) #[] #[])] Try.func83 rfl rfl kj rfl ?_
  refine wp_seq_k fun K1 hK1 => ?_
  refine Qae ?_
  refine Qav (cat [(Array.replicate 32 (.int .u8 0)), #[.int .i64 0], #[.int .i64 0], #[.int .i64 0], #[.slice none 0 0]]) 81 4 rfl kj kj fun g2 W1 l2 e1 r2_1 => ?_
  have x1 : Ext w W1 := Ext.tr (Rely.Ext.refl w) e1
  have b2 : w.heap.size ≤ g2 := Nat.le_trans (Rely.Ext.refl w).size l2
  refine Qab (.nilIface) 5 rfl kj kj ?_
  refine Qaf ?_
  refine hK1 _ _ ?_
  refine wp_seq_k fun K3 hK3 => ?_
  refine Qae ?_
  refine Qab (.slice a_y xs.length c_y) 9 rfl kj kj ?_
  refine Qab (.slice a_y xs.length c_y) 10 rfl kj kj ?_
  refine Qab (.int .i64 ((xs.length : Nat) : Int)) 11 rfl kj kj ?_
  refine Qab (.bool (decide (((xs.length : Nat) : Int) > 65536))) 12 rfl kj kj ?_
  refine Qab (.agg (cat [#[.slice a_y xs.length c_y], #[.bool (decide (((xs.length : Nat) : Int) > 65536))]])) 13 rfl kj kj ?_
  refine Qav (cat [#[.slice a_y xs.length c_y], #[.bool (decide (((xs.length : Nat) : Int) > 65536))]]) 179 14 rfl kj kj fun g4 W2 l4 e2 r4_2 => ?_
  have x2 : Ext w W2 := Ext.tr x1 e2
  have b4 : w.heap.size ≤ g4 := Nat.le_trans x1.size l4
  refine Qab (.pointer (some ⟨g4, 0, none⟩)) 6 rfl kj kj ?_
  refine Qaf ?_
  refine hK3 _ _ ?_
  refine wp_seq_k fun K5 hK5 => ?_
  refine Qae ?_
  refine Qab (.func (.func 84) #[] #[]) 15 rfl kj kj ?_
  refine Qab (.pointer (some ⟨g4, 0, none⟩)) 16 rfl kj kj ?_
  refine Qal (fun v W' => ExtB g4 W2 W' ∧ RSt w.heap.size g4 (Qc1 (Qai xs)) W' ∧ ∃ (a_s : Option Addr) (c_s : Nat), v = .agg (cat [ints .u8 (pGrp (Qai xs)), #[.int .i64 (pEp (Qai xs))], #[.int .i64 (pFr (Qai xs))], #[.int .i64 (pNo (Qai xs))], #[.slice a_s (pSe (Qai xs)).length c_s]]) ∧ OwnN .u8 5 W2.heap.size (pSe (Qai xs)) (.slice a_s (pSe (Qai xs)).length c_s) W' ∧ Qag (pSe (Qai xs)) ∧ (pSe (Qai xs)).length ≤ 65535) 84 #[.pointer (some ⟨g4, 0, none⟩)] 17 rfl kj kj (Qdh w.heap.size g4 (Qai xs) _ b4 ⟨_, xs, _, r4_2, RdK.ext hy x2, hyb, rfl⟩) fun vv6 W3 hh6 => ?_
  obtain ⟨q3, ⟨u6, xs2, bad, rb3, hu6, -, hS2⟩, hv6⟩ := hh6
  rw [hS] at hS2
  obtain ⟨au_, cu_, rfl, -⟩ := id hu6
  obtain rfl : bad = true := by cases bad with | true => rfl | false => cases hS2
  have rc3 : W3.heap[g4]? = some (.cells (cat [#[.slice au_ xs2.length cu_], #[.bool true]]) 179) := rb3
  have x3 : Ext w W3 := ExtB.toExt x2 q3 b4
  obtain ⟨a7pSe_, c7pSe_, rfl, ⟨ho7pSe, hb7pSe, hl7pSe⟩⟩ := hv6
  refine Qav (cat [(Array.replicate 32 (.int .u8 0)), #[.int .i64 0], #[.int .i64 0], #[.int .i64 0], #[.slice none 0 0]]) 81 7 rfl kj kj fun g8 W4 l8 e4 r8_4 => ?_
  have x4 : Ext w W4 := Ext.tr x3 e4
  have b8 : w.heap.size ≤ g8 := Nat.le_trans x3.size l8
  refine Qa2 g8 _ (cat [ints .u8 (pGrp (Qai xs)), #[.int .i64 (pEp (Qai xs))], #[.int .i64 (pFr (Qai xs))], #[.int .i64 (pNo (Qai xs))], #[.slice a7pSe_ ((pSe (Qai xs)).length) c7pSe_]]) 81 r8_4 rfl kj (Qaz 81 _ _ g8 81 _ _ r8_4 rfl kj kj (isz (n := 36) kj (by rw [Qaa, Qaa, Qaa, Qaa, Qaa]; simp only [Array.size_append, cat, ((Qac _ _).trans (Qbf (Qai xs)))]; rfl)) (eqsz (n := 36) kj (by rw [Qaa, Qaa, Qaa, Qaa, Qaa]; simp only [Array.size_append, cat, ((Qac _ _).trans (Qbf (Qai xs)))]; rfl)) (QaP _ (by intro a ha; simp only [List.mem_cons, List.not_mem_nil, or_false] at ha; rcases ha with rfl | rfl | rfl | rfl | rfl; exact (Qat _ _); exact (Qaq _ rfl); exact (Qaq _ rfl); exact (Qaq _ rfl); exact (Qaq _ rfl)))) fun W5 p5 r8_5 => ?_
  have x5 : Ext w W5 := Puts.ext p5 x4 b8
  refine Qaf ?_
  refine hK5 _ _ ?_
  refine wp_seq_k fun K9 hK9 => ?_
  refine wp_seq_k fun K10 hK10 => ?_
  refine Qae ?_
  refine Qab (.pointer (some ⟨g4, 0, none⟩)) 18 rfl kj kj ?_
  refine Qab (.pointer (some ⟨g4, 0, none⟩)) 19 rfl kj kj ?_
  refine Qab (.pointer (some ⟨g4, 1, none⟩)) 20 rfl kj kj ?_
  have r4_4 := (Qas rc3 e4)
  have r4_5 := (Puts.row p5 r4_4 (QaA rc3 l8))
  refine Qab (.bool true) 21 rfl kj (Qah 4 _ g4 1 179 _ (.bool true) _ r4_5 rfl kj kj kj) ?_
  refine Qab (.bool true) 22 rfl kj kj ?_
  refine Qap 23 rfl kj ?_
  refine Qap 24 rfl kj ?_
  refine Qap 25 rfl kj ?_
  refine Qap 26 rfl kj ?_
  refine Qap 27 rfl kj ?_
  refine Qap 28 rfl kj ?_
  refine Qab (.bool true) 29 rfl kj kj ?_
  refine Qaf ?_
  refine hK10 _ _ ?_
  refine cond_true kj ?_
  refine wp_seq_k fun K11 hK11 => ?_
  refine Qae ?_
  refine Qav (cat [(Array.replicate 32 (.int .u8 0)), #[.int .i64 0], #[.int .i64 0], #[.int .i64 0], #[.slice none 0 0]]) 81 8 rfl kj kj fun g12 W6 l12 e6 r12_6 => ?_
  have x6 : Ext w W6 := Ext.tr x5 e6
  have b12 : w.heap.size ≤ g12 := Nat.le_trans x5.size l12
  refine Qaf ?_
  refine hK11 _ _ ?_
  refine wp_seq_k fun K13 hK13 => ?_
  refine Qae ?_
  refine Qab (.agg (cat [(Array.replicate 32 (.int .u8 0)), #[.int .i64 0], #[.int .i64 0], #[.int .i64 0], #[.slice none 0 0]])) 30 rfl kj (Qa4 81 _ g12 81 _ _ r12_6 rfl kj kj (isz (n := 36) kj kj)) ?_
  refine Qab (.iface 102 (.int .i64 3)) 31 rfl kj kj ?_
  have r2_2 := (Qas r2_1 e2)
  have r2_3 := (ExtB.row q3 r2_2 (QaA r2_1 l4))
  have r2_4 := (Qas r2_3 e4)
  have r2_5 := (Puts.row p5 r2_4 (QaA r2_3 l8))
  have r2_6 := (Qas r2_5 e6)
  refine Qa2 g2 _ (cat [(Array.replicate 32 (.int .u8 0)), #[.int .i64 0], #[.int .i64 0], #[.int .i64 0], #[.slice none 0 0]]) 81 r2_6 rfl kj (Qaz 81 _ _ g2 81 _ _ r2_6 rfl kj kj (isz (n := 36) kj kj) (eqsz (n := 36) kj kj) kj) fun W7 p7 r2_7 => ?_
  have x7 : Ext w W7 := Puts.ext p7 x6 b2
  refine Qab (.iface 102 (.int .i64 3)) 5 rfl kj kj ?_
  refine Qaf ?_
  refine hK13 _ _ ?_
  refine wp_ret ?_
  repeat (first | with_reducible refine goR1 ?_ | with_reducible refine goR2 ?_)
  exact (show bodyPost _ _ _ .ret _ _ from ret2 (.agg (cat [(Array.replicate 32 (.int .u8 0)), #[.int .i64 0], #[.int .i64 0], #[.int .i64 0], #[.slice none 0 0]])) (.iface 102 (.int .i64 3)) rfl (QaW g2 81 _ r2_7 kj kj (isz (n := 36) kj kj)) (Qaw kj) ⟨rfl, x7⟩)
set_option maxHeartbeats 4000000 in
theorem Qdf (xs : List Int) (a_y : Option Addr) (c_y : Nat) (w : World) (hyb : Qag xs) (hy : RdK .u8 w.heap.size xs (.slice a_y xs.length c_y) w) (hS : Qc1 (Qai xs) = some []) : Calls Try.prog 83 #[.slice a_y xs.length c_y, .func (.func 84) #[] #[]] w (Qb1 w (fun v W => ∃ (a_s : Option Addr) (c_s : Nat), v = .tuple #[.agg (cat [ints .u8 (pGrp (Qai xs)), #[.int .i64 (pEp (Qai xs))], #[.int .i64 (pFr (Qai xs))], #[.int .i64 (pNo (Qai xs))], #[.slice a_s (pSe (Qai xs)).length c_s]]), .nilIface] ∧ OwnN .u8 5 w.heap.size (pSe (Qai xs)) (.slice a_s (pSe (Qai xs)).length c_s) W ∧ Qag (pSe (Qai xs)) ∧ (pSe (Qai xs)).length ≤ 65535)) := by
  refine enter 33 [(0, .slice a_y xs.length c_y), (1, .func (.func 84) #[] #[])] Try.func83 rfl rfl kj rfl ?_
  refine wp_seq_k fun K1 hK1 => ?_
  refine Qae ?_
  refine Qav (cat [(Array.replicate 32 (.int .u8 0)), #[.int .i64 0], #[.int .i64 0], #[.int .i64 0], #[.slice none 0 0]]) 81 4 rfl kj kj fun g2 W1 l2 e1 r2_1 => ?_
  have x1 : Ext w W1 := Ext.tr (Rely.Ext.refl w) e1
  have b2 : w.heap.size ≤ g2 := Nat.le_trans (Rely.Ext.refl w).size l2
  refine Qab (.nilIface) 5 rfl kj kj ?_
  refine Qaf ?_
  refine hK1 _ _ ?_
  refine wp_seq_k fun K3 hK3 => ?_
  refine Qae ?_
  refine Qab (.slice a_y xs.length c_y) 9 rfl kj kj ?_
  refine Qab (.slice a_y xs.length c_y) 10 rfl kj kj ?_
  refine Qab (.int .i64 ((xs.length : Nat) : Int)) 11 rfl kj kj ?_
  refine Qab (.bool (decide (((xs.length : Nat) : Int) > 65536))) 12 rfl kj kj ?_
  refine Qab (.agg (cat [#[.slice a_y xs.length c_y], #[.bool (decide (((xs.length : Nat) : Int) > 65536))]])) 13 rfl kj kj ?_
  refine Qav (cat [#[.slice a_y xs.length c_y], #[.bool (decide (((xs.length : Nat) : Int) > 65536))]]) 179 14 rfl kj kj fun g4 W2 l4 e2 r4_2 => ?_
  have x2 : Ext w W2 := Ext.tr x1 e2
  have b4 : w.heap.size ≤ g4 := Nat.le_trans x1.size l4
  refine Qab (.pointer (some ⟨g4, 0, none⟩)) 6 rfl kj kj ?_
  refine Qaf ?_
  refine hK3 _ _ ?_
  refine wp_seq_k fun K5 hK5 => ?_
  refine Qae ?_
  refine Qab (.func (.func 84) #[] #[]) 15 rfl kj kj ?_
  refine Qab (.pointer (some ⟨g4, 0, none⟩)) 16 rfl kj kj ?_
  refine Qal (fun v W' => ExtB g4 W2 W' ∧ RSt w.heap.size g4 (Qc1 (Qai xs)) W' ∧ ∃ (a_s : Option Addr) (c_s : Nat), v = .agg (cat [ints .u8 (pGrp (Qai xs)), #[.int .i64 (pEp (Qai xs))], #[.int .i64 (pFr (Qai xs))], #[.int .i64 (pNo (Qai xs))], #[.slice a_s (pSe (Qai xs)).length c_s]]) ∧ OwnN .u8 5 W2.heap.size (pSe (Qai xs)) (.slice a_s (pSe (Qai xs)).length c_s) W' ∧ Qag (pSe (Qai xs)) ∧ (pSe (Qai xs)).length ≤ 65535) 84 #[.pointer (some ⟨g4, 0, none⟩)] 17 rfl kj kj (Qdh w.heap.size g4 (Qai xs) _ b4 ⟨_, xs, _, r4_2, RdK.ext hy x2, hyb, rfl⟩) fun vv6 W3 hh6 => ?_
  obtain ⟨q3, ⟨u6, xs2, bad, rb3, hu6, -, hS2⟩, hv6⟩ := hh6
  rw [hS] at hS2
  obtain ⟨au_, cu_, rfl, -⟩ := id hu6
  obtain ⟨rfl, rfl⟩ : bad = false ∧ xs2 = [] := by cases bad with | true => cases hS2 | false => exact ⟨rfl, (Option.some.inj hS2).symm⟩
  have rc3 : W3.heap[g4]? = some (.cells (cat [#[.slice au_ 0 cu_], #[.bool false]]) 179) := rb3
  have x3 : Ext w W3 := ExtB.toExt x2 q3 b4
  obtain ⟨a7pSe_, c7pSe_, rfl, ⟨ho7pSe, hb7pSe, hl7pSe⟩⟩ := hv6
  refine Qav (cat [(Array.replicate 32 (.int .u8 0)), #[.int .i64 0], #[.int .i64 0], #[.int .i64 0], #[.slice none 0 0]]) 81 7 rfl kj kj fun g8 W4 l8 e4 r8_4 => ?_
  have x4 : Ext w W4 := Ext.tr x3 e4
  have b8 : w.heap.size ≤ g8 := Nat.le_trans x3.size l8
  refine Qa2 g8 _ (cat [ints .u8 (pGrp (Qai xs)), #[.int .i64 (pEp (Qai xs))], #[.int .i64 (pFr (Qai xs))], #[.int .i64 (pNo (Qai xs))], #[.slice a7pSe_ ((pSe (Qai xs)).length) c7pSe_]]) 81 r8_4 rfl kj (Qaz 81 _ _ g8 81 _ _ r8_4 rfl kj kj (isz (n := 36) kj (by rw [Qaa, Qaa, Qaa, Qaa, Qaa]; simp only [Array.size_append, cat, ((Qac _ _).trans (Qbf (Qai xs)))]; rfl)) (eqsz (n := 36) kj (by rw [Qaa, Qaa, Qaa, Qaa, Qaa]; simp only [Array.size_append, cat, ((Qac _ _).trans (Qbf (Qai xs)))]; rfl)) (QaP _ (by intro a ha; simp only [List.mem_cons, List.not_mem_nil, or_false] at ha; rcases ha with rfl | rfl | rfl | rfl | rfl; exact (Qat _ _); exact (Qaq _ rfl); exact (Qaq _ rfl); exact (Qaq _ rfl); exact (Qaq _ rfl)))) fun W5 p5 r8_5 => ?_
  have x5 : Ext w W5 := Puts.ext p5 x4 b8
  refine Qaf ?_
  refine hK5 _ _ ?_
  refine wp_seq_k fun K9 hK9 => ?_
  refine wp_seq_k fun K10 hK10 => ?_
  refine Qae ?_
  refine Qab (.pointer (some ⟨g4, 0, none⟩)) 18 rfl kj kj ?_
  refine Qab (.pointer (some ⟨g4, 0, none⟩)) 19 rfl kj kj ?_
  refine Qab (.pointer (some ⟨g4, 1, none⟩)) 20 rfl kj kj ?_
  have r4_4 := (Qas rc3 e4)
  have r4_5 := (Puts.row p5 r4_4 (QaA rc3 l8))
  refine Qab (.bool false) 21 rfl kj (Qah 4 _ g4 1 179 _ (.bool false) _ r4_5 rfl kj kj kj) ?_
  refine Qab (.bool false) 22 rfl kj kj ?_
  refine Qab (.pointer (some ⟨g4, 0, none⟩)) 23 rfl kj kj ?_
  refine Qab (.pointer (some ⟨g4, 0, none⟩)) 24 rfl kj kj ?_
  refine Qab (.pointer (some ⟨g4, 0, none⟩)) 25 rfl kj kj ?_
  refine Qab (.slice au_ 0 cu_) 26 rfl kj (Qah 26 _ g4 0 179 _ (.slice au_ 0 cu_) _ r4_5 rfl kj kj kj) ?_
  refine Qab (.int .i64 0) 27 rfl kj kj ?_
  refine Qab (.bool false) 28 rfl kj kj ?_
  refine Qab (.bool false) 29 rfl kj kj ?_
  refine Qaf ?_
  refine hK10 _ _ ?_
  refine cond_false kj ?_
  refine wp_skip ?_
  refine hK9 _ _ ?_
  refine wp_seq_k fun K11 hK11 => ?_
  refine Qae ?_
  refine Qab (.agg (cat [ints .u8 (pGrp (Qai xs)), #[.int .i64 (pEp (Qai xs))], #[.int .i64 (pFr (Qai xs))], #[.int .i64 (pNo (Qai xs))], #[.slice a7pSe_ ((pSe (Qai xs)).length) c7pSe_]])) 32 rfl kj (Qa4 81 _ g8 81 _ _ r8_5 rfl kj kj (isz (n := 36) kj (by rw [Qaa, Qaa, Qaa, Qaa, Qaa]; simp only [Array.size_append, cat, ((Qac _ _).trans (Qbf (Qai xs)))]; rfl))) ?_
  have r2_2 := (Qas r2_1 e2)
  have r2_3 := (ExtB.row q3 r2_2 (QaA r2_1 l4))
  have r2_4 := (Qas r2_3 e4)
  have r2_5 := (Puts.row p5 r2_4 (QaA r2_3 l8))
  refine Qa2 g2 _ (cat [ints .u8 (pGrp (Qai xs)), #[.int .i64 (pEp (Qai xs))], #[.int .i64 (pFr (Qai xs))], #[.int .i64 (pNo (Qai xs))], #[.slice a7pSe_ ((pSe (Qai xs)).length) c7pSe_]]) 81 r2_5 rfl kj (Qaz 81 _ _ g2 81 _ _ r2_5 rfl kj kj (isz (n := 36) kj (by rw [Qaa, Qaa, Qaa, Qaa, Qaa]; simp only [Array.size_append, cat, ((Qac _ _).trans (Qbf (Qai xs)))]; rfl)) (eqsz (n := 36) kj (by rw [Qaa, Qaa, Qaa, Qaa, Qaa]; simp only [Array.size_append, cat, ((Qac _ _).trans (Qbf (Qai xs)))]; rfl)) (QaP _ (by intro a ha; simp only [List.mem_cons, List.not_mem_nil, or_false] at ha; rcases ha with rfl | rfl | rfl | rfl | rfl; exact (Qat _ _); exact (Qaq _ rfl); exact (Qaq _ rfl); exact (Qaq _ rfl); exact (Qaq _ rfl)))) fun W6 p6 r2_6 => ?_
  have x6 : Ext w W6 := Puts.ext p6 x5 b2
  refine Qab (.nilIface) 5 rfl kj kj ?_
  refine Qaf ?_
  refine hK11 _ _ ?_
  refine wp_ret ?_
  repeat (first | with_reducible refine goR1 ?_ | with_reducible refine goR2 ?_)
  have f12_4 := (ho7pSe.ext e4)
  have f13_5 := (f12_4.puts p5 (Qcy ho7pSe l8))
  have f14_6 := (f13_5.puts p6 (QaV ho7pSe (Qay r2_2)))
  exact (show bodyPost _ _ _ .ret _ _ from ret2 (.agg (cat [ints .u8 (pGrp (Qai xs)), #[.int .i64 (pEp (Qai xs))], #[.int .i64 (pFr (Qai xs))], #[.int .i64 (pNo (Qai xs))], #[.slice a7pSe_ ((pSe (Qai xs)).length) c7pSe_]])) (.nilIface) rfl (QaW g2 81 _ r2_6 kj kj (isz (n := 36) kj (by rw [Qaa, Qaa, Qaa, Qaa, Qaa]; simp only [Array.size_append, cat, ((Qac _ _).trans (Qbf (Qai xs)))]; rfl))) (Qaw kj) ⟨_, rfl, x6, _, _, rfl, ⟨OwnN.base x2.size f14_6, hb7pSe, hl7pSe⟩⟩)
set_option maxHeartbeats 4000000 in
theorem Qde (xs : List Int) (a_y : Option Addr) (c_y : Nat) (w : World) (hyb : Qag xs) (hy : RdK .u8 w.heap.size xs (.slice a_y xs.length c_y) w) (y : Int) (ys : List Int) (hS : Qc1 (Qai xs) = some (y :: ys)) : Calls Try.prog 83 #[.slice a_y xs.length c_y, .func (.func 84) #[] #[]] w (Ret w (.tuple #[.agg (cat [(Array.replicate 32 (.int .u8 0)), #[.int .i64 0], #[.int .i64 0], #[.int .i64 0], #[.slice none 0 0]]), .iface 102 (.int .i64 3)])) := by
  refine enter 33 [(0, .slice a_y xs.length c_y), (1, .func (.func 84) #[] #[])] Try.func83 rfl rfl kj rfl ?_
  refine wp_seq_k fun K1 hK1 => ?_
  refine Qae ?_
  refine Qav (cat [(Array.replicate 32 (.int .u8 0)), #[.int .i64 0], #[.int .i64 0], #[.int .i64 0], #[.slice none 0 0]]) 81 4 rfl kj kj fun g2 W1 l2 e1 r2_1 => ?_
  have x1 : Ext w W1 := Ext.tr (Rely.Ext.refl w) e1
  have b2 : w.heap.size ≤ g2 := Nat.le_trans (Rely.Ext.refl w).size l2
  refine Qab (.nilIface) 5 rfl kj kj ?_
  refine Qaf ?_
  refine hK1 _ _ ?_
  refine wp_seq_k fun K3 hK3 => ?_
  refine Qae ?_
  refine Qab (.slice a_y xs.length c_y) 9 rfl kj kj ?_
  refine Qab (.slice a_y xs.length c_y) 10 rfl kj kj ?_
  refine Qab (.int .i64 ((xs.length : Nat) : Int)) 11 rfl kj kj ?_
  refine Qab (.bool (decide (((xs.length : Nat) : Int) > 65536))) 12 rfl kj kj ?_
  refine Qab (.agg (cat [#[.slice a_y xs.length c_y], #[.bool (decide (((xs.length : Nat) : Int) > 65536))]])) 13 rfl kj kj ?_
  refine Qav (cat [#[.slice a_y xs.length c_y], #[.bool (decide (((xs.length : Nat) : Int) > 65536))]]) 179 14 rfl kj kj fun g4 W2 l4 e2 r4_2 => ?_
  have x2 : Ext w W2 := Ext.tr x1 e2
  have b4 : w.heap.size ≤ g4 := Nat.le_trans x1.size l4
  refine Qab (.pointer (some ⟨g4, 0, none⟩)) 6 rfl kj kj ?_
  refine Qaf ?_
  refine hK3 _ _ ?_
  refine wp_seq_k fun K5 hK5 => ?_
  refine Qae ?_
  refine Qab (.func (.func 84) #[] #[]) 15 rfl kj kj ?_
  refine Qab (.pointer (some ⟨g4, 0, none⟩)) 16 rfl kj kj ?_
  refine Qal (fun v W' => ExtB g4 W2 W' ∧ RSt w.heap.size g4 (Qc1 (Qai xs)) W' ∧ ∃ (a_s : Option Addr) (c_s : Nat), v = .agg (cat [ints .u8 (pGrp (Qai xs)), #[.int .i64 (pEp (Qai xs))], #[.int .i64 (pFr (Qai xs))], #[.int .i64 (pNo (Qai xs))], #[.slice a_s (pSe (Qai xs)).length c_s]]) ∧ OwnN .u8 5 W2.heap.size (pSe (Qai xs)) (.slice a_s (pSe (Qai xs)).length c_s) W' ∧ Qag (pSe (Qai xs)) ∧ (pSe (Qai xs)).length ≤ 65535) 84 #[.pointer (some ⟨g4, 0, none⟩)] 17 rfl kj kj (Qdh w.heap.size g4 (Qai xs) _ b4 ⟨_, xs, _, r4_2, RdK.ext hy x2, hyb, rfl⟩) fun vv6 W3 hh6 => ?_
  obtain ⟨q3, ⟨u6, xs2, bad, rb3, hu6, -, hS2⟩, hv6⟩ := hh6
  rw [hS] at hS2
  obtain ⟨au_, cu_, rfl, -⟩ := id hu6
  obtain ⟨rfl, rfl⟩ : bad = false ∧ xs2 = y :: ys := by cases bad with | true => cases hS2 | false => exact ⟨rfl, (Option.some.inj hS2).symm⟩
  have rc3 : W3.heap[g4]? = some (.cells (cat [#[.slice au_ ((y :: ys).length) cu_], #[.bool false]]) 179) := rb3
  have x3 : Ext w W3 := ExtB.toExt x2 q3 b4
  obtain ⟨a7pSe_, c7pSe_, rfl, ⟨ho7pSe, hb7pSe, hl7pSe⟩⟩ := hv6
  refine Qav (cat [(Array.replicate 32 (.int .u8 0)), #[.int .i64 0], #[.int .i64 0], #[.int .i64 0], #[.slice none 0 0]]) 81 7 rfl kj kj fun g8 W4 l8 e4 r8_4 => ?_
  have x4 : Ext w W4 := Ext.tr x3 e4
  have b8 : w.heap.size ≤ g8 := Nat.le_trans x3.size l8
  refine Qa2 g8 _ (cat [ints .u8 (pGrp (Qai xs)), #[.int .i64 (pEp (Qai xs))], #[.int .i64 (pFr (Qai xs))], #[.int .i64 (pNo (Qai xs))], #[.slice a7pSe_ ((pSe (Qai xs)).length) c7pSe_]]) 81 r8_4 rfl kj (Qaz 81 _ _ g8 81 _ _ r8_4 rfl kj kj (isz (n := 36) kj (by rw [Qaa, Qaa, Qaa, Qaa, Qaa]; simp only [Array.size_append, cat, ((Qac _ _).trans (Qbf (Qai xs)))]; rfl)) (eqsz (n := 36) kj (by rw [Qaa, Qaa, Qaa, Qaa, Qaa]; simp only [Array.size_append, cat, ((Qac _ _).trans (Qbf (Qai xs)))]; rfl)) (QaP _ (by intro a ha; simp only [List.mem_cons, List.not_mem_nil, or_false] at ha; rcases ha with rfl | rfl | rfl | rfl | rfl; exact (Qat _ _); exact (Qaq _ rfl); exact (Qaq _ rfl); exact (Qaq _ rfl); exact (Qaq _ rfl)))) fun W5 p5 r8_5 => ?_
  have x5 : Ext w W5 := Puts.ext p5 x4 b8
  refine Qaf ?_
  refine hK5 _ _ ?_
  refine wp_seq_k fun K9 hK9 => ?_
  refine wp_seq_k fun K10 hK10 => ?_
  refine Qae ?_
  refine Qab (.pointer (some ⟨g4, 0, none⟩)) 18 rfl kj kj ?_
  refine Qab (.pointer (some ⟨g4, 0, none⟩)) 19 rfl kj kj ?_
  refine Qab (.pointer (some ⟨g4, 1, none⟩)) 20 rfl kj kj ?_
  have r4_4 := (Qas rc3 e4)
  have r4_5 := (Puts.row p5 r4_4 (QaA rc3 l8))
  refine Qab (.bool false) 21 rfl kj (Qah 4 _ g4 1 179 _ (.bool false) _ r4_5 rfl kj kj kj) ?_
  refine Qab (.bool false) 22 rfl kj kj ?_
  refine Qab (.pointer (some ⟨g4, 0, none⟩)) 23 rfl kj kj ?_
  refine Qab (.pointer (some ⟨g4, 0, none⟩)) 24 rfl kj kj ?_
  refine Qab (.pointer (some ⟨g4, 0, none⟩)) 25 rfl kj kj ?_
  refine Qab (.slice au_ ((y :: ys).length) cu_) 26 rfl kj (Qah 26 _ g4 0 179 _ (.slice au_ ((y :: ys).length) cu_) _ r4_5 rfl kj kj kj) ?_
  refine Qab (.int .i64 (((y :: ys).length : Nat) : Int)) 27 rfl kj kj ?_
  refine Qab (.bool true) 28 rfl kj (Qax (u := .bool (decide ((((y :: ys).length : Nat) : Int) > 0))) kj (congrArg Value.bool (decide_eq_true (by simp only [List.length_cons]; omega)))) ?_
  refine Qab (.bool true) 29 rfl kj kj ?_
  refine Qaf ?_
  refine hK10 _ _ ?_
  refine cond_true kj ?_
  refine wp_seq_k fun K11 hK11 => ?_
  refine Qae ?_
  refine Qav (cat [(Array.replicate 32 (.int .u8 0)), #[.int .i64 0], #[.int .i64 0], #[.int .i64 0], #[.slice none 0 0]]) 81 8 rfl kj kj fun g12 W6 l12 e6 r12_6 => ?_
  have x6 : Ext w W6 := Ext.tr x5 e6
  have b12 : w.heap.size ≤ g12 := Nat.le_trans x5.size l12
  refine Qaf ?_
  refine hK11 _ _ ?_
  refine wp_seq_k fun K13 hK13 => ?_
  refine Qae ?_
  refine Qab (.agg (cat [(Array.replicate 32 (.int .u8 0)), #[.int .i64 0], #[.int .i64 0], #[.int .i64 0], #[.slice none 0 0]])) 30 rfl kj (Qa4 81 _ g12 81 _ _ r12_6 rfl kj kj (isz (n := 36) kj kj)) ?_
  refine Qab (.iface 102 (.int .i64 3)) 31 rfl kj kj ?_
  have r2_2 := (Qas r2_1 e2)
  have r2_3 := (ExtB.row q3 r2_2 (QaA r2_1 l4))
  have r2_4 := (Qas r2_3 e4)
  have r2_5 := (Puts.row p5 r2_4 (QaA r2_3 l8))
  have r2_6 := (Qas r2_5 e6)
  refine Qa2 g2 _ (cat [(Array.replicate 32 (.int .u8 0)), #[.int .i64 0], #[.int .i64 0], #[.int .i64 0], #[.slice none 0 0]]) 81 r2_6 rfl kj (Qaz 81 _ _ g2 81 _ _ r2_6 rfl kj kj (isz (n := 36) kj kj) (eqsz (n := 36) kj kj) kj) fun W7 p7 r2_7 => ?_
  have x7 : Ext w W7 := Puts.ext p7 x6 b2
  refine Qab (.iface 102 (.int .i64 3)) 5 rfl kj kj ?_
  refine Qaf ?_
  refine hK13 _ _ ?_
  refine wp_ret ?_
  repeat (first | with_reducible refine goR1 ?_ | with_reducible refine goR2 ?_)
  exact (show bodyPost _ _ _ .ret _ _ from ret2 (.agg (cat [(Array.replicate 32 (.int .u8 0)), #[.int .i64 0], #[.int .i64 0], #[.int .i64 0], #[.slice none 0 0]])) (.iface 102 (.int .i64 3)) rfl (QaW g2 81 _ r2_7 kj kj (isz (n := 36) kj kj)) (Qaw kj) ⟨rfl, x7⟩)
set_option maxHeartbeats 4000000 in
theorem Qdl (xs : List Int) (a_y : Option Addr) (c_y : Nat) (w : World) (hyb : Qag xs) (hy : RdK .u8 w.heap.size xs (.slice a_y xs.length c_y) w) (hS : Qc1 (Qai xs) = none) : Calls Try.prog 36 #[.slice a_y xs.length c_y] w (Ret w (.tuple #[.agg (cat [(Array.replicate 32 (.int .u8 0)), #[.int .i64 0], #[.int .i64 0], #[.int .i64 0], #[.slice none 0 0]]), .iface 102 (.int .i64 3)])) := by
  refine enter 8 [(0, .slice a_y xs.length c_y)] Try.func36 rfl rfl kj rfl ?_
  refine wp_seq_k fun K1 hK1 => ?_
  refine Qae ?_
  refine Qav (cat [(Array.replicate 32 (.int .u8 0)), #[.int .i64 0], #[.int .i64 0], #[.int .i64 0], #[.slice none 0 0]]) 81 2 rfl kj kj fun g2 W1 l2 e1 r2_1 => ?_
  have x1 : Ext w W1 := Ext.tr (Rely.Ext.refl w) e1
  have b2 : w.heap.size ≤ g2 := Nat.le_trans (Rely.Ext.refl w).size l2
  refine Qab (.nilIface) 3 rfl kj kj ?_
  refine Qaf ?_
  refine hK1 _ _ ?_
  refine wp_seq_k fun K3 hK3 => ?_
  refine Qae ?_
  refine Qab (.slice a_y xs.length c_y) 4 rfl kj kj ?_
  refine Qa3 (.tuple #[.agg (cat [(Array.replicate 32 (.int .u8 0)), #[.int .i64 0], #[.int .i64 0], #[.int .i64 0], #[.slice none 0 0]]), .iface 102 (.int .i64 3)]) 83 #[.slice a_y xs.length c_y, .func (.func 84) #[] #[]] 5 rfl kj kj (Qdg xs _ _ _ hyb (RdK.here (RdK.ext hy x1)) hS) fun W2 e2 => ?_
  have x2 : Ext w W2 := Ext.tr x1 e2
  refine Qab (.agg (cat [(Array.replicate 32 (.int .u8 0)), #[.int .i64 0], #[.int .i64 0], #[.int .i64 0], #[.slice none 0 0]])) 6 rfl kj kj ?_
  refine Qab (.iface 102 (.int .i64 3)) 7 rfl kj kj ?_
  have r2_2 := (Qas r2_1 e2)
  refine Qa2 g2 _ (cat [(Array.replicate 32 (.int .u8 0)), #[.int .i64 0], #[.int .i64 0], #[.int .i64 0], #[.slice none 0 0]]) 81 r2_2 rfl kj (Qaz 81 _ _ g2 81 _ _ r2_2 rfl kj kj (isz (n := 36) kj kj) (eqsz (n := 36) kj kj) kj) fun W3 p3 r2_3 => ?_
  have x3 : Ext w W3 := Puts.ext p3 x2 b2
  refine Qab (.iface 102 (.int .i64 3)) 3 rfl kj kj ?_
  refine Qaf ?_
  refine hK3 _ _ ?_
  refine wp_ret ?_
  repeat (first | with_reducible refine goR1 ?_ | with_reducible refine goR2 ?_)
  exact (show bodyPost _ _ _ .ret _ _ from ret2 (.agg (cat [(Array.replicate 32 (.int .u8 0)), #[.int .i64 0], #[.int .i64 0], #[.int .i64 0], #[.slice none 0 0]])) (.iface 102 (.int .i64 3)) rfl (QaW g2 81 _ r2_3 kj kj (isz (n := 36) kj kj)) (Qaw kj) ⟨rfl, x3⟩)
set_option maxHeartbeats 4000000 in
theorem Qdk (xs : List Int) (a_y : Option Addr) (c_y : Nat) (w : World) (hyb : Qag xs) (hy : RdK .u8 w.heap.size xs (.slice a_y xs.length c_y) w) (hS : Qc1 (Qai xs) = some []) : Calls Try.prog 36 #[.slice a_y xs.length c_y] w (Qb1 w (fun v W => ∃ (a_s : Option Addr) (c_s : Nat), v = .tuple #[.agg (cat [ints .u8 (pGrp (Qai xs)), #[.int .i64 (pEp (Qai xs))], #[.int .i64 (pFr (Qai xs))], #[.int .i64 (pNo (Qai xs))], #[.slice a_s (pSe (Qai xs)).length c_s]]), .nilIface] ∧ OwnN .u8 5 w.heap.size (pSe (Qai xs)) (.slice a_s (pSe (Qai xs)).length c_s) W ∧ Qag (pSe (Qai xs)) ∧ (pSe (Qai xs)).length ≤ 65535)) := by
  refine enter 8 [(0, .slice a_y xs.length c_y)] Try.func36 rfl rfl kj rfl ?_
  refine wp_seq_k fun K1 hK1 => ?_
  refine Qae ?_
  refine Qav (cat [(Array.replicate 32 (.int .u8 0)), #[.int .i64 0], #[.int .i64 0], #[.int .i64 0], #[.slice none 0 0]]) 81 2 rfl kj kj fun g2 W1 l2 e1 r2_1 => ?_
  have x1 : Ext w W1 := Ext.tr (Rely.Ext.refl w) e1
  have b2 : w.heap.size ≤ g2 := Nat.le_trans (Rely.Ext.refl w).size l2
  refine Qab (.nilIface) 3 rfl kj kj ?_
  refine Qaf ?_
  refine hK1 _ _ ?_
  refine wp_seq_k fun K3 hK3 => ?_
  refine Qae ?_
  refine Qab (.slice a_y xs.length c_y) 4 rfl kj kj ?_
  refine Qal (fun v W' => (fun v W => ∃ (a_s : Option Addr) (c_s : Nat), v = .tuple #[.agg (cat [ints .u8 (pGrp (Qai xs)), #[.int .i64 (pEp (Qai xs))], #[.int .i64 (pFr (Qai xs))], #[.int .i64 (pNo (Qai xs))], #[.slice a_s (pSe (Qai xs)).length c_s]]), .nilIface] ∧ OwnN .u8 5 W1.heap.size (pSe (Qai xs)) (.slice a_s (pSe (Qai xs)).length c_s) W ∧ Qag (pSe (Qai xs)) ∧ (pSe (Qai xs)).length ≤ 65535) v W' ∧ Ext W1 W') 83 #[.slice a_y xs.length c_y, .func (.func 84) #[] #[]] 5 rfl kj kj ((Qdf xs _ _ _ hyb (RdK.here (RdK.ext hy x1)) hS).mono (by rintro e w' ⟨v, rfl, e1, hv⟩; exact ⟨v, rfl, hv, e1⟩)) fun vv4 W2 hh4 => ?_
  obtain ⟨hv4, e2⟩ := hh4
  have x2 : Ext w W2 := Ext.tr x1 e2
  obtain ⟨a5pSe_, c5pSe_, rfl, ⟨ho5pSe, hb5pSe, hl5pSe⟩⟩ := hv4
  refine Qab (.agg (cat [ints .u8 (pGrp (Qai xs)), #[.int .i64 (pEp (Qai xs))], #[.int .i64 (pFr (Qai xs))], #[.int .i64 (pNo (Qai xs))], #[.slice a5pSe_ ((pSe (Qai xs)).length) c5pSe_]])) 6 rfl kj kj ?_
  refine Qab (.nilIface) 7 rfl kj kj ?_
  have r2_2 := (Qas r2_1 e2)
  refine Qa2 g2 _ (cat [ints .u8 (pGrp (Qai xs)), #[.int .i64 (pEp (Qai xs))], #[.int .i64 (pFr (Qai xs))], #[.int .i64 (pNo (Qai xs))], #[.slice a5pSe_ ((pSe (Qai xs)).length) c5pSe_]]) 81 r2_2 rfl kj (Qaz 81 _ _ g2 81 _ _ r2_2 rfl kj kj (isz (n := 36) kj (by rw [Qaa, Qaa, Qaa, Qaa, Qaa]; simp only [Array.size_append, cat, ((Qac _ _).trans (Qbf (Qai xs)))]; rfl)) (eqsz (n := 36) kj (by rw [Qaa, Qaa, Qaa, Qaa, Qaa]; simp only [Array.size_append, cat, ((Qac _ _).trans (Qbf (Qai xs)))]; rfl)) (QaP _ (by intro a ha; simp only [List.mem_cons, List.not_mem_nil, or_false] at ha; rcases ha with rfl | rfl | rfl | rfl | rfl; exact (Qat _ _); exact (Qaq _ rfl); exact (Qaq _ rfl); exact (Qaq _ rfl); exact (Qaq _ rfl)))) fun W3 p3 r2_3 => ?_
  have x3 : Ext w W3 := Puts.ext p3 x2 b2
  refine Qab (.nilIface) 3 rfl kj kj ?_
  refine Qaf ?_
  refine hK3 _ _ ?_
  refine wp_ret ?_
  repeat (first | with_reducible refine goR1 ?_ | with_reducible refine goR2 ?_)
  have f6_3 := (ho5pSe.puts p3 (QaV ho5pSe (Qay r2_1)))
  exact (show bodyPost _ _ _ .ret _ _ from ret2 (.agg (cat [ints .u8 (pGrp (Qai xs)), #[.int .i64 (pEp (Qai xs))], #[.int .i64 (pFr (Qai xs))], #[.int .i64 (pNo (Qai xs))], #[.slice a5pSe_ ((pSe (Qai xs)).length) c5pSe_]])) (.nilIface) rfl (QaW g2 81 _ r2_3 kj kj (isz (n := 36) kj (by rw [Qaa, Qaa, Qaa, Qaa, Qaa]; simp only [Array.size_append, cat, ((Qac _ _).trans (Qbf (Qai xs)))]; rfl))) (Qaw kj) ⟨_, rfl, x3, _, _, rfl, ⟨OwnN.base x1.size f6_3, hb5pSe, hl5pSe⟩⟩)
set_option maxHeartbeats 4000000 in
theorem Qdj (xs : List Int) (a_y : Option Addr) (c_y : Nat) (w : World) (hyb : Qag xs) (hy : RdK .u8 w.heap.size xs (.slice a_y xs.length c_y) w) (y : Int) (ys : List Int) (hS : Qc1 (Qai xs) = some (y :: ys)) : Calls Try.prog 36 #[.slice a_y xs.length c_y] w (Ret w (.tuple #[.agg (cat [(Array.replicate 32 (.int .u8 0)), #[.int .i64 0], #[.int .i64 0], #[.int .i64 0], #[.slice none 0 0]]), .iface 102 (.int .i64 3)])) := by
  refine enter 8 [(0, .slice a_y xs.length c_y)] Try.func36 rfl rfl kj rfl ?_
  refine wp_seq_k fun K1 hK1 => ?_
  refine Qae ?_
  refine Qav (cat [(Array.replicate 32 (.int .u8 0)), #[.int .i64 0], #[.int .i64 0], #[.int .i64 0], #[.slice none 0 0]]) 81 2 rfl kj kj fun g2 W1 l2 e1 r2_1 => ?_
  have x1 : Ext w W1 := Ext.tr (Rely.Ext.refl w) e1
  have b2 : w.heap.size ≤ g2 := Nat.le_trans (Rely.Ext.refl w).size l2
  refine Qab (.nilIface) 3 rfl kj kj ?_
  refine Qaf ?_
  refine hK1 _ _ ?_
  refine wp_seq_k fun K3 hK3 => ?_
  refine Qae ?_
  refine Qab (.slice a_y xs.length c_y) 4 rfl kj kj ?_
  refine Qa3 (.tuple #[.agg (cat [(Array.replicate 32 (.int .u8 0)), #[.int .i64 0], #[.int .i64 0], #[.int .i64 0], #[.slice none 0 0]]), .iface 102 (.int .i64 3)]) 83 #[.slice a_y xs.length c_y, .func (.func 84) #[] #[]] 5 rfl kj kj (Qde xs _ _ _ hyb (RdK.here (RdK.ext hy x1)) y ys hS) fun W2 e2 => ?_
  have x2 : Ext w W2 := Ext.tr x1 e2
  refine Qab (.agg (cat [(Array.replicate 32 (.int .u8 0)), #[.int .i64 0], #[.int .i64 0], #[.int .i64 0], #[.slice none 0 0]])) 6 rfl kj kj ?_
  refine Qab (.iface 102 (.int .i64 3)) 7 rfl kj kj ?_
  have r2_2 := (Qas r2_1 e2)
  refine Qa2 g2 _ (cat [(Array.replicate 32 (.int .u8 0)), #[.int .i64 0], #[.int .i64 0], #[.int .i64 0], #[.slice none 0 0]]) 81 r2_2 rfl kj (Qaz 81 _ _ g2 81 _ _ r2_2 rfl kj kj (isz (n := 36) kj kj) (eqsz (n := 36) kj kj) kj) fun W3 p3 r2_3 => ?_
  have x3 : Ext w W3 := Puts.ext p3 x2 b2
  refine Qab (.iface 102 (.int .i64 3)) 3 rfl kj kj ?_
  refine Qaf ?_
  refine hK3 _ _ ?_
  refine wp_ret ?_
  repeat (first | with_reducible refine goR1 ?_ | with_reducible refine goR2 ?_)
  exact (show bodyPost _ _ _ .ret _ _ from ret2 (.agg (cat [(Array.replicate 32 (.int .u8 0)), #[.int .i64 0], #[.int .i64 0], #[.int .i64 0], #[.slice none 0 0]])) (.iface 102 (.int .i64 3)) rfl (QaW g2 81 _ r2_3 kj kj (isz (n := 36) kj kj)) (Qaw kj) ⟨rfl, x3⟩)
theorem Qd2 (xs : List Int) (a_y : Option Addr) (c_y : Nat) (w : World) (hyb : Qag xs) (hy : RdK .u8 w.heap.size xs (.slice a_y xs.length c_y) w) (hS : Qc1 (Qai xs) ≠ some []) : Calls Try.prog 36 #[.slice a_y xs.length c_y] w (Ret w (.tuple #[.agg (cat [(Array.replicate 32 (.int .u8 0)), #[.int .i64 0], #[.int .i64 0], #[.int .i64 0], #[.slice none 0 0]]), .iface 102 (.int .i64 3)])) := by
  cases h : Qc1 (Qai xs) with
  | none => exact Qdl xs a_y c_y w hyb hy h
  | some l => cases l with
    | nil => exact absurd h hS
    | cons y ys => exact Qdj xs a_y c_y w hyb hy y ys h
end Go.Proofs.Ytfelfmchachljaa.Wr
end
section
namespace Go.Proofs.Ytfelfmchachljaa.Wr
open Go Go.RowKit
open Rely Auto Own Sha
set_option linter.unusedVariables false
set_option linter.unusedSimpArgs false
set_option maxHeartbeats 4000000 in
theorem is3 (w : World) : Calls Try.prog 45 #[.iface 102 (.int .i64 3), .int .i64 3] w (Ret w (.bool true)) := by
  refine enter 9 [(0, .iface 102 (.int .i64 3)), (1, .int .i64 3)] Try.func45 rfl rfl kj rfl ?_
  refine wp_seq_k fun K1 hK1 => ?_
  refine Qae ?_
  refine Qab (.bool false) 4 rfl kj kj ?_
  refine Qaf ?_
  refine hK1 _ _ ?_
  refine wp_seq_k fun K2 hK2 => ?_
  refine Qae ?_
  refine Qab (.iface 102 (.int .i64 3)) 5 rfl kj kj ?_
  refine Qa3 (.int .i64 3) 93 #[.iface 102 (.int .i64 3)] 6 rfl kj kj ((numE 3 (by decide)) _) fun W1 e1 => ?_
  have x1 : Ext w W1 := Ext.tr (Rely.Ext.refl w) e1
  refine Qab (.int .i64 3) 7 rfl kj kj ?_
  refine Qab (.bool true) 8 rfl kj kj ?_
  refine Qab (.bool true) 4 rfl kj kj ?_
  refine Qaf ?_
  refine hK2 _ _ ?_
  refine wp_ret ?_
  repeat (first | with_reducible refine goR1 ?_ | with_reducible refine goR2 ?_)
  exact (show bodyPost _ _ _ .ret _ _ from ret1 (.bool true) rfl (Qaw kj) ⟨rfl, x1⟩)
set_option maxHeartbeats 4000000 in
theorem Qf1 (x : Value) (w : World) : Calls Try.prog 16 #[.slice none 0 0, .iface 102 (.int .i64 3), x, .bool false] w (Ret w (.bool true)) := by
  refine enter 25 [(0, .slice none 0 0), (1, .iface 102 (.int .i64 3)), (2, x), (3, .bool false)] Try.func16 rfl rfl kj rfl ?_
  refine wp_seq_k fun K1 hK1 => ?_
  refine Qae ?_
  refine Qab (.bool false) 8 rfl kj kj ?_
  refine Qaf ?_
  refine hK1 _ _ ?_
  refine wp_seq_k fun K2 hK2 => ?_
  refine wp_seq_k fun K3 hK3 => ?_
  refine Qae ?_
  refine Qab (.bool false) 9 rfl kj kj ?_
  refine Qab (.bool true) 10 rfl kj kj ?_
  refine Qaf ?_
  refine hK3 _ _ ?_
  refine cond_true kj ?_
  refine wp_seq_k fun K4 hK4 => ?_
  refine Qae ?_
  refine Qab (.iface 102 (.int .i64 3)) 11 rfl kj kj ?_
  refine Qa3 (.bool true) 45 #[.iface 102 (.int .i64 3), .int .i64 3] 12 rfl kj kj ((is3) _) fun W1 e1 => ?_
  have x1 : Ext w W1 := Ext.tr (Rely.Ext.refl w) e1
  refine Qab (.bool true) 13 rfl kj kj ?_
  refine Qab (.slice none 0 0) 14 rfl kj kj ?_
  refine Qab (.int .i64 0) 15 rfl kj kj ?_
  refine Qab (.bool true) 16 rfl kj kj ?_
  refine Qab (.bool true) 17 rfl kj kj ?_
  refine Qab (.bool true) 8 rfl kj kj ?_
  refine Qaf ?_
  refine hK4 _ _ ?_
  refine wp_ret ?_
  repeat (first | with_reducible refine goR1 ?_ | with_reducible refine goR2 ?_)
  exact (show bodyPost _ _ _ .ret _ _ from ret1 (.bool true) rfl (Qaw kj) ⟨rfl, x1⟩)
set_option maxHeartbeats 4000000 in
theorem Qf0 (x y : Value) (xs : List Int) (w : World) (hx : Qbu w x xs) (hy : Qbu w y xs) : Calls Try.prog 16 #[x, .nilIface, y, .bool true] w (Ret w (.bool true)) := by
  refine enter 25 [(0, x), (1, .nilIface), (2, y), (3, .bool true)] Try.func16 rfl rfl kj rfl ?_
  refine wp_seq_k fun K1 hK1 => ?_
  refine Qae ?_
  refine Qab (.bool false) 8 rfl kj kj ?_
  refine Qaf ?_
  refine hK1 _ _ ?_
  refine wp_seq_k fun K2 hK2 => ?_
  refine wp_seq_k fun K3 hK3 => ?_
  refine Qae ?_
  refine Qab (.bool true) 9 rfl kj kj ?_
  refine Qab (.bool false) 10 rfl kj kj ?_
  refine Qaf ?_
  refine hK3 _ _ ?_
  refine cond_false kj ?_
  refine wp_skip ?_
  refine hK2 _ _ ?_
  refine wp_seq_k fun K4 hK4 => ?_
  refine Qae ?_
  refine Qab (.nilIface) 18 rfl kj kj ?_
  refine Qab (.bool true) 19 rfl kj kj ?_
  refine Qab (.bool true) 20 rfl kj kj ?_
  refine Qab (x) 21 rfl kj kj ?_
  refine Qab (y) 22 rfl kj kj ?_
  refine Qa3 (.bool true) 19 #[x, y] 23 rfl kj kj ((Qf9 _ _ _ _ _ rfl (Qbu.ext hx (Rely.Ext.refl w)) (Qbu.ext hy (Rely.Ext.refl w)))) fun W1 e1 => ?_
  have x1 : Ext w W1 := Ext.tr (Rely.Ext.refl w) e1
  refine Qab (.bool true) 24 rfl kj kj ?_
  refine Qab (.bool true) 8 rfl kj kj ?_
  refine Qaf ?_
  refine hK4 _ _ ?_
  refine wp_ret ?_
  repeat (first | with_reducible refine goR1 ?_ | with_reducible refine goR2 ?_)
  exact (show bodyPost _ _ _ .ret _ _ from ret1 (.bool true) rfl (Qaw kj) ⟨rfl, x1⟩)
set_option maxHeartbeats 4000000 in
theorem QgL (g n c : Nat) (xs : List Int) (rest : Array Value) (w : World) (hnl : n ≤ 1000000) (hn : xs.length = n) (hg : w.heap[g]? = some (.cells (ints .u8 xs ++ rest) 5)) : Calls Try.prog 18 #[.slice (some ⟨g, 0, none⟩) n c] w (fun e W => e = .returned (.tuple #[]) ∧ ExtB g w W) := by
 refine enter 15 [(0, .slice (some ⟨g, 0, none⟩) n c)] Try.func18 rfl rfl kj rfl ?_
 refine wp_seq_k fun K2 hK2 => ?_
 refine Qae ?_
 refine Qab (.slice (some ⟨g, 0, none⟩) n c) 3 rfl kj kj ?_
 refine Qab (.int .i64 ((n : Nat) : Int)) 4 rfl kj kj ?_
 refine Qab (.int .i64 0) 5 rfl kj kj ?_
 refine Qaf ?_
 refine hK2 _ _ ?_
 refine wp_block ?_
 refine Qbl (fun (s1 : Nat × List Int) => [(0, .slice (some ⟨g, 0, none⟩) n c), (4, .int .i64 ((n : Nat) : Int)), (5, .int .i64 ((s1.1 : Nat) : Int))]) (fun (s1 : Nat × List Int) W => (s1.1 ≤ n) ∧ (s1.2.length = n) ∧ (W.heap[g]? = some (.cells (ints .u8 (s1.2) ++ rest) 5)) ∧ (Qby [g] w W) ∧ (ExtB g w W)) (fun (s1 : Nat × List Int) => n - s1.1) (0, xs) ⟨rfl, rfl, rfl, trivial⟩ ⟨(Nat.zero_le _), hn, hg, (Qby.refl [g] w), (ExtB.refl g w)⟩ fun s1 X1 V1 hI1 => ?_
 obtain ⟨i, zs⟩ := s1
 obtain ⟨hi, hz, q1_1, kk1, xx1⟩ := hI1
 replace hi : i ≤ n := hi
 replace hz : zs.length = n := hz
 replace q1_1 : V1.heap[g]? = some (.cells (ints .u8 (zs) ++ rest) 5) := q1_1
 replace kk1 : Qby [g] w V1 := kk1
 replace xx1 : ExtB g w V1 := xx1
 have q1 := kk1
 refine wp_seq_k fun K3 hK3 => ?_
 refine Qae ?_
 refine Qab (.bool (decide (((i : Nat) : Int) < ((n : Nat) : Int)))) 6 rfl kj kj ?_
 refine Qaf ?_
 refine hK3 _ _ ?_
 refine wp_seq_k fun K4 hK4 => ?_
 refine QaM (t := decide (((i : Nat) : Int) < ((n : Nat) : Int))) kj (fun c5 => ?_) (fun c5 => ?_)
 ·skip
  have hlt6 : i < n := by have := of_decide_eq_true c5; omega
  refine wp_skip ?_
  refine hK4 _ _ ?_
  refine wp_seq_k fun K6 hK6 => ?_
  refine wp_block ?_
  refine wp_seq_k fun K7 hK7 => ?_
  refine Qae ?_
  refine Qab (.int .i64 ((i : Nat) : Int)) 7 rfl kj kj ?_
  refine Qab (.int .i64 ((i : Nat) : Int)) 2 rfl kj kj ?_
  refine Qaf ?_
  refine hK7 _ _ ?_
  refine Qae ?_
  refine Qab (.slice (some ⟨g, 0, none⟩) n c) 8 rfl kj kj ?_
  refine Qab (.int .i64 ((i : Nat) : Int)) 9 rfl kj kj ?_
  refine Qab (.pointer (some ⟨g, i, none⟩)) 10 rfl kj (Qci 26 _ _ .i64 (i) g n c 5 rfl kj kj kj kj (by omega)) ?_
  refine Qab (.int .u8 (nth (zs) i)) 11 rfl kj (Qah 5 _ g i 5 _ (.int .u8 (nth (zs) i)) _ q1_1 rfl kj (QdS (Nat.lt_of_lt_of_eq (by omega) hz.symm)) kj) ?_
  refine Qab (.int .u8 (bits .xor .u8 ((nth (zs) i)) (255))) 12 rfl kj kj ?_
  refine Qab (.pointer (some ⟨g, i, none⟩)) 13 rfl kj (Qci 26 _ _ .i64 (i) g n c 5 rfl kj kj kj kj (by omega)) ?_
  refine Qa2 g _ (ints .u8 ((zs).set i (bits .xor .u8 ((nth (zs) i)) (255))) ++ rest) 5 q1_1 rfl kj (Qdc 5 _ _ g i 5 _ _ _ q1_1 rfl kj kj kj (Nat.lt_of_lt_of_eq (by omega) hz.symm)) fun W2 p2 r1_2 => ?_
  have x2 : ExtB g w W2 := ExtB.puts xx1 p2
  refine Qaf ?_
  refine hK6 _ _ ?_
  refine Qae ?_
  refine Qab (.int .i64 ((i + 1 : Nat) : Int)) 14 rfl kj (Qax (u := .int .i64 (IntKind.i64.wrap (((i : Nat) : Int) + 1))) kj (congrArg (Value.int .i64) (i64n _ _ (by omega) (by omega)))) ?_
  refine Qab (.int .i64 ((i + 1 : Nat) : Int)) 5 rfl kj kj ?_
  refine Qaf ?_
  repeat (first | with_reducible refine goX1 ?_ | with_reducible refine goX2 ?_ | with_reducible refine goX3 ?_)
  exact Qbb ((i + 1), (zs).set i (bits .xor .u8 ((nth (zs) i)) (255))) ⟨rfl, rfl, rfl, trivial⟩ ⟨(by omega), (by rw [List.length_set]; exact hz), r1_2, (Qby.puts q1 p2 (.inl (by simp))), x2⟩ (by omega)
 ·skip
  have heq6 : i = n := by have := of_decide_eq_false c5; omega
  refine wp_exit ?_
  repeat (first | with_reducible refine goX1 ?_ | with_reducible refine goX2 ?_ | with_reducible refine goX3 ?_)
  exact (show bodyPost _ _ _ .normal _ _ from end0 rfl ⟨rfl, xx1⟩)
end Go.Proofs.Ytfelfmchachljaa.Wr
end
section
namespace Go.Proofs.Ytfelfmchachljaa.Wr
open Go Go.RowKit
open Rely Auto Own Sha
set_option linter.unusedVariables false
set_option linter.unusedSimpArgs false
theorem QaX (s : Option (List Int)) (a b : List Int) : rawS (rawS s a) b = rawS s (a ++ b) := by
  cases s with
  | none => rfl
  | some xs =>
    unfold rawS
    simp only [Option.bind_some]
    by_cases h1 : xs.length + a.length ≤ 65536
    · rw [if_pos h1]
      simp only [Option.bind_some, List.length_append]
      by_cases h2 : xs.length + a.length + b.length ≤ 65536
      · rw [if_pos h2, if_pos (by omega), List.append_assoc]
      · rw [if_neg h2, if_neg (by omega)]
    · rw [if_neg h1, if_neg (by rw [List.length_append]; omega)]
      rfl
theorem QeK (n : Int) : ∀ (k : Nat) (s : Option (List Int)), numR n (k + 1) s = rawS s (beV n (k + 1))
  | 0, s => rfl
  | k + 1, s => by
    show numR n (k + 1) (rawS s [byV n (k + 1)]) = _
    rw [QeK n k, QaX]
    rfl
theorem QcF (n : Int) : ∀ k : Nat, numR n k none = none
  | 0 => rfl
  | k + 1 => QcF n k
theorem Qgy (n : Int) (k : Nat) (m : Int) (hm : (2 : Int) ^ (8 * k) = m + 1) (h0 : 0 ≤ m) : okN n k = inB n m := by
  unfold okN inB
  rw [hm, Int.fdiv_eq_ediv_of_nonneg _ (by omega), Bool.eq_iff_iff]
  simp only [Bool.and_eq_true, decide_eq_true_eq, beq_iff_eq]
  constructor
  · rintro ⟨h1, h2⟩
    have h3 := Int.lt_ediv_add_one_mul_self n (show 0 < m + 1 by omega)
    rw [h2] at h3
    exact ⟨h1, by omega⟩
  · rintro ⟨h1, h2⟩
    exact ⟨h1, Int.ediv_eq_zero_of_lt h1 (by omega)⟩
theorem QbV (s : Option (List Int)) (n : Int) (k : Nat) (m : Int) (hm : (2 : Int) ^ (8 * (k + 1)) = m + 1) (h0 : 0 ≤ m) : numS s n (k + 1) = bif inB n m then rawS s (beV n (k + 1)) else none := by
  unfold numS
  rw [Qgy n (k + 1) m hm h0]
  cases inB n m with
  | true => exact QeK n k s
  | false => exact QcF n (k + 1)
theorem Qco (s : Option (List Int)) (n : Int) : QaI s n = bif inB n 31 then rawS s (beV n 1) else none := by
  unfold QaI
  rw [QbV _ n 0 255 (by decide) (by decide)]
  by_cases h : n < 32
  · rw [decide_eq_true h]
    by_cases h0 : 0 ≤ n
    · rw [show inB n 255 = true by unfold inB; simp; omega, show inB n 31 = true by unfold inB; simp; omega]; rfl
    · rw [show inB n 255 = false by unfold inB; simp; omega, show inB n 31 = false by unfold inB; simp; omega]; rfl
  · rw [decide_eq_false h, show inB n 31 = false by unfold inB; simp; omega]
    cases inB n 255 <;> rfl
theorem Qfn (ys : List Int) : rawS (some []) ys = fitV ys := by
  unfold rawS fitV
  simp only [Option.bind_some, List.length_nil, Nat.zero_add, List.nil_append]
theorem QaO (a b : List Int) (n : Nat) (h : a.length = n) : Qaj (some (a ++ b)) n = a := by
  subst h
  show (if a.length ≤ (a ++ b).length then (a ++ b).take a.length else []) = a
  rw [if_pos (by rw [List.length_append]; omega), List.take_left]
theorem QaR (a b : List Int) (n : Nat) (h : a.length = n) : Qad (some (a ++ b)) n = some b := by
  subst h
  show (if a.length ≤ (a ++ b).length then some ((a ++ b).drop a.length) else none) = some b
  rw [if_pos (by rw [List.length_append]; omega), List.drop_left]
theorem QeR (ys : List Int) : ∀ a : Nat, ys.foldl (fun n b => n * 256 + b.toNat) a = a * 256 ^ ys.length + bigN ys := by
  induction ys with
  | nil => intro a; show a = a * 1 + 0; omega
  | cons y ys ih =>
    intro a
    show ys.foldl _ (a * 256 + y.toNat) = a * 256 ^ (ys.length + 1) + ys.foldl _ (0 * 256 + y.toNat)
    rw [ih, ih, Nat.pow_succ, Nat.add_mul, Nat.zero_mul, Nat.zero_add, Nat.mul_assoc, Nat.mul_comm 256]
    omega
theorem QeS (N : Nat) : ∀ k : Nat, bigN (beV ((N : Nat) : Int) k) = N % 256 ^ k
  | 0 => by show 0 = N % 1; omega
  | k + 1 => by
    show (beV ((N : Nat) : Int) k).foldl _ (0 * 256 + (byV ((N : Nat) : Int) k).toNat) = _
    rw [QeR, QaQ, QeS N k, Nat.zero_mul, Nat.zero_add]
    have e : (byV ((N : Nat) : Int) k).toNat = N / 256 ^ k % 256 := by
      unfold byV
      have e2 : (2 : Int) ^ (8 * k) = ((256 ^ k : Nat) : Int) := by rw [Int.pow_mul]; simp
      rw [Qew, e2, Int.fdiv_eq_ediv_of_nonneg _ (Int.natCast_nonneg _), ← Int.natCast_ediv]
      generalize N / 256 ^ k = q
      omega
    rw [e, Nat.pow_succ, Nat.mod_mul, Nat.mul_comm, Nat.add_comm]
theorem QcZ (n : Int) (k : Nat) (h0 : 0 ≤ n) (h1 : n < ((256 ^ k : Nat) : Int)) : ((bigN (beV n k) : Nat) : Int) = n := by
  obtain ⟨N, rfl⟩ := Int.eq_ofNat_of_zero_le h0
  rw [QeS, Nat.mod_eq_of_lt (by omega)]
theorem QdC (xs : List Int) (h : xs.length ≤ 65536) : Qai xs = some xs := by
  unfold Qai
  rw [decide_eq_false (by omega)]
  rfl
theorem QbM (ys : List Int) (h : ys.length = 32) : keyV ys = ys := by
  unfold keyV
  rw [h, show (List.replicate 32 (0 : Int)).drop 32 = [] from rfl, List.append_nil]
end Go.Proofs.Ytfelfmchachljaa.Wr
end
section
namespace Go.Proofs.Ytfelfmchachljaa.Wr
open Go Go.RowKit
open Rely Auto Own Sha
set_option linter.unusedVariables false
set_option linter.unusedSimpArgs false
def Qa7 (us : Bool) (nm : Int) (key sg pa ms : List Int) : Bool := !us && (nm == 0) && decide (key = List.replicate 32 0) && decide (sg = List.replicate 32 0) && decide (pa = List.replicate 32 0) && (ms.length == 0)
set_option maxHeartbeats 4000000 in
theorem Qgf (nm : Int) (key sg pa ms : List Int) (a_m : Option Addr) (c_m : Nat) (w : World) (hkl : key.length = 32) (hgl : sg.length = 32) (hpl : pa.length = 32)  : Calls Try.prog 107 #[.agg (cat [#[.bool true], #[.int .i64 nm], ints .u8 (key), ints .u8 (sg), ints .u8 (pa), #[.slice a_m ms.length c_m]])] w (Ret w (.bool false)) := by
  refine enter 35 [(0, .agg (cat [#[.bool true], #[.int .i64 nm], ints .u8 (key), ints .u8 (sg), ints .u8 (pa), #[.slice a_m ms.length c_m]]))] Try.func107 rfl rfl kj rfl ?_
  refine wp_seq_k fun K1 hK1 => ?_
  refine Qae ?_
  refine Qav (cat [#[.bool true], #[.int .i64 nm], ints .u8 (key), ints .u8 (sg), ints .u8 (pa), #[.slice a_m ms.length c_m]]) 43 1 rfl kj kj fun g2 W1 l2 e1 r2_1 => ?_
  have x1 : Ext w W1 := Ext.tr (Rely.Ext.refl w) e1
  have b2 : w.heap.size ≤ g2 := Nat.le_trans (Rely.Ext.refl w).size l2
  refine Qab (.bool false) 2 rfl kj kj ?_
  refine Qaf ?_
  refine hK1 _ _ ?_
  refine wp_seq_k fun K3 hK3 => ?_
  refine Qae ?_
  refine Qab (.pointer (some ⟨g2, 0, none⟩)) 3 rfl kj kj ?_
  refine Qab (.bool true) 4 rfl kj (Qah 4 _ g2 0 43 _ (.bool true) _ r2_1 rfl kj (Qak [] [#[.bool true]] [#[.int .i64 nm], ints .u8 (key), ints .u8 (sg), ints .u8 (pa), #[.slice a_m ms.length c_m]] 0 kj 0 _ rfl) kj) ?_
  refine Qab (.bool false) 5 rfl kj kj ?_
  refine Qab (.bool false) 6 rfl kj kj ?_
  refine Qap 7 rfl kj ?_
  refine Qap 8 rfl kj ?_
  refine Qap 9 rfl kj ?_
  refine Qab (.bool false) 10 rfl kj kj ?_
  refine Qab (.bool false) 11 rfl kj kj ?_
  refine Qap 12 rfl kj ?_
  refine Qap 13 rfl kj ?_
  refine Qap 14 rfl kj ?_
  refine Qap 15 rfl kj ?_
  refine Qab (.bool false) 16 rfl kj kj ?_
  refine Qab (.bool false) 17 rfl kj kj ?_
  refine Qap 18 rfl kj ?_
  refine Qap 19 rfl kj ?_
  refine Qap 20 rfl kj ?_
  refine Qap 21 rfl kj ?_
  refine Qab (.bool false) 22 rfl kj kj ?_
  refine Qab (.bool false) 23 rfl kj kj ?_
  refine Qap 24 rfl kj ?_
  refine Qap 25 rfl kj ?_
  refine Qap 26 rfl kj ?_
  refine Qap 27 rfl kj ?_
  refine Qab (.bool false) 28 rfl kj kj ?_
  refine Qab (.bool false) 29 rfl kj kj ?_
  refine Qap 30 rfl kj ?_
  refine Qap 31 rfl kj ?_
  refine Qap 32 rfl kj ?_
  refine Qap 33 rfl kj ?_
  refine Qab (.bool false) 34 rfl kj kj ?_
  refine Qab (.bool false) 2 rfl kj kj ?_
  refine Qaf ?_
  refine hK3 _ _ ?_
  refine wp_ret ?_
  repeat (first | with_reducible refine goR1 ?_ | with_reducible refine goR2 ?_)
  exact (show bodyPost _ _ _ .ret _ _ from ret1 (.bool false) rfl (Qaw kj) ⟨rfl, x1⟩)
set_option maxHeartbeats 4000000 in
theorem Qge (nm : Int) (key sg pa ms : List Int) (a_m : Option Addr) (c_m : Nat) (w : World) (hkl : key.length = 32) (hgl : sg.length = 32) (hpl : pa.length = 32) (h1 : ¬ nm = 0) : Calls Try.prog 107 #[.agg (cat [#[.bool false], #[.int .i64 nm], ints .u8 (key), ints .u8 (sg), ints .u8 (pa), #[.slice a_m ms.length c_m]])] w (Ret w (.bool false)) := by
  refine enter 35 [(0, .agg (cat [#[.bool false], #[.int .i64 nm], ints .u8 (key), ints .u8 (sg), ints .u8 (pa), #[.slice a_m ms.length c_m]]))] Try.func107 rfl rfl kj rfl ?_
  refine wp_seq_k fun K1 hK1 => ?_
  refine Qae ?_
  refine Qav (cat [#[.bool false], #[.int .i64 nm], ints .u8 (key), ints .u8 (sg), ints .u8 (pa), #[.slice a_m ms.length c_m]]) 43 1 rfl kj kj fun g2 W1 l2 e1 r2_1 => ?_
  have x1 : Ext w W1 := Ext.tr (Rely.Ext.refl w) e1
  have b2 : w.heap.size ≤ g2 := Nat.le_trans (Rely.Ext.refl w).size l2
  refine Qab (.bool false) 2 rfl kj kj ?_
  refine Qaf ?_
  refine hK1 _ _ ?_
  refine wp_seq_k fun K3 hK3 => ?_
  refine Qae ?_
  refine Qab (.pointer (some ⟨g2, 0, none⟩)) 3 rfl kj kj ?_
  refine Qab (.bool false) 4 rfl kj (Qah 4 _ g2 0 43 _ (.bool false) _ r2_1 rfl kj (Qak [] [#[.bool false]] [#[.int .i64 nm], ints .u8 (key), ints .u8 (sg), ints .u8 (pa), #[.slice a_m ms.length c_m]] 0 kj 0 _ rfl) kj) ?_
  refine Qab (.bool true) 5 rfl kj kj ?_
  refine Qab (.bool true) 6 rfl kj kj ?_
  refine Qab (.pointer (some ⟨g2, 1, none⟩)) 7 rfl kj kj ?_
  refine Qab (.int .i64 nm) 8 rfl kj (Qah 3 _ g2 1 43 _ (.int .i64 nm) _ r2_1 rfl kj (Qak [#[.bool false]] [#[.int .i64 nm]] [ints .u8 (key), ints .u8 (sg), ints .u8 (pa), #[.slice a_m ms.length c_m]] 1 kj 0 _ rfl) kj) ?_
  refine Qab (.bool false) 9 rfl kj (Qax (u := .bool ((nm == 0))) kj (congrArg Value.bool (beq_eq_false_iff_ne.2 h1))) ?_
  refine Qab (.bool false) 10 rfl kj kj ?_
  refine Qab (.bool false) 11 rfl kj kj ?_
  refine Qap 12 rfl kj ?_
  refine Qap 13 rfl kj ?_
  refine Qap 14 rfl kj ?_
  refine Qap 15 rfl kj ?_
  refine Qab (.bool false) 16 rfl kj kj ?_
  refine Qab (.bool false) 17 rfl kj kj ?_
  refine Qap 18 rfl kj ?_
  refine Qap 19 rfl kj ?_
  refine Qap 20 rfl kj ?_
  refine Qap 21 rfl kj ?_
  refine Qab (.bool false) 22 rfl kj kj ?_
  refine Qab (.bool false) 23 rfl kj kj ?_
  refine Qap 24 rfl kj ?_
  refine Qap 25 rfl kj ?_
  refine Qap 26 rfl kj ?_
  refine Qap 27 rfl kj ?_
  refine Qab (.bool false) 28 rfl kj kj ?_
  refine Qab (.bool false) 29 rfl kj kj ?_
  refine Qap 30 rfl kj ?_
  refine Qap 31 rfl kj ?_
  refine Qap 32 rfl kj ?_
  refine Qap 33 rfl kj ?_
  refine Qab (.bool false) 34 rfl kj kj ?_
  refine Qab (.bool false) 2 rfl kj kj ?_
  refine Qaf ?_
  refine hK3 _ _ ?_
  refine wp_ret ?_
  repeat (first | with_reducible refine goR1 ?_ | with_reducible refine goR2 ?_)
  exact (show bodyPost _ _ _ .ret _ _ from ret1 (.bool false) rfl (Qaw kj) ⟨rfl, x1⟩)
set_option maxHeartbeats 4000000 in
theorem Qgd (nm : Int) (key sg pa ms : List Int) (a_m : Option Addr) (c_m : Nat) (w : World) (hkl : key.length = 32) (hgl : sg.length = 32) (hpl : pa.length = 32) (h1 : nm = 0) (h2 : ¬ key = List.replicate 32 0) : Calls Try.prog 107 #[.agg (cat [#[.bool false], #[.int .i64 nm], ints .u8 (key), ints .u8 (sg), ints .u8 (pa), #[.slice a_m ms.length c_m]])] w (Ret w (.bool false)) := by
  refine enter 35 [(0, .agg (cat [#[.bool false], #[.int .i64 nm], ints .u8 (key), ints .u8 (sg), ints .u8 (pa), #[.slice a_m ms.length c_m]]))] Try.func107 rfl rfl kj rfl ?_
  refine wp_seq_k fun K1 hK1 => ?_
  refine Qae ?_
  refine Qav (cat [#[.bool false], #[.int .i64 nm], ints .u8 (key), ints .u8 (sg), ints .u8 (pa), #[.slice a_m ms.length c_m]]) 43 1 rfl kj kj fun g2 W1 l2 e1 r2_1 => ?_
  have x1 : Ext w W1 := Ext.tr (Rely.Ext.refl w) e1
  have b2 : w.heap.size ≤ g2 := Nat.le_trans (Rely.Ext.refl w).size l2
  refine Qab (.bool false) 2 rfl kj kj ?_
  refine Qaf ?_
  refine hK1 _ _ ?_
  refine wp_seq_k fun K3 hK3 => ?_
  refine Qae ?_
  refine Qab (.pointer (some ⟨g2, 0, none⟩)) 3 rfl kj kj ?_
  refine Qab (.bool false) 4 rfl kj (Qah 4 _ g2 0 43 _ (.bool false) _ r2_1 rfl kj (Qak [] [#[.bool false]] [#[.int .i64 nm], ints .u8 (key), ints .u8 (sg), ints .u8 (pa), #[.slice a_m ms.length c_m]] 0 kj 0 _ rfl) kj) ?_
  refine Qab (.bool true) 5 rfl kj kj ?_
  refine Qab (.bool true) 6 rfl kj kj ?_
  refine Qab (.pointer (some ⟨g2, 1, none⟩)) 7 rfl kj kj ?_
  refine Qab (.int .i64 nm) 8 rfl kj (Qah 3 _ g2 1 43 _ (.int .i64 nm) _ r2_1 rfl kj (Qak [#[.bool false]] [#[.int .i64 nm]] [ints .u8 (key), ints .u8 (sg), ints .u8 (pa), #[.slice a_m ms.length c_m]] 1 kj 0 _ rfl) kj) ?_
  refine Qab (.bool true) 9 rfl kj (Qax (u := .bool ((nm == 0))) kj (congrArg Value.bool (beq_iff_eq.2 h1))) ?_
  refine Qab (.bool true) 10 rfl kj kj ?_
  refine Qab (.bool true) 11 rfl kj kj ?_
  refine Qab (.pointer (some ⟨g2, 2, none⟩)) 12 rfl kj kj ?_
  refine Qab (.agg (ints .u8 (key))) 13 rfl kj (Qau 40 _ g2 2 43 _ _ _ r2_1 rfl kj (Qak [#[.bool false], #[.int .i64 nm]] [ints .u8 (key)] [ints .u8 (sg), ints .u8 (pa), #[.slice a_m ms.length c_m]] 2 kj) kj (isz (n := 32) kj ((Qac _ _).trans hkl))) ?_
  refine Qab (.agg (ints .u8 (List.replicate 32 0))) 14 rfl kj kj ?_
  refine Qab (.bool false) 15 rfl kj (Qa1 40 _ _ _ _ _ (.bool false) rfl kj kj kj (Qa6 40 (e := 5) (k := .u8) (key) (List.replicate 32 0) (decide_eq_false h2) hkl (List.length_replicate (n := 32)) kj kj kj _)) ?_
  refine Qab (.bool false) 16 rfl kj kj ?_
  refine Qab (.bool false) 17 rfl kj kj ?_
  refine Qap 18 rfl kj ?_
  refine Qap 19 rfl kj ?_
  refine Qap 20 rfl kj ?_
  refine Qap 21 rfl kj ?_
  refine Qab (.bool false) 22 rfl kj kj ?_
  refine Qab (.bool false) 23 rfl kj kj ?_
  refine Qap 24 rfl kj ?_
  refine Qap 25 rfl kj ?_
  refine Qap 26 rfl kj ?_
  refine Qap 27 rfl kj ?_
  refine Qab (.bool false) 28 rfl kj kj ?_
  refine Qab (.bool false) 29 rfl kj kj ?_
  refine Qap 30 rfl kj ?_
  refine Qap 31 rfl kj ?_
  refine Qap 32 rfl kj ?_
  refine Qap 33 rfl kj ?_
  refine Qab (.bool false) 34 rfl kj kj ?_
  refine Qab (.bool false) 2 rfl kj kj ?_
  refine Qaf ?_
  refine hK3 _ _ ?_
  refine wp_ret ?_
  repeat (first | with_reducible refine goR1 ?_ | with_reducible refine goR2 ?_)
  exact (show bodyPost _ _ _ .ret _ _ from ret1 (.bool false) rfl (Qaw kj) ⟨rfl, x1⟩)
set_option maxHeartbeats 4000000 in
theorem Qgc (nm : Int) (key sg pa ms : List Int) (a_m : Option Addr) (c_m : Nat) (w : World) (hkl : key.length = 32) (hgl : sg.length = 32) (hpl : pa.length = 32) (h1 : nm = 0) (h2 : key = List.replicate 32 0) (h3 : ¬ sg = List.replicate 32 0) : Calls Try.prog 107 #[.agg (cat [#[.bool false], #[.int .i64 nm], ints .u8 (key), ints .u8 (sg), ints .u8 (pa), #[.slice a_m ms.length c_m]])] w (Ret w (.bool false)) := by
  refine enter 35 [(0, .agg (cat [#[.bool false], #[.int .i64 nm], ints .u8 (key), ints .u8 (sg), ints .u8 (pa), #[.slice a_m ms.length c_m]]))] Try.func107 rfl rfl kj rfl ?_
  refine wp_seq_k fun K1 hK1 => ?_
  refine Qae ?_
  refine Qav (cat [#[.bool false], #[.int .i64 nm], ints .u8 (key), ints .u8 (sg), ints .u8 (pa), #[.slice a_m ms.length c_m]]) 43 1 rfl kj kj fun g2 W1 l2 e1 r2_1 => ?_
  have x1 : Ext w W1 := Ext.tr (Rely.Ext.refl w) e1
  have b2 : w.heap.size ≤ g2 := Nat.le_trans (Rely.Ext.refl w).size l2
  refine Qab (.bool false) 2 rfl kj kj ?_
  refine Qaf ?_
  refine hK1 _ _ ?_
  refine wp_seq_k fun K3 hK3 => ?_
  refine Qae ?_
  refine Qab (.pointer (some ⟨g2, 0, none⟩)) 3 rfl kj kj ?_
  refine Qab (.bool false) 4 rfl kj (Qah 4 _ g2 0 43 _ (.bool false) _ r2_1 rfl kj (Qak [] [#[.bool false]] [#[.int .i64 nm], ints .u8 (key), ints .u8 (sg), ints .u8 (pa), #[.slice a_m ms.length c_m]] 0 kj 0 _ rfl) kj) ?_
  refine Qab (.bool true) 5 rfl kj kj ?_
  refine Qab (.bool true) 6 rfl kj kj ?_
  refine Qab (.pointer (some ⟨g2, 1, none⟩)) 7 rfl kj kj ?_
  refine Qab (.int .i64 nm) 8 rfl kj (Qah 3 _ g2 1 43 _ (.int .i64 nm) _ r2_1 rfl kj (Qak [#[.bool false]] [#[.int .i64 nm]] [ints .u8 (key), ints .u8 (sg), ints .u8 (pa), #[.slice a_m ms.length c_m]] 1 kj 0 _ rfl) kj) ?_
  refine Qab (.bool true) 9 rfl kj (Qax (u := .bool ((nm == 0))) kj (congrArg Value.bool (beq_iff_eq.2 h1))) ?_
  refine Qab (.bool true) 10 rfl kj kj ?_
  refine Qab (.bool true) 11 rfl kj kj ?_
  refine Qab (.pointer (some ⟨g2, 2, none⟩)) 12 rfl kj kj ?_
  refine Qab (.agg (ints .u8 (key))) 13 rfl kj (Qau 40 _ g2 2 43 _ _ _ r2_1 rfl kj (Qak [#[.bool false], #[.int .i64 nm]] [ints .u8 (key)] [ints .u8 (sg), ints .u8 (pa), #[.slice a_m ms.length c_m]] 2 kj) kj (isz (n := 32) kj ((Qac _ _).trans hkl))) ?_
  refine Qab (.agg (ints .u8 (List.replicate 32 0))) 14 rfl kj kj ?_
  refine Qab (.bool true) 15 rfl kj (Qa1 40 _ _ _ _ _ (.bool true) rfl kj kj kj (Qa6 40 (e := 5) (k := .u8) (key) (List.replicate 32 0) (decide_eq_true h2) hkl (List.length_replicate (n := 32)) kj kj kj _)) ?_
  refine Qab (.bool true) 16 rfl kj kj ?_
  refine Qab (.bool true) 17 rfl kj kj ?_
  refine Qab (.pointer (some ⟨g2, 34, none⟩)) 18 rfl kj kj ?_
  refine Qab (.agg (ints .u8 (sg))) 19 rfl kj (Qau 40 _ g2 34 43 _ _ _ r2_1 rfl kj (Qak [#[.bool false], #[.int .i64 nm], ints .u8 (key)] [ints .u8 (sg)] [ints .u8 (pa), #[.slice a_m ms.length c_m]] 34 (by rw [Qaa, Qaa, Qaa]; simp only [Array.size_append, cat, ((Qac _ _).trans hkl)]; rfl)) kj (isz (n := 32) kj ((Qac _ _).trans hgl))) ?_
  refine Qab (.agg (ints .u8 (List.replicate 32 0))) 20 rfl kj kj ?_
  refine Qab (.bool false) 21 rfl kj (Qa1 40 _ _ _ _ _ (.bool false) rfl kj kj kj (Qa6 40 (e := 5) (k := .u8) (sg) (List.replicate 32 0) (decide_eq_false h3) hgl (List.length_replicate (n := 32)) kj kj kj _)) ?_
  refine Qab (.bool false) 22 rfl kj kj ?_
  refine Qab (.bool false) 23 rfl kj kj ?_
  refine Qap 24 rfl kj ?_
  refine Qap 25 rfl kj ?_
  refine Qap 26 rfl kj ?_
  refine Qap 27 rfl kj ?_
  refine Qab (.bool false) 28 rfl kj kj ?_
  refine Qab (.bool false) 29 rfl kj kj ?_
  refine Qap 30 rfl kj ?_
  refine Qap 31 rfl kj ?_
  refine Qap 32 rfl kj ?_
  refine Qap 33 rfl kj ?_
  refine Qab (.bool false) 34 rfl kj kj ?_
  refine Qab (.bool false) 2 rfl kj kj ?_
  refine Qaf ?_
  refine hK3 _ _ ?_
  refine wp_ret ?_
  repeat (first | with_reducible refine goR1 ?_ | with_reducible refine goR2 ?_)
  exact (show bodyPost _ _ _ .ret _ _ from ret1 (.bool false) rfl (Qaw kj) ⟨rfl, x1⟩)
set_option maxHeartbeats 4000000 in
theorem Qgb (nm : Int) (key sg pa ms : List Int) (a_m : Option Addr) (c_m : Nat) (w : World) (hkl : key.length = 32) (hgl : sg.length = 32) (hpl : pa.length = 32) (h1 : nm = 0) (h2 : key = List.replicate 32 0) (h3 : sg = List.replicate 32 0) (h4 : ¬ pa = List.replicate 32 0) : Calls Try.prog 107 #[.agg (cat [#[.bool false], #[.int .i64 nm], ints .u8 (key), ints .u8 (sg), ints .u8 (pa), #[.slice a_m ms.length c_m]])] w (Ret w (.bool false)) := by
  refine enter 35 [(0, .agg (cat [#[.bool false], #[.int .i64 nm], ints .u8 (key), ints .u8 (sg), ints .u8 (pa), #[.slice a_m ms.length c_m]]))] Try.func107 rfl rfl kj rfl ?_
  refine wp_seq_k fun K1 hK1 => ?_
  refine Qae ?_
  refine Qav (cat [#[.bool false], #[.int .i64 nm], ints .u8 (key), ints .u8 (sg), ints .u8 (pa), #[.slice a_m ms.length c_m]]) 43 1 rfl kj kj fun g2 W1 l2 e1 r2_1 => ?_
  have x1 : Ext w W1 := Ext.tr (Rely.Ext.refl w) e1
  have b2 : w.heap.size ≤ g2 := Nat.le_trans (Rely.Ext.refl w).size l2
  refine Qab (.bool false) 2 rfl kj kj ?_
  refine Qaf ?_
  refine hK1 _ _ ?_
  refine wp_seq_k fun K3 hK3 => ?_
  refine Qae ?_
  refine Qab (.pointer (some ⟨g2, 0, none⟩)) 3 rfl kj kj ?_
  refine Qab (.bool false) 4 rfl kj (Qah 4 _ g2 0 43 _ (.bool false) _ r2_1 rfl kj (Qak [] [#[.bool false]] [#[.int .i64 nm], ints .u8 (key), ints .u8 (sg), ints .u8 (pa), #[.slice a_m ms.length c_m]] 0 kj 0 _ rfl) kj) ?_
  refine Qab (.bool true) 5 rfl kj kj ?_
  refine Qab (.bool true) 6 rfl kj kj ?_
  refine Qab (.pointer (some ⟨g2, 1, none⟩)) 7 rfl kj kj ?_
  refine Qab (.int .i64 nm) 8 rfl kj (Qah 3 _ g2 1 43 _ (.int .i64 nm) _ r2_1 rfl kj (Qak [#[.bool false]] [#[.int .i64 nm]] [ints .u8 (key), ints .u8 (sg), ints .u8 (pa), #[.slice a_m ms.length c_m]] 1 kj 0 _ rfl) kj) ?_
  refine Qab (.bool true) 9 rfl kj (Qax (u := .bool ((nm == 0))) kj (congrArg Value.bool (beq_iff_eq.2 h1))) ?_
  refine Qab (.bool true) 10 rfl kj kj ?_
  refine Qab (.bool true) 11 rfl kj kj ?_
  refine Qab (.pointer (some ⟨g2, 2, none⟩)) 12 rfl kj kj ?_
  refine Qab (.agg (ints .u8 (key))) 13 rfl kj (Qau 40 _ g2 2 43 _ _ _ r2_1 rfl kj (Qak [#[.bool false], #[.int .i64 nm]] [ints .u8 (key)] [ints .u8 (sg), ints .u8 (pa), #[.slice a_m ms.length c_m]] 2 kj) kj (isz (n := 32) kj ((Qac _ _).trans hkl))) ?_
  refine Qab (.agg (ints .u8 (List.replicate 32 0))) 14 rfl kj kj ?_
  refine Qab (.bool true) 15 rfl kj (Qa1 40 _ _ _ _ _ (.bool true) rfl kj kj kj (Qa6 40 (e := 5) (k := .u8) (key) (List.replicate 32 0) (decide_eq_true h2) hkl (List.length_replicate (n := 32)) kj kj kj _)) ?_
  refine Qab (.bool true) 16 rfl kj kj ?_
  refine Qab (.bool true) 17 rfl kj kj ?_
  refine Qab (.pointer (some ⟨g2, 34, none⟩)) 18 rfl kj kj ?_
  refine Qab (.agg (ints .u8 (sg))) 19 rfl kj (Qau 40 _ g2 34 43 _ _ _ r2_1 rfl kj (Qak [#[.bool false], #[.int .i64 nm], ints .u8 (key)] [ints .u8 (sg)] [ints .u8 (pa), #[.slice a_m ms.length c_m]] 34 (by rw [Qaa, Qaa, Qaa]; simp only [Array.size_append, cat, ((Qac _ _).trans hkl)]; rfl)) kj (isz (n := 32) kj ((Qac _ _).trans hgl))) ?_
  refine Qab (.agg (ints .u8 (List.replicate 32 0))) 20 rfl kj kj ?_
  refine Qab (.bool true) 21 rfl kj (Qa1 40 _ _ _ _ _ (.bool true) rfl kj kj kj (Qa6 40 (e := 5) (k := .u8) (sg) (List.replicate 32 0) (decide_eq_true h3) hgl (List.length_replicate (n := 32)) kj kj kj _)) ?_
  refine Qab (.bool true) 22 rfl kj kj ?_
  refine Qab (.bool true) 23 rfl kj kj ?_
  refine Qab (.pointer (some ⟨g2, 66, none⟩)) 24 rfl kj kj ?_
  refine Qab (.agg (ints .u8 (pa))) 25 rfl kj (Qau 39 _ g2 66 43 _ _ _ r2_1 rfl kj (Qak [#[.bool false], #[.int .i64 nm], ints .u8 (key), ints .u8 (sg)] [ints .u8 (pa)] [#[.slice a_m ms.length c_m]] 66 (by rw [Qaa, Qaa, Qaa, Qaa]; simp only [Array.size_append, cat, ((Qac _ _).trans hgl), ((Qac _ _).trans hkl)]; rfl)) kj (isz (n := 32) kj ((Qac _ _).trans hpl))) ?_
  refine Qab (.agg (ints .u8 (List.replicate 32 0))) 26 rfl kj kj ?_
  refine Qab (.bool false) 27 rfl kj (Qa1 39 _ _ _ _ _ (.bool false) rfl kj kj kj (Qa6 39 (e := 5) (k := .u8) (pa) (List.replicate 32 0) (decide_eq_false h4) hpl (List.length_replicate (n := 32)) kj kj kj _)) ?_
  refine Qab (.bool false) 28 rfl kj kj ?_
  refine Qab (.bool false) 29 rfl kj kj ?_
  refine Qap 30 rfl kj ?_
  refine Qap 31 rfl kj ?_
  refine Qap 32 rfl kj ?_
  refine Qap 33 rfl kj ?_
  refine Qab (.bool false) 34 rfl kj kj ?_
  refine Qab (.bool false) 2 rfl kj kj ?_
  refine Qaf ?_
  refine hK3 _ _ ?_
  refine wp_ret ?_
  repeat (first | with_reducible refine goR1 ?_ | with_reducible refine goR2 ?_)
  exact (show bodyPost _ _ _ .ret _ _ from ret1 (.bool false) rfl (Qaw kj) ⟨rfl, x1⟩)
set_option maxHeartbeats 4000000 in
theorem Qga (nm : Int) (key sg pa ms : List Int) (a_m : Option Addr) (c_m : Nat) (w : World) (hkl : key.length = 32) (hgl : sg.length = 32) (hpl : pa.length = 32) (h1 : nm = 0) (h2 : key = List.replicate 32 0) (h3 : sg = List.replicate 32 0) (h4 : pa = List.replicate 32 0) (h5 : ¬ ms.length = 0) : Calls Try.prog 107 #[.agg (cat [#[.bool false], #[.int .i64 nm], ints .u8 (key), ints .u8 (sg), ints .u8 (pa), #[.slice a_m ms.length c_m]])] w (Ret w (.bool false)) := by
  refine enter 35 [(0, .agg (cat [#[.bool false], #[.int .i64 nm], ints .u8 (key), ints .u8 (sg), ints .u8 (pa), #[.slice a_m ms.length c_m]]))] Try.func107 rfl rfl kj rfl ?_
  refine wp_seq_k fun K1 hK1 => ?_
  refine Qae ?_
  refine Qav (cat [#[.bool false], #[.int .i64 nm], ints .u8 (key), ints .u8 (sg), ints .u8 (pa), #[.slice a_m ms.length c_m]]) 43 1 rfl kj kj fun g2 W1 l2 e1 r2_1 => ?_
  have x1 : Ext w W1 := Ext.tr (Rely.Ext.refl w) e1
  have b2 : w.heap.size ≤ g2 := Nat.le_trans (Rely.Ext.refl w).size l2
  refine Qab (.bool false) 2 rfl kj kj ?_
  refine Qaf ?_
  refine hK1 _ _ ?_
  refine wp_seq_k fun K3 hK3 => ?_
  refine Qae ?_
  refine Qab (.pointer (some ⟨g2, 0, none⟩)) 3 rfl kj kj ?_
  refine Qab (.bool false) 4 rfl kj (Qah 4 _ g2 0 43 _ (.bool false) _ r2_1 rfl kj (Qak [] [#[.bool false]] [#[.int .i64 nm], ints .u8 (key), ints .u8 (sg), ints .u8 (pa), #[.slice a_m ms.length c_m]] 0 kj 0 _ rfl) kj) ?_
  refine Qab (.bool true) 5 rfl kj kj ?_
  refine Qab (.bool true) 6 rfl kj kj ?_
  refine Qab (.pointer (some ⟨g2, 1, none⟩)) 7 rfl kj kj ?_
  refine Qab (.int .i64 nm) 8 rfl kj (Qah 3 _ g2 1 43 _ (.int .i64 nm) _ r2_1 rfl kj (Qak [#[.bool false]] [#[.int .i64 nm]] [ints .u8 (key), ints .u8 (sg), ints .u8 (pa), #[.slice a_m ms.length c_m]] 1 kj 0 _ rfl) kj) ?_
  refine Qab (.bool true) 9 rfl kj (Qax (u := .bool ((nm == 0))) kj (congrArg Value.bool (beq_iff_eq.2 h1))) ?_
  refine Qab (.bool true) 10 rfl kj kj ?_
  refine Qab (.bool true) 11 rfl kj kj ?_
  refine Qab (.pointer (some ⟨g2, 2, none⟩)) 12 rfl kj kj ?_
  refine Qab (.agg (ints .u8 (key))) 13 rfl kj (Qau 40 _ g2 2 43 _ _ _ r2_1 rfl kj (Qak [#[.bool false], #[.int .i64 nm]] [ints .u8 (key)] [ints .u8 (sg), ints .u8 (pa), #[.slice a_m ms.length c_m]] 2 kj) kj (isz (n := 32) kj ((Qac _ _).trans hkl))) ?_
  refine Qab (.agg (ints .u8 (List.replicate 32 0))) 14 rfl kj kj ?_
  refine Qab (.bool true) 15 rfl kj (Qa1 40 _ _ _ _ _ (.bool true) rfl kj kj kj (Qa6 40 (e := 5) (k := .u8) (key) (List.replicate 32 0) (decide_eq_true h2) hkl (List.length_replicate (n := 32)) kj kj kj _)) ?_
  refine Qab (.bool true) 16 rfl kj kj ?_
  refine Qab (.bool true) 17 rfl kj kj ?_
  refine Qab (.pointer (some ⟨g2, 34, none⟩)) 18 rfl kj kj ?_
  refine Qab (.agg (ints .u8 (sg))) 19 rfl kj (Qau 40 _ g2 34 43 _ _ _ r2_1 rfl kj (Qak [#[.bool false], #[.int .i64 nm], ints .u8 (key)] [ints .u8 (sg)] [ints .u8 (pa), #[.slice a_m ms.length c_m]] 34 (by rw [Qaa, Qaa, Qaa]; simp only [Array.size_append, cat, ((Qac _ _).trans hkl)]; rfl)) kj (isz (n := 32) kj ((Qac _ _).trans hgl))) ?_
  refine Qab (.agg (ints .u8 (List.replicate 32 0))) 20 rfl kj kj ?_
  refine Qab (.bool true) 21 rfl kj (Qa1 40 _ _ _ _ _ (.bool true) rfl kj kj kj (Qa6 40 (e := 5) (k := .u8) (sg) (List.replicate 32 0) (decide_eq_true h3) hgl (List.length_replicate (n := 32)) kj kj kj _)) ?_
  refine Qab (.bool true) 22 rfl kj kj ?_
  refine Qab (.bool true) 23 rfl kj kj ?_
  refine Qab (.pointer (some ⟨g2, 66, none⟩)) 24 rfl kj kj ?_
  refine Qab (.agg (ints .u8 (pa))) 25 rfl kj (Qau 39 _ g2 66 43 _ _ _ r2_1 rfl kj (Qak [#[.bool false], #[.int .i64 nm], ints .u8 (key), ints .u8 (sg)] [ints .u8 (pa)] [#[.slice a_m ms.length c_m]] 66 (by rw [Qaa, Qaa, Qaa, Qaa]; simp only [Array.size_append, cat, ((Qac _ _).trans hgl), ((Qac _ _).trans hkl)]; rfl)) kj (isz (n := 32) kj ((Qac _ _).trans hpl))) ?_
  refine Qab (.agg (ints .u8 (List.replicate 32 0))) 26 rfl kj kj ?_
  refine Qab (.bool true) 27 rfl kj (Qa1 39 _ _ _ _ _ (.bool true) rfl kj kj kj (Qa6 39 (e := 5) (k := .u8) (pa) (List.replicate 32 0) (decide_eq_true h4) hpl (List.length_replicate (n := 32)) kj kj kj _)) ?_
  refine Qab (.bool true) 28 rfl kj kj ?_
  refine Qab (.bool true) 29 rfl kj kj ?_
  refine Qab (.pointer (some ⟨g2, 98, none⟩)) 30 rfl kj kj ?_
  refine Qab (.slice a_m ms.length c_m) 31 rfl kj (Qah 41 _ g2 98 43 _ (.slice a_m ms.length c_m) _ r2_1 rfl kj (Qak [#[.bool false], #[.int .i64 nm], ints .u8 (key), ints .u8 (sg), ints .u8 (pa)] [#[.slice a_m ms.length c_m]] [] 98 (by rw [Qaa, Qaa, Qaa, Qaa, Qaa]; simp only [Array.size_append, cat, ((Qac _ _).trans hgl), ((Qac _ _).trans hkl), ((Qac _ _).trans hpl)]; rfl) 0 _ rfl) kj) ?_
  refine Qab (.int .i64 ((ms.length : Nat) : Int)) 32 rfl kj kj ?_
  refine Qab (.bool false) 33 rfl kj (Qax (u := .bool ((((ms.length : Nat) : Int) == 0))) kj (congrArg Value.bool (beq_eq_false_iff_ne.2 (by omega)))) ?_
  refine Qab (.bool false) 34 rfl kj kj ?_
  refine Qab (.bool false) 2 rfl kj kj ?_
  refine Qaf ?_
  refine hK3 _ _ ?_
  refine wp_ret ?_
  repeat (first | with_reducible refine goR1 ?_ | with_reducible refine goR2 ?_)
  exact (show bodyPost _ _ _ .ret _ _ from ret1 (.bool false) rfl (Qaw kj) ⟨rfl, x1⟩)
set_option maxHeartbeats 4000000 in
theorem QfZ (nm : Int) (key sg pa ms : List Int) (a_m : Option Addr) (c_m : Nat) (w : World) (hkl : key.length = 32) (hgl : sg.length = 32) (hpl : pa.length = 32) (h1 : nm = 0) (h2 : key = List.replicate 32 0) (h3 : sg = List.replicate 32 0) (h4 : pa = List.replicate 32 0) (h5 : ms.length = 0) : Calls Try.prog 107 #[.agg (cat [#[.bool false], #[.int .i64 nm], ints .u8 (key), ints .u8 (sg), ints .u8 (pa), #[.slice a_m ms.length c_m]])] w (Ret w (.bool true)) := by
  refine enter 35 [(0, .agg (cat [#[.bool false], #[.int .i64 nm], ints .u8 (key), ints .u8 (sg), ints .u8 (pa), #[.slice a_m ms.length c_m]]))] Try.func107 rfl rfl kj rfl ?_
  refine wp_seq_k fun K1 hK1 => ?_
  refine Qae ?_
  refine Qav (cat [#[.bool false], #[.int .i64 nm], ints .u8 (key), ints .u8 (sg), ints .u8 (pa), #[.slice a_m ms.length c_m]]) 43 1 rfl kj kj fun g2 W1 l2 e1 r2_1 => ?_
  have x1 : Ext w W1 := Ext.tr (Rely.Ext.refl w) e1
  have b2 : w.heap.size ≤ g2 := Nat.le_trans (Rely.Ext.refl w).size l2
  refine Qab (.bool false) 2 rfl kj kj ?_
  refine Qaf ?_
  refine hK1 _ _ ?_
  refine wp_seq_k fun K3 hK3 => ?_
  refine Qae ?_
  refine Qab (.pointer (some ⟨g2, 0, none⟩)) 3 rfl kj kj ?_
  refine Qab (.bool false) 4 rfl kj (Qah 4 _ g2 0 43 _ (.bool false) _ r2_1 rfl kj (Qak [] [#[.bool false]] [#[.int .i64 nm], ints .u8 (key), ints .u8 (sg), ints .u8 (pa), #[.slice a_m ms.length c_m]] 0 kj 0 _ rfl) kj) ?_
  refine Qab (.bool true) 5 rfl kj kj ?_
  refine Qab (.bool true) 6 rfl kj kj ?_
  refine Qab (.pointer (some ⟨g2, 1, none⟩)) 7 rfl kj kj ?_
  refine Qab (.int .i64 nm) 8 rfl kj (Qah 3 _ g2 1 43 _ (.int .i64 nm) _ r2_1 rfl kj (Qak [#[.bool false]] [#[.int .i64 nm]] [ints .u8 (key), ints .u8 (sg), ints .u8 (pa), #[.slice a_m ms.length c_m]] 1 kj 0 _ rfl) kj) ?_
  refine Qab (.bool true) 9 rfl kj (Qax (u := .bool ((nm == 0))) kj (congrArg Value.bool (beq_iff_eq.2 h1))) ?_
  refine Qab (.bool true) 10 rfl kj kj ?_
  refine Qab (.bool true) 11 rfl kj kj ?_
  refine Qab (.pointer (some ⟨g2, 2, none⟩)) 12 rfl kj kj ?_
  refine Qab (.agg (ints .u8 (key))) 13 rfl kj (Qau 40 _ g2 2 43 _ _ _ r2_1 rfl kj (Qak [#[.bool false], #[.int .i64 nm]] [ints .u8 (key)] [ints .u8 (sg), ints .u8 (pa), #[.slice a_m ms.length c_m]] 2 kj) kj (isz (n := 32) kj ((Qac _ _).trans hkl))) ?_
  refine Qab (.agg (ints .u8 (List.replicate 32 0))) 14 rfl kj kj ?_
  refine Qab (.bool true) 15 rfl kj (Qa1 40 _ _ _ _ _ (.bool true) rfl kj kj kj (Qa6 40 (e := 5) (k := .u8) (key) (List.replicate 32 0) (decide_eq_true h2) hkl (List.length_replicate (n := 32)) kj kj kj _)) ?_
  refine Qab (.bool true) 16 rfl kj kj ?_
  refine Qab (.bool true) 17 rfl kj kj ?_
  refine Qab (.pointer (some ⟨g2, 34, none⟩)) 18 rfl kj kj ?_
  refine Qab (.agg (ints .u8 (sg))) 19 rfl kj (Qau 40 _ g2 34 43 _ _ _ r2_1 rfl kj (Qak [#[.bool false], #[.int .i64 nm], ints .u8 (key)] [ints .u8 (sg)] [ints .u8 (pa), #[.slice a_m ms.length c_m]] 34 (by rw [Qaa, Qaa, Qaa]; simp only [Array.size_append, cat, ((Qac _ _).trans hkl)]; rfl)) kj (isz (n := 32) kj ((Qac _ _).trans hgl))) ?_
  refine Qab (.agg (ints .u8 (List.replicate 32 0))) 20 rfl kj kj ?_
  refine Qab (.bool true) 21 rfl kj (Qa1 40 _ _ _ _ _ (.bool true) rfl kj kj kj (Qa6 40 (e := 5) (k := .u8) (sg) (List.replicate 32 0) (decide_eq_true h3) hgl (List.length_replicate (n := 32)) kj kj kj _)) ?_
  refine Qab (.bool true) 22 rfl kj kj ?_
  refine Qab (.bool true) 23 rfl kj kj ?_
  refine Qab (.pointer (some ⟨g2, 66, none⟩)) 24 rfl kj kj ?_
  refine Qab (.agg (ints .u8 (pa))) 25 rfl kj (Qau 39 _ g2 66 43 _ _ _ r2_1 rfl kj (Qak [#[.bool false], #[.int .i64 nm], ints .u8 (key), ints .u8 (sg)] [ints .u8 (pa)] [#[.slice a_m ms.length c_m]] 66 (by rw [Qaa, Qaa, Qaa, Qaa]; simp only [Array.size_append, cat, ((Qac _ _).trans hgl), ((Qac _ _).trans hkl)]; rfl)) kj (isz (n := 32) kj ((Qac _ _).trans hpl))) ?_
  refine Qab (.agg (ints .u8 (List.replicate 32 0))) 26 rfl kj kj ?_
  refine Qab (.bool true) 27 rfl kj (Qa1 39 _ _ _ _ _ (.bool true) rfl kj kj kj (Qa6 39 (e := 5) (k := .u8) (pa) (List.replicate 32 0) (decide_eq_true h4) hpl (List.length_replicate (n := 32)) kj kj kj _)) ?_
  refine Qab (.bool true) 28 rfl kj kj ?_
  refine Qab (.bool true) 29 rfl kj kj ?_
  refine Qab (.pointer (some ⟨g2, 98, none⟩)) 30 rfl kj kj ?_
  refine Qab (.slice a_m ms.length c_m) 31 rfl kj (Qah 41 _ g2 98 43 _ (.slice a_m ms.length c_m) _ r2_1 rfl kj (Qak [#[.bool false], #[.int .i64 nm], ints .u8 (key), ints .u8 (sg), ints .u8 (pa)] [#[.slice a_m ms.length c_m]] [] 98 (by rw [Qaa, Qaa, Qaa, Qaa, Qaa]; simp only [Array.size_append, cat, ((Qac _ _).trans hgl), ((Qac _ _).trans hkl), ((Qac _ _).trans hpl)]; rfl) 0 _ rfl) kj) ?_
  refine Qab (.int .i64 ((ms.length : Nat) : Int)) 32 rfl kj kj ?_
  refine Qab (.bool true) 33 rfl kj (Qax (u := .bool ((((ms.length : Nat) : Int) == 0))) kj (congrArg Value.bool (by rw [h5]; rfl))) ?_
  refine Qab (.bool true) 34 rfl kj kj ?_
  refine Qab (.bool true) 2 rfl kj kj ?_
  refine Qaf ?_
  refine hK3 _ _ ?_
  refine wp_ret ?_
  repeat (first | with_reducible refine goR1 ?_ | with_reducible refine goR2 ?_)
  exact (show bodyPost _ _ _ .ret _ _ from ret1 (.bool true) rfl (Qaw kj) ⟨rfl, x1⟩)
theorem Qd9 (us : Bool) (nm : Int) (key sg pa ms : List Int) (a_m : Option Addr) (c_m : Nat) (w : World) (hkl : key.length = 32) (hgl : sg.length = 32) (hpl : pa.length = 32) : Calls Try.prog 107 #[.agg (cat [#[.bool us], #[.int .i64 nm], ints .u8 (key), ints .u8 (sg), ints .u8 (pa), #[.slice a_m ms.length c_m]])] w (Ret w (.bool (Qa7 us nm key sg pa ms))) := by
  unfold Qa7
  cases us with
  | true => exact Qgf nm key sg pa ms a_m c_m w hkl hgl hpl
  | false =>
    by_cases h1 : nm = 0
    · rw [beq_iff_eq.2 h1]
      by_cases h2 : key = List.replicate 32 0
      · rw [decide_eq_true h2]
        by_cases h3 : sg = List.replicate 32 0
        · rw [decide_eq_true h3]
          by_cases h4 : pa = List.replicate 32 0
          · rw [decide_eq_true h4]
            by_cases h5 : ms.length = 0
            · rw [beq_iff_eq.2 h5]; exact QfZ nm key sg pa ms a_m c_m w hkl hgl hpl h1 h2 h3 h4 h5
            · rw [beq_eq_false_iff_ne.2 h5]; exact Qga nm key sg pa ms a_m c_m w hkl hgl hpl h1 h2 h3 h4 h5
          · rw [decide_eq_false h4]; exact Qgb nm key sg pa ms a_m c_m w hkl hgl hpl h1 h2 h3 h4
        · rw [decide_eq_false h3]; exact Qgc nm key sg pa ms a_m c_m w hkl hgl hpl h1 h2 h3
      · rw [decide_eq_false h2]; exact Qgd nm key sg pa ms a_m c_m w hkl hgl hpl h1 h2
    · rw [beq_eq_false_iff_ne.2 h1]; exact Qge nm key sg pa ms a_m c_m w hkl hgl hpl h1
set_option maxHeartbeats 4000000 in
theorem Qgo (nm : Int) (key sg pa ms : List Int) (a_m : Option Addr) (c_m : Nat) (w : World) (hkl : key.length = 32) (hgl : sg.length = 32) (hpl : pa.length = 32)  : Calls Try.prog 108 #[.agg (cat [#[.bool true], #[.int .i64 nm], ints .u8 (key), ints .u8 (sg), ints .u8 (pa), #[.slice a_m ms.length c_m]])] w (Ret w (.bool false)) := by
  refine enter 35 [(0, .agg (cat [#[.bool true], #[.int .i64 nm], ints .u8 (key), ints .u8 (sg), ints .u8 (pa), #[.slice a_m ms.length c_m]]))] Try.func108 rfl rfl kj rfl ?_
  refine wp_seq_k fun K1 hK1 => ?_
  refine Qae ?_
  refine Qav (cat [#[.bool true], #[.int .i64 nm], ints .u8 (key), ints .u8 (sg), ints .u8 (pa), #[.slice a_m ms.length c_m]]) 43 1 rfl kj kj fun g2 W1 l2 e1 r2_1 => ?_
  have x1 : Ext w W1 := Ext.tr (Rely.Ext.refl w) e1
  have b2 : w.heap.size ≤ g2 := Nat.le_trans (Rely.Ext.refl w).size l2
  refine Qab (.bool false) 2 rfl kj kj ?_
  refine Qaf ?_
  refine hK1 _ _ ?_
  refine wp_seq_k fun K3 hK3 => ?_
  refine Qae ?_
  refine Qab (.pointer (some ⟨g2, 0, none⟩)) 3 rfl kj kj ?_
  refine Qab (.bool true) 4 rfl kj (Qah 4 _ g2 0 43 _ (.bool true) _ r2_1 rfl kj (Qak [] [#[.bool true]] [#[.int .i64 nm], ints .u8 (key), ints .u8 (sg), ints .u8 (pa), #[.slice a_m ms.length c_m]] 0 kj 0 _ rfl) kj) ?_
  refine Qab (.bool false) 5 rfl kj kj ?_
  refine Qab (.bool false) 6 rfl kj kj ?_
  refine Qap 7 rfl kj ?_
  refine Qap 8 rfl kj ?_
  refine Qap 9 rfl kj ?_
  refine Qab (.bool false) 10 rfl kj kj ?_
  refine Qab (.bool false) 11 rfl kj kj ?_
  refine Qap 12 rfl kj ?_
  refine Qap 13 rfl kj ?_
  refine Qap 14 rfl kj ?_
  refine Qap 15 rfl kj ?_
  refine Qab (.bool false) 16 rfl kj kj ?_
  refine Qab (.bool false) 17 rfl kj kj ?_
  refine Qap 18 rfl kj ?_
  refine Qap 19 rfl kj ?_
  refine Qap 20 rfl kj ?_
  refine Qap 21 rfl kj ?_
  refine Qab (.bool false) 22 rfl kj kj ?_
  refine Qab (.bool false) 23 rfl kj kj ?_
  refine Qap 24 rfl kj ?_
  refine Qap 25 rfl kj ?_
  refine Qap 26 rfl kj ?_
  refine Qap 27 rfl kj ?_
  refine Qab (.bool false) 28 rfl kj kj ?_
  refine Qab (.bool false) 29 rfl kj kj ?_
  refine Qap 30 rfl kj ?_
  refine Qap 31 rfl kj ?_
  refine Qap 32 rfl kj ?_
  refine Qap 33 rfl kj ?_
  refine Qab (.bool false) 34 rfl kj kj ?_
  refine Qab (.bool false) 2 rfl kj kj ?_
  refine Qaf ?_
  refine hK3 _ _ ?_
  refine wp_ret ?_
  repeat (first | with_reducible refine goR1 ?_ | with_reducible refine goR2 ?_)
  exact (show bodyPost _ _ _ .ret _ _ from ret1 (.bool false) rfl (Qaw kj) ⟨rfl, x1⟩)
set_option maxHeartbeats 4000000 in
theorem Qgn (nm : Int) (key sg pa ms : List Int) (a_m : Option Addr) (c_m : Nat) (w : World) (hkl : key.length = 32) (hgl : sg.length = 32) (hpl : pa.length = 32) (h1 : ¬ nm = 0) : Calls Try.prog 108 #[.agg (cat [#[.bool false], #[.int .i64 nm], ints .u8 (key), ints .u8 (sg), ints .u8 (pa), #[.slice a_m ms.length c_m]])] w (Ret w (.bool false)) := by
  refine enter 35 [(0, .agg (cat [#[.bool false], #[.int .i64 nm], ints .u8 (key), ints .u8 (sg), ints .u8 (pa), #[.slice a_m ms.length c_m]]))] Try.func108 rfl rfl kj rfl ?_
  refine wp_seq_k fun K1 hK1 => ?_
  refine Qae ?_
  refine Qav (cat [#[.bool false], #[.int .i64 nm], ints .u8 (key), ints .u8 (sg), ints .u8 (pa), #[.slice a_m ms.length c_m]]) 43 1 rfl kj kj fun g2 W1 l2 e1 r2_1 => ?_
  have x1 : Ext w W1 := Ext.tr (Rely.Ext.refl w) e1
  have b2 : w.heap.size ≤ g2 := Nat.le_trans (Rely.Ext.refl w).size l2
  refine Qab (.bool false) 2 rfl kj kj ?_
  refine Qaf ?_
  refine hK1 _ _ ?_
  refine wp_seq_k fun K3 hK3 => ?_
  refine Qae ?_
  refine Qab (.pointer (some ⟨g2, 0, none⟩)) 3 rfl kj kj ?_
  refine Qab (.bool false) 4 rfl kj (Qah 4 _ g2 0 43 _ (.bool false) _ r2_1 rfl kj (Qak [] [#[.bool false]] [#[.int .i64 nm], ints .u8 (key), ints .u8 (sg), ints .u8 (pa), #[.slice a_m ms.length c_m]] 0 kj 0 _ rfl) kj) ?_
  refine Qab (.bool true) 5 rfl kj kj ?_
  refine Qab (.bool true) 6 rfl kj kj ?_
  refine Qab (.pointer (some ⟨g2, 1, none⟩)) 7 rfl kj kj ?_
  refine Qab (.int .i64 nm) 8 rfl kj (Qah 3 _ g2 1 43 _ (.int .i64 nm) _ r2_1 rfl kj (Qak [#[.bool false]] [#[.int .i64 nm]] [ints .u8 (key), ints .u8 (sg), ints .u8 (pa), #[.slice a_m ms.length c_m]] 1 kj 0 _ rfl) kj) ?_
  refine Qab (.bool false) 9 rfl kj (Qax (u := .bool ((nm == 0))) kj (congrArg Value.bool (beq_eq_false_iff_ne.2 h1))) ?_
  refine Qab (.bool false) 10 rfl kj kj ?_
  refine Qab (.bool false) 11 rfl kj kj ?_
  refine Qap 12 rfl kj ?_
  refine Qap 13 rfl kj ?_
  refine Qap 14 rfl kj ?_
  refine Qap 15 rfl kj ?_
  refine Qab (.bool false) 16 rfl kj kj ?_
  refine Qab (.bool false) 17 rfl kj kj ?_
  refine Qap 18 rfl kj ?_
  refine Qap 19 rfl kj ?_
  refine Qap 20 rfl kj ?_
  refine Qap 21 rfl kj ?_
  refine Qab (.bool false) 22 rfl kj kj ?_
  refine Qab (.bool false) 23 rfl kj kj ?_
  refine Qap 24 rfl kj ?_
  refine Qap 25 rfl kj ?_
  refine Qap 26 rfl kj ?_
  refine Qap 27 rfl kj ?_
  refine Qab (.bool false) 28 rfl kj kj ?_
  refine Qab (.bool false) 29 rfl kj kj ?_
  refine Qap 30 rfl kj ?_
  refine Qap 31 rfl kj ?_
  refine Qap 32 rfl kj ?_
  refine Qap 33 rfl kj ?_
  refine Qab (.bool false) 34 rfl kj kj ?_
  refine Qab (.bool false) 2 rfl kj kj ?_
  refine Qaf ?_
  refine hK3 _ _ ?_
  refine wp_ret ?_
  repeat (first | with_reducible refine goR1 ?_ | with_reducible refine goR2 ?_)
  exact (show bodyPost _ _ _ .ret _ _ from ret1 (.bool false) rfl (Qaw kj) ⟨rfl, x1⟩)
set_option maxHeartbeats 4000000 in
theorem Qgm (nm : Int) (key sg pa ms : List Int) (a_m : Option Addr) (c_m : Nat) (w : World) (hkl : key.length = 32) (hgl : sg.length = 32) (hpl : pa.length = 32) (h1 : nm = 0) (h2 : ¬ key = List.replicate 32 0) : Calls Try.prog 108 #[.agg (cat [#[.bool false], #[.int .i64 nm], ints .u8 (key), ints .u8 (sg), ints .u8 (pa), #[.slice a_m ms.length c_m]])] w (Ret w (.bool false)) := by
  refine enter 35 [(0, .agg (cat [#[.bool false], #[.int .i64 nm], ints .u8 (key), ints .u8 (sg), ints .u8 (pa), #[.slice a_m ms.length c_m]]))] Try.func108 rfl rfl kj rfl ?_
  refine wp_seq_k fun K1 hK1 => ?_
  refine Qae ?_
  refine Qav (cat [#[.bool false], #[.int .i64 nm], ints .u8 (key), ints .u8 (sg), ints .u8 (pa), #[.slice a_m ms.length c_m]]) 43 1 rfl kj kj fun g2 W1 l2 e1 r2_1 => ?_
  have x1 : Ext w W1 := Ext.tr (Rely.Ext.refl w) e1
  have b2 : w.heap.size ≤ g2 := Nat.le_trans (Rely.Ext.refl w).size l2
  refine Qab (.bool false) 2 rfl kj kj ?_
  refine Qaf ?_
  refine hK1 _ _ ?_
  refine wp_seq_k fun K3 hK3 => ?_
  refine Qae ?_
  refine Qab (.pointer (some ⟨g2, 0, none⟩)) 3 rfl kj kj ?_
  refine Qab (.bool false) 4 rfl kj (Qah 4 _ g2 0 43 _ (.bool false) _ r2_1 rfl kj (Qak [] [#[.bool false]] [#[.int .i64 nm], ints .u8 (key), ints .u8 (sg), ints .u8 (pa), #[.slice a_m ms.length c_m]] 0 kj 0 _ rfl) kj) ?_
  refine Qab (.bool true) 5 rfl kj kj ?_
  refine Qab (.bool true) 6 rfl kj kj ?_
  refine Qab (.pointer (some ⟨g2, 1, none⟩)) 7 rfl kj kj ?_
  refine Qab (.int .i64 nm) 8 rfl kj (Qah 3 _ g2 1 43 _ (.int .i64 nm) _ r2_1 rfl kj (Qak [#[.bool false]] [#[.int .i64 nm]] [ints .u8 (key), ints .u8 (sg), ints .u8 (pa), #[.slice a_m ms.length c_m]] 1 kj 0 _ rfl) kj) ?_
  refine Qab (.bool true) 9 rfl kj (Qax (u := .bool ((nm == 0))) kj (congrArg Value.bool (beq_iff_eq.2 h1))) ?_
  refine Qab (.bool true) 10 rfl kj kj ?_
  refine Qab (.bool true) 11 rfl kj kj ?_
  refine Qab (.pointer (some ⟨g2, 2, none⟩)) 12 rfl kj kj ?_
  refine Qab (.agg (ints .u8 (key))) 13 rfl kj (Qau 40 _ g2 2 43 _ _ _ r2_1 rfl kj (Qak [#[.bool false], #[.int .i64 nm]] [ints .u8 (key)] [ints .u8 (sg), ints .u8 (pa), #[.slice a_m ms.length c_m]] 2 kj) kj (isz (n := 32) kj ((Qac _ _).trans hkl))) ?_
  refine Qab (.agg (ints .u8 (List.replicate 32 0))) 14 rfl kj kj ?_
  refine Qab (.bool false) 15 rfl kj (Qa1 40 _ _ _ _ _ (.bool false) rfl kj kj kj (Qa6 40 (e := 5) (k := .u8) (key) (List.replicate 32 0) (decide_eq_false h2) hkl (List.length_replicate (n := 32)) kj kj kj _)) ?_
  refine Qab (.bool false) 16 rfl kj kj ?_
  refine Qab (.bool false) 17 rfl kj kj ?_
  refine Qap 18 rfl kj ?_
  refine Qap 19 rfl kj ?_
  refine Qap 20 rfl kj ?_
  refine Qap 21 rfl kj ?_
  refine Qab (.bool false) 22 rfl kj kj ?_
  refine Qab (.bool false) 23 rfl kj kj ?_
  refine Qap 24 rfl kj ?_
  refine Qap 25 rfl kj ?_
  refine Qap 26 rfl kj ?_
  refine Qap 27 rfl kj ?_
  refine Qab (.bool false) 28 rfl kj kj ?_
  refine Qab (.bool false) 29 rfl kj kj ?_
  refine Qap 30 rfl kj ?_
  refine Qap 31 rfl kj ?_
  refine Qap 32 rfl kj ?_
  refine Qap 33 rfl kj ?_
  refine Qab (.bool false) 34 rfl kj kj ?_
  refine Qab (.bool false) 2 rfl kj kj ?_
  refine Qaf ?_
  refine hK3 _ _ ?_
  refine wp_ret ?_
  repeat (first | with_reducible refine goR1 ?_ | with_reducible refine goR2 ?_)
  exact (show bodyPost _ _ _ .ret _ _ from ret1 (.bool false) rfl (Qaw kj) ⟨rfl, x1⟩)
set_option maxHeartbeats 4000000 in
theorem Qgl (nm : Int) (key sg pa ms : List Int) (a_m : Option Addr) (c_m : Nat) (w : World) (hkl : key.length = 32) (hgl : sg.length = 32) (hpl : pa.length = 32) (h1 : nm = 0) (h2 : key = List.replicate 32 0) (h3 : ¬ sg = List.replicate 32 0) : Calls Try.prog 108 #[.agg (cat [#[.bool false], #[.int .i64 nm], ints .u8 (key), ints .u8 (sg), ints .u8 (pa), #[.slice a_m ms.length c_m]])] w (Ret w (.bool false)) := by
  refine enter 35 [(0, .agg (cat [#[.bool false], #[.int .i64 nm], ints .u8 (key), ints .u8 (sg), ints .u8 (pa), #[.slice a_m ms.length c_m]]))] Try.func108 rfl rfl kj rfl ?_
  refine wp_seq_k fun K1 hK1 => ?_
  refine Qae ?_
  refine Qav (cat [#[.bool false], #[.int .i64 nm], ints .u8 (key), ints .u8 (sg), ints .u8 (pa), #[.slice a_m ms.length c_m]]) 43 1 rfl kj kj fun g2 W1 l2 e1 r2_1 => ?_
  have x1 : Ext w W1 := Ext.tr (Rely.Ext.refl w) e1
  have b2 : w.heap.size ≤ g2 := Nat.le_trans (Rely.Ext.refl w).size l2
  refine Qab (.bool false) 2 rfl kj kj ?_
  refine Qaf ?_
  refine hK1 _ _ ?_
  refine wp_seq_k fun K3 hK3 => ?_
  refine Qae ?_
  refine Qab (.pointer (some ⟨g2, 0, none⟩)) 3 rfl kj kj ?_
  refine Qab (.bool false) 4 rfl kj (Qah 4 _ g2 0 43 _ (.bool false) _ r2_1 rfl kj (Qak [] [#[.bool false]] [#[.int .i64 nm], ints .u8 (key), ints .u8 (sg), ints .u8 (pa), #[.slice a_m ms.length c_m]] 0 kj 0 _ rfl) kj) ?_
  refine Qab (.bool true) 5 rfl kj kj ?_
  refine Qab (.bool true) 6 rfl kj kj ?_
  refine Qab (.pointer (some ⟨g2, 1, none⟩)) 7 rfl kj kj ?_
  refine Qab (.int .i64 nm) 8 rfl kj (Qah 3 _ g2 1 43 _ (.int .i64 nm) _ r2_1 rfl kj (Qak [#[.bool false]] [#[.int .i64 nm]] [ints .u8 (key), ints .u8 (sg), ints .u8 (pa), #[.slice a_m ms.length c_m]] 1 kj 0 _ rfl) kj) ?_
  refine Qab (.bool true) 9 rfl kj (Qax (u := .bool ((nm == 0))) kj (congrArg Value.bool (beq_iff_eq.2 h1))) ?_
  refine Qab (.bool true) 10 rfl kj kj ?_
  refine Qab (.bool true) 11 rfl kj kj ?_
  refine Qab (.pointer (some ⟨g2, 2, none⟩)) 12 rfl kj kj ?_
  refine Qab (.agg (ints .u8 (key))) 13 rfl kj (Qau 40 _ g2 2 43 _ _ _ r2_1 rfl kj (Qak [#[.bool false], #[.int .i64 nm]] [ints .u8 (key)] [ints .u8 (sg), ints .u8 (pa), #[.slice a_m ms.length c_m]] 2 kj) kj (isz (n := 32) kj ((Qac _ _).trans hkl))) ?_
  refine Qab (.agg (ints .u8 (List.replicate 32 0))) 14 rfl kj kj ?_
  refine Qab (.bool true) 15 rfl kj (Qa1 40 _ _ _ _ _ (.bool true) rfl kj kj kj (Qa6 40 (e := 5) (k := .u8) (key) (List.replicate 32 0) (decide_eq_true h2) hkl (List.length_replicate (n := 32)) kj kj kj _)) ?_
  refine Qab (.bool true) 16 rfl kj kj ?_
  refine Qab (.bool true) 17 rfl kj kj ?_
  refine Qab (.pointer (some ⟨g2, 34, none⟩)) 18 rfl kj kj ?_
  refine Qab (.agg (ints .u8 (sg))) 19 rfl kj (Qau 40 _ g2 34 43 _ _ _ r2_1 rfl kj (Qak [#[.bool false], #[.int .i64 nm], ints .u8 (key)] [ints .u8 (sg)] [ints .u8 (pa), #[.slice a_m ms.length c_m]] 34 (by rw [Qaa, Qaa, Qaa]; simp only [Array.size_append, cat, ((Qac _ _).trans hkl)]; rfl)) kj (isz (n := 32) kj ((Qac _ _).trans hgl))) ?_
  refine Qab (.agg (ints .u8 (List.replicate 32 0))) 20 rfl kj kj ?_
  refine Qab (.bool false) 21 rfl kj (Qa1 40 _ _ _ _ _ (.bool false) rfl kj kj kj (Qa6 40 (e := 5) (k := .u8) (sg) (List.replicate 32 0) (decide_eq_false h3) hgl (List.length_replicate (n := 32)) kj kj kj _)) ?_
  refine Qab (.bool false) 22 rfl kj kj ?_
  refine Qab (.bool false) 23 rfl kj kj ?_
  refine Qap 24 rfl kj ?_
  refine Qap 25 rfl kj ?_
  refine Qap 26 rfl kj ?_
  refine Qap 27 rfl kj ?_
  refine Qab (.bool false) 28 rfl kj kj ?_
  refine Qab (.bool false) 29 rfl kj kj ?_
  refine Qap 30 rfl kj ?_
  refine Qap 31 rfl kj ?_
  refine Qap 32 rfl kj ?_
  refine Qap 33 rfl kj ?_
  refine Qab (.bool false) 34 rfl kj kj ?_
  refine Qab (.bool false) 2 rfl kj kj ?_
  refine Qaf ?_
  refine hK3 _ _ ?_
  refine wp_ret ?_
  repeat (first | with_reducible refine goR1 ?_ | with_reducible refine goR2 ?_)
  exact (show bodyPost _ _ _ .ret _ _ from ret1 (.bool false) rfl (Qaw kj) ⟨rfl, x1⟩)
set_option maxHeartbeats 4000000 in
theorem Qgk (nm : Int) (key sg pa ms : List Int) (a_m : Option Addr) (c_m : Nat) (w : World) (hkl : key.length = 32) (hgl : sg.length = 32) (hpl : pa.length = 32) (h1 : nm = 0) (h2 : key = List.replicate 32 0) (h3 : sg = List.replicate 32 0) (h4 : ¬ pa = List.replicate 32 0) : Calls Try.prog 108 #[.agg (cat [#[.bool false], #[.int .i64 nm], ints .u8 (key), ints .u8 (sg), ints .u8 (pa), #[.slice a_m ms.length c_m]])] w (Ret w (.bool false)) := by
  refine enter 35 [(0, .agg (cat [#[.bool false], #[.int .i64 nm], ints .u8 (key), ints .u8 (sg), ints .u8 (pa), #[.slice a_m ms.length c_m]]))] Try.func108 rfl rfl kj rfl ?_
  refine wp_seq_k fun K1 hK1 => ?_
  refine Qae ?_
  refine Qav (cat [#[.bool false], #[.int .i64 nm], ints .u8 (key), ints .u8 (sg), ints .u8 (pa), #[.slice a_m ms.length c_m]]) 43 1 rfl kj kj fun g2 W1 l2 e1 r2_1 => ?_
  have x1 : Ext w W1 := Ext.tr (Rely.Ext.refl w) e1
  have b2 : w.heap.size ≤ g2 := Nat.le_trans (Rely.Ext.refl w).size l2
  refine Qab (.bool false) 2 rfl kj kj ?_
  refine Qaf ?_
  refine hK1 _ _ ?_
  refine wp_seq_k fun K3 hK3 => ?_
  refine Qae ?_
  refine Qab (.pointer (some ⟨g2, 0, none⟩)) 3 rfl kj kj ?_
  refine Qab (.bool false) 4 rfl kj (Qah 4 _ g2 0 43 _ (.bool false) _ r2_1 rfl kj (Qak [] [#[.bool false]] [#[.int .i64 nm], ints .u8 (key), ints .u8 (sg), ints .u8 (pa), #[.slice a_m ms.length c_m]] 0 kj 0 _ rfl) kj) ?_
  refine Qab (.bool true) 5 rfl kj kj ?_
  refine Qab (.bool true) 6 rfl kj kj ?_
  refine Qab (.pointer (some ⟨g2, 1, none⟩)) 7 rfl kj kj ?_
  refine Qab (.int .i64 nm) 8 rfl kj (Qah 3 _ g2 1 43 _ (.int .i64 nm) _ r2_1 rfl kj (Qak [#[.bool false]] [#[.int .i64 nm]] [ints .u8 (key), ints .u8 (sg), ints .u8 (pa), #[.slice a_m ms.length c_m]] 1 kj 0 _ rfl) kj) ?_
  refine Qab (.bool true) 9 rfl kj (Qax (u := .bool ((nm == 0))) kj (congrArg Value.bool (beq_iff_eq.2 h1))) ?_
  refine Qab (.bool true) 10 rfl kj kj ?_
  refine Qab (.bool true) 11 rfl kj kj ?_
  refine Qab (.pointer (some ⟨g2, 2, none⟩)) 12 rfl kj kj ?_
  refine Qab (.agg (ints .u8 (key))) 13 rfl kj (Qau 40 _ g2 2 43 _ _ _ r2_1 rfl kj (Qak [#[.bool false], #[.int .i64 nm]] [ints .u8 (key)] [ints .u8 (sg), ints .u8 (pa), #[.slice a_m ms.length c_m]] 2 kj) kj (isz (n := 32) kj ((Qac _ _).trans hkl))) ?_
  refine Qab (.agg (ints .u8 (List.replicate 32 0))) 14 rfl kj kj ?_
  refine Qab (.bool true) 15 rfl kj (Qa1 40 _ _ _ _ _ (.bool true) rfl kj kj kj (Qa6 40 (e := 5) (k := .u8) (key) (List.replicate 32 0) (decide_eq_true h2) hkl (List.length_replicate (n := 32)) kj kj kj _)) ?_
  refine Qab (.bool true) 16 rfl kj kj ?_
  refine Qab (.bool true) 17 rfl kj kj ?_
  refine Qab (.pointer (some ⟨g2, 34, none⟩)) 18 rfl kj kj ?_
  refine Qab (.agg (ints .u8 (sg))) 19 rfl kj (Qau 40 _ g2 34 43 _ _ _ r2_1 rfl kj (Qak [#[.bool false], #[.int .i64 nm], ints .u8 (key)] [ints .u8 (sg)] [ints .u8 (pa), #[.slice a_m ms.length c_m]] 34 (by rw [Qaa, Qaa, Qaa]; simp only [Array.size_append, cat, ((Qac _ _).trans hkl)]; rfl)) kj (isz (n := 32) kj ((Qac _ _).trans hgl))) ?_
  refine Qab (.agg (ints .u8 (List.replicate 32 0))) 20 rfl kj kj ?_
  refine Qab (.bool true) 21 rfl kj (Qa1 40 _ _ _ _ _ (.bool true) rfl kj kj kj (Qa6 40 (e := 5) (k := .u8) (sg) (List.replicate 32 0) (decide_eq_true h3) hgl (List.length_replicate (n := 32)) kj kj kj _)) ?_
  refine Qab (.bool true) 22 rfl kj kj ?_
  refine Qab (.bool true) 23 rfl kj kj ?_
  refine Qab (.pointer (some ⟨g2, 66, none⟩)) 24 rfl kj kj ?_
  refine Qab (.agg (ints .u8 (pa))) 25 rfl kj (Qau 39 _ g2 66 43 _ _ _ r2_1 rfl kj (Qak [#[.bool false], #[.int .i64 nm], ints .u8 (key), ints .u8 (sg)] [ints .u8 (pa)] [#[.slice a_m ms.length c_m]] 66 (by rw [Qaa, Qaa, Qaa, Qaa]; simp only [Array.size_append, cat, ((Qac _ _).trans hgl), ((Qac _ _).trans hkl)]; rfl)) kj (isz (n := 32) kj ((Qac _ _).trans hpl))) ?_
  refine Qab (.agg (ints .u8 (List.replicate 32 0))) 26 rfl kj kj ?_
  refine Qab (.bool false) 27 rfl kj (Qa1 39 _ _ _ _ _ (.bool false) rfl kj kj kj (Qa6 39 (e := 5) (k := .u8) (pa) (List.replicate 32 0) (decide_eq_false h4) hpl (List.length_replicate (n := 32)) kj kj kj _)) ?_
  refine Qab (.bool false) 28 rfl kj kj ?_
  refine Qab (.bool false) 29 rfl kj kj ?_
  refine Qap 30 rfl kj ?_
  refine Qap 31 rfl kj ?_
  refine Qap 32 rfl kj ?_
  refine Qap 33 rfl kj ?_
  refine Qab (.bool false) 34 rfl kj kj ?_
  refine Qab (.bool false) 2 rfl kj kj ?_
  refine Qaf ?_
  refine hK3 _ _ ?_
  refine wp_ret ?_
  repeat (first | with_reducible refine goR1 ?_ | with_reducible refine goR2 ?_)
  exact (show bodyPost _ _ _ .ret _ _ from ret1 (.bool false) rfl (Qaw kj) ⟨rfl, x1⟩)
set_option maxHeartbeats 4000000 in
theorem Qgj (nm : Int) (key sg pa ms : List Int) (a_m : Option Addr) (c_m : Nat) (w : World) (hkl : key.length = 32) (hgl : sg.length = 32) (hpl : pa.length = 32) (h1 : nm = 0) (h2 : key = List.replicate 32 0) (h3 : sg = List.replicate 32 0) (h4 : pa = List.replicate 32 0) (h5 : ¬ ms.length = 0) : Calls Try.prog 108 #[.agg (cat [#[.bool false], #[.int .i64 nm], ints .u8 (key), ints .u8 (sg), ints .u8 (pa), #[.slice a_m ms.length c_m]])] w (Ret w (.bool false)) := by
  refine enter 35 [(0, .agg (cat [#[.bool false], #[.int .i64 nm], ints .u8 (key), ints .u8 (sg), ints .u8 (pa), #[.slice a_m ms.length c_m]]))] Try.func108 rfl rfl kj rfl ?_
  refine wp_seq_k fun K1 hK1 => ?_
  refine Qae ?_
  refine Qav (cat [#[.bool false], #[.int .i64 nm], ints .u8 (key), ints .u8 (sg), ints .u8 (pa), #[.slice a_m ms.length c_m]]) 43 1 rfl kj kj fun g2 W1 l2 e1 r2_1 => ?_
  have x1 : Ext w W1 := Ext.tr (Rely.Ext.refl w) e1
  have b2 : w.heap.size ≤ g2 := Nat.le_trans (Rely.Ext.refl w).size l2
  refine Qab (.bool false) 2 rfl kj kj ?_
  refine Qaf ?_
  refine hK1 _ _ ?_
  refine wp_seq_k fun K3 hK3 => ?_
  refine Qae ?_
  refine Qab (.pointer (some ⟨g2, 0, none⟩)) 3 rfl kj kj ?_
  refine Qab (.bool false) 4 rfl kj (Qah 4 _ g2 0 43 _ (.bool false) _ r2_1 rfl kj (Qak [] [#[.bool false]] [#[.int .i64 nm], ints .u8 (key), ints .u8 (sg), ints .u8 (pa), #[.slice a_m ms.length c_m]] 0 kj 0 _ rfl) kj) ?_
  refine Qab (.bool true) 5 rfl kj kj ?_
  refine Qab (.bool true) 6 rfl kj kj ?_
  refine Qab (.pointer (some ⟨g2, 1, none⟩)) 7 rfl kj kj ?_
  refine Qab (.int .i64 nm) 8 rfl kj (Qah 3 _ g2 1 43 _ (.int .i64 nm) _ r2_1 rfl kj (Qak [#[.bool false]] [#[.int .i64 nm]] [ints .u8 (key), ints .u8 (sg), ints .u8 (pa), #[.slice a_m ms.length c_m]] 1 kj 0 _ rfl) kj) ?_
  refine Qab (.bool true) 9 rfl kj (Qax (u := .bool ((nm == 0))) kj (congrArg Value.bool (beq_iff_eq.2 h1))) ?_
  refine Qab (.bool true) 10 rfl kj kj ?_
  refine Qab (.bool true) 11 rfl kj kj ?_
  refine Qab (.pointer (some ⟨g2, 2, none⟩)) 12 rfl kj kj ?_
  refine Qab (.agg (ints .u8 (key))) 13 rfl kj (Qau 40 _ g2 2 43 _ _ _ r2_1 rfl kj (Qak [#[.bool false], #[.int .i64 nm]] [ints .u8 (key)] [ints .u8 (sg), ints .u8 (pa), #[.slice a_m ms.length c_m]] 2 kj) kj (isz (n := 32) kj ((Qac _ _).trans hkl))) ?_
  refine Qab (.agg (ints .u8 (List.replicate 32 0))) 14 rfl kj kj ?_
  refine Qab (.bool true) 15 rfl kj (Qa1 40 _ _ _ _ _ (.bool true) rfl kj kj kj (Qa6 40 (e := 5) (k := .u8) (key) (List.replicate 32 0) (decide_eq_true h2) hkl (List.length_replicate (n := 32)) kj kj kj _)) ?_
  refine Qab (.bool true) 16 rfl kj kj ?_
  refine Qab (.bool true) 17 rfl kj kj ?_
  refine Qab (.pointer (some ⟨g2, 34, none⟩)) 18 rfl kj kj ?_
  refine Qab (.agg (ints .u8 (sg))) 19 rfl kj (Qau 40 _ g2 34 43 _ _ _ r2_1 rfl kj (Qak [#[.bool false], #[.int .i64 nm], ints .u8 (key)] [ints .u8 (sg)] [ints .u8 (pa), #[.slice a_m ms.length c_m]] 34 (by rw [Qaa, Qaa, Qaa]; simp only [Array.size_append, cat, ((Qac _ _).trans hkl)]; rfl)) kj (isz (n := 32) kj ((Qac _ _).trans hgl))) ?_
  refine Qab (.agg (ints .u8 (List.replicate 32 0))) 20 rfl kj kj ?_
  refine Qab (.bool true) 21 rfl kj (Qa1 40 _ _ _ _ _ (.bool true) rfl kj kj kj (Qa6 40 (e := 5) (k := .u8) (sg) (List.replicate 32 0) (decide_eq_true h3) hgl (List.length_replicate (n := 32)) kj kj kj _)) ?_
  refine Qab (.bool true) 22 rfl kj kj ?_
  refine Qab (.bool true) 23 rfl kj kj ?_
  refine Qab (.pointer (some ⟨g2, 66, none⟩)) 24 rfl kj kj ?_
  refine Qab (.agg (ints .u8 (pa))) 25 rfl kj (Qau 39 _ g2 66 43 _ _ _ r2_1 rfl kj (Qak [#[.bool false], #[.int .i64 nm], ints .u8 (key), ints .u8 (sg)] [ints .u8 (pa)] [#[.slice a_m ms.length c_m]] 66 (by rw [Qaa, Qaa, Qaa, Qaa]; simp only [Array.size_append, cat, ((Qac _ _).trans hgl), ((Qac _ _).trans hkl)]; rfl)) kj (isz (n := 32) kj ((Qac _ _).trans hpl))) ?_
  refine Qab (.agg (ints .u8 (List.replicate 32 0))) 26 rfl kj kj ?_
  refine Qab (.bool true) 27 rfl kj (Qa1 39 _ _ _ _ _ (.bool true) rfl kj kj kj (Qa6 39 (e := 5) (k := .u8) (pa) (List.replicate 32 0) (decide_eq_true h4) hpl (List.length_replicate (n := 32)) kj kj kj _)) ?_
  refine Qab (.bool true) 28 rfl kj kj ?_
  refine Qab (.bool true) 29 rfl kj kj ?_
  refine Qab (.pointer (some ⟨g2, 98, none⟩)) 30 rfl kj kj ?_
  refine Qab (.slice a_m ms.length c_m) 31 rfl kj (Qah 41 _ g2 98 43 _ (.slice a_m ms.length c_m) _ r2_1 rfl kj (Qak [#[.bool false], #[.int .i64 nm], ints .u8 (key), ints .u8 (sg), ints .u8 (pa)] [#[.slice a_m ms.length c_m]] [] 98 (by rw [Qaa, Qaa, Qaa, Qaa, Qaa]; simp only [Array.size_append, cat, ((Qac _ _).trans hgl), ((Qac _ _).trans hkl), ((Qac _ _).trans hpl)]; rfl) 0 _ rfl) kj) ?_
  refine Qab (.int .i64 ((ms.length : Nat) : Int)) 32 rfl kj kj ?_
  refine Qab (.bool false) 33 rfl kj (Qax (u := .bool ((((ms.length : Nat) : Int) == 0))) kj (congrArg Value.bool (beq_eq_false_iff_ne.2 (by omega)))) ?_
  refine Qab (.bool false) 34 rfl kj kj ?_
  refine Qab (.bool false) 2 rfl kj kj ?_
  refine Qaf ?_
  refine hK3 _ _ ?_
  refine wp_ret ?_
  repeat (first | with_reducible refine goR1 ?_ | with_reducible refine goR2 ?_)
  exact (show bodyPost _ _ _ .ret _ _ from ret1 (.bool false) rfl (Qaw kj) ⟨rfl, x1⟩)
set_option maxHeartbeats 4000000 in
theorem Qgi (nm : Int) (key sg pa ms : List Int) (a_m : Option Addr) (c_m : Nat) (w : World) (hkl : key.length = 32) (hgl : sg.length = 32) (hpl : pa.length = 32) (h1 : nm = 0) (h2 : key = List.replicate 32 0) (h3 : sg = List.replicate 32 0) (h4 : pa = List.replicate 32 0) (h5 : ms.length = 0) : Calls Try.prog 108 #[.agg (cat [#[.bool false], #[.int .i64 nm], ints .u8 (key), ints .u8 (sg), ints .u8 (pa), #[.slice a_m ms.length c_m]])] w (Ret w (.bool true)) := by
  refine enter 35 [(0, .agg (cat [#[.bool false], #[.int .i64 nm], ints .u8 (key), ints .u8 (sg), ints .u8 (pa), #[.slice a_m ms.length c_m]]))] Try.func108 rfl rfl kj rfl ?_
  refine wp_seq_k fun K1 hK1 => ?_
  refine Qae ?_
  refine Qav (cat [#[.bool false], #[.int .i64 nm], ints .u8 (key), ints .u8 (sg), ints .u8 (pa), #[.slice a_m ms.length c_m]]) 43 1 rfl kj kj fun g2 W1 l2 e1 r2_1 => ?_
  have x1 : Ext w W1 := Ext.tr (Rely.Ext.refl w) e1
  have b2 : w.heap.size ≤ g2 := Nat.le_trans (Rely.Ext.refl w).size l2
  refine Qab (.bool false) 2 rfl kj kj ?_
  refine Qaf ?_
  refine hK1 _ _ ?_
  refine wp_seq_k fun K3 hK3 => ?_
  refine Qae ?_
  refine Qab (.pointer (some ⟨g2, 0, none⟩)) 3 rfl kj kj ?_
  refine Qab (.bool false) 4 rfl kj (Qah 4 _ g2 0 43 _ (.bool false) _ r2_1 rfl kj (Qak [] [#[.bool false]] [#[.int .i64 nm], ints .u8 (key), ints .u8 (sg), ints .u8 (pa), #[.slice a_m ms.length c_m]] 0 kj 0 _ rfl) kj) ?_
  refine Qab (.bool true) 5 rfl kj kj ?_
  refine Qab (.bool true) 6 rfl kj kj ?_
  refine Qab (.pointer (some ⟨g2, 1, none⟩)) 7 rfl kj kj ?_
  refine Qab (.int .i64 nm) 8 rfl kj (Qah 3 _ g2 1 43 _ (.int .i64 nm) _ r2_1 rfl kj (Qak [#[.bool false]] [#[.int .i64 nm]] [ints .u8 (key), ints .u8 (sg), ints .u8 (pa), #[.slice a_m ms.length c_m]] 1 kj 0 _ rfl) kj) ?_
  refine Qab (.bool true) 9 rfl kj (Qax (u := .bool ((nm == 0))) kj (congrArg Value.bool (beq_iff_eq.2 h1))) ?_
  refine Qab (.bool true) 10 rfl kj kj ?_
  refine Qab (.bool true) 11 rfl kj kj ?_
  refine Qab (.pointer (some ⟨g2, 2, none⟩)) 12 rfl kj kj ?_
  refine Qab (.agg (ints .u8 (key))) 13 rfl kj (Qau 40 _ g2 2 43 _ _ _ r2_1 rfl kj (Qak [#[.bool false], #[.int .i64 nm]] [ints .u8 (key)] [ints .u8 (sg), ints .u8 (pa), #[.slice a_m ms.length c_m]] 2 kj) kj (isz (n := 32) kj ((Qac _ _).trans hkl))) ?_
  refine Qab (.agg (ints .u8 (List.replicate 32 0))) 14 rfl kj kj ?_
  refine Qab (.bool true) 15 rfl kj (Qa1 40 _ _ _ _ _ (.bool true) rfl kj kj kj (Qa6 40 (e := 5) (k := .u8) (key) (List.replicate 32 0) (decide_eq_true h2) hkl (List.length_replicate (n := 32)) kj kj kj _)) ?_
  refine Qab (.bool true) 16 rfl kj kj ?_
  refine Qab (.bool true) 17 rfl kj kj ?_
  refine Qab (.pointer (some ⟨g2, 34, none⟩)) 18 rfl kj kj ?_
  refine Qab (.agg (ints .u8 (sg))) 19 rfl kj (Qau 40 _ g2 34 43 _ _ _ r2_1 rfl kj (Qak [#[.bool false], #[.int .i64 nm], ints .u8 (key)] [ints .u8 (sg)] [ints .u8 (pa), #[.slice a_m ms.length c_m]] 34 (by rw [Qaa, Qaa, Qaa]; simp only [Array.size_append, cat, ((Qac _ _).trans hkl)]; rfl)) kj (isz (n := 32) kj ((Qac _ _).trans hgl))) ?_
  refine Qab (.agg (ints .u8 (List.replicate 32 0))) 20 rfl kj kj ?_
  refine Qab (.bool true) 21 rfl kj (Qa1 40 _ _ _ _ _ (.bool true) rfl kj kj kj (Qa6 40 (e := 5) (k := .u8) (sg) (List.replicate 32 0) (decide_eq_true h3) hgl (List.length_replicate (n := 32)) kj kj kj _)) ?_
  refine Qab (.bool true) 22 rfl kj kj ?_
  refine Qab (.bool true) 23 rfl kj kj ?_
  refine Qab (.pointer (some ⟨g2, 66, none⟩)) 24 rfl kj kj ?_
  refine Qab (.agg (ints .u8 (pa))) 25 rfl kj (Qau 39 _ g2 66 43 _ _ _ r2_1 rfl kj (Qak [#[.bool false], #[.int .i64 nm], ints .u8 (key), ints .u8 (sg)] [ints .u8 (pa)] [#[.slice a_m ms.length c_m]] 66 (by rw [Qaa, Qaa, Qaa, Qaa]; simp only [Array.size_append, cat, ((Qac _ _).trans hgl), ((Qac _ _).trans hkl)]; rfl)) kj (isz (n := 32) kj ((Qac _ _).trans hpl))) ?_
  refine Qab (.agg (ints .u8 (List.replicate 32 0))) 26 rfl kj kj ?_
  refine Qab (.bool true) 27 rfl kj (Qa1 39 _ _ _ _ _ (.bool true) rfl kj kj kj (Qa6 39 (e := 5) (k := .u8) (pa) (List.replicate 32 0) (decide_eq_true h4) hpl (List.length_replicate (n := 32)) kj kj kj _)) ?_
  refine Qab (.bool true) 28 rfl kj kj ?_
  refine Qab (.bool true) 29 rfl kj kj ?_
  refine Qab (.pointer (some ⟨g2, 98, none⟩)) 30 rfl kj kj ?_
  refine Qab (.slice a_m ms.length c_m) 31 rfl kj (Qah 41 _ g2 98 43 _ (.slice a_m ms.length c_m) _ r2_1 rfl kj (Qak [#[.bool false], #[.int .i64 nm], ints .u8 (key), ints .u8 (sg), ints .u8 (pa)] [#[.slice a_m ms.length c_m]] [] 98 (by rw [Qaa, Qaa, Qaa, Qaa, Qaa]; simp only [Array.size_append, cat, ((Qac _ _).trans hgl), ((Qac _ _).trans hkl), ((Qac _ _).trans hpl)]; rfl) 0 _ rfl) kj) ?_
  refine Qab (.int .i64 ((ms.length : Nat) : Int)) 32 rfl kj kj ?_
  refine Qab (.bool true) 33 rfl kj (Qax (u := .bool ((((ms.length : Nat) : Int) == 0))) kj (congrArg Value.bool (by rw [h5]; rfl))) ?_
  refine Qab (.bool true) 34 rfl kj kj ?_
  refine Qab (.bool true) 2 rfl kj kj ?_
  refine Qaf ?_
  refine hK3 _ _ ?_
  refine wp_ret ?_
  repeat (first | with_reducible refine goR1 ?_ | with_reducible refine goR2 ?_)
  exact (show bodyPost _ _ _ .ret _ _ from ret1 (.bool true) rfl (Qaw kj) ⟨rfl, x1⟩)
theorem Qgp (us : Bool) (nm : Int) (key sg pa ms : List Int) (a_m : Option Addr) (c_m : Nat) (w : World) (hkl : key.length = 32) (hgl : sg.length = 32) (hpl : pa.length = 32) : Calls Try.prog 108 #[.agg (cat [#[.bool us], #[.int .i64 nm], ints .u8 (key), ints .u8 (sg), ints .u8 (pa), #[.slice a_m ms.length c_m]])] w (Ret w (.bool (Qa7 us nm key sg pa ms))) := by
  unfold Qa7
  cases us with
  | true => exact Qgo nm key sg pa ms a_m c_m w hkl hgl hpl
  | false =>
    by_cases h1 : nm = 0
    · rw [beq_iff_eq.2 h1]
      by_cases h2 : key = List.replicate 32 0
      · rw [decide_eq_true h2]
        by_cases h3 : sg = List.replicate 32 0
        · rw [decide_eq_true h3]
          by_cases h4 : pa = List.replicate 32 0
          · rw [decide_eq_true h4]
            by_cases h5 : ms.length = 0
            · rw [beq_iff_eq.2 h5]; exact Qgi nm key sg pa ms a_m c_m w hkl hgl hpl h1 h2 h3 h4 h5
            · rw [beq_eq_false_iff_ne.2 h5]; exact Qgj nm key sg pa ms a_m c_m w hkl hgl hpl h1 h2 h3 h4 h5
          · rw [decide_eq_false h4]; exact Qgk nm key sg pa ms a_m c_m w hkl hgl hpl h1 h2 h3 h4
        · rw [decide_eq_false h3]; exact Qgl nm key sg pa ms a_m c_m w hkl hgl hpl h1 h2 h3
      · rw [decide_eq_false h2]; exact Qgm nm key sg pa ms a_m c_m w hkl hgl hpl h1 h2
    · rw [beq_eq_false_iff_ne.2 h1]; exact Qgn nm key sg pa ms a_m c_m w hkl hgl hpl h1
end Go.Proofs.Ytfelfmchachljaa.Wr
end
section
namespace Go.Proofs.Ytfelfmchachljaa.Wr
open Go Go.RowKit
open Rely Auto Own Sha
set_option linter.unusedVariables false
set_option linter.unusedSimpArgs false
open Wk
def risN (ms : List Int) : Nat → Bool
  | 0 => true
  | n + 1 => risN ms n && ((n == 0) || decide (nth ms (n - 1) < nth ms n))
def risV (ms : List Int) : Bool := risN ms ms.length
theorem QcR (ms : List Int) (k : Nat) (h : risN ms k = false) : ∀ n, k ≤ n → risN ms n = false
  | 0, hk => by obtain rfl : k = 0 := by omega
                exact h
  | n + 1, hk => by
    by_cases e : k = n + 1
    · rw [← e]; exact h
    · unfold risN
      rw [QcR ms k h n (by omega)]
      rfl
theorem Qd1 (ms : List Int) (i : Nat) (hr : risN ms (i + 1) = true) : risN ms (i + 1 + 1) = decide (nth ms i < nth ms (i + 1)) := by
  show (risN ms (i + 1) && ((i + 1 == 0) || decide (nth ms (i + 1 - 1) < nth ms (i + 1)))) = _
  rw [hr, beq_eq_false_iff_ne.2 (show i + 1 ≠ 0 by omega)]
  rfl
set_option maxHeartbeats 4000000 in
theorem Qc7 (ms : List Int) (a_m : Option Addr) (c_m B : Nat) (w : World) (hml : ms.length ≤ 1000000) (hm : RdK .i64 B ms (.slice a_m ms.length c_m) w) : Calls Try.prog 121 #[.slice a_m ms.length c_m] w (Ret w (.bool (risV ms))) := by
 refine enter 20 [(0, .slice a_m ms.length c_m)] Try.func121 rfl rfl kj rfl ?_
 refine wp_seq_k fun K1 hK1 => ?_
 refine Qae ?_
 refine Qab (.bool false) 2 rfl kj kj ?_
 refine Qaf ?_
 refine hK1 _ _ ?_
 refine wp_seq_k fun K2 hK2 => ?_
 refine wp_seq_k fun K3 hK3 => ?_
 refine Qae ?_
 refine Qab (.int .i64 1) 3 rfl kj kj ?_
 refine Qaf ?_
 refine hK3 _ _ ?_
 refine wp_block ?_
 refine Qbl (fun (s1 : Nat) => [(0, .slice a_m ms.length c_m), (3, .int .i64 (((s1 + 1) : Nat) : Int))]) (fun (s1 : Nat) W => (s1 + 1 ≤ ms.length ∨ s1 = 0) ∧ (risN ms (s1 + 1) = true) ∧ (Ext w W) ∧ (Ext w W)) (fun (s1 : Nat) => ms.length - s1) 0 ⟨rfl, rfl, trivial⟩ ⟨(.inr rfl), rfl, (Rely.Ext.refl w), (Rely.Ext.refl w)⟩ fun s1 X1 V1 hI1 => ?_
 obtain ⟨ip, hs1⟩ : ∃ z, z = s1 := ⟨_, rfl⟩
 subst hs1
 obtain ⟨hi, hr, kk1, xx1⟩ := hI1
 replace hi : ip + 1 ≤ ms.length ∨ ip = 0 := hi
 replace hr : risN ms (ip + 1) = true := hr
 replace kk1 : Ext w V1 := kk1
 replace xx1 : Ext w V1 := xx1
 have e1 := kk1
 refine wp_seq_k fun K4 hK4 => ?_
 refine wp_seq_k fun K5 hK5 => ?_
 refine Qae ?_
 refine Qab (.int .i64 (((ip + 1) : Nat) : Int)) 4 rfl kj kj ?_
 refine Qab (.slice a_m ms.length c_m) 5 rfl kj kj ?_
 refine Qab (.int .i64 ((ms.length : Nat) : Int)) 6 rfl kj kj ?_
 refine Qab (.bool (decide ((((ip + 1) : Nat) : Int) < ((ms.length : Nat) : Int)))) 7 rfl kj kj ?_
 refine Qaf ?_
 refine hK5 _ _ ?_
 refine QaM (t := decide ((((ip + 1) : Nat) : Int) < ((ms.length : Nat) : Int))) kj (fun c6 => ?_) (fun c6 => ?_)
 ·skip
  have hlt7 : ip + 1 < ms.length := by have := of_decide_eq_true c6; omega
  have hnm_7 : (ms).length = ms.length := rfl
  obtain ⟨gcm_7, ocm_7, ham_7, hlm_7, hcm_7⟩ := QbP (RdK.here (RdK.ext hm xx1)) (by rw [hnm_7]; omega)
  refine wp_skip ?_
  refine hK4 _ _ ?_
  refine wp_seq_k fun K8 hK8 => ?_
  refine wp_block ?_
  refine wp_seq_k fun K9 hK9 => ?_
  refine QaU kj fun W2 e2 => ?_
  have x2 : Ext w W2 := Ext.tr xx1 e2
  refine Qar 0 (.slice a_m ms.length c_m) 10 rfl rfl kj kj (fun _ _ _ h => h) (fun W hR => by kernel_rfl) ?_
  refine Qar 1 (.int .i64 (((ip + 1) : Nat) : Int)) 11 rfl rfl kj kj (fun _ _ _ h => h) (fun W hR => by kernel_rfl) ?_
  refine Qar 2 (.int .i64 (((ip : Nat) : Int))) 12 rfl rfl kj kj (fun _ _ _ h => h) (fun W hR => (Qax (u := .int .i64 (IntKind.i64.wrap ((((ip + 1) : Nat) : Int) - 1))) kj (congrArg (Value.int .i64) (by rw [show (((ip + 1 : Nat) : Int)) - 1 = ((ip : Nat) : Int) by omega]; exact IntWalk.i64_in _ (by omega))))) ?_
  refine Qar 3 (.pointer (some ⟨gcm_7, ocm_7 + ip, none⟩)) 13 rfl rfl kj kj (fun _ _ _ h => h) (fun W hR => (QaH 41 _ _ .i64 ip gcm_7 ocm_7 ms.length c_m 3 a_m _ ham_7 rfl rfl kj kj kj kj (Nat.lt_of_lt_of_eq (show ip < ms.length by omega) hnm_7.symm))) ?_
  have y1_2 : Ext V1 W2 := (Rely.Ext.trans (Rely.Ext.refl V1) e2)
  refine Qar 4 (.int .i64 (nth (ms) (ip))) 14 rfl rfl kj kj (fun _ _ _ h => h) (fun W hR => (Qa9 3 _ _ (.int .i64 (nth (ms) (ip))) ((Below.cell (Rely.Ext.trans y1_2 hR) hlm_7).trans (hcm_7 ip (Nat.lt_of_lt_of_eq (show ip < ms.length by omega) hnm_7.symm))) rfl kj kj)) ?_
  refine Qar 5 (.slice a_m ms.length c_m) 15 rfl rfl kj kj (fun _ _ _ h => h) (fun W hR => by kernel_rfl) ?_
  refine Qar 6 (.int .i64 (((ip + 1) : Nat) : Int)) 16 rfl rfl kj kj (fun _ _ _ h => h) (fun W hR => by kernel_rfl) ?_
  refine Qar 7 (.pointer (some ⟨gcm_7, ocm_7 + (ip + 1), none⟩)) 17 rfl rfl kj kj (fun _ _ _ h => h) (fun W hR => (QaH 41 _ _ .i64 (ip + 1) gcm_7 ocm_7 ms.length c_m 3 a_m _ ham_7 rfl rfl kj kj kj kj (Nat.lt_of_lt_of_eq (show (ip + 1) < ms.length by omega) hnm_7.symm))) ?_
  refine Qar 8 (.int .i64 (nth (ms) ((ip + 1)))) 18 rfl rfl kj kj (fun _ _ _ h => h) (fun W hR => (Qa9 3 _ _ (.int .i64 (nth (ms) ((ip + 1)))) ((Below.cell (Rely.Ext.trans y1_2 hR) hlm_7).trans (hcm_7 (ip + 1) (Nat.lt_of_lt_of_eq (show (ip + 1) < ms.length by omega) hnm_7.symm))) rfl kj kj)) ?_
  refine Qar 9 (.bool (decide ((nth (ms) (ip)) ≥ (nth (ms) ((ip + 1)))))) 19 rfl rfl kj kj (fun _ _ _ h => h) (fun W hR => by kernel_rfl) ?_
  refine QbH kj ?_
  refine hK9 _ _ ?_
  refine QaM (t := decide ((nth (ms) (ip)) ≥ (nth (ms) ((ip + 1))))) kj (fun c10 => ?_) (fun c10 => ?_)
  ·skip
   have hV : risV ms = false := by
    have hge := of_decide_eq_true c10
    exact QcR ms (ip + 1 + 1) (by rw [Qd1 ms ip hr]; exact decide_eq_false (by omega)) _ (by omega)
   refine wp_seq_k fun K11 hK11 => ?_
   refine Qae ?_
   refine Qab (.bool false) 2 rfl kj kj ?_
   refine Qaf ?_
   refine hK11 _ _ ?_
   refine wp_ret ?_
   repeat (first | with_reducible refine goR1 ?_ | with_reducible refine goR2 ?_)
   exact (show bodyPost _ _ _ .ret _ _ from ret1 (.bool false) rfl (Qaw kj) ⟨by rw [hV], x2⟩)
  ·skip
   have hr2 : risN ms (ip + 1 + 1) = true := by
    have hge := of_decide_eq_false c10
    rw [Qd1 ms ip hr]; exact decide_eq_true (by omega)
   refine wp_skip ?_
   refine hK8 _ _ ?_
   refine Qae ?_
   refine Qab (.int .i64 (((ip + 1) : Nat) : Int)) 8 rfl kj kj ?_
   refine Qab (.int .i64 (((ip + 1) + 1 : Nat) : Int)) 9 rfl kj (Qax (u := .int .i64 (IntKind.i64.wrap ((((ip + 1) : Nat) : Int) + 1))) kj (congrArg (Value.int .i64) (i64n _ _ (by omega) (by omega)))) ?_
   refine Qab (.int .i64 (((ip + 1) + 1 : Nat) : Int)) 3 rfl kj kj ?_
   refine Qaf ?_
   have y0_2 : Ext w W2 := (Rely.Ext.trans e1 e2)
   repeat (first | with_reducible refine goX1 ?_ | with_reducible refine goX2 ?_ | with_reducible refine goX3 ?_)
   exact Qbb (ip + 1) ⟨rfl, rfl, trivial⟩ ⟨(by omega), hr2, y0_2, x2⟩ (by omega)
 ·skip
  have hV : risV ms = true := by
   have hge := of_decide_eq_false c6
   unfold risV
   rcases hi with h | h
   ·rw [show ms.length = ip + 1 by omega]; exact hr
   ·rcases Nat.eq_zero_or_pos ms.length with h0 | h0
    ·rw [h0]; rfl
    ·rw [show ms.length = ip + 1 by omega]; exact hr
  refine wp_exit ?_
  refine hK2 _ _ ?_
  refine wp_seq_k fun K12 hK12 => ?_
  refine Qae ?_
  refine Qab (.bool true) 2 rfl kj kj ?_
  refine Qaf ?_
  refine hK12 _ _ ?_
  refine wp_ret ?_
  repeat (first | with_reducible refine goR1 ?_ | with_reducible refine goR2 ?_)
  exact (show bodyPost _ _ _ .ret _ _ from ret1 (.bool true) rfl (Qaw kj) ⟨by rw [hV], xx1⟩)
end Go.Proofs.Ytfelfmchachljaa.Wr
end
section
namespace Go.Proofs.Ytfelfmchachljaa.Wr
open Go Go.RowKit
open Rely Auto Own Sha
set_option linter.unusedVariables false
set_option linter.unusedSimpArgs false
def QbW (s : Option (List Int)) (ms : List Int) : Option (List Int) := ms.foldl QaI (numS s ((ms.length : Nat) : Int) 1)
theorem Qer (n : Int) : QaI none n = none := by rw [Qco]; cases inB n 31 <;> rfl
theorem Qbt : ∀ ms : List Int, ms.foldl QaI none = none
  | [] => rfl
  | m :: r => by rw [List.foldl_cons, Qer]; exact Qbt r
theorem Qec (ms : List Int) (i : Nat) (h : i < ms.length) : ms.drop i = nth ms i :: ms.drop (i + 1) := by
  rw [List.drop_eq_getElem_cons h]
  congr 1
  unfold nth
  rw [List.getD_eq_getElem?_getD, List.getElem?_eq_getElem h]
  rfl
theorem Qc9 {k : IntKind} {base gw : Nat} {w W : World} {ys : List Int} {v : Value} (h : RdK k base ys v w) (q : GW base gw w W) (hb : base ≤ gw) : RdK k base ys v W := h.keep q.size fun g hg hl => q.block g hl (by omega) (.inl hg)
set_option maxHeartbeats 4000000 in
theorem QcT (base gw : Nat) (s : Option (List Int)) (ms : List Int) (a_m : Option Addr) (c_m : Nat) (w : World) (hbw : base ≤ w.heap.size) (hbg : base ≤ gw) (h : WSt base gw s w) (hml : ms.length ≤ 1000000) (hm : RdK .i64 base ms (.slice a_m ms.length c_m) w) : Calls Try.prog 122 #[.pointer (some ⟨gw, 0, none⟩), .slice a_m ms.length c_m, .func (.func 106) #[] #[]] w (fun e W => e = .returned (.tuple #[]) ∧ GW base gw w W ∧ WSt base gw (QbW s ms) W) := by
 have hgw := h.lt
 refine enter 27 [(0, .pointer (some ⟨gw, 0, none⟩)), (1, .slice a_m ms.length c_m), (2, .func (.func 106) #[] #[])] Try.func122 rfl rfl kj rfl ?_
 refine wp_seq_k fun K1 hK1 => ?_
 refine Qae ?_
 refine Qab (.pointer (some ⟨gw, 0, none⟩)) 8 rfl kj kj ?_
 refine Qab (.slice a_m ms.length c_m) 9 rfl kj kj ?_
 refine Qab (.int .i64 ((ms.length : Nat) : Int)) 10 rfl kj kj ?_
 refine Qal (fun v W' => v = .tuple #[] ∧ GW base gw w W' ∧ WSt base gw (numS s ((ms.length : Nat) : Int) 1) W') 105 #[.pointer (some ⟨gw, 0, none⟩), .int .i64 ((ms.length : Nat) : Int), .int .i64 1] 11 rfl kj kj ((Qbj base gw s ((ms.length : Nat) : Int) 1 _ (Nat.le_trans hbw (GW.refl base gw w).size) h (by decide)).mono (by rintro e w' ⟨rfl, h1, h2⟩; exact ⟨_, rfl, rfl, h1, h2⟩)) fun v2 W1 h2 => ?_
 obtain ⟨rfl, q1, ws2⟩ := h2
 have x1 : GW base gw w W1 := GW.trans (GW.refl base gw w) q1
 refine Qaf ?_
 refine hK1 _ _ ?_
 refine wp_seq_k fun K3 hK3 => ?_
 refine Qae ?_
 refine Qab (.slice a_m ms.length c_m) 12 rfl kj kj ?_
 refine Qab (.int .i64 ((ms.length : Nat) : Int)) 13 rfl kj kj ?_
 refine Qab (.int .i64 0) 14 rfl kj kj ?_
 refine Qaf ?_
 refine hK3 _ _ ?_
 refine wp_block ?_
 refine Qbl (fun (s1 : Nat × Option (List Int)) => [(0, .pointer (some ⟨gw, 0, none⟩)), (2, .func (.func 106) #[] #[]), (12, .slice a_m ms.length c_m), (13, .int .i64 ((ms.length : Nat) : Int)), (14, .int .i64 ((s1.1 : Nat) : Int))]) (fun (s1 : Nat × Option (List Int)) W => (s1.1 ≤ ms.length) ∧ (WSt base gw s1.2 W) ∧ ((ms.drop s1.1).foldl QaI s1.2 = QbW s ms) ∧ (GW base gw w W)) (fun (s1 : Nat × Option (List Int)) => ms.length - s1.1) (0, numS s ((ms.length : Nat) : Int) 1) ⟨rfl, rfl, rfl, rfl, rfl, trivial⟩ ⟨(Nat.zero_le _), ws2, rfl, x1⟩ fun s1 X1 V1 hI1 => ?_
 obtain ⟨i, sc⟩ := s1
 obtain ⟨hi, hws, hnum, xx1⟩ := hI1
 replace hi : i ≤ ms.length := hi
 replace hws : WSt base gw sc V1 := hws
 replace hnum : (ms.drop i).foldl QaI sc = QbW s ms := hnum
 replace xx1 : GW base gw w V1 := xx1
 refine wp_seq_k fun K4 hK4 => ?_
 refine Qae ?_
 refine Qab (.bool (decide (((i : Nat) : Int) < ((ms.length : Nat) : Int)))) 15 rfl kj kj ?_
 refine Qaf ?_
 refine hK4 _ _ ?_
 refine wp_seq_k fun K5 hK5 => ?_
 refine QaM (t := decide (((i : Nat) : Int) < ((ms.length : Nat) : Int))) kj (fun c6 => ?_) (fun c6 => ?_)
 ·skip
  have hlt15 : i < ms.length := by have := of_decide_eq_true c6; omega
  have hnm_7 : (ms).length = ms.length := rfl
  obtain ⟨gcm_7, ocm_7, ham_7, hlm_7, hcm_7⟩ := QbP (RdK.here (Qc9 hm xx1 hbg)) (by rw [hnm_7]; omega)
  obtain ⟨u8, xs8, bad, rb8, -, -, -, hsc⟩ := id hws
  refine wp_skip ?_
  refine hK5 _ _ ?_
  refine wp_seq_k fun K10 hK10 => ?_
  refine wp_block ?_
  refine wp_seq_k fun K11 hK11 => ?_
  refine Qae ?_
  refine Qab (.pointer (some ⟨gcm_7, ocm_7 + i, none⟩)) 16 rfl kj (QaH 41 _ _ .i64 i gcm_7 ocm_7 ms.length c_m 3 a_m _ ham_7 rfl rfl kj kj kj kj (Nat.lt_of_lt_of_eq (show i < ms.length by omega) hnm_7.symm)) ?_
  refine Qab (.int .i64 (nth (ms) (i))) 17 rfl kj (Qa9 3 _ _ (.int .i64 (nth (ms) (i))) (hcm_7 i (Nat.lt_of_lt_of_eq (show i < ms.length by omega) hnm_7.symm)) rfl kj kj) ?_
  refine Qab (.int .i64 (nth (ms) (i))) 7 rfl kj kj ?_
  refine Qaf ?_
  refine hK11 _ _ ?_
  refine wp_seq_k fun K12 hK12 => ?_
  refine wp_seq_k fun K13 hK13 => ?_
  refine Qae ?_
  refine Qab (.pointer (some ⟨gw, 0, none⟩)) 18 rfl kj kj ?_
  refine Qab (.pointer (some ⟨gw, 0, none⟩)) 19 rfl kj kj ?_
  refine Qab (.pointer (some ⟨gw, 1, none⟩)) 20 rfl kj kj ?_
  refine Qab (.bool bad) 21 rfl kj (Qah 4 _ gw 1 174 _ (.bool bad) _ rb8 rfl kj kj kj) ?_
  refine Qaf ?_
  refine hK13 _ _ ?_
  refine QaM (t := bad) kj (fun c14 => ?_) (fun c14 => ?_)
  ·skip
   have hbad : bad = true := c14
   have h9 : sc = none := by rw [hsc, hbad]; rfl
   have h8 : QbW s ms = none := by rw [← hnum, h9]; exact Qbt _
   refine wp_ret ?_
   repeat (first | with_reducible refine goR1 ?_ | with_reducible refine goR2 ?_)
   exact (show bodyPost _ _ _ .ret _ _ from ret0 rfl ⟨rfl, xx1, by rw [h8]; rw [h9] at hws; exact hws⟩)
  ·skip
   refine wp_skip ?_
   refine hK12 _ _ ?_
   refine Qae ?_
   refine Qab (.func (.func 106) #[] #[]) 22 rfl kj kj ?_
   refine Qab (.pointer (some ⟨gw, 0, none⟩)) 23 rfl kj kj ?_
   refine Qab (.int .i64 (nth (ms) (i))) 24 rfl kj kj ?_
   refine Qal (fun v W' => v = .tuple #[] ∧ GW base gw V1 W' ∧ WSt base gw (QaI sc (nth ms i)) W') 106 #[.pointer (some ⟨gw, 0, none⟩), .int .i64 (nth (ms) (i))] 25 rfl kj kj ((Qd5 base gw sc (nth ms i) _ (Nat.le_trans hbw xx1.size) hws).mono (by rintro e w' ⟨rfl, h1, h2⟩; exact ⟨_, rfl, rfl, h1, h2⟩)) fun v15 W3 h15 => ?_
   obtain ⟨rfl, q3, ws15⟩ := h15
   have x3 : GW base gw w W3 := GW.trans xx1 q3
   refine Qaf ?_
   refine hK10 _ _ ?_
   refine Qae ?_
   refine Qab (.int .i64 ((i + 1 : Nat) : Int)) 26 rfl kj (Qax (u := .int .i64 (IntKind.i64.wrap (((i : Nat) : Int) + 1))) kj (congrArg (Value.int .i64) (i64n _ _ (by omega) (by omega)))) ?_
   refine Qab (.int .i64 ((i + 1 : Nat) : Int)) 14 rfl kj kj ?_
   refine Qaf ?_
   repeat (first | with_reducible refine goX1 ?_ | with_reducible refine goX2 ?_ | with_reducible refine goX3 ?_)
   exact Qbb ((i + 1), QaI sc (nth ms i)) ⟨rfl, rfl, rfl, rfl, rfl, trivial⟩ ⟨(by omega), ws15, (by rw [← hnum, Qec ms i hlt15]; rfl), x3⟩ (by omega)
 ·skip
  have heq15 : i = ms.length := by have := of_decide_eq_false c6; omega
  refine wp_exit ?_
  repeat (first | with_reducible refine goX1 ?_ | with_reducible refine goX2 ?_ | with_reducible refine goX3 ?_)
  exact (show bodyPost _ _ _ .normal _ _ from end0 rfl ⟨rfl, xx1, by have h9 : sc = QbW s ms := (by have h7 := hnum; rw [heq15, List.drop_length] at h7; exact h7); rw [h9] at hws; exact hws⟩)
end Go.Proofs.Ytfelfmchachljaa.Wr
end
section
namespace Go.Proofs.Ytfelfmchachljaa.Wr
open Go Go.RowKit
open Rely Auto Own Sha
set_option linter.unusedVariables false
set_option linter.unusedSimpArgs false
def QbX (s : Option (List Int)) (us : Bool) (nm : Int) (key sg pa ms : List Int) : Option (List Int) :=
  QbW (Qa0 (rawS (rawS (rawS (numS (bif us then numS s 1 1 else numS (Qa0 s (Qa7 us nm key sg pa ms)) 0 1) nm 1) key) sg) pa) (risV ms)) ms
set_option maxHeartbeats 4000000 in
theorem Qen (base gw : Nat) (s : Option (List Int)) (nm : Int) (key sg pa ms : List Int) (a_m : Option Addr) (c_m : Nat) (w : World) (hbw : base ≤ w.heap.size) (hbg : base ≤ gw) (h : WSt base gw s w) (hkl : key.length = 32) (hgl : sg.length = 32) (hpl : pa.length = 32) (hkb : Qag key) (hgb : Qag sg) (hpb : Qag pa) (hml : ms.length ≤ 1000000) (hm : RdK .i64 base ms (.slice a_m ms.length c_m) w) : Calls Try.prog 95 #[.pointer (some ⟨gw, 0, none⟩), .agg (cat [#[.bool true], #[.int .i64 nm], ints .u8 (key), ints .u8 (sg), ints .u8 (pa), #[.slice a_m ms.length c_m]])] w (fun e W => e = .returned (.tuple #[]) ∧ GW base gw w W ∧ WSt base gw (QbX s true nm key sg pa ms) W) := by
  have hgw := h.lt
  refine enter 39 [(0, .pointer (some ⟨gw, 0, none⟩)), (1, .agg (cat [#[.bool true], #[.int .i64 nm], ints .u8 (key), ints .u8 (sg), ints .u8 (pa), #[.slice a_m ms.length c_m]]))] Try.func95 rfl rfl kj rfl ?_
  refine wp_seq_k fun K1 hK1 => ?_
  refine Qae ?_
  refine Qav (cat [#[.bool true], #[.int .i64 nm], ints .u8 (key), ints .u8 (sg), ints .u8 (pa), #[.slice a_m ms.length c_m]]) 43 3 rfl kj kj fun g2 W1 l2 e1 r2_1 => ?_
  have x1 : GW base gw w W1 := GW.ext (GW.refl base gw w) e1
  have ws3 := WSt.ext h e1
  have b2 : w.heap.size ≤ g2 := Nat.le_trans (GW.refl base gw w).size l2
  refine Qaf ?_
  refine hK1 _ _ ?_
  refine wp_seq_k fun K4 hK4 => ?_
  refine wp_seq_k fun K5 hK5 => ?_
  refine Qae ?_
  refine Qab (.pointer (some ⟨g2, 0, none⟩)) 4 rfl kj kj ?_
  refine Qab (.bool true) 5 rfl kj (Qah 4 _ g2 0 43 _ (.bool true) _ r2_1 rfl kj (Qak [] [#[.bool true]] [#[.int .i64 nm], ints .u8 (key), ints .u8 (sg), ints .u8 (pa), #[.slice a_m ms.length c_m]] 0 kj 0 _ rfl) kj) ?_
  refine Qaf ?_
  refine hK5 _ _ ?_
  refine cond_true kj ?_
  refine Qae ?_
  refine Qab (.pointer (some ⟨gw, 0, none⟩)) 6 rfl kj kj ?_
  refine Qal (fun v W' => v = .tuple #[] ∧ GW base gw W1 W' ∧ WSt base gw (numS (s) 1 1) W') 105 #[.pointer (some ⟨gw, 0, none⟩), .int .i64 1, .int .i64 1] 7 rfl kj kj ((Qbj base gw _ 1 1 _ (Nat.le_trans hbw x1.size) ws3 (by decide)).mono (by rintro e w' ⟨rfl, h1, h2⟩; exact ⟨_, rfl, rfl, h1, h2⟩)) fun v6 W2 h6 => ?_
  obtain ⟨rfl, q2, ws6⟩ := h6
  have x2 : GW base gw w W2 := GW.trans x1 q2
  refine Qaf ?_
  refine hK4 _ _ ?_
  refine wp_seq_k fun K7 hK7 => ?_
  refine Qae ?_
  refine Qab (.pointer (some ⟨gw, 0, none⟩)) 14 rfl kj kj ?_
  refine Qab (.pointer (some ⟨g2, 1, none⟩)) 15 rfl kj kj ?_
  have r2_2 := (GW.row q2 r2_1 (by decide) (Ne.symm (Nat.ne_of_lt (Nat.lt_of_lt_of_le hgw b2))))
  refine Qab (.int .i64 nm) 16 rfl kj (Qah 3 _ g2 1 43 _ (.int .i64 nm) _ r2_2 rfl kj (Qak [#[.bool true]] [#[.int .i64 nm]] [ints .u8 (key), ints .u8 (sg), ints .u8 (pa), #[.slice a_m ms.length c_m]] 1 kj 0 _ rfl) kj) ?_
  refine Qal (fun v W' => v = .tuple #[] ∧ GW base gw W2 W' ∧ WSt base gw (numS (numS (s) 1 1) nm 1) W') 105 #[.pointer (some ⟨gw, 0, none⟩), .int .i64 nm, .int .i64 1] 17 rfl kj kj ((Qbj base gw _ nm 1 _ (Nat.le_trans hbw x2.size) ws6 (by decide)).mono (by rintro e w' ⟨rfl, h1, h2⟩; exact ⟨_, rfl, rfl, h1, h2⟩)) fun v8 W3 h8 => ?_
  obtain ⟨rfl, q3, ws8⟩ := h8
  have x3 : GW base gw w W3 := GW.trans x2 q3
  refine Qaf ?_
  refine hK7 _ _ ?_
  refine wp_seq_k fun K9 hK9 => ?_
  refine Qae ?_
  refine Qab (.pointer (some ⟨gw, 0, none⟩)) 18 rfl kj kj ?_
  refine Qab (.pointer (some ⟨g2, 2, none⟩)) 19 rfl kj kj ?_
  refine Qab (.slice (some ⟨g2, 2, none⟩) 32 32) 20 rfl kj kj ?_
  have r2_3 := (GW.row q3 r2_2 (by decide) (Ne.symm (Nat.ne_of_lt (Nat.lt_of_lt_of_le hgw b2))))
  refine Qal (fun v W' => v = .tuple #[] ∧ GW base gw W3 W' ∧ WSt base gw (rawS (numS (numS (s) 1 1) nm 1) key) W') 104 #[.pointer (some ⟨gw, 0, none⟩), .slice (some ⟨g2, 2, none⟩) 32 32] 21 rfl kj kj ((rawW base gw _ key _ _ (Nat.le_trans hbw x3.size) ws8 (by omega) hkb (fun W e => (QaC 2 hkl (ExtB.row e r2_3 (Ne.symm (Nat.ne_of_lt (Nat.lt_of_lt_of_le hgw b2)))) (fun i hi => Qa8 [#[.bool true], #[.int .i64 nm]] [ints .u8 (sg), ints .u8 (pa), #[.slice a_m ms.length c_m]] key 2 i (2 + i) kj rfl (by rw [hkl]; exact hi)) (Qay (ExtB.row e r2_3 (Ne.symm (Nat.ne_of_lt (Nat.lt_of_lt_of_le hgw b2))))) (Nat.le_refl _) (by decide)))).mono (by rintro e w' ⟨rfl, h1, h2⟩; exact ⟨_, rfl, rfl, h1, h2⟩)) fun v10 W4 h10 => ?_
  obtain ⟨rfl, q4, ws10⟩ := h10
  have x4 : GW base gw w W4 := GW.trans x3 q4
  refine Qaf ?_
  refine hK9 _ _ ?_
  refine wp_seq_k fun K11 hK11 => ?_
  refine Qae ?_
  refine Qab (.pointer (some ⟨gw, 0, none⟩)) 22 rfl kj kj ?_
  refine Qab (.pointer (some ⟨g2, 34, none⟩)) 23 rfl kj kj ?_
  refine Qab (.slice (some ⟨g2, 34, none⟩) 32 32) 24 rfl kj kj ?_
  have r2_4 := (GW.row q4 r2_3 (by decide) (Ne.symm (Nat.ne_of_lt (Nat.lt_of_lt_of_le hgw b2))))
  refine Qal (fun v W' => v = .tuple #[] ∧ GW base gw W4 W' ∧ WSt base gw (rawS (rawS (numS (numS (s) 1 1) nm 1) key) sg) W') 104 #[.pointer (some ⟨gw, 0, none⟩), .slice (some ⟨g2, 34, none⟩) 32 32] 25 rfl kj kj ((rawW base gw _ sg _ _ (Nat.le_trans hbw x4.size) ws10 (by omega) hgb (fun W e => (QaC 34 hgl (ExtB.row e r2_4 (Ne.symm (Nat.ne_of_lt (Nat.lt_of_lt_of_le hgw b2)))) (fun i hi => Qa8 [#[.bool true], #[.int .i64 nm], ints .u8 (key)] [ints .u8 (pa), #[.slice a_m ms.length c_m]] sg 34 i (34 + i) (by rw [Qaa, Qaa, Qaa]; simp only [Array.size_append, cat, ((Qac _ _).trans hkl)]; rfl) rfl (by rw [hgl]; exact hi)) (Qay (ExtB.row e r2_4 (Ne.symm (Nat.ne_of_lt (Nat.lt_of_lt_of_le hgw b2))))) (Nat.le_refl _) (by decide)))).mono (by rintro e w' ⟨rfl, h1, h2⟩; exact ⟨_, rfl, rfl, h1, h2⟩)) fun v12 W5 h12 => ?_
  obtain ⟨rfl, q5, ws12⟩ := h12
  have x5 : GW base gw w W5 := GW.trans x4 q5
  refine Qaf ?_
  refine hK11 _ _ ?_
  refine wp_seq_k fun K13 hK13 => ?_
  refine Qae ?_
  refine Qab (.pointer (some ⟨gw, 0, none⟩)) 26 rfl kj kj ?_
  refine Qab (.pointer (some ⟨g2, 66, none⟩)) 27 rfl kj kj ?_
  refine Qab (.slice (some ⟨g2, 66, none⟩) 32 32) 28 rfl kj kj ?_
  have r2_5 := (GW.row q5 r2_4 (by decide) (Ne.symm (Nat.ne_of_lt (Nat.lt_of_lt_of_le hgw b2))))
  refine Qal (fun v W' => v = .tuple #[] ∧ GW base gw W5 W' ∧ WSt base gw (rawS (rawS (rawS (numS (numS (s) 1 1) nm 1) key) sg) pa) W') 104 #[.pointer (some ⟨gw, 0, none⟩), .slice (some ⟨g2, 66, none⟩) 32 32] 29 rfl kj kj ((rawW base gw _ pa _ _ (Nat.le_trans hbw x5.size) ws12 (by omega) hpb (fun W e => (QaC 66 hpl (ExtB.row e r2_5 (Ne.symm (Nat.ne_of_lt (Nat.lt_of_lt_of_le hgw b2)))) (fun i hi => Qa8 [#[.bool true], #[.int .i64 nm], ints .u8 (key), ints .u8 (sg)] [#[.slice a_m ms.length c_m]] pa 66 i (66 + i) (by rw [Qaa, Qaa, Qaa, Qaa]; simp only [Array.size_append, cat, ((Qac _ _).trans hgl), ((Qac _ _).trans hkl)]; rfl) rfl (by rw [hpl]; exact hi)) (Qay (ExtB.row e r2_5 (Ne.symm (Nat.ne_of_lt (Nat.lt_of_lt_of_le hgw b2))))) (Nat.le_refl _) (by decide)))).mono (by rintro e w' ⟨rfl, h1, h2⟩; exact ⟨_, rfl, rfl, h1, h2⟩)) fun v14 W6 h14 => ?_
  obtain ⟨rfl, q6, ws14⟩ := h14
  have x6 : GW base gw w W6 := GW.trans x5 q6
  refine Qaf ?_
  refine hK13 _ _ ?_
  refine wp_seq_k fun K15 hK15 => ?_
  refine Qae ?_
  refine Qab (.pointer (some ⟨gw, 0, none⟩)) 30 rfl kj kj ?_
  refine Qab (.pointer (some ⟨g2, 98, none⟩)) 31 rfl kj kj ?_
  have r2_6 := (GW.row q6 r2_5 (by decide) (Ne.symm (Nat.ne_of_lt (Nat.lt_of_lt_of_le hgw b2))))
  refine Qab (.slice a_m ms.length c_m) 32 rfl kj (Qah 41 _ g2 98 43 _ (.slice a_m ms.length c_m) _ r2_6 rfl kj (Qak [#[.bool true], #[.int .i64 nm], ints .u8 (key), ints .u8 (sg), ints .u8 (pa)] [#[.slice a_m ms.length c_m]] [] 98 (by rw [Qaa, Qaa, Qaa, Qaa, Qaa]; simp only [Array.size_append, cat, ((Qac _ _).trans hgl), ((Qac _ _).trans hkl), ((Qac _ _).trans hpl)]; rfl) 0 _ rfl) kj) ?_
  refine Qa3 (.bool (risV ms)) 121 #[.slice a_m ms.length c_m] 33 rfl kj kj (Qc7 ms _ _ _ _ hml (Qc9 hm x6 hbg)) fun W7 e7 => ?_
  have x7 : GW base gw w W7 := GW.ext x6 e7
  have ws16 := WSt.ext ws14 e7
  refine Qal (fun v W' => v = .tuple #[] ∧ GW base gw W7 W' ∧ WSt base gw (Qa0 (rawS (rawS (rawS (numS (numS (s) 1 1) nm 1) key) sg) pa) (risV ms)) W') 98 #[.pointer (some ⟨gw, 0, none⟩), .bool (risV ms)] 34 rfl kj kj ((QbF base gw _ (risV ms) _ ws16).mono (by rintro e w' ⟨rfl, h1, h2⟩; exact ⟨_, rfl, rfl, h1, h2⟩)) fun v17 W8 h17 => ?_
  obtain ⟨rfl, q8, ws17⟩ := h17
  have x8 : GW base gw w W8 := GW.trans x7 q8
  refine Qaf ?_
  refine hK15 _ _ ?_
  refine Qae ?_
  refine Qab (.pointer (some ⟨gw, 0, none⟩)) 35 rfl kj kj ?_
  refine Qab (.pointer (some ⟨g2, 98, none⟩)) 36 rfl kj kj ?_
  have r2_7 := (Qas r2_6 e7)
  have r2_8 := (GW.row q8 r2_7 (by decide) (Ne.symm (Nat.ne_of_lt (Nat.lt_of_lt_of_le hgw b2))))
  refine Qab (.slice a_m ms.length c_m) 37 rfl kj (Qah 41 _ g2 98 43 _ (.slice a_m ms.length c_m) _ r2_8 rfl kj (Qak [#[.bool true], #[.int .i64 nm], ints .u8 (key), ints .u8 (sg), ints .u8 (pa)] [#[.slice a_m ms.length c_m]] [] 98 (by rw [Qaa, Qaa, Qaa, Qaa, Qaa]; simp only [Array.size_append, cat, ((Qac _ _).trans hgl), ((Qac _ _).trans hkl), ((Qac _ _).trans hpl)]; rfl) 0 _ rfl) kj) ?_
  refine Qal (fun v W' => v = .tuple #[] ∧ GW base gw W8 W' ∧ WSt base gw (QbW (Qa0 (rawS (rawS (rawS (numS (numS (s) 1 1) nm 1) key) sg) pa) (risV ms)) ms) W') 122 #[.pointer (some ⟨gw, 0, none⟩), .slice a_m ms.length c_m, .func (.func 106) #[] #[]] 38 rfl kj kj ((QcT base gw _ ms _ _ _ (Nat.le_trans hbw x8.size) hbg ws17 hml (Qc9 hm x8 hbg)).mono (by rintro e w' ⟨rfl, h1, h2⟩; exact ⟨_, rfl, rfl, h1, h2⟩)) fun v18 W9 h18 => ?_
  obtain ⟨rfl, q9, ws18⟩ := h18
  have x9 : GW base gw w W9 := GW.trans x8 q9
  refine Qaf ?_
  repeat (first | with_reducible refine goX1 ?_ | with_reducible refine goX2 ?_ | with_reducible refine goX3 ?_)
  exact (show bodyPost _ _ _ .normal _ _ from end0 rfl ⟨rfl, x9, ws18⟩)
set_option maxHeartbeats 4000000 in
theorem QdI (base gw : Nat) (s : Option (List Int)) (nm : Int) (key sg pa ms : List Int) (a_m : Option Addr) (c_m : Nat) (w : World) (hbw : base ≤ w.heap.size) (hbg : base ≤ gw) (h : WSt base gw s w) (hkl : key.length = 32) (hgl : sg.length = 32) (hpl : pa.length = 32) (hkb : Qag key) (hgb : Qag sg) (hpb : Qag pa) (hml : ms.length ≤ 1000000) (hm : RdK .i64 base ms (.slice a_m ms.length c_m) w) : Calls Try.prog 95 #[.pointer (some ⟨gw, 0, none⟩), .agg (cat [#[.bool false], #[.int .i64 nm], ints .u8 (key), ints .u8 (sg), ints .u8 (pa), #[.slice a_m ms.length c_m]])] w (fun e W => e = .returned (.tuple #[]) ∧ GW base gw w W ∧ WSt base gw (QbX s false nm key sg pa ms) W) := by
  have hgw := h.lt
  refine enter 39 [(0, .pointer (some ⟨gw, 0, none⟩)), (1, .agg (cat [#[.bool false], #[.int .i64 nm], ints .u8 (key), ints .u8 (sg), ints .u8 (pa), #[.slice a_m ms.length c_m]]))] Try.func95 rfl rfl kj rfl ?_
  refine wp_seq_k fun K1 hK1 => ?_
  refine Qae ?_
  refine Qav (cat [#[.bool false], #[.int .i64 nm], ints .u8 (key), ints .u8 (sg), ints .u8 (pa), #[.slice a_m ms.length c_m]]) 43 3 rfl kj kj fun g2 W1 l2 e1 r2_1 => ?_
  have x1 : GW base gw w W1 := GW.ext (GW.refl base gw w) e1
  have ws3 := WSt.ext h e1
  have b2 : w.heap.size ≤ g2 := Nat.le_trans (GW.refl base gw w).size l2
  refine Qaf ?_
  refine hK1 _ _ ?_
  refine wp_seq_k fun K4 hK4 => ?_
  refine wp_seq_k fun K5 hK5 => ?_
  refine Qae ?_
  refine Qab (.pointer (some ⟨g2, 0, none⟩)) 4 rfl kj kj ?_
  refine Qab (.bool false) 5 rfl kj (Qah 4 _ g2 0 43 _ (.bool false) _ r2_1 rfl kj (Qak [] [#[.bool false]] [#[.int .i64 nm], ints .u8 (key), ints .u8 (sg), ints .u8 (pa), #[.slice a_m ms.length c_m]] 0 kj 0 _ rfl) kj) ?_
  refine Qaf ?_
  refine hK5 _ _ ?_
  refine cond_false kj ?_
  refine wp_seq_k fun K6 hK6 => ?_
  refine Qae ?_
  refine Qab (.pointer (some ⟨gw, 0, none⟩)) 8 rfl kj kj ?_
  refine Qab (.agg (cat [#[.bool false], #[.int .i64 nm], ints .u8 (key), ints .u8 (sg), ints .u8 (pa), #[.slice a_m ms.length c_m]])) 9 rfl kj (Qa4 43 _ g2 43 _ _ r2_1 rfl kj kj (isz (n := 99) kj (by rw [Qaa, Qaa, Qaa, Qaa, Qaa, Qaa]; simp only [Array.size_append, cat, ((Qac _ _).trans hgl), ((Qac _ _).trans hkl), ((Qac _ _).trans hpl)]; rfl))) ?_
  refine Qa3 (.bool (Qa7 false nm key sg pa ms)) 107 #[.agg (cat [#[.bool false], #[.int .i64 nm], ints .u8 (key), ints .u8 (sg), ints .u8 (pa), #[.slice a_m ms.length c_m]])] 10 rfl kj kj (Qd9 false nm key sg pa ms _ _ _ hkl hgl hpl) fun W2 e2 => ?_
  have x2 : GW base gw w W2 := GW.ext x1 e2
  have ws7 := WSt.ext ws3 e2
  refine Qal (fun v W' => v = .tuple #[] ∧ GW base gw W2 W' ∧ WSt base gw (Qa0 (s) (Qa7 false nm key sg pa ms)) W') 98 #[.pointer (some ⟨gw, 0, none⟩), .bool (Qa7 false nm key sg pa ms)] 11 rfl kj kj ((QbF base gw _ (Qa7 false nm key sg pa ms) _ ws7).mono (by rintro e w' ⟨rfl, h1, h2⟩; exact ⟨_, rfl, rfl, h1, h2⟩)) fun v8 W3 h8 => ?_
  obtain ⟨rfl, q3, ws8⟩ := h8
  have x3 : GW base gw w W3 := GW.trans x2 q3
  refine Qaf ?_
  refine hK6 _ _ ?_
  refine Qae ?_
  refine Qab (.pointer (some ⟨gw, 0, none⟩)) 12 rfl kj kj ?_
  refine Qal (fun v W' => v = .tuple #[] ∧ GW base gw W3 W' ∧ WSt base gw (numS (Qa0 (s) (Qa7 false nm key sg pa ms)) 0 1) W') 105 #[.pointer (some ⟨gw, 0, none⟩), .int .i64 0, .int .i64 1] 13 rfl kj kj ((Qbj base gw _ 0 1 _ (Nat.le_trans hbw x3.size) ws8 (by decide)).mono (by rintro e w' ⟨rfl, h1, h2⟩; exact ⟨_, rfl, rfl, h1, h2⟩)) fun v9 W4 h9 => ?_
  obtain ⟨rfl, q4, ws9⟩ := h9
  have x4 : GW base gw w W4 := GW.trans x3 q4
  refine Qaf ?_
  refine hK4 _ _ ?_
  refine wp_seq_k fun K10 hK10 => ?_
  refine Qae ?_
  refine Qab (.pointer (some ⟨gw, 0, none⟩)) 14 rfl kj kj ?_
  refine Qab (.pointer (some ⟨g2, 1, none⟩)) 15 rfl kj kj ?_
  have r2_2 := (Qas r2_1 e2)
  have r2_3 := (GW.row q3 r2_2 (by decide) (Ne.symm (Nat.ne_of_lt (Nat.lt_of_lt_of_le hgw b2))))
  have r2_4 := (GW.row q4 r2_3 (by decide) (Ne.symm (Nat.ne_of_lt (Nat.lt_of_lt_of_le hgw b2))))
  refine Qab (.int .i64 nm) 16 rfl kj (Qah 3 _ g2 1 43 _ (.int .i64 nm) _ r2_4 rfl kj (Qak [#[.bool false]] [#[.int .i64 nm]] [ints .u8 (key), ints .u8 (sg), ints .u8 (pa), #[.slice a_m ms.length c_m]] 1 kj 0 _ rfl) kj) ?_
  refine Qal (fun v W' => v = .tuple #[] ∧ GW base gw W4 W' ∧ WSt base gw (numS (numS (Qa0 (s) (Qa7 false nm key sg pa ms)) 0 1) nm 1) W') 105 #[.pointer (some ⟨gw, 0, none⟩), .int .i64 nm, .int .i64 1] 17 rfl kj kj ((Qbj base gw _ nm 1 _ (Nat.le_trans hbw x4.size) ws9 (by decide)).mono (by rintro e w' ⟨rfl, h1, h2⟩; exact ⟨_, rfl, rfl, h1, h2⟩)) fun v11 W5 h11 => ?_
  obtain ⟨rfl, q5, ws11⟩ := h11
  have x5 : GW base gw w W5 := GW.trans x4 q5
  refine Qaf ?_
  refine hK10 _ _ ?_
  refine wp_seq_k fun K12 hK12 => ?_
  refine Qae ?_
  refine Qab (.pointer (some ⟨gw, 0, none⟩)) 18 rfl kj kj ?_
  refine Qab (.pointer (some ⟨g2, 2, none⟩)) 19 rfl kj kj ?_
  refine Qab (.slice (some ⟨g2, 2, none⟩) 32 32) 20 rfl kj kj ?_
  have r2_5 := (GW.row q5 r2_4 (by decide) (Ne.symm (Nat.ne_of_lt (Nat.lt_of_lt_of_le hgw b2))))
  refine Qal (fun v W' => v = .tuple #[] ∧ GW base gw W5 W' ∧ WSt base gw (rawS (numS (numS (Qa0 (s) (Qa7 false nm key sg pa ms)) 0 1) nm 1) key) W') 104 #[.pointer (some ⟨gw, 0, none⟩), .slice (some ⟨g2, 2, none⟩) 32 32] 21 rfl kj kj ((rawW base gw _ key _ _ (Nat.le_trans hbw x5.size) ws11 (by omega) hkb (fun W e => (QaC 2 hkl (ExtB.row e r2_5 (Ne.symm (Nat.ne_of_lt (Nat.lt_of_lt_of_le hgw b2)))) (fun i hi => Qa8 [#[.bool false], #[.int .i64 nm]] [ints .u8 (sg), ints .u8 (pa), #[.slice a_m ms.length c_m]] key 2 i (2 + i) kj rfl (by rw [hkl]; exact hi)) (Qay (ExtB.row e r2_5 (Ne.symm (Nat.ne_of_lt (Nat.lt_of_lt_of_le hgw b2))))) (Nat.le_refl _) (by decide)))).mono (by rintro e w' ⟨rfl, h1, h2⟩; exact ⟨_, rfl, rfl, h1, h2⟩)) fun v13 W6 h13 => ?_
  obtain ⟨rfl, q6, ws13⟩ := h13
  have x6 : GW base gw w W6 := GW.trans x5 q6
  refine Qaf ?_
  refine hK12 _ _ ?_
  refine wp_seq_k fun K14 hK14 => ?_
  refine Qae ?_
  refine Qab (.pointer (some ⟨gw, 0, none⟩)) 22 rfl kj kj ?_
  refine Qab (.pointer (some ⟨g2, 34, none⟩)) 23 rfl kj kj ?_
  refine Qab (.slice (some ⟨g2, 34, none⟩) 32 32) 24 rfl kj kj ?_
  have r2_6 := (GW.row q6 r2_5 (by decide) (Ne.symm (Nat.ne_of_lt (Nat.lt_of_lt_of_le hgw b2))))
  refine Qal (fun v W' => v = .tuple #[] ∧ GW base gw W6 W' ∧ WSt base gw (rawS (rawS (numS (numS (Qa0 (s) (Qa7 false nm key sg pa ms)) 0 1) nm 1) key) sg) W') 104 #[.pointer (some ⟨gw, 0, none⟩), .slice (some ⟨g2, 34, none⟩) 32 32] 25 rfl kj kj ((rawW base gw _ sg _ _ (Nat.le_trans hbw x6.size) ws13 (by omega) hgb (fun W e => (QaC 34 hgl (ExtB.row e r2_6 (Ne.symm (Nat.ne_of_lt (Nat.lt_of_lt_of_le hgw b2)))) (fun i hi => Qa8 [#[.bool false], #[.int .i64 nm], ints .u8 (key)] [ints .u8 (pa), #[.slice a_m ms.length c_m]] sg 34 i (34 + i) (by rw [Qaa, Qaa, Qaa]; simp only [Array.size_append, cat, ((Qac _ _).trans hkl)]; rfl) rfl (by rw [hgl]; exact hi)) (Qay (ExtB.row e r2_6 (Ne.symm (Nat.ne_of_lt (Nat.lt_of_lt_of_le hgw b2))))) (Nat.le_refl _) (by decide)))).mono (by rintro e w' ⟨rfl, h1, h2⟩; exact ⟨_, rfl, rfl, h1, h2⟩)) fun v15 W7 h15 => ?_
  obtain ⟨rfl, q7, ws15⟩ := h15
  have x7 : GW base gw w W7 := GW.trans x6 q7
  refine Qaf ?_
  refine hK14 _ _ ?_
  refine wp_seq_k fun K16 hK16 => ?_
  refine Qae ?_
  refine Qab (.pointer (some ⟨gw, 0, none⟩)) 26 rfl kj kj ?_
  refine Qab (.pointer (some ⟨g2, 66, none⟩)) 27 rfl kj kj ?_
  refine Qab (.slice (some ⟨g2, 66, none⟩) 32 32) 28 rfl kj kj ?_
  have r2_7 := (GW.row q7 r2_6 (by decide) (Ne.symm (Nat.ne_of_lt (Nat.lt_of_lt_of_le hgw b2))))
  refine Qal (fun v W' => v = .tuple #[] ∧ GW base gw W7 W' ∧ WSt base gw (rawS (rawS (rawS (numS (numS (Qa0 (s) (Qa7 false nm key sg pa ms)) 0 1) nm 1) key) sg) pa) W') 104 #[.pointer (some ⟨gw, 0, none⟩), .slice (some ⟨g2, 66, none⟩) 32 32] 29 rfl kj kj ((rawW base gw _ pa _ _ (Nat.le_trans hbw x7.size) ws15 (by omega) hpb (fun W e => (QaC 66 hpl (ExtB.row e r2_7 (Ne.symm (Nat.ne_of_lt (Nat.lt_of_lt_of_le hgw b2)))) (fun i hi => Qa8 [#[.bool false], #[.int .i64 nm], ints .u8 (key), ints .u8 (sg)] [#[.slice a_m ms.length c_m]] pa 66 i (66 + i) (by rw [Qaa, Qaa, Qaa, Qaa]; simp only [Array.size_append, cat, ((Qac _ _).trans hgl), ((Qac _ _).trans hkl)]; rfl) rfl (by rw [hpl]; exact hi)) (Qay (ExtB.row e r2_7 (Ne.symm (Nat.ne_of_lt (Nat.lt_of_lt_of_le hgw b2))))) (Nat.le_refl _) (by decide)))).mono (by rintro e w' ⟨rfl, h1, h2⟩; exact ⟨_, rfl, rfl, h1, h2⟩)) fun v17 W8 h17 => ?_
  obtain ⟨rfl, q8, ws17⟩ := h17
  have x8 : GW base gw w W8 := GW.trans x7 q8
  refine Qaf ?_
  refine hK16 _ _ ?_
  refine wp_seq_k fun K18 hK18 => ?_
  refine Qae ?_
  refine Qab (.pointer (some ⟨gw, 0, none⟩)) 30 rfl kj kj ?_
  refine Qab (.pointer (some ⟨g2, 98, none⟩)) 31 rfl kj kj ?_
  have r2_8 := (GW.row q8 r2_7 (by decide) (Ne.symm (Nat.ne_of_lt (Nat.lt_of_lt_of_le hgw b2))))
  refine Qab (.slice a_m ms.length c_m) 32 rfl kj (Qah 41 _ g2 98 43 _ (.slice a_m ms.length c_m) _ r2_8 rfl kj (Qak [#[.bool false], #[.int .i64 nm], ints .u8 (key), ints .u8 (sg), ints .u8 (pa)] [#[.slice a_m ms.length c_m]] [] 98 (by rw [Qaa, Qaa, Qaa, Qaa, Qaa]; simp only [Array.size_append, cat, ((Qac _ _).trans hgl), ((Qac _ _).trans hkl), ((Qac _ _).trans hpl)]; rfl) 0 _ rfl) kj) ?_
  refine Qa3 (.bool (risV ms)) 121 #[.slice a_m ms.length c_m] 33 rfl kj kj (Qc7 ms _ _ _ _ hml (Qc9 hm x8 hbg)) fun W9 e9 => ?_
  have x9 : GW base gw w W9 := GW.ext x8 e9
  have ws19 := WSt.ext ws17 e9
  refine Qal (fun v W' => v = .tuple #[] ∧ GW base gw W9 W' ∧ WSt base gw (Qa0 (rawS (rawS (rawS (numS (numS (Qa0 (s) (Qa7 false nm key sg pa ms)) 0 1) nm 1) key) sg) pa) (risV ms)) W') 98 #[.pointer (some ⟨gw, 0, none⟩), .bool (risV ms)] 34 rfl kj kj ((QbF base gw _ (risV ms) _ ws19).mono (by rintro e w' ⟨rfl, h1, h2⟩; exact ⟨_, rfl, rfl, h1, h2⟩)) fun v20 W10 h20 => ?_
  obtain ⟨rfl, q10, ws20⟩ := h20
  have x10 : GW base gw w W10 := GW.trans x9 q10
  refine Qaf ?_
  refine hK18 _ _ ?_
  refine Qae ?_
  refine Qab (.pointer (some ⟨gw, 0, none⟩)) 35 rfl kj kj ?_
  refine Qab (.pointer (some ⟨g2, 98, none⟩)) 36 rfl kj kj ?_
  have r2_9 := (Qas r2_8 e9)
  have r2_10 := (GW.row q10 r2_9 (by decide) (Ne.symm (Nat.ne_of_lt (Nat.lt_of_lt_of_le hgw b2))))
  refine Qab (.slice a_m ms.length c_m) 37 rfl kj (Qah 41 _ g2 98 43 _ (.slice a_m ms.length c_m) _ r2_10 rfl kj (Qak [#[.bool false], #[.int .i64 nm], ints .u8 (key), ints .u8 (sg), ints .u8 (pa)] [#[.slice a_m ms.length c_m]] [] 98 (by rw [Qaa, Qaa, Qaa, Qaa, Qaa]; simp only [Array.size_append, cat, ((Qac _ _).trans hgl), ((Qac _ _).trans hkl), ((Qac _ _).trans hpl)]; rfl) 0 _ rfl) kj) ?_
  refine Qal (fun v W' => v = .tuple #[] ∧ GW base gw W10 W' ∧ WSt base gw (QbW (Qa0 (rawS (rawS (rawS (numS (numS (Qa0 (s) (Qa7 false nm key sg pa ms)) 0 1) nm 1) key) sg) pa) (risV ms)) ms) W') 122 #[.pointer (some ⟨gw, 0, none⟩), .slice a_m ms.length c_m, .func (.func 106) #[] #[]] 38 rfl kj kj ((QcT base gw _ ms _ _ _ (Nat.le_trans hbw x10.size) hbg ws20 hml (Qc9 hm x10 hbg)).mono (by rintro e w' ⟨rfl, h1, h2⟩; exact ⟨_, rfl, rfl, h1, h2⟩)) fun v21 W11 h21 => ?_
  obtain ⟨rfl, q11, ws21⟩ := h21
  have x11 : GW base gw w W11 := GW.trans x10 q11
  refine Qaf ?_
  repeat (first | with_reducible refine goX1 ?_ | with_reducible refine goX2 ?_ | with_reducible refine goX3 ?_)
  exact (show bodyPost _ _ _ .normal _ _ from end0 rfl ⟨rfl, x11, ws21⟩)
theorem Qgz (base gw : Nat) (s : Option (List Int)) (us : Bool) (nm : Int) (key sg pa ms : List Int) (a_m : Option Addr) (c_m : Nat) (w : World) (hbw : base ≤ w.heap.size) (hbg : base ≤ gw) (h : WSt base gw s w) (hkl : key.length = 32) (hgl : sg.length = 32) (hpl : pa.length = 32) (hkb : Qag key) (hgb : Qag sg) (hpb : Qag pa) (hml : ms.length ≤ 1000000) (hm : RdK .i64 base ms (.slice a_m ms.length c_m) w) : Calls Try.prog 95 #[.pointer (some ⟨gw, 0, none⟩), .agg (cat [#[.bool us], #[.int .i64 nm], ints .u8 (key), ints .u8 (sg), ints .u8 (pa), #[.slice a_m ms.length c_m]])] w (fun e W => e = .returned (.tuple #[]) ∧ GW base gw w W ∧ WSt base gw (QbX s us nm key sg pa ms) W) := by
  cases us with
  | true => exact Qen base gw s nm key sg pa ms a_m c_m w hbw hbg h hkl hgl hpl hkb hgb hpb hml hm
  | false => exact QdI base gw s nm key sg pa ms a_m c_m w hbw hbg h hkl hgl hpl hkb hgb hpb hml hm
end Go.Proofs.Ytfelfmchachljaa.Wr
end
section
namespace Go.Proofs.Ytfelfmchachljaa.Wr
open Go Go.RowKit
open Rely Auto Own Sha
set_option linter.unusedVariables false
set_option linter.unusedSimpArgs false
end Go.Proofs.Ytfelfmchachljaa.Wr
end
section
namespace Go.Proofs.Ytfelfmchachljaa.Wr
open Go Go.RowKit
open Rely Auto Own Sha
set_option linter.unusedVariables false
set_option linter.unusedSimpArgs false
open Wk
def Qbo (ms : List Int) : Nat → Bool
  | 0 => true
  | n + 1 => Qbo ms n && (inB (nth ms n) 31 && ((n == 0) || decide (nth ms (n - 1) < nth ms n)))
theorem QbD (ms : List Int) (k : Nat) (h : Qbo ms k = false) : ∀ n, k ≤ n → Qbo ms n = false
  | 0, hk => by obtain rfl : k = 0 := by omega
                exact h
  | n + 1, hk => by
    by_cases e : k = n + 1
    · rw [← e]; exact h
    · unfold Qbo
      rw [QbD ms k h n (by omega)]
      rfl
def Qb8 (us : Bool) (nm : Int) (key sg pa ms : List Int) : Bool := inB nm 255 && decide (ms.length ≤ 32) && (Qbo ms ms.length && (us || Qa7 us nm key sg pa ms))
set_option maxHeartbeats 4000000 in
theorem Qg5 (us : Bool) (nm : Int) (key sg pa ms : List Int) (a_m : Option Addr) (c_m : Nat) (w : World) (hkl : key.length = 32) (hgl : sg.length = 32) (hpl : pa.length = 32) (hm : RdK .i64 w.heap.size ms (.slice a_m ms.length c_m) w) (h1 : inB nm 255 = false) : Calls Try.prog 96 #[.agg (cat [#[.bool us], #[.int .i64 nm], ints .u8 (key), ints .u8 (sg), ints .u8 (pa), #[.slice a_m ms.length c_m]])] w (Ret w (.bool false)) := by
  refine enter 52 [(0, .agg (cat [#[.bool us], #[.int .i64 nm], ints .u8 (key), ints .u8 (sg), ints .u8 (pa), #[.slice a_m ms.length c_m]]))] Try.func96 rfl rfl kj rfl ?_
  refine wp_seq_k fun K1 hK1 => ?_
  refine Qae ?_
  refine Qav (cat [#[.bool us], #[.int .i64 nm], ints .u8 (key), ints .u8 (sg), ints .u8 (pa), #[.slice a_m ms.length c_m]]) 43 1 rfl kj kj fun g2 W1 l2 e1 r2_1 => ?_
  have x1 : Ext w W1 := Ext.tr (Rely.Ext.refl w) e1
  have b2 : w.heap.size ≤ g2 := Nat.le_trans (Rely.Ext.refl w).size l2
  refine Qab (.bool false) 2 rfl kj kj ?_
  refine Qaf ?_
  refine hK1 _ _ ?_
  refine wp_seq_k fun K3 hK3 => ?_
  refine wp_seq_k fun K4 hK4 => ?_
  refine Qae ?_
  refine Qab (.pointer (some ⟨g2, 1, none⟩)) 4 rfl kj kj ?_
  refine Qab (.int .i64 nm) 5 rfl kj (Qah 3 _ g2 1 43 _ (.int .i64 nm) _ r2_1 rfl kj (Qak [#[.bool us]] [#[.int .i64 nm]] [ints .u8 (key), ints .u8 (sg), ints .u8 (pa), #[.slice a_m ms.length c_m]] 1 kj 0 _ rfl) kj) ?_
  refine Qa3 (.bool false) 77 #[.int .i64 nm, .int .i64 255] 6 rfl kj kj ((inE nm 255 _ h1) _) fun W2 e2 => ?_
  have x2 : Ext w W2 := Ext.tr x1 e2
  refine Qab (.bool true) 7 rfl kj kj ?_
  refine Qab (.bool true) 8 rfl kj kj ?_
  refine Qap 9 rfl kj ?_
  refine Qap 10 rfl kj ?_
  refine Qap 11 rfl kj ?_
  refine Qap 12 rfl kj ?_
  refine Qab (.bool true) 13 rfl kj kj ?_
  refine Qaf ?_
  refine hK4 _ _ ?_
  refine cond_true kj ?_
  refine wp_seq_k fun K5 hK5 => ?_
  refine Qae ?_
  refine Qab (.bool false) 2 rfl kj kj ?_
  refine Qaf ?_
  refine hK5 _ _ ?_
  refine wp_ret ?_
  repeat (first | with_reducible refine goR1 ?_ | with_reducible refine goR2 ?_)
  exact (show bodyPost _ _ _ .ret _ _ from ret1 (.bool false) rfl (Qaw kj) ⟨rfl, x2⟩)
set_option maxHeartbeats 4000000 in
theorem Qg4 (us : Bool) (nm : Int) (key sg pa ms : List Int) (a_m : Option Addr) (c_m : Nat) (w : World) (hkl : key.length = 32) (hgl : sg.length = 32) (hpl : pa.length = 32) (hm : RdK .i64 w.heap.size ms (.slice a_m ms.length c_m) w) (h1 : inB nm 255 = true) (h2 : 32 < ms.length) : Calls Try.prog 96 #[.agg (cat [#[.bool us], #[.int .i64 nm], ints .u8 (key), ints .u8 (sg), ints .u8 (pa), #[.slice a_m ms.length c_m]])] w (Ret w (.bool false)) := by
  refine enter 52 [(0, .agg (cat [#[.bool us], #[.int .i64 nm], ints .u8 (key), ints .u8 (sg), ints .u8 (pa), #[.slice a_m ms.length c_m]]))] Try.func96 rfl rfl kj rfl ?_
  refine wp_seq_k fun K1 hK1 => ?_
  refine Qae ?_
  refine Qav (cat [#[.bool us], #[.int .i64 nm], ints .u8 (key), ints .u8 (sg), ints .u8 (pa), #[.slice a_m ms.length c_m]]) 43 1 rfl kj kj fun g2 W1 l2 e1 r2_1 => ?_
  have x1 : Ext w W1 := Ext.tr (Rely.Ext.refl w) e1
  have b2 : w.heap.size ≤ g2 := Nat.le_trans (Rely.Ext.refl w).size l2
  refine Qab (.bool false) 2 rfl kj kj ?_
  refine Qaf ?_
  refine hK1 _ _ ?_
  refine wp_seq_k fun K3 hK3 => ?_
  refine wp_seq_k fun K4 hK4 => ?_
  refine Qae ?_
  refine Qab (.pointer (some ⟨g2, 1, none⟩)) 4 rfl kj kj ?_
  refine Qab (.int .i64 nm) 5 rfl kj (Qah 3 _ g2 1 43 _ (.int .i64 nm) _ r2_1 rfl kj (Qak [#[.bool us]] [#[.int .i64 nm]] [ints .u8 (key), ints .u8 (sg), ints .u8 (pa), #[.slice a_m ms.length c_m]] 1 kj 0 _ rfl) kj) ?_
  refine Qa3 (.bool true) 77 #[.int .i64 nm, .int .i64 255] 6 rfl kj kj ((inE nm 255 _ h1) _) fun W2 e2 => ?_
  have x2 : Ext w W2 := Ext.tr x1 e2
  refine Qab (.bool false) 7 rfl kj kj ?_
  refine Qab (.bool false) 8 rfl kj kj ?_
  refine Qab (.pointer (some ⟨g2, 98, none⟩)) 9 rfl kj kj ?_
  have r2_2 := (Qas r2_1 e2)
  refine Qab (.slice a_m ms.length c_m) 10 rfl kj (Qah 41 _ g2 98 43 _ (.slice a_m ms.length c_m) _ r2_2 rfl kj (Qak [#[.bool us], #[.int .i64 nm], ints .u8 (key), ints .u8 (sg), ints .u8 (pa)] [#[.slice a_m ms.length c_m]] [] 98 (by rw [Qaa, Qaa, Qaa, Qaa, Qaa]; simp only [Array.size_append, cat, ((Qac _ _).trans hgl), ((Qac _ _).trans hkl), ((Qac _ _).trans hpl)]; rfl) 0 _ rfl) kj) ?_
  refine Qab (.int .i64 ((ms.length : Nat) : Int)) 11 rfl kj kj ?_
  refine Qab (.bool true) 12 rfl kj (Qax (u := .bool (decide (((ms.length : Nat) : Int) > 32))) kj (congrArg Value.bool (decide_eq_true (by omega)))) ?_
  refine Qab (.bool true) 13 rfl kj kj ?_
  refine Qaf ?_
  refine hK4 _ _ ?_
  refine cond_true kj ?_
  refine wp_seq_k fun K5 hK5 => ?_
  refine Qae ?_
  refine Qab (.bool false) 2 rfl kj kj ?_
  refine Qaf ?_
  refine hK5 _ _ ?_
  refine wp_ret ?_
  repeat (first | with_reducible refine goR1 ?_ | with_reducible refine goR2 ?_)
  exact (show bodyPost _ _ _ .ret _ _ from ret1 (.bool false) rfl (Qaw kj) ⟨rfl, x2⟩)
set_option maxHeartbeats 4000000 in
theorem Qet (nm : Int) (key sg pa ms : List Int) (a_m : Option Addr) (c_m : Nat) (w : World) (hkl : key.length = 32) (hgl : sg.length = 32) (hpl : pa.length = 32) (hm : RdK .i64 w.heap.size ms (.slice a_m ms.length c_m) w) (h1 : inB nm 255 = true) (h2 : ms.length ≤ 32) : Calls Try.prog 96 #[.agg (cat [#[.bool true], #[.int .i64 nm], ints .u8 (key), ints .u8 (sg), ints .u8 (pa), #[.slice a_m ms.length c_m]])] w (Ret w (.bool (Qbo ms ms.length && (true || Qa7 true nm key sg pa ms)))) := by
 refine enter 52 [(0, .agg (cat [#[.bool true], #[.int .i64 nm], ints .u8 (key), ints .u8 (sg), ints .u8 (pa), #[.slice a_m ms.length c_m]]))] Try.func96 rfl rfl kj rfl ?_
 refine wp_seq_k fun K1 hK1 => ?_
 refine Qae ?_
 refine Qav (cat [#[.bool true], #[.int .i64 nm], ints .u8 (key), ints .u8 (sg), ints .u8 (pa), #[.slice a_m ms.length c_m]]) 43 1 rfl kj kj fun g2 W1 l2 e1 r2_1 => ?_
 have x1 : Ext w W1 := Ext.tr (Rely.Ext.refl w) e1
 have b2 : w.heap.size ≤ g2 := Nat.le_trans (Rely.Ext.refl w).size l2
 refine Qab (.bool false) 2 rfl kj kj ?_
 refine Qaf ?_
 refine hK1 _ _ ?_
 refine wp_seq_k fun K3 hK3 => ?_
 refine wp_seq_k fun K4 hK4 => ?_
 refine Qae ?_
 refine Qab (.pointer (some ⟨g2, 1, none⟩)) 4 rfl kj kj ?_
 refine Qab (.int .i64 nm) 5 rfl kj (Qah 3 _ g2 1 43 _ (.int .i64 nm) _ r2_1 rfl kj (Qak [#[.bool true]] [#[.int .i64 nm]] [ints .u8 (key), ints .u8 (sg), ints .u8 (pa), #[.slice a_m ms.length c_m]] 1 kj 0 _ rfl) kj) ?_
 refine Qa3 (.bool true) 77 #[.int .i64 nm, .int .i64 255] 6 rfl kj kj ((inE nm 255 _ h1) _) fun W2 e2 => ?_
 have x2 : Ext w W2 := Ext.tr x1 e2
 refine Qab (.bool false) 7 rfl kj kj ?_
 refine Qab (.bool false) 8 rfl kj kj ?_
 refine Qab (.pointer (some ⟨g2, 98, none⟩)) 9 rfl kj kj ?_
 have r2_2 := (Qas r2_1 e2)
 refine Qab (.slice a_m ms.length c_m) 10 rfl kj (Qah 41 _ g2 98 43 _ (.slice a_m ms.length c_m) _ r2_2 rfl kj (Qak [#[.bool true], #[.int .i64 nm], ints .u8 (key), ints .u8 (sg), ints .u8 (pa)] [#[.slice a_m ms.length c_m]] [] 98 (by rw [Qaa, Qaa, Qaa, Qaa, Qaa]; simp only [Array.size_append, cat, ((Qac _ _).trans hgl), ((Qac _ _).trans hkl), ((Qac _ _).trans hpl)]; rfl) 0 _ rfl) kj) ?_
 refine Qab (.int .i64 ((ms.length : Nat) : Int)) 11 rfl kj kj ?_
 refine Qab (.bool false) 12 rfl kj (Qax (u := .bool (decide (((ms.length : Nat) : Int) > 32))) kj (congrArg Value.bool (decide_eq_false (by omega)))) ?_
 refine Qab (.bool false) 13 rfl kj kj ?_
 refine Qaf ?_
 refine hK4 _ _ ?_
 refine cond_false kj ?_
 refine wp_skip ?_
 refine hK3 _ _ ?_
 refine wp_seq_k fun K5 hK5 => ?_
 refine wp_seq_k fun K6 hK6 => ?_
 refine Qae ?_
 refine Qab (.int .i64 0) 3 rfl kj kj ?_
 refine Qaf ?_
 refine hK6 _ _ ?_
 refine wp_block ?_
 refine Qbl (fun (s1 : Nat) => [(1, .pointer (some ⟨g2, 0, none⟩)), (3, .int .i64 ((s1 : Nat) : Int))]) (fun (s1 : Nat) W => (s1 ≤ ms.length) ∧ (Qbo ms s1 = true) ∧ (Ext W2 W) ∧ (Ext w W)) (fun (s1 : Nat) => ms.length - s1) 0 ⟨rfl, rfl, trivial⟩ ⟨(Nat.zero_le _), rfl, (Rely.Ext.refl W2), x2⟩ fun s1 X1 V1 hI1 => ?_
 obtain ⟨i, hs1⟩ : ∃ z, z = s1 := ⟨_, rfl⟩
 subst hs1
 obtain ⟨hi, hr, kk1, xx1⟩ := hI1
 replace hi : i ≤ ms.length := hi
 replace hr : Qbo ms i = true := hr
 replace kk1 : Ext W2 V1 := kk1
 replace xx1 : Ext w V1 := xx1
 have e3 := kk1
 refine wp_seq_k fun K7 hK7 => ?_
 refine wp_seq_k fun K8 hK8 => ?_
 refine Qae ?_
 refine Qab (.int .i64 ((i : Nat) : Int)) 14 rfl kj kj ?_
 refine Qab (.pointer (some ⟨g2, 98, none⟩)) 15 rfl kj kj ?_
 have r2_3 := (Qas r2_2 e3)
 refine Qab (.slice a_m ms.length c_m) 16 rfl kj (Qah 41 _ g2 98 43 _ (.slice a_m ms.length c_m) _ r2_3 rfl kj (Qak [#[.bool true], #[.int .i64 nm], ints .u8 (key), ints .u8 (sg), ints .u8 (pa)] [#[.slice a_m ms.length c_m]] [] 98 (by rw [Qaa, Qaa, Qaa, Qaa, Qaa]; simp only [Array.size_append, cat, ((Qac _ _).trans hgl), ((Qac _ _).trans hkl), ((Qac _ _).trans hpl)]; rfl) 0 _ rfl) kj) ?_
 refine Qab (.int .i64 ((ms.length : Nat) : Int)) 17 rfl kj kj ?_
 refine Qab (.bool (decide (((i : Nat) : Int) < ((ms.length : Nat) : Int)))) 18 rfl kj kj ?_
 refine Qaf ?_
 refine hK8 _ _ ?_
 refine QaM (t := decide (((i : Nat) : Int) < ((ms.length : Nat) : Int))) kj (fun c9 => ?_) (fun c9 => ?_)
 ·skip
  have hlt18 : i < ms.length := by have := of_decide_eq_true c9; omega
  have hnm_10 : (ms).length = ms.length := rfl
  obtain ⟨gcm_10, ocm_10, ham_10, hlm_10, hcm_10⟩ := QbP (RdK.here (RdK.ext hm xx1)) (by rw [hnm_10]; omega)
  refine wp_skip ?_
  refine hK7 _ _ ?_
  refine wp_seq_k fun K11 hK11 => ?_
  refine wp_block ?_
  refine wp_seq_k fun K12 hK12 => ?_
  rcases (show inB (nth ms i) 31 = false ∨ (inB (nth ms i) 31 = true ∧ i = 0) ∨ (inB (nth ms i) 31 = true ∧ 0 < i ∧ nth ms i ≤ nth ms (i - 1)) ∨ (inB (nth ms i) 31 = true ∧ 0 < i ∧ nth ms (i - 1) < nth ms i) by cases inB (nth ms i) 31 <;> simp <;> omega) with hin | ⟨hin, h0⟩ | ⟨hin, h0, hq⟩ | ⟨hin, h0, hq⟩
  ·skip
   have hs : Qbo ms (i + 1) = false := by show (Qbo ms i && (inB (nth ms i) 31 && _)) = false; rw [hin, Bool.false_and, Bool.and_false]
   have hV : Qbo ms ms.length = false := QbD ms (i + 1) hs _ (by omega)
   refine QaU kj fun W4 e4 => ?_
   have x4 : Ext w W4 := Ext.tr xx1 e4
   refine Qar 0 (.pointer (some ⟨g2, 98, none⟩)) 21 rfl rfl kj kj (fun _ _ _ h => h) (fun W hR => by kernel_rfl) ?_
   have r2_4 := (Qas r2_3 e4)
   refine Qar 1 (.slice a_m ms.length c_m) 22 rfl rfl kj kj (fun _ _ _ h => h) (fun W hR => (Qah 41 _ g2 98 43 _ (.slice a_m ms.length c_m) _ (Qas r2_4 hR) rfl kj (Qak [#[.bool true], #[.int .i64 nm], ints .u8 (key), ints .u8 (sg), ints .u8 (pa)] [#[.slice a_m ms.length c_m]] [] 98 (by rw [Qaa, Qaa, Qaa, Qaa, Qaa]; simp only [Array.size_append, cat, ((Qac _ _).trans hgl), ((Qac _ _).trans hkl), ((Qac _ _).trans hpl)]; rfl) 0 _ rfl) kj)) ?_
   refine Qar 2 (.int .i64 ((i : Nat) : Int)) 23 rfl rfl kj kj (fun _ _ _ h => h) (fun W hR => by kernel_rfl) ?_
   refine Qar 3 (.pointer (some ⟨gcm_10, ocm_10 + i, none⟩)) 24 rfl rfl kj kj (fun _ _ _ h => h) (fun W hR => (QaH 41 _ _ .i64 i gcm_10 ocm_10 ms.length c_m 3 a_m _ ham_10 rfl rfl kj kj kj kj (Nat.lt_of_lt_of_eq (show i < ms.length by omega) hnm_10.symm))) ?_
   have y3_4 : Ext V1 W4 := (Rely.Ext.trans (Rely.Ext.refl V1) e4)
   refine Qar 4 (.int .i64 (nth (ms) (i))) 25 rfl rfl kj kj (fun _ _ _ h => h) (fun W hR => (Qa9 3 _ _ (.int .i64 (nth (ms) (i))) ((Below.cell (Rely.Ext.trans y3_4 hR) hlm_10).trans (hcm_10 i (Nat.lt_of_lt_of_eq (show i < ms.length by omega) hnm_10.symm))) rfl kj kj)) ?_
   refine QaN 5 kj ?_
   refine Qbe rfl (fun v W' => v = (.bool false) ∧ Ext W4 W') 77 #[.int .i64 (nth (ms) (i)), .int .i64 31] 26 rfl kj kj (((inE (nth ms i) 31 _ hin) _).mono fun e w' h => ⟨_, h.1, rfl, h.2⟩) (fun _ _ h => Rely.Ext.trans (Rely.Ext.refl W4) h.2) fun vv13 W5 hh13 => ?_
   obtain ⟨rfl, e5⟩ := hh13
   have x5 : Ext w W5 := Ext.tr x4 e5
   refine Qar 6 (.bool true) 27 rfl rfl kj kj (fun _ _ _ h => h) (fun W hR => by kernel_rfl) ?_
   refine Qar 7 (.bool true) 28 rfl rfl kj kj (fun _ _ _ h => h) (fun W hR => by kernel_rfl) ?_
   refine Qa5 8 29 rfl rfl kj kj (fun _ _ _ h => h) ?_
   refine Qa5 9 30 rfl rfl kj kj (fun _ _ _ h => h) ?_
   refine Qa5 10 31 rfl rfl kj kj (fun _ _ _ h => h) ?_
   refine Qa5 11 32 rfl rfl kj kj (fun _ _ _ h => h) ?_
   refine Qa5 12 33 rfl rfl kj kj (fun _ _ _ h => h) ?_
   refine Qa5 13 34 rfl rfl kj kj (fun _ _ _ h => h) ?_
   refine Qa5 14 35 rfl rfl kj kj (fun _ _ _ h => h) ?_
   refine Qa5 15 36 rfl rfl kj kj (fun _ _ _ h => h) ?_
   refine Qa5 16 37 rfl rfl kj kj (fun _ _ _ h => h) ?_
   refine Qa5 17 38 rfl rfl kj kj (fun _ _ _ h => h) ?_
   refine Qa5 18 39 rfl rfl kj kj (fun _ _ _ h => h) ?_
   refine Qa5 19 40 rfl rfl kj kj (fun _ _ _ h => h) ?_
   refine Qa5 20 41 rfl rfl kj kj (fun _ _ _ h => h) ?_
   refine Qa5 21 42 rfl rfl kj kj (fun _ _ _ h => h) ?_
   refine Qa5 22 43 rfl rfl kj kj (fun _ _ _ h => h) ?_
   refine Qa5 23 44 rfl rfl kj kj (fun _ _ _ h => h) ?_
   refine Qar 24 (.bool true) 45 rfl rfl kj kj (fun _ _ _ h => h) (fun W hR => by kernel_rfl) ?_
   refine QbH kj ?_
   refine hK12 _ _ ?_
   refine cond_true kj ?_
   refine wp_seq_k fun K14 hK14 => ?_
   refine Qae ?_
   refine Qab (.bool false) 2 rfl kj kj ?_
   refine Qaf ?_
   refine hK14 _ _ ?_
   refine wp_ret ?_
   repeat (first | with_reducible refine goR1 ?_ | with_reducible refine goR2 ?_)
   exact (show bodyPost _ _ _ .ret _ _ from ret1 (.bool false) rfl (Qaw kj) ⟨by rw [hV]; rfl, x5⟩)
  ·skip
   have hs : Qbo ms (i + 1) = true := by show (Qbo ms i && (inB (nth ms i) 31 && ((i == 0) || _))) = true; rw [hr, hin, beq_iff_eq.2 h0]; rfl
   refine QaU kj fun W4 e4 => ?_
   have x4 : Ext w W4 := Ext.tr xx1 e4
   refine Qar 0 (.pointer (some ⟨g2, 98, none⟩)) 21 rfl rfl kj kj (fun _ _ _ h => h) (fun W hR => by kernel_rfl) ?_
   have r2_4 := (Qas r2_3 e4)
   refine Qar 1 (.slice a_m ms.length c_m) 22 rfl rfl kj kj (fun _ _ _ h => h) (fun W hR => (Qah 41 _ g2 98 43 _ (.slice a_m ms.length c_m) _ (Qas r2_4 hR) rfl kj (Qak [#[.bool true], #[.int .i64 nm], ints .u8 (key), ints .u8 (sg), ints .u8 (pa)] [#[.slice a_m ms.length c_m]] [] 98 (by rw [Qaa, Qaa, Qaa, Qaa, Qaa]; simp only [Array.size_append, cat, ((Qac _ _).trans hgl), ((Qac _ _).trans hkl), ((Qac _ _).trans hpl)]; rfl) 0 _ rfl) kj)) ?_
   refine Qar 2 (.int .i64 ((i : Nat) : Int)) 23 rfl rfl kj kj (fun _ _ _ h => h) (fun W hR => by kernel_rfl) ?_
   refine Qar 3 (.pointer (some ⟨gcm_10, ocm_10 + i, none⟩)) 24 rfl rfl kj kj (fun _ _ _ h => h) (fun W hR => (QaH 41 _ _ .i64 i gcm_10 ocm_10 ms.length c_m 3 a_m _ ham_10 rfl rfl kj kj kj kj (Nat.lt_of_lt_of_eq (show i < ms.length by omega) hnm_10.symm))) ?_
   have y3_4 : Ext V1 W4 := (Rely.Ext.trans (Rely.Ext.refl V1) e4)
   refine Qar 4 (.int .i64 (nth (ms) (i))) 25 rfl rfl kj kj (fun _ _ _ h => h) (fun W hR => (Qa9 3 _ _ (.int .i64 (nth (ms) (i))) ((Below.cell (Rely.Ext.trans y3_4 hR) hlm_10).trans (hcm_10 i (Nat.lt_of_lt_of_eq (show i < ms.length by omega) hnm_10.symm))) rfl kj kj)) ?_
   refine QaN 5 kj ?_
   refine Qbe rfl (fun v W' => v = (.bool true) ∧ Ext W4 W') 77 #[.int .i64 (nth (ms) (i)), .int .i64 31] 26 rfl kj kj (((inE (nth ms i) 31 _ hin) _).mono fun e w' h => ⟨_, h.1, rfl, h.2⟩) (fun _ _ h => Rely.Ext.trans (Rely.Ext.refl W4) h.2) fun vv15 W5 hh15 => ?_
   obtain ⟨rfl, e5⟩ := hh15
   have x5 : Ext w W5 := Ext.tr x4 e5
   refine Qar 6 (.bool false) 27 rfl rfl kj kj (fun _ _ _ h => h) (fun W hR => by kernel_rfl) ?_
   refine Qar 7 (.bool false) 28 rfl rfl kj kj (fun _ _ _ h => h) (fun W hR => by kernel_rfl) ?_
   refine Qar 8 (.int .i64 ((i : Nat) : Int)) 29 rfl rfl kj kj (fun _ _ _ h => h) (fun W hR => by kernel_rfl) ?_
   refine Qar 9 (.bool false) 30 rfl rfl kj kj (fun _ _ _ h => h) (fun W hR => (Qax (u := .bool (decide (((i : Nat) : Int) > 0))) kj (congrArg Value.bool (decide_eq_false (by omega))))) ?_
   refine Qar 10 (.bool false) 31 rfl rfl kj kj (fun _ _ _ h => h) (fun W hR => by kernel_rfl) ?_
   refine Qa5 11 32 rfl rfl kj kj (fun _ _ _ h => h) ?_
   refine Qa5 12 33 rfl rfl kj kj (fun _ _ _ h => h) ?_
   refine Qa5 13 34 rfl rfl kj kj (fun _ _ _ h => h) ?_
   refine Qa5 14 35 rfl rfl kj kj (fun _ _ _ h => h) ?_
   refine Qa5 15 36 rfl rfl kj kj (fun _ _ _ h => h) ?_
   refine Qa5 16 37 rfl rfl kj kj (fun _ _ _ h => h) ?_
   refine Qa5 17 38 rfl rfl kj kj (fun _ _ _ h => h) ?_
   refine Qa5 18 39 rfl rfl kj kj (fun _ _ _ h => h) ?_
   refine Qa5 19 40 rfl rfl kj kj (fun _ _ _ h => h) ?_
   refine Qa5 20 41 rfl rfl kj kj (fun _ _ _ h => h) ?_
   refine Qa5 21 42 rfl rfl kj kj (fun _ _ _ h => h) ?_
   refine Qa5 22 43 rfl rfl kj kj (fun _ _ _ h => h) ?_
   refine Qar 23 (.bool false) 44 rfl rfl kj kj (fun _ _ _ h => h) (fun W hR => by kernel_rfl) ?_
   refine Qar 24 (.bool false) 45 rfl rfl kj kj (fun _ _ _ h => h) (fun W hR => by kernel_rfl) ?_
   refine QbH kj ?_
   refine hK12 _ _ ?_
   refine cond_false kj ?_
   refine wp_skip ?_
   refine hK11 _ _ ?_
   refine Qae ?_
   refine Qab (.int .i64 ((i : Nat) : Int)) 19 rfl kj kj ?_
   refine Qab (.int .i64 ((i + 1 : Nat) : Int)) 20 rfl kj (Qax (u := .int .i64 (IntKind.i64.wrap (((i : Nat) : Int) + 1))) kj (congrArg (Value.int .i64) (i64n _ _ (by omega) (by omega)))) ?_
   refine Qab (.int .i64 ((i + 1 : Nat) : Int)) 3 rfl kj kj ?_
   refine Qaf ?_
   have y2_4 : Ext W2 W4 := (Rely.Ext.trans e3 e4)
   have y2_5 : Ext W2 W5 := (Rely.Ext.trans y2_4 e5)
   repeat (first | with_reducible refine goX1 ?_ | with_reducible refine goX2 ?_ | with_reducible refine goX3 ?_)
   exact Qbb (i + 1) ⟨rfl, rfl, trivial⟩ ⟨(by omega), hs, y2_5, x5⟩ (by omega)
  ·skip
   obtain ⟨ip, hip⟩ : ∃ ip, i = ip + 1 := ⟨i - 1, by omega⟩
   have hi1 : i - 1 = ip := by omega
   rw [hi1] at hq
   have hs : Qbo ms (i + 1) = false := by show (Qbo ms i && (inB (nth ms i) 31 && ((i == 0) || decide (nth ms (i - 1) < nth ms i)))) = false; rw [hi1, hr, hin, beq_eq_false_iff_ne.2 (show i ≠ 0 by omega), decide_eq_false (by omega)]; rfl
   have hV : Qbo ms ms.length = false := QbD ms (i + 1) hs _ (by omega)
   refine QaU kj fun W4 e4 => ?_
   have x4 : Ext w W4 := Ext.tr xx1 e4
   refine Qar 0 (.pointer (some ⟨g2, 98, none⟩)) 21 rfl rfl kj kj (fun _ _ _ h => h) (fun W hR => by kernel_rfl) ?_
   have r2_4 := (Qas r2_3 e4)
   refine Qar 1 (.slice a_m ms.length c_m) 22 rfl rfl kj kj (fun _ _ _ h => h) (fun W hR => (Qah 41 _ g2 98 43 _ (.slice a_m ms.length c_m) _ (Qas r2_4 hR) rfl kj (Qak [#[.bool true], #[.int .i64 nm], ints .u8 (key), ints .u8 (sg), ints .u8 (pa)] [#[.slice a_m ms.length c_m]] [] 98 (by rw [Qaa, Qaa, Qaa, Qaa, Qaa]; simp only [Array.size_append, cat, ((Qac _ _).trans hgl), ((Qac _ _).trans hkl), ((Qac _ _).trans hpl)]; rfl) 0 _ rfl) kj)) ?_
   refine Qar 2 (.int .i64 ((i : Nat) : Int)) 23 rfl rfl kj kj (fun _ _ _ h => h) (fun W hR => by kernel_rfl) ?_
   refine Qar 3 (.pointer (some ⟨gcm_10, ocm_10 + i, none⟩)) 24 rfl rfl kj kj (fun _ _ _ h => h) (fun W hR => (QaH 41 _ _ .i64 i gcm_10 ocm_10 ms.length c_m 3 a_m _ ham_10 rfl rfl kj kj kj kj (Nat.lt_of_lt_of_eq (show i < ms.length by omega) hnm_10.symm))) ?_
   have y3_4 : Ext V1 W4 := (Rely.Ext.trans (Rely.Ext.refl V1) e4)
   refine Qar 4 (.int .i64 (nth (ms) (i))) 25 rfl rfl kj kj (fun _ _ _ h => h) (fun W hR => (Qa9 3 _ _ (.int .i64 (nth (ms) (i))) ((Below.cell (Rely.Ext.trans y3_4 hR) hlm_10).trans (hcm_10 i (Nat.lt_of_lt_of_eq (show i < ms.length by omega) hnm_10.symm))) rfl kj kj)) ?_
   refine QaN 5 kj ?_
   refine Qbe rfl (fun v W' => v = (.bool true) ∧ Ext W4 W') 77 #[.int .i64 (nth (ms) (i)), .int .i64 31] 26 rfl kj kj (((inE (nth ms i) 31 _ hin) _).mono fun e w' h => ⟨_, h.1, rfl, h.2⟩) (fun _ _ h => Rely.Ext.trans (Rely.Ext.refl W4) h.2) fun vv16 W5 hh16 => ?_
   obtain ⟨rfl, e5⟩ := hh16
   have x5 : Ext w W5 := Ext.tr x4 e5
   refine Qar 6 (.bool false) 27 rfl rfl kj kj (fun _ _ _ h => h) (fun W hR => by kernel_rfl) ?_
   refine Qar 7 (.bool false) 28 rfl rfl kj kj (fun _ _ _ h => h) (fun W hR => by kernel_rfl) ?_
   refine Qar 8 (.int .i64 ((i : Nat) : Int)) 29 rfl rfl kj kj (fun _ _ _ h => h) (fun W hR => by kernel_rfl) ?_
   refine Qar 9 (.bool true) 30 rfl rfl kj kj (fun _ _ _ h => h) (fun W hR => (Qax (u := .bool (decide (((i : Nat) : Int) > 0))) kj (congrArg Value.bool (decide_eq_true (by omega))))) ?_
   refine Qar 10 (.bool true) 31 rfl rfl kj kj (fun _ _ _ h => h) (fun W hR => by kernel_rfl) ?_
   refine Qar 11 (.pointer (some ⟨g2, 98, none⟩)) 32 rfl rfl kj kj (fun _ _ _ h => h) (fun W hR => by kernel_rfl) ?_
   refine Qar 12 (.slice a_m ms.length c_m) 33 rfl rfl kj kj (fun _ _ _ h => h) (fun W hR => (Qah 41 _ g2 98 43 _ (.slice a_m ms.length c_m) _ (Qas r2_4 hR) rfl kj (Qak [#[.bool true], #[.int .i64 nm], ints .u8 (key), ints .u8 (sg), ints .u8 (pa)] [#[.slice a_m ms.length c_m]] [] 98 (by rw [Qaa, Qaa, Qaa, Qaa, Qaa]; simp only [Array.size_append, cat, ((Qac _ _).trans hgl), ((Qac _ _).trans hkl), ((Qac _ _).trans hpl)]; rfl) 0 _ rfl) kj)) ?_
   refine Qar 13 (.int .i64 ((i : Nat) : Int)) 34 rfl rfl kj kj (fun _ _ _ h => h) (fun W hR => by kernel_rfl) ?_
   refine Qar 14 (.int .i64 (((ip : Nat) : Int))) 35 rfl rfl kj kj (fun _ _ _ h => h) (fun W hR => (Qax (u := .int .i64 (IntKind.i64.wrap (((i : Nat) : Int) - 1))) kj (congrArg (Value.int .i64) (by rw [show ((i : Nat) : Int) - 1 = ((ip : Nat) : Int) by omega]; exact IntWalk.i64_in _ (by omega))))) ?_
   refine Qar 15 (.pointer (some ⟨gcm_10, ocm_10 + ip, none⟩)) 36 rfl rfl kj kj (fun _ _ _ h => h) (fun W hR => (QaH 41 _ _ .i64 ip gcm_10 ocm_10 ms.length c_m 3 a_m _ ham_10 rfl rfl kj kj kj kj (Nat.lt_of_lt_of_eq (show ip < ms.length by omega) hnm_10.symm))) ?_
   refine Qar 16 (.int .i64 (nth (ms) (ip))) 37 rfl rfl kj kj (fun _ _ _ h => h) (fun W hR => (Qa9 3 _ _ (.int .i64 (nth (ms) (ip))) ((Below.cell (Rely.Ext.trans y3_4 hR) hlm_10).trans (hcm_10 ip (Nat.lt_of_lt_of_eq (show ip < ms.length by omega) hnm_10.symm))) rfl kj kj)) ?_
   refine Qar 17 (.pointer (some ⟨g2, 98, none⟩)) 38 rfl rfl kj kj (fun _ _ _ h => h) (fun W hR => by kernel_rfl) ?_
   refine Qar 18 (.slice a_m ms.length c_m) 39 rfl rfl kj kj (fun _ _ _ h => h) (fun W hR => (Qah 41 _ g2 98 43 _ (.slice a_m ms.length c_m) _ (Qas r2_4 hR) rfl kj (Qak [#[.bool true], #[.int .i64 nm], ints .u8 (key), ints .u8 (sg), ints .u8 (pa)] [#[.slice a_m ms.length c_m]] [] 98 (by rw [Qaa, Qaa, Qaa, Qaa, Qaa]; simp only [Array.size_append, cat, ((Qac _ _).trans hgl), ((Qac _ _).trans hkl), ((Qac _ _).trans hpl)]; rfl) 0 _ rfl) kj)) ?_
   refine Qar 19 (.int .i64 ((i : Nat) : Int)) 40 rfl rfl kj kj (fun _ _ _ h => h) (fun W hR => by kernel_rfl) ?_
   refine Qar 20 (.pointer (some ⟨gcm_10, ocm_10 + i, none⟩)) 41 rfl rfl kj kj (fun _ _ _ h => h) (fun W hR => (QaH 41 _ _ .i64 i gcm_10 ocm_10 ms.length c_m 3 a_m _ ham_10 rfl rfl kj kj kj kj (Nat.lt_of_lt_of_eq (show i < ms.length by omega) hnm_10.symm))) ?_
   refine Qar 21 (.int .i64 (nth (ms) (i))) 42 rfl rfl kj kj (fun _ _ _ h => h) (fun W hR => (Qa9 3 _ _ (.int .i64 (nth (ms) (i))) ((Below.cell (Rely.Ext.trans y3_4 hR) hlm_10).trans (hcm_10 i (Nat.lt_of_lt_of_eq (show i < ms.length by omega) hnm_10.symm))) rfl kj kj)) ?_
   refine Qar 22 (.bool true) 43 rfl rfl kj kj (fun _ _ _ h => h) (fun W hR => (Qax (u := .bool (decide ((nth (ms) (ip)) ≥ (nth (ms) (i))))) kj (congrArg Value.bool (decide_eq_true (by omega))))) ?_
   refine Qar 23 (.bool true) 44 rfl rfl kj kj (fun _ _ _ h => h) (fun W hR => by kernel_rfl) ?_
   refine Qar 24 (.bool true) 45 rfl rfl kj kj (fun _ _ _ h => h) (fun W hR => by kernel_rfl) ?_
   refine QbH kj ?_
   refine hK12 _ _ ?_
   refine cond_true kj ?_
   refine wp_seq_k fun K17 hK17 => ?_
   refine Qae ?_
   refine Qab (.bool false) 2 rfl kj kj ?_
   refine Qaf ?_
   refine hK17 _ _ ?_
   refine wp_ret ?_
   repeat (first | with_reducible refine goR1 ?_ | with_reducible refine goR2 ?_)
   exact (show bodyPost _ _ _ .ret _ _ from ret1 (.bool false) rfl (Qaw kj) ⟨by rw [hV]; rfl, x5⟩)
  ·skip
   obtain ⟨ip, hip⟩ : ∃ ip, i = ip + 1 := ⟨i - 1, by omega⟩
   have hi1 : i - 1 = ip := by omega
   rw [hi1] at hq
   have hs : Qbo ms (i + 1) = true := by show (Qbo ms i && (inB (nth ms i) 31 && ((i == 0) || decide (nth ms (i - 1) < nth ms i)))) = true; rw [hi1, hr, hin, beq_eq_false_iff_ne.2 (show i ≠ 0 by omega), decide_eq_true (by omega)]; rfl
   refine QaU kj fun W4 e4 => ?_
   have x4 : Ext w W4 := Ext.tr xx1 e4
   refine Qar 0 (.pointer (some ⟨g2, 98, none⟩)) 21 rfl rfl kj kj (fun _ _ _ h => h) (fun W hR => by kernel_rfl) ?_
   have r2_4 := (Qas r2_3 e4)
   refine Qar 1 (.slice a_m ms.length c_m) 22 rfl rfl kj kj (fun _ _ _ h => h) (fun W hR => (Qah 41 _ g2 98 43 _ (.slice a_m ms.length c_m) _ (Qas r2_4 hR) rfl kj (Qak [#[.bool true], #[.int .i64 nm], ints .u8 (key), ints .u8 (sg), ints .u8 (pa)] [#[.slice a_m ms.length c_m]] [] 98 (by rw [Qaa, Qaa, Qaa, Qaa, Qaa]; simp only [Array.size_append, cat, ((Qac _ _).trans hgl), ((Qac _ _).trans hkl), ((Qac _ _).trans hpl)]; rfl) 0 _ rfl) kj)) ?_
   refine Qar 2 (.int .i64 ((i : Nat) : Int)) 23 rfl rfl kj kj (fun _ _ _ h => h) (fun W hR => by kernel_rfl) ?_
   refine Qar 3 (.pointer (some ⟨gcm_10, ocm_10 + i, none⟩)) 24 rfl rfl kj kj (fun _ _ _ h => h) (fun W hR => (QaH 41 _ _ .i64 i gcm_10 ocm_10 ms.length c_m 3 a_m _ ham_10 rfl rfl kj kj kj kj (Nat.lt_of_lt_of_eq (show i < ms.length by omega) hnm_10.symm))) ?_
   have y3_4 : Ext V1 W4 := (Rely.Ext.trans (Rely.Ext.refl V1) e4)
   refine Qar 4 (.int .i64 (nth (ms) (i))) 25 rfl rfl kj kj (fun _ _ _ h => h) (fun W hR => (Qa9 3 _ _ (.int .i64 (nth (ms) (i))) ((Below.cell (Rely.Ext.trans y3_4 hR) hlm_10).trans (hcm_10 i (Nat.lt_of_lt_of_eq (show i < ms.length by omega) hnm_10.symm))) rfl kj kj)) ?_
   refine QaN 5 kj ?_
   refine Qbe rfl (fun v W' => v = (.bool true) ∧ Ext W4 W') 77 #[.int .i64 (nth (ms) (i)), .int .i64 31] 26 rfl kj kj (((inE (nth ms i) 31 _ hin) _).mono fun e w' h => ⟨_, h.1, rfl, h.2⟩) (fun _ _ h => Rely.Ext.trans (Rely.Ext.refl W4) h.2) fun vv18 W5 hh18 => ?_
   obtain ⟨rfl, e5⟩ := hh18
   have x5 : Ext w W5 := Ext.tr x4 e5
   refine Qar 6 (.bool false) 27 rfl rfl kj kj (fun _ _ _ h => h) (fun W hR => by kernel_rfl) ?_
   refine Qar 7 (.bool false) 28 rfl rfl kj kj (fun _ _ _ h => h) (fun W hR => by kernel_rfl) ?_
   refine Qar 8 (.int .i64 ((i : Nat) : Int)) 29 rfl rfl kj kj (fun _ _ _ h => h) (fun W hR => by kernel_rfl) ?_
   refine Qar 9 (.bool true) 30 rfl rfl kj kj (fun _ _ _ h => h) (fun W hR => (Qax (u := .bool (decide (((i : Nat) : Int) > 0))) kj (congrArg Value.bool (decide_eq_true (by omega))))) ?_
   refine Qar 10 (.bool true) 31 rfl rfl kj kj (fun _ _ _ h => h) (fun W hR => by kernel_rfl) ?_
   refine Qar 11 (.pointer (some ⟨g2, 98, none⟩)) 32 rfl rfl kj kj (fun _ _ _ h => h) (fun W hR => by kernel_rfl) ?_
   refine Qar 12 (.slice a_m ms.length c_m) 33 rfl rfl kj kj (fun _ _ _ h => h) (fun W hR => (Qah 41 _ g2 98 43 _ (.slice a_m ms.length c_m) _ (Qas r2_4 hR) rfl kj (Qak [#[.bool true], #[.int .i64 nm], ints .u8 (key), ints .u8 (sg), ints .u8 (pa)] [#[.slice a_m ms.length c_m]] [] 98 (by rw [Qaa, Qaa, Qaa, Qaa, Qaa]; simp only [Array.size_append, cat, ((Qac _ _).trans hgl), ((Qac _ _).trans hkl), ((Qac _ _).trans hpl)]; rfl) 0 _ rfl) kj)) ?_
   refine Qar 13 (.int .i64 ((i : Nat) : Int)) 34 rfl rfl kj kj (fun _ _ _ h => h) (fun W hR => by kernel_rfl) ?_
   refine Qar 14 (.int .i64 (((ip : Nat) : Int))) 35 rfl rfl kj kj (fun _ _ _ h => h) (fun W hR => (Qax (u := .int .i64 (IntKind.i64.wrap (((i : Nat) : Int) - 1))) kj (congrArg (Value.int .i64) (by rw [show ((i : Nat) : Int) - 1 = ((ip : Nat) : Int) by omega]; exact IntWalk.i64_in _ (by omega))))) ?_
   refine Qar 15 (.pointer (some ⟨gcm_10, ocm_10 + ip, none⟩)) 36 rfl rfl kj kj (fun _ _ _ h => h) (fun W hR => (QaH 41 _ _ .i64 ip gcm_10 ocm_10 ms.length c_m 3 a_m _ ham_10 rfl rfl kj kj kj kj (Nat.lt_of_lt_of_eq (show ip < ms.length by omega) hnm_10.symm))) ?_
   refine Qar 16 (.int .i64 (nth (ms) (ip))) 37 rfl rfl kj kj (fun _ _ _ h => h) (fun W hR => (Qa9 3 _ _ (.int .i64 (nth (ms) (ip))) ((Below.cell (Rely.Ext.trans y3_4 hR) hlm_10).trans (hcm_10 ip (Nat.lt_of_lt_of_eq (show ip < ms.length by omega) hnm_10.symm))) rfl kj kj)) ?_
   refine Qar 17 (.pointer (some ⟨g2, 98, none⟩)) 38 rfl rfl kj kj (fun _ _ _ h => h) (fun W hR => by kernel_rfl) ?_
   refine Qar 18 (.slice a_m ms.length c_m) 39 rfl rfl kj kj (fun _ _ _ h => h) (fun W hR => (Qah 41 _ g2 98 43 _ (.slice a_m ms.length c_m) _ (Qas r2_4 hR) rfl kj (Qak [#[.bool true], #[.int .i64 nm], ints .u8 (key), ints .u8 (sg), ints .u8 (pa)] [#[.slice a_m ms.length c_m]] [] 98 (by rw [Qaa, Qaa, Qaa, Qaa, Qaa]; simp only [Array.size_append, cat, ((Qac _ _).trans hgl), ((Qac _ _).trans hkl), ((Qac _ _).trans hpl)]; rfl) 0 _ rfl) kj)) ?_
   refine Qar 19 (.int .i64 ((i : Nat) : Int)) 40 rfl rfl kj kj (fun _ _ _ h => h) (fun W hR => by kernel_rfl) ?_
   refine Qar 20 (.pointer (some ⟨gcm_10, ocm_10 + i, none⟩)) 41 rfl rfl kj kj (fun _ _ _ h => h) (fun W hR => (QaH 41 _ _ .i64 i gcm_10 ocm_10 ms.length c_m 3 a_m _ ham_10 rfl rfl kj kj kj kj (Nat.lt_of_lt_of_eq (show i < ms.length by omega) hnm_10.symm))) ?_
   refine Qar 21 (.int .i64 (nth (ms) (i))) 42 rfl rfl kj kj (fun _ _ _ h => h) (fun W hR => (Qa9 3 _ _ (.int .i64 (nth (ms) (i))) ((Below.cell (Rely.Ext.trans y3_4 hR) hlm_10).trans (hcm_10 i (Nat.lt_of_lt_of_eq (show i < ms.length by omega) hnm_10.symm))) rfl kj kj)) ?_
   refine Qar 22 (.bool false) 43 rfl rfl kj kj (fun _ _ _ h => h) (fun W hR => (Qax (u := .bool (decide ((nth (ms) (ip)) ≥ (nth (ms) (i))))) kj (congrArg Value.bool (decide_eq_false (by omega))))) ?_
   refine Qar 23 (.bool false) 44 rfl rfl kj kj (fun _ _ _ h => h) (fun W hR => by kernel_rfl) ?_
   refine Qar 24 (.bool false) 45 rfl rfl kj kj (fun _ _ _ h => h) (fun W hR => by kernel_rfl) ?_
   refine QbH kj ?_
   refine hK12 _ _ ?_
   refine cond_false kj ?_
   refine wp_skip ?_
   refine hK11 _ _ ?_
   refine Qae ?_
   refine Qab (.int .i64 ((i : Nat) : Int)) 19 rfl kj kj ?_
   refine Qab (.int .i64 ((i + 1 : Nat) : Int)) 20 rfl kj (Qax (u := .int .i64 (IntKind.i64.wrap (((i : Nat) : Int) + 1))) kj (congrArg (Value.int .i64) (i64n _ _ (by omega) (by omega)))) ?_
   refine Qab (.int .i64 ((i + 1 : Nat) : Int)) 3 rfl kj kj ?_
   refine Qaf ?_
   have y2_4 : Ext W2 W4 := (Rely.Ext.trans e3 e4)
   have y2_5 : Ext W2 W5 := (Rely.Ext.trans y2_4 e5)
   repeat (first | with_reducible refine goX1 ?_ | with_reducible refine goX2 ?_ | with_reducible refine goX3 ?_)
   exact Qbb (i + 1) ⟨rfl, rfl, trivial⟩ ⟨(by omega), hs, y2_5, x5⟩ (by omega)
 ·skip
  have heq18 : i = ms.length := by have := of_decide_eq_false c9; omega
  have hV : Qbo ms ms.length = true := by rw [← heq18]; exact hr
  refine wp_exit ?_
  refine hK5 _ _ ?_
  refine wp_seq_k fun K19 hK19 => ?_
  refine Qae ?_
  refine Qab (.pointer (some ⟨g2, 0, none⟩)) 46 rfl kj kj ?_
  refine Qab (.bool true) 47 rfl kj (Qah 4 _ g2 0 43 _ (.bool true) _ r2_3 rfl kj (Qak [] [#[.bool true]] [#[.int .i64 nm], ints .u8 (key), ints .u8 (sg), ints .u8 (pa), #[.slice a_m ms.length c_m]] 0 kj 0 _ rfl) kj) ?_
  refine Qab (.bool true) 48 rfl kj kj ?_
  refine Qap 49 rfl kj ?_
  refine Qap 50 rfl kj ?_
  refine Qab (.bool true) 51 rfl kj kj ?_
  refine Qab (.bool true) 2 rfl kj kj ?_
  refine Qaf ?_
  refine hK19 _ _ ?_
  refine wp_ret ?_
  repeat (first | with_reducible refine goR1 ?_ | with_reducible refine goR2 ?_)
  exact (show bodyPost _ _ _ .ret _ _ from ret1 (.bool true) rfl (Qaw kj) ⟨by rw [hV]; rfl, xx1⟩)
set_option maxHeartbeats 4000000 in
theorem QdK (nm : Int) (key sg pa ms : List Int) (a_m : Option Addr) (c_m : Nat) (w : World) (hkl : key.length = 32) (hgl : sg.length = 32) (hpl : pa.length = 32) (hm : RdK .i64 w.heap.size ms (.slice a_m ms.length c_m) w) (h1 : inB nm 255 = true) (h2 : ms.length ≤ 32) : Calls Try.prog 96 #[.agg (cat [#[.bool false], #[.int .i64 nm], ints .u8 (key), ints .u8 (sg), ints .u8 (pa), #[.slice a_m ms.length c_m]])] w (Ret w (.bool (Qbo ms ms.length && (false || Qa7 false nm key sg pa ms)))) := by
 refine enter 52 [(0, .agg (cat [#[.bool false], #[.int .i64 nm], ints .u8 (key), ints .u8 (sg), ints .u8 (pa), #[.slice a_m ms.length c_m]]))] Try.func96 rfl rfl kj rfl ?_
 refine wp_seq_k fun K1 hK1 => ?_
 refine Qae ?_
 refine Qav (cat [#[.bool false], #[.int .i64 nm], ints .u8 (key), ints .u8 (sg), ints .u8 (pa), #[.slice a_m ms.length c_m]]) 43 1 rfl kj kj fun g2 W1 l2 e1 r2_1 => ?_
 have x1 : Ext w W1 := Ext.tr (Rely.Ext.refl w) e1
 have b2 : w.heap.size ≤ g2 := Nat.le_trans (Rely.Ext.refl w).size l2
 refine Qab (.bool false) 2 rfl kj kj ?_
 refine Qaf ?_
 refine hK1 _ _ ?_
 refine wp_seq_k fun K3 hK3 => ?_
 refine wp_seq_k fun K4 hK4 => ?_
 refine Qae ?_
 refine Qab (.pointer (some ⟨g2, 1, none⟩)) 4 rfl kj kj ?_
 refine Qab (.int .i64 nm) 5 rfl kj (Qah 3 _ g2 1 43 _ (.int .i64 nm) _ r2_1 rfl kj (Qak [#[.bool false]] [#[.int .i64 nm]] [ints .u8 (key), ints .u8 (sg), ints .u8 (pa), #[.slice a_m ms.length c_m]] 1 kj 0 _ rfl) kj) ?_
 refine Qa3 (.bool true) 77 #[.int .i64 nm, .int .i64 255] 6 rfl kj kj ((inE nm 255 _ h1) _) fun W2 e2 => ?_
 have x2 : Ext w W2 := Ext.tr x1 e2
 refine Qab (.bool false) 7 rfl kj kj ?_
 refine Qab (.bool false) 8 rfl kj kj ?_
 refine Qab (.pointer (some ⟨g2, 98, none⟩)) 9 rfl kj kj ?_
 have r2_2 := (Qas r2_1 e2)
 refine Qab (.slice a_m ms.length c_m) 10 rfl kj (Qah 41 _ g2 98 43 _ (.slice a_m ms.length c_m) _ r2_2 rfl kj (Qak [#[.bool false], #[.int .i64 nm], ints .u8 (key), ints .u8 (sg), ints .u8 (pa)] [#[.slice a_m ms.length c_m]] [] 98 (by rw [Qaa, Qaa, Qaa, Qaa, Qaa]; simp only [Array.size_append, cat, ((Qac _ _).trans hgl), ((Qac _ _).trans hkl), ((Qac _ _).trans hpl)]; rfl) 0 _ rfl) kj) ?_
 refine Qab (.int .i64 ((ms.length : Nat) : Int)) 11 rfl kj kj ?_
 refine Qab (.bool false) 12 rfl kj (Qax (u := .bool (decide (((ms.length : Nat) : Int) > 32))) kj (congrArg Value.bool (decide_eq_false (by omega)))) ?_
 refine Qab (.bool false) 13 rfl kj kj ?_
 refine Qaf ?_
 refine hK4 _ _ ?_
 refine cond_false kj ?_
 refine wp_skip ?_
 refine hK3 _ _ ?_
 refine wp_seq_k fun K5 hK5 => ?_
 refine wp_seq_k fun K6 hK6 => ?_
 refine Qae ?_
 refine Qab (.int .i64 0) 3 rfl kj kj ?_
 refine Qaf ?_
 refine hK6 _ _ ?_
 refine wp_block ?_
 refine Qbl (fun (s1 : Nat) => [(1, .pointer (some ⟨g2, 0, none⟩)), (3, .int .i64 ((s1 : Nat) : Int))]) (fun (s1 : Nat) W => (s1 ≤ ms.length) ∧ (Qbo ms s1 = true) ∧ (Ext W2 W) ∧ (Ext w W)) (fun (s1 : Nat) => ms.length - s1) 0 ⟨rfl, rfl, trivial⟩ ⟨(Nat.zero_le _), rfl, (Rely.Ext.refl W2), x2⟩ fun s1 X1 V1 hI1 => ?_
 obtain ⟨i, hs1⟩ : ∃ z, z = s1 := ⟨_, rfl⟩
 subst hs1
 obtain ⟨hi, hr, kk1, xx1⟩ := hI1
 replace hi : i ≤ ms.length := hi
 replace hr : Qbo ms i = true := hr
 replace kk1 : Ext W2 V1 := kk1
 replace xx1 : Ext w V1 := xx1
 have e3 := kk1
 refine wp_seq_k fun K7 hK7 => ?_
 refine wp_seq_k fun K8 hK8 => ?_
 refine Qae ?_
 refine Qab (.int .i64 ((i : Nat) : Int)) 14 rfl kj kj ?_
 refine Qab (.pointer (some ⟨g2, 98, none⟩)) 15 rfl kj kj ?_
 have r2_3 := (Qas r2_2 e3)
 refine Qab (.slice a_m ms.length c_m) 16 rfl kj (Qah 41 _ g2 98 43 _ (.slice a_m ms.length c_m) _ r2_3 rfl kj (Qak [#[.bool false], #[.int .i64 nm], ints .u8 (key), ints .u8 (sg), ints .u8 (pa)] [#[.slice a_m ms.length c_m]] [] 98 (by rw [Qaa, Qaa, Qaa, Qaa, Qaa]; simp only [Array.size_append, cat, ((Qac _ _).trans hgl), ((Qac _ _).trans hkl), ((Qac _ _).trans hpl)]; rfl) 0 _ rfl) kj) ?_
 refine Qab (.int .i64 ((ms.length : Nat) : Int)) 17 rfl kj kj ?_
 refine Qab (.bool (decide (((i : Nat) : Int) < ((ms.length : Nat) : Int)))) 18 rfl kj kj ?_
 refine Qaf ?_
 refine hK8 _ _ ?_
 refine QaM (t := decide (((i : Nat) : Int) < ((ms.length : Nat) : Int))) kj (fun c9 => ?_) (fun c9 => ?_)
 ·skip
  have hlt18 : i < ms.length := by have := of_decide_eq_true c9; omega
  have hnm_10 : (ms).length = ms.length := rfl
  obtain ⟨gcm_10, ocm_10, ham_10, hlm_10, hcm_10⟩ := QbP (RdK.here (RdK.ext hm xx1)) (by rw [hnm_10]; omega)
  refine wp_skip ?_
  refine hK7 _ _ ?_
  refine wp_seq_k fun K11 hK11 => ?_
  refine wp_block ?_
  refine wp_seq_k fun K12 hK12 => ?_
  rcases (show inB (nth ms i) 31 = false ∨ (inB (nth ms i) 31 = true ∧ i = 0) ∨ (inB (nth ms i) 31 = true ∧ 0 < i ∧ nth ms i ≤ nth ms (i - 1)) ∨ (inB (nth ms i) 31 = true ∧ 0 < i ∧ nth ms (i - 1) < nth ms i) by cases inB (nth ms i) 31 <;> simp <;> omega) with hin | ⟨hin, h0⟩ | ⟨hin, h0, hq⟩ | ⟨hin, h0, hq⟩
  ·skip
   have hs : Qbo ms (i + 1) = false := by show (Qbo ms i && (inB (nth ms i) 31 && _)) = false; rw [hin, Bool.false_and, Bool.and_false]
   have hV : Qbo ms ms.length = false := QbD ms (i + 1) hs _ (by omega)
   refine QaU kj fun W4 e4 => ?_
   have x4 : Ext w W4 := Ext.tr xx1 e4
   refine Qar 0 (.pointer (some ⟨g2, 98, none⟩)) 21 rfl rfl kj kj (fun _ _ _ h => h) (fun W hR => by kernel_rfl) ?_
   have r2_4 := (Qas r2_3 e4)
   refine Qar 1 (.slice a_m ms.length c_m) 22 rfl rfl kj kj (fun _ _ _ h => h) (fun W hR => (Qah 41 _ g2 98 43 _ (.slice a_m ms.length c_m) _ (Qas r2_4 hR) rfl kj (Qak [#[.bool false], #[.int .i64 nm], ints .u8 (key), ints .u8 (sg), ints .u8 (pa)] [#[.slice a_m ms.length c_m]] [] 98 (by rw [Qaa, Qaa, Qaa, Qaa, Qaa]; simp only [Array.size_append, cat, ((Qac _ _).trans hgl), ((Qac _ _).trans hkl), ((Qac _ _).trans hpl)]; rfl) 0 _ rfl) kj)) ?_
   refine Qar 2 (.int .i64 ((i : Nat) : Int)) 23 rfl rfl kj kj (fun _ _ _ h => h) (fun W hR => by kernel_rfl) ?_
   refine Qar 3 (.pointer (some ⟨gcm_10, ocm_10 + i, none⟩)) 24 rfl rfl kj kj (fun _ _ _ h => h) (fun W hR => (QaH 41 _ _ .i64 i gcm_10 ocm_10 ms.length c_m 3 a_m _ ham_10 rfl rfl kj kj kj kj (Nat.lt_of_lt_of_eq (show i < ms.length by omega) hnm_10.symm))) ?_
   have y3_4 : Ext V1 W4 := (Rely.Ext.trans (Rely.Ext.refl V1) e4)
   refine Qar 4 (.int .i64 (nth (ms) (i))) 25 rfl rfl kj kj (fun _ _ _ h => h) (fun W hR => (Qa9 3 _ _ (.int .i64 (nth (ms) (i))) ((Below.cell (Rely.Ext.trans y3_4 hR) hlm_10).trans (hcm_10 i (Nat.lt_of_lt_of_eq (show i < ms.length by omega) hnm_10.symm))) rfl kj kj)) ?_
   refine QaN 5 kj ?_
   refine Qbe rfl (fun v W' => v = (.bool false) ∧ Ext W4 W') 77 #[.int .i64 (nth (ms) (i)), .int .i64 31] 26 rfl kj kj (((inE (nth ms i) 31 _ hin) _).mono fun e w' h => ⟨_, h.1, rfl, h.2⟩) (fun _ _ h => Rely.Ext.trans (Rely.Ext.refl W4) h.2) fun vv13 W5 hh13 => ?_
   obtain ⟨rfl, e5⟩ := hh13
   have x5 : Ext w W5 := Ext.tr x4 e5
   refine Qar 6 (.bool true) 27 rfl rfl kj kj (fun _ _ _ h => h) (fun W hR => by kernel_rfl) ?_
   refine Qar 7 (.bool true) 28 rfl rfl kj kj (fun _ _ _ h => h) (fun W hR => by kernel_rfl) ?_
   refine Qa5 8 29 rfl rfl kj kj (fun _ _ _ h => h) ?_
   refine Qa5 9 30 rfl rfl kj kj (fun _ _ _ h => h) ?_
   refine Qa5 10 31 rfl rfl kj kj (fun _ _ _ h => h) ?_
   refine Qa5 11 32 rfl rfl kj kj (fun _ _ _ h => h) ?_
   refine Qa5 12 33 rfl rfl kj kj (fun _ _ _ h => h) ?_
   refine Qa5 13 34 rfl rfl kj kj (fun _ _ _ h => h) ?_
   refine Qa5 14 35 rfl rfl kj kj (fun _ _ _ h => h) ?_
   refine Qa5 15 36 rfl rfl kj kj (fun _ _ _ h => h) ?_
   refine Qa5 16 37 rfl rfl kj kj (fun _ _ _ h => h) ?_
   refine Qa5 17 38 rfl rfl kj kj (fun _ _ _ h => h) ?_
   refine Qa5 18 39 rfl rfl kj kj (fun _ _ _ h => h) ?_
   refine Qa5 19 40 rfl rfl kj kj (fun _ _ _ h => h) ?_
   refine Qa5 20 41 rfl rfl kj kj (fun _ _ _ h => h) ?_
   refine Qa5 21 42 rfl rfl kj kj (fun _ _ _ h => h) ?_
   refine Qa5 22 43 rfl rfl kj kj (fun _ _ _ h => h) ?_
   refine Qa5 23 44 rfl rfl kj kj (fun _ _ _ h => h) ?_
   refine Qar 24 (.bool true) 45 rfl rfl kj kj (fun _ _ _ h => h) (fun W hR => by kernel_rfl) ?_
   refine QbH kj ?_
   refine hK12 _ _ ?_
   refine cond_true kj ?_
   refine wp_seq_k fun K14 hK14 => ?_
   refine Qae ?_
   refine Qab (.bool false) 2 rfl kj kj ?_
   refine Qaf ?_
   refine hK14 _ _ ?_
   refine wp_ret ?_
   repeat (first | with_reducible refine goR1 ?_ | with_reducible refine goR2 ?_)
   exact (show bodyPost _ _ _ .ret _ _ from ret1 (.bool false) rfl (Qaw kj) ⟨by rw [hV]; rfl, x5⟩)
  ·skip
   have hs : Qbo ms (i + 1) = true := by show (Qbo ms i && (inB (nth ms i) 31 && ((i == 0) || _))) = true; rw [hr, hin, beq_iff_eq.2 h0]; rfl
   refine QaU kj fun W4 e4 => ?_
   have x4 : Ext w W4 := Ext.tr xx1 e4
   refine Qar 0 (.pointer (some ⟨g2, 98, none⟩)) 21 rfl rfl kj kj (fun _ _ _ h => h) (fun W hR => by kernel_rfl) ?_
   have r2_4 := (Qas r2_3 e4)
   refine Qar 1 (.slice a_m ms.length c_m) 22 rfl rfl kj kj (fun _ _ _ h => h) (fun W hR => (Qah 41 _ g2 98 43 _ (.slice a_m ms.length c_m) _ (Qas r2_4 hR) rfl kj (Qak [#[.bool false], #[.int .i64 nm], ints .u8 (key), ints .u8 (sg), ints .u8 (pa)] [#[.slice a_m ms.length c_m]] [] 98 (by rw [Qaa, Qaa, Qaa, Qaa, Qaa]; simp only [Array.size_append, cat, ((Qac _ _).trans hgl), ((Qac _ _).trans hkl), ((Qac _ _).trans hpl)]; rfl) 0 _ rfl) kj)) ?_
   refine Qar 2 (.int .i64 ((i : Nat) : Int)) 23 rfl rfl kj kj (fun _ _ _ h => h) (fun W hR => by kernel_rfl) ?_
   refine Qar 3 (.pointer (some ⟨gcm_10, ocm_10 + i, none⟩)) 24 rfl rfl kj kj (fun _ _ _ h => h) (fun W hR => (QaH 41 _ _ .i64 i gcm_10 ocm_10 ms.length c_m 3 a_m _ ham_10 rfl rfl kj kj kj kj (Nat.lt_of_lt_of_eq (show i < ms.length by omega) hnm_10.symm))) ?_
   have y3_4 : Ext V1 W4 := (Rely.Ext.trans (Rely.Ext.refl V1) e4)
   refine Qar 4 (.int .i64 (nth (ms) (i))) 25 rfl rfl kj kj (fun _ _ _ h => h) (fun W hR => (Qa9 3 _ _ (.int .i64 (nth (ms) (i))) ((Below.cell (Rely.Ext.trans y3_4 hR) hlm_10).trans (hcm_10 i (Nat.lt_of_lt_of_eq (show i < ms.length by omega) hnm_10.symm))) rfl kj kj)) ?_
   refine QaN 5 kj ?_
   refine Qbe rfl (fun v W' => v = (.bool true) ∧ Ext W4 W') 77 #[.int .i64 (nth (ms) (i)), .int .i64 31] 26 rfl kj kj (((inE (nth ms i) 31 _ hin) _).mono fun e w' h => ⟨_, h.1, rfl, h.2⟩) (fun _ _ h => Rely.Ext.trans (Rely.Ext.refl W4) h.2) fun vv15 W5 hh15 => ?_
   obtain ⟨rfl, e5⟩ := hh15
   have x5 : Ext w W5 := Ext.tr x4 e5
   refine Qar 6 (.bool false) 27 rfl rfl kj kj (fun _ _ _ h => h) (fun W hR => by kernel_rfl) ?_
   refine Qar 7 (.bool false) 28 rfl rfl kj kj (fun _ _ _ h => h) (fun W hR => by kernel_rfl) ?_
   refine Qar 8 (.int .i64 ((i : Nat) : Int)) 29 rfl rfl kj kj (fun _ _ _ h => h) (fun W hR => by kernel_rfl) ?_
   refine Qar 9 (.bool false) 30 rfl rfl kj kj (fun _ _ _ h => h) (fun W hR => (Qax (u := .bool (decide (((i : Nat) : Int) > 0))) kj (congrArg Value.bool (decide_eq_false (by omega))))) ?_
   refine Qar 10 (.bool false) 31 rfl rfl kj kj (fun _ _ _ h => h) (fun W hR => by kernel_rfl) ?_
   refine Qa5 11 32 rfl rfl kj kj (fun _ _ _ h => h) ?_
   refine Qa5 12 33 rfl rfl kj kj (fun _ _ _ h => h) ?_
   refine Qa5 13 34 rfl rfl kj kj (fun _ _ _ h => h) ?_
   refine Qa5 14 35 rfl rfl kj kj (fun _ _ _ h => h) ?_
   refine Qa5 15 36 rfl rfl kj kj (fun _ _ _ h => h) ?_
   refine Qa5 16 37 rfl rfl kj kj (fun _ _ _ h => h) ?_
   refine Qa5 17 38 rfl rfl kj kj (fun _ _ _ h => h) ?_
   refine Qa5 18 39 rfl rfl kj kj (fun _ _ _ h => h) ?_
   refine Qa5 19 40 rfl rfl kj kj (fun _ _ _ h => h) ?_
   refine Qa5 20 41 rfl rfl kj kj (fun _ _ _ h => h) ?_
   refine Qa5 21 42 rfl rfl kj kj (fun _ _ _ h => h) ?_
   refine Qa5 22 43 rfl rfl kj kj (fun _ _ _ h => h) ?_
   refine Qar 23 (.bool false) 44 rfl rfl kj kj (fun _ _ _ h => h) (fun W hR => by kernel_rfl) ?_
   refine Qar 24 (.bool false) 45 rfl rfl kj kj (fun _ _ _ h => h) (fun W hR => by kernel_rfl) ?_
   refine QbH kj ?_
   refine hK12 _ _ ?_
   refine cond_false kj ?_
   refine wp_skip ?_
   refine hK11 _ _ ?_
   refine Qae ?_
   refine Qab (.int .i64 ((i : Nat) : Int)) 19 rfl kj kj ?_
   refine Qab (.int .i64 ((i + 1 : Nat) : Int)) 20 rfl kj (Qax (u := .int .i64 (IntKind.i64.wrap (((i : Nat) : Int) + 1))) kj (congrArg (Value.int .i64) (i64n _ _ (by omega) (by omega)))) ?_
   refine Qab (.int .i64 ((i + 1 : Nat) : Int)) 3 rfl kj kj ?_
   refine Qaf ?_
   have y2_4 : Ext W2 W4 := (Rely.Ext.trans e3 e4)
   have y2_5 : Ext W2 W5 := (Rely.Ext.trans y2_4 e5)
   repeat (first | with_reducible refine goX1 ?_ | with_reducible refine goX2 ?_ | with_reducible refine goX3 ?_)
   exact Qbb (i + 1) ⟨rfl, rfl, trivial⟩ ⟨(by omega), hs, y2_5, x5⟩ (by omega)
  ·skip
   obtain ⟨ip, hip⟩ : ∃ ip, i = ip + 1 := ⟨i - 1, by omega⟩
   have hi1 : i - 1 = ip := by omega
   rw [hi1] at hq
   have hs : Qbo ms (i + 1) = false := by show (Qbo ms i && (inB (nth ms i) 31 && ((i == 0) || decide (nth ms (i - 1) < nth ms i)))) = false; rw [hi1, hr, hin, beq_eq_false_iff_ne.2 (show i ≠ 0 by omega), decide_eq_false (by omega)]; rfl
   have hV : Qbo ms ms.length = false := QbD ms (i + 1) hs _ (by omega)
   refine QaU kj fun W4 e4 => ?_
   have x4 : Ext w W4 := Ext.tr xx1 e4
   refine Qar 0 (.pointer (some ⟨g2, 98, none⟩)) 21 rfl rfl kj kj (fun _ _ _ h => h) (fun W hR => by kernel_rfl) ?_
   have r2_4 := (Qas r2_3 e4)
   refine Qar 1 (.slice a_m ms.length c_m) 22 rfl rfl kj kj (fun _ _ _ h => h) (fun W hR => (Qah 41 _ g2 98 43 _ (.slice a_m ms.length c_m) _ (Qas r2_4 hR) rfl kj (Qak [#[.bool false], #[.int .i64 nm], ints .u8 (key), ints .u8 (sg), ints .u8 (pa)] [#[.slice a_m ms.length c_m]] [] 98 (by rw [Qaa, Qaa, Qaa, Qaa, Qaa]; simp only [Array.size_append, cat, ((Qac _ _).trans hgl), ((Qac _ _).trans hkl), ((Qac _ _).trans hpl)]; rfl) 0 _ rfl) kj)) ?_
   refine Qar 2 (.int .i64 ((i : Nat) : Int)) 23 rfl rfl kj kj (fun _ _ _ h => h) (fun W hR => by kernel_rfl) ?_
   refine Qar 3 (.pointer (some ⟨gcm_10, ocm_10 + i, none⟩)) 24 rfl rfl kj kj (fun _ _ _ h => h) (fun W hR => (QaH 41 _ _ .i64 i gcm_10 ocm_10 ms.length c_m 3 a_m _ ham_10 rfl rfl kj kj kj kj (Nat.lt_of_lt_of_eq (show i < ms.length by omega) hnm_10.symm))) ?_
   have y3_4 : Ext V1 W4 := (Rely.Ext.trans (Rely.Ext.refl V1) e4)
   refine Qar 4 (.int .i64 (nth (ms) (i))) 25 rfl rfl kj kj (fun _ _ _ h => h) (fun W hR => (Qa9 3 _ _ (.int .i64 (nth (ms) (i))) ((Below.cell (Rely.Ext.trans y3_4 hR) hlm_10).trans (hcm_10 i (Nat.lt_of_lt_of_eq (show i < ms.length by omega) hnm_10.symm))) rfl kj kj)) ?_
   refine QaN 5 kj ?_
   refine Qbe rfl (fun v W' => v = (.bool true) ∧ Ext W4 W') 77 #[.int .i64 (nth (ms) (i)), .int .i64 31] 26 rfl kj kj (((inE (nth ms i) 31 _ hin) _).mono fun e w' h => ⟨_, h.1, rfl, h.2⟩) (fun _ _ h => Rely.Ext.trans (Rely.Ext.refl W4) h.2) fun vv16 W5 hh16 => ?_
   obtain ⟨rfl, e5⟩ := hh16
   have x5 : Ext w W5 := Ext.tr x4 e5
   refine Qar 6 (.bool false) 27 rfl rfl kj kj (fun _ _ _ h => h) (fun W hR => by kernel_rfl) ?_
   refine Qar 7 (.bool false) 28 rfl rfl kj kj (fun _ _ _ h => h) (fun W hR => by kernel_rfl) ?_
   refine Qar 8 (.int .i64 ((i : Nat) : Int)) 29 rfl rfl kj kj (fun _ _ _ h => h) (fun W hR => by kernel_rfl) ?_
   refine Qar 9 (.bool true) 30 rfl rfl kj kj (fun _ _ _ h => h) (fun W hR => (Qax (u := .bool (decide (((i : Nat) : Int) > 0))) kj (congrArg Value.bool (decide_eq_true (by omega))))) ?_
   refine Qar 10 (.bool true) 31 rfl rfl kj kj (fun _ _ _ h => h) (fun W hR => by kernel_rfl) ?_
   refine Qar 11 (.pointer (some ⟨g2, 98, none⟩)) 32 rfl rfl kj kj (fun _ _ _ h => h) (fun W hR => by kernel_rfl) ?_
   refine Qar 12 (.slice a_m ms.length c_m) 33 rfl rfl kj kj (fun _ _ _ h => h) (fun W hR => (Qah 41 _ g2 98 43 _ (.slice a_m ms.length c_m) _ (Qas r2_4 hR) rfl kj (Qak [#[.bool false], #[.int .i64 nm], ints .u8 (key), ints .u8 (sg), ints .u8 (pa)] [#[.slice a_m ms.length c_m]] [] 98 (by rw [Qaa, Qaa, Qaa, Qaa, Qaa]; simp only [Array.size_append, cat, ((Qac _ _).trans hgl), ((Qac _ _).trans hkl), ((Qac _ _).trans hpl)]; rfl) 0 _ rfl) kj)) ?_
   refine Qar 13 (.int .i64 ((i : Nat) : Int)) 34 rfl rfl kj kj (fun _ _ _ h => h) (fun W hR => by kernel_rfl) ?_
   refine Qar 14 (.int .i64 (((ip : Nat) : Int))) 35 rfl rfl kj kj (fun _ _ _ h => h) (fun W hR => (Qax (u := .int .i64 (IntKind.i64.wrap (((i : Nat) : Int) - 1))) kj (congrArg (Value.int .i64) (by rw [show ((i : Nat) : Int) - 1 = ((ip : Nat) : Int) by omega]; exact IntWalk.i64_in _ (by omega))))) ?_
   refine Qar 15 (.pointer (some ⟨gcm_10, ocm_10 + ip, none⟩)) 36 rfl rfl kj kj (fun _ _ _ h => h) (fun W hR => (QaH 41 _ _ .i64 ip gcm_10 ocm_10 ms.length c_m 3 a_m _ ham_10 rfl rfl kj kj kj kj (Nat.lt_of_lt_of_eq (show ip < ms.length by omega) hnm_10.symm))) ?_
   refine Qar 16 (.int .i64 (nth (ms) (ip))) 37 rfl rfl kj kj (fun _ _ _ h => h) (fun W hR => (Qa9 3 _ _ (.int .i64 (nth (ms) (ip))) ((Below.cell (Rely.Ext.trans y3_4 hR) hlm_10).trans (hcm_10 ip (Nat.lt_of_lt_of_eq (show ip < ms.length by omega) hnm_10.symm))) rfl kj kj)) ?_
   refine Qar 17 (.pointer (some ⟨g2, 98, none⟩)) 38 rfl rfl kj kj (fun _ _ _ h => h) (fun W hR => by kernel_rfl) ?_
   refine Qar 18 (.slice a_m ms.length c_m) 39 rfl rfl kj kj (fun _ _ _ h => h) (fun W hR => (Qah 41 _ g2 98 43 _ (.slice a_m ms.length c_m) _ (Qas r2_4 hR) rfl kj (Qak [#[.bool false], #[.int .i64 nm], ints .u8 (key), ints .u8 (sg), ints .u8 (pa)] [#[.slice a_m ms.length c_m]] [] 98 (by rw [Qaa, Qaa, Qaa, Qaa, Qaa]; simp only [Array.size_append, cat, ((Qac _ _).trans hgl), ((Qac _ _).trans hkl), ((Qac _ _).trans hpl)]; rfl) 0 _ rfl) kj)) ?_
   refine Qar 19 (.int .i64 ((i : Nat) : Int)) 40 rfl rfl kj kj (fun _ _ _ h => h) (fun W hR => by kernel_rfl) ?_
   refine Qar 20 (.pointer (some ⟨gcm_10, ocm_10 + i, none⟩)) 41 rfl rfl kj kj (fun _ _ _ h => h) (fun W hR => (QaH 41 _ _ .i64 i gcm_10 ocm_10 ms.length c_m 3 a_m _ ham_10 rfl rfl kj kj kj kj (Nat.lt_of_lt_of_eq (show i < ms.length by omega) hnm_10.symm))) ?_
   refine Qar 21 (.int .i64 (nth (ms) (i))) 42 rfl rfl kj kj (fun _ _ _ h => h) (fun W hR => (Qa9 3 _ _ (.int .i64 (nth (ms) (i))) ((Below.cell (Rely.Ext.trans y3_4 hR) hlm_10).trans (hcm_10 i (Nat.lt_of_lt_of_eq (show i < ms.length by omega) hnm_10.symm))) rfl kj kj)) ?_
   refine Qar 22 (.bool true) 43 rfl rfl kj kj (fun _ _ _ h => h) (fun W hR => (Qax (u := .bool (decide ((nth (ms) (ip)) ≥ (nth (ms) (i))))) kj (congrArg Value.bool (decide_eq_true (by omega))))) ?_
   refine Qar 23 (.bool true) 44 rfl rfl kj kj (fun _ _ _ h => h) (fun W hR => by kernel_rfl) ?_
   refine Qar 24 (.bool true) 45 rfl rfl kj kj (fun _ _ _ h => h) (fun W hR => by kernel_rfl) ?_
   refine QbH kj ?_
   refine hK12 _ _ ?_
   refine cond_true kj ?_
   refine wp_seq_k fun K17 hK17 => ?_
   refine Qae ?_
   refine Qab (.bool false) 2 rfl kj kj ?_
   refine Qaf ?_
   refine hK17 _ _ ?_
   refine wp_ret ?_
   repeat (first | with_reducible refine goR1 ?_ | with_reducible refine goR2 ?_)
   exact (show bodyPost _ _ _ .ret _ _ from ret1 (.bool false) rfl (Qaw kj) ⟨by rw [hV]; rfl, x5⟩)
  ·skip
   obtain ⟨ip, hip⟩ : ∃ ip, i = ip + 1 := ⟨i - 1, by omega⟩
   have hi1 : i - 1 = ip := by omega
   rw [hi1] at hq
   have hs : Qbo ms (i + 1) = true := by show (Qbo ms i && (inB (nth ms i) 31 && ((i == 0) || decide (nth ms (i - 1) < nth ms i)))) = true; rw [hi1, hr, hin, beq_eq_false_iff_ne.2 (show i ≠ 0 by omega), decide_eq_true (by omega)]; rfl
   refine QaU kj fun W4 e4 => ?_
   have x4 : Ext w W4 := Ext.tr xx1 e4
   refine Qar 0 (.pointer (some ⟨g2, 98, none⟩)) 21 rfl rfl kj kj (fun _ _ _ h => h) (fun W hR => by kernel_rfl) ?_
   have r2_4 := (Qas r2_3 e4)
   refine Qar 1 (.slice a_m ms.length c_m) 22 rfl rfl kj kj (fun _ _ _ h => h) (fun W hR => (Qah 41 _ g2 98 43 _ (.slice a_m ms.length c_m) _ (Qas r2_4 hR) rfl kj (Qak [#[.bool false], #[.int .i64 nm], ints .u8 (key), ints .u8 (sg), ints .u8 (pa)] [#[.slice a_m ms.length c_m]] [] 98 (by rw [Qaa, Qaa, Qaa, Qaa, Qaa]; simp only [Array.size_append, cat, ((Qac _ _).trans hgl), ((Qac _ _).trans hkl), ((Qac _ _).trans hpl)]; rfl) 0 _ rfl) kj)) ?_
   refine Qar 2 (.int .i64 ((i : Nat) : Int)) 23 rfl rfl kj kj (fun _ _ _ h => h) (fun W hR => by kernel_rfl) ?_
   refine Qar 3 (.pointer (some ⟨gcm_10, ocm_10 + i, none⟩)) 24 rfl rfl kj kj (fun _ _ _ h => h) (fun W hR => (QaH 41 _ _ .i64 i gcm_10 ocm_10 ms.length c_m 3 a_m _ ham_10 rfl rfl kj kj kj kj (Nat.lt_of_lt_of_eq (show i < ms.length by omega) hnm_10.symm))) ?_
   have y3_4 : Ext V1 W4 := (Rely.Ext.trans (Rely.Ext.refl V1) e4)
   refine Qar 4 (.int .i64 (nth (ms) (i))) 25 rfl rfl kj kj (fun _ _ _ h => h) (fun W hR => (Qa9 3 _ _ (.int .i64 (nth (ms) (i))) ((Below.cell (Rely.Ext.trans y3_4 hR) hlm_10).trans (hcm_10 i (Nat.lt_of_lt_of_eq (show i < ms.length by omega) hnm_10.symm))) rfl kj kj)) ?_
   refine QaN 5 kj ?_
   refine Qbe rfl (fun v W' => v = (.bool true) ∧ Ext W4 W') 77 #[.int .i64 (nth (ms) (i)), .int .i64 31] 26 rfl kj kj (((inE (nth ms i) 31 _ hin) _).mono fun e w' h => ⟨_, h.1, rfl, h.2⟩) (fun _ _ h => Rely.Ext.trans (Rely.Ext.refl W4) h.2) fun vv18 W5 hh18 => ?_
   obtain ⟨rfl, e5⟩ := hh18
   have x5 : Ext w W5 := Ext.tr x4 e5
   refine Qar 6 (.bool false) 27 rfl rfl kj kj (fun _ _ _ h => h) (fun W hR => by kernel_rfl) ?_
   refine Qar 7 (.bool false) 28 rfl rfl kj kj (fun _ _ _ h => h) (fun W hR => by kernel_rfl) ?_
   refine Qar 8 (.int .i64 ((i : Nat) : Int)) 29 rfl rfl kj kj (fun _ _ _ h => h) (fun W hR => by kernel_rfl) ?_
   refine Qar 9 (.bool true) 30 rfl rfl kj kj (fun _ _ _ h => h) (fun W hR => (Qax (u := .bool (decide (((i : Nat) : Int) > 0))) kj (congrArg Value.bool (decide_eq_true (by omega))))) ?_
   refine Qar 10 (.bool true) 31 rfl rfl kj kj (fun _ _ _ h => h) (fun W hR => by kernel_rfl) ?_
   refine Qar 11 (.pointer (some ⟨g2, 98, none⟩)) 32 rfl rfl kj kj (fun _ _ _ h => h) (fun W hR => by kernel_rfl) ?_
   refine Qar 12 (.slice a_m ms.length c_m) 33 rfl rfl kj kj (fun _ _ _ h => h) (fun W hR => (Qah 41 _ g2 98 43 _ (.slice a_m ms.length c_m) _ (Qas r2_4 hR) rfl kj (Qak [#[.bool false], #[.int .i64 nm], ints .u8 (key), ints .u8 (sg), ints .u8 (pa)] [#[.slice a_m ms.length c_m]] [] 98 (by rw [Qaa, Qaa, Qaa, Qaa, Qaa]; simp only [Array.size_append, cat, ((Qac _ _).trans hgl), ((Qac _ _).trans hkl), ((Qac _ _).trans hpl)]; rfl) 0 _ rfl) kj)) ?_
   refine Qar 13 (.int .i64 ((i : Nat) : Int)) 34 rfl rfl kj kj (fun _ _ _ h => h) (fun W hR => by kernel_rfl) ?_
   refine Qar 14 (.int .i64 (((ip : Nat) : Int))) 35 rfl rfl kj kj (fun _ _ _ h => h) (fun W hR => (Qax (u := .int .i64 (IntKind.i64.wrap (((i : Nat) : Int) - 1))) kj (congrArg (Value.int .i64) (by rw [show ((i : Nat) : Int) - 1 = ((ip : Nat) : Int) by omega]; exact IntWalk.i64_in _ (by omega))))) ?_
   refine Qar 15 (.pointer (some ⟨gcm_10, ocm_10 + ip, none⟩)) 36 rfl rfl kj kj (fun _ _ _ h => h) (fun W hR => (QaH 41 _ _ .i64 ip gcm_10 ocm_10 ms.length c_m 3 a_m _ ham_10 rfl rfl kj kj kj kj (Nat.lt_of_lt_of_eq (show ip < ms.length by omega) hnm_10.symm))) ?_
   refine Qar 16 (.int .i64 (nth (ms) (ip))) 37 rfl rfl kj kj (fun _ _ _ h => h) (fun W hR => (Qa9 3 _ _ (.int .i64 (nth (ms) (ip))) ((Below.cell (Rely.Ext.trans y3_4 hR) hlm_10).trans (hcm_10 ip (Nat.lt_of_lt_of_eq (show ip < ms.length by omega) hnm_10.symm))) rfl kj kj)) ?_
   refine Qar 17 (.pointer (some ⟨g2, 98, none⟩)) 38 rfl rfl kj kj (fun _ _ _ h => h) (fun W hR => by kernel_rfl) ?_
   refine Qar 18 (.slice a_m ms.length c_m) 39 rfl rfl kj kj (fun _ _ _ h => h) (fun W hR => (Qah 41 _ g2 98 43 _ (.slice a_m ms.length c_m) _ (Qas r2_4 hR) rfl kj (Qak [#[.bool false], #[.int .i64 nm], ints .u8 (key), ints .u8 (sg), ints .u8 (pa)] [#[.slice a_m ms.length c_m]] [] 98 (by rw [Qaa, Qaa, Qaa, Qaa, Qaa]; simp only [Array.size_append, cat, ((Qac _ _).trans hgl), ((Qac _ _).trans hkl), ((Qac _ _).trans hpl)]; rfl) 0 _ rfl) kj)) ?_
   refine Qar 19 (.int .i64 ((i : Nat) : Int)) 40 rfl rfl kj kj (fun _ _ _ h => h) (fun W hR => by kernel_rfl) ?_
   refine Qar 20 (.pointer (some ⟨gcm_10, ocm_10 + i, none⟩)) 41 rfl rfl kj kj (fun _ _ _ h => h) (fun W hR => (QaH 41 _ _ .i64 i gcm_10 ocm_10 ms.length c_m 3 a_m _ ham_10 rfl rfl kj kj kj kj (Nat.lt_of_lt_of_eq (show i < ms.length by omega) hnm_10.symm))) ?_
   refine Qar 21 (.int .i64 (nth (ms) (i))) 42 rfl rfl kj kj (fun _ _ _ h => h) (fun W hR => (Qa9 3 _ _ (.int .i64 (nth (ms) (i))) ((Below.cell (Rely.Ext.trans y3_4 hR) hlm_10).trans (hcm_10 i (Nat.lt_of_lt_of_eq (show i < ms.length by omega) hnm_10.symm))) rfl kj kj)) ?_
   refine Qar 22 (.bool false) 43 rfl rfl kj kj (fun _ _ _ h => h) (fun W hR => (Qax (u := .bool (decide ((nth (ms) (ip)) ≥ (nth (ms) (i))))) kj (congrArg Value.bool (decide_eq_false (by omega))))) ?_
   refine Qar 23 (.bool false) 44 rfl rfl kj kj (fun _ _ _ h => h) (fun W hR => by kernel_rfl) ?_
   refine Qar 24 (.bool false) 45 rfl rfl kj kj (fun _ _ _ h => h) (fun W hR => by kernel_rfl) ?_
   refine QbH kj ?_
   refine hK12 _ _ ?_
   refine cond_false kj ?_
   refine wp_skip ?_
   refine hK11 _ _ ?_
   refine Qae ?_
   refine Qab (.int .i64 ((i : Nat) : Int)) 19 rfl kj kj ?_
   refine Qab (.int .i64 ((i + 1 : Nat) : Int)) 20 rfl kj (Qax (u := .int .i64 (IntKind.i64.wrap (((i : Nat) : Int) + 1))) kj (congrArg (Value.int .i64) (i64n _ _ (by omega) (by omega)))) ?_
   refine Qab (.int .i64 ((i + 1 : Nat) : Int)) 3 rfl kj kj ?_
   refine Qaf ?_
   have y2_4 : Ext W2 W4 := (Rely.Ext.trans e3 e4)
   have y2_5 : Ext W2 W5 := (Rely.Ext.trans y2_4 e5)
   repeat (first | with_reducible refine goX1 ?_ | with_reducible refine goX2 ?_ | with_reducible refine goX3 ?_)
   exact Qbb (i + 1) ⟨rfl, rfl, trivial⟩ ⟨(by omega), hs, y2_5, x5⟩ (by omega)
 ·skip
  have heq18 : i = ms.length := by have := of_decide_eq_false c9; omega
  have hV : Qbo ms ms.length = true := by rw [← heq18]; exact hr
  refine wp_exit ?_
  refine hK5 _ _ ?_
  refine wp_seq_k fun K19 hK19 => ?_
  refine Qae ?_
  refine Qab (.pointer (some ⟨g2, 0, none⟩)) 46 rfl kj kj ?_
  refine Qab (.bool false) 47 rfl kj (Qah 4 _ g2 0 43 _ (.bool false) _ r2_3 rfl kj (Qak [] [#[.bool false]] [#[.int .i64 nm], ints .u8 (key), ints .u8 (sg), ints .u8 (pa), #[.slice a_m ms.length c_m]] 0 kj 0 _ rfl) kj) ?_
  refine Qab (.bool false) 48 rfl kj kj ?_
  refine Qab (.agg (cat [#[.bool false], #[.int .i64 nm], ints .u8 (key), ints .u8 (sg), ints .u8 (pa), #[.slice a_m ms.length c_m]])) 49 rfl kj (Qa4 43 _ g2 43 _ _ r2_3 rfl kj kj (isz (n := 99) kj (by rw [Qaa, Qaa, Qaa, Qaa, Qaa, Qaa]; simp only [Array.size_append, cat, ((Qac _ _).trans hgl), ((Qac _ _).trans hkl), ((Qac _ _).trans hpl)]; rfl))) ?_
  refine Qa3 (.bool (Qa7 false nm key sg pa ms)) 108 #[.agg (cat [#[.bool false], #[.int .i64 nm], ints .u8 (key), ints .u8 (sg), ints .u8 (pa), #[.slice a_m ms.length c_m]])] 50 rfl kj kj (Qgp false nm key sg pa ms _ _ _ hkl hgl hpl) fun W4 e4 => ?_
  have x4 : Ext w W4 := Ext.tr xx1 e4
  refine Qab (.bool (Qa7 false nm key sg pa ms)) 51 rfl kj kj ?_
  refine Qab (.bool (Qa7 false nm key sg pa ms)) 2 rfl kj kj ?_
  refine Qaf ?_
  refine hK19 _ _ ?_
  refine wp_ret ?_
  repeat (first | with_reducible refine goR1 ?_ | with_reducible refine goR2 ?_)
  exact (show bodyPost _ _ _ .ret _ _ from ret1 (.bool (Qa7 false nm key sg pa ms)) rfl (Qaw kj) ⟨by rw [hV]; rfl, x4⟩)
theorem QgP (us : Bool) (nm : Int) (key sg pa ms : List Int) (a_m : Option Addr) (c_m : Nat) (w : World) (hkl : key.length = 32) (hgl : sg.length = 32) (hpl : pa.length = 32) (hm : RdK .i64 w.heap.size ms (.slice a_m ms.length c_m) w) : Calls Try.prog 96 #[.agg (cat [#[.bool us], #[.int .i64 nm], ints .u8 (key), ints .u8 (sg), ints .u8 (pa), #[.slice a_m ms.length c_m]])] w (Ret w (.bool (Qb8 us nm key sg pa ms))) := by
  unfold Qb8
  cases h1 : inB nm 255 with
  | false => exact Qg5 us nm key sg pa ms a_m c_m w hkl hgl hpl hm h1
  | true =>
    by_cases h2 : ms.length ≤ 32
    · rw [decide_eq_true h2]
      cases us with
      | true => exact Qet nm key sg pa ms a_m c_m w hkl hgl hpl hm h1 h2
      | false => exact QdK nm key sg pa ms a_m c_m w hkl hgl hpl hm h1 h2
    · rw [decide_eq_false h2]; exact Qg4 us nm key sg pa ms a_m c_m w hkl hgl hpl hm h1 (by omega)
end Go.Proofs.Ytfelfmchachljaa.Wr
end
section
namespace Go.Proofs.Ytfelfmchachljaa.Wr
open Go Go.RowKit
open Rely Auto Own Sha
set_option linter.unusedVariables false
set_option linter.unusedSimpArgs false
open Wk
section
variable {P : Program} {ops : Array Oper} {Q : Exit → Act → World → Prop} {o : Oper} {N : Nat} {L : Env} {w V : World} {ds : List Deferred} {fuel : Nat} {listed : Array Bool}
theorem Qb9 {k : IntKind} {T : TypeId} (b : Nat) (s x : Operand) (t : TypeId) (ho2 : o.op = .call { callee := .builtin .append, args := #[s, x], argTypes := #[t, t] })
    (ht : P.underlying t = some (.slice T)) (hi : (P.info? T).map (fun i => (i.zero, i.size, i.bytes)) = some (some (.int k 0), 1, b)) (hb8 : b ≤ 8) (d : Nat) (hd : o.dst = some d) (j : Nat) (ho : ops[j]? = some o) (hg : QbE ops o N L = some true) {B : Nat} {v y : Value} {xs ys : List Int}
    (hs : Rely.look (envN N L) s = v) (hx : Rely.look (envN N L) x = y)
    (h : OwnN k T V.heap.size xs v w) (hy : RdK k B ys y w) (hn : xs.length + ys.length ≤ 1000000000) (hV : Ext V w)
    (kk : ∀ (u : Value) (W' : World), OwnN k T V.heap.size (xs ++ ys) u W' → Ext V W' → Below V.heap.size w W' → WB P ops Q (fun _ => True) fuel (listed.setIfInBounds j true) (QaD ds N ((d, u) :: L)) W') : WO P ops Q (fun _ => True) j fuel listed (QaD ds N L) w := by
  obtain ⟨v', W', h1, h2, h3, h4⟩ := Qcd (ρ := Rely.look (envN N L)) (o := o) (W := w) s x t ho2 ht hi hb8 hs hx h hy hn hV.size
  exact QbG ho (fun u W' => OwnN k T V.heap.size (xs ++ ys) u W' ∧ Ext V W' ∧ Below V.heap.size w W') d hd hg ⟨v', W', h1, h2, Qdo hV h h3, ⟨h3.os, h3.tape, h3.output, h3.size, fun i hi => h3.block i (Nat.lt_of_lt_of_le hi hV.size) (fun q => by have := h.ge q.symm; omega)⟩⟩ (fun _ _ _ => trivial) fun u W' h => kk u W' h.1 h.2.1 h.2.2
end
def QbK (us : Bool) (nm : Int) (key sg pa : List Int) (n : Nat) : List Int := [bif us then 1 else 0, byV nm 0] ++ key ++ sg ++ pa ++ [byV ((n : Nat) : Int) 0]
def Qbd (us : Bool) (nm : Int) (key sg pa ms : List Int) : List Int := QbK us nm key sg pa ms.length ++ ms.map fun m => byV m 0
theorem QcV (H ms : List Int) (i : Nat) (h : i < ms.length) : H ++ (ms.take (i + 1)).map (fun m => byV m 0) = H ++ (ms.take i).map (fun m => byV m 0) ++ [byV (nth ms i) 0] := by
  have e : ms.take (i + 1) = ms.take i ++ [nth ms i] := by
    rw [List.take_add_one, List.getElem?_eq_getElem h]
    unfold nth
    rw [List.getD_eq_getElem?_getD, List.getElem?_eq_getElem h]
    rfl
  rw [e, List.map_append, ← List.append_assoc]
  rfl
set_option maxHeartbeats 4000000 in
theorem Qek (nm : Int) (key sg pa ms : List Int) (a_m : Option Addr) (c_m : Nat) (w : World) (hkl : key.length = 32) (hgl : sg.length = 32) (hpl : pa.length = 32) (hml : ms.length ≤ 1000000) (hm : RdK .i64 w.heap.size ms (.slice a_m ms.length c_m) w) : Calls Try.prog 97 #[.agg (cat [#[.bool true], #[.int .i64 nm], ints .u8 (key), ints .u8 (sg), ints .u8 (pa), #[.slice a_m ms.length c_m]])] w (Qb1 w (OwnN .u8 5 w.heap.size (Qbd true nm key sg pa ms))) := by
 refine enter 47 [(0, .agg (cat [#[.bool true], #[.int .i64 nm], ints .u8 (key), ints .u8 (sg), ints .u8 (pa), #[.slice a_m ms.length c_m]]))] Try.func97 rfl rfl kj rfl ?_
 refine wp_seq_k fun K1 hK1 => ?_
 refine Qae ?_
 refine Qav (cat [#[.bool true], #[.int .i64 nm], ints .u8 (key), ints .u8 (sg), ints .u8 (pa), #[.slice a_m ms.length c_m]]) 43 1 rfl kj kj fun g2 W1 l2 e1 r2_1 => ?_
 have x1 : Ext w W1 := Ext.tr (Rely.Ext.refl w) e1
 have b2 : w.heap.size ≤ g2 := Nat.le_trans (Rely.Ext.refl w).size l2
 refine Qab (.slice none 0 0) 2 rfl kj kj ?_
 refine Qaf ?_
 refine hK1 _ _ ?_
 refine wp_seq_k fun K3 hK3 => ?_
 refine Qae ?_
 refine Qab (.pointer (some ⟨g2, 1, none⟩)) 5 rfl kj kj ?_
 refine Qab (.int .i64 nm) 6 rfl kj (Qah 3 _ g2 1 43 _ (.int .i64 nm) _ r2_1 rfl kj (Qak [#[.bool true]] [#[.int .i64 nm]] [ints .u8 (key), ints .u8 (sg), ints .u8 (pa), #[.slice a_m ms.length c_m]] 1 kj 0 _ rfl) kj) ?_
 refine Qab (.int .u8 (byV nm 0)) 7 rfl kj (Qax (u := .int .u8 (IntKind.u8.wrap (nm))) kj (congrArg (Value.int .u8) (byV0 nm))) ?_
 refine Qba (ints .u8 ([0, (byV nm 0)])) 5 2 8 rfl kj kj fun g4 W2 l4 e2 r4_2 => ?_
 have x2 : Ext w W2 := Ext.tr x1 e2
 have b4 : w.heap.size ≤ g4 := Nat.le_trans x1.size l4
 refine Qab (.slice (some ⟨g4, 0, none⟩) 2 2) 3 rfl kj kj ?_
 refine Qaf ?_
 refine hK3 _ _ ?_
 refine wp_seq_k fun K5 hK5 => ?_
 refine wp_seq_k fun K6 hK6 => ?_
 refine Qae ?_
 refine Qab (.pointer (some ⟨g2, 0, none⟩)) 9 rfl kj kj ?_
 have r2_2 := (Qas r2_1 e2)
 refine Qab (.bool true) 10 rfl kj (Qah 4 _ g2 0 43 _ (.bool true) _ r2_2 rfl kj (Qak [] [#[.bool true]] [#[.int .i64 nm], ints .u8 (key), ints .u8 (sg), ints .u8 (pa), #[.slice a_m ms.length c_m]] 0 kj 0 _ rfl) kj) ?_
 refine Qaf ?_
 refine hK6 _ _ ?_
 refine cond_true kj ?_
 refine Qae ?_
 refine Qab (.slice (some ⟨g4, 0, none⟩) 2 2) 11 rfl kj kj ?_
 refine Qab (.pointer (some ⟨g4, 0, none⟩)) 12 rfl kj (Qci 26 _ _ .i64 (0) g4 2 2 5 rfl kj kj kj kj (by decide)) ?_
 refine Qa2 g4 _ (ints .u8 (([0, (byV nm 0)]).set 0 1)) 5 r4_2 rfl kj (Qeh 5 _ _ g4 0 5 _ _ r4_2 rfl kj kj kj (Nat.lt_of_lt_of_eq (show 0 < 2 by decide) rfl.symm)) fun W3 p3 r4_3 => ?_
 have x3 : Ext w W3 := Puts.ext p3 x2 b4
 refine Qaf ?_
 refine hK5 _ _ ?_
 refine wp_seq_k fun K7 hK7 => ?_
 refine QbI (fun _ => True) kj fun W4 e4 => ⟨trivial, ?_⟩
 have x4 : Ext w W4 := Ext.tr x3 e4
 refine Qar 0 (.slice (some ⟨g4, 0, none⟩) 2 2) 13 rfl rfl kj kj (fun _ _ _ h => h) (fun W hR => by kernel_rfl) ?_
 refine Qar 1 (.pointer (some ⟨g2, 2, none⟩)) 14 rfl rfl kj kj (fun _ _ _ h => h) (fun W hR => by kernel_rfl) ?_
 refine Qar 2 (.slice (some ⟨g2, 2, none⟩) 32 32) 15 rfl rfl kj kj (fun _ _ _ h => h) (fun W hR => by kernel_rfl) ?_
 refine Qar 4 (.pointer (some ⟨g2, 34, none⟩)) 17 rfl rfl kj kj (fun _ _ _ h => h) (fun W hR => by kernel_rfl) ?_
 refine Qar 5 (.slice (some ⟨g2, 34, none⟩) 32 32) 18 rfl rfl kj kj (fun _ _ _ h => h) (fun W hR => by kernel_rfl) ?_
 refine Qar 7 (.pointer (some ⟨g2, 66, none⟩)) 20 rfl rfl kj kj (fun _ _ _ h => h) (fun W hR => by kernel_rfl) ?_
 refine Qar 8 (.slice (some ⟨g2, 66, none⟩) 32 32) 21 rfl rfl kj kj (fun _ _ _ h => h) (fun W hR => by kernel_rfl) ?_
 refine QaN 3 kj ?_
 have r4_4 := (Qas r4_3 e4)
 have r2_3 := (Puts.row p3 r2_2 (QaA r2_1 l4))
 have r2_4 := (Qas r2_3 e4)
 have y1_2 : Ext W1 W2 := (Rely.Ext.trans (Rely.Ext.refl W1) e2)
 have y1_3 : Ext W1 W3 := (Puts.ext p3 y1_2 l4)
 have y1_4 : Ext W1 W4 := (Rely.Ext.trans y1_3 e4)
 refine Qb9 (k := .u8) (T := 5) (xs := ([0, (byV nm 0)]).set 0 1) (ys := key) (V := W1) 1 (.tmp 13) (.tmp 15) 26 rfl kj kj (by decide) 16 rfl 3 rfl kj kj kj (Qcn (xs := ([0, (byV nm 0)]).set 0 1) rfl l4 r4_4 (show 2 ≤ maxLen by decide)) (QaC 2 hkl r2_4 (fun i hi => Qa8 [#[.bool true], #[.int .i64 nm]] [ints .u8 (sg), ints .u8 (pa), #[.slice a_m ms.length c_m]] key 2 i (2 + i) kj rfl (by rw [hkl]; exact hi)) (Qay r2_4) (Nat.le_refl _) (by decide)) (by simp only [List.length_append, List.length_cons, List.length_nil, List.length_map, List.length_take, List.length_set, QbK, hkl, hgl, hpl]; omega) y1_4 fun z1 W5 f8 y5 l5 => ?_
 have x5 : Ext w W5 := Ext.low x4 l5 x1.size
 refine QaN 6 kj ?_
 have r2_5 := (Qbw l5 r2_4 (Qay r2_1))
 refine Qb9 (k := .u8) (T := 5) (xs := ([0, (byV nm 0)]).set 0 1 ++ key) (ys := sg) (V := W1) 1 (.tmp 16) (.tmp 18) 26 rfl kj kj (by decide) 19 rfl 6 rfl kj kj kj f8 (QaC 34 hgl r2_5 (fun i hi => Qa8 [#[.bool true], #[.int .i64 nm], ints .u8 (key)] [ints .u8 (pa), #[.slice a_m ms.length c_m]] sg 34 i (34 + i) (by rw [Qaa, Qaa, Qaa]; simp only [Array.size_append, cat, ((Qac _ _).trans hkl)]; rfl) rfl (by rw [hgl]; exact hi)) (Qay r2_5) (Nat.le_refl _) (by decide)) (by simp only [List.length_append, List.length_cons, List.length_nil, List.length_map, List.length_take, List.length_set, QbK, hkl, hgl, hpl]; omega) y5 fun z2 W6 f10 y6 l6 => ?_
 have x6 : Ext w W6 := Ext.low x5 l6 x1.size
 refine QaN 9 kj ?_
 have r2_6 := (Qbw l6 r2_5 (Qay r2_1))
 refine Qb9 (k := .u8) (T := 5) (xs := ([0, (byV nm 0)]).set 0 1 ++ key ++ sg) (ys := pa) (V := W1) 1 (.tmp 19) (.tmp 21) 26 rfl kj kj (by decide) 22 rfl 9 rfl kj kj kj f10 (QaC 66 hpl r2_6 (fun i hi => Qa8 [#[.bool true], #[.int .i64 nm], ints .u8 (key), ints .u8 (sg)] [#[.slice a_m ms.length c_m]] pa 66 i (66 + i) (by rw [Qaa, Qaa, Qaa, Qaa]; simp only [Array.size_append, cat, ((Qac _ _).trans hgl), ((Qac _ _).trans hkl)]; rfl) rfl (by rw [hpl]; exact hi)) (Qay r2_6) (Nat.le_refl _) (by decide)) (by simp only [List.length_append, List.length_cons, List.length_nil, List.length_map, List.length_take, List.length_set, QbK, hkl, hgl, hpl]; omega) y6 fun z3 W7 f12 y7 l7 => ?_
 have x7 : Ext w W7 := Ext.low x6 l7 x1.size
 refine Qar 10 (z3) 3 rfl rfl kj kj (fun _ _ _ h => h) (fun W hR => by kernel_rfl) ?_
 refine QbH kj ?_
 refine hK7 _ _ ?_
 refine wp_seq_k fun K14 hK14 => ?_
 refine Qae ?_
 refine Qab (z3) 23 rfl kj kj ?_
 refine Qab (.pointer (some ⟨g2, 98, none⟩)) 24 rfl kj kj ?_
 have r2_7 := (Qbw l7 r2_6 (Qay r2_1))
 refine Qab (.slice a_m ms.length c_m) 25 rfl kj (Qah 41 _ g2 98 43 _ (.slice a_m ms.length c_m) _ r2_7 rfl kj (Qak [#[.bool true], #[.int .i64 nm], ints .u8 (key), ints .u8 (sg), ints .u8 (pa)] [#[.slice a_m ms.length c_m]] [] 98 (by rw [Qaa, Qaa, Qaa, Qaa, Qaa]; simp only [Array.size_append, cat, ((Qac _ _).trans hgl), ((Qac _ _).trans hkl), ((Qac _ _).trans hpl)]; rfl) 0 _ rfl) kj) ?_
 refine Qab (.int .i64 ((ms.length : Nat) : Int)) 26 rfl kj kj ?_
 refine Qab (.int .u8 (byV ((ms.length : Nat) : Int) 0)) 27 rfl kj (Qax (u := .int .u8 (IntKind.u8.wrap ((ms.length : Nat) : Int))) kj (congrArg (Value.int .u8) (byV0 _))) ?_
 refine Qba (ints .u8 ([(byV ((ms.length : Nat) : Int) 0)])) 5 1 28 rfl kj kj fun g15 W8 l15 e8 r15_8 => ?_
 have x8 : Ext w W8 := Ext.tr x7 e8
 have b15 : w.heap.size ≤ g15 := Nat.le_trans x7.size l15
 have f16_8 := (f12.ext e8)
 have y1_8 : Ext W1 W8 := (Rely.Ext.trans y7 e8)
 refine QaK (k := .u8) (T := 5) (xs := ([0, (byV nm 0)]).set 0 1 ++ key ++ sg ++ pa) (ys := [(byV ((ms.length : Nat) : Int) 0)]) (V := W1) 1 (.tmp 23) (.tmp 28) 26 rfl kj kj (by decide) 29 rfl kj kj kj f16_8 (QaT (xs := [(byV ((ms.length : Nat) : Int) 0)]) (n := 1) rfl r15_8 (Qay r15_8) (show 1 ≤ maxLen from by decide)) (by simp only [List.length_append, List.length_cons, List.length_nil, List.length_map, List.length_take, List.length_set, QbK, hkl, hgl, hpl]; omega) y1_8 fun z4 W9 f17 y9 l9 => ?_
 have x9 : Ext w W9 := Ext.low x8 l9 x1.size
 refine Qab (z4) 3 rfl kj kj ?_
 refine Qaf ?_
 refine hK14 _ _ ?_
 refine wp_seq_k fun K19 hK19 => ?_
 refine wp_seq_k fun K20 hK20 => ?_
 refine Qae ?_
 refine Qab (.int .i64 0) 4 rfl kj kj ?_
 refine Qaf ?_
 refine hK20 _ _ ?_
 refine wp_block ?_
 refine Qbl (fun (s1 : Nat × Value) => [(1, .pointer (some ⟨g2, 0, none⟩)), (3, s1.2), (4, .int .i64 ((s1.1 : Nat) : Int))]) (fun (s1 : Nat × Value) W => (s1.1 ≤ ms.length) ∧ (OwnN .u8 5 W1.heap.size (QbK true nm key sg pa ms.length ++ (ms.take s1.1).map (fun m => byV m 0)) s1.2 W) ∧ (Below W1.heap.size W9 W) ∧ (Ext w W)) (fun (s1 : Nat × Value) => ms.length - s1.1) (0, z4) ⟨rfl, rfl, rfl, trivial⟩ ⟨(Nat.zero_le _), (by rw [List.take_zero, List.map_nil, List.append_nil]; exact f17), (RowKit.Below.refl _ W9), x9⟩ fun s1 X1 V1 hI1 => ?_
 obtain ⟨i, u⟩ := s1
 obtain ⟨hi, hu, kk1, xx1⟩ := hI1
 replace hi : i ≤ ms.length := hi
 replace hu : OwnN .u8 5 W1.heap.size (QbK true nm key sg pa ms.length ++ (ms.take i).map (fun m => byV m 0)) u V1 := hu
 replace kk1 : Below W1.heap.size W9 V1 := kk1
 replace xx1 : Ext w V1 := xx1
 have l10 := kk1
 refine wp_seq_k fun K21 hK21 => ?_
 refine wp_seq_k fun K22 hK22 => ?_
 refine Qae ?_
 refine Qab (.int .i64 ((i : Nat) : Int)) 30 rfl kj kj ?_
 refine Qab (.pointer (some ⟨g2, 98, none⟩)) 31 rfl kj kj ?_
 have r2_8 := (Qas r2_7 e8)
 have r2_9 := (Qbw l9 r2_8 (Qay r2_1))
 have r2_10 := (Qbw l10 r2_9 (Qay r2_1))
 refine Qab (.slice a_m ms.length c_m) 32 rfl kj (Qah 41 _ g2 98 43 _ (.slice a_m ms.length c_m) _ r2_10 rfl kj (Qak [#[.bool true], #[.int .i64 nm], ints .u8 (key), ints .u8 (sg), ints .u8 (pa)] [#[.slice a_m ms.length c_m]] [] 98 (by rw [Qaa, Qaa, Qaa, Qaa, Qaa]; simp only [Array.size_append, cat, ((Qac _ _).trans hgl), ((Qac _ _).trans hkl), ((Qac _ _).trans hpl)]; rfl) 0 _ rfl) kj) ?_
 refine Qab (.int .i64 ((ms.length : Nat) : Int)) 33 rfl kj kj ?_
 refine Qab (.bool (decide (((i : Nat) : Int) < ((ms.length : Nat) : Int)))) 34 rfl kj kj ?_
 refine Qaf ?_
 refine hK22 _ _ ?_
 refine QaM (t := decide (((i : Nat) : Int) < ((ms.length : Nat) : Int))) kj (fun c23 => ?_) (fun c23 => ?_)
 ·skip
  have hlt34 : i < ms.length := by have := of_decide_eq_true c23; omega
  have hnm_24 : (ms).length = ms.length := rfl
  obtain ⟨gcm_24, ocm_24, ham_24, hlm_24, hcm_24⟩ := QbP (RdK.here (RdK.ext hm xx1)) (by rw [hnm_24]; omega)
  refine wp_skip ?_
  refine hK21 _ _ ?_
  refine wp_seq_k fun K25 hK25 => ?_
  refine wp_block ?_
  refine Qae ?_
  refine Qab (u) 37 rfl kj kj ?_
  refine Qab (.pointer (some ⟨g2, 98, none⟩)) 38 rfl kj kj ?_
  refine Qab (.slice a_m ms.length c_m) 39 rfl kj (Qah 41 _ g2 98 43 _ (.slice a_m ms.length c_m) _ r2_10 rfl kj (Qak [#[.bool true], #[.int .i64 nm], ints .u8 (key), ints .u8 (sg), ints .u8 (pa)] [#[.slice a_m ms.length c_m]] [] 98 (by rw [Qaa, Qaa, Qaa, Qaa, Qaa]; simp only [Array.size_append, cat, ((Qac _ _).trans hgl), ((Qac _ _).trans hkl), ((Qac _ _).trans hpl)]; rfl) 0 _ rfl) kj) ?_
  refine Qab (.int .i64 ((i : Nat) : Int)) 40 rfl kj kj ?_
  refine Qab (.pointer (some ⟨gcm_24, ocm_24 + i, none⟩)) 41 rfl kj (QaH 41 _ _ .i64 i gcm_24 ocm_24 ms.length c_m 3 a_m _ ham_24 rfl rfl kj kj kj kj (Nat.lt_of_lt_of_eq (show i < ms.length by omega) hnm_24.symm)) ?_
  refine Qab (.int .i64 (nth (ms) (i))) 42 rfl kj (Qa9 3 _ _ (.int .i64 (nth (ms) (i))) (hcm_24 i (Nat.lt_of_lt_of_eq (show i < ms.length by omega) hnm_24.symm)) rfl kj kj) ?_
  refine Qab (.int .u8 (byV (nth ms i) 0)) 43 rfl kj (Qax (u := .int .u8 (IntKind.u8.wrap (nth (ms) (i)))) kj (congrArg (Value.int .u8) (byV0 _))) ?_
  refine Qba (ints .u8 ([(byV (nth ms i) 0)])) 5 1 44 rfl kj kj fun g26 W11 l26 e11 r26_11 => ?_
  have x11 : Ext w W11 := Ext.tr xx1 e11
  have b26 : w.heap.size ≤ g26 := Nat.le_trans xx1.size l26
  have f27_11 := (hu.ext e11)
  have y1_10 : Ext W1 V1 := (Ext.low y9 l10 (Rely.Ext.refl W1).size)
  have y1_11 : Ext W1 W11 := (Rely.Ext.trans y1_10 e11)
  refine QaK (k := .u8) (T := 5) (xs := QbK true nm key sg pa ms.length ++ (ms.take i).map (fun m => byV m 0)) (ys := [(byV (nth ms i) 0)]) (V := W1) 1 (.tmp 37) (.tmp 44) 26 rfl kj kj (by decide) 45 rfl kj kj kj f27_11 (QaT (xs := [(byV (nth ms i) 0)]) (n := 1) rfl r26_11 (Qay r26_11) (show 1 ≤ maxLen from by decide)) (by simp only [List.length_append, List.length_cons, List.length_nil, List.length_map, List.length_take, List.length_set, QbK, hkl, hgl, hpl]; omega) y1_11 fun z5 W12 f28 y12 l12 => ?_
  have x12 : Ext w W12 := Ext.low x11 l12 x1.size
  refine Qab (z5) 3 rfl kj kj ?_
  refine Qaf ?_
  refine hK25 _ _ ?_
  refine Qae ?_
  refine Qab (.int .i64 ((i : Nat) : Int)) 35 rfl kj kj ?_
  refine Qab (.int .i64 ((i + 1 : Nat) : Int)) 36 rfl kj (Qax (u := .int .i64 (IntKind.i64.wrap (((i : Nat) : Int) + 1))) kj (congrArg (Value.int .i64) (i64n _ _ (by omega) (by omega)))) ?_
  refine Qab (.int .i64 ((i + 1 : Nat) : Int)) 4 rfl kj kj ?_
  refine Qaf ?_
  repeat (first | with_reducible refine goX1 ?_ | with_reducible refine goX2 ?_ | with_reducible refine goX3 ?_)
  exact Qbb ((i + 1), z5) ⟨rfl, rfl, rfl, trivial⟩ ⟨(by omega), (by rw [QcV _ ms i hlt34]; exact f28), (RowKit.Below.trans (RowKit.Below.trans l10 (RowKit.Below.mono e11 y1_10.size)) l12), x12⟩ (by omega)
 ·skip
  have heq34 : i = ms.length := by have := of_decide_eq_false c23; omega
  refine wp_exit ?_
  refine hK19 _ _ ?_
  refine wp_seq_k fun K30 hK30 => ?_
  refine Qae ?_
  refine Qab (u) 46 rfl kj kj ?_
  refine Qab (u) 2 rfl kj kj ?_
  refine Qaf ?_
  refine hK30 _ _ ?_
  refine wp_ret ?_
  repeat (first | with_reducible refine goR1 ?_ | with_reducible refine goR2 ?_)
  exact (show bodyPost _ _ _ .ret _ _ from ret1 (u) rfl (Qaw kj) ⟨_, rfl, xx1, OwnN.base x1.size (show OwnN .u8 5 _ (Qbd true nm key sg pa ms) _ _ by have h7 := hu; rw [heq34, List.take_length] at h7; exact h7)⟩)
set_option maxHeartbeats 4000000 in
theorem QdG (nm : Int) (key sg pa ms : List Int) (a_m : Option Addr) (c_m : Nat) (w : World) (hkl : key.length = 32) (hgl : sg.length = 32) (hpl : pa.length = 32) (hml : ms.length ≤ 1000000) (hm : RdK .i64 w.heap.size ms (.slice a_m ms.length c_m) w) : Calls Try.prog 97 #[.agg (cat [#[.bool false], #[.int .i64 nm], ints .u8 (key), ints .u8 (sg), ints .u8 (pa), #[.slice a_m ms.length c_m]])] w (Qb1 w (OwnN .u8 5 w.heap.size (Qbd false nm key sg pa ms))) := by
 refine enter 47 [(0, .agg (cat [#[.bool false], #[.int .i64 nm], ints .u8 (key), ints .u8 (sg), ints .u8 (pa), #[.slice a_m ms.length c_m]]))] Try.func97 rfl rfl kj rfl ?_
 refine wp_seq_k fun K1 hK1 => ?_
 refine Qae ?_
 refine Qav (cat [#[.bool false], #[.int .i64 nm], ints .u8 (key), ints .u8 (sg), ints .u8 (pa), #[.slice a_m ms.length c_m]]) 43 1 rfl kj kj fun g2 W1 l2 e1 r2_1 => ?_
 have x1 : Ext w W1 := Ext.tr (Rely.Ext.refl w) e1
 have b2 : w.heap.size ≤ g2 := Nat.le_trans (Rely.Ext.refl w).size l2
 refine Qab (.slice none 0 0) 2 rfl kj kj ?_
 refine Qaf ?_
 refine hK1 _ _ ?_
 refine wp_seq_k fun K3 hK3 => ?_
 refine Qae ?_
 refine Qab (.pointer (some ⟨g2, 1, none⟩)) 5 rfl kj kj ?_
 refine Qab (.int .i64 nm) 6 rfl kj (Qah 3 _ g2 1 43 _ (.int .i64 nm) _ r2_1 rfl kj (Qak [#[.bool false]] [#[.int .i64 nm]] [ints .u8 (key), ints .u8 (sg), ints .u8 (pa), #[.slice a_m ms.length c_m]] 1 kj 0 _ rfl) kj) ?_
 refine Qab (.int .u8 (byV nm 0)) 7 rfl kj (Qax (u := .int .u8 (IntKind.u8.wrap (nm))) kj (congrArg (Value.int .u8) (byV0 nm))) ?_
 refine Qba (ints .u8 ([0, (byV nm 0)])) 5 2 8 rfl kj kj fun g4 W2 l4 e2 r4_2 => ?_
 have x2 : Ext w W2 := Ext.tr x1 e2
 have b4 : w.heap.size ≤ g4 := Nat.le_trans x1.size l4
 refine Qab (.slice (some ⟨g4, 0, none⟩) 2 2) 3 rfl kj kj ?_
 refine Qaf ?_
 refine hK3 _ _ ?_
 refine wp_seq_k fun K5 hK5 => ?_
 refine wp_seq_k fun K6 hK6 => ?_
 refine Qae ?_
 refine Qab (.pointer (some ⟨g2, 0, none⟩)) 9 rfl kj kj ?_
 have r2_2 := (Qas r2_1 e2)
 refine Qab (.bool false) 10 rfl kj (Qah 4 _ g2 0 43 _ (.bool false) _ r2_2 rfl kj (Qak [] [#[.bool false]] [#[.int .i64 nm], ints .u8 (key), ints .u8 (sg), ints .u8 (pa), #[.slice a_m ms.length c_m]] 0 kj 0 _ rfl) kj) ?_
 refine Qaf ?_
 refine hK6 _ _ ?_
 refine cond_false kj ?_
 refine wp_skip ?_
 refine hK5 _ _ ?_
 refine wp_seq_k fun K7 hK7 => ?_
 refine QbI (fun _ => True) kj fun W3 e3 => ⟨trivial, ?_⟩
 have x3 : Ext w W3 := Ext.tr x2 e3
 refine Qar 0 (.slice (some ⟨g4, 0, none⟩) 2 2) 13 rfl rfl kj kj (fun _ _ _ h => h) (fun W hR => by kernel_rfl) ?_
 refine Qar 1 (.pointer (some ⟨g2, 2, none⟩)) 14 rfl rfl kj kj (fun _ _ _ h => h) (fun W hR => by kernel_rfl) ?_
 refine Qar 2 (.slice (some ⟨g2, 2, none⟩) 32 32) 15 rfl rfl kj kj (fun _ _ _ h => h) (fun W hR => by kernel_rfl) ?_
 refine Qar 4 (.pointer (some ⟨g2, 34, none⟩)) 17 rfl rfl kj kj (fun _ _ _ h => h) (fun W hR => by kernel_rfl) ?_
 refine Qar 5 (.slice (some ⟨g2, 34, none⟩) 32 32) 18 rfl rfl kj kj (fun _ _ _ h => h) (fun W hR => by kernel_rfl) ?_
 refine Qar 7 (.pointer (some ⟨g2, 66, none⟩)) 20 rfl rfl kj kj (fun _ _ _ h => h) (fun W hR => by kernel_rfl) ?_
 refine Qar 8 (.slice (some ⟨g2, 66, none⟩) 32 32) 21 rfl rfl kj kj (fun _ _ _ h => h) (fun W hR => by kernel_rfl) ?_
 refine QaN 3 kj ?_
 have r4_3 := (Qas r4_2 e3)
 have r2_3 := (Qas r2_2 e3)
 have y1_2 : Ext W1 W2 := (Rely.Ext.trans (Rely.Ext.refl W1) e2)
 have y1_3 : Ext W1 W3 := (Rely.Ext.trans y1_2 e3)
 refine Qb9 (k := .u8) (T := 5) (xs := [0, (byV nm 0)]) (ys := key) (V := W1) 1 (.tmp 13) (.tmp 15) 26 rfl kj kj (by decide) 16 rfl 3 rfl kj kj kj (Qcn (xs := [0, (byV nm 0)]) rfl l4 r4_3 (show 2 ≤ maxLen by decide)) (QaC 2 hkl r2_3 (fun i hi => Qa8 [#[.bool false], #[.int .i64 nm]] [ints .u8 (sg), ints .u8 (pa), #[.slice a_m ms.length c_m]] key 2 i (2 + i) kj rfl (by rw [hkl]; exact hi)) (Qay r2_3) (Nat.le_refl _) (by decide)) (by simp only [List.length_append, List.length_cons, List.length_nil, List.length_map, List.length_take, List.length_set, QbK, hkl, hgl, hpl]; omega) y1_3 fun z1 W4 f8 y4 l4 => ?_
 have x4 : Ext w W4 := Ext.low x3 l4 x1.size
 refine QaN 6 kj ?_
 have r2_4 := (Qbw l4 r2_3 (Qay r2_1))
 refine Qb9 (k := .u8) (T := 5) (xs := [0, (byV nm 0)] ++ key) (ys := sg) (V := W1) 1 (.tmp 16) (.tmp 18) 26 rfl kj kj (by decide) 19 rfl 6 rfl kj kj kj f8 (QaC 34 hgl r2_4 (fun i hi => Qa8 [#[.bool false], #[.int .i64 nm], ints .u8 (key)] [ints .u8 (pa), #[.slice a_m ms.length c_m]] sg 34 i (34 + i) (by rw [Qaa, Qaa, Qaa]; simp only [Array.size_append, cat, ((Qac _ _).trans hkl)]; rfl) rfl (by rw [hgl]; exact hi)) (Qay r2_4) (Nat.le_refl _) (by decide)) (by simp only [List.length_append, List.length_cons, List.length_nil, List.length_map, List.length_take, List.length_set, QbK, hkl, hgl, hpl]; omega) y4 fun z2 W5 f10 y5 l5 => ?_
 have x5 : Ext w W5 := Ext.low x4 l5 x1.size
 refine QaN 9 kj ?_
 have r2_5 := (Qbw l5 r2_4 (Qay r2_1))
 refine Qb9 (k := .u8) (T := 5) (xs := [0, (byV nm 0)] ++ key ++ sg) (ys := pa) (V := W1) 1 (.tmp 19) (.tmp 21) 26 rfl kj kj (by decide) 22 rfl 9 rfl kj kj kj f10 (QaC 66 hpl r2_5 (fun i hi => Qa8 [#[.bool false], #[.int .i64 nm], ints .u8 (key), ints .u8 (sg)] [#[.slice a_m ms.length c_m]] pa 66 i (66 + i) (by rw [Qaa, Qaa, Qaa, Qaa]; simp only [Array.size_append, cat, ((Qac _ _).trans hgl), ((Qac _ _).trans hkl)]; rfl) rfl (by rw [hpl]; exact hi)) (Qay r2_5) (Nat.le_refl _) (by decide)) (by simp only [List.length_append, List.length_cons, List.length_nil, List.length_map, List.length_take, List.length_set, QbK, hkl, hgl, hpl]; omega) y5 fun z3 W6 f12 y6 l6 => ?_
 have x6 : Ext w W6 := Ext.low x5 l6 x1.size
 refine Qar 10 (z3) 3 rfl rfl kj kj (fun _ _ _ h => h) (fun W hR => by kernel_rfl) ?_
 refine QbH kj ?_
 refine hK7 _ _ ?_
 refine wp_seq_k fun K14 hK14 => ?_
 refine Qae ?_
 refine Qab (z3) 23 rfl kj kj ?_
 refine Qab (.pointer (some ⟨g2, 98, none⟩)) 24 rfl kj kj ?_
 have r2_6 := (Qbw l6 r2_5 (Qay r2_1))
 refine Qab (.slice a_m ms.length c_m) 25 rfl kj (Qah 41 _ g2 98 43 _ (.slice a_m ms.length c_m) _ r2_6 rfl kj (Qak [#[.bool false], #[.int .i64 nm], ints .u8 (key), ints .u8 (sg), ints .u8 (pa)] [#[.slice a_m ms.length c_m]] [] 98 (by rw [Qaa, Qaa, Qaa, Qaa, Qaa]; simp only [Array.size_append, cat, ((Qac _ _).trans hgl), ((Qac _ _).trans hkl), ((Qac _ _).trans hpl)]; rfl) 0 _ rfl) kj) ?_
 refine Qab (.int .i64 ((ms.length : Nat) : Int)) 26 rfl kj kj ?_
 refine Qab (.int .u8 (byV ((ms.length : Nat) : Int) 0)) 27 rfl kj (Qax (u := .int .u8 (IntKind.u8.wrap ((ms.length : Nat) : Int))) kj (congrArg (Value.int .u8) (byV0 _))) ?_
 refine Qba (ints .u8 ([(byV ((ms.length : Nat) : Int) 0)])) 5 1 28 rfl kj kj fun g15 W7 l15 e7 r15_7 => ?_
 have x7 : Ext w W7 := Ext.tr x6 e7
 have b15 : w.heap.size ≤ g15 := Nat.le_trans x6.size l15
 have f16_7 := (f12.ext e7)
 have y1_7 : Ext W1 W7 := (Rely.Ext.trans y6 e7)
 refine QaK (k := .u8) (T := 5) (xs := [0, (byV nm 0)] ++ key ++ sg ++ pa) (ys := [(byV ((ms.length : Nat) : Int) 0)]) (V := W1) 1 (.tmp 23) (.tmp 28) 26 rfl kj kj (by decide) 29 rfl kj kj kj f16_7 (QaT (xs := [(byV ((ms.length : Nat) : Int) 0)]) (n := 1) rfl r15_7 (Qay r15_7) (show 1 ≤ maxLen from by decide)) (by simp only [List.length_append, List.length_cons, List.length_nil, List.length_map, List.length_take, List.length_set, QbK, hkl, hgl, hpl]; omega) y1_7 fun z4 W8 f17 y8 l8 => ?_
 have x8 : Ext w W8 := Ext.low x7 l8 x1.size
 refine Qab (z4) 3 rfl kj kj ?_
 refine Qaf ?_
 refine hK14 _ _ ?_
 refine wp_seq_k fun K19 hK19 => ?_
 refine wp_seq_k fun K20 hK20 => ?_
 refine Qae ?_
 refine Qab (.int .i64 0) 4 rfl kj kj ?_
 refine Qaf ?_
 refine hK20 _ _ ?_
 refine wp_block ?_
 refine Qbl (fun (s1 : Nat × Value) => [(1, .pointer (some ⟨g2, 0, none⟩)), (3, s1.2), (4, .int .i64 ((s1.1 : Nat) : Int))]) (fun (s1 : Nat × Value) W => (s1.1 ≤ ms.length) ∧ (OwnN .u8 5 W1.heap.size (QbK false nm key sg pa ms.length ++ (ms.take s1.1).map (fun m => byV m 0)) s1.2 W) ∧ (Below W1.heap.size W8 W) ∧ (Ext w W)) (fun (s1 : Nat × Value) => ms.length - s1.1) (0, z4) ⟨rfl, rfl, rfl, trivial⟩ ⟨(Nat.zero_le _), (by rw [List.take_zero, List.map_nil, List.append_nil]; exact f17), (RowKit.Below.refl _ W8), x8⟩ fun s1 X1 V1 hI1 => ?_
 obtain ⟨i, u⟩ := s1
 obtain ⟨hi, hu, kk1, xx1⟩ := hI1
 replace hi : i ≤ ms.length := hi
 replace hu : OwnN .u8 5 W1.heap.size (QbK false nm key sg pa ms.length ++ (ms.take i).map (fun m => byV m 0)) u V1 := hu
 replace kk1 : Below W1.heap.size W8 V1 := kk1
 replace xx1 : Ext w V1 := xx1
 have l9 := kk1
 refine wp_seq_k fun K21 hK21 => ?_
 refine wp_seq_k fun K22 hK22 => ?_
 refine Qae ?_
 refine Qab (.int .i64 ((i : Nat) : Int)) 30 rfl kj kj ?_
 refine Qab (.pointer (some ⟨g2, 98, none⟩)) 31 rfl kj kj ?_
 have r2_7 := (Qas r2_6 e7)
 have r2_8 := (Qbw l8 r2_7 (Qay r2_1))
 have r2_9 := (Qbw l9 r2_8 (Qay r2_1))
 refine Qab (.slice a_m ms.length c_m) 32 rfl kj (Qah 41 _ g2 98 43 _ (.slice a_m ms.length c_m) _ r2_9 rfl kj (Qak [#[.bool false], #[.int .i64 nm], ints .u8 (key), ints .u8 (sg), ints .u8 (pa)] [#[.slice a_m ms.length c_m]] [] 98 (by rw [Qaa, Qaa, Qaa, Qaa, Qaa]; simp only [Array.size_append, cat, ((Qac _ _).trans hgl), ((Qac _ _).trans hkl), ((Qac _ _).trans hpl)]; rfl) 0 _ rfl) kj) ?_
 refine Qab (.int .i64 ((ms.length : Nat) : Int)) 33 rfl kj kj ?_
 refine Qab (.bool (decide (((i : Nat) : Int) < ((ms.length : Nat) : Int)))) 34 rfl kj kj ?_
 refine Qaf ?_
 refine hK22 _ _ ?_
 refine QaM (t := decide (((i : Nat) : Int) < ((ms.length : Nat) : Int))) kj (fun c23 => ?_) (fun c23 => ?_)
 ·skip
  have hlt34 : i < ms.length := by have := of_decide_eq_true c23; omega
  have hnm_24 : (ms).length = ms.length := rfl
  obtain ⟨gcm_24, ocm_24, ham_24, hlm_24, hcm_24⟩ := QbP (RdK.here (RdK.ext hm xx1)) (by rw [hnm_24]; omega)
  refine wp_skip ?_
  refine hK21 _ _ ?_
  refine wp_seq_k fun K25 hK25 => ?_
  refine wp_block ?_
  refine Qae ?_
  refine Qab (u) 37 rfl kj kj ?_
  refine Qab (.pointer (some ⟨g2, 98, none⟩)) 38 rfl kj kj ?_
  refine Qab (.slice a_m ms.length c_m) 39 rfl kj (Qah 41 _ g2 98 43 _ (.slice a_m ms.length c_m) _ r2_9 rfl kj (Qak [#[.bool false], #[.int .i64 nm], ints .u8 (key), ints .u8 (sg), ints .u8 (pa)] [#[.slice a_m ms.length c_m]] [] 98 (by rw [Qaa, Qaa, Qaa, Qaa, Qaa]; simp only [Array.size_append, cat, ((Qac _ _).trans hgl), ((Qac _ _).trans hkl), ((Qac _ _).trans hpl)]; rfl) 0 _ rfl) kj) ?_
  refine Qab (.int .i64 ((i : Nat) : Int)) 40 rfl kj kj ?_
  refine Qab (.pointer (some ⟨gcm_24, ocm_24 + i, none⟩)) 41 rfl kj (QaH 41 _ _ .i64 i gcm_24 ocm_24 ms.length c_m 3 a_m _ ham_24 rfl rfl kj kj kj kj (Nat.lt_of_lt_of_eq (show i < ms.length by omega) hnm_24.symm)) ?_
  refine Qab (.int .i64 (nth (ms) (i))) 42 rfl kj (Qa9 3 _ _ (.int .i64 (nth (ms) (i))) (hcm_24 i (Nat.lt_of_lt_of_eq (show i < ms.length by omega) hnm_24.symm)) rfl kj kj) ?_
  refine Qab (.int .u8 (byV (nth ms i) 0)) 43 rfl kj (Qax (u := .int .u8 (IntKind.u8.wrap (nth (ms) (i)))) kj (congrArg (Value.int .u8) (byV0 _))) ?_
  refine Qba (ints .u8 ([(byV (nth ms i) 0)])) 5 1 44 rfl kj kj fun g26 W10 l26 e10 r26_10 => ?_
  have x10 : Ext w W10 := Ext.tr xx1 e10
  have b26 : w.heap.size ≤ g26 := Nat.le_trans xx1.size l26
  have f27_10 := (hu.ext e10)
  have y1_9 : Ext W1 V1 := (Ext.low y8 l9 (Rely.Ext.refl W1).size)
  have y1_10 : Ext W1 W10 := (Rely.Ext.trans y1_9 e10)
  refine QaK (k := .u8) (T := 5) (xs := QbK false nm key sg pa ms.length ++ (ms.take i).map (fun m => byV m 0)) (ys := [(byV (nth ms i) 0)]) (V := W1) 1 (.tmp 37) (.tmp 44) 26 rfl kj kj (by decide) 45 rfl kj kj kj f27_10 (QaT (xs := [(byV (nth ms i) 0)]) (n := 1) rfl r26_10 (Qay r26_10) (show 1 ≤ maxLen from by decide)) (by simp only [List.length_append, List.length_cons, List.length_nil, List.length_map, List.length_take, List.length_set, QbK, hkl, hgl, hpl]; omega) y1_10 fun z5 W11 f28 y11 l11 => ?_
  have x11 : Ext w W11 := Ext.low x10 l11 x1.size
  refine Qab (z5) 3 rfl kj kj ?_
  refine Qaf ?_
  refine hK25 _ _ ?_
  refine Qae ?_
  refine Qab (.int .i64 ((i : Nat) : Int)) 35 rfl kj kj ?_
  refine Qab (.int .i64 ((i + 1 : Nat) : Int)) 36 rfl kj (Qax (u := .int .i64 (IntKind.i64.wrap (((i : Nat) : Int) + 1))) kj (congrArg (Value.int .i64) (i64n _ _ (by omega) (by omega)))) ?_
  refine Qab (.int .i64 ((i + 1 : Nat) : Int)) 4 rfl kj kj ?_
  refine Qaf ?_
  repeat (first | with_reducible refine goX1 ?_ | with_reducible refine goX2 ?_ | with_reducible refine goX3 ?_)
  exact Qbb ((i + 1), z5) ⟨rfl, rfl, rfl, trivial⟩ ⟨(by omega), (by rw [QcV _ ms i hlt34]; exact f28), (RowKit.Below.trans (RowKit.Below.trans l9 (RowKit.Below.mono e10 y1_9.size)) l11), x11⟩ (by omega)
 ·skip
  have heq34 : i = ms.length := by have := of_decide_eq_false c23; omega
  refine wp_exit ?_
  refine hK19 _ _ ?_
  refine wp_seq_k fun K30 hK30 => ?_
  refine Qae ?_
  refine Qab (u) 46 rfl kj kj ?_
  refine Qab (u) 2 rfl kj kj ?_
  refine Qaf ?_
  refine hK30 _ _ ?_
  refine wp_ret ?_
  repeat (first | with_reducible refine goR1 ?_ | with_reducible refine goR2 ?_)
  exact (show bodyPost _ _ _ .ret _ _ from ret1 (u) rfl (Qaw kj) ⟨_, rfl, xx1, OwnN.base x1.size (show OwnN .u8 5 _ (Qbd false nm key sg pa ms) _ _ by have h7 := hu; rw [heq34, List.take_length] at h7; exact h7)⟩)
theorem Qf4 (us : Bool) (nm : Int) (key sg pa ms : List Int) (a_m : Option Addr) (c_m : Nat) (w : World) (hkl : key.length = 32) (hgl : sg.length = 32) (hpl : pa.length = 32) (hml : ms.length ≤ 1000000) (hm : RdK .i64 w.heap.size ms (.slice a_m ms.length c_m) w) : Calls Try.prog 97 #[.agg (cat [#[.bool us], #[.int .i64 nm], ints .u8 (key), ints .u8 (sg), ints .u8 (pa), #[.slice a_m ms.length c_m]])] w (Qb1 w (OwnN .u8 5 w.heap.size (Qbd us nm key sg pa ms))) := by
  cases us with
  | true => exact Qek nm key sg pa ms a_m c_m w hkl hgl hpl hml hm
  | false => exact QdG nm key sg pa ms a_m c_m w hkl hgl hpl hml hm
end Go.Proofs.Ytfelfmchachljaa.Wr
end
section
namespace Go.Proofs.Ytfelfmchachljaa.Wr
open Go Go.RowKit
open Rely Auto Own Sha
set_option linter.unusedVariables false
set_option linter.unusedSimpArgs false
def allN (ms : List Int) : Nat → Bool
  | 0 => true
  | n + 1 => allN ms n && inB (nth ms n) 31
theorem Qc3 (ms : List Int) : ∀ n, Qbo ms n = (risN ms n && allN ms n)
  | 0 => rfl
  | n + 1 => by
    show (Qbo ms n && (inB (nth ms n) 31 && ((n == 0) || decide (nth ms (n - 1) < nth ms n)))) = ((risN ms n && ((n == 0) || decide (nth ms (n - 1) < nth ms n))) && (allN ms n && inB (nth ms n) 31))
    rw [Qc3 ms n]
    cases risN ms n <;> cases allN ms n <;> cases inB (nth ms n) 31 <;> cases ((n == 0) || decide (nth ms (n - 1) < nth ms n)) <;> rfl
theorem QeU (ms : List Int) : ∀ n, allN ms n = true → ∀ i, i < n → inB (nth ms i) 31 = true
  | 0, _, i, hi => absurd hi (Nat.not_lt_zero _)
  | n + 1, h, i, hi => by
    have h' : (allN ms n && inB (nth ms n) 31) = true := h
    rw [Bool.and_eq_true] at h'
    rcases Nat.lt_or_ge i n with h2 | h2
    · exact QeU ms n h'.1 i h2
    · obtain rfl : i = n := by omega
      exact h'.2
theorem Qe2 (ms : List Int) : ∀ n, risN ms n = true → allN ms n = true → ∀ i, i < n → ((i : Nat) : Int) ≤ nth ms i
  | 0, _, _, i, hi => absurd hi (Nat.not_lt_zero _)
  | n + 1, hr, ha, i, hi => by
    have hr' : (risN ms n && ((n == 0) || decide (nth ms (n - 1) < nth ms n))) = true := hr
    have ha' : (allN ms n && inB (nth ms n) 31) = true := ha
    rw [Bool.and_eq_true] at hr' ha'
    rcases Nat.lt_or_ge i n with h2 | h2
    · exact Qe2 ms n hr'.1 ha'.1 i h2
    · obtain rfl : i = n := by omega
      have h0 := QbY ha'.2
      by_cases hz : i = 0
      · subst hz; exact h0.1
      · have h3 := hr'.2
        rw [beq_eq_false_iff_ne.2 hz, Bool.false_or, decide_eq_true_eq] at h3
        have h4 := Qe2 ms i hr'.1 ha'.1 (i - 1) (by omega)
        omega
theorem QgN (ms : List Int) (hr : risV ms = true) (ha : allN ms ms.length = true) : ms.length ≤ 32 := by
  rcases Nat.lt_or_ge 32 ms.length with h | h
  · have h1 := Qe2 ms ms.length hr ha 32 h
    have h2 := QbY (QeU ms ms.length ha 32 h)
    omega
  · exact h
theorem Qee (ms : List Int) : ∀ n, n ≤ ms.length → allN ms n = (ms.take n).all fun m => inB m 31
  | 0, _ => rfl
  | n + 1, h => by
    have e : ms.take (n + 1) = ms.take n ++ [nth ms n] := by
      rw [List.take_add_one, List.getElem?_eq_getElem (show n < ms.length by omega)]
      unfold nth
      rw [List.getD_eq_getElem?_getD, List.getElem?_eq_getElem (show n < ms.length by omega)]
      rfl
    rw [e, List.all_append, ← Qee ms n (by omega)]
    show (allN ms n && inB (nth ms n) 31) = (allN ms n && (inB (nth ms n) 31 && true))
    rw [Bool.and_true]
theorem QcI (s : Option (List Int)) : ∀ (ms a : List Int), ms.foldl QaI (rawS s a) = bif (ms.all fun m => inB m 31) then rawS s (a ++ ms.map fun m => byV m 0) else none
  | [], a => by show rawS s a = rawS s (a ++ []); rw [List.append_nil]
  | m :: r, a => by
    show r.foldl QaI (QaI (rawS s a) m) = bif (inB m 31 && (r.all fun m => inB m 31)) then rawS s (a ++ byV m 0 :: r.map fun m => byV m 0) else none
    rw [Qco]
    cases inB m 31 with
    | false => exact Qbt r
    | true =>
      show r.foldl QaI (rawS (rawS s a) (beV m 1)) = _
      rw [QaX, QcI s r]
      show _ = bif (r.all fun m => inB m 31) then _ else none
      rw [List.append_assoc]
      rfl
theorem Qem (us : Bool) (nm : Int) (key sg pa ms : List Int) (hkb : Qag key) (hgb : Qag sg) (hpb : Qag pa) : Qag (Qbd us nm key sg pa ms) := by
  unfold Qbd QbK
  refine Qbc (Qbc (Qbc (Qbc (Qbc ?_ hkb) hgb) hpb) (Qb0 _ 1)) ?_
  · intro x hx
    rcases List.mem_cons.1 hx with h | h
    · rw [h]; cases us <;> decide
    · exact Qb0 nm 1 x h
  · intro x hx
    obtain ⟨m, _, rfl⟩ := List.mem_map.1 hx
    exact Qb0 m 1 _ List.mem_cons_self
end Go.Proofs.Ytfelfmchachljaa.Wr
end
section
namespace Go.Proofs.Ytfelfmchachljaa.Wr
open Go Go.RowKit
open Rely Auto Own Sha
set_option linter.unusedVariables false
set_option linter.unusedSimpArgs false
open Wk
def Qbn (ys : List Int) : List Int := ys ++ (List.replicate 64 0).drop ys.length
theorem QaB (ys : List Int) (h : ys.length ≤ 64) : (Qbn ys).length = 64 := by unfold Qbn; rw [List.length_append, List.length_drop, List.length_replicate]; omega
set_option maxHeartbeats 4000000 in
theorem QdQ (B gr : Nat) (s : Option (List Int)) (w : World) (hB : B ≤ gr) (h : RSt B gr s w) : Calls Try.prog 112 #[.pointer (some ⟨gr, 0, none⟩)] w (Qb4 B gr w (Qad s 64) fun v _ => v = .agg (ints .u8 (Qbn (Qaj s 64)))) := by
  have hgr := h.lt
  refine enter 9 [(0, .pointer (some ⟨gr, 0, none⟩))] Try.func112 rfl rfl kj rfl ?_
  refine wp_seq_k fun K1 hK1 => ?_
  refine Qae ?_
  refine Qav (ints .u8 (List.replicate 64 0)) 45 2 rfl kj kj fun g2 W1 l2 e1 r2_1 => ?_
  have x1 : ExtB gr w W1 := ExtB.ext (ExtB.refl gr w) e1
  have b2 : w.heap.size ≤ g2 := Nat.le_trans (ExtB.refl gr w).size l2
  refine Qaf ?_
  refine hK1 _ _ ?_
  refine wp_seq_k fun K3 hK3 => ?_
  refine Qae ?_
  refine Qav (ints .u8 (List.replicate 64 0)) 45 3 rfl kj kj fun g4 W2 l4 e2 r4_2 => ?_
  have x2 : ExtB gr w W2 := ExtB.ext x1 e2
  have b4 : w.heap.size ≤ g4 := Nat.le_trans x1.size l4
  refine Qaf ?_
  refine hK3 _ _ ?_
  refine wp_seq_k fun K5 hK5 => ?_
  refine QbI (fun _ => True) kj fun W3 e3 => ⟨trivial, ?_⟩
  have x3 : ExtB gr w W3 := ExtB.ext x2 e3
  refine Qar 0 (.slice (some ⟨g4, 0, none⟩) 64 64) 4 rfl rfl kj kj (fun _ _ _ h => h) (fun W hR => by kernel_rfl) ?_
  refine Qar 1 (.pointer (some ⟨gr, 0, none⟩)) 5 rfl rfl kj kj (fun _ _ _ h => h) (fun W hR => by kernel_rfl) ?_
  refine QaN 2 kj ?_
  have rs6 := (RSt.ext (RSt.ext (RSt.ext h hB e1) hB e2) hB e3)
  refine Qbe rfl (fun v W' => ExtB gr W3 W' ∧ RSt B gr (Qad (s) 64) W' ∧ (fun (v : Value) (W : World) => RdK .u8 B (Qaj (s) 64) v W ∧ Qag (Qaj (s) 64)) v W') 124 #[.pointer (some ⟨gr, 0, none⟩), .int .i64 64] 6 rfl kj kj (Qfb B gr _ 64 _ hB rs6) (fun _ _ _ => trivial) fun vv7 W4 hh7 => ?_
  obtain ⟨q4, rs7, hv7⟩ := hh7
  have x4 : ExtB gr w W4 := ExtB.tr x3 q4
  obtain ⟨hr, hyb⟩ := hv7
  have hyl := Qam s 64
  obtain ⟨ys, hys⟩ : ∃ z, z = Qaj s 64 := ⟨_, rfl⟩
  rw [← hys] at hr hyb hyl
  obtain ⟨a_y, c_y, rfl, -⟩ := id hr
  refine QaN 3 kj ?_
  have r4_3 := (Qas r4_2 e3)
  have r4_4 := (ExtB.row q4 r4_3 (Ne.symm (Nat.ne_of_lt (Nat.lt_of_lt_of_le hgr b4))))
  refine QbG rfl (fun v W' => v = .int .i64 ((ys.length : Nat) : Int) ∧ Puts W4 g4 W' ∧ W'.heap[g4]? = some (.cells (ints .u8 (Qbn ys)) 45)) 7 rfl kj (Qf6 (Qdz (k := .u8) (e := 5) (.tmp 4) (.tmp 6) 26 26 rfl kj kj (off := 0) (dl := 64) (dc := 64) (n := ys.length) (xs := List.replicate 64 0) (ys := Qbn ys) kj kj hr r4_4 (by decide) (by omega) (by unfold Qbn; rw [List.take_zero, List.nil_append, List.take_length, Nat.zero_add]))) (fun _ _ _ => trivial) fun v8 W5 h8 => ?_
  obtain ⟨rfl, p5, r4_5⟩ := h8
  have x5 : ExtB gr w W5 := ExtB.putsN x4 p5 b4
  refine QbH kj ?_
  refine hK5 _ _ ?_
  refine wp_seq_k fun K9 hK9 => ?_
  refine Qae ?_
  refine Qab (.agg (ints .u8 (Qbn ys))) 8 rfl kj (Qa4 45 _ g4 45 _ _ r4_5 rfl kj kj (isz (n := 64) kj ((Qac _ _).trans (QaB ys hyl)))) ?_
  have r2_2 := (Qas r2_1 e2)
  have r2_3 := (Qas r2_2 e3)
  have r2_4 := (ExtB.row q4 r2_3 (Ne.symm (Nat.ne_of_lt (Nat.lt_of_lt_of_le hgr b2))))
  have r2_5 := (Puts.row p5 r2_4 (QaA r2_1 l4))
  refine Qa2 g2 _ (ints .u8 (Qbn ys)) 45 r2_5 rfl kj (Qaz 45 _ _ g2 45 _ _ r2_5 rfl kj kj (isz (n := 64) kj ((Qac _ _).trans (QaB ys hyl))) (eqsz (n := 64) ((Qac _ _).trans (List.length_replicate (n := 64))) ((Qac _ _).trans (QaB ys hyl))) (Qat _ _)) fun W6 p6 r2_6 => ?_
  have x6 : ExtB gr w W6 := ExtB.putsN x5 p6 b2
  refine Qaf ?_
  refine hK9 _ _ ?_
  refine wp_ret ?_
  repeat (first | with_reducible refine goR1 ?_ | with_reducible refine goR2 ?_)
  have rs10 := (RSt.put (RSt.put rs7 hB p5 (Nat.lt_of_lt_of_le hgr b4)) hB p6 (Nat.lt_of_lt_of_le hgr b2))
  exact (show bodyPost _ _ _ .ret _ _ from ret1 (.agg (ints .u8 (Qbn ys))) rfl (QaW g2 45 _ r2_6 kj kj (isz (n := 64) kj ((Qac _ _).trans (QaB ys hyl)))) ⟨_, rfl, x6, rs10, by rw [← hys]⟩)
end Go.Proofs.Ytfelfmchachljaa.Wr
end
section
namespace Go.Proofs.Ytfelfmchachljaa.Wr
open Go Go.RowKit
open Rely Auto Own Sha
set_option linter.unusedVariables false
set_option linter.unusedSimpArgs false
section
variable {ds : List Deferred} {P : Program} {ops : Array Oper} {Q : Exit → Act → World → Prop} {rest : List Oper} {o : Oper} {N : Nat} {L : Env} {W : World}
theorem QdF {k : IntKind} {T : TypeId} (base b : Nat) (s x : Operand) (t : TypeId) (ho : o.op = .call { callee := .builtin .append, args := #[s, x], argTypes := #[t, t] })
    (ht : P.underlying t = some (.slice T)) (hi : (P.info? T).map (fun i => (i.zero, i.size, i.bytes)) = some (some (.int k 0), 1, b)) (hb8 : b ≤ 8) (d : Nat) (hd : o.dst = some d) (hg : QbE ops o N L = some true) {B : Nat} {v y : Value} {xs ys : List Int}
    (hs : Rely.look (envN N L) s = v) (hx : Rely.look (envN N L) x = y)
    (h : OwnN k T base xs v W) (hy : RdK k B ys y W) (hn : xs.length + ys.length ≤ 1000000000) (hV : base ≤ W.heap.size)
    (kk : ∀ (u : Value) (W' : World), OwnN k T base (xs ++ ys) u W' → Below base W W' → WL P ops Q rest (QaD ds N ((d, u) :: L)) W') : WL P ops Q (o :: rest) (QaD ds N L) W := by
  obtain ⟨v', W', h1, h2, h3, h4⟩ := Qcd (ρ := Rely.look (envN N L)) (o := o) (W := W) s x t ho ht hi hb8 hs hx h hy hn hV
  exact Qcl _ _ d hd hg h1 (kk v' W' h2 ⟨h3.os, h3.tape, h3.output, h3.size, fun i hi => h3.block i (Nat.lt_of_lt_of_le hi hV) (fun q => by have := h.ge q.symm; omega)⟩)
end
def itR (s : Option (List Int)) : Nat → Option (List Int)
  | 0 => s
  | i + 1 => Qao (itR s i)
def itL (s : Option (List Int)) : Nat → List Int
  | 0 => []
  | i + 1 => itL s i ++ [((bigN (Qaj (itR s i) 1) : Nat) : Int)]
theorem QdJ (s : Option (List Int)) : ∀ i, (itL s i).length = i
  | 0 => rfl
  | i + 1 => by unfold itL; rw [List.length_append, QdJ s i]; rfl
theorem Qes : Qao none = none := by unfold Qao Qa0 Qad; cases decide (((bigN (Qaj none 1) : Nat) : Int) < 32) <;> rfl
theorem QeN (s : Option (List Int)) (i : Nat) (h : itR s i = none) : ∀ n, i ≤ n → itR s n = none
  | 0, hn => by obtain rfl : i = 0 := by omega
                exact h
  | n + 1, hn => by
    by_cases e : i = n + 1
    · rw [← e]; exact h
    · show Qao (itR s n) = none
      rw [QeN s i h n (by omega)]
      exact Qes
set_option maxHeartbeats 4000000 in
theorem Qcg (B gr : Nat) (s : Option (List Int)) (w : World) (hB : B ≤ gr) (h : RSt B gr s w) : Calls Try.prog 123 #[.pointer (some ⟨gr, 0, none⟩), .func (.func 111) #[] #[]] w (Qb4 B gr w (itR (Qad s 1) (bigN (Qaj s 1))) fun v W => ∃ xs, OwnN .i64 3 w.heap.size xs v W ∧ xs.length ≤ 255 ∧ (itR (Qad s 1) (bigN (Qaj s 1)) ≠ none → xs = itL (Qad s 1) (bigN (Qaj s 1)))) := by
 have hgr := h.lt
 have hN : bigN (Qaj s 1) < 256 := QdL _ (h.bytes 1) 1 (Qam s 1)
 refine enter 22 [(0, .pointer (some ⟨gr, 0, none⟩)), (1, .func (.func 111) #[] #[])] Try.func123 rfl rfl kj rfl ?_
 refine wp_seq_k fun K1 hK1 => ?_
 refine Qae ?_
 refine Qab (.slice none 0 0) 4 rfl kj kj ?_
 refine Qaf ?_
 refine hK1 _ _ ?_
 refine wp_seq_k fun K2 hK2 => ?_
 refine Qae ?_
 refine Qab (.slice none 0 0) 5 rfl kj kj ?_
 refine Qaf ?_
 refine hK2 _ _ ?_
 refine wp_seq_k fun K3 hK3 => ?_
 refine wp_seq_k fun K4 hK4 => ?_
 refine Qae ?_
 refine Qab (.pointer (some ⟨gr, 0, none⟩)) 6 rfl kj kj ?_
 refine Qal (fun v W' => ExtB gr w W' ∧ RSt B gr (Qad (s) 1) W' ∧ (fun (v : Value) (_ : World) => v = .int .i64 ((bigN (Qaj (s) 1) : Nat) : Int)) v W') 110 #[.pointer (some ⟨gr, 0, none⟩), .int .i64 1] 7 rfl kj kj (QaS B gr _ 1 _ hB h (by decide)) fun vv5 W1 hh5 => ?_
 obtain ⟨q1, rs5, hv5⟩ := hh5
 have x1 : ExtB gr w W1 := ExtB.tr (ExtB.refl gr w) q1
 subst hv5
 refine Qab (.int .i64 0) 8 rfl kj kj ?_
 refine Qaf ?_
 refine hK4 _ _ ?_
 refine wp_block ?_
 refine Qbl (fun (s1 : Nat × Value) => [(0, .pointer (some ⟨gr, 0, none⟩)), (1, .func (.func 111) #[] #[]), (5, s1.2), (7, .int .i64 ((bigN (Qaj (s) 1) : Nat) : Int)), (8, .int .i64 ((s1.1 : Nat) : Int))]) (fun (s1 : Nat × Value) W => (s1.1 ≤ bigN (Qaj s 1)) ∧ (RSt B gr (itR (Qad s 1) s1.1) W) ∧ (OwnN .i64 3 w.heap.size (itL (Qad s 1) s1.1) s1.2 W) ∧ (ExtB gr w W)) (fun (s1 : Nat × Value) => bigN (Qaj s 1) - s1.1) (0, (.slice none 0 0)) ⟨rfl, rfl, rfl, rfl, rfl, trivial⟩ ⟨(Nat.zero_le _), rs5, (QbJ _ _ _ _), x1⟩ fun s1 X1 V1 hI1 => ?_
 obtain ⟨i, u⟩ := s1
 obtain ⟨hi, hrs, hu, xx1⟩ := hI1
 replace hi : i ≤ bigN (Qaj s 1) := hi
 replace hrs : RSt B gr (itR (Qad s 1) i) V1 := hrs
 replace hu : OwnN .i64 3 w.heap.size (itL (Qad s 1) i) u V1 := hu
 replace xx1 : ExtB gr w V1 := xx1
 refine wp_seq_k fun K6 hK6 => ?_
 refine Qae ?_
 refine Qab (.bool (decide (((i : Nat) : Int) < ((bigN (Qaj (s) 1) : Nat) : Int)))) 9 rfl kj kj ?_
 refine Qaf ?_
 refine hK6 _ _ ?_
 refine wp_seq_k fun K7 hK7 => ?_
 refine QaM (t := decide (((i : Nat) : Int) < ((bigN (Qaj (s) 1) : Nat) : Int))) kj (fun c8 => ?_) (fun c8 => ?_)
 ·skip
  have hlt9 : i < bigN (Qaj s 1) := by have := of_decide_eq_true c8; omega
  obtain ⟨u9, xs9, bad, rb9, -, -, hsc⟩ := id hrs
  refine wp_skip ?_
  refine hK7 _ _ ?_
  refine wp_seq_k fun K11 hK11 => ?_
  refine wp_block ?_
  refine wp_seq_k fun K12 hK12 => ?_
  refine wp_seq_k fun K13 hK13 => ?_
  refine Qae ?_
  refine Qab (.pointer (some ⟨gr, 0, none⟩)) 10 rfl kj kj ?_
  refine Qab (.pointer (some ⟨gr, 0, none⟩)) 11 rfl kj kj ?_
  refine Qab (.pointer (some ⟨gr, 1, none⟩)) 12 rfl kj kj ?_
  refine Qab (.bool bad) 13 rfl kj (Qah 4 _ gr 1 179 _ (.bool bad) _ rb9 rfl kj kj kj) ?_
  refine Qaf ?_
  refine hK13 _ _ ?_
  refine QaM (t := bad) kj (fun c14 => ?_) (fun c14 => ?_)
  ·skip
   have hbad : bad = true := c14
   have h9 : itR (Qad s 1) i = none := by rw [hsc, hbad]; rfl
   have h8 : itR (Qad s 1) (bigN (Qaj s 1)) = none := QeN _ i h9 _ hi
   have hrs3 : RSt B gr (itR (Qad s 1) (bigN (Qaj s 1))) V1 := by rw [h8, ← h9]; exact hrs
   refine wp_seq_k fun K15 hK15 => ?_
   refine Qae ?_
   refine Qab (.slice none 0 0) 4 rfl kj kj ?_
   refine Qaf ?_
   refine hK15 _ _ ?_
   refine wp_ret ?_
   repeat (first | with_reducible refine goR1 ?_ | with_reducible refine goR2 ?_)
   exact (show bodyPost _ _ _ .ret _ _ from ret1 (.slice none 0 0) rfl (Qaw kj) ⟨_, rfl, xx1, hrs3, [], QbJ _ _ _ _, by decide, fun hne => absurd h8 hne⟩)
  ·skip
   refine wp_skip ?_
   refine hK12 _ _ ?_
   refine Qae ?_
   refine Qab (u) 14 rfl kj kj ?_
   refine Qab (.func (.func 111) #[] #[]) 15 rfl kj kj ?_
   refine Qab (.pointer (some ⟨gr, 0, none⟩)) 16 rfl kj kj ?_
   refine Qal (fun v W' => ExtB gr V1 W' ∧ RSt B gr (Qao (itR (Qad s 1) i)) W' ∧ (fun (v : Value) (_ : World) => v = .int .i64 ((bigN (Qaj (itR (Qad s 1) i) 1) : Nat) : Int)) v W') 111 #[.pointer (some ⟨gr, 0, none⟩)] 17 rfl kj kj (Qc6 B gr _ _ hB hrs) fun vv16 W3 hh16 => ?_
   obtain ⟨q3, rs16, hv16⟩ := hh16
   have x3 : ExtB gr w W3 := ExtB.tr xx1 q3
   subst hv16
   refine Qba (ints .i64 ([((bigN (Qaj (itR (Qad s 1) i) 1) : Nat) : Int)])) 3 1 18 rfl kj kj fun g17 W4 l17 e4 r17_4 => ?_
   have x4 : ExtB gr w W4 := ExtB.ext x3 e4
   have b17 : w.heap.size ≤ g17 := Nat.le_trans x3.size l17
   have f18_3 := (Qbg hu q3 (QaV hu (Nat.lt_of_lt_of_le hgr (ExtB.refl gr w).2.2.2.1)))
   have f19_4 := (f18_3.ext e4)
   refine QdF (k := .i64) (T := 3) w.heap.size 8 (.tmp 14) (.tmp 18) 41 rfl kj kj (by decide) 19 rfl kj kj kj f19_4 (QaT (xs := [((bigN (Qaj (itR (Qad s 1) i) 1) : Nat) : Int)]) (n := 1) rfl r17_4 (Qay r17_4) (show 1 ≤ maxLen from by decide)) (by rw [QdJ]; show i + 1 ≤ _; omega) x4.2.2.2.1 fun u2 W5 hu2 l5 => ?_
   have x5 : ExtB gr w W5 := ExtB.low x4 l5 (Nat.le_refl _)
   refine Qab (u2) 5 rfl kj kj ?_
   refine Qaf ?_
   refine hK11 _ _ ?_
   refine Qae ?_
   refine Qab (.int .i64 ((i + 1 : Nat) : Int)) 20 rfl kj (Qax (u := .int .i64 (IntKind.i64.wrap (((i : Nat) : Int) + 1))) kj (congrArg (Value.int .i64) (i64n _ _ (by omega) (by omega)))) ?_
   refine Qab (.int .i64 ((i + 1 : Nat) : Int)) 8 rfl kj kj ?_
   refine Qaf ?_
   have rs20 := (RSt.low (RSt.ext rs16 hB e4) hB l5 hgr)
   repeat (first | with_reducible refine goX1 ?_ | with_reducible refine goX2 ?_ | with_reducible refine goX3 ?_)
   exact Qbb ((i + 1), u2) ⟨rfl, rfl, rfl, rfl, rfl, trivial⟩ ⟨(by omega), rs20, hu2, x5⟩ (by omega)
 ·skip
  have heq9 : i = bigN (Qaj s 1) := by have := of_decide_eq_false c8; omega
  have hrs2 := hrs
  rw [heq9] at hrs2
  refine wp_exit ?_
  refine hK3 _ _ ?_
  refine wp_seq_k fun K21 hK21 => ?_
  refine Qae ?_
  refine Qab (u) 21 rfl kj kj ?_
  refine Qab (u) 4 rfl kj kj ?_
  refine Qaf ?_
  refine hK21 _ _ ?_
  refine wp_ret ?_
  repeat (first | with_reducible refine goR1 ?_ | with_reducible refine goR2 ?_)
  exact (show bodyPost _ _ _ .ret _ _ from ret1 (u) rfl (Qaw kj) ⟨_, rfl, xx1, hrs2, _, hu, by rw [QdJ]; omega, fun _ => by rw [heq9]⟩)
end Go.Proofs.Ytfelfmchachljaa.Wr
end
