/- Texts of this claim, joined (H1). -/
import Derived.Test.YtfelfmchachljaaZH0

section
namespace Go.Proofs.Ytfelfmchachljaa.Wr
open Go Go.RowKit
open Rely Auto Own Sha
set_option linter.unusedVariables false
set_option linter.unusedSimpArgs false
def Qap (xs : List Int) : Option (List Int) := bif decide ((65536 : Int) < ((xs.length : Nat) : Int)) then none else some xs
theorem QaZ (s : Option (List Int)) : (pGrp s).length = 32 := Qam _ (Qai s 32)
theorem ExtB.toExt {g : Nat} {u w W : World} (h : Ext u w) (q : ExtB g w W) (hg : u.heap.size ≤ g) : Ext u W :=
  ⟨q.1.trans h.os, q.2.1.trans h.tape, q.2.2.1.trans h.output, Nat.le_trans h.size q.2.2.2.1, fun k hk => (q.2.2.2.2 k (Nat.lt_of_lt_of_le hk h.size) (by omega)).trans (h.block k hk)⟩
set_option maxHeartbeats 4000000 in
theorem Qd3 (xs : List Int) (a_y : Option Addr) (c_y : Nat) (w : World) (hyb : Qao xs) (hy : RdK .u8 w.heap.size xs (.slice a_y xs.length c_y) w) (hS : QbB (Qap xs) = none) : Calls Try.prog 83 #[.slice a_y xs.length c_y, .func (.func 84) #[] #[]] w (Ret w (.tuple #[.agg (cat [(Array.replicate 32 (.int .u8 0)), #[.int .i64 0], #[.int .i64 0], #[.int .i64 0], #[.slice none 0 0]]), .iface 102 (.int .i64 3)])) := by
  refine enter 33 [(0, .slice a_y xs.length c_y), (1, .func (.func 84) #[] #[])] Try.func83 rfl rfl kj rfl ?_
  refine wp_seq_k fun K1 hK1 => ?_
  refine Qae ?_
  refine Qar (cat [(Array.replicate 32 (.int .u8 0)), #[.int .i64 0], #[.int .i64 0], #[.int .i64 0], #[.slice none 0 0]]) 81 4 rfl kj kj fun g2 W1 l2 e1 r2_1 => ?_
  have x1 : Ext w W1 := Ext.tr (Rely.Ext.refl w) e1
  have b2 : w.heap.size ≤ g2 := Nat.le_trans (Rely.Ext.refl w).size l2
  refine Qab (.nilIface) 5 rfl kj kj ?_
  refine Qaf ?_
  refine hK1 _ _ ?_
  refine wp_seq_k fun K3 hK3 => ?_
  refine Qae ?_
  refine Qab (.slice a_y xs.length c_y) 9 rfl kj kj ?_
  refine Qab (.slice a_y xs.length c_y) 10 rfl kj kj ?_
  refine Qab (.int .i64 ((xs.length : Nat) : Int)) 11 rfl kj kj ?_
  refine Qab (.bool (decide (((xs.length : Nat) : Int) > 65536))) 12 rfl kj kj ?_
  refine Qab (.agg (cat [#[.slice a_y xs.length c_y], #[.bool (decide (((xs.length : Nat) : Int) > 65536))]])) 13 rfl kj kj ?_
  refine Qar (cat [#[.slice a_y xs.length c_y], #[.bool (decide (((xs.length : Nat) : Int) > 65536))]]) 179 14 rfl kj kj fun g4 W2 l4 e2 r4_2 => ?_
  have x2 : Ext w W2 := Ext.tr x1 e2
  have b4 : w.heap.size ≤ g4 := Nat.le_trans x1.size l4
  refine Qab (.pointer (some ⟨g4, 0, none⟩)) 6 rfl kj kj ?_
  refine Qaf ?_
  refine hK3 _ _ ?_
  refine wp_seq_k fun K5 hK5 => ?_
  refine Qae ?_
  refine Qab (.func (.func 84) #[] #[]) 15 rfl kj kj ?_
  refine Qab (.pointer (some ⟨g4, 0, none⟩)) 16 rfl kj kj ?_
  refine Qah (fun v W' => ExtB g4 W2 W' ∧ RSt w.heap.size g4 (QbB (Qap xs)) W' ∧ ∃ (a_s : Option Addr) (c_s : Nat), v = .agg (cat [ints .u8 (pGrp (Qap xs)), #[.int .i64 (pEp (Qap xs))], #[.int .i64 (pFr (Qap xs))], #[.int .i64 (pNo (Qap xs))], #[.slice a_s (pSe (Qap xs)).length c_s]]) ∧ OwnN .u8 5 W2.heap.size (pSe (Qap xs)) (.slice a_s (pSe (Qap xs)).length c_s) W' ∧ Qao (pSe (Qap xs)) ∧ (pSe (Qap xs)).length ≤ 65535) 84 #[.pointer (some ⟨g4, 0, none⟩)] 17 rfl kj kj (Qd4 w.heap.size g4 (Qap xs) _ b4 ⟨_, xs, _, r4_2, RdK.ext hy x2, hyb, rfl⟩) fun vv6 W3 hh6 => ?_
  obtain ⟨q3, ⟨u6, xs2, bad, rb3, hu6, -, hS2⟩, hv6⟩ := hh6
  rw [hS] at hS2
  obtain ⟨au_, cu_, rfl, -⟩ := id hu6
  obtain rfl : bad = true := by cases bad with | true => rfl | false => cases hS2
  have rc3 : W3.heap[g4]? = some (.cells (cat [#[.slice au_ xs2.length cu_], #[.bool true]]) 179) := rb3
  have x3 : Ext w W3 := ExtB.toExt x2 q3 b4
  obtain ⟨a7pSe_, c7pSe_, rfl, ⟨ho7pSe, hb7pSe, hl7pSe⟩⟩ := hv6
  refine Qar (cat [(Array.replicate 32 (.int .u8 0)), #[.int .i64 0], #[.int .i64 0], #[.int .i64 0], #[.slice none 0 0]]) 81 7 rfl kj kj fun g8 W4 l8 e4 r8_4 => ?_
  have x4 : Ext w W4 := Ext.tr x3 e4
  have b8 : w.heap.size ≤ g8 := Nat.le_trans x3.size l8
  refine Qav g8 _ (cat [ints .u8 (pGrp (Qap xs)), #[.int .i64 (pEp (Qap xs))], #[.int .i64 (pFr (Qap xs))], #[.int .i64 (pNo (Qap xs))], #[.slice a7pSe_ ((pSe (Qap xs)).length) c7pSe_]]) 81 r8_4 rfl kj (Qat 81 _ _ g8 81 _ _ r8_4 rfl kj kj (isz (n := 36) kj (by rw [Qaa, Qaa, Qaa, Qaa, Qaa]; simp only [Array.size_append, cat, ((Qad _ _).trans (QaZ (Qap xs)))]; rfl)) (eqsz (n := 36) kj (by rw [Qaa, Qaa, Qaa, Qaa, Qaa]; simp only [Array.size_append, cat, ((Qad _ _).trans (QaZ (Qap xs)))]; rfl)) (QaC _ (by intro a ha; simp only [List.mem_cons, List.not_mem_nil, or_false] at ha; rcases ha with rfl | rfl | rfl | rfl | rfl; exact (Qan _ _); exact (Qak _ rfl); exact (Qak _ rfl); exact (Qak _ rfl); exact (Qak _ rfl)))) fun W5 p5 r8_5 => ?_
  have x5 : Ext w W5 := Puts.ext p5 x4 b8
  refine Qaf ?_
  refine hK5 _ _ ?_
  refine wp_seq_k fun K9 hK9 => ?_
  refine wp_seq_k fun K10 hK10 => ?_
  refine Qae ?_
  refine Qab (.pointer (some ⟨g4, 0, none⟩)) 18 rfl kj kj ?_
  refine Qab (.pointer (some ⟨g4, 0, none⟩)) 19 rfl kj kj ?_
  refine Qab (.pointer (some ⟨g4, 1, none⟩)) 20 rfl kj kj ?_
  have r4_4 := (Qau rc3 e4)
  have r4_5 := (Puts.row p5 r4_4 (Qa2 rc3 l8))
  refine Qab (.bool true) 21 rfl kj (Qal 4 _ g4 1 179 _ (.bool true) _ r4_5 rfl kj kj kj) ?_
  refine Qab (.bool true) 22 rfl kj kj ?_
  refine Qas 23 rfl kj ?_
  refine Qas 24 rfl kj ?_
  refine Qas 25 rfl kj ?_
  refine Qas 26 rfl kj ?_
  refine Qas 27 rfl kj ?_
  refine Qas 28 rfl kj ?_
  refine Qab (.bool true) 29 rfl kj kj ?_
  refine Qaf ?_
  refine hK10 _ _ ?_
  refine cond_true kj ?_
  refine wp_seq_k fun K11 hK11 => ?_
  refine Qae ?_
  refine Qar (cat [(Array.replicate 32 (.int .u8 0)), #[.int .i64 0], #[.int .i64 0], #[.int .i64 0], #[.slice none 0 0]]) 81 8 rfl kj kj fun g12 W6 l12 e6 r12_6 => ?_
  have x6 : Ext w W6 := Ext.tr x5 e6
  have b12 : w.heap.size ≤ g12 := Nat.le_trans x5.size l12
  refine Qaf ?_
  refine hK11 _ _ ?_
  refine wp_seq_k fun K13 hK13 => ?_
  refine Qae ?_
  refine Qab (.agg (cat [(Array.replicate 32 (.int .u8 0)), #[.int .i64 0], #[.int .i64 0], #[.int .i64 0], #[.slice none 0 0]])) 30 rfl kj (Qaz 81 _ g12 81 _ _ r12_6 rfl kj kj (isz (n := 36) kj kj)) ?_
  refine Qab (.iface 102 (.int .i64 3)) 31 rfl kj kj ?_
  have r2_2 := (Qau r2_1 e2)
  have r2_3 := (ExtB.row q3 r2_2 (Qa2 r2_1 l4))
  have r2_4 := (Qau r2_3 e4)
  have r2_5 := (Puts.row p5 r2_4 (Qa2 r2_3 l8))
  have r2_6 := (Qau r2_5 e6)
  refine Qav g2 _ (cat [(Array.replicate 32 (.int .u8 0)), #[.int .i64 0], #[.int .i64 0], #[.int .i64 0], #[.slice none 0 0]]) 81 r2_6 rfl kj (Qat 81 _ _ g2 81 _ _ r2_6 rfl kj kj (isz (n := 36) kj kj) (eqsz (n := 36) kj kj) kj) fun W7 p7 r2_7 => ?_
  have x7 : Ext w W7 := Puts.ext p7 x6 b2
  refine Qab (.iface 102 (.int .i64 3)) 5 rfl kj kj ?_
  refine Qaf ?_
  refine hK13 _ _ ?_
  refine wp_ret ?_
  repeat (first | with_reducible refine goR1 ?_ | with_reducible refine goR2 ?_)
  exact (show bodyPost _ _ _ .ret _ _ from ret2 (.agg (cat [(Array.replicate 32 (.int .u8 0)), #[.int .i64 0], #[.int .i64 0], #[.int .i64 0], #[.slice none 0 0]])) (.iface 102 (.int .i64 3)) rfl (QaR g2 81 _ r2_7 kj kj (isz (n := 36) kj kj)) (Qa1 kj) ⟨rfl, x7⟩)
set_option maxHeartbeats 4000000 in
theorem Qd2 (xs : List Int) (a_y : Option Addr) (c_y : Nat) (w : World) (hyb : Qao xs) (hy : RdK .u8 w.heap.size xs (.slice a_y xs.length c_y) w) (hS : QbB (Qap xs) = some []) : Calls Try.prog 83 #[.slice a_y xs.length c_y, .func (.func 84) #[] #[]] w (QcD w (fun v W => ∃ (a_s : Option Addr) (c_s : Nat), v = .tuple #[.agg (cat [ints .u8 (pGrp (Qap xs)), #[.int .i64 (pEp (Qap xs))], #[.int .i64 (pFr (Qap xs))], #[.int .i64 (pNo (Qap xs))], #[.slice a_s (pSe (Qap xs)).length c_s]]), .nilIface] ∧ OwnN .u8 5 w.heap.size (pSe (Qap xs)) (.slice a_s (pSe (Qap xs)).length c_s) W ∧ Qao (pSe (Qap xs)) ∧ (pSe (Qap xs)).length ≤ 65535)) := by
  refine enter 33 [(0, .slice a_y xs.length c_y), (1, .func (.func 84) #[] #[])] Try.func83 rfl rfl kj rfl ?_
  refine wp_seq_k fun K1 hK1 => ?_
  refine Qae ?_
  refine Qar (cat [(Array.replicate 32 (.int .u8 0)), #[.int .i64 0], #[.int .i64 0], #[.int .i64 0], #[.slice none 0 0]]) 81 4 rfl kj kj fun g2 W1 l2 e1 r2_1 => ?_
  have x1 : Ext w W1 := Ext.tr (Rely.Ext.refl w) e1
  have b2 : w.heap.size ≤ g2 := Nat.le_trans (Rely.Ext.refl w).size l2
  refine Qab (.nilIface) 5 rfl kj kj ?_
  refine Qaf ?_
  refine hK1 _ _ ?_
  refine wp_seq_k fun K3 hK3 => ?_
  refine Qae ?_
  refine Qab (.slice a_y xs.length c_y) 9 rfl kj kj ?_
  refine Qab (.slice a_y xs.length c_y) 10 rfl kj kj ?_
  refine Qab (.int .i64 ((xs.length : Nat) : Int)) 11 rfl kj kj ?_
  refine Qab (.bool (decide (((xs.length : Nat) : Int) > 65536))) 12 rfl kj kj ?_
  refine Qab (.agg (cat [#[.slice a_y xs.length c_y], #[.bool (decide (((xs.length : Nat) : Int) > 65536))]])) 13 rfl kj kj ?_
  refine Qar (cat [#[.slice a_y xs.length c_y], #[.bool (decide (((xs.length : Nat) : Int) > 65536))]]) 179 14 rfl kj kj fun g4 W2 l4 e2 r4_2 => ?_
  have x2 : Ext w W2 := Ext.tr x1 e2
  have b4 : w.heap.size ≤ g4 := Nat.le_trans x1.size l4
  refine Qab (.pointer (some ⟨g4, 0, none⟩)) 6 rfl kj kj ?_
  refine Qaf ?_
  refine hK3 _ _ ?_
  refine wp_seq_k fun K5 hK5 => ?_
  refine Qae ?_
  refine Qab (.func (.func 84) #[] #[]) 15 rfl kj kj ?_
  refine Qab (.pointer (some ⟨g4, 0, none⟩)) 16 rfl kj kj ?_
  refine Qah (fun v W' => ExtB g4 W2 W' ∧ RSt w.heap.size g4 (QbB (Qap xs)) W' ∧ ∃ (a_s : Option Addr) (c_s : Nat), v = .agg (cat [ints .u8 (pGrp (Qap xs)), #[.int .i64 (pEp (Qap xs))], #[.int .i64 (pFr (Qap xs))], #[.int .i64 (pNo (Qap xs))], #[.slice a_s (pSe (Qap xs)).length c_s]]) ∧ OwnN .u8 5 W2.heap.size (pSe (Qap xs)) (.slice a_s (pSe (Qap xs)).length c_s) W' ∧ Qao (pSe (Qap xs)) ∧ (pSe (Qap xs)).length ≤ 65535) 84 #[.pointer (some ⟨g4, 0, none⟩)] 17 rfl kj kj (Qd4 w.heap.size g4 (Qap xs) _ b4 ⟨_, xs, _, r4_2, RdK.ext hy x2, hyb, rfl⟩) fun vv6 W3 hh6 => ?_
  obtain ⟨q3, ⟨u6, xs2, bad, rb3, hu6, -, hS2⟩, hv6⟩ := hh6
  rw [hS] at hS2
  obtain ⟨au_, cu_, rfl, -⟩ := id hu6
  obtain ⟨rfl, rfl⟩ : bad = false ∧ xs2 = [] := by cases bad with | true => cases hS2 | false => exact ⟨rfl, (Option.some.inj hS2).symm⟩
  have rc3 : W3.heap[g4]? = some (.cells (cat [#[.slice au_ 0 cu_], #[.bool false]]) 179) := rb3
  have x3 : Ext w W3 := ExtB.toExt x2 q3 b4
  obtain ⟨a7pSe_, c7pSe_, rfl, ⟨ho7pSe, hb7pSe, hl7pSe⟩⟩ := hv6
  refine Qar (cat [(Array.replicate 32 (.int .u8 0)), #[.int .i64 0], #[.int .i64 0], #[.int .i64 0], #[.slice none 0 0]]) 81 7 rfl kj kj fun g8 W4 l8 e4 r8_4 => ?_
  have x4 : Ext w W4 := Ext.tr x3 e4
  have b8 : w.heap.size ≤ g8 := Nat.le_trans x3.size l8
  refine Qav g8 _ (cat [ints .u8 (pGrp (Qap xs)), #[.int .i64 (pEp (Qap xs))], #[.int .i64 (pFr (Qap xs))], #[.int .i64 (pNo (Qap xs))], #[.slice a7pSe_ ((pSe (Qap xs)).length) c7pSe_]]) 81 r8_4 rfl kj (Qat 81 _ _ g8 81 _ _ r8_4 rfl kj kj (isz (n := 36) kj (by rw [Qaa, Qaa, Qaa, Qaa, Qaa]; simp only [Array.size_append, cat, ((Qad _ _).trans (QaZ (Qap xs)))]; rfl)) (eqsz (n := 36) kj (by rw [Qaa, Qaa, Qaa, Qaa, Qaa]; simp only [Array.size_append, cat, ((Qad _ _).trans (QaZ (Qap xs)))]; rfl)) (QaC _ (by intro a ha; simp only [List.mem_cons, List.not_mem_nil, or_false] at ha; rcases ha with rfl | rfl | rfl | rfl | rfl; exact (Qan _ _); exact (Qak _ rfl); exact (Qak _ rfl); exact (Qak _ rfl); exact (Qak _ rfl)))) fun W5 p5 r8_5 => ?_
  have x5 : Ext w W5 := Puts.ext p5 x4 b8
  refine Qaf ?_
  refine hK5 _ _ ?_
  refine wp_seq_k fun K9 hK9 => ?_
  refine wp_seq_k fun K10 hK10 => ?_
  refine Qae ?_
  refine Qab (.pointer (some ⟨g4, 0, none⟩)) 18 rfl kj kj ?_
  refine Qab (.pointer (some ⟨g4, 0, none⟩)) 19 rfl kj kj ?_
  refine Qab (.pointer (some ⟨g4, 1, none⟩)) 20 rfl kj kj ?_
  have r4_4 := (Qau rc3 e4)
  have r4_5 := (Puts.row p5 r4_4 (Qa2 rc3 l8))
  refine Qab (.bool false) 21 rfl kj (Qal 4 _ g4 1 179 _ (.bool false) _ r4_5 rfl kj kj kj) ?_
  refine Qab (.bool false) 22 rfl kj kj ?_
  refine Qab (.pointer (some ⟨g4, 0, none⟩)) 23 rfl kj kj ?_
  refine Qab (.pointer (some ⟨g4, 0, none⟩)) 24 rfl kj kj ?_
  refine Qab (.pointer (some ⟨g4, 0, none⟩)) 25 rfl kj kj ?_
  refine Qab (.slice au_ 0 cu_) 26 rfl kj (Qal 26 _ g4 0 179 _ (.slice au_ 0 cu_) _ r4_5 rfl kj kj kj) ?_
  refine Qab (.int .i64 0) 27 rfl kj kj ?_
  refine Qab (.bool false) 28 rfl kj kj ?_
  refine Qab (.bool false) 29 rfl kj kj ?_
  refine Qaf ?_
  refine hK10 _ _ ?_
  refine cond_false kj ?_
  refine wp_skip ?_
  refine hK9 _ _ ?_
  refine wp_seq_k fun K11 hK11 => ?_
  refine Qae ?_
  refine Qab (.agg (cat [ints .u8 (pGrp (Qap xs)), #[.int .i64 (pEp (Qap xs))], #[.int .i64 (pFr (Qap xs))], #[.int .i64 (pNo (Qap xs))], #[.slice a7pSe_ ((pSe (Qap xs)).length) c7pSe_]])) 32 rfl kj (Qaz 81 _ g8 81 _ _ r8_5 rfl kj kj (isz (n := 36) kj (by rw [Qaa, Qaa, Qaa, Qaa, Qaa]; simp only [Array.size_append, cat, ((Qad _ _).trans (QaZ (Qap xs)))]; rfl))) ?_
  have r2_2 := (Qau r2_1 e2)
  have r2_3 := (ExtB.row q3 r2_2 (Qa2 r2_1 l4))
  have r2_4 := (Qau r2_3 e4)
  have r2_5 := (Puts.row p5 r2_4 (Qa2 r2_3 l8))
  refine Qav g2 _ (cat [ints .u8 (pGrp (Qap xs)), #[.int .i64 (pEp (Qap xs))], #[.int .i64 (pFr (Qap xs))], #[.int .i64 (pNo (Qap xs))], #[.slice a7pSe_ ((pSe (Qap xs)).length) c7pSe_]]) 81 r2_5 rfl kj (Qat 81 _ _ g2 81 _ _ r2_5 rfl kj kj (isz (n := 36) kj (by rw [Qaa, Qaa, Qaa, Qaa, Qaa]; simp only [Array.size_append, cat, ((Qad _ _).trans (QaZ (Qap xs)))]; rfl)) (eqsz (n := 36) kj (by rw [Qaa, Qaa, Qaa, Qaa, Qaa]; simp only [Array.size_append, cat, ((Qad _ _).trans (QaZ (Qap xs)))]; rfl)) (QaC _ (by intro a ha; simp only [List.mem_cons, List.not_mem_nil, or_false] at ha; rcases ha with rfl | rfl | rfl | rfl | rfl; exact (Qan _ _); exact (Qak _ rfl); exact (Qak _ rfl); exact (Qak _ rfl); exact (Qak _ rfl)))) fun W6 p6 r2_6 => ?_
  have x6 : Ext w W6 := Puts.ext p6 x5 b2
  refine Qab (.nilIface) 5 rfl kj kj ?_
  refine Qaf ?_
  refine hK11 _ _ ?_
  refine wp_ret ?_
  repeat (first | with_reducible refine goR1 ?_ | with_reducible refine goR2 ?_)
  have f12_4 := (ho7pSe.ext e4)
  have f13_5 := (f12_4.puts p5 (QcI ho7pSe l8))
  have f14_6 := (f13_5.puts p6 (Qbf ho7pSe (Qa5 r2_2)))
  exact (show bodyPost _ _ _ .ret _ _ from ret2 (.agg (cat [ints .u8 (pGrp (Qap xs)), #[.int .i64 (pEp (Qap xs))], #[.int .i64 (pFr (Qap xs))], #[.int .i64 (pNo (Qap xs))], #[.slice a7pSe_ ((pSe (Qap xs)).length) c7pSe_]])) (.nilIface) rfl (QaR g2 81 _ r2_6 kj kj (isz (n := 36) kj (by rw [Qaa, Qaa, Qaa, Qaa, Qaa]; simp only [Array.size_append, cat, ((Qad _ _).trans (QaZ (Qap xs)))]; rfl))) (Qa1 kj) ⟨_, rfl, x6, _, _, rfl, ⟨OwnN.base x2.size f14_6, hb7pSe, hl7pSe⟩⟩)
set_option maxHeartbeats 4000000 in
theorem Qd1 (xs : List Int) (a_y : Option Addr) (c_y : Nat) (w : World) (hyb : Qao xs) (hy : RdK .u8 w.heap.size xs (.slice a_y xs.length c_y) w) (y : Int) (ys : List Int) (hS : QbB (Qap xs) = some (y :: ys)) : Calls Try.prog 83 #[.slice a_y xs.length c_y, .func (.func 84) #[] #[]] w (Ret w (.tuple #[.agg (cat [(Array.replicate 32 (.int .u8 0)), #[.int .i64 0], #[.int .i64 0], #[.int .i64 0], #[.slice none 0 0]]), .iface 102 (.int .i64 3)])) := by
  refine enter 33 [(0, .slice a_y xs.length c_y), (1, .func (.func 84) #[] #[])] Try.func83 rfl rfl kj rfl ?_
  refine wp_seq_k fun K1 hK1 => ?_
  refine Qae ?_
  refine Qar (cat [(Array.replicate 32 (.int .u8 0)), #[.int .i64 0], #[.int .i64 0], #[.int .i64 0], #[.slice none 0 0]]) 81 4 rfl kj kj fun g2 W1 l2 e1 r2_1 => ?_
  have x1 : Ext w W1 := Ext.tr (Rely.Ext.refl w) e1
  have b2 : w.heap.size ≤ g2 := Nat.le_trans (Rely.Ext.refl w).size l2
  refine Qab (.nilIface) 5 rfl kj kj ?_
  refine Qaf ?_
  refine hK1 _ _ ?_
  refine wp_seq_k fun K3 hK3 => ?_
  refine Qae ?_
  refine Qab (.slice a_y xs.length c_y) 9 rfl kj kj ?_
  refine Qab (.slice a_y xs.length c_y) 10 rfl kj kj ?_
  refine Qab (.int .i64 ((xs.length : Nat) : Int)) 11 rfl kj kj ?_
  refine Qab (.bool (decide (((xs.length : Nat) : Int) > 65536))) 12 rfl kj kj ?_
  refine Qab (.agg (cat [#[.slice a_y xs.length c_y], #[.bool (decide (((xs.length : Nat) : Int) > 65536))]])) 13 rfl kj kj ?_
  refine Qar (cat [#[.slice a_y xs.length c_y], #[.bool (decide (((xs.length : Nat) : Int) > 65536))]]) 179 14 rfl kj kj fun g4 W2 l4 e2 r4_2 => ?_
  have x2 : Ext w W2 := Ext.tr x1 e2
  have b4 : w.heap.size ≤ g4 := Nat.le_trans x1.size l4
  refine Qab (.pointer (some ⟨g4, 0, none⟩)) 6 rfl kj kj ?_
  refine Qaf ?_
  refine hK3 _ _ ?_
  refine wp_seq_k fun K5 hK5 => ?_
  refine Qae ?_
  refine Qab (.func (.func 84) #[] #[]) 15 rfl kj kj ?_
  refine Qab (.pointer (some ⟨g4, 0, none⟩)) 16 rfl kj kj ?_
  refine Qah (fun v W' => ExtB g4 W2 W' ∧ RSt w.heap.size g4 (QbB (Qap xs)) W' ∧ ∃ (a_s : Option Addr) (c_s : Nat), v = .agg (cat [ints .u8 (pGrp (Qap xs)), #[.int .i64 (pEp (Qap xs))], #[.int .i64 (pFr (Qap xs))], #[.int .i64 (pNo (Qap xs))], #[.slice a_s (pSe (Qap xs)).length c_s]]) ∧ OwnN .u8 5 W2.heap.size (pSe (Qap xs)) (.slice a_s (pSe (Qap xs)).length c_s) W' ∧ Qao (pSe (Qap xs)) ∧ (pSe (Qap xs)).length ≤ 65535) 84 #[.pointer (some ⟨g4, 0, none⟩)] 17 rfl kj kj (Qd4 w.heap.size g4 (Qap xs) _ b4 ⟨_, xs, _, r4_2, RdK.ext hy x2, hyb, rfl⟩) fun vv6 W3 hh6 => ?_
  obtain ⟨q3, ⟨u6, xs2, bad, rb3, hu6, -, hS2⟩, hv6⟩ := hh6
  rw [hS] at hS2
  obtain ⟨au_, cu_, rfl, -⟩ := id hu6
  obtain ⟨rfl, rfl⟩ : bad = false ∧ xs2 = y :: ys := by cases bad with | true => cases hS2 | false => exact ⟨rfl, (Option.some.inj hS2).symm⟩
  have rc3 : W3.heap[g4]? = some (.cells (cat [#[.slice au_ ((y :: ys).length) cu_], #[.bool false]]) 179) := rb3
  have x3 : Ext w W3 := ExtB.toExt x2 q3 b4
  obtain ⟨a7pSe_, c7pSe_, rfl, ⟨ho7pSe, hb7pSe, hl7pSe⟩⟩ := hv6
  refine Qar (cat [(Array.replicate 32 (.int .u8 0)), #[.int .i64 0], #[.int .i64 0], #[.int .i64 0], #[.slice none 0 0]]) 81 7 rfl kj kj fun g8 W4 l8 e4 r8_4 => ?_
  have x4 : Ext w W4 := Ext.tr x3 e4
  have b8 : w.heap.size ≤ g8 := Nat.le_trans x3.size l8
  refine Qav g8 _ (cat [ints .u8 (pGrp (Qap xs)), #[.int .i64 (pEp (Qap xs))], #[.int .i64 (pFr (Qap xs))], #[.int .i64 (pNo (Qap xs))], #[.slice a7pSe_ ((pSe (Qap xs)).length) c7pSe_]]) 81 r8_4 rfl kj (Qat 81 _ _ g8 81 _ _ r8_4 rfl kj kj (isz (n := 36) kj (by rw [Qaa, Qaa, Qaa, Qaa, Qaa]; simp only [Array.size_append, cat, ((Qad _ _).trans (QaZ (Qap xs)))]; rfl)) (eqsz (n := 36) kj (by rw [Qaa, Qaa, Qaa, Qaa, Qaa]; simp only [Array.size_append, cat, ((Qad _ _).trans (QaZ (Qap xs)))]; rfl)) (QaC _ (by intro a ha; simp only [List.mem_cons, List.not_mem_nil, or_false] at ha; rcases ha with rfl | rfl | rfl | rfl | rfl; exact (Qan _ _); exact (Qak _ rfl); exact (Qak _ rfl); exact (Qak _ rfl); exact (Qak _ rfl)))) fun W5 p5 r8_5 => ?_
  have x5 : Ext w W5 := Puts.ext p5 x4 b8
  refine Qaf ?_
  refine hK5 _ _ ?_
  refine wp_seq_k fun K9 hK9 => ?_
  refine wp_seq_k fun K10 hK10 => ?_
  refine Qae ?_
  refine Qab (.pointer (some ⟨g4, 0, none⟩)) 18 rfl kj kj ?_
  refine Qab (.pointer (some ⟨g4, 0, none⟩)) 19 rfl kj kj ?_
  refine Qab (.pointer (some ⟨g4, 1, none⟩)) 20 rfl kj kj ?_
  have r4_4 := (Qau rc3 e4)
  have r4_5 := (Puts.row p5 r4_4 (Qa2 rc3 l8))
  refine Qab (.bool false) 21 rfl kj (Qal 4 _ g4 1 179 _ (.bool false) _ r4_5 rfl kj kj kj) ?_
  refine Qab (.bool false) 22 rfl kj kj ?_
  refine Qab (.pointer (some ⟨g4, 0, none⟩)) 23 rfl kj kj ?_
  refine Qab (.pointer (some ⟨g4, 0, none⟩)) 24 rfl kj kj ?_
  refine Qab (.pointer (some ⟨g4, 0, none⟩)) 25 rfl kj kj ?_
  refine Qab (.slice au_ ((y :: ys).length) cu_) 26 rfl kj (Qal 26 _ g4 0 179 _ (.slice au_ ((y :: ys).length) cu_) _ r4_5 rfl kj kj kj) ?_
  refine Qab (.int .i64 (((y :: ys).length : Nat) : Int)) 27 rfl kj kj ?_
  refine Qab (.bool true) 28 rfl kj (Qa0 (u := .bool (decide ((((y :: ys).length : Nat) : Int) > 0))) kj (congrArg Value.bool (decide_eq_true (by simp only [List.length_cons]; omega)))) ?_
  refine Qab (.bool true) 29 rfl kj kj ?_
  refine Qaf ?_
  refine hK10 _ _ ?_
  refine cond_true kj ?_
  refine wp_seq_k fun K11 hK11 => ?_
  refine Qae ?_
  refine Qar (cat [(Array.replicate 32 (.int .u8 0)), #[.int .i64 0], #[.int .i64 0], #[.int .i64 0], #[.slice none 0 0]]) 81 8 rfl kj kj fun g12 W6 l12 e6 r12_6 => ?_
  have x6 : Ext w W6 := Ext.tr x5 e6
  have b12 : w.heap.size ≤ g12 := Nat.le_trans x5.size l12
  refine Qaf ?_
  refine hK11 _ _ ?_
  refine wp_seq_k fun K13 hK13 => ?_
  refine Qae ?_
  refine Qab (.agg (cat [(Array.replicate 32 (.int .u8 0)), #[.int .i64 0], #[.int .i64 0], #[.int .i64 0], #[.slice none 0 0]])) 30 rfl kj (Qaz 81 _ g12 81 _ _ r12_6 rfl kj kj (isz (n := 36) kj kj)) ?_
  refine Qab (.iface 102 (.int .i64 3)) 31 rfl kj kj ?_
  have r2_2 := (Qau r2_1 e2)
  have r2_3 := (ExtB.row q3 r2_2 (Qa2 r2_1 l4))
  have r2_4 := (Qau r2_3 e4)
  have r2_5 := (Puts.row p5 r2_4 (Qa2 r2_3 l8))
  have r2_6 := (Qau r2_5 e6)
  refine Qav g2 _ (cat [(Array.replicate 32 (.int .u8 0)), #[.int .i64 0], #[.int .i64 0], #[.int .i64 0], #[.slice none 0 0]]) 81 r2_6 rfl kj (Qat 81 _ _ g2 81 _ _ r2_6 rfl kj kj (isz (n := 36) kj kj) (eqsz (n := 36) kj kj) kj) fun W7 p7 r2_7 => ?_
  have x7 : Ext w W7 := Puts.ext p7 x6 b2
  refine Qab (.iface 102 (.int .i64 3)) 5 rfl kj kj ?_
  refine Qaf ?_
  refine hK13 _ _ ?_
  refine wp_ret ?_
  repeat (first | with_reducible refine goR1 ?_ | with_reducible refine goR2 ?_)
  exact (show bodyPost _ _ _ .ret _ _ from ret2 (.agg (cat [(Array.replicate 32 (.int .u8 0)), #[.int .i64 0], #[.int .i64 0], #[.int .i64 0], #[.slice none 0 0]])) (.iface 102 (.int .i64 3)) rfl (QaR g2 81 _ r2_7 kj kj (isz (n := 36) kj kj)) (Qa1 kj) ⟨rfl, x7⟩)
set_option maxHeartbeats 4000000 in
theorem QdA (xs : List Int) (a_y : Option Addr) (c_y : Nat) (w : World) (hyb : Qao xs) (hy : RdK .u8 w.heap.size xs (.slice a_y xs.length c_y) w) (hS : QbB (Qap xs) = none) : Calls Try.prog 36 #[.slice a_y xs.length c_y] w (Ret w (.tuple #[.agg (cat [(Array.replicate 32 (.int .u8 0)), #[.int .i64 0], #[.int .i64 0], #[.int .i64 0], #[.slice none 0 0]]), .iface 102 (.int .i64 3)])) := by
  refine enter 8 [(0, .slice a_y xs.length c_y)] Try.func36 rfl rfl kj rfl ?_
  refine wp_seq_k fun K1 hK1 => ?_
  refine Qae ?_
  refine Qar (cat [(Array.replicate 32 (.int .u8 0)), #[.int .i64 0], #[.int .i64 0], #[.int .i64 0], #[.slice none 0 0]]) 81 2 rfl kj kj fun g2 W1 l2 e1 r2_1 => ?_
  have x1 : Ext w W1 := Ext.tr (Rely.Ext.refl w) e1
  have b2 : w.heap.size ≤ g2 := Nat.le_trans (Rely.Ext.refl w).size l2
  refine Qab (.nilIface) 3 rfl kj kj ?_
  refine Qaf ?_
  refine hK1 _ _ ?_
  refine wp_seq_k fun K3 hK3 => ?_
  refine Qae ?_
  refine Qab (.slice a_y xs.length c_y) 4 rfl kj kj ?_
  refine Qa8 (.tuple #[.agg (cat [(Array.replicate 32 (.int .u8 0)), #[.int .i64 0], #[.int .i64 0], #[.int .i64 0], #[.slice none 0 0]]), .iface 102 (.int .i64 3)]) 83 #[.slice a_y xs.length c_y, .func (.func 84) #[] #[]] 5 rfl kj kj (Qd3 xs _ _ _ hyb (RdK.here (RdK.ext hy x1)) hS) fun W2 e2 => ?_
  have x2 : Ext w W2 := Ext.tr x1 e2
  refine Qab (.agg (cat [(Array.replicate 32 (.int .u8 0)), #[.int .i64 0], #[.int .i64 0], #[.int .i64 0], #[.slice none 0 0]])) 6 rfl kj kj ?_
  refine Qab (.iface 102 (.int .i64 3)) 7 rfl kj kj ?_
  have r2_2 := (Qau r2_1 e2)
  refine Qav g2 _ (cat [(Array.replicate 32 (.int .u8 0)), #[.int .i64 0], #[.int .i64 0], #[.int .i64 0], #[.slice none 0 0]]) 81 r2_2 rfl kj (Qat 81 _ _ g2 81 _ _ r2_2 rfl kj kj (isz (n := 36) kj kj) (eqsz (n := 36) kj kj) kj) fun W3 p3 r2_3 => ?_
  have x3 : Ext w W3 := Puts.ext p3 x2 b2
  refine Qab (.iface 102 (.int .i64 3)) 3 rfl kj kj ?_
  refine Qaf ?_
  refine hK3 _ _ ?_
  refine wp_ret ?_
  repeat (first | with_reducible refine goR1 ?_ | with_reducible refine goR2 ?_)
  exact (show bodyPost _ _ _ .ret _ _ from ret2 (.agg (cat [(Array.replicate 32 (.int .u8 0)), #[.int .i64 0], #[.int .i64 0], #[.int .i64 0], #[.slice none 0 0]])) (.iface 102 (.int .i64 3)) rfl (QaR g2 81 _ r2_3 kj kj (isz (n := 36) kj kj)) (Qa1 kj) ⟨rfl, x3⟩)
set_option maxHeartbeats 4000000 in
theorem Qd9 (xs : List Int) (a_y : Option Addr) (c_y : Nat) (w : World) (hyb : Qao xs) (hy : RdK .u8 w.heap.size xs (.slice a_y xs.length c_y) w) (hS : QbB (Qap xs) = some []) : Calls Try.prog 36 #[.slice a_y xs.length c_y] w (QcD w (fun v W => ∃ (a_s : Option Addr) (c_s : Nat), v = .tuple #[.agg (cat [ints .u8 (pGrp (Qap xs)), #[.int .i64 (pEp (Qap xs))], #[.int .i64 (pFr (Qap xs))], #[.int .i64 (pNo (Qap xs))], #[.slice a_s (pSe (Qap xs)).length c_s]]), .nilIface] ∧ OwnN .u8 5 w.heap.size (pSe (Qap xs)) (.slice a_s (pSe (Qap xs)).length c_s) W ∧ Qao (pSe (Qap xs)) ∧ (pSe (Qap xs)).length ≤ 65535)) := by
  refine enter 8 [(0, .slice a_y xs.length c_y)] Try.func36 rfl rfl kj rfl ?_
  refine wp_seq_k fun K1 hK1 => ?_
  refine Qae ?_
  refine Qar (cat [(Array.replicate 32 (.int .u8 0)), #[.int .i64 0], #[.int .i64 0], #[.int .i64 0], #[.slice none 0 0]]) 81 2 rfl kj kj fun g2 W1 l2 e1 r2_1 => ?_
  have x1 : Ext w W1 := Ext.tr (Rely.Ext.refl w) e1
  have b2 : w.heap.size ≤ g2 := Nat.le_trans (Rely.Ext.refl w).size l2
  refine Qab (.nilIface) 3 rfl kj kj ?_
  refine Qaf ?_
  refine hK1 _ _ ?_
  refine wp_seq_k fun K3 hK3 => ?_
  refine Qae ?_
  refine Qab (.slice a_y xs.length c_y) 4 rfl kj kj ?_
  refine Qah (fun v W' => (fun v W => ∃ (a_s : Option Addr) (c_s : Nat), v = .tuple #[.agg (cat [ints .u8 (pGrp (Qap xs)), #[.int .i64 (pEp (Qap xs))], #[.int .i64 (pFr (Qap xs))], #[.int .i64 (pNo (Qap xs))], #[.slice a_s (pSe (Qap xs)).length c_s]]), .nilIface] ∧ OwnN .u8 5 W1.heap.size (pSe (Qap xs)) (.slice a_s (pSe (Qap xs)).length c_s) W ∧ Qao (pSe (Qap xs)) ∧ (pSe (Qap xs)).length ≤ 65535) v W' ∧ Ext W1 W') 83 #[.slice a_y xs.length c_y, .func (.func 84) #[] #[]] 5 rfl kj kj ((Qd2 xs _ _ _ hyb (RdK.here (RdK.ext hy x1)) hS).mono (by rintro e w' ⟨v, rfl, e1, hv⟩; exact ⟨v, rfl, hv, e1⟩)) fun vv4 W2 hh4 => ?_
  obtain ⟨hv4, e2⟩ := hh4
  have x2 : Ext w W2 := Ext.tr x1 e2
  obtain ⟨a5pSe_, c5pSe_, rfl, ⟨ho5pSe, hb5pSe, hl5pSe⟩⟩ := hv4
  refine Qab (.agg (cat [ints .u8 (pGrp (Qap xs)), #[.int .i64 (pEp (Qap xs))], #[.int .i64 (pFr (Qap xs))], #[.int .i64 (pNo (Qap xs))], #[.slice a5pSe_ ((pSe (Qap xs)).length) c5pSe_]])) 6 rfl kj kj ?_
  refine Qab (.nilIface) 7 rfl kj kj ?_
  have r2_2 := (Qau r2_1 e2)
  refine Qav g2 _ (cat [ints .u8 (pGrp (Qap xs)), #[.int .i64 (pEp (Qap xs))], #[.int .i64 (pFr (Qap xs))], #[.int .i64 (pNo (Qap xs))], #[.slice a5pSe_ ((pSe (Qap xs)).length) c5pSe_]]) 81 r2_2 rfl kj (Qat 81 _ _ g2 81 _ _ r2_2 rfl kj kj (isz (n := 36) kj (by rw [Qaa, Qaa, Qaa, Qaa, Qaa]; simp only [Array.size_append, cat, ((Qad _ _).trans (QaZ (Qap xs)))]; rfl)) (eqsz (n := 36) kj (by rw [Qaa, Qaa, Qaa, Qaa, Qaa]; simp only [Array.size_append, cat, ((Qad _ _).trans (QaZ (Qap xs)))]; rfl)) (QaC _ (by intro a ha; simp only [List.mem_cons, List.not_mem_nil, or_false] at ha; rcases ha with rfl | rfl | rfl | rfl | rfl; exact (Qan _ _); exact (Qak _ rfl); exact (Qak _ rfl); exact (Qak _ rfl); exact (Qak _ rfl)))) fun W3 p3 r2_3 => ?_
  have x3 : Ext w W3 := Puts.ext p3 x2 b2
  refine Qab (.nilIface) 3 rfl kj kj ?_
  refine Qaf ?_
  refine hK3 _ _ ?_
  refine wp_ret ?_
  repeat (first | with_reducible refine goR1 ?_ | with_reducible refine goR2 ?_)
  have f6_3 := (ho5pSe.puts p3 (Qbf ho5pSe (Qa5 r2_1)))
  exact (show bodyPost _ _ _ .ret _ _ from ret2 (.agg (cat [ints .u8 (pGrp (Qap xs)), #[.int .i64 (pEp (Qap xs))], #[.int .i64 (pFr (Qap xs))], #[.int .i64 (pNo (Qap xs))], #[.slice a5pSe_ ((pSe (Qap xs)).length) c5pSe_]])) (.nilIface) rfl (QaR g2 81 _ r2_3 kj kj (isz (n := 36) kj (by rw [Qaa, Qaa, Qaa, Qaa, Qaa]; simp only [Array.size_append, cat, ((Qad _ _).trans (QaZ (Qap xs)))]; rfl))) (Qa1 kj) ⟨_, rfl, x3, _, _, rfl, ⟨OwnN.base x1.size f6_3, hb5pSe, hl5pSe⟩⟩)
set_option maxHeartbeats 4000000 in
theorem Qd8 (xs : List Int) (a_y : Option Addr) (c_y : Nat) (w : World) (hyb : Qao xs) (hy : RdK .u8 w.heap.size xs (.slice a_y xs.length c_y) w) (y : Int) (ys : List Int) (hS : QbB (Qap xs) = some (y :: ys)) : Calls Try.prog 36 #[.slice a_y xs.length c_y] w (Ret w (.tuple #[.agg (cat [(Array.replicate 32 (.int .u8 0)), #[.int .i64 0], #[.int .i64 0], #[.int .i64 0], #[.slice none 0 0]]), .iface 102 (.int .i64 3)])) := by
  refine enter 8 [(0, .slice a_y xs.length c_y)] Try.func36 rfl rfl kj rfl ?_
  refine wp_seq_k fun K1 hK1 => ?_
  refine Qae ?_
  refine Qar (cat [(Array.replicate 32 (.int .u8 0)), #[.int .i64 0], #[.int .i64 0], #[.int .i64 0], #[.slice none 0 0]]) 81 2 rfl kj kj fun g2 W1 l2 e1 r2_1 => ?_
  have x1 : Ext w W1 := Ext.tr (Rely.Ext.refl w) e1
  have b2 : w.heap.size ≤ g2 := Nat.le_trans (Rely.Ext.refl w).size l2
  refine Qab (.nilIface) 3 rfl kj kj ?_
  refine Qaf ?_
  refine hK1 _ _ ?_
  refine wp_seq_k fun K3 hK3 => ?_
  refine Qae ?_
  refine Qab (.slice a_y xs.length c_y) 4 rfl kj kj ?_
  refine Qa8 (.tuple #[.agg (cat [(Array.replicate 32 (.int .u8 0)), #[.int .i64 0], #[.int .i64 0], #[.int .i64 0], #[.slice none 0 0]]), .iface 102 (.int .i64 3)]) 83 #[.slice a_y xs.length c_y, .func (.func 84) #[] #[]] 5 rfl kj kj (Qd1 xs _ _ _ hyb (RdK.here (RdK.ext hy x1)) y ys hS) fun W2 e2 => ?_
  have x2 : Ext w W2 := Ext.tr x1 e2
  refine Qab (.agg (cat [(Array.replicate 32 (.int .u8 0)), #[.int .i64 0], #[.int .i64 0], #[.int .i64 0], #[.slice none 0 0]])) 6 rfl kj kj ?_
  refine Qab (.iface 102 (.int .i64 3)) 7 rfl kj kj ?_
  have r2_2 := (Qau r2_1 e2)
  refine Qav g2 _ (cat [(Array.replicate 32 (.int .u8 0)), #[.int .i64 0], #[.int .i64 0], #[.int .i64 0], #[.slice none 0 0]]) 81 r2_2 rfl kj (Qat 81 _ _ g2 81 _ _ r2_2 rfl kj kj (isz (n := 36) kj kj) (eqsz (n := 36) kj kj) kj) fun W3 p3 r2_3 => ?_
  have x3 : Ext w W3 := Puts.ext p3 x2 b2
  refine Qab (.iface 102 (.int .i64 3)) 3 rfl kj kj ?_
  refine Qaf ?_
  refine hK3 _ _ ?_
  refine wp_ret ?_
  repeat (first | with_reducible refine goR1 ?_ | with_reducible refine goR2 ?_)
  exact (show bodyPost _ _ _ .ret _ _ from ret2 (.agg (cat [(Array.replicate 32 (.int .u8 0)), #[.int .i64 0], #[.int .i64 0], #[.int .i64 0], #[.slice none 0 0]])) (.iface 102 (.int .i64 3)) rfl (QaR g2 81 _ r2_3 kj kj (isz (n := 36) kj kj)) (Qa1 kj) ⟨rfl, x3⟩)
theorem Qbu (xs : List Int) (a_y : Option Addr) (c_y : Nat) (w : World) (hyb : Qao xs) (hy : RdK .u8 w.heap.size xs (.slice a_y xs.length c_y) w) (hS : QbB (Qap xs) ≠ some []) : Calls Try.prog 36 #[.slice a_y xs.length c_y] w (Ret w (.tuple #[.agg (cat [(Array.replicate 32 (.int .u8 0)), #[.int .i64 0], #[.int .i64 0], #[.int .i64 0], #[.slice none 0 0]]), .iface 102 (.int .i64 3)])) := by
  cases h : QbB (Qap xs) with
  | none => exact QdA xs a_y c_y w hyb hy h
  | some l => cases l with
    | nil => exact absurd h hS
    | cons y ys => exact Qd8 xs a_y c_y w hyb hy y ys h
end Go.Proofs.Ytfelfmchachljaa.Wr
end
section
namespace Go.Proofs.Ytfelfmchachljaa.Wr
open Go Go.RowKit
open Rely Auto Own Sha
set_option linter.unusedVariables false
set_option linter.unusedSimpArgs false
set_option maxHeartbeats 4000000 in
theorem is3 (w : World) : Calls Try.prog 45 #[.iface 102 (.int .i64 3), .int .i64 3] w (Ret w (.bool true)) := by
  refine enter 9 [(0, .iface 102 (.int .i64 3)), (1, .int .i64 3)] Try.func45 rfl rfl kj rfl ?_
  refine wp_seq_k fun K1 hK1 => ?_
  refine Qae ?_
  refine Qab (.bool false) 4 rfl kj kj ?_
  refine Qaf ?_
  refine hK1 _ _ ?_
  refine wp_seq_k fun K2 hK2 => ?_
  refine Qae ?_
  refine Qab (.iface 102 (.int .i64 3)) 5 rfl kj kj ?_
  refine Qa8 (.int .i64 3) 93 #[.iface 102 (.int .i64 3)] 6 rfl kj kj ((numE 3 (by decide)) _) fun W1 e1 => ?_
  have x1 : Ext w W1 := Ext.tr (Rely.Ext.refl w) e1
  refine Qab (.int .i64 3) 7 rfl kj kj ?_
  refine Qab (.bool true) 8 rfl kj kj ?_
  refine Qab (.bool true) 4 rfl kj kj ?_
  refine Qaf ?_
  refine hK2 _ _ ?_
  refine wp_ret ?_
  repeat (first | with_reducible refine goR1 ?_ | with_reducible refine goR2 ?_)
  exact (show bodyPost _ _ _ .ret _ _ from ret1 (.bool true) rfl (Qa1 kj) ⟨rfl, x1⟩)
end Go.Proofs.Ytfelfmchachljaa.Wr
end
section
namespace Go.Proofs.Ytfelfmchachljaa.Wr
open Go Go.RowKit
open Rely Auto Own Sha
set_option linter.unusedVariables false
set_option linter.unusedSimpArgs false
theorem QaF (s : Option (List Int)) (a b : List Int) : rawS (rawS s a) b = rawS s (a ++ b) := by
  cases s with
  | none => rfl
  | some xs =>
    unfold rawS
    simp only [Option.bind_some]
    by_cases h1 : xs.length + a.length ≤ 65536
    · rw [if_pos h1]
      simp only [Option.bind_some, List.length_append]
      by_cases h2 : xs.length + a.length + b.length ≤ 65536
      · rw [if_pos h2, if_pos (by omega), List.append_assoc]
      · rw [if_neg h2, if_neg (by omega)]
    · rw [if_neg h1, if_neg (by rw [List.length_append]; omega)]
      rfl
theorem QfC (n : Int) : ∀ (k : Nat) (s : Option (List Int)), numR n (k + 1) s = rawS s (beV n (k + 1))
  | 0, s => rfl
  | k + 1, s => by
    show numR n (k + 1) (rawS s [byV n (k + 1)]) = _
    rw [QfC n k, QaF]
    rfl
theorem Qcw (n : Int) : ∀ k : Nat, numR n k none = none
  | 0 => rfl
  | k + 1 => Qcw n k
theorem QhQ (n : Int) (k : Nat) (m : Int) (hm : (2 : Int) ^ (8 * k) = m + 1) (h0 : 0 ≤ m) : okN n k = inB n m := by
  unfold okN inB
  rw [hm, Int.fdiv_eq_ediv_of_nonneg _ (by omega), Bool.eq_iff_iff]
  simp only [Bool.and_eq_true, decide_eq_true_eq, beq_iff_eq]
  constructor
  · rintro ⟨h1, h2⟩
    have h3 := Int.lt_ediv_add_one_mul_self n (show 0 < m + 1 by omega)
    rw [h2] at h3
    exact ⟨h1, by omega⟩
  · rintro ⟨h1, h2⟩
    exact ⟨h1, Int.ediv_eq_zero_of_lt h1 (by omega)⟩
theorem Qbm (s : Option (List Int)) (n : Int) (k : Nat) (m : Int) (hm : (2 : Int) ^ (8 * (k + 1)) = m + 1) (h0 : 0 ≤ m) : numS s n (k + 1) = bif inB n m then rawS s (beV n (k + 1)) else none := by
  unfold numS
  rw [QhQ n (k + 1) m hm h0]
  cases inB n m with
  | true => exact QfC n k s
  | false => exact Qcw n (k + 1)
theorem QbW (s : Option (List Int)) (n : Int) : QaE s n = bif inB n 31 then rawS s (beV n 1) else none := by
  unfold QaE
  rw [Qbm _ n 0 255 (by decide) (by decide)]
  by_cases h : n < 32
  · rw [decide_eq_true h]
    by_cases h0 : 0 ≤ n
    · rw [show inB n 255 = true by unfold inB; simp; omega, show inB n 31 = true by unfold inB; simp; omega]; rfl
    · rw [show inB n 255 = false by unfold inB; simp; omega, show inB n 31 = false by unfold inB; simp; omega]; rfl
  · rw [decide_eq_false h, show inB n 31 = false by unfold inB; simp; omega]
    cases inB n 255 <;> rfl
theorem QeG (s : Option (List Int)) (ys : List Int) : bytS s ys = if ys.length ≤ 65535 then rawS s (rowV ys) else none := by
  unfold bytS
  rw [Qbm _ _ 1 65535 (by decide) (by decide)]
  by_cases h : ys.length ≤ 65535
  · rw [if_pos h, show inB ((ys.length : Nat) : Int) 65535 = true by unfold inB; simp; omega]
    exact QaF _ _ _
  · rw [if_neg h, show inB ((ys.length : Nat) : Int) 65535 = false by unfold inB; simp; omega]
    rfl
theorem QeN (ys : List Int) : rawS (some []) ys = fitV ys := by
  unfold rawS fitV
  simp only [Option.bind_some, List.length_nil, Nat.zero_add, List.nil_append]
theorem QcL (grp : List Int) (ep fr no : Int) (sealed : List Int) : QdC (some []) grp ep fr no sealed = refP grp ep fr no sealed := by
  unfold QdC refP hgB
  rw [QeG, Qbm _ no 3 4294967295 (by decide) (by decide), QbW, Qbm _ ep 3 4294967295 (by decide) (by decide)]
  by_cases h4 : sealed.length ≤ 65535
  · rw [if_pos h4]
    cases h3 : inB no 4294967295 with
    | false => rw [if_neg (fun h => Bool.noConfusion h.2.1)]; rfl
    | true =>
      cases h2 : inB fr 31 with
      | false => rw [if_neg (fun h => by rw [Bool.and_false] at h; exact Bool.noConfusion h.1)]; rfl
      | true =>
        cases h1 : inB ep 4294967295 with
        | false => rw [if_neg (fun h => Bool.noConfusion h.1)]; rfl
        | true =>
          rw [if_pos ⟨rfl, rfl, h4⟩]
          show rawS (rawS (rawS (rawS (rawS (some []) grp) (beV ep 4)) (beV fr 1)) (beV no 4)) (rowV sealed) = _
          rw [QaF, QaF, QaF, QaF, QeN]
          unfold Qci
          simp only [List.append_assoc]
          rfl
  · rw [if_neg h4, if_neg (fun h => h4 h.2.2)]
theorem Qa4 (a b : List Int) (n : Nat) (h : a.length = n) : Qag (some (a ++ b)) n = a := by
  subst h
  show (if a.length ≤ (a ++ b).length then (a ++ b).take a.length else []) = a
  rw [if_pos (by rw [List.length_append]; omega), List.take_left]
theorem Qa9 (a b : List Int) (n : Nat) (h : a.length = n) : Qac (some (a ++ b)) n = some b := by
  subst h
  show (if a.length ≤ (a ++ b).length then some ((a ++ b).drop a.length) else none) = some b
  rw [if_pos (by rw [List.length_append]; omega), List.drop_left]
theorem QfS (ys : List Int) : ∀ a : Nat, ys.foldl (fun n b => n * 256 + b.toNat) a = a * 256 ^ ys.length + bigN ys := by
  induction ys with
  | nil => intro a; show a = a * 1 + 0; omega
  | cons y ys ih =>
    intro a
    show ys.foldl _ (a * 256 + y.toNat) = a * 256 ^ (ys.length + 1) + ys.foldl _ (0 * 256 + y.toNat)
    rw [ih, ih, Nat.pow_succ, Nat.add_mul, Nat.zero_mul, Nat.zero_add, Nat.mul_assoc, Nat.mul_comm 256]
    omega
theorem Qel (N : Nat) : ∀ k : Nat, bigN (beV ((N : Nat) : Int) k) = N % 256 ^ k
  | 0 => by show 0 = N % 1; omega
  | k + 1 => by
    show (beV ((N : Nat) : Int) k).foldl _ (0 * 256 + (byV ((N : Nat) : Int) k).toNat) = _
    rw [QfS, QaI, Qel N k, Nat.zero_mul, Nat.zero_add]
    have e : (byV ((N : Nat) : Int) k).toNat = N / 256 ^ k % 256 := by
      unfold byV
      have e2 : (2 : Int) ^ (8 * k) = ((256 ^ k : Nat) : Int) := by rw [Int.pow_mul]; simp
      rw [QhC, e2, Int.fdiv_eq_ediv_of_nonneg _ (Int.natCast_nonneg _), ← Int.natCast_ediv]
      generalize N / 256 ^ k = q
      omega
    rw [e, Nat.pow_succ, Nat.mod_mul, Nat.mul_comm, Nat.add_comm]
theorem Qcd (n : Int) (k : Nat) (h0 : 0 ≤ n) (h1 : n < ((256 ^ k : Nat) : Int)) : ((bigN (beV n k) : Nat) : Int) = n := by
  obtain ⟨N, rfl⟩ := Int.eq_ofNat_of_zero_le h0
  rw [Qel, Nat.mod_eq_of_lt (by omega)]
theorem Qd6 (ys r : List Int) (h : ys.length ≤ 65535) : rowL (some (rowV ys ++ r)) = ys ∧ rowR (some (rowV ys ++ r)) = some r := by
  have e1 : rowV ys ++ r = beV ((ys.length : Nat) : Int) 2 ++ (ys ++ r) := by unfold rowV; rw [List.append_assoc]
  have e2 : bigN (beV ((ys.length : Nat) : Int) 2) = ys.length := by rw [Qel, Nat.mod_eq_of_lt (by omega)]
  unfold rowL rowR
  rw [e1, Qa4 _ _ 2 (QaI _ 2), Qa9 _ _ 2 (QaI _ 2), e2, Qa4 _ _ _ rfl, Qa9 _ _ _ rfl]
  exact ⟨rfl, rfl⟩
theorem Qbq (xs : List Int) (h : xs.length ≤ 65536) : Qap xs = some xs := by
  unfold Qap
  rw [decide_eq_false (by omega)]
  rfl
theorem Qbh (ys : List Int) (h : ys.length = 32) : keyV ys = ys := by
  unfold keyV
  rw [h, show (List.replicate 32 (0 : Int)).drop 32 = [] from rfl, List.append_nil]
theorem Qef (grp : List Int) (ep fr no : Int) (sealed bs : List Int) (hgl : grp.length = 32) (h : refP grp ep fr no sealed = some bs) : QbB (Qap bs) = some [] ∧ pGrp (Qap bs) = grp ∧ pEp (Qap bs) = ep ∧ pFr (Qap bs) = fr ∧ pNo (Qap bs) = no ∧ pSe (Qap bs) = sealed ∧ bs.length ≤ 65536 ∧ 0 < bs.length := by
  unfold refP at h
  split at h
  · rename_i hc
    obtain ⟨h1, h2, h3⟩ := hc
    unfold hgB at h1
    simp only [Bool.and_eq_true] at h1
    unfold fitV at h
    split at h
    · rename_i hf
      obtain rfl := Option.some.inj h
      have b1 := Qbw h1.1
      have b2 := Qbw h1.2
      have b3 := Qbw h2
      have e : Qci grp ep fr ++ beV no 4 ++ rowV sealed = grp ++ (beV ep 4 ++ (beV fr 1 ++ (beV no 4 ++ (rowV sealed ++ [])))) := by unfold Qci; rw [List.append_nil]; simp only [List.append_assoc]; rfl
      rw [Qbq _ hf, e]
      have s1 : pS1 (some (grp ++ (beV ep 4 ++ (beV fr 1 ++ (beV no 4 ++ (rowV sealed ++ [])))))) = some (beV ep 4 ++ (beV fr 1 ++ (beV no 4 ++ (rowV sealed ++ [])))) := Qa9 _ _ 32 hgl
      have s2 : pS2 (some (grp ++ (beV ep 4 ++ (beV fr 1 ++ (beV no 4 ++ (rowV sealed ++ [])))))) = some (beV fr 1 ++ (beV no 4 ++ (rowV sealed ++ []))) := by unfold pS2; rw [s1]; exact Qa9 _ _ 4 (QaI _ 4)
      have q : ((bigN (beV fr 1) : Nat) : Int) = fr := Qcd fr 1 b2.1 (by omega)
      have s3 : pS3 (some (grp ++ (beV ep 4 ++ (beV fr 1 ++ (beV no 4 ++ (rowV sealed ++ [])))))) = some (beV no 4 ++ (rowV sealed ++ [])) := by
        unfold pS3 Qaj
        rw [s2, Qa4 _ _ 1 (QaI _ 1), q, Qa9 _ _ 1 (QaI _ 1), decide_eq_true (by omega)]
        rfl
      have s4 : pS4 (some (grp ++ (beV ep 4 ++ (beV fr 1 ++ (beV no 4 ++ (rowV sealed ++ [])))))) = some (rowV sealed ++ []) := by unfold pS4; rw [s3]; exact Qa9 _ _ 4 (QaI _ 4)
      refine ⟨?_, ?_, ?_, ?_, ?_, ?_, by rw [← e]; exact hf, by rw [List.length_append, hgl]; omega⟩
      · unfold QbB; rw [s4, (Qd6 _ _ h3).2]
      · unfold pGrp; rw [Qa4 _ _ 32 hgl, Qbh _ hgl]
      · unfold pEp; rw [s1, Qa4 _ _ 4 (QaI _ 4), Qcd ep 4 b1.1 (by omega)]
      · unfold pFr; rw [s2, Qa4 _ _ 1 (QaI _ 1), q]
      · unfold pNo; rw [s3, Qa4 _ _ 4 (QaI _ 4), Qcd no 4 b3.1 (by omega)]
      · unfold pSe; rw [s4, (Qd6 _ _ h3).1]
    · cases h
  · cases h
end Go.Proofs.Ytfelfmchachljaa.Wr
end
section
namespace Go.Proofs.Ytfelfmchachljaa.Wr
open Go Go.RowKit
open Rely Auto Own Sha
set_option linter.unusedVariables false
set_option linter.unusedSimpArgs false
def QaB (us : Bool) (nm : Int) (key sg pa ms : List Int) : Bool := !us && (nm == 0) && decide (key = List.replicate 32 0) && decide (sg = List.replicate 32 0) && decide (pa = List.replicate 32 0) && (ms.length == 0)
set_option maxHeartbeats 4000000 in
theorem Qh7 (nm : Int) (key sg pa ms : List Int) (a_m : Option Addr) (c_m : Nat) (w : World) (hkl : key.length = 32) (hgl : sg.length = 32) (hpl : pa.length = 32)  : Calls Try.prog 107 #[.agg (cat [#[.bool true], #[.int .i64 nm], ints .u8 (key), ints .u8 (sg), ints .u8 (pa), #[.slice a_m ms.length c_m]])] w (Ret w (.bool false)) := by
  refine enter 35 [(0, .agg (cat [#[.bool true], #[.int .i64 nm], ints .u8 (key), ints .u8 (sg), ints .u8 (pa), #[.slice a_m ms.length c_m]]))] Try.func107 rfl rfl kj rfl ?_
  refine wp_seq_k fun K1 hK1 => ?_
  refine Qae ?_
  refine Qar (cat [#[.bool true], #[.int .i64 nm], ints .u8 (key), ints .u8 (sg), ints .u8 (pa), #[.slice a_m ms.length c_m]]) 43 1 rfl kj kj fun g2 W1 l2 e1 r2_1 => ?_
  have x1 : Ext w W1 := Ext.tr (Rely.Ext.refl w) e1
  have b2 : w.heap.size ≤ g2 := Nat.le_trans (Rely.Ext.refl w).size l2
  refine Qab (.bool false) 2 rfl kj kj ?_
  refine Qaf ?_
  refine hK1 _ _ ?_
  refine wp_seq_k fun K3 hK3 => ?_
  refine Qae ?_
  refine Qab (.pointer (some ⟨g2, 0, none⟩)) 3 rfl kj kj ?_
  refine Qab (.bool true) 4 rfl kj (Qal 4 _ g2 0 43 _ (.bool true) _ r2_1 rfl kj (Qaq [] [#[.bool true]] [#[.int .i64 nm], ints .u8 (key), ints .u8 (sg), ints .u8 (pa), #[.slice a_m ms.length c_m]] 0 kj 0 _ rfl) kj) ?_
  refine Qab (.bool false) 5 rfl kj kj ?_
  refine Qab (.bool false) 6 rfl kj kj ?_
  refine Qas 7 rfl kj ?_
  refine Qas 8 rfl kj ?_
  refine Qas 9 rfl kj ?_
  refine Qab (.bool false) 10 rfl kj kj ?_
  refine Qab (.bool false) 11 rfl kj kj ?_
  refine Qas 12 rfl kj ?_
  refine Qas 13 rfl kj ?_
  refine Qas 14 rfl kj ?_
  refine Qas 15 rfl kj ?_
  refine Qab (.bool false) 16 rfl kj kj ?_
  refine Qab (.bool false) 17 rfl kj kj ?_
  refine Qas 18 rfl kj ?_
  refine Qas 19 rfl kj ?_
  refine Qas 20 rfl kj ?_
  refine Qas 21 rfl kj ?_
  refine Qab (.bool false) 22 rfl kj kj ?_
  refine Qab (.bool false) 23 rfl kj kj ?_
  refine Qas 24 rfl kj ?_
  refine Qas 25 rfl kj ?_
  refine Qas 26 rfl kj ?_
  refine Qas 27 rfl kj ?_
  refine Qab (.bool false) 28 rfl kj kj ?_
  refine Qab (.bool false) 29 rfl kj kj ?_
  refine Qas 30 rfl kj ?_
  refine Qas 31 rfl kj ?_
  refine Qas 32 rfl kj ?_
  refine Qas 33 rfl kj ?_
  refine Qab (.bool false) 34 rfl kj kj ?_
  refine Qab (.bool false) 2 rfl kj kj ?_
  refine Qaf ?_
  refine hK3 _ _ ?_
  refine wp_ret ?_
  repeat (first | with_reducible refine goR1 ?_ | with_reducible refine goR2 ?_)
  exact (show bodyPost _ _ _ .ret _ _ from ret1 (.bool false) rfl (Qa1 kj) ⟨rfl, x1⟩)
set_option maxHeartbeats 4000000 in
theorem Qh6 (nm : Int) (key sg pa ms : List Int) (a_m : Option Addr) (c_m : Nat) (w : World) (hkl : key.length = 32) (hgl : sg.length = 32) (hpl : pa.length = 32) (h1 : ¬ nm = 0) : Calls Try.prog 107 #[.agg (cat [#[.bool false], #[.int .i64 nm], ints .u8 (key), ints .u8 (sg), ints .u8 (pa), #[.slice a_m ms.length c_m]])] w (Ret w (.bool false)) := by
  refine enter 35 [(0, .agg (cat [#[.bool false], #[.int .i64 nm], ints .u8 (key), ints .u8 (sg), ints .u8 (pa), #[.slice a_m ms.length c_m]]))] Try.func107 rfl rfl kj rfl ?_
  refine wp_seq_k fun K1 hK1 => ?_
  refine Qae ?_
  refine Qar (cat [#[.bool false], #[.int .i64 nm], ints .u8 (key), ints .u8 (sg), ints .u8 (pa), #[.slice a_m ms.length c_m]]) 43 1 rfl kj kj fun g2 W1 l2 e1 r2_1 => ?_
  have x1 : Ext w W1 := Ext.tr (Rely.Ext.refl w) e1
  have b2 : w.heap.size ≤ g2 := Nat.le_trans (Rely.Ext.refl w).size l2
  refine Qab (.bool false) 2 rfl kj kj ?_
  refine Qaf ?_
  refine hK1 _ _ ?_
  refine wp_seq_k fun K3 hK3 => ?_
  refine Qae ?_
  refine Qab (.pointer (some ⟨g2, 0, none⟩)) 3 rfl kj kj ?_
  refine Qab (.bool false) 4 rfl kj (Qal 4 _ g2 0 43 _ (.bool false) _ r2_1 rfl kj (Qaq [] [#[.bool false]] [#[.int .i64 nm], ints .u8 (key), ints .u8 (sg), ints .u8 (pa), #[.slice a_m ms.length c_m]] 0 kj 0 _ rfl) kj) ?_
  refine Qab (.bool true) 5 rfl kj kj ?_
  refine Qab (.bool true) 6 rfl kj kj ?_
  refine Qab (.pointer (some ⟨g2, 1, none⟩)) 7 rfl kj kj ?_
  refine Qab (.int .i64 nm) 8 rfl kj (Qal 3 _ g2 1 43 _ (.int .i64 nm) _ r2_1 rfl kj (Qaq [#[.bool false]] [#[.int .i64 nm]] [ints .u8 (key), ints .u8 (sg), ints .u8 (pa), #[.slice a_m ms.length c_m]] 1 kj 0 _ rfl) kj) ?_
  refine Qab (.bool false) 9 rfl kj (Qa0 (u := .bool ((nm == 0))) kj (congrArg Value.bool (beq_eq_false_iff_ne.2 h1))) ?_
  refine Qab (.bool false) 10 rfl kj kj ?_
  refine Qab (.bool false) 11 rfl kj kj ?_
  refine Qas 12 rfl kj ?_
  refine Qas 13 rfl kj ?_
  refine Qas 14 rfl kj ?_
  refine Qas 15 rfl kj ?_
  refine Qab (.bool false) 16 rfl kj kj ?_
  refine Qab (.bool false) 17 rfl kj kj ?_
  refine Qas 18 rfl kj ?_
  refine Qas 19 rfl kj ?_
  refine Qas 20 rfl kj ?_
  refine Qas 21 rfl kj ?_
  refine Qab (.bool false) 22 rfl kj kj ?_
  refine Qab (.bool false) 23 rfl kj kj ?_
  refine Qas 24 rfl kj ?_
  refine Qas 25 rfl kj ?_
  refine Qas 26 rfl kj ?_
  refine Qas 27 rfl kj ?_
  refine Qab (.bool false) 28 rfl kj kj ?_
  refine Qab (.bool false) 29 rfl kj kj ?_
  refine Qas 30 rfl kj ?_
  refine Qas 31 rfl kj ?_
  refine Qas 32 rfl kj ?_
  refine Qas 33 rfl kj ?_
  refine Qab (.bool false) 34 rfl kj kj ?_
  refine Qab (.bool false) 2 rfl kj kj ?_
  refine Qaf ?_
  refine hK3 _ _ ?_
  refine wp_ret ?_
  repeat (first | with_reducible refine goR1 ?_ | with_reducible refine goR2 ?_)
  exact (show bodyPost _ _ _ .ret _ _ from ret1 (.bool false) rfl (Qa1 kj) ⟨rfl, x1⟩)
set_option maxHeartbeats 4000000 in
theorem Qh5 (nm : Int) (key sg pa ms : List Int) (a_m : Option Addr) (c_m : Nat) (w : World) (hkl : key.length = 32) (hgl : sg.length = 32) (hpl : pa.length = 32) (h1 : nm = 0) (h2 : ¬ key = List.replicate 32 0) : Calls Try.prog 107 #[.agg (cat [#[.bool false], #[.int .i64 nm], ints .u8 (key), ints .u8 (sg), ints .u8 (pa), #[.slice a_m ms.length c_m]])] w (Ret w (.bool false)) := by
  refine enter 35 [(0, .agg (cat [#[.bool false], #[.int .i64 nm], ints .u8 (key), ints .u8 (sg), ints .u8 (pa), #[.slice a_m ms.length c_m]]))] Try.func107 rfl rfl kj rfl ?_
  refine wp_seq_k fun K1 hK1 => ?_
  refine Qae ?_
  refine Qar (cat [#[.bool false], #[.int .i64 nm], ints .u8 (key), ints .u8 (sg), ints .u8 (pa), #[.slice a_m ms.length c_m]]) 43 1 rfl kj kj fun g2 W1 l2 e1 r2_1 => ?_
  have x1 : Ext w W1 := Ext.tr (Rely.Ext.refl w) e1
  have b2 : w.heap.size ≤ g2 := Nat.le_trans (Rely.Ext.refl w).size l2
  refine Qab (.bool false) 2 rfl kj kj ?_
  refine Qaf ?_
  refine hK1 _ _ ?_
  refine wp_seq_k fun K3 hK3 => ?_
  refine Qae ?_
  refine Qab (.pointer (some ⟨g2, 0, none⟩)) 3 rfl kj kj ?_
  refine Qab (.bool false) 4 rfl kj (Qal 4 _ g2 0 43 _ (.bool false) _ r2_1 rfl kj (Qaq [] [#[.bool false]] [#[.int .i64 nm], ints .u8 (key), ints .u8 (sg), ints .u8 (pa), #[.slice a_m ms.length c_m]] 0 kj 0 _ rfl) kj) ?_
  refine Qab (.bool true) 5 rfl kj kj ?_
  refine Qab (.bool true) 6 rfl kj kj ?_
  refine Qab (.pointer (some ⟨g2, 1, none⟩)) 7 rfl kj kj ?_
  refine Qab (.int .i64 nm) 8 rfl kj (Qal 3 _ g2 1 43 _ (.int .i64 nm) _ r2_1 rfl kj (Qaq [#[.bool false]] [#[.int .i64 nm]] [ints .u8 (key), ints .u8 (sg), ints .u8 (pa), #[.slice a_m ms.length c_m]] 1 kj 0 _ rfl) kj) ?_
  refine Qab (.bool true) 9 rfl kj (Qa0 (u := .bool ((nm == 0))) kj (congrArg Value.bool (beq_iff_eq.2 h1))) ?_
  refine Qab (.bool true) 10 rfl kj kj ?_
  refine Qab (.bool true) 11 rfl kj kj ?_
  refine Qab (.pointer (some ⟨g2, 2, none⟩)) 12 rfl kj kj ?_
  refine Qab (.agg (ints .u8 (key))) 13 rfl kj (Qay 40 _ g2 2 43 _ _ _ r2_1 rfl kj (Qaq [#[.bool false], #[.int .i64 nm]] [ints .u8 (key)] [ints .u8 (sg), ints .u8 (pa), #[.slice a_m ms.length c_m]] 2 kj) kj (isz (n := 32) kj ((Qad _ _).trans hkl))) ?_
  refine Qab (.agg (ints .u8 (List.replicate 32 0))) 14 rfl kj kj ?_
  refine Qab (.bool false) 15 rfl kj (QaK 40 _ _ _ _ _ (.bool false) rfl kj kj kj (QaV 40 (e := 5) (k := .u8) (key) (List.replicate 32 0) (decide_eq_false h2) hkl (List.length_replicate (n := 32)) kj kj kj _)) ?_
  refine Qab (.bool false) 16 rfl kj kj ?_
  refine Qab (.bool false) 17 rfl kj kj ?_
  refine Qas 18 rfl kj ?_
  refine Qas 19 rfl kj ?_
  refine Qas 20 rfl kj ?_
  refine Qas 21 rfl kj ?_
  refine Qab (.bool false) 22 rfl kj kj ?_
  refine Qab (.bool false) 23 rfl kj kj ?_
  refine Qas 24 rfl kj ?_
  refine Qas 25 rfl kj ?_
  refine Qas 26 rfl kj ?_
  refine Qas 27 rfl kj ?_
  refine Qab (.bool false) 28 rfl kj kj ?_
  refine Qab (.bool false) 29 rfl kj kj ?_
  refine Qas 30 rfl kj ?_
  refine Qas 31 rfl kj ?_
  refine Qas 32 rfl kj ?_
  refine Qas 33 rfl kj ?_
  refine Qab (.bool false) 34 rfl kj kj ?_
  refine Qab (.bool false) 2 rfl kj kj ?_
  refine Qaf ?_
  refine hK3 _ _ ?_
  refine wp_ret ?_
  repeat (first | with_reducible refine goR1 ?_ | with_reducible refine goR2 ?_)
  exact (show bodyPost _ _ _ .ret _ _ from ret1 (.bool false) rfl (Qa1 kj) ⟨rfl, x1⟩)
set_option maxHeartbeats 4000000 in
theorem Qh4 (nm : Int) (key sg pa ms : List Int) (a_m : Option Addr) (c_m : Nat) (w : World) (hkl : key.length = 32) (hgl : sg.length = 32) (hpl : pa.length = 32) (h1 : nm = 0) (h2 : key = List.replicate 32 0) (h3 : ¬ sg = List.replicate 32 0) : Calls Try.prog 107 #[.agg (cat [#[.bool false], #[.int .i64 nm], ints .u8 (key), ints .u8 (sg), ints .u8 (pa), #[.slice a_m ms.length c_m]])] w (Ret w (.bool false)) := by
  refine enter 35 [(0, .agg (cat [#[.bool false], #[.int .i64 nm], ints .u8 (key), ints .u8 (sg), ints .u8 (pa), #[.slice a_m ms.length c_m]]))] Try.func107 rfl rfl kj rfl ?_
  refine wp_seq_k fun K1 hK1 => ?_
  refine Qae ?_
  refine Qar (cat [#[.bool false], #[.int .i64 nm], ints .u8 (key), ints .u8 (sg), ints .u8 (pa), #[.slice a_m ms.length c_m]]) 43 1 rfl kj kj fun g2 W1 l2 e1 r2_1 => ?_
  have x1 : Ext w W1 := Ext.tr (Rely.Ext.refl w) e1
  have b2 : w.heap.size ≤ g2 := Nat.le_trans (Rely.Ext.refl w).size l2
  refine Qab (.bool false) 2 rfl kj kj ?_
  refine Qaf ?_
  refine hK1 _ _ ?_
  refine wp_seq_k fun K3 hK3 => ?_
  refine Qae ?_
  refine Qab (.pointer (some ⟨g2, 0, none⟩)) 3 rfl kj kj ?_
  refine Qab (.bool false) 4 rfl kj (Qal 4 _ g2 0 43 _ (.bool false) _ r2_1 rfl kj (Qaq [] [#[.bool false]] [#[.int .i64 nm], ints .u8 (key), ints .u8 (sg), ints .u8 (pa), #[.slice a_m ms.length c_m]] 0 kj 0 _ rfl) kj) ?_
  refine Qab (.bool true) 5 rfl kj kj ?_
  refine Qab (.bool true) 6 rfl kj kj ?_
  refine Qab (.pointer (some ⟨g2, 1, none⟩)) 7 rfl kj kj ?_
  refine Qab (.int .i64 nm) 8 rfl kj (Qal 3 _ g2 1 43 _ (.int .i64 nm) _ r2_1 rfl kj (Qaq [#[.bool false]] [#[.int .i64 nm]] [ints .u8 (key), ints .u8 (sg), ints .u8 (pa), #[.slice a_m ms.length c_m]] 1 kj 0 _ rfl) kj) ?_
  refine Qab (.bool true) 9 rfl kj (Qa0 (u := .bool ((nm == 0))) kj (congrArg Value.bool (beq_iff_eq.2 h1))) ?_
  refine Qab (.bool true) 10 rfl kj kj ?_
  refine Qab (.bool true) 11 rfl kj kj ?_
  refine Qab (.pointer (some ⟨g2, 2, none⟩)) 12 rfl kj kj ?_
  refine Qab (.agg (ints .u8 (key))) 13 rfl kj (Qay 40 _ g2 2 43 _ _ _ r2_1 rfl kj (Qaq [#[.bool false], #[.int .i64 nm]] [ints .u8 (key)] [ints .u8 (sg), ints .u8 (pa), #[.slice a_m ms.length c_m]] 2 kj) kj (isz (n := 32) kj ((Qad _ _).trans hkl))) ?_
  refine Qab (.agg (ints .u8 (List.replicate 32 0))) 14 rfl kj kj ?_
  refine Qab (.bool true) 15 rfl kj (QaK 40 _ _ _ _ _ (.bool true) rfl kj kj kj (QaV 40 (e := 5) (k := .u8) (key) (List.replicate 32 0) (decide_eq_true h2) hkl (List.length_replicate (n := 32)) kj kj kj _)) ?_
  refine Qab (.bool true) 16 rfl kj kj ?_
  refine Qab (.bool true) 17 rfl kj kj ?_
  refine Qab (.pointer (some ⟨g2, 34, none⟩)) 18 rfl kj kj ?_
  refine Qab (.agg (ints .u8 (sg))) 19 rfl kj (Qay 40 _ g2 34 43 _ _ _ r2_1 rfl kj (Qaq [#[.bool false], #[.int .i64 nm], ints .u8 (key)] [ints .u8 (sg)] [ints .u8 (pa), #[.slice a_m ms.length c_m]] 34 (by rw [Qaa, Qaa, Qaa]; simp only [Array.size_append, cat, ((Qad _ _).trans hkl)]; rfl)) kj (isz (n := 32) kj ((Qad _ _).trans hgl))) ?_
  refine Qab (.agg (ints .u8 (List.replicate 32 0))) 20 rfl kj kj ?_
  refine Qab (.bool false) 21 rfl kj (QaK 40 _ _ _ _ _ (.bool false) rfl kj kj kj (QaV 40 (e := 5) (k := .u8) (sg) (List.replicate 32 0) (decide_eq_false h3) hgl (List.length_replicate (n := 32)) kj kj kj _)) ?_
  refine Qab (.bool false) 22 rfl kj kj ?_
  refine Qab (.bool false) 23 rfl kj kj ?_
  refine Qas 24 rfl kj ?_
  refine Qas 25 rfl kj ?_
  refine Qas 26 rfl kj ?_
  refine Qas 27 rfl kj ?_
  refine Qab (.bool false) 28 rfl kj kj ?_
  refine Qab (.bool false) 29 rfl kj kj ?_
  refine Qas 30 rfl kj ?_
  refine Qas 31 rfl kj ?_
  refine Qas 32 rfl kj ?_
  refine Qas 33 rfl kj ?_
  refine Qab (.bool false) 34 rfl kj kj ?_
  refine Qab (.bool false) 2 rfl kj kj ?_
  refine Qaf ?_
  refine hK3 _ _ ?_
  refine wp_ret ?_
  repeat (first | with_reducible refine goR1 ?_ | with_reducible refine goR2 ?_)
  exact (show bodyPost _ _ _ .ret _ _ from ret1 (.bool false) rfl (Qa1 kj) ⟨rfl, x1⟩)
set_option maxHeartbeats 4000000 in
theorem Qh3 (nm : Int) (key sg pa ms : List Int) (a_m : Option Addr) (c_m : Nat) (w : World) (hkl : key.length = 32) (hgl : sg.length = 32) (hpl : pa.length = 32) (h1 : nm = 0) (h2 : key = List.replicate 32 0) (h3 : sg = List.replicate 32 0) (h4 : ¬ pa = List.replicate 32 0) : Calls Try.prog 107 #[.agg (cat [#[.bool false], #[.int .i64 nm], ints .u8 (key), ints .u8 (sg), ints .u8 (pa), #[.slice a_m ms.length c_m]])] w (Ret w (.bool false)) := by
  refine enter 35 [(0, .agg (cat [#[.bool false], #[.int .i64 nm], ints .u8 (key), ints .u8 (sg), ints .u8 (pa), #[.slice a_m ms.length c_m]]))] Try.func107 rfl rfl kj rfl ?_
  refine wp_seq_k fun K1 hK1 => ?_
  refine Qae ?_
  refine Qar (cat [#[.bool false], #[.int .i64 nm], ints .u8 (key), ints .u8 (sg), ints .u8 (pa), #[.slice a_m ms.length c_m]]) 43 1 rfl kj kj fun g2 W1 l2 e1 r2_1 => ?_
  have x1 : Ext w W1 := Ext.tr (Rely.Ext.refl w) e1
  have b2 : w.heap.size ≤ g2 := Nat.le_trans (Rely.Ext.refl w).size l2
  refine Qab (.bool false) 2 rfl kj kj ?_
  refine Qaf ?_
  refine hK1 _ _ ?_
  refine wp_seq_k fun K3 hK3 => ?_
  refine Qae ?_
  refine Qab (.pointer (some ⟨g2, 0, none⟩)) 3 rfl kj kj ?_
  refine Qab (.bool false) 4 rfl kj (Qal 4 _ g2 0 43 _ (.bool false) _ r2_1 rfl kj (Qaq [] [#[.bool false]] [#[.int .i64 nm], ints .u8 (key), ints .u8 (sg), ints .u8 (pa), #[.slice a_m ms.length c_m]] 0 kj 0 _ rfl) kj) ?_
  refine Qab (.bool true) 5 rfl kj kj ?_
  refine Qab (.bool true) 6 rfl kj kj ?_
  refine Qab (.pointer (some ⟨g2, 1, none⟩)) 7 rfl kj kj ?_
  refine Qab (.int .i64 nm) 8 rfl kj (Qal 3 _ g2 1 43 _ (.int .i64 nm) _ r2_1 rfl kj (Qaq [#[.bool false]] [#[.int .i64 nm]] [ints .u8 (key), ints .u8 (sg), ints .u8 (pa), #[.slice a_m ms.length c_m]] 1 kj 0 _ rfl) kj) ?_
  refine Qab (.bool true) 9 rfl kj (Qa0 (u := .bool ((nm == 0))) kj (congrArg Value.bool (beq_iff_eq.2 h1))) ?_
  refine Qab (.bool true) 10 rfl kj kj ?_
  refine Qab (.bool true) 11 rfl kj kj ?_
  refine Qab (.pointer (some ⟨g2, 2, none⟩)) 12 rfl kj kj ?_
  refine Qab (.agg (ints .u8 (key))) 13 rfl kj (Qay 40 _ g2 2 43 _ _ _ r2_1 rfl kj (Qaq [#[.bool false], #[.int .i64 nm]] [ints .u8 (key)] [ints .u8 (sg), ints .u8 (pa), #[.slice a_m ms.length c_m]] 2 kj) kj (isz (n := 32) kj ((Qad _ _).trans hkl))) ?_
  refine Qab (.agg (ints .u8 (List.replicate 32 0))) 14 rfl kj kj ?_
  refine Qab (.bool true) 15 rfl kj (QaK 40 _ _ _ _ _ (.bool true) rfl kj kj kj (QaV 40 (e := 5) (k := .u8) (key) (List.replicate 32 0) (decide_eq_true h2) hkl (List.length_replicate (n := 32)) kj kj kj _)) ?_
  refine Qab (.bool true) 16 rfl kj kj ?_
  refine Qab (.bool true) 17 rfl kj kj ?_
  refine Qab (.pointer (some ⟨g2, 34, none⟩)) 18 rfl kj kj ?_
  refine Qab (.agg (ints .u8 (sg))) 19 rfl kj (Qay 40 _ g2 34 43 _ _ _ r2_1 rfl kj (Qaq [#[.bool false], #[.int .i64 nm], ints .u8 (key)] [ints .u8 (sg)] [ints .u8 (pa), #[.slice a_m ms.length c_m]] 34 (by rw [Qaa, Qaa, Qaa]; simp only [Array.size_append, cat, ((Qad _ _).trans hkl)]; rfl)) kj (isz (n := 32) kj ((Qad _ _).trans hgl))) ?_
  refine Qab (.agg (ints .u8 (List.replicate 32 0))) 20 rfl kj kj ?_
  refine Qab (.bool true) 21 rfl kj (QaK 40 _ _ _ _ _ (.bool true) rfl kj kj kj (QaV 40 (e := 5) (k := .u8) (sg) (List.replicate 32 0) (decide_eq_true h3) hgl (List.length_replicate (n := 32)) kj kj kj _)) ?_
  refine Qab (.bool true) 22 rfl kj kj ?_
  refine Qab (.bool true) 23 rfl kj kj ?_
  refine Qab (.pointer (some ⟨g2, 66, none⟩)) 24 rfl kj kj ?_
  refine Qab (.agg (ints .u8 (pa))) 25 rfl kj (Qay 39 _ g2 66 43 _ _ _ r2_1 rfl kj (Qaq [#[.bool false], #[.int .i64 nm], ints .u8 (key), ints .u8 (sg)] [ints .u8 (pa)] [#[.slice a_m ms.length c_m]] 66 (by rw [Qaa, Qaa, Qaa, Qaa]; simp only [Array.size_append, cat, ((Qad _ _).trans hgl), ((Qad _ _).trans hkl)]; rfl)) kj (isz (n := 32) kj ((Qad _ _).trans hpl))) ?_
  refine Qab (.agg (ints .u8 (List.replicate 32 0))) 26 rfl kj kj ?_
  refine Qab (.bool false) 27 rfl kj (QaK 39 _ _ _ _ _ (.bool false) rfl kj kj kj (QaV 39 (e := 5) (k := .u8) (pa) (List.replicate 32 0) (decide_eq_false h4) hpl (List.length_replicate (n := 32)) kj kj kj _)) ?_
  refine Qab (.bool false) 28 rfl kj kj ?_
  refine Qab (.bool false) 29 rfl kj kj ?_
  refine Qas 30 rfl kj ?_
  refine Qas 31 rfl kj ?_
  refine Qas 32 rfl kj ?_
  refine Qas 33 rfl kj ?_
  refine Qab (.bool false) 34 rfl kj kj ?_
  refine Qab (.bool false) 2 rfl kj kj ?_
  refine Qaf ?_
  refine hK3 _ _ ?_
  refine wp_ret ?_
  repeat (first | with_reducible refine goR1 ?_ | with_reducible refine goR2 ?_)
  exact (show bodyPost _ _ _ .ret _ _ from ret1 (.bool false) rfl (Qa1 kj) ⟨rfl, x1⟩)
set_option maxHeartbeats 4000000 in
theorem Qh2 (nm : Int) (key sg pa ms : List Int) (a_m : Option Addr) (c_m : Nat) (w : World) (hkl : key.length = 32) (hgl : sg.length = 32) (hpl : pa.length = 32) (h1 : nm = 0) (h2 : key = List.replicate 32 0) (h3 : sg = List.replicate 32 0) (h4 : pa = List.replicate 32 0) (h5 : ¬ ms.length = 0) : Calls Try.prog 107 #[.agg (cat [#[.bool false], #[.int .i64 nm], ints .u8 (key), ints .u8 (sg), ints .u8 (pa), #[.slice a_m ms.length c_m]])] w (Ret w (.bool false)) := by
  refine enter 35 [(0, .agg (cat [#[.bool false], #[.int .i64 nm], ints .u8 (key), ints .u8 (sg), ints .u8 (pa), #[.slice a_m ms.length c_m]]))] Try.func107 rfl rfl kj rfl ?_
  refine wp_seq_k fun K1 hK1 => ?_
  refine Qae ?_
  refine Qar (cat [#[.bool false], #[.int .i64 nm], ints .u8 (key), ints .u8 (sg), ints .u8 (pa), #[.slice a_m ms.length c_m]]) 43 1 rfl kj kj fun g2 W1 l2 e1 r2_1 => ?_
  have x1 : Ext w W1 := Ext.tr (Rely.Ext.refl w) e1
  have b2 : w.heap.size ≤ g2 := Nat.le_trans (Rely.Ext.refl w).size l2
  refine Qab (.bool false) 2 rfl kj kj ?_
  refine Qaf ?_
  refine hK1 _ _ ?_
  refine wp_seq_k fun K3 hK3 => ?_
  refine Qae ?_
  refine Qab (.pointer (some ⟨g2, 0, none⟩)) 3 rfl kj kj ?_
  refine Qab (.bool false) 4 rfl kj (Qal 4 _ g2 0 43 _ (.bool false) _ r2_1 rfl kj (Qaq [] [#[.bool false]] [#[.int .i64 nm], ints .u8 (key), ints .u8 (sg), ints .u8 (pa), #[.slice a_m ms.length c_m]] 0 kj 0 _ rfl) kj) ?_
  refine Qab (.bool true) 5 rfl kj kj ?_
  refine Qab (.bool true) 6 rfl kj kj ?_
  refine Qab (.pointer (some ⟨g2, 1, none⟩)) 7 rfl kj kj ?_
  refine Qab (.int .i64 nm) 8 rfl kj (Qal 3 _ g2 1 43 _ (.int .i64 nm) _ r2_1 rfl kj (Qaq [#[.bool false]] [#[.int .i64 nm]] [ints .u8 (key), ints .u8 (sg), ints .u8 (pa), #[.slice a_m ms.length c_m]] 1 kj 0 _ rfl) kj) ?_
  refine Qab (.bool true) 9 rfl kj (Qa0 (u := .bool ((nm == 0))) kj (congrArg Value.bool (beq_iff_eq.2 h1))) ?_
  refine Qab (.bool true) 10 rfl kj kj ?_
  refine Qab (.bool true) 11 rfl kj kj ?_
  refine Qab (.pointer (some ⟨g2, 2, none⟩)) 12 rfl kj kj ?_
  refine Qab (.agg (ints .u8 (key))) 13 rfl kj (Qay 40 _ g2 2 43 _ _ _ r2_1 rfl kj (Qaq [#[.bool false], #[.int .i64 nm]] [ints .u8 (key)] [ints .u8 (sg), ints .u8 (pa), #[.slice a_m ms.length c_m]] 2 kj) kj (isz (n := 32) kj ((Qad _ _).trans hkl))) ?_
  refine Qab (.agg (ints .u8 (List.replicate 32 0))) 14 rfl kj kj ?_
  refine Qab (.bool true) 15 rfl kj (QaK 40 _ _ _ _ _ (.bool true) rfl kj kj kj (QaV 40 (e := 5) (k := .u8) (key) (List.replicate 32 0) (decide_eq_true h2) hkl (List.length_replicate (n := 32)) kj kj kj _)) ?_
  refine Qab (.bool true) 16 rfl kj kj ?_
  refine Qab (.bool true) 17 rfl kj kj ?_
  refine Qab (.pointer (some ⟨g2, 34, none⟩)) 18 rfl kj kj ?_
  refine Qab (.agg (ints .u8 (sg))) 19 rfl kj (Qay 40 _ g2 34 43 _ _ _ r2_1 rfl kj (Qaq [#[.bool false], #[.int .i64 nm], ints .u8 (key)] [ints .u8 (sg)] [ints .u8 (pa), #[.slice a_m ms.length c_m]] 34 (by rw [Qaa, Qaa, Qaa]; simp only [Array.size_append, cat, ((Qad _ _).trans hkl)]; rfl)) kj (isz (n := 32) kj ((Qad _ _).trans hgl))) ?_
  refine Qab (.agg (ints .u8 (List.replicate 32 0))) 20 rfl kj kj ?_
  refine Qab (.bool true) 21 rfl kj (QaK 40 _ _ _ _ _ (.bool true) rfl kj kj kj (QaV 40 (e := 5) (k := .u8) (sg) (List.replicate 32 0) (decide_eq_true h3) hgl (List.length_replicate (n := 32)) kj kj kj _)) ?_
  refine Qab (.bool true) 22 rfl kj kj ?_
  refine Qab (.bool true) 23 rfl kj kj ?_
  refine Qab (.pointer (some ⟨g2, 66, none⟩)) 24 rfl kj kj ?_
  refine Qab (.agg (ints .u8 (pa))) 25 rfl kj (Qay 39 _ g2 66 43 _ _ _ r2_1 rfl kj (Qaq [#[.bool false], #[.int .i64 nm], ints .u8 (key), ints .u8 (sg)] [ints .u8 (pa)] [#[.slice a_m ms.length c_m]] 66 (by rw [Qaa, Qaa, Qaa, Qaa]; simp only [Array.size_append, cat, ((Qad _ _).trans hgl), ((Qad _ _).trans hkl)]; rfl)) kj (isz (n := 32) kj ((Qad _ _).trans hpl))) ?_
  refine Qab (.agg (ints .u8 (List.replicate 32 0))) 26 rfl kj kj ?_
  refine Qab (.bool true) 27 rfl kj (QaK 39 _ _ _ _ _ (.bool true) rfl kj kj kj (QaV 39 (e := 5) (k := .u8) (pa) (List.replicate 32 0) (decide_eq_true h4) hpl (List.length_replicate (n := 32)) kj kj kj _)) ?_
  refine Qab (.bool true) 28 rfl kj kj ?_
  refine Qab (.bool true) 29 rfl kj kj ?_
  refine Qab (.pointer (some ⟨g2, 98, none⟩)) 30 rfl kj kj ?_
  refine Qab (.slice a_m ms.length c_m) 31 rfl kj (Qal 41 _ g2 98 43 _ (.slice a_m ms.length c_m) _ r2_1 rfl kj (Qaq [#[.bool false], #[.int .i64 nm], ints .u8 (key), ints .u8 (sg), ints .u8 (pa)] [#[.slice a_m ms.length c_m]] [] 98 (by rw [Qaa, Qaa, Qaa, Qaa, Qaa]; simp only [Array.size_append, cat, ((Qad _ _).trans hgl), ((Qad _ _).trans hkl), ((Qad _ _).trans hpl)]; rfl) 0 _ rfl) kj) ?_
  refine Qab (.int .i64 ((ms.length : Nat) : Int)) 32 rfl kj kj ?_
  refine Qab (.bool false) 33 rfl kj (Qa0 (u := .bool ((((ms.length : Nat) : Int) == 0))) kj (congrArg Value.bool (beq_eq_false_iff_ne.2 (by omega)))) ?_
  refine Qab (.bool false) 34 rfl kj kj ?_
  refine Qab (.bool false) 2 rfl kj kj ?_
  refine Qaf ?_
  refine hK3 _ _ ?_
  refine wp_ret ?_
  repeat (first | with_reducible refine goR1 ?_ | with_reducible refine goR2 ?_)
  exact (show bodyPost _ _ _ .ret _ _ from ret1 (.bool false) rfl (Qa1 kj) ⟨rfl, x1⟩)
set_option maxHeartbeats 4000000 in
theorem Qh1 (nm : Int) (key sg pa ms : List Int) (a_m : Option Addr) (c_m : Nat) (w : World) (hkl : key.length = 32) (hgl : sg.length = 32) (hpl : pa.length = 32) (h1 : nm = 0) (h2 : key = List.replicate 32 0) (h3 : sg = List.replicate 32 0) (h4 : pa = List.replicate 32 0) (h5 : ms.length = 0) : Calls Try.prog 107 #[.agg (cat [#[.bool false], #[.int .i64 nm], ints .u8 (key), ints .u8 (sg), ints .u8 (pa), #[.slice a_m ms.length c_m]])] w (Ret w (.bool true)) := by
  refine enter 35 [(0, .agg (cat [#[.bool false], #[.int .i64 nm], ints .u8 (key), ints .u8 (sg), ints .u8 (pa), #[.slice a_m ms.length c_m]]))] Try.func107 rfl rfl kj rfl ?_
  refine wp_seq_k fun K1 hK1 => ?_
  refine Qae ?_
  refine Qar (cat [#[.bool false], #[.int .i64 nm], ints .u8 (key), ints .u8 (sg), ints .u8 (pa), #[.slice a_m ms.length c_m]]) 43 1 rfl kj kj fun g2 W1 l2 e1 r2_1 => ?_
  have x1 : Ext w W1 := Ext.tr (Rely.Ext.refl w) e1
  have b2 : w.heap.size ≤ g2 := Nat.le_trans (Rely.Ext.refl w).size l2
  refine Qab (.bool false) 2 rfl kj kj ?_
  refine Qaf ?_
  refine hK1 _ _ ?_
  refine wp_seq_k fun K3 hK3 => ?_
  refine Qae ?_
  refine Qab (.pointer (some ⟨g2, 0, none⟩)) 3 rfl kj kj ?_
  refine Qab (.bool false) 4 rfl kj (Qal 4 _ g2 0 43 _ (.bool false) _ r2_1 rfl kj (Qaq [] [#[.bool false]] [#[.int .i64 nm], ints .u8 (key), ints .u8 (sg), ints .u8 (pa), #[.slice a_m ms.length c_m]] 0 kj 0 _ rfl) kj) ?_
  refine Qab (.bool true) 5 rfl kj kj ?_
  refine Qab (.bool true) 6 rfl kj kj ?_
  refine Qab (.pointer (some ⟨g2, 1, none⟩)) 7 rfl kj kj ?_
  refine Qab (.int .i64 nm) 8 rfl kj (Qal 3 _ g2 1 43 _ (.int .i64 nm) _ r2_1 rfl kj (Qaq [#[.bool false]] [#[.int .i64 nm]] [ints .u8 (key), ints .u8 (sg), ints .u8 (pa), #[.slice a_m ms.length c_m]] 1 kj 0 _ rfl) kj) ?_
  refine Qab (.bool true) 9 rfl kj (Qa0 (u := .bool ((nm == 0))) kj (congrArg Value.bool (beq_iff_eq.2 h1))) ?_
  refine Qab (.bool true) 10 rfl kj kj ?_
  refine Qab (.bool true) 11 rfl kj kj ?_
  refine Qab (.pointer (some ⟨g2, 2, none⟩)) 12 rfl kj kj ?_
  refine Qab (.agg (ints .u8 (key))) 13 rfl kj (Qay 40 _ g2 2 43 _ _ _ r2_1 rfl kj (Qaq [#[.bool false], #[.int .i64 nm]] [ints .u8 (key)] [ints .u8 (sg), ints .u8 (pa), #[.slice a_m ms.length c_m]] 2 kj) kj (isz (n := 32) kj ((Qad _ _).trans hkl))) ?_
  refine Qab (.agg (ints .u8 (List.replicate 32 0))) 14 rfl kj kj ?_
  refine Qab (.bool true) 15 rfl kj (QaK 40 _ _ _ _ _ (.bool true) rfl kj kj kj (QaV 40 (e := 5) (k := .u8) (key) (List.replicate 32 0) (decide_eq_true h2) hkl (List.length_replicate (n := 32)) kj kj kj _)) ?_
  refine Qab (.bool true) 16 rfl kj kj ?_
  refine Qab (.bool true) 17 rfl kj kj ?_
  refine Qab (.pointer (some ⟨g2, 34, none⟩)) 18 rfl kj kj ?_
  refine Qab (.agg (ints .u8 (sg))) 19 rfl kj (Qay 40 _ g2 34 43 _ _ _ r2_1 rfl kj (Qaq [#[.bool false], #[.int .i64 nm], ints .u8 (key)] [ints .u8 (sg)] [ints .u8 (pa), #[.slice a_m ms.length c_m]] 34 (by rw [Qaa, Qaa, Qaa]; simp only [Array.size_append, cat, ((Qad _ _).trans hkl)]; rfl)) kj (isz (n := 32) kj ((Qad _ _).trans hgl))) ?_
  refine Qab (.agg (ints .u8 (List.replicate 32 0))) 20 rfl kj kj ?_
  refine Qab (.bool true) 21 rfl kj (QaK 40 _ _ _ _ _ (.bool true) rfl kj kj kj (QaV 40 (e := 5) (k := .u8) (sg) (List.replicate 32 0) (decide_eq_true h3) hgl (List.length_replicate (n := 32)) kj kj kj _)) ?_
  refine Qab (.bool true) 22 rfl kj kj ?_
  refine Qab (.bool true) 23 rfl kj kj ?_
  refine Qab (.pointer (some ⟨g2, 66, none⟩)) 24 rfl kj kj ?_
  refine Qab (.agg (ints .u8 (pa))) 25 rfl kj (Qay 39 _ g2 66 43 _ _ _ r2_1 rfl kj (Qaq [#[.bool false], #[.int .i64 nm], ints .u8 (key), ints .u8 (sg)] [ints .u8 (pa)] [#[.slice a_m ms.length c_m]] 66 (by rw [Qaa, Qaa, Qaa, Qaa]; simp only [Array.size_append, cat, ((Qad _ _).trans hgl), ((Qad _ _).trans hkl)]; rfl)) kj (isz (n := 32) kj ((Qad _ _).trans hpl))) ?_
  refine Qab (.agg (ints .u8 (List.replicate 32 0))) 26 rfl kj kj ?_
  refine Qab (.bool true) 27 rfl kj (QaK 39 _ _ _ _ _ (.bool true) rfl kj kj kj (QaV 39 (e := 5) (k := .u8) (pa) (List.replicate 32 0) (decide_eq_true h4) hpl (List.length_replicate (n := 32)) kj kj kj _)) ?_
  refine Qab (.bool true) 28 rfl kj kj ?_
  refine Qab (.bool true) 29 rfl kj kj ?_
  refine Qab (.pointer (some ⟨g2, 98, none⟩)) 30 rfl kj kj ?_
  refine Qab (.slice a_m ms.length c_m) 31 rfl kj (Qal 41 _ g2 98 43 _ (.slice a_m ms.length c_m) _ r2_1 rfl kj (Qaq [#[.bool false], #[.int .i64 nm], ints .u8 (key), ints .u8 (sg), ints .u8 (pa)] [#[.slice a_m ms.length c_m]] [] 98 (by rw [Qaa, Qaa, Qaa, Qaa, Qaa]; simp only [Array.size_append, cat, ((Qad _ _).trans hgl), ((Qad _ _).trans hkl), ((Qad _ _).trans hpl)]; rfl) 0 _ rfl) kj) ?_
  refine Qab (.int .i64 ((ms.length : Nat) : Int)) 32 rfl kj kj ?_
  refine Qab (.bool true) 33 rfl kj (Qa0 (u := .bool ((((ms.length : Nat) : Int) == 0))) kj (congrArg Value.bool (by rw [h5]; rfl))) ?_
  refine Qab (.bool true) 34 rfl kj kj ?_
  refine Qab (.bool true) 2 rfl kj kj ?_
  refine Qaf ?_
  refine hK3 _ _ ?_
  refine wp_ret ?_
  repeat (first | with_reducible refine goR1 ?_ | with_reducible refine goR2 ?_)
  exact (show bodyPost _ _ _ .ret _ _ from ret1 (.bool true) rfl (Qa1 kj) ⟨rfl, x1⟩)
theorem Qek (us : Bool) (nm : Int) (key sg pa ms : List Int) (a_m : Option Addr) (c_m : Nat) (w : World) (hkl : key.length = 32) (hgl : sg.length = 32) (hpl : pa.length = 32) : Calls Try.prog 107 #[.agg (cat [#[.bool us], #[.int .i64 nm], ints .u8 (key), ints .u8 (sg), ints .u8 (pa), #[.slice a_m ms.length c_m]])] w (Ret w (.bool (QaB us nm key sg pa ms))) := by
  unfold QaB
  cases us with
  | true => exact Qh7 nm key sg pa ms a_m c_m w hkl hgl hpl
  | false =>
    by_cases h1 : nm = 0
    · rw [beq_iff_eq.2 h1]
      by_cases h2 : key = List.replicate 32 0
      · rw [decide_eq_true h2]
        by_cases h3 : sg = List.replicate 32 0
        · rw [decide_eq_true h3]
          by_cases h4 : pa = List.replicate 32 0
          · rw [decide_eq_true h4]
            by_cases h5 : ms.length = 0
            · rw [beq_iff_eq.2 h5]; exact Qh1 nm key sg pa ms a_m c_m w hkl hgl hpl h1 h2 h3 h4 h5
            · rw [beq_eq_false_iff_ne.2 h5]; exact Qh2 nm key sg pa ms a_m c_m w hkl hgl hpl h1 h2 h3 h4 h5
          · rw [decide_eq_false h4]; exact Qh3 nm key sg pa ms a_m c_m w hkl hgl hpl h1 h2 h3 h4
        · rw [decide_eq_false h3]; exact Qh4 nm key sg pa ms a_m c_m w hkl hgl hpl h1 h2 h3
      · rw [decide_eq_false h2]; exact Qh5 nm key sg pa ms a_m c_m w hkl hgl hpl h1 h2
    · rw [beq_eq_false_iff_ne.2 h1]; exact Qh6 nm key sg pa ms a_m c_m w hkl hgl hpl h1
end Go.Proofs.Ytfelfmchachljaa.Wr
end
section
namespace Go.Proofs.Ytfelfmchachljaa.Wr
open Go Go.RowKit
open Rely Auto Own Sha
set_option linter.unusedVariables false
set_option linter.unusedSimpArgs false
open Wk
def risN (ms : List Int) : Nat → Bool
  | 0 => true
  | n + 1 => risN ms n && ((n == 0) || decide (nth ms (n - 1) < nth ms n))
def risV (ms : List Int) : Bool := risN ms ms.length
theorem Qdn (ms : List Int) (k : Nat) (h : risN ms k = false) : ∀ n, k ≤ n → risN ms n = false
  | 0, hk => by obtain rfl : k = 0 := by omega
                exact h
  | n + 1, hk => by
    by_cases e : k = n + 1
    · rw [← e]; exact h
    · unfold risN
      rw [Qdn ms k h n (by omega)]
      rfl
theorem Qeb (ms : List Int) (i : Nat) (hr : risN ms (i + 1) = true) : risN ms (i + 1 + 1) = decide (nth ms i < nth ms (i + 1)) := by
  show (risN ms (i + 1) && ((i + 1 == 0) || decide (nth ms (i + 1 - 1) < nth ms (i + 1)))) = _
  rw [hr, beq_eq_false_iff_ne.2 (show i + 1 ≠ 0 by omega)]
  rfl
set_option maxHeartbeats 4000000 in
theorem QcZ (ms : List Int) (a_m : Option Addr) (c_m B : Nat) (w : World) (hml : ms.length ≤ 1000000) (hm : RdK .i64 B ms (.slice a_m ms.length c_m) w) : Calls Try.prog 121 #[.slice a_m ms.length c_m] w (Ret w (.bool (risV ms))) := by
 refine enter 20 [(0, .slice a_m ms.length c_m)] Try.func121 rfl rfl kj rfl ?_
 refine wp_seq_k fun K1 hK1 => ?_
 refine Qae ?_
 refine Qab (.bool false) 2 rfl kj kj ?_
 refine Qaf ?_
 refine hK1 _ _ ?_
 refine wp_seq_k fun K2 hK2 => ?_
 refine wp_seq_k fun K3 hK3 => ?_
 refine Qae ?_
 refine Qab (.int .i64 1) 3 rfl kj kj ?_
 refine Qaf ?_
 refine hK3 _ _ ?_
 refine wp_block ?_
 refine QaX (fun (s1 : Nat) => [(0, .slice a_m ms.length c_m), (3, .int .i64 (((s1 + 1) : Nat) : Int))]) (fun (s1 : Nat) W => (s1 + 1 ≤ ms.length ∨ s1 = 0) ∧ (risN ms (s1 + 1) = true) ∧ (Ext w W) ∧ (Ext w W)) (fun (s1 : Nat) => ms.length - s1) 0 ⟨rfl, rfl, trivial⟩ ⟨(.inr rfl), rfl, (Rely.Ext.refl w), (Rely.Ext.refl w)⟩ fun s1 X1 V1 hI1 => ?_
 obtain ⟨ip, hs1⟩ : ∃ z, z = s1 := ⟨_, rfl⟩
 subst hs1
 obtain ⟨hi, hr, kk1, xx1⟩ := hI1
 replace hi : ip + 1 ≤ ms.length ∨ ip = 0 := hi
 replace hr : risN ms (ip + 1) = true := hr
 replace kk1 : Ext w V1 := kk1
 replace xx1 : Ext w V1 := xx1
 have e1 := kk1
 refine wp_seq_k fun K4 hK4 => ?_
 refine wp_seq_k fun K5 hK5 => ?_
 refine Qae ?_
 refine Qab (.int .i64 (((ip + 1) : Nat) : Int)) 4 rfl kj kj ?_
 refine Qab (.slice a_m ms.length c_m) 5 rfl kj kj ?_
 refine Qab (.int .i64 ((ms.length : Nat) : Int)) 6 rfl kj kj ?_
 refine Qab (.bool (decide ((((ip + 1) : Nat) : Int) < ((ms.length : Nat) : Int)))) 7 rfl kj kj ?_
 refine Qaf ?_
 refine hK5 _ _ ?_
 refine Qa7 (t := decide ((((ip + 1) : Nat) : Int) < ((ms.length : Nat) : Int))) kj (fun c6 => ?_) (fun c6 => ?_)
 ·skip
  have hlt7 : ip + 1 < ms.length := by have := of_decide_eq_true c6; omega
  have hnm_7 : (ms).length = ms.length := rfl
  obtain ⟨gcm_7, ocm_7, ham_7, hlm_7, hcm_7⟩ := Qd7 (RdK.here (RdK.ext hm xx1)) (by rw [hnm_7]; omega)
  refine wp_skip ?_
  refine hK4 _ _ ?_
  refine wp_seq_k fun K8 hK8 => ?_
  refine wp_block ?_
  refine wp_seq_k fun K9 hK9 => ?_
  refine Qec kj fun W2 e2 => ?_
  have x2 : Ext w W2 := Ext.tr xx1 e2
  refine QbE 0 (.slice a_m ms.length c_m) 10 rfl rfl kj kj (fun _ _ _ h => h) (fun W hR => by kernel_rfl) ?_
  refine QbE 1 (.int .i64 (((ip + 1) : Nat) : Int)) 11 rfl rfl kj kj (fun _ _ _ h => h) (fun W hR => by kernel_rfl) ?_
  refine QbE 2 (.int .i64 (((ip : Nat) : Int))) 12 rfl rfl kj kj (fun _ _ _ h => h) (fun W hR => (Qa0 (u := .int .i64 (IntKind.i64.wrap ((((ip + 1) : Nat) : Int) - 1))) kj (congrArg (Value.int .i64) (by rw [show (((ip + 1 : Nat) : Int)) - 1 = ((ip : Nat) : Int) by omega]; exact IntWalk.i64_in _ (by omega))))) ?_
  refine QbE 3 (.pointer (some ⟨gcm_7, ocm_7 + ip, none⟩)) 13 rfl rfl kj kj (fun _ _ _ h => h) (fun W hR => (Qce 41 _ _ .i64 ip gcm_7 ocm_7 ms.length c_m 3 a_m _ ham_7 rfl rfl kj kj kj kj (Nat.lt_of_lt_of_eq (show ip < ms.length by omega) hnm_7.symm))) ?_
  have y1_2 : Ext V1 W2 := (Rely.Ext.trans (Rely.Ext.refl V1) e2)
  refine QbE 4 (.int .i64 (nth (ms) (ip))) 14 rfl rfl kj kj (fun _ _ _ h => h) (fun W hR => (QbG 3 _ _ (.int .i64 (nth (ms) (ip))) ((Below.cell (Rely.Ext.trans y1_2 hR) hlm_7).trans (hcm_7 ip (Nat.lt_of_lt_of_eq (show ip < ms.length by omega) hnm_7.symm))) rfl kj kj)) ?_
  refine QbE 5 (.slice a_m ms.length c_m) 15 rfl rfl kj kj (fun _ _ _ h => h) (fun W hR => by kernel_rfl) ?_
  refine QbE 6 (.int .i64 (((ip + 1) : Nat) : Int)) 16 rfl rfl kj kj (fun _ _ _ h => h) (fun W hR => by kernel_rfl) ?_
  refine QbE 7 (.pointer (some ⟨gcm_7, ocm_7 + (ip + 1), none⟩)) 17 rfl rfl kj kj (fun _ _ _ h => h) (fun W hR => (Qce 41 _ _ .i64 (ip + 1) gcm_7 ocm_7 ms.length c_m 3 a_m _ ham_7 rfl rfl kj kj kj kj (Nat.lt_of_lt_of_eq (show (ip + 1) < ms.length by omega) hnm_7.symm))) ?_
  refine QbE 8 (.int .i64 (nth (ms) ((ip + 1)))) 18 rfl rfl kj kj (fun _ _ _ h => h) (fun W hR => (QbG 3 _ _ (.int .i64 (nth (ms) ((ip + 1)))) ((Below.cell (Rely.Ext.trans y1_2 hR) hlm_7).trans (hcm_7 (ip + 1) (Nat.lt_of_lt_of_eq (show (ip + 1) < ms.length by omega) hnm_7.symm))) rfl kj kj)) ?_
  refine QbE 9 (.bool (decide ((nth (ms) (ip)) ≥ (nth (ms) ((ip + 1)))))) 19 rfl rfl kj kj (fun _ _ _ h => h) (fun W hR => by kernel_rfl) ?_
  refine Qfv kj ?_
  refine hK9 _ _ ?_
  refine Qa7 (t := decide ((nth (ms) (ip)) ≥ (nth (ms) ((ip + 1))))) kj (fun c10 => ?_) (fun c10 => ?_)
  ·skip
   have hV : risV ms = false := by
    have hge := of_decide_eq_true c10
    exact Qdn ms (ip + 1 + 1) (by rw [Qeb ms ip hr]; exact decide_eq_false (by omega)) _ (by omega)
   refine wp_seq_k fun K11 hK11 => ?_
   refine Qae ?_
   refine Qab (.bool false) 2 rfl kj kj ?_
   refine Qaf ?_
   refine hK11 _ _ ?_
   refine wp_ret ?_
   repeat (first | with_reducible refine goR1 ?_ | with_reducible refine goR2 ?_)
   exact (show bodyPost _ _ _ .ret _ _ from ret1 (.bool false) rfl (Qa1 kj) ⟨by rw [hV], x2⟩)
  ·skip
   have hr2 : risN ms (ip + 1 + 1) = true := by
    have hge := of_decide_eq_false c10
    rw [Qeb ms ip hr]; exact decide_eq_true (by omega)
   refine wp_skip ?_
   refine hK8 _ _ ?_
   refine Qae ?_
   refine Qab (.int .i64 (((ip + 1) : Nat) : Int)) 8 rfl kj kj ?_
   refine Qab (.int .i64 (((ip + 1) + 1 : Nat) : Int)) 9 rfl kj (Qa0 (u := .int .i64 (IntKind.i64.wrap ((((ip + 1) : Nat) : Int) + 1))) kj (congrArg (Value.int .i64) (i64n _ _ (by omega) (by omega)))) ?_
   refine Qab (.int .i64 (((ip + 1) + 1 : Nat) : Int)) 3 rfl kj kj ?_
   refine Qaf ?_
   have y0_2 : Ext w W2 := (Rely.Ext.trans e1 e2)
   repeat (first | with_reducible refine goX1 ?_ | with_reducible refine goX2 ?_ | with_reducible refine goX3 ?_)
   exact QaU (ip + 1) ⟨rfl, rfl, trivial⟩ ⟨(by omega), hr2, y0_2, x2⟩ (by omega)
 ·skip
  have hV : risV ms = true := by
   have hge := of_decide_eq_false c6
   unfold risV
   rcases hi with h | h
   ·rw [show ms.length = ip + 1 by omega]; exact hr
   ·rcases Nat.eq_zero_or_pos ms.length with h0 | h0
    ·rw [h0]; rfl
    ·rw [show ms.length = ip + 1 by omega]; exact hr
  refine wp_exit ?_
  refine hK2 _ _ ?_
  refine wp_seq_k fun K12 hK12 => ?_
  refine Qae ?_
  refine Qab (.bool true) 2 rfl kj kj ?_
  refine Qaf ?_
  refine hK12 _ _ ?_
  refine wp_ret ?_
  repeat (first | with_reducible refine goR1 ?_ | with_reducible refine goR2 ?_)
  exact (show bodyPost _ _ _ .ret _ _ from ret1 (.bool true) rfl (Qa1 kj) ⟨by rw [hV], xx1⟩)
end Go.Proofs.Ytfelfmchachljaa.Wr
end
section
namespace Go.Proofs.Ytfelfmchachljaa.Wr
open Go Go.RowKit
open Rely Auto Own Sha
set_option linter.unusedVariables false
set_option linter.unusedSimpArgs false
def nR1 (s : Option (List Int)) : Option (List Int) := Qac s 1
def nR2 (s : Option (List Int)) : Option (List Int) := Qac (nR1 s) 1
def nR3 (s : Option (List Int)) : Option (List Int) := Qac (nR2 s) 32
def nR4 (s : Option (List Int)) : Option (List Int) := Qac (nR3 s) 32
def nR5 (s : Option (List Int)) : Option (List Int) := Qac (nR4 s) 32
def nR6 (s : Option (List Int)) : Option (List Int) := itR (Qac (nR5 s) 1) (bigN (Qag (nR5 s) 1))
def nL (s : Option (List Int)) : List Int := itL (Qac (nR5 s) 1) (bigN (Qag (nR5 s) 1))
def nNm (s : Option (List Int)) : Int := ((bigN (Qag (nR1 s) 1) : Nat) : Int)
def nKy (s : Option (List Int)) : List Int := keyV (Qag (nR2 s) 32)
def nSg (s : Option (List Int)) : List Int := keyV (Qag (nR3 s) 32)
def nPa (s : Option (List Int)) : List Int := keyV (Qag (nR4 s) 32)
set_option maxHeartbeats 4000000 in
theorem Qgk (B gr : Nat) (s : Option (List Int)) (w : World) (hB : B ≤ gr) (h : RSt B gr s w) (hU : bigN (Qag s 1) = 1) : Calls Try.prog 102 #[.pointer (some ⟨gr, 0, none⟩)] w (fun e W => ∃ v xs, e = .returned v ∧ ExtB gr w W ∧ RSt B gr (Qax (Qax (nR6 s) (true)) (risV xs)) W ∧ (∃ (a : Option Addr) (c : Nat), v = .agg (cat [#[.bool true], #[.int .i64 (nNm s)], ints .u8 (nKy s), ints .u8 (nSg s), ints .u8 (nPa s), #[.slice a xs.length c]]) ∧ OwnN .i64 3 w.heap.size xs (.slice a xs.length c) W) ∧ xs.length ≤ 255 ∧ (nR6 s ≠ none → xs = nL s)) := by
  have hgr := h.lt
  refine enter 38 [(0, .pointer (some ⟨gr, 0, none⟩))] Try.func102 rfl rfl kj rfl ?_
  refine wp_seq_k fun K1 hK1 => ?_
  refine Qae ?_
  refine Qar (cat [#[.bool false], #[.int .i64 0], (Array.replicate 32 (.int .u8 0)), (Array.replicate 32 (.int .u8 0)), (Array.replicate 32 (.int .u8 0)), #[.slice none 0 0]]) 43 2 rfl kj kj fun g2 W1 l2 e1 r2_1 => ?_
  have x1 : ExtB gr w W1 := ExtB.ext (ExtB.refl gr w) e1
  have b2 : w.heap.size ≤ g2 := Nat.le_trans (ExtB.refl gr w).size l2
  refine Qaf ?_
  refine hK1 _ _ ?_
  refine wp_seq_k fun K3 hK3 => ?_
  refine Qae ?_
  refine Qab (.pointer (some ⟨gr, 0, none⟩)) 5 rfl kj kj ?_
  have rs4 := (RSt.ext h hB e1)
  refine Qah (fun v W' => ExtB gr W1 W' ∧ RSt B gr (Qac (s) 1) W' ∧ (fun (v : Value) (_ : World) => v = .int .i64 ((bigN (Qag (s) 1) : Nat) : Int)) v W') 110 #[.pointer (some ⟨gr, 0, none⟩), .int .i64 1] 6 rfl kj kj (QaQ B gr _ 1 _ hB rs4 (by decide)) fun vv5 W2 hh5 => ?_
  obtain ⟨q2, rs5, hv5⟩ := hh5
  have x2 : ExtB gr w W2 := ExtB.tr x1 q2
  subst hv5
  refine Qab (.int .i64 ((bigN (Qag (s) 1) : Nat) : Int)) 3 rfl kj kj ?_
  refine Qaf ?_
  refine hK3 _ _ ?_
  refine wp_seq_k fun K6 hK6 => ?_
  refine Qae ?_
  refine Qab (.int .i64 ((bigN (Qag (s) 1) : Nat) : Int)) 7 rfl kj kj ?_
  refine Qab (.bool true) 8 rfl kj (Qa0 (u := .bool ((((bigN (Qag (s) 1) : Nat) : Int) == 1))) kj (congrArg Value.bool (beq_iff_eq.2 (by omega)))) ?_
  refine Qab (.pointer (some ⟨gr, 0, none⟩)) 9 rfl kj kj ?_
  refine Qah (fun v W' => ExtB gr W2 W' ∧ RSt B gr (Qac (Qac (s) 1) 1) W' ∧ (fun (v : Value) (_ : World) => v = .int .i64 ((bigN (Qag (Qac (s) 1) 1) : Nat) : Int)) v W') 110 #[.pointer (some ⟨gr, 0, none⟩), .int .i64 1] 10 rfl kj kj (QaQ B gr _ 1 _ hB rs5 (by decide)) fun vv7 W3 hh7 => ?_
  obtain ⟨q3, rs7, hv7⟩ := hh7
  have x3 : ExtB gr w W3 := ExtB.tr x2 q3
  subst hv7
  refine Qab (.pointer (some ⟨gr, 0, none⟩)) 11 rfl kj kj ?_
  refine Qah (fun v W' => ExtB gr W3 W' ∧ RSt B gr (Qac (Qac (Qac (s) 1) 1) 32) W' ∧ (fun (v : Value) (_ : World) => v = .agg (ints .u8 (keyV (Qag (Qac (Qac (s) 1) 1) 32)))) v W') 109 #[.pointer (some ⟨gr, 0, none⟩)] 12 rfl kj kj (Qb7 B gr _ _ hB rs7) fun vv8 W4 hh8 => ?_
  obtain ⟨q4, rs8, hv8⟩ := hh8
  have x4 : ExtB gr w W4 := ExtB.tr x3 q4
  subst hv8
  refine Qab (.pointer (some ⟨gr, 0, none⟩)) 13 rfl kj kj ?_
  refine Qah (fun v W' => ExtB gr W4 W' ∧ RSt B gr (Qac (Qac (Qac (Qac (s) 1) 1) 32) 32) W' ∧ (fun (v : Value) (_ : World) => v = .agg (ints .u8 (keyV (Qag (Qac (Qac (Qac (s) 1) 1) 32) 32)))) v W') 109 #[.pointer (some ⟨gr, 0, none⟩)] 14 rfl kj kj (Qb7 B gr _ _ hB rs8) fun vv9 W5 hh9 => ?_
  obtain ⟨q5, rs9, hv9⟩ := hh9
  have x5 : ExtB gr w W5 := ExtB.tr x4 q5
  subst hv9
  refine Qab (.pointer (some ⟨gr, 0, none⟩)) 15 rfl kj kj ?_
  refine Qah (fun v W' => ExtB gr W5 W' ∧ RSt B gr (Qac (Qac (Qac (Qac (Qac (s) 1) 1) 32) 32) 32) W' ∧ (fun (v : Value) (_ : World) => v = .agg (ints .u8 (keyV (Qag (Qac (Qac (Qac (Qac (s) 1) 1) 32) 32) 32)))) v W') 109 #[.pointer (some ⟨gr, 0, none⟩)] 16 rfl kj kj (Qb7 B gr _ _ hB rs9) fun vv10 W6 hh10 => ?_
  obtain ⟨q6, rs10, hv10⟩ := hh10
  have x6 : ExtB gr w W6 := ExtB.tr x5 q6
  subst hv10
  refine Qab (.pointer (some ⟨gr, 0, none⟩)) 17 rfl kj kj ?_
  refine Qah (fun v W' => ExtB gr W6 W' ∧ RSt B gr (itR (Qac (Qac (Qac (Qac (Qac (Qac (s) 1) 1) 32) 32) 32) 1) (bigN (Qag (Qac (Qac (Qac (Qac (Qac (s) 1) 1) 32) 32) 32) 1))) W' ∧ (fun (v : Value) (W : World) => ∃ xs, OwnN .i64 3 W6.heap.size xs v W ∧ xs.length ≤ 255 ∧ (itR (Qac (Qac (Qac (Qac (Qac (Qac (s) 1) 1) 32) 32) 32) 1) (bigN (Qag (Qac (Qac (Qac (Qac (Qac (s) 1) 1) 32) 32) 32) 1)) ≠ none → xs = itL (Qac (Qac (Qac (Qac (Qac (Qac (s) 1) 1) 32) 32) 32) 1) (bigN (Qag (Qac (Qac (Qac (Qac (Qac (s) 1) 1) 32) 32) 32) 1)))) v W') 123 #[.pointer (some ⟨gr, 0, none⟩), .func (.func 111) #[] #[]] 18 rfl kj kj (Qcm B gr _ _ hB rs10) fun vv11 W7 hh11 => ?_
  obtain ⟨q7, rs11, hv11⟩ := hh11
  have x7 : ExtB gr w W7 := ExtB.tr x6 q7
  obtain ⟨xs, hox, hlx, hxx⟩ := hv11
  obtain ⟨ax, cx, rfl, -⟩ := id (OwnN.rd hox)
  refine Qab (.agg (cat [#[.bool true], #[.int .i64 ((bigN (Qag (Qac (s) 1) 1) : Nat) : Int)], ints .u8 (keyV (Qag (Qac (Qac (s) 1) 1) 32)), ints .u8 (keyV (Qag (Qac (Qac (Qac (s) 1) 1) 32) 32)), ints .u8 (keyV (Qag (Qac (Qac (Qac (Qac (s) 1) 1) 32) 32) 32)), #[.slice ax xs.length cx]])) 19 rfl kj (QbL 43 _ (.agg (cat [#[.bool false], #[.int .i64 0], (Array.replicate 32 (.int .u8 0)), (Array.replicate 32 (.int .u8 0)), (Array.replicate 32 (.int .u8 0)), #[.slice none 0 0]])) #[(0, 1), (1, 1), (2, 32), (34, 32), (66, 32), (98, 1)] [(0, 1, .bool true, #[.bool true]), (1, 1, .int .i64 ((bigN (Qag (Qac (s) 1) 1) : Nat) : Int), #[.int .i64 ((bigN (Qag (Qac (s) 1) 1) : Nat) : Int)]), (2, 32, .agg (ints .u8 (keyV (Qag (Qac (Qac (s) 1) 1) 32))), ints .u8 (keyV (Qag (Qac (Qac (s) 1) 1) 32))), (3, 32, .agg (ints .u8 (keyV (Qag (Qac (Qac (Qac (s) 1) 1) 32) 32))), ints .u8 (keyV (Qag (Qac (Qac (Qac (s) 1) 1) 32) 32))), (4, 32, .agg (ints .u8 (keyV (Qag (Qac (Qac (Qac (Qac (s) 1) 1) 32) 32) 32))), ints .u8 (keyV (Qag (Qac (Qac (Qac (Qac (s) 1) 1) 32) 32) 32))), (5, 1, .slice ax xs.length cx, #[.slice ax xs.length cx])] rfl kj ⟨kj, rfl, kj, kj, rfl, kj, kj, rfl, ((Qad _ _).trans (Qam _ (Qai (Qac (Qac (s) 1) 1) 32))), kj, rfl, ((Qad _ _).trans (Qam _ (Qai (Qac (Qac (Qac (s) 1) 1) 32) 32))), kj, rfl, ((Qad _ _).trans (Qam _ (Qai (Qac (Qac (Qac (Qac (s) 1) 1) 32) 32) 32))), kj, rfl, kj, trivial⟩ kj kj kj kj) ?_
  refine Qar (cat [#[.bool false], #[.int .i64 0], (Array.replicate 32 (.int .u8 0)), (Array.replicate 32 (.int .u8 0)), (Array.replicate 32 (.int .u8 0)), #[.slice none 0 0]]) 43 4 rfl kj kj fun g12 W8 l12 e8 r12_8 => ?_
  have x8 : ExtB gr w W8 := ExtB.ext x7 e8
  have b12 : w.heap.size ≤ g12 := Nat.le_trans x7.size l12
  refine Qav g12 _ (cat [#[.bool true], #[.int .i64 ((bigN (Qag (Qac (s) 1) 1) : Nat) : Int)], ints .u8 (keyV (Qag (Qac (Qac (s) 1) 1) 32)), ints .u8 (keyV (Qag (Qac (Qac (Qac (s) 1) 1) 32) 32)), ints .u8 (keyV (Qag (Qac (Qac (Qac (Qac (s) 1) 1) 32) 32) 32)), #[.slice ax xs.length cx]]) 43 r12_8 rfl kj (Qat 43 _ _ g12 43 _ _ r12_8 rfl kj kj (isz (n := 99) kj (by rw [Qaa, Qaa, Qaa, Qaa, Qaa, Qaa]; simp only [Array.size_append, cat, ((Qad _ _).trans (Qam _ (Qai (Qac (Qac (s) 1) 1) 32))), ((Qad _ _).trans (Qam _ (Qai (Qac (Qac (Qac (s) 1) 1) 32) 32))), ((Qad _ _).trans (Qam _ (Qai (Qac (Qac (Qac (Qac (s) 1) 1) 32) 32) 32)))]; rfl)) (eqsz (n := 99) kj (by rw [Qaa, Qaa, Qaa, Qaa, Qaa, Qaa]; simp only [Array.size_append, cat, ((Qad _ _).trans (Qam _ (Qai (Qac (Qac (s) 1) 1) 32))), ((Qad _ _).trans (Qam _ (Qai (Qac (Qac (Qac (s) 1) 1) 32) 32))), ((Qad _ _).trans (Qam _ (Qai (Qac (Qac (Qac (Qac (s) 1) 1) 32) 32) 32)))]; rfl)) (QaC _ (by intro a ha; simp only [List.mem_cons, List.not_mem_nil, or_false] at ha; rcases ha with rfl | rfl | rfl | rfl | rfl | rfl; exact (Qak _ rfl); exact (Qak _ rfl); exact (Qan _ _); exact (Qan _ _); exact (Qan _ _); exact (Qak _ rfl)))) fun W9 p9 r12_9 => ?_
  have x9 : ExtB gr w W9 := ExtB.putsN x8 p9 b12
  refine Qaf ?_
  refine hK6 _ _ ?_
  refine wp_seq_k fun K13 hK13 => ?_
  refine Qae ?_
  refine Qab (.pointer (some ⟨gr, 0, none⟩)) 20 rfl kj kj ?_
  refine Qab (.int .i64 ((bigN (Qag (s) 1) : Nat) : Int)) 21 rfl kj kj ?_
  refine Qab (.bool true) 22 rfl kj (Qa0 (u := .bool ((((bigN (Qag (s) 1) : Nat) : Int) == 1))) kj (congrArg Value.bool (beq_iff_eq.2 (by omega)))) ?_
  refine Qab (.bool true) 23 rfl kj kj ?_
  refine Qas 24 rfl kj ?_
  refine Qas 25 rfl kj ?_
  refine Qas 26 rfl kj ?_
  refine Qas 27 rfl kj ?_
  refine Qas 28 rfl kj ?_
  refine Qas 29 rfl kj ?_
  refine Qab (.bool true) 30 rfl kj kj ?_
  have rs14 := (RSt.put (RSt.ext rs11 hB e8) hB p9 (Nat.lt_of_lt_of_le hgr b12))
  refine Qah (fun v W' => ExtB gr W9 W' ∧ RSt B gr (Qax (itR (Qac (Qac (Qac (Qac (Qac (Qac (s) 1) 1) 32) 32) 32) 1) (bigN (Qag (Qac (Qac (Qac (Qac (Qac (s) 1) 1) 32) 32) 32) 1))) true) W' ∧ (fun (v : Value) (_ : World) => v = .tuple #[]) v W') 103 #[.pointer (some ⟨gr, 0, none⟩), .bool true] 31 rfl kj kj (Qcv B gr _ true _ hB rs14) fun vv15 W10 hh15 => ?_
  obtain ⟨q10, rs15, hv15⟩ := hh15
  have x10 : ExtB gr w W10 := ExtB.tr x9 q10
  subst hv15
  refine Qaf ?_
  refine hK13 _ _ ?_
  refine wp_seq_k fun K16 hK16 => ?_
  refine Qae ?_
  refine Qab (.pointer (some ⟨gr, 0, none⟩)) 32 rfl kj kj ?_
  refine Qab (.pointer (some ⟨g12, 98, none⟩)) 33 rfl kj kj ?_
  have r12_10 := (ExtB.row q10 r12_9 (Ne.symm (Nat.ne_of_lt (Nat.lt_of_lt_of_le hgr b12))))
  refine Qab (.slice ax xs.length cx) 34 rfl kj (Qal 41 _ g12 98 43 _ (.slice ax xs.length cx) _ r12_10 rfl kj (Qaq [#[.bool true], #[.int .i64 ((bigN (Qag (Qac (s) 1) 1) : Nat) : Int)], ints .u8 (keyV (Qag (Qac (Qac (s) 1) 1) 32)), ints .u8 (keyV (Qag (Qac (Qac (Qac (s) 1) 1) 32) 32)), ints .u8 (keyV (Qag (Qac (Qac (Qac (Qac (s) 1) 1) 32) 32) 32))] [#[.slice ax xs.length cx]] [] 98 (by rw [Qaa, Qaa, Qaa, Qaa, Qaa]; simp only [Array.size_append, cat, ((Qad _ _).trans (Qam _ (Qai (Qac (Qac (s) 1) 1) 32))), ((Qad _ _).trans (Qam _ (Qai (Qac (Qac (Qac (s) 1) 1) 32) 32))), ((Qad _ _).trans (Qam _ (Qai (Qac (Qac (Qac (Qac (s) 1) 1) 32) 32) 32)))]; rfl) 0 _ rfl) kj) ?_
  have f17_8 := (hox.ext e8)
  have f18_9 := (f17_8.puts p9 (QcI hox l12))
  have f19_10 := (Qbe f18_9 q10 (Qbf f18_9 (Nat.lt_of_lt_of_le hgr x6.2.2.2.1)))
  refine Qa8 (.bool (risV xs)) 121 #[.slice ax xs.length cx] 35 rfl kj kj (QcZ xs _ _ _ _ (by omega) (OwnN.rd f19_10)) fun W11 e11 => ?_
  have x11 : ExtB gr w W11 := ExtB.ext x10 e11
  have rs20 := (RSt.ext rs15 hB e11)
  refine Qah (fun v W' => ExtB gr W11 W' ∧ RSt B gr (Qax (Qax (itR (Qac (Qac (Qac (Qac (Qac (Qac (s) 1) 1) 32) 32) 32) 1) (bigN (Qag (Qac (Qac (Qac (Qac (Qac (s) 1) 1) 32) 32) 32) 1))) true) (risV xs)) W' ∧ (fun (v : Value) (_ : World) => v = .tuple #[]) v W') 103 #[.pointer (some ⟨gr, 0, none⟩), .bool (risV xs)] 36 rfl kj kj (Qcv B gr _ (risV xs) _ hB rs20) fun vv21 W12 hh21 => ?_
  obtain ⟨q12, rs21, hv21⟩ := hh21
  have x12 : ExtB gr w W12 := ExtB.tr x11 q12
  subst hv21
  refine Qaf ?_
  refine hK16 _ _ ?_
  refine wp_seq_k fun K22 hK22 => ?_
  refine Qae ?_
  have r12_11 := (Qau r12_10 e11)
  have r12_12 := (ExtB.row q12 r12_11 (Ne.symm (Nat.ne_of_lt (Nat.lt_of_lt_of_le hgr b12))))
  refine Qab (.agg (cat [#[.bool true], #[.int .i64 ((bigN (Qag (Qac (s) 1) 1) : Nat) : Int)], ints .u8 (keyV (Qag (Qac (Qac (s) 1) 1) 32)), ints .u8 (keyV (Qag (Qac (Qac (Qac (s) 1) 1) 32) 32)), ints .u8 (keyV (Qag (Qac (Qac (Qac (Qac (s) 1) 1) 32) 32) 32)), #[.slice ax xs.length cx]])) 37 rfl kj (Qaz 43 _ g12 43 _ _ r12_12 rfl kj kj (isz (n := 99) kj (by rw [Qaa, Qaa, Qaa, Qaa, Qaa, Qaa]; simp only [Array.size_append, cat, ((Qad _ _).trans (Qam _ (Qai (Qac (Qac (s) 1) 1) 32))), ((Qad _ _).trans (Qam _ (Qai (Qac (Qac (Qac (s) 1) 1) 32) 32))), ((Qad _ _).trans (Qam _ (Qai (Qac (Qac (Qac (Qac (s) 1) 1) 32) 32) 32)))]; rfl))) ?_
  have r2_2 := (ExtB.row q2 r2_1 (Ne.symm (Nat.ne_of_lt (Nat.lt_of_lt_of_le hgr b2))))
  have r2_3 := (ExtB.row q3 r2_2 (Ne.symm (Nat.ne_of_lt (Nat.lt_of_lt_of_le hgr b2))))
  have r2_4 := (ExtB.row q4 r2_3 (Ne.symm (Nat.ne_of_lt (Nat.lt_of_lt_of_le hgr b2))))
  have r2_5 := (ExtB.row q5 r2_4 (Ne.symm (Nat.ne_of_lt (Nat.lt_of_lt_of_le hgr b2))))
  have r2_6 := (ExtB.row q6 r2_5 (Ne.symm (Nat.ne_of_lt (Nat.lt_of_lt_of_le hgr b2))))
  have r2_7 := (ExtB.row q7 r2_6 (Ne.symm (Nat.ne_of_lt (Nat.lt_of_lt_of_le hgr b2))))
  have r2_8 := (Qau r2_7 e8)
  have r2_9 := (Puts.row p9 r2_8 (Qa2 r2_7 l12))
  have r2_10 := (ExtB.row q10 r2_9 (Ne.symm (Nat.ne_of_lt (Nat.lt_of_lt_of_le hgr b2))))
  have r2_11 := (Qau r2_10 e11)
  have r2_12 := (ExtB.row q12 r2_11 (Ne.symm (Nat.ne_of_lt (Nat.lt_of_lt_of_le hgr b2))))
  refine Qav g2 _ (cat [#[.bool true], #[.int .i64 ((bigN (Qag (Qac (s) 1) 1) : Nat) : Int)], ints .u8 (keyV (Qag (Qac (Qac (s) 1) 1) 32)), ints .u8 (keyV (Qag (Qac (Qac (Qac (s) 1) 1) 32) 32)), ints .u8 (keyV (Qag (Qac (Qac (Qac (Qac (s) 1) 1) 32) 32) 32)), #[.slice ax xs.length cx]]) 43 r2_12 rfl kj (Qat 43 _ _ g2 43 _ _ r2_12 rfl kj kj (isz (n := 99) kj (by rw [Qaa, Qaa, Qaa, Qaa, Qaa, Qaa]; simp only [Array.size_append, cat, ((Qad _ _).trans (Qam _ (Qai (Qac (Qac (s) 1) 1) 32))), ((Qad _ _).trans (Qam _ (Qai (Qac (Qac (Qac (s) 1) 1) 32) 32))), ((Qad _ _).trans (Qam _ (Qai (Qac (Qac (Qac (Qac (s) 1) 1) 32) 32) 32)))]; rfl)) (eqsz (n := 99) kj (by rw [Qaa, Qaa, Qaa, Qaa, Qaa, Qaa]; simp only [Array.size_append, cat, ((Qad _ _).trans (Qam _ (Qai (Qac (Qac (s) 1) 1) 32))), ((Qad _ _).trans (Qam _ (Qai (Qac (Qac (Qac (s) 1) 1) 32) 32))), ((Qad _ _).trans (Qam _ (Qai (Qac (Qac (Qac (Qac (s) 1) 1) 32) 32) 32)))]; rfl)) (QaC _ (by intro a ha; simp only [List.mem_cons, List.not_mem_nil, or_false] at ha; rcases ha with rfl | rfl | rfl | rfl | rfl | rfl; exact (Qak _ rfl); exact (Qak _ rfl); exact (Qan _ _); exact (Qan _ _); exact (Qan _ _); exact (Qak _ rfl)))) fun W13 p13 r2_13 => ?_
  have x13 : ExtB gr w W13 := ExtB.putsN x12 p13 b2
  refine Qaf ?_
  refine hK22 _ _ ?_
  refine wp_ret ?_
  repeat (first | with_reducible refine goR1 ?_ | with_reducible refine goR2 ?_)
  have rs23 := (RSt.put rs21 hB p13 (Nat.lt_of_lt_of_le hgr b2))
  have f24_11 := (f19_10.ext e11)
  have f25_12 := (Qbe f24_11 q12 (Qbf f24_11 (Nat.lt_of_lt_of_le hgr x6.2.2.2.1)))
  have f26_13 := (f25_12.puts p13 (Qbf hox (Qa5 r2_6)))
  exact (show bodyPost _ _ _ .ret _ _ from ret1 (.agg (cat [#[.bool true], #[.int .i64 ((bigN (Qag (Qac (s) 1) 1) : Nat) : Int)], ints .u8 (keyV (Qag (Qac (Qac (s) 1) 1) 32)), ints .u8 (keyV (Qag (Qac (Qac (Qac (s) 1) 1) 32) 32)), ints .u8 (keyV (Qag (Qac (Qac (Qac (Qac (s) 1) 1) 32) 32) 32)), #[.slice ax xs.length cx]])) rfl (QaR g2 43 _ r2_13 kj kj (isz (n := 99) kj (by rw [Qaa, Qaa, Qaa, Qaa, Qaa, Qaa]; simp only [Array.size_append, cat, ((Qad _ _).trans (Qam _ (Qai (Qac (Qac (s) 1) 1) 32))), ((Qad _ _).trans (Qam _ (Qai (Qac (Qac (Qac (s) 1) 1) 32) 32))), ((Qad _ _).trans (Qam _ (Qai (Qac (Qac (Qac (Qac (s) 1) 1) 32) 32) 32)))]; rfl))) ⟨_, xs, rfl, x13, rs23, ⟨ax, cx, rfl, OwnN.base x6.2.2.2.1 f26_13⟩, hlx, hxx⟩)
set_option maxHeartbeats 4000000 in
theorem Qgj (B gr : Nat) (s : Option (List Int)) (w : World) (hB : B ≤ gr) (h : RSt B gr s w) (hU : bigN (Qag s 1) = 0) : Calls Try.prog 102 #[.pointer (some ⟨gr, 0, none⟩)] w (fun e W => ∃ v xs, e = .returned v ∧ ExtB gr w W ∧ RSt B gr (Qax (Qax (nR6 s) (QaB false (nNm s) (nKy s) (nSg s) (nPa s) xs)) (risV xs)) W ∧ (∃ (a : Option Addr) (c : Nat), v = .agg (cat [#[.bool false], #[.int .i64 (nNm s)], ints .u8 (nKy s), ints .u8 (nSg s), ints .u8 (nPa s), #[.slice a xs.length c]]) ∧ OwnN .i64 3 w.heap.size xs (.slice a xs.length c) W) ∧ xs.length ≤ 255 ∧ (nR6 s ≠ none → xs = nL s)) := by
  have hgr := h.lt
  refine enter 38 [(0, .pointer (some ⟨gr, 0, none⟩))] Try.func102 rfl rfl kj rfl ?_
  refine wp_seq_k fun K1 hK1 => ?_
  refine Qae ?_
  refine Qar (cat [#[.bool false], #[.int .i64 0], (Array.replicate 32 (.int .u8 0)), (Array.replicate 32 (.int .u8 0)), (Array.replicate 32 (.int .u8 0)), #[.slice none 0 0]]) 43 2 rfl kj kj fun g2 W1 l2 e1 r2_1 => ?_
  have x1 : ExtB gr w W1 := ExtB.ext (ExtB.refl gr w) e1
  have b2 : w.heap.size ≤ g2 := Nat.le_trans (ExtB.refl gr w).size l2
  refine Qaf ?_
  refine hK1 _ _ ?_
  refine wp_seq_k fun K3 hK3 => ?_
  refine Qae ?_
  refine Qab (.pointer (some ⟨gr, 0, none⟩)) 5 rfl kj kj ?_
  have rs4 := (RSt.ext h hB e1)
  refine Qah (fun v W' => ExtB gr W1 W' ∧ RSt B gr (Qac (s) 1) W' ∧ (fun (v : Value) (_ : World) => v = .int .i64 ((bigN (Qag (s) 1) : Nat) : Int)) v W') 110 #[.pointer (some ⟨gr, 0, none⟩), .int .i64 1] 6 rfl kj kj (QaQ B gr _ 1 _ hB rs4 (by decide)) fun vv5 W2 hh5 => ?_
  obtain ⟨q2, rs5, hv5⟩ := hh5
  have x2 : ExtB gr w W2 := ExtB.tr x1 q2
  subst hv5
  refine Qab (.int .i64 ((bigN (Qag (s) 1) : Nat) : Int)) 3 rfl kj kj ?_
  refine Qaf ?_
  refine hK3 _ _ ?_
  refine wp_seq_k fun K6 hK6 => ?_
  refine Qae ?_
  refine Qab (.int .i64 ((bigN (Qag (s) 1) : Nat) : Int)) 7 rfl kj kj ?_
  refine Qab (.bool false) 8 rfl kj (Qa0 (u := .bool ((((bigN (Qag (s) 1) : Nat) : Int) == 1))) kj (congrArg Value.bool (beq_eq_false_iff_ne.2 (by omega)))) ?_
  refine Qab (.pointer (some ⟨gr, 0, none⟩)) 9 rfl kj kj ?_
  refine Qah (fun v W' => ExtB gr W2 W' ∧ RSt B gr (Qac (Qac (s) 1) 1) W' ∧ (fun (v : Value) (_ : World) => v = .int .i64 ((bigN (Qag (Qac (s) 1) 1) : Nat) : Int)) v W') 110 #[.pointer (some ⟨gr, 0, none⟩), .int .i64 1] 10 rfl kj kj (QaQ B gr _ 1 _ hB rs5 (by decide)) fun vv7 W3 hh7 => ?_
  obtain ⟨q3, rs7, hv7⟩ := hh7
  have x3 : ExtB gr w W3 := ExtB.tr x2 q3
  subst hv7
  refine Qab (.pointer (some ⟨gr, 0, none⟩)) 11 rfl kj kj ?_
  refine Qah (fun v W' => ExtB gr W3 W' ∧ RSt B gr (Qac (Qac (Qac (s) 1) 1) 32) W' ∧ (fun (v : Value) (_ : World) => v = .agg (ints .u8 (keyV (Qag (Qac (Qac (s) 1) 1) 32)))) v W') 109 #[.pointer (some ⟨gr, 0, none⟩)] 12 rfl kj kj (Qb7 B gr _ _ hB rs7) fun vv8 W4 hh8 => ?_
  obtain ⟨q4, rs8, hv8⟩ := hh8
  have x4 : ExtB gr w W4 := ExtB.tr x3 q4
  subst hv8
  refine Qab (.pointer (some ⟨gr, 0, none⟩)) 13 rfl kj kj ?_
  refine Qah (fun v W' => ExtB gr W4 W' ∧ RSt B gr (Qac (Qac (Qac (Qac (s) 1) 1) 32) 32) W' ∧ (fun (v : Value) (_ : World) => v = .agg (ints .u8 (keyV (Qag (Qac (Qac (Qac (s) 1) 1) 32) 32)))) v W') 109 #[.pointer (some ⟨gr, 0, none⟩)] 14 rfl kj kj (Qb7 B gr _ _ hB rs8) fun vv9 W5 hh9 => ?_
  obtain ⟨q5, rs9, hv9⟩ := hh9
  have x5 : ExtB gr w W5 := ExtB.tr x4 q5
  subst hv9
  refine Qab (.pointer (some ⟨gr, 0, none⟩)) 15 rfl kj kj ?_
  refine Qah (fun v W' => ExtB gr W5 W' ∧ RSt B gr (Qac (Qac (Qac (Qac (Qac (s) 1) 1) 32) 32) 32) W' ∧ (fun (v : Value) (_ : World) => v = .agg (ints .u8 (keyV (Qag (Qac (Qac (Qac (Qac (s) 1) 1) 32) 32) 32)))) v W') 109 #[.pointer (some ⟨gr, 0, none⟩)] 16 rfl kj kj (Qb7 B gr _ _ hB rs9) fun vv10 W6 hh10 => ?_
  obtain ⟨q6, rs10, hv10⟩ := hh10
  have x6 : ExtB gr w W6 := ExtB.tr x5 q6
  subst hv10
  refine Qab (.pointer (some ⟨gr, 0, none⟩)) 17 rfl kj kj ?_
  refine Qah (fun v W' => ExtB gr W6 W' ∧ RSt B gr (itR (Qac (Qac (Qac (Qac (Qac (Qac (s) 1) 1) 32) 32) 32) 1) (bigN (Qag (Qac (Qac (Qac (Qac (Qac (s) 1) 1) 32) 32) 32) 1))) W' ∧ (fun (v : Value) (W : World) => ∃ xs, OwnN .i64 3 W6.heap.size xs v W ∧ xs.length ≤ 255 ∧ (itR (Qac (Qac (Qac (Qac (Qac (Qac (s) 1) 1) 32) 32) 32) 1) (bigN (Qag (Qac (Qac (Qac (Qac (Qac (s) 1) 1) 32) 32) 32) 1)) ≠ none → xs = itL (Qac (Qac (Qac (Qac (Qac (Qac (s) 1) 1) 32) 32) 32) 1) (bigN (Qag (Qac (Qac (Qac (Qac (Qac (s) 1) 1) 32) 32) 32) 1)))) v W') 123 #[.pointer (some ⟨gr, 0, none⟩), .func (.func 111) #[] #[]] 18 rfl kj kj (Qcm B gr _ _ hB rs10) fun vv11 W7 hh11 => ?_
  obtain ⟨q7, rs11, hv11⟩ := hh11
  have x7 : ExtB gr w W7 := ExtB.tr x6 q7
  obtain ⟨xs, hox, hlx, hxx⟩ := hv11
  obtain ⟨ax, cx, rfl, -⟩ := id (OwnN.rd hox)
  refine Qab (.agg (cat [#[.bool false], #[.int .i64 ((bigN (Qag (Qac (s) 1) 1) : Nat) : Int)], ints .u8 (keyV (Qag (Qac (Qac (s) 1) 1) 32)), ints .u8 (keyV (Qag (Qac (Qac (Qac (s) 1) 1) 32) 32)), ints .u8 (keyV (Qag (Qac (Qac (Qac (Qac (s) 1) 1) 32) 32) 32)), #[.slice ax xs.length cx]])) 19 rfl kj (QbL 43 _ (.agg (cat [#[.bool false], #[.int .i64 0], (Array.replicate 32 (.int .u8 0)), (Array.replicate 32 (.int .u8 0)), (Array.replicate 32 (.int .u8 0)), #[.slice none 0 0]])) #[(0, 1), (1, 1), (2, 32), (34, 32), (66, 32), (98, 1)] [(0, 1, .bool false, #[.bool false]), (1, 1, .int .i64 ((bigN (Qag (Qac (s) 1) 1) : Nat) : Int), #[.int .i64 ((bigN (Qag (Qac (s) 1) 1) : Nat) : Int)]), (2, 32, .agg (ints .u8 (keyV (Qag (Qac (Qac (s) 1) 1) 32))), ints .u8 (keyV (Qag (Qac (Qac (s) 1) 1) 32))), (3, 32, .agg (ints .u8 (keyV (Qag (Qac (Qac (Qac (s) 1) 1) 32) 32))), ints .u8 (keyV (Qag (Qac (Qac (Qac (s) 1) 1) 32) 32))), (4, 32, .agg (ints .u8 (keyV (Qag (Qac (Qac (Qac (Qac (s) 1) 1) 32) 32) 32))), ints .u8 (keyV (Qag (Qac (Qac (Qac (Qac (s) 1) 1) 32) 32) 32))), (5, 1, .slice ax xs.length cx, #[.slice ax xs.length cx])] rfl kj ⟨kj, rfl, kj, kj, rfl, kj, kj, rfl, ((Qad _ _).trans (Qam _ (Qai (Qac (Qac (s) 1) 1) 32))), kj, rfl, ((Qad _ _).trans (Qam _ (Qai (Qac (Qac (Qac (s) 1) 1) 32) 32))), kj, rfl, ((Qad _ _).trans (Qam _ (Qai (Qac (Qac (Qac (Qac (s) 1) 1) 32) 32) 32))), kj, rfl, kj, trivial⟩ kj kj kj kj) ?_
  refine Qar (cat [#[.bool false], #[.int .i64 0], (Array.replicate 32 (.int .u8 0)), (Array.replicate 32 (.int .u8 0)), (Array.replicate 32 (.int .u8 0)), #[.slice none 0 0]]) 43 4 rfl kj kj fun g12 W8 l12 e8 r12_8 => ?_
  have x8 : ExtB gr w W8 := ExtB.ext x7 e8
  have b12 : w.heap.size ≤ g12 := Nat.le_trans x7.size l12
  refine Qav g12 _ (cat [#[.bool false], #[.int .i64 ((bigN (Qag (Qac (s) 1) 1) : Nat) : Int)], ints .u8 (keyV (Qag (Qac (Qac (s) 1) 1) 32)), ints .u8 (keyV (Qag (Qac (Qac (Qac (s) 1) 1) 32) 32)), ints .u8 (keyV (Qag (Qac (Qac (Qac (Qac (s) 1) 1) 32) 32) 32)), #[.slice ax xs.length cx]]) 43 r12_8 rfl kj (Qat 43 _ _ g12 43 _ _ r12_8 rfl kj kj (isz (n := 99) kj (by rw [Qaa, Qaa, Qaa, Qaa, Qaa, Qaa]; simp only [Array.size_append, cat, ((Qad _ _).trans (Qam _ (Qai (Qac (Qac (s) 1) 1) 32))), ((Qad _ _).trans (Qam _ (Qai (Qac (Qac (Qac (s) 1) 1) 32) 32))), ((Qad _ _).trans (Qam _ (Qai (Qac (Qac (Qac (Qac (s) 1) 1) 32) 32) 32)))]; rfl)) (eqsz (n := 99) kj (by rw [Qaa, Qaa, Qaa, Qaa, Qaa, Qaa]; simp only [Array.size_append, cat, ((Qad _ _).trans (Qam _ (Qai (Qac (Qac (s) 1) 1) 32))), ((Qad _ _).trans (Qam _ (Qai (Qac (Qac (Qac (s) 1) 1) 32) 32))), ((Qad _ _).trans (Qam _ (Qai (Qac (Qac (Qac (Qac (s) 1) 1) 32) 32) 32)))]; rfl)) (QaC _ (by intro a ha; simp only [List.mem_cons, List.not_mem_nil, or_false] at ha; rcases ha with rfl | rfl | rfl | rfl | rfl | rfl; exact (Qak _ rfl); exact (Qak _ rfl); exact (Qan _ _); exact (Qan _ _); exact (Qan _ _); exact (Qak _ rfl)))) fun W9 p9 r12_9 => ?_
  have x9 : ExtB gr w W9 := ExtB.putsN x8 p9 b12
  refine Qaf ?_
  refine hK6 _ _ ?_
  refine wp_seq_k fun K13 hK13 => ?_
  refine Qae ?_
  refine Qab (.pointer (some ⟨gr, 0, none⟩)) 20 rfl kj kj ?_
  refine Qab (.int .i64 ((bigN (Qag (s) 1) : Nat) : Int)) 21 rfl kj kj ?_
  refine Qab (.bool false) 22 rfl kj (Qa0 (u := .bool ((((bigN (Qag (s) 1) : Nat) : Int) == 1))) kj (congrArg Value.bool (beq_eq_false_iff_ne.2 (by omega)))) ?_
  refine Qab (.bool false) 23 rfl kj kj ?_
  refine Qab (.int .i64 ((bigN (Qag (s) 1) : Nat) : Int)) 24 rfl kj kj ?_
  refine Qab (.bool true) 25 rfl kj (Qa0 (u := .bool ((((bigN (Qag (s) 1) : Nat) : Int) == 0))) kj (congrArg Value.bool (beq_iff_eq.2 (by omega)))) ?_
  refine Qab (.bool true) 26 rfl kj kj ?_
  refine Qab (.agg (cat [#[.bool false], #[.int .i64 ((bigN (Qag (Qac (s) 1) 1) : Nat) : Int)], ints .u8 (keyV (Qag (Qac (Qac (s) 1) 1) 32)), ints .u8 (keyV (Qag (Qac (Qac (Qac (s) 1) 1) 32) 32)), ints .u8 (keyV (Qag (Qac (Qac (Qac (Qac (s) 1) 1) 32) 32) 32)), #[.slice ax xs.length cx]])) 27 rfl kj (Qaz 43 _ g12 43 _ _ r12_9 rfl kj kj (isz (n := 99) kj (by rw [Qaa, Qaa, Qaa, Qaa, Qaa, Qaa]; simp only [Array.size_append, cat, ((Qad _ _).trans (Qam _ (Qai (Qac (Qac (s) 1) 1) 32))), ((Qad _ _).trans (Qam _ (Qai (Qac (Qac (Qac (s) 1) 1) 32) 32))), ((Qad _ _).trans (Qam _ (Qai (Qac (Qac (Qac (Qac (s) 1) 1) 32) 32) 32)))]; rfl))) ?_
  refine Qa8 (.bool (QaB false ((bigN (Qag (Qac (s) 1) 1) : Nat) : Int) (keyV (Qag (Qac (Qac (s) 1) 1) 32)) (keyV (Qag (Qac (Qac (Qac (s) 1) 1) 32) 32)) (keyV (Qag (Qac (Qac (Qac (Qac (s) 1) 1) 32) 32) 32)) xs)) 107 #[.agg (cat [#[.bool false], #[.int .i64 ((bigN (Qag (Qac (s) 1) 1) : Nat) : Int)], ints .u8 (keyV (Qag (Qac (Qac (s) 1) 1) 32)), ints .u8 (keyV (Qag (Qac (Qac (Qac (s) 1) 1) 32) 32)), ints .u8 (keyV (Qag (Qac (Qac (Qac (Qac (s) 1) 1) 32) 32) 32)), #[.slice ax xs.length cx]])] 28 rfl kj kj (Qek false ((bigN (Qag (Qac (s) 1) 1) : Nat) : Int) (keyV (Qag (Qac (Qac (s) 1) 1) 32)) (keyV (Qag (Qac (Qac (Qac (s) 1) 1) 32) 32)) (keyV (Qag (Qac (Qac (Qac (Qac (s) 1) 1) 32) 32) 32)) xs _ _ _ (Qam _ (Qai (Qac (Qac (s) 1) 1) 32)) (Qam _ (Qai (Qac (Qac (Qac (s) 1) 1) 32) 32)) (Qam _ (Qai (Qac (Qac (Qac (Qac (s) 1) 1) 32) 32) 32))) fun W10 e10 => ?_
  have x10 : ExtB gr w W10 := ExtB.ext x9 e10
  refine Qab (.bool (QaB false ((bigN (Qag (Qac (s) 1) 1) : Nat) : Int) (keyV (Qag (Qac (Qac (s) 1) 1) 32)) (keyV (Qag (Qac (Qac (Qac (s) 1) 1) 32) 32)) (keyV (Qag (Qac (Qac (Qac (Qac (s) 1) 1) 32) 32) 32)) xs)) 29 rfl kj kj ?_
  refine Qab (.bool (QaB false ((bigN (Qag (Qac (s) 1) 1) : Nat) : Int) (keyV (Qag (Qac (Qac (s) 1) 1) 32)) (keyV (Qag (Qac (Qac (Qac (s) 1) 1) 32) 32)) (keyV (Qag (Qac (Qac (Qac (Qac (s) 1) 1) 32) 32) 32)) xs)) 30 rfl kj kj ?_
  have rs14 := (RSt.ext (RSt.put (RSt.ext rs11 hB e8) hB p9 (Nat.lt_of_lt_of_le hgr b12)) hB e10)
  refine Qah (fun v W' => ExtB gr W10 W' ∧ RSt B gr (Qax (itR (Qac (Qac (Qac (Qac (Qac (Qac (s) 1) 1) 32) 32) 32) 1) (bigN (Qag (Qac (Qac (Qac (Qac (Qac (s) 1) 1) 32) 32) 32) 1))) (QaB false ((bigN (Qag (Qac (s) 1) 1) : Nat) : Int) (keyV (Qag (Qac (Qac (s) 1) 1) 32)) (keyV (Qag (Qac (Qac (Qac (s) 1) 1) 32) 32)) (keyV (Qag (Qac (Qac (Qac (Qac (s) 1) 1) 32) 32) 32)) xs)) W' ∧ (fun (v : Value) (_ : World) => v = .tuple #[]) v W') 103 #[.pointer (some ⟨gr, 0, none⟩), .bool (QaB false ((bigN (Qag (Qac (s) 1) 1) : Nat) : Int) (keyV (Qag (Qac (Qac (s) 1) 1) 32)) (keyV (Qag (Qac (Qac (Qac (s) 1) 1) 32) 32)) (keyV (Qag (Qac (Qac (Qac (Qac (s) 1) 1) 32) 32) 32)) xs)] 31 rfl kj kj (Qcv B gr _ (QaB false ((bigN (Qag (Qac (s) 1) 1) : Nat) : Int) (keyV (Qag (Qac (Qac (s) 1) 1) 32)) (keyV (Qag (Qac (Qac (Qac (s) 1) 1) 32) 32)) (keyV (Qag (Qac (Qac (Qac (Qac (s) 1) 1) 32) 32) 32)) xs) _ hB rs14) fun vv15 W11 hh15 => ?_
  obtain ⟨q11, rs15, hv15⟩ := hh15
  have x11 : ExtB gr w W11 := ExtB.tr x10 q11
  subst hv15
  refine Qaf ?_
  refine hK13 _ _ ?_
  refine wp_seq_k fun K16 hK16 => ?_
  refine Qae ?_
  refine Qab (.pointer (some ⟨gr, 0, none⟩)) 32 rfl kj kj ?_
  refine Qab (.pointer (some ⟨g12, 98, none⟩)) 33 rfl kj kj ?_
  have r12_10 := (Qau r12_9 e10)
  have r12_11 := (ExtB.row q11 r12_10 (Ne.symm (Nat.ne_of_lt (Nat.lt_of_lt_of_le hgr b12))))
  refine Qab (.slice ax xs.length cx) 34 rfl kj (Qal 41 _ g12 98 43 _ (.slice ax xs.length cx) _ r12_11 rfl kj (Qaq [#[.bool false], #[.int .i64 ((bigN (Qag (Qac (s) 1) 1) : Nat) : Int)], ints .u8 (keyV (Qag (Qac (Qac (s) 1) 1) 32)), ints .u8 (keyV (Qag (Qac (Qac (Qac (s) 1) 1) 32) 32)), ints .u8 (keyV (Qag (Qac (Qac (Qac (Qac (s) 1) 1) 32) 32) 32))] [#[.slice ax xs.length cx]] [] 98 (by rw [Qaa, Qaa, Qaa, Qaa, Qaa]; simp only [Array.size_append, cat, ((Qad _ _).trans (Qam _ (Qai (Qac (Qac (s) 1) 1) 32))), ((Qad _ _).trans (Qam _ (Qai (Qac (Qac (Qac (s) 1) 1) 32) 32))), ((Qad _ _).trans (Qam _ (Qai (Qac (Qac (Qac (Qac (s) 1) 1) 32) 32) 32)))]; rfl) 0 _ rfl) kj) ?_
  have f17_8 := (hox.ext e8)
  have f18_9 := (f17_8.puts p9 (QcI hox l12))
  have f19_10 := (f18_9.ext e10)
  have f20_11 := (Qbe f19_10 q11 (Qbf f19_10 (Nat.lt_of_lt_of_le hgr x6.2.2.2.1)))
  refine Qa8 (.bool (risV xs)) 121 #[.slice ax xs.length cx] 35 rfl kj kj (QcZ xs _ _ _ _ (by omega) (OwnN.rd f20_11)) fun W12 e12 => ?_
  have x12 : ExtB gr w W12 := ExtB.ext x11 e12
  have rs21 := (RSt.ext rs15 hB e12)
  refine Qah (fun v W' => ExtB gr W12 W' ∧ RSt B gr (Qax (Qax (itR (Qac (Qac (Qac (Qac (Qac (Qac (s) 1) 1) 32) 32) 32) 1) (bigN (Qag (Qac (Qac (Qac (Qac (Qac (s) 1) 1) 32) 32) 32) 1))) (QaB false ((bigN (Qag (Qac (s) 1) 1) : Nat) : Int) (keyV (Qag (Qac (Qac (s) 1) 1) 32)) (keyV (Qag (Qac (Qac (Qac (s) 1) 1) 32) 32)) (keyV (Qag (Qac (Qac (Qac (Qac (s) 1) 1) 32) 32) 32)) xs)) (risV xs)) W' ∧ (fun (v : Value) (_ : World) => v = .tuple #[]) v W') 103 #[.pointer (some ⟨gr, 0, none⟩), .bool (risV xs)] 36 rfl kj kj (Qcv B gr _ (risV xs) _ hB rs21) fun vv22 W13 hh22 => ?_
  obtain ⟨q13, rs22, hv22⟩ := hh22
  have x13 : ExtB gr w W13 := ExtB.tr x12 q13
  subst hv22
  refine Qaf ?_
  refine hK16 _ _ ?_
  refine wp_seq_k fun K23 hK23 => ?_
  refine Qae ?_
  have r12_12 := (Qau r12_11 e12)
  have r12_13 := (ExtB.row q13 r12_12 (Ne.symm (Nat.ne_of_lt (Nat.lt_of_lt_of_le hgr b12))))
  refine Qab (.agg (cat [#[.bool false], #[.int .i64 ((bigN (Qag (Qac (s) 1) 1) : Nat) : Int)], ints .u8 (keyV (Qag (Qac (Qac (s) 1) 1) 32)), ints .u8 (keyV (Qag (Qac (Qac (Qac (s) 1) 1) 32) 32)), ints .u8 (keyV (Qag (Qac (Qac (Qac (Qac (s) 1) 1) 32) 32) 32)), #[.slice ax xs.length cx]])) 37 rfl kj (Qaz 43 _ g12 43 _ _ r12_13 rfl kj kj (isz (n := 99) kj (by rw [Qaa, Qaa, Qaa, Qaa, Qaa, Qaa]; simp only [Array.size_append, cat, ((Qad _ _).trans (Qam _ (Qai (Qac (Qac (s) 1) 1) 32))), ((Qad _ _).trans (Qam _ (Qai (Qac (Qac (Qac (s) 1) 1) 32) 32))), ((Qad _ _).trans (Qam _ (Qai (Qac (Qac (Qac (Qac (s) 1) 1) 32) 32) 32)))]; rfl))) ?_
  have r2_2 := (ExtB.row q2 r2_1 (Ne.symm (Nat.ne_of_lt (Nat.lt_of_lt_of_le hgr b2))))
  have r2_3 := (ExtB.row q3 r2_2 (Ne.symm (Nat.ne_of_lt (Nat.lt_of_lt_of_le hgr b2))))
  have r2_4 := (ExtB.row q4 r2_3 (Ne.symm (Nat.ne_of_lt (Nat.lt_of_lt_of_le hgr b2))))
  have r2_5 := (ExtB.row q5 r2_4 (Ne.symm (Nat.ne_of_lt (Nat.lt_of_lt_of_le hgr b2))))
  have r2_6 := (ExtB.row q6 r2_5 (Ne.symm (Nat.ne_of_lt (Nat.lt_of_lt_of_le hgr b2))))
  have r2_7 := (ExtB.row q7 r2_6 (Ne.symm (Nat.ne_of_lt (Nat.lt_of_lt_of_le hgr b2))))
  have r2_8 := (Qau r2_7 e8)
  have r2_9 := (Puts.row p9 r2_8 (Qa2 r2_7 l12))
  have r2_10 := (Qau r2_9 e10)
  have r2_11 := (ExtB.row q11 r2_10 (Ne.symm (Nat.ne_of_lt (Nat.lt_of_lt_of_le hgr b2))))
  have r2_12 := (Qau r2_11 e12)
  have r2_13 := (ExtB.row q13 r2_12 (Ne.symm (Nat.ne_of_lt (Nat.lt_of_lt_of_le hgr b2))))
  refine Qav g2 _ (cat [#[.bool false], #[.int .i64 ((bigN (Qag (Qac (s) 1) 1) : Nat) : Int)], ints .u8 (keyV (Qag (Qac (Qac (s) 1) 1) 32)), ints .u8 (keyV (Qag (Qac (Qac (Qac (s) 1) 1) 32) 32)), ints .u8 (keyV (Qag (Qac (Qac (Qac (Qac (s) 1) 1) 32) 32) 32)), #[.slice ax xs.length cx]]) 43 r2_13 rfl kj (Qat 43 _ _ g2 43 _ _ r2_13 rfl kj kj (isz (n := 99) kj (by rw [Qaa, Qaa, Qaa, Qaa, Qaa, Qaa]; simp only [Array.size_append, cat, ((Qad _ _).trans (Qam _ (Qai (Qac (Qac (s) 1) 1) 32))), ((Qad _ _).trans (Qam _ (Qai (Qac (Qac (Qac (s) 1) 1) 32) 32))), ((Qad _ _).trans (Qam _ (Qai (Qac (Qac (Qac (Qac (s) 1) 1) 32) 32) 32)))]; rfl)) (eqsz (n := 99) kj (by rw [Qaa, Qaa, Qaa, Qaa, Qaa, Qaa]; simp only [Array.size_append, cat, ((Qad _ _).trans (Qam _ (Qai (Qac (Qac (s) 1) 1) 32))), ((Qad _ _).trans (Qam _ (Qai (Qac (Qac (Qac (s) 1) 1) 32) 32))), ((Qad _ _).trans (Qam _ (Qai (Qac (Qac (Qac (Qac (s) 1) 1) 32) 32) 32)))]; rfl)) (QaC _ (by intro a ha; simp only [List.mem_cons, List.not_mem_nil, or_false] at ha; rcases ha with rfl | rfl | rfl | rfl | rfl | rfl; exact (Qak _ rfl); exact (Qak _ rfl); exact (Qan _ _); exact (Qan _ _); exact (Qan _ _); exact (Qak _ rfl)))) fun W14 p14 r2_14 => ?_
  have x14 : ExtB gr w W14 := ExtB.putsN x13 p14 b2
  refine Qaf ?_
  refine hK23 _ _ ?_
  refine wp_ret ?_
  repeat (first | with_reducible refine goR1 ?_ | with_reducible refine goR2 ?_)
  have rs24 := (RSt.put rs22 hB p14 (Nat.lt_of_lt_of_le hgr b2))
  have f25_12 := (f20_11.ext e12)
  have f26_13 := (Qbe f25_12 q13 (Qbf f25_12 (Nat.lt_of_lt_of_le hgr x6.2.2.2.1)))
  have f27_14 := (f26_13.puts p14 (Qbf hox (Qa5 r2_6)))
  exact (show bodyPost _ _ _ .ret _ _ from ret1 (.agg (cat [#[.bool false], #[.int .i64 ((bigN (Qag (Qac (s) 1) 1) : Nat) : Int)], ints .u8 (keyV (Qag (Qac (Qac (s) 1) 1) 32)), ints .u8 (keyV (Qag (Qac (Qac (Qac (s) 1) 1) 32) 32)), ints .u8 (keyV (Qag (Qac (Qac (Qac (Qac (s) 1) 1) 32) 32) 32)), #[.slice ax xs.length cx]])) rfl (QaR g2 43 _ r2_14 kj kj (isz (n := 99) kj (by rw [Qaa, Qaa, Qaa, Qaa, Qaa, Qaa]; simp only [Array.size_append, cat, ((Qad _ _).trans (Qam _ (Qai (Qac (Qac (s) 1) 1) 32))), ((Qad _ _).trans (Qam _ (Qai (Qac (Qac (Qac (s) 1) 1) 32) 32))), ((Qad _ _).trans (Qam _ (Qai (Qac (Qac (Qac (Qac (s) 1) 1) 32) 32) 32)))]; rfl))) ⟨_, xs, rfl, x14, rs24, ⟨ax, cx, rfl, OwnN.base x6.2.2.2.1 f27_14⟩, hlx, hxx⟩)
set_option maxHeartbeats 4000000 in
theorem Qgi (B gr : Nat) (s : Option (List Int)) (w : World) (hB : B ≤ gr) (h : RSt B gr s w) (hU : 1 < bigN (Qag s 1)) : Calls Try.prog 102 #[.pointer (some ⟨gr, 0, none⟩)] w (fun e W => ∃ v xs, e = .returned v ∧ ExtB gr w W ∧ RSt B gr (Qax (Qax (nR6 s) (false)) (risV xs)) W ∧ (∃ (a : Option Addr) (c : Nat), v = .agg (cat [#[.bool false], #[.int .i64 (nNm s)], ints .u8 (nKy s), ints .u8 (nSg s), ints .u8 (nPa s), #[.slice a xs.length c]]) ∧ OwnN .i64 3 w.heap.size xs (.slice a xs.length c) W) ∧ xs.length ≤ 255 ∧ (nR6 s ≠ none → xs = nL s)) := by
  have hgr := h.lt
  refine enter 38 [(0, .pointer (some ⟨gr, 0, none⟩))] Try.func102 rfl rfl kj rfl ?_
  refine wp_seq_k fun K1 hK1 => ?_
  refine Qae ?_
  refine Qar (cat [#[.bool false], #[.int .i64 0], (Array.replicate 32 (.int .u8 0)), (Array.replicate 32 (.int .u8 0)), (Array.replicate 32 (.int .u8 0)), #[.slice none 0 0]]) 43 2 rfl kj kj fun g2 W1 l2 e1 r2_1 => ?_
  have x1 : ExtB gr w W1 := ExtB.ext (ExtB.refl gr w) e1
  have b2 : w.heap.size ≤ g2 := Nat.le_trans (ExtB.refl gr w).size l2
  refine Qaf ?_
  refine hK1 _ _ ?_
  refine wp_seq_k fun K3 hK3 => ?_
  refine Qae ?_
  refine Qab (.pointer (some ⟨gr, 0, none⟩)) 5 rfl kj kj ?_
  have rs4 := (RSt.ext h hB e1)
  refine Qah (fun v W' => ExtB gr W1 W' ∧ RSt B gr (Qac (s) 1) W' ∧ (fun (v : Value) (_ : World) => v = .int .i64 ((bigN (Qag (s) 1) : Nat) : Int)) v W') 110 #[.pointer (some ⟨gr, 0, none⟩), .int .i64 1] 6 rfl kj kj (QaQ B gr _ 1 _ hB rs4 (by decide)) fun vv5 W2 hh5 => ?_
  obtain ⟨q2, rs5, hv5⟩ := hh5
  have x2 : ExtB gr w W2 := ExtB.tr x1 q2
  subst hv5
  refine Qab (.int .i64 ((bigN (Qag (s) 1) : Nat) : Int)) 3 rfl kj kj ?_
  refine Qaf ?_
  refine hK3 _ _ ?_
  refine wp_seq_k fun K6 hK6 => ?_
  refine Qae ?_
  refine Qab (.int .i64 ((bigN (Qag (s) 1) : Nat) : Int)) 7 rfl kj kj ?_
  refine Qab (.bool false) 8 rfl kj (Qa0 (u := .bool ((((bigN (Qag (s) 1) : Nat) : Int) == 1))) kj (congrArg Value.bool (beq_eq_false_iff_ne.2 (by omega)))) ?_
  refine Qab (.pointer (some ⟨gr, 0, none⟩)) 9 rfl kj kj ?_
  refine Qah (fun v W' => ExtB gr W2 W' ∧ RSt B gr (Qac (Qac (s) 1) 1) W' ∧ (fun (v : Value) (_ : World) => v = .int .i64 ((bigN (Qag (Qac (s) 1) 1) : Nat) : Int)) v W') 110 #[.pointer (some ⟨gr, 0, none⟩), .int .i64 1] 10 rfl kj kj (QaQ B gr _ 1 _ hB rs5 (by decide)) fun vv7 W3 hh7 => ?_
  obtain ⟨q3, rs7, hv7⟩ := hh7
  have x3 : ExtB gr w W3 := ExtB.tr x2 q3
  subst hv7
  refine Qab (.pointer (some ⟨gr, 0, none⟩)) 11 rfl kj kj ?_
  refine Qah (fun v W' => ExtB gr W3 W' ∧ RSt B gr (Qac (Qac (Qac (s) 1) 1) 32) W' ∧ (fun (v : Value) (_ : World) => v = .agg (ints .u8 (keyV (Qag (Qac (Qac (s) 1) 1) 32)))) v W') 109 #[.pointer (some ⟨gr, 0, none⟩)] 12 rfl kj kj (Qb7 B gr _ _ hB rs7) fun vv8 W4 hh8 => ?_
  obtain ⟨q4, rs8, hv8⟩ := hh8
  have x4 : ExtB gr w W4 := ExtB.tr x3 q4
  subst hv8
  refine Qab (.pointer (some ⟨gr, 0, none⟩)) 13 rfl kj kj ?_
  refine Qah (fun v W' => ExtB gr W4 W' ∧ RSt B gr (Qac (Qac (Qac (Qac (s) 1) 1) 32) 32) W' ∧ (fun (v : Value) (_ : World) => v = .agg (ints .u8 (keyV (Qag (Qac (Qac (Qac (s) 1) 1) 32) 32)))) v W') 109 #[.pointer (some ⟨gr, 0, none⟩)] 14 rfl kj kj (Qb7 B gr _ _ hB rs8) fun vv9 W5 hh9 => ?_
  obtain ⟨q5, rs9, hv9⟩ := hh9
  have x5 : ExtB gr w W5 := ExtB.tr x4 q5
  subst hv9
  refine Qab (.pointer (some ⟨gr, 0, none⟩)) 15 rfl kj kj ?_
  refine Qah (fun v W' => ExtB gr W5 W' ∧ RSt B gr (Qac (Qac (Qac (Qac (Qac (s) 1) 1) 32) 32) 32) W' ∧ (fun (v : Value) (_ : World) => v = .agg (ints .u8 (keyV (Qag (Qac (Qac (Qac (Qac (s) 1) 1) 32) 32) 32)))) v W') 109 #[.pointer (some ⟨gr, 0, none⟩)] 16 rfl kj kj (Qb7 B gr _ _ hB rs9) fun vv10 W6 hh10 => ?_
  obtain ⟨q6, rs10, hv10⟩ := hh10
  have x6 : ExtB gr w W6 := ExtB.tr x5 q6
  subst hv10
  refine Qab (.pointer (some ⟨gr, 0, none⟩)) 17 rfl kj kj ?_
  refine Qah (fun v W' => ExtB gr W6 W' ∧ RSt B gr (itR (Qac (Qac (Qac (Qac (Qac (Qac (s) 1) 1) 32) 32) 32) 1) (bigN (Qag (Qac (Qac (Qac (Qac (Qac (s) 1) 1) 32) 32) 32) 1))) W' ∧ (fun (v : Value) (W : World) => ∃ xs, OwnN .i64 3 W6.heap.size xs v W ∧ xs.length ≤ 255 ∧ (itR (Qac (Qac (Qac (Qac (Qac (Qac (s) 1) 1) 32) 32) 32) 1) (bigN (Qag (Qac (Qac (Qac (Qac (Qac (s) 1) 1) 32) 32) 32) 1)) ≠ none → xs = itL (Qac (Qac (Qac (Qac (Qac (Qac (s) 1) 1) 32) 32) 32) 1) (bigN (Qag (Qac (Qac (Qac (Qac (Qac (s) 1) 1) 32) 32) 32) 1)))) v W') 123 #[.pointer (some ⟨gr, 0, none⟩), .func (.func 111) #[] #[]] 18 rfl kj kj (Qcm B gr _ _ hB rs10) fun vv11 W7 hh11 => ?_
  obtain ⟨q7, rs11, hv11⟩ := hh11
  have x7 : ExtB gr w W7 := ExtB.tr x6 q7
  obtain ⟨xs, hox, hlx, hxx⟩ := hv11
  obtain ⟨ax, cx, rfl, -⟩ := id (OwnN.rd hox)
  refine Qab (.agg (cat [#[.bool false], #[.int .i64 ((bigN (Qag (Qac (s) 1) 1) : Nat) : Int)], ints .u8 (keyV (Qag (Qac (Qac (s) 1) 1) 32)), ints .u8 (keyV (Qag (Qac (Qac (Qac (s) 1) 1) 32) 32)), ints .u8 (keyV (Qag (Qac (Qac (Qac (Qac (s) 1) 1) 32) 32) 32)), #[.slice ax xs.length cx]])) 19 rfl kj (QbL 43 _ (.agg (cat [#[.bool false], #[.int .i64 0], (Array.replicate 32 (.int .u8 0)), (Array.replicate 32 (.int .u8 0)), (Array.replicate 32 (.int .u8 0)), #[.slice none 0 0]])) #[(0, 1), (1, 1), (2, 32), (34, 32), (66, 32), (98, 1)] [(0, 1, .bool false, #[.bool false]), (1, 1, .int .i64 ((bigN (Qag (Qac (s) 1) 1) : Nat) : Int), #[.int .i64 ((bigN (Qag (Qac (s) 1) 1) : Nat) : Int)]), (2, 32, .agg (ints .u8 (keyV (Qag (Qac (Qac (s) 1) 1) 32))), ints .u8 (keyV (Qag (Qac (Qac (s) 1) 1) 32))), (3, 32, .agg (ints .u8 (keyV (Qag (Qac (Qac (Qac (s) 1) 1) 32) 32))), ints .u8 (keyV (Qag (Qac (Qac (Qac (s) 1) 1) 32) 32))), (4, 32, .agg (ints .u8 (keyV (Qag (Qac (Qac (Qac (Qac (s) 1) 1) 32) 32) 32))), ints .u8 (keyV (Qag (Qac (Qac (Qac (Qac (s) 1) 1) 32) 32) 32))), (5, 1, .slice ax xs.length cx, #[.slice ax xs.length cx])] rfl kj ⟨kj, rfl, kj, kj, rfl, kj, kj, rfl, ((Qad _ _).trans (Qam _ (Qai (Qac (Qac (s) 1) 1) 32))), kj, rfl, ((Qad _ _).trans (Qam _ (Qai (Qac (Qac (Qac (s) 1) 1) 32) 32))), kj, rfl, ((Qad _ _).trans (Qam _ (Qai (Qac (Qac (Qac (Qac (s) 1) 1) 32) 32) 32))), kj, rfl, kj, trivial⟩ kj kj kj kj) ?_
  refine Qar (cat [#[.bool false], #[.int .i64 0], (Array.replicate 32 (.int .u8 0)), (Array.replicate 32 (.int .u8 0)), (Array.replicate 32 (.int .u8 0)), #[.slice none 0 0]]) 43 4 rfl kj kj fun g12 W8 l12 e8 r12_8 => ?_
  have x8 : ExtB gr w W8 := ExtB.ext x7 e8
  have b12 : w.heap.size ≤ g12 := Nat.le_trans x7.size l12
  refine Qav g12 _ (cat [#[.bool false], #[.int .i64 ((bigN (Qag (Qac (s) 1) 1) : Nat) : Int)], ints .u8 (keyV (Qag (Qac (Qac (s) 1) 1) 32)), ints .u8 (keyV (Qag (Qac (Qac (Qac (s) 1) 1) 32) 32)), ints .u8 (keyV (Qag (Qac (Qac (Qac (Qac (s) 1) 1) 32) 32) 32)), #[.slice ax xs.length cx]]) 43 r12_8 rfl kj (Qat 43 _ _ g12 43 _ _ r12_8 rfl kj kj (isz (n := 99) kj (by rw [Qaa, Qaa, Qaa, Qaa, Qaa, Qaa]; simp only [Array.size_append, cat, ((Qad _ _).trans (Qam _ (Qai (Qac (Qac (s) 1) 1) 32))), ((Qad _ _).trans (Qam _ (Qai (Qac (Qac (Qac (s) 1) 1) 32) 32))), ((Qad _ _).trans (Qam _ (Qai (Qac (Qac (Qac (Qac (s) 1) 1) 32) 32) 32)))]; rfl)) (eqsz (n := 99) kj (by rw [Qaa, Qaa, Qaa, Qaa, Qaa, Qaa]; simp only [Array.size_append, cat, ((Qad _ _).trans (Qam _ (Qai (Qac (Qac (s) 1) 1) 32))), ((Qad _ _).trans (Qam _ (Qai (Qac (Qac (Qac (s) 1) 1) 32) 32))), ((Qad _ _).trans (Qam _ (Qai (Qac (Qac (Qac (Qac (s) 1) 1) 32) 32) 32)))]; rfl)) (QaC _ (by intro a ha; simp only [List.mem_cons, List.not_mem_nil, or_false] at ha; rcases ha with rfl | rfl | rfl | rfl | rfl | rfl; exact (Qak _ rfl); exact (Qak _ rfl); exact (Qan _ _); exact (Qan _ _); exact (Qan _ _); exact (Qak _ rfl)))) fun W9 p9 r12_9 => ?_
  have x9 : ExtB gr w W9 := ExtB.putsN x8 p9 b12
  refine Qaf ?_
  refine hK6 _ _ ?_
  refine wp_seq_k fun K13 hK13 => ?_
  refine Qae ?_
  refine Qab (.pointer (some ⟨gr, 0, none⟩)) 20 rfl kj kj ?_
  refine Qab (.int .i64 ((bigN (Qag (s) 1) : Nat) : Int)) 21 rfl kj kj ?_
  refine Qab (.bool false) 22 rfl kj (Qa0 (u := .bool ((((bigN (Qag (s) 1) : Nat) : Int) == 1))) kj (congrArg Value.bool (beq_eq_false_iff_ne.2 (by omega)))) ?_
  refine Qab (.bool false) 23 rfl kj kj ?_
  refine Qab (.int .i64 ((bigN (Qag (s) 1) : Nat) : Int)) 24 rfl kj kj ?_
  refine Qab (.bool false) 25 rfl kj (Qa0 (u := .bool ((((bigN (Qag (s) 1) : Nat) : Int) == 0))) kj (congrArg Value.bool (beq_eq_false_iff_ne.2 (by omega)))) ?_
  refine Qab (.bool false) 26 rfl kj kj ?_
  refine Qas 27 rfl kj ?_
  refine Qas 28 rfl kj ?_
  refine Qab (.bool false) 29 rfl kj kj ?_
  refine Qab (.bool false) 30 rfl kj kj ?_
  have rs14 := (RSt.put (RSt.ext rs11 hB e8) hB p9 (Nat.lt_of_lt_of_le hgr b12))
  refine Qah (fun v W' => ExtB gr W9 W' ∧ RSt B gr (Qax (itR (Qac (Qac (Qac (Qac (Qac (Qac (s) 1) 1) 32) 32) 32) 1) (bigN (Qag (Qac (Qac (Qac (Qac (Qac (s) 1) 1) 32) 32) 32) 1))) false) W' ∧ (fun (v : Value) (_ : World) => v = .tuple #[]) v W') 103 #[.pointer (some ⟨gr, 0, none⟩), .bool false] 31 rfl kj kj (Qcv B gr _ false _ hB rs14) fun vv15 W10 hh15 => ?_
  obtain ⟨q10, rs15, hv15⟩ := hh15
  have x10 : ExtB gr w W10 := ExtB.tr x9 q10
  subst hv15
  refine Qaf ?_
  refine hK13 _ _ ?_
  refine wp_seq_k fun K16 hK16 => ?_
  refine Qae ?_
  refine Qab (.pointer (some ⟨gr, 0, none⟩)) 32 rfl kj kj ?_
  refine Qab (.pointer (some ⟨g12, 98, none⟩)) 33 rfl kj kj ?_
  have r12_10 := (ExtB.row q10 r12_9 (Ne.symm (Nat.ne_of_lt (Nat.lt_of_lt_of_le hgr b12))))
  refine Qab (.slice ax xs.length cx) 34 rfl kj (Qal 41 _ g12 98 43 _ (.slice ax xs.length cx) _ r12_10 rfl kj (Qaq [#[.bool false], #[.int .i64 ((bigN (Qag (Qac (s) 1) 1) : Nat) : Int)], ints .u8 (keyV (Qag (Qac (Qac (s) 1) 1) 32)), ints .u8 (keyV (Qag (Qac (Qac (Qac (s) 1) 1) 32) 32)), ints .u8 (keyV (Qag (Qac (Qac (Qac (Qac (s) 1) 1) 32) 32) 32))] [#[.slice ax xs.length cx]] [] 98 (by rw [Qaa, Qaa, Qaa, Qaa, Qaa]; simp only [Array.size_append, cat, ((Qad _ _).trans (Qam _ (Qai (Qac (Qac (s) 1) 1) 32))), ((Qad _ _).trans (Qam _ (Qai (Qac (Qac (Qac (s) 1) 1) 32) 32))), ((Qad _ _).trans (Qam _ (Qai (Qac (Qac (Qac (Qac (s) 1) 1) 32) 32) 32)))]; rfl) 0 _ rfl) kj) ?_
  have f17_8 := (hox.ext e8)
  have f18_9 := (f17_8.puts p9 (QcI hox l12))
  have f19_10 := (Qbe f18_9 q10 (Qbf f18_9 (Nat.lt_of_lt_of_le hgr x6.2.2.2.1)))
  refine Qa8 (.bool (risV xs)) 121 #[.slice ax xs.length cx] 35 rfl kj kj (QcZ xs _ _ _ _ (by omega) (OwnN.rd f19_10)) fun W11 e11 => ?_
  have x11 : ExtB gr w W11 := ExtB.ext x10 e11
  have rs20 := (RSt.ext rs15 hB e11)
  refine Qah (fun v W' => ExtB gr W11 W' ∧ RSt B gr (Qax (Qax (itR (Qac (Qac (Qac (Qac (Qac (Qac (s) 1) 1) 32) 32) 32) 1) (bigN (Qag (Qac (Qac (Qac (Qac (Qac (s) 1) 1) 32) 32) 32) 1))) false) (risV xs)) W' ∧ (fun (v : Value) (_ : World) => v = .tuple #[]) v W') 103 #[.pointer (some ⟨gr, 0, none⟩), .bool (risV xs)] 36 rfl kj kj (Qcv B gr _ (risV xs) _ hB rs20) fun vv21 W12 hh21 => ?_
  obtain ⟨q12, rs21, hv21⟩ := hh21
  have x12 : ExtB gr w W12 := ExtB.tr x11 q12
  subst hv21
  refine Qaf ?_
  refine hK16 _ _ ?_
  refine wp_seq_k fun K22 hK22 => ?_
  refine Qae ?_
  have r12_11 := (Qau r12_10 e11)
  have r12_12 := (ExtB.row q12 r12_11 (Ne.symm (Nat.ne_of_lt (Nat.lt_of_lt_of_le hgr b12))))
  refine Qab (.agg (cat [#[.bool false], #[.int .i64 ((bigN (Qag (Qac (s) 1) 1) : Nat) : Int)], ints .u8 (keyV (Qag (Qac (Qac (s) 1) 1) 32)), ints .u8 (keyV (Qag (Qac (Qac (Qac (s) 1) 1) 32) 32)), ints .u8 (keyV (Qag (Qac (Qac (Qac (Qac (s) 1) 1) 32) 32) 32)), #[.slice ax xs.length cx]])) 37 rfl kj (Qaz 43 _ g12 43 _ _ r12_12 rfl kj kj (isz (n := 99) kj (by rw [Qaa, Qaa, Qaa, Qaa, Qaa, Qaa]; simp only [Array.size_append, cat, ((Qad _ _).trans (Qam _ (Qai (Qac (Qac (s) 1) 1) 32))), ((Qad _ _).trans (Qam _ (Qai (Qac (Qac (Qac (s) 1) 1) 32) 32))), ((Qad _ _).trans (Qam _ (Qai (Qac (Qac (Qac (Qac (s) 1) 1) 32) 32) 32)))]; rfl))) ?_
  have r2_2 := (ExtB.row q2 r2_1 (Ne.symm (Nat.ne_of_lt (Nat.lt_of_lt_of_le hgr b2))))
  have r2_3 := (ExtB.row q3 r2_2 (Ne.symm (Nat.ne_of_lt (Nat.lt_of_lt_of_le hgr b2))))
  have r2_4 := (ExtB.row q4 r2_3 (Ne.symm (Nat.ne_of_lt (Nat.lt_of_lt_of_le hgr b2))))
  have r2_5 := (ExtB.row q5 r2_4 (Ne.symm (Nat.ne_of_lt (Nat.lt_of_lt_of_le hgr b2))))
  have r2_6 := (ExtB.row q6 r2_5 (Ne.symm (Nat.ne_of_lt (Nat.lt_of_lt_of_le hgr b2))))
  have r2_7 := (ExtB.row q7 r2_6 (Ne.symm (Nat.ne_of_lt (Nat.lt_of_lt_of_le hgr b2))))
  have r2_8 := (Qau r2_7 e8)
  have r2_9 := (Puts.row p9 r2_8 (Qa2 r2_7 l12))
  have r2_10 := (ExtB.row q10 r2_9 (Ne.symm (Nat.ne_of_lt (Nat.lt_of_lt_of_le hgr b2))))
  have r2_11 := (Qau r2_10 e11)
  have r2_12 := (ExtB.row q12 r2_11 (Ne.symm (Nat.ne_of_lt (Nat.lt_of_lt_of_le hgr b2))))
  refine Qav g2 _ (cat [#[.bool false], #[.int .i64 ((bigN (Qag (Qac (s) 1) 1) : Nat) : Int)], ints .u8 (keyV (Qag (Qac (Qac (s) 1) 1) 32)), ints .u8 (keyV (Qag (Qac (Qac (Qac (s) 1) 1) 32) 32)), ints .u8 (keyV (Qag (Qac (Qac (Qac (Qac (s) 1) 1) 32) 32) 32)), #[.slice ax xs.length cx]]) 43 r2_12 rfl kj (Qat 43 _ _ g2 43 _ _ r2_12 rfl kj kj (isz (n := 99) kj (by rw [Qaa, Qaa, Qaa, Qaa, Qaa, Qaa]; simp only [Array.size_append, cat, ((Qad _ _).trans (Qam _ (Qai (Qac (Qac (s) 1) 1) 32))), ((Qad _ _).trans (Qam _ (Qai (Qac (Qac (Qac (s) 1) 1) 32) 32))), ((Qad _ _).trans (Qam _ (Qai (Qac (Qac (Qac (Qac (s) 1) 1) 32) 32) 32)))]; rfl)) (eqsz (n := 99) kj (by rw [Qaa, Qaa, Qaa, Qaa, Qaa, Qaa]; simp only [Array.size_append, cat, ((Qad _ _).trans (Qam _ (Qai (Qac (Qac (s) 1) 1) 32))), ((Qad _ _).trans (Qam _ (Qai (Qac (Qac (Qac (s) 1) 1) 32) 32))), ((Qad _ _).trans (Qam _ (Qai (Qac (Qac (Qac (Qac (s) 1) 1) 32) 32) 32)))]; rfl)) (QaC _ (by intro a ha; simp only [List.mem_cons, List.not_mem_nil, or_false] at ha; rcases ha with rfl | rfl | rfl | rfl | rfl | rfl; exact (Qak _ rfl); exact (Qak _ rfl); exact (Qan _ _); exact (Qan _ _); exact (Qan _ _); exact (Qak _ rfl)))) fun W13 p13 r2_13 => ?_
  have x13 : ExtB gr w W13 := ExtB.putsN x12 p13 b2
  refine Qaf ?_
  refine hK22 _ _ ?_
  refine wp_ret ?_
  repeat (first | with_reducible refine goR1 ?_ | with_reducible refine goR2 ?_)
  have rs23 := (RSt.put rs21 hB p13 (Nat.lt_of_lt_of_le hgr b2))
  have f24_11 := (f19_10.ext e11)
  have f25_12 := (Qbe f24_11 q12 (Qbf f24_11 (Nat.lt_of_lt_of_le hgr x6.2.2.2.1)))
  have f26_13 := (f25_12.puts p13 (Qbf hox (Qa5 r2_6)))
  exact (show bodyPost _ _ _ .ret _ _ from ret1 (.agg (cat [#[.bool false], #[.int .i64 ((bigN (Qag (Qac (s) 1) 1) : Nat) : Int)], ints .u8 (keyV (Qag (Qac (Qac (s) 1) 1) 32)), ints .u8 (keyV (Qag (Qac (Qac (Qac (s) 1) 1) 32) 32)), ints .u8 (keyV (Qag (Qac (Qac (Qac (Qac (s) 1) 1) 32) 32) 32)), #[.slice ax xs.length cx]])) rfl (QaR g2 43 _ r2_13 kj kj (isz (n := 99) kj (by rw [Qaa, Qaa, Qaa, Qaa, Qaa, Qaa]; simp only [Array.size_append, cat, ((Qad _ _).trans (Qam _ (Qai (Qac (Qac (s) 1) 1) 32))), ((Qad _ _).trans (Qam _ (Qai (Qac (Qac (Qac (s) 1) 1) 32) 32))), ((Qad _ _).trans (Qam _ (Qai (Qac (Qac (Qac (Qac (s) 1) 1) 32) 32) 32)))]; rfl))) ⟨_, xs, rfl, x13, rs23, ⟨ax, cx, rfl, OwnN.base x6.2.2.2.1 f26_13⟩, hlx, hxx⟩)
end Go.Proofs.Ytfelfmchachljaa.Wr
end
section
namespace Go.Proofs.Ytfelfmchachljaa.Wr
open Go Go.RowKit
open Rely Auto Own Sha
set_option linter.unusedVariables false
set_option linter.unusedSimpArgs false
def QbK (s : Option (List Int)) (ms : List Int) : Option (List Int) := ms.foldl QaE (numS s ((ms.length : Nat) : Int) 1)
theorem Qc7 (n : Int) : QaE none n = none := by rw [QbW]; cases inB n 31 <;> rfl
theorem Qbg : ∀ ms : List Int, ms.foldl QaE none = none
  | [] => rfl
  | m :: r => by rw [List.foldl_cons, Qc7]; exact Qbg r
theorem QeY (ms : List Int) (i : Nat) (h : i < ms.length) : ms.drop i = nth ms i :: ms.drop (i + 1) := by
  rw [List.drop_eq_getElem_cons h]
  congr 1
  unfold nth
  rw [List.getD_eq_getElem?_getD, List.getElem?_eq_getElem h]
  rfl
theorem Qck {k : IntKind} {base gw : Nat} {w W : World} {ys : List Int} {v : Value} (h : RdK k base ys v w) (q : GW base gw w W) (hb : base ≤ gw) : RdK k base ys v W := h.keep q.size fun g hg hl => q.block g hl (by omega) (.inl hg)
set_option maxHeartbeats 4000000 in
theorem Qdp (base gw : Nat) (s : Option (List Int)) (ms : List Int) (a_m : Option Addr) (c_m : Nat) (w : World) (hbw : base ≤ w.heap.size) (hbg : base ≤ gw) (h : WSt base gw s w) (hml : ms.length ≤ 1000000) (hm : RdK .i64 base ms (.slice a_m ms.length c_m) w) : Calls Try.prog 122 #[.pointer (some ⟨gw, 0, none⟩), .slice a_m ms.length c_m, .func (.func 106) #[] #[]] w (fun e W => e = .returned (.tuple #[]) ∧ GW base gw w W ∧ WSt base gw (QbK s ms) W) := by
 have hgw := h.lt
 refine enter 27 [(0, .pointer (some ⟨gw, 0, none⟩)), (1, .slice a_m ms.length c_m), (2, .func (.func 106) #[] #[])] Try.func122 rfl rfl kj rfl ?_
 refine wp_seq_k fun K1 hK1 => ?_
 refine Qae ?_
 refine Qab (.pointer (some ⟨gw, 0, none⟩)) 8 rfl kj kj ?_
 refine Qab (.slice a_m ms.length c_m) 9 rfl kj kj ?_
 refine Qab (.int .i64 ((ms.length : Nat) : Int)) 10 rfl kj kj ?_
 refine Qah (fun v W' => v = .tuple #[] ∧ GW base gw w W' ∧ WSt base gw (numS s ((ms.length : Nat) : Int) 1) W') 105 #[.pointer (some ⟨gw, 0, none⟩), .int .i64 ((ms.length : Nat) : Int), .int .i64 1] 11 rfl kj kj ((QaW base gw s ((ms.length : Nat) : Int) 1 _ (Nat.le_trans hbw (GW.refl base gw w).size) h (by decide)).mono (by rintro e w' ⟨rfl, h1, h2⟩; exact ⟨_, rfl, rfl, h1, h2⟩)) fun v2 W1 h2 => ?_
 obtain ⟨rfl, q1, ws2⟩ := h2
 have x1 : GW base gw w W1 := GW.trans (GW.refl base gw w) q1
 refine Qaf ?_
 refine hK1 _ _ ?_
 refine wp_seq_k fun K3 hK3 => ?_
 refine Qae ?_
 refine Qab (.slice a_m ms.length c_m) 12 rfl kj kj ?_
 refine Qab (.int .i64 ((ms.length : Nat) : Int)) 13 rfl kj kj ?_
 refine Qab (.int .i64 0) 14 rfl kj kj ?_
 refine Qaf ?_
 refine hK3 _ _ ?_
 refine wp_block ?_
 refine QaX (fun (s1 : Nat × Option (List Int)) => [(0, .pointer (some ⟨gw, 0, none⟩)), (2, .func (.func 106) #[] #[]), (12, .slice a_m ms.length c_m), (13, .int .i64 ((ms.length : Nat) : Int)), (14, .int .i64 ((s1.1 : Nat) : Int))]) (fun (s1 : Nat × Option (List Int)) W => (s1.1 ≤ ms.length) ∧ (WSt base gw s1.2 W) ∧ ((ms.drop s1.1).foldl QaE s1.2 = QbK s ms) ∧ (GW base gw w W)) (fun (s1 : Nat × Option (List Int)) => ms.length - s1.1) (0, numS s ((ms.length : Nat) : Int) 1) ⟨rfl, rfl, rfl, rfl, rfl, trivial⟩ ⟨(Nat.zero_le _), ws2, rfl, x1⟩ fun s1 X1 V1 hI1 => ?_
 obtain ⟨i, sc⟩ := s1
 obtain ⟨hi, hws, hnum, xx1⟩ := hI1
 replace hi : i ≤ ms.length := hi
 replace hws : WSt base gw sc V1 := hws
 replace hnum : (ms.drop i).foldl QaE sc = QbK s ms := hnum
 replace xx1 : GW base gw w V1 := xx1
 refine wp_seq_k fun K4 hK4 => ?_
 refine Qae ?_
 refine Qab (.bool (decide (((i : Nat) : Int) < ((ms.length : Nat) : Int)))) 15 rfl kj kj ?_
 refine Qaf ?_
 refine hK4 _ _ ?_
 refine wp_seq_k fun K5 hK5 => ?_
 refine Qa7 (t := decide (((i : Nat) : Int) < ((ms.length : Nat) : Int))) kj (fun c6 => ?_) (fun c6 => ?_)
 ·skip
  have hlt15 : i < ms.length := by have := of_decide_eq_true c6; omega
  have hnm_7 : (ms).length = ms.length := rfl
  obtain ⟨gcm_7, ocm_7, ham_7, hlm_7, hcm_7⟩ := Qd7 (RdK.here (Qck hm xx1 hbg)) (by rw [hnm_7]; omega)
  obtain ⟨u8, xs8, bad, rb8, -, -, -, hsc⟩ := id hws
  refine wp_skip ?_
  refine hK5 _ _ ?_
  refine wp_seq_k fun K10 hK10 => ?_
  refine wp_block ?_
  refine wp_seq_k fun K11 hK11 => ?_
  refine Qae ?_
  refine Qab (.pointer (some ⟨gcm_7, ocm_7 + i, none⟩)) 16 rfl kj (Qce 41 _ _ .i64 i gcm_7 ocm_7 ms.length c_m 3 a_m _ ham_7 rfl rfl kj kj kj kj (Nat.lt_of_lt_of_eq (show i < ms.length by omega) hnm_7.symm)) ?_
  refine Qab (.int .i64 (nth (ms) (i))) 17 rfl kj (QbG 3 _ _ (.int .i64 (nth (ms) (i))) (hcm_7 i (Nat.lt_of_lt_of_eq (show i < ms.length by omega) hnm_7.symm)) rfl kj kj) ?_
  refine Qab (.int .i64 (nth (ms) (i))) 7 rfl kj kj ?_
  refine Qaf ?_
  refine hK11 _ _ ?_
  refine wp_seq_k fun K12 hK12 => ?_
  refine wp_seq_k fun K13 hK13 => ?_
  refine Qae ?_
  refine Qab (.pointer (some ⟨gw, 0, none⟩)) 18 rfl kj kj ?_
  refine Qab (.pointer (some ⟨gw, 0, none⟩)) 19 rfl kj kj ?_
  refine Qab (.pointer (some ⟨gw, 1, none⟩)) 20 rfl kj kj ?_
  refine Qab (.bool bad) 21 rfl kj (Qal 4 _ gw 1 174 _ (.bool bad) _ rb8 rfl kj kj kj) ?_
  refine Qaf ?_
  refine hK13 _ _ ?_
  refine Qa7 (t := bad) kj (fun c14 => ?_) (fun c14 => ?_)
  ·skip
   have hbad : bad = true := c14
   have h9 : sc = none := by rw [hsc, hbad]; rfl
   have h8 : QbK s ms = none := by rw [← hnum, h9]; exact Qbg _
   refine wp_ret ?_
   repeat (first | with_reducible refine goR1 ?_ | with_reducible refine goR2 ?_)
   exact (show bodyPost _ _ _ .ret _ _ from ret0 rfl ⟨rfl, xx1, by rw [h8]; rw [h9] at hws; exact hws⟩)
  ·skip
   refine wp_skip ?_
   refine hK12 _ _ ?_
   refine Qae ?_
   refine Qab (.func (.func 106) #[] #[]) 22 rfl kj kj ?_
   refine Qab (.pointer (some ⟨gw, 0, none⟩)) 23 rfl kj kj ?_
   refine Qab (.int .i64 (nth (ms) (i))) 24 rfl kj kj ?_
   refine Qah (fun v W' => v = .tuple #[] ∧ GW base gw V1 W' ∧ WSt base gw (QaE sc (nth ms i)) W') 106 #[.pointer (some ⟨gw, 0, none⟩), .int .i64 (nth (ms) (i))] 25 rfl kj kj ((QdG base gw sc (nth ms i) _ (Nat.le_trans hbw xx1.size) hws).mono (by rintro e w' ⟨rfl, h1, h2⟩; exact ⟨_, rfl, rfl, h1, h2⟩)) fun v15 W3 h15 => ?_
   obtain ⟨rfl, q3, ws15⟩ := h15
   have x3 : GW base gw w W3 := GW.trans xx1 q3
   refine Qaf ?_
   refine hK10 _ _ ?_
   refine Qae ?_
   refine Qab (.int .i64 ((i + 1 : Nat) : Int)) 26 rfl kj (Qa0 (u := .int .i64 (IntKind.i64.wrap (((i : Nat) : Int) + 1))) kj (congrArg (Value.int .i64) (i64n _ _ (by omega) (by omega)))) ?_
   refine Qab (.int .i64 ((i + 1 : Nat) : Int)) 14 rfl kj kj ?_
   refine Qaf ?_
   repeat (first | with_reducible refine goX1 ?_ | with_reducible refine goX2 ?_ | with_reducible refine goX3 ?_)
   exact QaU ((i + 1), QaE sc (nth ms i)) ⟨rfl, rfl, rfl, rfl, rfl, trivial⟩ ⟨(by omega), ws15, (by rw [← hnum, QeY ms i hlt15]; rfl), x3⟩ (by omega)
 ·skip
  have heq15 : i = ms.length := by have := of_decide_eq_false c6; omega
  refine wp_exit ?_
  repeat (first | with_reducible refine goX1 ?_ | with_reducible refine goX2 ?_ | with_reducible refine goX3 ?_)
  exact (show bodyPost _ _ _ .normal _ _ from end0 rfl ⟨rfl, xx1, by have h9 : sc = QbK s ms := (by have h7 := hnum; rw [heq15, List.drop_length] at h7; exact h7); rw [h9] at hws; exact hws⟩)
end Go.Proofs.Ytfelfmchachljaa.Wr
end
section
namespace Go.Proofs.Ytfelfmchachljaa.Wr
open Go Go.RowKit
open Rely Auto Own Sha
set_option linter.unusedVariables false
set_option linter.unusedSimpArgs false
def QbM (s : Option (List Int)) (us : Bool) (nm : Int) (key sg pa ms : List Int) : Option (List Int) :=
  QbK (Qax (rawS (rawS (rawS (numS (bif us then numS s 1 1 else numS (Qax s (QaB us nm key sg pa ms)) 0 1) nm 1) key) sg) pa) (risV ms)) ms
set_option maxHeartbeats 4000000 in
theorem Qfm (base gw : Nat) (s : Option (List Int)) (nm : Int) (key sg pa ms : List Int) (a_m : Option Addr) (c_m : Nat) (w : World) (hbw : base ≤ w.heap.size) (hbg : base ≤ gw) (h : WSt base gw s w) (hkl : key.length = 32) (hgl : sg.length = 32) (hpl : pa.length = 32) (hkb : Qao key) (hgb : Qao sg) (hpb : Qao pa) (hml : ms.length ≤ 1000000) (hm : RdK .i64 base ms (.slice a_m ms.length c_m) w) : Calls Try.prog 95 #[.pointer (some ⟨gw, 0, none⟩), .agg (cat [#[.bool true], #[.int .i64 nm], ints .u8 (key), ints .u8 (sg), ints .u8 (pa), #[.slice a_m ms.length c_m]])] w (fun e W => e = .returned (.tuple #[]) ∧ GW base gw w W ∧ WSt base gw (QbM s true nm key sg pa ms) W) := by
  have hgw := h.lt
  refine enter 39 [(0, .pointer (some ⟨gw, 0, none⟩)), (1, .agg (cat [#[.bool true], #[.int .i64 nm], ints .u8 (key), ints .u8 (sg), ints .u8 (pa), #[.slice a_m ms.length c_m]]))] Try.func95 rfl rfl kj rfl ?_
  refine wp_seq_k fun K1 hK1 => ?_
  refine Qae ?_
  refine Qar (cat [#[.bool true], #[.int .i64 nm], ints .u8 (key), ints .u8 (sg), ints .u8 (pa), #[.slice a_m ms.length c_m]]) 43 3 rfl kj kj fun g2 W1 l2 e1 r2_1 => ?_
  have x1 : GW base gw w W1 := GW.ext (GW.refl base gw w) e1
  have ws3 := WSt.ext h e1
  have b2 : w.heap.size ≤ g2 := Nat.le_trans (GW.refl base gw w).size l2
  refine Qaf ?_
  refine hK1 _ _ ?_
  refine wp_seq_k fun K4 hK4 => ?_
  refine wp_seq_k fun K5 hK5 => ?_
  refine Qae ?_
  refine Qab (.pointer (some ⟨g2, 0, none⟩)) 4 rfl kj kj ?_
  refine Qab (.bool true) 5 rfl kj (Qal 4 _ g2 0 43 _ (.bool true) _ r2_1 rfl kj (Qaq [] [#[.bool true]] [#[.int .i64 nm], ints .u8 (key), ints .u8 (sg), ints .u8 (pa), #[.slice a_m ms.length c_m]] 0 kj 0 _ rfl) kj) ?_
  refine Qaf ?_
  refine hK5 _ _ ?_
  refine cond_true kj ?_
  refine Qae ?_
  refine Qab (.pointer (some ⟨gw, 0, none⟩)) 6 rfl kj kj ?_
  refine Qah (fun v W' => v = .tuple #[] ∧ GW base gw W1 W' ∧ WSt base gw (numS (s) 1 1) W') 105 #[.pointer (some ⟨gw, 0, none⟩), .int .i64 1, .int .i64 1] 7 rfl kj kj ((QaW base gw _ 1 1 _ (Nat.le_trans hbw x1.size) ws3 (by decide)).mono (by rintro e w' ⟨rfl, h1, h2⟩; exact ⟨_, rfl, rfl, h1, h2⟩)) fun v6 W2 h6 => ?_
  obtain ⟨rfl, q2, ws6⟩ := h6
  have x2 : GW base gw w W2 := GW.trans x1 q2
  refine Qaf ?_
  refine hK4 _ _ ?_
  refine wp_seq_k fun K7 hK7 => ?_
  refine Qae ?_
  refine Qab (.pointer (some ⟨gw, 0, none⟩)) 14 rfl kj kj ?_
  refine Qab (.pointer (some ⟨g2, 1, none⟩)) 15 rfl kj kj ?_
  have r2_2 := (GW.row q2 r2_1 (by decide) (Ne.symm (Nat.ne_of_lt (Nat.lt_of_lt_of_le hgw b2))))
  refine Qab (.int .i64 nm) 16 rfl kj (Qal 3 _ g2 1 43 _ (.int .i64 nm) _ r2_2 rfl kj (Qaq [#[.bool true]] [#[.int .i64 nm]] [ints .u8 (key), ints .u8 (sg), ints .u8 (pa), #[.slice a_m ms.length c_m]] 1 kj 0 _ rfl) kj) ?_
  refine Qah (fun v W' => v = .tuple #[] ∧ GW base gw W2 W' ∧ WSt base gw (numS (numS (s) 1 1) nm 1) W') 105 #[.pointer (some ⟨gw, 0, none⟩), .int .i64 nm, .int .i64 1] 17 rfl kj kj ((QaW base gw _ nm 1 _ (Nat.le_trans hbw x2.size) ws6 (by decide)).mono (by rintro e w' ⟨rfl, h1, h2⟩; exact ⟨_, rfl, rfl, h1, h2⟩)) fun v8 W3 h8 => ?_
  obtain ⟨rfl, q3, ws8⟩ := h8
  have x3 : GW base gw w W3 := GW.trans x2 q3
  refine Qaf ?_
  refine hK7 _ _ ?_
  refine wp_seq_k fun K9 hK9 => ?_
  refine Qae ?_
  refine Qab (.pointer (some ⟨gw, 0, none⟩)) 18 rfl kj kj ?_
  refine Qab (.pointer (some ⟨g2, 2, none⟩)) 19 rfl kj kj ?_
  refine Qab (.slice (some ⟨g2, 2, none⟩) 32 32) 20 rfl kj kj ?_
  have r2_3 := (GW.row q3 r2_2 (by decide) (Ne.symm (Nat.ne_of_lt (Nat.lt_of_lt_of_le hgw b2))))
  refine Qah (fun v W' => v = .tuple #[] ∧ GW base gw W3 W' ∧ WSt base gw (rawS (numS (numS (s) 1 1) nm 1) key) W') 104 #[.pointer (some ⟨gw, 0, none⟩), .slice (some ⟨g2, 2, none⟩) 32 32] 21 rfl kj kj ((rawW base gw _ key _ _ (Nat.le_trans hbw x3.size) ws8 (by omega) hkb (fun W e => (QaS 2 hkl (ExtB.row e r2_3 (Ne.symm (Nat.ne_of_lt (Nat.lt_of_lt_of_le hgw b2)))) (fun i hi => QaJ [#[.bool true], #[.int .i64 nm]] [ints .u8 (sg), ints .u8 (pa), #[.slice a_m ms.length c_m]] key 2 i (2 + i) kj rfl (by rw [hkl]; exact hi)) (Qa5 (ExtB.row e r2_3 (Ne.symm (Nat.ne_of_lt (Nat.lt_of_lt_of_le hgw b2))))) (Nat.le_refl _) (by decide)))).mono (by rintro e w' ⟨rfl, h1, h2⟩; exact ⟨_, rfl, rfl, h1, h2⟩)) fun v10 W4 h10 => ?_
  obtain ⟨rfl, q4, ws10⟩ := h10
  have x4 : GW base gw w W4 := GW.trans x3 q4
  refine Qaf ?_
  refine hK9 _ _ ?_
  refine wp_seq_k fun K11 hK11 => ?_
  refine Qae ?_
  refine Qab (.pointer (some ⟨gw, 0, none⟩)) 22 rfl kj kj ?_
  refine Qab (.pointer (some ⟨g2, 34, none⟩)) 23 rfl kj kj ?_
  refine Qab (.slice (some ⟨g2, 34, none⟩) 32 32) 24 rfl kj kj ?_
  have r2_4 := (GW.row q4 r2_3 (by decide) (Ne.symm (Nat.ne_of_lt (Nat.lt_of_lt_of_le hgw b2))))
  refine Qah (fun v W' => v = .tuple #[] ∧ GW base gw W4 W' ∧ WSt base gw (rawS (rawS (numS (numS (s) 1 1) nm 1) key) sg) W') 104 #[.pointer (some ⟨gw, 0, none⟩), .slice (some ⟨g2, 34, none⟩) 32 32] 25 rfl kj kj ((rawW base gw _ sg _ _ (Nat.le_trans hbw x4.size) ws10 (by omega) hgb (fun W e => (QaS 34 hgl (ExtB.row e r2_4 (Ne.symm (Nat.ne_of_lt (Nat.lt_of_lt_of_le hgw b2)))) (fun i hi => QaJ [#[.bool true], #[.int .i64 nm], ints .u8 (key)] [ints .u8 (pa), #[.slice a_m ms.length c_m]] sg 34 i (34 + i) (by rw [Qaa, Qaa, Qaa]; simp only [Array.size_append, cat, ((Qad _ _).trans hkl)]; rfl) rfl (by rw [hgl]; exact hi)) (Qa5 (ExtB.row e r2_4 (Ne.symm (Nat.ne_of_lt (Nat.lt_of_lt_of_le hgw b2))))) (Nat.le_refl _) (by decide)))).mono (by rintro e w' ⟨rfl, h1, h2⟩; exact ⟨_, rfl, rfl, h1, h2⟩)) fun v12 W5 h12 => ?_
  obtain ⟨rfl, q5, ws12⟩ := h12
  have x5 : GW base gw w W5 := GW.trans x4 q5
  refine Qaf ?_
  refine hK11 _ _ ?_
  refine wp_seq_k fun K13 hK13 => ?_
  refine Qae ?_
  refine Qab (.pointer (some ⟨gw, 0, none⟩)) 26 rfl kj kj ?_
  refine Qab (.pointer (some ⟨g2, 66, none⟩)) 27 rfl kj kj ?_
  refine Qab (.slice (some ⟨g2, 66, none⟩) 32 32) 28 rfl kj kj ?_
  have r2_5 := (GW.row q5 r2_4 (by decide) (Ne.symm (Nat.ne_of_lt (Nat.lt_of_lt_of_le hgw b2))))
  refine Qah (fun v W' => v = .tuple #[] ∧ GW base gw W5 W' ∧ WSt base gw (rawS (rawS (rawS (numS (numS (s) 1 1) nm 1) key) sg) pa) W') 104 #[.pointer (some ⟨gw, 0, none⟩), .slice (some ⟨g2, 66, none⟩) 32 32] 29 rfl kj kj ((rawW base gw _ pa _ _ (Nat.le_trans hbw x5.size) ws12 (by omega) hpb (fun W e => (QaS 66 hpl (ExtB.row e r2_5 (Ne.symm (Nat.ne_of_lt (Nat.lt_of_lt_of_le hgw b2)))) (fun i hi => QaJ [#[.bool true], #[.int .i64 nm], ints .u8 (key), ints .u8 (sg)] [#[.slice a_m ms.length c_m]] pa 66 i (66 + i) (by rw [Qaa, Qaa, Qaa, Qaa]; simp only [Array.size_append, cat, ((Qad _ _).trans hgl), ((Qad _ _).trans hkl)]; rfl) rfl (by rw [hpl]; exact hi)) (Qa5 (ExtB.row e r2_5 (Ne.symm (Nat.ne_of_lt (Nat.lt_of_lt_of_le hgw b2))))) (Nat.le_refl _) (by decide)))).mono (by rintro e w' ⟨rfl, h1, h2⟩; exact ⟨_, rfl, rfl, h1, h2⟩)) fun v14 W6 h14 => ?_
  obtain ⟨rfl, q6, ws14⟩ := h14
  have x6 : GW base gw w W6 := GW.trans x5 q6
  refine Qaf ?_
  refine hK13 _ _ ?_
  refine wp_seq_k fun K15 hK15 => ?_
  refine Qae ?_
  refine Qab (.pointer (some ⟨gw, 0, none⟩)) 30 rfl kj kj ?_
  refine Qab (.pointer (some ⟨g2, 98, none⟩)) 31 rfl kj kj ?_
  have r2_6 := (GW.row q6 r2_5 (by decide) (Ne.symm (Nat.ne_of_lt (Nat.lt_of_lt_of_le hgw b2))))
  refine Qab (.slice a_m ms.length c_m) 32 rfl kj (Qal 41 _ g2 98 43 _ (.slice a_m ms.length c_m) _ r2_6 rfl kj (Qaq [#[.bool true], #[.int .i64 nm], ints .u8 (key), ints .u8 (sg), ints .u8 (pa)] [#[.slice a_m ms.length c_m]] [] 98 (by rw [Qaa, Qaa, Qaa, Qaa, Qaa]; simp only [Array.size_append, cat, ((Qad _ _).trans hgl), ((Qad _ _).trans hkl), ((Qad _ _).trans hpl)]; rfl) 0 _ rfl) kj) ?_
  refine Qa8 (.bool (risV ms)) 121 #[.slice a_m ms.length c_m] 33 rfl kj kj (QcZ ms _ _ _ _ hml (Qck hm x6 hbg)) fun W7 e7 => ?_
  have x7 : GW base gw w W7 := GW.ext x6 e7
  have ws16 := WSt.ext ws14 e7
  refine Qah (fun v W' => v = .tuple #[] ∧ GW base gw W7 W' ∧ WSt base gw (Qax (rawS (rawS (rawS (numS (numS (s) 1 1) nm 1) key) sg) pa) (risV ms)) W') 98 #[.pointer (some ⟨gw, 0, none⟩), .bool (risV ms)] 34 rfl kj kj ((QbA base gw _ (risV ms) _ ws16).mono (by rintro e w' ⟨rfl, h1, h2⟩; exact ⟨_, rfl, rfl, h1, h2⟩)) fun v17 W8 h17 => ?_
  obtain ⟨rfl, q8, ws17⟩ := h17
  have x8 : GW base gw w W8 := GW.trans x7 q8
  refine Qaf ?_
  refine hK15 _ _ ?_
  refine Qae ?_
  refine Qab (.pointer (some ⟨gw, 0, none⟩)) 35 rfl kj kj ?_
  refine Qab (.pointer (some ⟨g2, 98, none⟩)) 36 rfl kj kj ?_
  have r2_7 := (Qau r2_6 e7)
  have r2_8 := (GW.row q8 r2_7 (by decide) (Ne.symm (Nat.ne_of_lt (Nat.lt_of_lt_of_le hgw b2))))
  refine Qab (.slice a_m ms.length c_m) 37 rfl kj (Qal 41 _ g2 98 43 _ (.slice a_m ms.length c_m) _ r2_8 rfl kj (Qaq [#[.bool true], #[.int .i64 nm], ints .u8 (key), ints .u8 (sg), ints .u8 (pa)] [#[.slice a_m ms.length c_m]] [] 98 (by rw [Qaa, Qaa, Qaa, Qaa, Qaa]; simp only [Array.size_append, cat, ((Qad _ _).trans hgl), ((Qad _ _).trans hkl), ((Qad _ _).trans hpl)]; rfl) 0 _ rfl) kj) ?_
  refine Qah (fun v W' => v = .tuple #[] ∧ GW base gw W8 W' ∧ WSt base gw (QbK (Qax (rawS (rawS (rawS (numS (numS (s) 1 1) nm 1) key) sg) pa) (risV ms)) ms) W') 122 #[.pointer (some ⟨gw, 0, none⟩), .slice a_m ms.length c_m, .func (.func 106) #[] #[]] 38 rfl kj kj ((Qdp base gw _ ms _ _ _ (Nat.le_trans hbw x8.size) hbg ws17 hml (Qck hm x8 hbg)).mono (by rintro e w' ⟨rfl, h1, h2⟩; exact ⟨_, rfl, rfl, h1, h2⟩)) fun v18 W9 h18 => ?_
  obtain ⟨rfl, q9, ws18⟩ := h18
  have x9 : GW base gw w W9 := GW.trans x8 q9
  refine Qaf ?_
  repeat (first | with_reducible refine goX1 ?_ | with_reducible refine goX2 ?_ | with_reducible refine goX3 ?_)
  exact (show bodyPost _ _ _ .normal _ _ from end0 rfl ⟨rfl, x9, ws18⟩)
set_option maxHeartbeats 4000000 in
theorem Qe8 (base gw : Nat) (s : Option (List Int)) (nm : Int) (key sg pa ms : List Int) (a_m : Option Addr) (c_m : Nat) (w : World) (hbw : base ≤ w.heap.size) (hbg : base ≤ gw) (h : WSt base gw s w) (hkl : key.length = 32) (hgl : sg.length = 32) (hpl : pa.length = 32) (hkb : Qao key) (hgb : Qao sg) (hpb : Qao pa) (hml : ms.length ≤ 1000000) (hm : RdK .i64 base ms (.slice a_m ms.length c_m) w) : Calls Try.prog 95 #[.pointer (some ⟨gw, 0, none⟩), .agg (cat [#[.bool false], #[.int .i64 nm], ints .u8 (key), ints .u8 (sg), ints .u8 (pa), #[.slice a_m ms.length c_m]])] w (fun e W => e = .returned (.tuple #[]) ∧ GW base gw w W ∧ WSt base gw (QbM s false nm key sg pa ms) W) := by
  have hgw := h.lt
  refine enter 39 [(0, .pointer (some ⟨gw, 0, none⟩)), (1, .agg (cat [#[.bool false], #[.int .i64 nm], ints .u8 (key), ints .u8 (sg), ints .u8 (pa), #[.slice a_m ms.length c_m]]))] Try.func95 rfl rfl kj rfl ?_
  refine wp_seq_k fun K1 hK1 => ?_
  refine Qae ?_
  refine Qar (cat [#[.bool false], #[.int .i64 nm], ints .u8 (key), ints .u8 (sg), ints .u8 (pa), #[.slice a_m ms.length c_m]]) 43 3 rfl kj kj fun g2 W1 l2 e1 r2_1 => ?_
  have x1 : GW base gw w W1 := GW.ext (GW.refl base gw w) e1
  have ws3 := WSt.ext h e1
  have b2 : w.heap.size ≤ g2 := Nat.le_trans (GW.refl base gw w).size l2
  refine Qaf ?_
  refine hK1 _ _ ?_
  refine wp_seq_k fun K4 hK4 => ?_
  refine wp_seq_k fun K5 hK5 => ?_
  refine Qae ?_
  refine Qab (.pointer (some ⟨g2, 0, none⟩)) 4 rfl kj kj ?_
  refine Qab (.bool false) 5 rfl kj (Qal 4 _ g2 0 43 _ (.bool false) _ r2_1 rfl kj (Qaq [] [#[.bool false]] [#[.int .i64 nm], ints .u8 (key), ints .u8 (sg), ints .u8 (pa), #[.slice a_m ms.length c_m]] 0 kj 0 _ rfl) kj) ?_
  refine Qaf ?_
  refine hK5 _ _ ?_
  refine cond_false kj ?_
  refine wp_seq_k fun K6 hK6 => ?_
  refine Qae ?_
  refine Qab (.pointer (some ⟨gw, 0, none⟩)) 8 rfl kj kj ?_
  refine Qab (.agg (cat [#[.bool false], #[.int .i64 nm], ints .u8 (key), ints .u8 (sg), ints .u8 (pa), #[.slice a_m ms.length c_m]])) 9 rfl kj (Qaz 43 _ g2 43 _ _ r2_1 rfl kj kj (isz (n := 99) kj (by rw [Qaa, Qaa, Qaa, Qaa, Qaa, Qaa]; simp only [Array.size_append, cat, ((Qad _ _).trans hgl), ((Qad _ _).trans hkl), ((Qad _ _).trans hpl)]; rfl))) ?_
  refine Qa8 (.bool (QaB false nm key sg pa ms)) 107 #[.agg (cat [#[.bool false], #[.int .i64 nm], ints .u8 (key), ints .u8 (sg), ints .u8 (pa), #[.slice a_m ms.length c_m]])] 10 rfl kj kj (Qek false nm key sg pa ms _ _ _ hkl hgl hpl) fun W2 e2 => ?_
  have x2 : GW base gw w W2 := GW.ext x1 e2
  have ws7 := WSt.ext ws3 e2
  refine Qah (fun v W' => v = .tuple #[] ∧ GW base gw W2 W' ∧ WSt base gw (Qax (s) (QaB false nm key sg pa ms)) W') 98 #[.pointer (some ⟨gw, 0, none⟩), .bool (QaB false nm key sg pa ms)] 11 rfl kj kj ((QbA base gw _ (QaB false nm key sg pa ms) _ ws7).mono (by rintro e w' ⟨rfl, h1, h2⟩; exact ⟨_, rfl, rfl, h1, h2⟩)) fun v8 W3 h8 => ?_
  obtain ⟨rfl, q3, ws8⟩ := h8
  have x3 : GW base gw w W3 := GW.trans x2 q3
  refine Qaf ?_
  refine hK6 _ _ ?_
  refine Qae ?_
  refine Qab (.pointer (some ⟨gw, 0, none⟩)) 12 rfl kj kj ?_
  refine Qah (fun v W' => v = .tuple #[] ∧ GW base gw W3 W' ∧ WSt base gw (numS (Qax (s) (QaB false nm key sg pa ms)) 0 1) W') 105 #[.pointer (some ⟨gw, 0, none⟩), .int .i64 0, .int .i64 1] 13 rfl kj kj ((QaW base gw _ 0 1 _ (Nat.le_trans hbw x3.size) ws8 (by decide)).mono (by rintro e w' ⟨rfl, h1, h2⟩; exact ⟨_, rfl, rfl, h1, h2⟩)) fun v9 W4 h9 => ?_
  obtain ⟨rfl, q4, ws9⟩ := h9
  have x4 : GW base gw w W4 := GW.trans x3 q4
  refine Qaf ?_
  refine hK4 _ _ ?_
  refine wp_seq_k fun K10 hK10 => ?_
  refine Qae ?_
  refine Qab (.pointer (some ⟨gw, 0, none⟩)) 14 rfl kj kj ?_
  refine Qab (.pointer (some ⟨g2, 1, none⟩)) 15 rfl kj kj ?_
  have r2_2 := (Qau r2_1 e2)
  have r2_3 := (GW.row q3 r2_2 (by decide) (Ne.symm (Nat.ne_of_lt (Nat.lt_of_lt_of_le hgw b2))))
  have r2_4 := (GW.row q4 r2_3 (by decide) (Ne.symm (Nat.ne_of_lt (Nat.lt_of_lt_of_le hgw b2))))
  refine Qab (.int .i64 nm) 16 rfl kj (Qal 3 _ g2 1 43 _ (.int .i64 nm) _ r2_4 rfl kj (Qaq [#[.bool false]] [#[.int .i64 nm]] [ints .u8 (key), ints .u8 (sg), ints .u8 (pa), #[.slice a_m ms.length c_m]] 1 kj 0 _ rfl) kj) ?_
  refine Qah (fun v W' => v = .tuple #[] ∧ GW base gw W4 W' ∧ WSt base gw (numS (numS (Qax (s) (QaB false nm key sg pa ms)) 0 1) nm 1) W') 105 #[.pointer (some ⟨gw, 0, none⟩), .int .i64 nm, .int .i64 1] 17 rfl kj kj ((QaW base gw _ nm 1 _ (Nat.le_trans hbw x4.size) ws9 (by decide)).mono (by rintro e w' ⟨rfl, h1, h2⟩; exact ⟨_, rfl, rfl, h1, h2⟩)) fun v11 W5 h11 => ?_
  obtain ⟨rfl, q5, ws11⟩ := h11
  have x5 : GW base gw w W5 := GW.trans x4 q5
  refine Qaf ?_
  refine hK10 _ _ ?_
  refine wp_seq_k fun K12 hK12 => ?_
  refine Qae ?_
  refine Qab (.pointer (some ⟨gw, 0, none⟩)) 18 rfl kj kj ?_
  refine Qab (.pointer (some ⟨g2, 2, none⟩)) 19 rfl kj kj ?_
  refine Qab (.slice (some ⟨g2, 2, none⟩) 32 32) 20 rfl kj kj ?_
  have r2_5 := (GW.row q5 r2_4 (by decide) (Ne.symm (Nat.ne_of_lt (Nat.lt_of_lt_of_le hgw b2))))
  refine Qah (fun v W' => v = .tuple #[] ∧ GW base gw W5 W' ∧ WSt base gw (rawS (numS (numS (Qax (s) (QaB false nm key sg pa ms)) 0 1) nm 1) key) W') 104 #[.pointer (some ⟨gw, 0, none⟩), .slice (some ⟨g2, 2, none⟩) 32 32] 21 rfl kj kj ((rawW base gw _ key _ _ (Nat.le_trans hbw x5.size) ws11 (by omega) hkb (fun W e => (QaS 2 hkl (ExtB.row e r2_5 (Ne.symm (Nat.ne_of_lt (Nat.lt_of_lt_of_le hgw b2)))) (fun i hi => QaJ [#[.bool false], #[.int .i64 nm]] [ints .u8 (sg), ints .u8 (pa), #[.slice a_m ms.length c_m]] key 2 i (2 + i) kj rfl (by rw [hkl]; exact hi)) (Qa5 (ExtB.row e r2_5 (Ne.symm (Nat.ne_of_lt (Nat.lt_of_lt_of_le hgw b2))))) (Nat.le_refl _) (by decide)))).mono (by rintro e w' ⟨rfl, h1, h2⟩; exact ⟨_, rfl, rfl, h1, h2⟩)) fun v13 W6 h13 => ?_
  obtain ⟨rfl, q6, ws13⟩ := h13
  have x6 : GW base gw w W6 := GW.trans x5 q6
  refine Qaf ?_
  refine hK12 _ _ ?_
  refine wp_seq_k fun K14 hK14 => ?_
  refine Qae ?_
  refine Qab (.pointer (some ⟨gw, 0, none⟩)) 22 rfl kj kj ?_
  refine Qab (.pointer (some ⟨g2, 34, none⟩)) 23 rfl kj kj ?_
  refine Qab (.slice (some ⟨g2, 34, none⟩) 32 32) 24 rfl kj kj ?_
  have r2_6 := (GW.row q6 r2_5 (by decide) (Ne.symm (Nat.ne_of_lt (Nat.lt_of_lt_of_le hgw b2))))
  refine Qah (fun v W' => v = .tuple #[] ∧ GW base gw W6 W' ∧ WSt base gw (rawS (rawS (numS (numS (Qax (s) (QaB false nm key sg pa ms)) 0 1) nm 1) key) sg) W') 104 #[.pointer (some ⟨gw, 0, none⟩), .slice (some ⟨g2, 34, none⟩) 32 32] 25 rfl kj kj ((rawW base gw _ sg _ _ (Nat.le_trans hbw x6.size) ws13 (by omega) hgb (fun W e => (QaS 34 hgl (ExtB.row e r2_6 (Ne.symm (Nat.ne_of_lt (Nat.lt_of_lt_of_le hgw b2)))) (fun i hi => QaJ [#[.bool false], #[.int .i64 nm], ints .u8 (key)] [ints .u8 (pa), #[.slice a_m ms.length c_m]] sg 34 i (34 + i) (by rw [Qaa, Qaa, Qaa]; simp only [Array.size_append, cat, ((Qad _ _).trans hkl)]; rfl) rfl (by rw [hgl]; exact hi)) (Qa5 (ExtB.row e r2_6 (Ne.symm (Nat.ne_of_lt (Nat.lt_of_lt_of_le hgw b2))))) (Nat.le_refl _) (by decide)))).mono (by rintro e w' ⟨rfl, h1, h2⟩; exact ⟨_, rfl, rfl, h1, h2⟩)) fun v15 W7 h15 => ?_
  obtain ⟨rfl, q7, ws15⟩ := h15
  have x7 : GW base gw w W7 := GW.trans x6 q7
  refine Qaf ?_
  refine hK14 _ _ ?_
  refine wp_seq_k fun K16 hK16 => ?_
  refine Qae ?_
  refine Qab (.pointer (some ⟨gw, 0, none⟩)) 26 rfl kj kj ?_
  refine Qab (.pointer (some ⟨g2, 66, none⟩)) 27 rfl kj kj ?_
  refine Qab (.slice (some ⟨g2, 66, none⟩) 32 32) 28 rfl kj kj ?_
  have r2_7 := (GW.row q7 r2_6 (by decide) (Ne.symm (Nat.ne_of_lt (Nat.lt_of_lt_of_le hgw b2))))
  refine Qah (fun v W' => v = .tuple #[] ∧ GW base gw W7 W' ∧ WSt base gw (rawS (rawS (rawS (numS (numS (Qax (s) (QaB false nm key sg pa ms)) 0 1) nm 1) key) sg) pa) W') 104 #[.pointer (some ⟨gw, 0, none⟩), .slice (some ⟨g2, 66, none⟩) 32 32] 29 rfl kj kj ((rawW base gw _ pa _ _ (Nat.le_trans hbw x7.size) ws15 (by omega) hpb (fun W e => (QaS 66 hpl (ExtB.row e r2_7 (Ne.symm (Nat.ne_of_lt (Nat.lt_of_lt_of_le hgw b2)))) (fun i hi => QaJ [#[.bool false], #[.int .i64 nm], ints .u8 (key), ints .u8 (sg)] [#[.slice a_m ms.length c_m]] pa 66 i (66 + i) (by rw [Qaa, Qaa, Qaa, Qaa]; simp only [Array.size_append, cat, ((Qad _ _).trans hgl), ((Qad _ _).trans hkl)]; rfl) rfl (by rw [hpl]; exact hi)) (Qa5 (ExtB.row e r2_7 (Ne.symm (Nat.ne_of_lt (Nat.lt_of_lt_of_le hgw b2))))) (Nat.le_refl _) (by decide)))).mono (by rintro e w' ⟨rfl, h1, h2⟩; exact ⟨_, rfl, rfl, h1, h2⟩)) fun v17 W8 h17 => ?_
  obtain ⟨rfl, q8, ws17⟩ := h17
  have x8 : GW base gw w W8 := GW.trans x7 q8
  refine Qaf ?_
  refine hK16 _ _ ?_
  refine wp_seq_k fun K18 hK18 => ?_
  refine Qae ?_
  refine Qab (.pointer (some ⟨gw, 0, none⟩)) 30 rfl kj kj ?_
  refine Qab (.pointer (some ⟨g2, 98, none⟩)) 31 rfl kj kj ?_
  have r2_8 := (GW.row q8 r2_7 (by decide) (Ne.symm (Nat.ne_of_lt (Nat.lt_of_lt_of_le hgw b2))))
  refine Qab (.slice a_m ms.length c_m) 32 rfl kj (Qal 41 _ g2 98 43 _ (.slice a_m ms.length c_m) _ r2_8 rfl kj (Qaq [#[.bool false], #[.int .i64 nm], ints .u8 (key), ints .u8 (sg), ints .u8 (pa)] [#[.slice a_m ms.length c_m]] [] 98 (by rw [Qaa, Qaa, Qaa, Qaa, Qaa]; simp only [Array.size_append, cat, ((Qad _ _).trans hgl), ((Qad _ _).trans hkl), ((Qad _ _).trans hpl)]; rfl) 0 _ rfl) kj) ?_
  refine Qa8 (.bool (risV ms)) 121 #[.slice a_m ms.length c_m] 33 rfl kj kj (QcZ ms _ _ _ _ hml (Qck hm x8 hbg)) fun W9 e9 => ?_
  have x9 : GW base gw w W9 := GW.ext x8 e9
  have ws19 := WSt.ext ws17 e9
  refine Qah (fun v W' => v = .tuple #[] ∧ GW base gw W9 W' ∧ WSt base gw (Qax (rawS (rawS (rawS (numS (numS (Qax (s) (QaB false nm key sg pa ms)) 0 1) nm 1) key) sg) pa) (risV ms)) W') 98 #[.pointer (some ⟨gw, 0, none⟩), .bool (risV ms)] 34 rfl kj kj ((QbA base gw _ (risV ms) _ ws19).mono (by rintro e w' ⟨rfl, h1, h2⟩; exact ⟨_, rfl, rfl, h1, h2⟩)) fun v20 W10 h20 => ?_
  obtain ⟨rfl, q10, ws20⟩ := h20
  have x10 : GW base gw w W10 := GW.trans x9 q10
  refine Qaf ?_
  refine hK18 _ _ ?_
  refine Qae ?_
  refine Qab (.pointer (some ⟨gw, 0, none⟩)) 35 rfl kj kj ?_
  refine Qab (.pointer (some ⟨g2, 98, none⟩)) 36 rfl kj kj ?_
  have r2_9 := (Qau r2_8 e9)
  have r2_10 := (GW.row q10 r2_9 (by decide) (Ne.symm (Nat.ne_of_lt (Nat.lt_of_lt_of_le hgw b2))))
  refine Qab (.slice a_m ms.length c_m) 37 rfl kj (Qal 41 _ g2 98 43 _ (.slice a_m ms.length c_m) _ r2_10 rfl kj (Qaq [#[.bool false], #[.int .i64 nm], ints .u8 (key), ints .u8 (sg), ints .u8 (pa)] [#[.slice a_m ms.length c_m]] [] 98 (by rw [Qaa, Qaa, Qaa, Qaa, Qaa]; simp only [Array.size_append, cat, ((Qad _ _).trans hgl), ((Qad _ _).trans hkl), ((Qad _ _).trans hpl)]; rfl) 0 _ rfl) kj) ?_
  refine Qah (fun v W' => v = .tuple #[] ∧ GW base gw W10 W' ∧ WSt base gw (QbK (Qax (rawS (rawS (rawS (numS (numS (Qax (s) (QaB false nm key sg pa ms)) 0 1) nm 1) key) sg) pa) (risV ms)) ms) W') 122 #[.pointer (some ⟨gw, 0, none⟩), .slice a_m ms.length c_m, .func (.func 106) #[] #[]] 38 rfl kj kj ((Qdp base gw _ ms _ _ _ (Nat.le_trans hbw x10.size) hbg ws20 hml (Qck hm x10 hbg)).mono (by rintro e w' ⟨rfl, h1, h2⟩; exact ⟨_, rfl, rfl, h1, h2⟩)) fun v21 W11 h21 => ?_
  obtain ⟨rfl, q11, ws21⟩ := h21
  have x11 : GW base gw w W11 := GW.trans x10 q11
  refine Qaf ?_
  repeat (first | with_reducible refine goX1 ?_ | with_reducible refine goX2 ?_ | with_reducible refine goX3 ?_)
  exact (show bodyPost _ _ _ .normal _ _ from end0 rfl ⟨rfl, x11, ws21⟩)
theorem Qhl (base gw : Nat) (s : Option (List Int)) (us : Bool) (nm : Int) (key sg pa ms : List Int) (a_m : Option Addr) (c_m : Nat) (w : World) (hbw : base ≤ w.heap.size) (hbg : base ≤ gw) (h : WSt base gw s w) (hkl : key.length = 32) (hgl : sg.length = 32) (hpl : pa.length = 32) (hkb : Qao key) (hgb : Qao sg) (hpb : Qao pa) (hml : ms.length ≤ 1000000) (hm : RdK .i64 base ms (.slice a_m ms.length c_m) w) : Calls Try.prog 95 #[.pointer (some ⟨gw, 0, none⟩), .agg (cat [#[.bool us], #[.int .i64 nm], ints .u8 (key), ints .u8 (sg), ints .u8 (pa), #[.slice a_m ms.length c_m]])] w (fun e W => e = .returned (.tuple #[]) ∧ GW base gw w W ∧ WSt base gw (QbM s us nm key sg pa ms) W) := by
  cases us with
  | true => exact Qfm base gw s nm key sg pa ms a_m c_m w hbw hbg h hkl hgl hpl hkb hgb hpb hml hm
  | false => exact Qe8 base gw s nm key sg pa ms a_m c_m w hbw hbg h hkl hgl hpl hkb hgb hpb hml hm
end Go.Proofs.Ytfelfmchachljaa.Wr
end
section
namespace Go.Proofs.Ytfelfmchachljaa.Wr
open Go Go.RowKit
open Rely Auto Own Sha
set_option linter.unusedVariables false
set_option linter.unusedSimpArgs false
end Go.Proofs.Ytfelfmchachljaa.Wr
end
section
namespace Go.Proofs.Ytfelfmchachljaa.Wr
open Go Go.RowKit
open Rely Auto Own Sha
set_option linter.unusedVariables false
set_option linter.unusedSimpArgs false
open Wk
def Qgy (ms : List Int) : Nat → Bool
  | 0 => true
  | n + 1 => Qgy ms n && (inB (nth ms n) 31 && ((n == 0) || decide (nth ms (n - 1) < nth ms n)))
def Qca (us : Bool) (nm : Int) (key sg pa ms : List Int) : Bool := inB nm 255 && decide (ms.length ≤ 32) && (Qgy ms ms.length && (us || QaB us nm key sg pa ms))
end Go.Proofs.Ytfelfmchachljaa.Wr
end
section
namespace Go.Proofs.Ytfelfmchachljaa.Wr
open Go Go.RowKit
open Rely Auto Own Sha
set_option linter.unusedVariables false
set_option linter.unusedSimpArgs false
open Wk
section
variable {P : Program} {ops : Array Oper} {Q : Exit → Act → World → Prop} {o : Oper} {N : Nat} {L : Env} {w V : World} {ds : List Deferred} {fuel : Nat} {listed : Array Bool}
end
def Qgx (us : Bool) (nm : Int) (key sg pa : List Int) (n : Nat) : List Int := [bif us then 1 else 0, byV nm 0] ++ key ++ sg ++ pa ++ [byV ((n : Nat) : Int) 0]
def Qch (us : Bool) (nm : Int) (key sg pa ms : List Int) : List Int := Qgx us nm key sg pa ms.length ++ ms.map fun m => byV m 0
end Go.Proofs.Ytfelfmchachljaa.Wr
end
section
namespace Go.Proofs.Ytfelfmchachljaa.Wr
open Go Go.RowKit
open Rely Auto Own Sha
set_option linter.unusedVariables false
set_option linter.unusedSimpArgs false
def allN (ms : List Int) : Nat → Bool
  | 0 => true
  | n + 1 => allN ms n && inB (nth ms n) 31
theorem QcN (ms : List Int) : ∀ n, Qgy ms n = (risN ms n && allN ms n)
  | 0 => rfl
  | n + 1 => by
    show (Qgy ms n && (inB (nth ms n) 31 && ((n == 0) || decide (nth ms (n - 1) < nth ms n)))) = ((risN ms n && ((n == 0) || decide (nth ms (n - 1) < nth ms n))) && (allN ms n && inB (nth ms n) 31))
    rw [QcN ms n]
    cases risN ms n <;> cases allN ms n <;> cases inB (nth ms n) 31 <;> cases ((n == 0) || decide (nth ms (n - 1) < nth ms n)) <;> rfl
theorem QfU (ms : List Int) : ∀ n, allN ms n = true → ∀ i, i < n → inB (nth ms i) 31 = true
  | 0, _, i, hi => absurd hi (Nat.not_lt_zero _)
  | n + 1, h, i, hi => by
    have h' : (allN ms n && inB (nth ms n) 31) = true := h
    rw [Bool.and_eq_true] at h'
    rcases Nat.lt_or_ge i n with h2 | h2
    · exact QfU ms n h'.1 i h2
    · obtain rfl : i = n := by omega
      exact h'.2
theorem Qf4 (ms : List Int) : ∀ n, risN ms n = true → allN ms n = true → ∀ i, i < n → ((i : Nat) : Int) ≤ nth ms i
  | 0, _, _, i, hi => absurd hi (Nat.not_lt_zero _)
  | n + 1, hr, ha, i, hi => by
    have hr' : (risN ms n && ((n == 0) || decide (nth ms (n - 1) < nth ms n))) = true := hr
    have ha' : (allN ms n && inB (nth ms n) 31) = true := ha
    rw [Bool.and_eq_true] at hr' ha'
    rcases Nat.lt_or_ge i n with h2 | h2
    · exact Qf4 ms n hr'.1 ha'.1 i h2
    · obtain rfl : i = n := by omega
      have h0 := Qbw ha'.2
      by_cases hz : i = 0
      · subst hz; exact h0.1
      · have h3 := hr'.2
        rw [beq_eq_false_iff_ne.2 hz, Bool.false_or, decide_eq_true_eq] at h3
        have h4 := Qf4 ms i hr'.1 ha'.1 (i - 1) (by omega)
        omega
theorem Qiu (ms : List Int) (hr : risV ms = true) (ha : allN ms ms.length = true) : ms.length ≤ 32 := by
  rcases Nat.lt_or_ge 32 ms.length with h | h
  · have h1 := Qf4 ms ms.length hr ha 32 h
    have h2 := Qbw (QfU ms ms.length ha 32 h)
    omega
  · exact h
theorem Qfa (ms : List Int) : ∀ n, n ≤ ms.length → allN ms n = (ms.take n).all fun m => inB m 31
  | 0, _ => rfl
  | n + 1, h => by
    have e : ms.take (n + 1) = ms.take n ++ [nth ms n] := by
      rw [List.take_add_one, List.getElem?_eq_getElem (show n < ms.length by omega)]
      unfold nth
      rw [List.getD_eq_getElem?_getD, List.getElem?_eq_getElem (show n < ms.length by omega)]
      rfl
    rw [e, List.all_append, ← Qfa ms n (by omega)]
    show (allN ms n && inB (nth ms n) 31) = (allN ms n && (inB (nth ms n) 31 && true))
    rw [Bool.and_true]
theorem Qdc (s : Option (List Int)) : ∀ (ms a : List Int), ms.foldl QaE (rawS s a) = bif (ms.all fun m => inB m 31) then rawS s (a ++ ms.map fun m => byV m 0) else none
  | [], a => by show rawS s a = rawS s (a ++ []); rw [List.append_nil]
  | m :: r, a => by
    show r.foldl QaE (QaE (rawS s a) m) = bif (inB m 31 && (r.all fun m => inB m 31)) then rawS s (a ++ byV m 0 :: r.map fun m => byV m 0) else none
    rw [QbW]
    cases inB m 31 with
    | false => exact Qbg r
    | true =>
      show r.foldl QaE (rawS (rawS s a) (beV m 1)) = _
      rw [QaF, Qdc s r]
      show _ = bif (r.all fun m => inB m 31) then _ else none
      rw [List.append_assoc]
      rfl
theorem Qdt (us : Bool) (nm : Int) (key sg pa ms : List Int) (hkb : Qao key) (hgb : Qao sg) (hpb : Qao pa) : Qao (Qch us nm key sg pa ms) := by
  unfold Qch Qgx
  refine Qa3 (Qa3 (Qa3 (Qa3 (Qa3 ?_ hkb) hgb) hpb) (QaT _ 1)) ?_
  · intro x hx
    rcases List.mem_cons.1 hx with h | h
    · rw [h]; cases us <;> decide
    · exact QaT nm 1 x h
  · intro x hx
    obtain ⟨m, _, rfl⟩ := List.mem_map.1 hx
    exact QaT m 1 _ List.mem_cons_self
end Go.Proofs.Ytfelfmchachljaa.Wr
end
section
namespace Go.Proofs.Ytfelfmchachljaa.Wr
open Go Go.RowKit
open Rely Auto Own Sha
set_option linter.unusedVariables false
set_option linter.unusedSimpArgs false
theorem Qdd (ms r : List Int) (ha : allN ms ms.length = true) : ∀ i, i ≤ ms.length → itR (some ((ms.map fun m => byV m 0) ++ r)) i = some ((ms.drop i).map (fun m => byV m 0) ++ r) ∧ itL (some ((ms.map fun m => byV m 0) ++ r)) i = ms.take i
  | 0, _ => ⟨by rw [List.drop_zero]; rfl, by rw [List.take_zero]; rfl⟩
  | i + 1, h => by
    obtain ⟨h1, h2⟩ := Qdd ms r ha i (by omega)
    have hm := Qbw (QfU ms ms.length ha i (by omega))
    have e : (ms.drop i).map (fun m => byV m 0) ++ r = beV (nth ms i) 1 ++ ((ms.drop (i + 1)).map (fun m => byV m 0) ++ r) := by rw [QeY ms i (by omega)]; rfl
    have q : ((bigN (beV (nth ms i) 1) : Nat) : Int) = nth ms i := Qcd _ 1 hm.1 (by omega)
    constructor
    · show Qaj (itR _ i) = _
      rw [h1, e]
      unfold Qaj
      rw [Qa4 _ _ 1 (QaI _ 1), q, Qa9 _ _ 1 (QaI _ 1), decide_eq_true (by omega)]
      rfl
    · show itL _ i ++ [((bigN (Qag (itR _ i) 1) : Nat) : Int)] = _
      rw [h1, h2, e, Qa4 _ _ 1 (QaI _ 1), q, List.take_add_one, List.getElem?_eq_getElem (show i < ms.length by omega)]
      congr 1
      unfold nth
      rw [List.getD_eq_getElem?_getD, List.getElem?_eq_getElem (show i < ms.length by omega)]
      rfl
theorem QfD (us : Bool) (nm : Int) (key sg pa ms r : List Int) (hkl : key.length = 32) (hgl : sg.length = 32) (hpl : pa.length = 32) (hg : Qca us nm key sg pa ms = true) (s : Option (List Int)) (hs : s = some (Qch us nm key sg pa ms ++ r)) :
    bigN (Qag s 1) = (bif us then 1 else 0) ∧ nNm s = nm ∧ nKy s = key ∧ nSg s = sg ∧ nPa s = pa ∧ nR6 s = some r ∧ nL s = ms := by
  unfold Qca at hg
  rw [QcN] at hg
  simp only [Bool.and_eq_true, decide_eq_true_eq] at hg
  obtain ⟨⟨h1, h2⟩, ⟨h3, h4⟩, h5⟩ := hg
  have hn := Qbw h1
  have e : Qch us nm key sg pa ms ++ r = [bif us then 1 else 0] ++ (beV nm 1 ++ (key ++ (sg ++ (pa ++ (beV ((ms.length : Nat) : Int) 1 ++ ((ms.map fun m => byV m 0) ++ r)))))) := by
    unfold Qch Qgx
    simp only [List.append_assoc]
    rfl
  rw [e] at hs
  have s1 : nR1 s = some (beV nm 1 ++ (key ++ (sg ++ (pa ++ (beV ((ms.length : Nat) : Int) 1 ++ ((ms.map fun m => byV m 0) ++ r)))))) := by unfold nR1; rw [hs]; exact Qa9 _ _ 1 rfl
  have s2 : nR2 s = some (key ++ (sg ++ (pa ++ (beV ((ms.length : Nat) : Int) 1 ++ ((ms.map fun m => byV m 0) ++ r))))) := by unfold nR2; rw [s1]; exact Qa9 _ _ 1 (QaI _ 1)
  have s3 : nR3 s = some (sg ++ (pa ++ (beV ((ms.length : Nat) : Int) 1 ++ ((ms.map fun m => byV m 0) ++ r)))) := by unfold nR3; rw [s2]; exact Qa9 _ _ 32 hkl
  have s4 : nR4 s = some (pa ++ (beV ((ms.length : Nat) : Int) 1 ++ ((ms.map fun m => byV m 0) ++ r))) := by unfold nR4; rw [s3]; exact Qa9 _ _ 32 hgl
  have s5 : nR5 s = some (beV ((ms.length : Nat) : Int) 1 ++ ((ms.map fun m => byV m 0) ++ r)) := by unfold nR5; rw [s4]; exact Qa9 _ _ 32 hpl
  have q : bigN (beV ((ms.length : Nat) : Int) 1) = ms.length := by rw [Qel, Nat.mod_eq_of_lt (by omega)]
  have lb := Qdd ms r h4 ms.length (Nat.le_refl _)
  refine ⟨?_, ?_, ?_, ?_, ?_, ?_, ?_⟩
  · rw [hs, Qa4 _ _ 1 rfl]; cases us <;> rfl
  · unfold nNm; rw [s1, Qa4 _ _ 1 (QaI _ 1), Qcd nm 1 hn.1 (by omega)]
  · unfold nKy; rw [s2, Qa4 _ _ 32 hkl, Qbh _ hkl]
  · unfold nSg; rw [s3, Qa4 _ _ 32 hgl, Qbh _ hgl]
  · unfold nPa; rw [s4, Qa4 _ _ 32 hpl, Qbh _ hpl]
  · unfold nR6; rw [s5, Qa4 _ _ 1 (QaI _ 1), Qa9 _ _ 1 (QaI _ 1), q, lb.1, List.drop_length]; rfl
  · unfold nL; rw [s5, Qa4 _ _ 1 (QaI _ 1), Qa9 _ _ 1 (QaI _ 1), q, lb.2, List.take_length]
end Go.Proofs.Ytfelfmchachljaa.Wr
end
section
namespace Go.Proofs.Ytfelfmchachljaa.Wr
open Go Go.RowKit
open Rely Auto Own Sha
set_option linter.unusedVariables false
set_option linter.unusedSimpArgs false
theorem QeV (pl : Nat → Option (Nat × Nat)) : ∀ (ps : List (Nat × Nat × Value × Array Value)) (pre : List (Array Value)) (rest : Array Value) (off : Nat), (cat pre).size = off → okPl pl off ps → tot ps ≤ rest.size →
    Instr.fill pl (cat pre ++ rest) (ps.map fun x => (x.1, x.2.2.1)) = some (cat (pre ++ ps.map fun x => x.2.2.2) ++ rest.extract (tot ps) rest.size)
  | [], pre, rest, off, _, _, ht => by
    simp [Instr.fill, tot]
  | (i, n, v, p) :: r, pre, rest, off, hoff, ⟨h1, h2, h3, h4⟩, ht => by
    subst h2
    have hn : n ≤ rest.size := by rw [tot] at ht; omega
    simp only [List.map_cons, Instr.fill, h1, h3]
    rw [if_neg (by simp; omega)]
    have hz : (v.cells.zipIdx.foldl (fun cs (x : Value × Nat) => cs.setIfInBounds (off + x.2) x.1) (cat pre ++ rest)) = cat (pre ++ [v.cells]) ++ rest.extract n rest.size := by
      have e1 : v.cells.zipIdx = (v.cells.toList.zipIdx 0).toArray := by
        apply Array.ext'
        simp
      rw [e1, List.foldl_toArray', Qcb]
      · have e2 : rest = rest.extract 0 n ++ rest.extract n rest.size := by
          rw [Array.extract_append_extract, Nat.max_eq_right hn]
          simp
        have e3 : (cat pre ++ rest) = cat (pre ++ ([rest.extract 0 n] ++ [rest.extract n rest.size])) := by
          rw [QaD]
          congr 1
        rw [Nat.add_zero, e3]
        have := Qc9 pre [rest.extract 0 n] [v.cells] [rest.extract n rest.size] off hoff (by show v.cells.size = (rest.extract 0 n).size; simp; omega)
        rw [show (cat [v.cells]).toList = v.cells.toList from rfl] at this
        rw [this, ← List.append_assoc, QaD (pre ++ [v.cells])]
        rfl
      · rfl
    have key := QeV pl r (pre ++ [v.cells]) (rest.extract n rest.size) (off + n) (by rw [QaD]; show (cat pre ++ v.cells).size = _; simp; omega) h4 (by rw [tot] at ht; simp; omega)
    rw [← hz] at key
    rw [List.append_assoc] at key
    rw [key, tot]
    congr 2
    rw [Array.extract_extract]
    simp
    congr 1
    rw [tot] at ht
    omega
theorem Qfh {P : Program} {ρ : Operand → Value} {o : Oper} {w : World} (t : TypeId) (parts : Array (Nat × Operand)) (z : Value) (places : Array (Nat × Nat)) (ps : List (Nat × Nat × Value × Array Value)) (rest : List (Array Value))
    (ho : o.op = .build t parts) (hv : (parts.map fun (i, x) => (i, ρ x)).toList = ps.map fun x => (x.1, x.2.2.1)) (hp : okPl (fun i => places[i]?) 0 ps) (ht : tot ps ≤ z.cells.size) (hr : z.cells.extract (tot ps) z.cells.size = cat rest)
    (hz : (zeroValue t).run P w = .ok z w) (hu : P.underlying t = some (.struct (P.fieldsOf t))) (hm : ((P.fieldsOf t).mapM fun f => do pure (f.offset, ← sizeOf f.type) : Sem (Array (Nat × Nat))).run P w = .ok places w) :
    (execOp ρ o).run P w = .ok (.value (.agg (cat ((ps.map fun x => x.2.2.2) ++ rest)))) w := by
  have := QeV (fun i => places[i]?) ps [] z.cells 0 rfl hp ht
  rw [show cat [] ++ z.cells = z.cells by simp [cat], List.nil_append, hr, ← QaD] at this
  rw [← hv] at this
  have hB : (Instr.build t (parts.map fun (i, x) => (i, ρ x))).run P w = .ok (.agg (cat ((ps.map fun x => x.2.2.2) ++ rest))) w := by
    unfold Instr.build
    rw [Sem.run_bind, hz, Result.andThen_ok, Sem.run_bind, run_underlying hu w, Result.andThen_ok]
    show (Sem.run P _ w) = _
    rw [Sem.run_bind, hm, Result.andThen_ok]
    simp only [this]
    rfl
  unfold execOp
  simp only [ho, Sem.run_bind, hB, Result.andThen_ok, Sem.run_pure]
theorem QcO : ∀ ls : List (List Value), cat (ls.map List.toArray) = ls.flatten.toArray
  | [] => rfl
  | a :: r => by rw [List.map_cons, Qaa, QcO r, List.flatten_cons, List.append_toArray]
theorem Qb3 {P : Program} {ρ : Operand → Value} {o : Oper} {w : World} (t : TypeId) (parts : Array (Nat × Operand)) (pre rest : List (Array Value)) (places : Array (Nat × Nat)) (ps : List (Nat × Nat × Value × Array Value))
    (ho : o.op = .build t parts) (hv : (parts.map fun (i, x) => (i, ρ x)).toList = ps.map fun x => (x.1, x.2.2.1)) (hp : okPl (fun i => places[i]?) 0 ps) (ht : tot ps = (cat pre).size)
    (hz : (zeroValue t).run P w = .ok (.agg (cat (pre ++ rest))) w) (hu : P.underlying t = some (.struct (P.fieldsOf t))) (hm : ((P.fieldsOf t).mapM fun f => do pure (f.offset, ← sizeOf f.type) : Sem (Array (Nat × Nat))).run P w = .ok places w) :
    (execOp ρ o).run P w = .ok (.value (.agg (cat ((ps.map fun x => x.2.2.2) ++ rest)))) w :=
  Qfh t parts _ places ps rest ho hv hp (by rw [ht]; show _ ≤ (cat (pre ++ rest)).size; rw [QaD, Array.size_append]; omega) (by show (cat (pre ++ rest)).extract _ (cat (pre ++ rest)).size = _; rw [QaD, ht]; simp) hz hu hm
theorem QaG {P : Program} {ρ : Operand → Value} {o : Oper} {w : World} (t : TypeId) (cs : Array Value) (ho : o.op = .alloc t) (hz : (zeroValue t).run P w = .ok (.agg cs) w) :
    (execOp ρ o).run P w = .ok (.value (.pointer (some ⟨w.heap.size, 0, none⟩))) (w.alloc (.cells cs t)) := by
  have h : (Instr.alloc t true (.tuple #[])).run P w = .ok (.pointer (some ⟨w.heap.size, 0, none⟩)) (w.alloc (.cells cs t)) := by
    unfold Instr.alloc
    rw [Sem.run_bind, hz, Result.andThen_ok]
    rfl
  unfold execOp
  simp only [ho, Sem.run_bind, h, Result.andThen_ok, Sem.run_pure]
theorem Qfe {P : Program} {ρ : Operand → Value} {o : Oper} {w : World} (ty : TypeId) (x y : Operand) (g off : Nat) (t : TypeId) (pre post : List (Array Value)) (u v : Value) (hg : w.heap[g]? = some (.cells (cat (pre ++ ([#[u]] ++ post))) t))
    (ho : o.op = .store ty x y) (hx : ρ x = .pointer (some ⟨g, off, none⟩)) (hy : ρ y = v) (hi : (P.info? ty).map (·.size) = some 1) (hp : (cat pre).size = off) (h1 : v.oneCell' = true) (hcs : v.cells = #[v]) :
    (execOp ρ o).run P w = .ok .skip (w.setRow g (cat (pre ++ ([#[v]] ++ post)))) := by
  subst hp
  have hs : Nat.blt (cat pre).size (cat (pre ++ ([#[u]] ++ post))).size = true := by
    have : (cat pre).size < (cat (pre ++ ([#[u]] ++ post))).size := by
      rw [QaD, QaD, Array.size_append, Array.size_append]
      have e1 : (cat [#[u]]).size = 1 := rfl
      omega
    simpa using this
  have e : (cat (pre ++ ([#[u]] ++ post))).setIfInBounds (cat pre).size v = cat (pre ++ ([#[v]] ++ post)) := by
    rw [QaD, QaD, QaD, QaD]
    have e1 : ∀ z, cat [#[z]] = #[z] := fun z => rfl
    rw [e1, e1, Array.setIfInBounds_append_right (Nat.le_refl _), Nat.sub_self, Array.setIfInBounds_append_left (by simp)]
    rfl
  rw [← e]
  exact Qbl ty x y g _ t _ v hg ho hx hy hi hs h1 hcs
theorem QbD (w : World) : (zeroValue 47).run Try.prog w = .ok (.agg (cat [ints .u8 (List.replicate 32 0), #[.int .i64 0], #[.int .i64 0], ints .u8 (List.replicate 32 0), #[.int .i64 0], #[.bool false], #[.int .i64 0], ints .u8 (List.replicate 32 0), ints .u8 (List.replicate 32 0), ints .u8 (List.replicate 32 0), #[.slice none 0 0], ints .u8 (List.replicate 32 0), #[.int .i64 0], ints .u8 (List.replicate 64 0)])) w := by
  have h := QcO [(List.replicate 32 0).map (Value.int .u8), [.int .i64 0], [.int .i64 0], (List.replicate 32 0).map (Value.int .u8), [.int .i64 0], [.bool false], [.int .i64 0], (List.replicate 32 0).map (Value.int .u8), (List.replicate 32 0).map (Value.int .u8), (List.replicate 32 0).map (Value.int .u8), [.slice none 0 0], (List.replicate 32 0).map (Value.int .u8), [.int .i64 0], (List.replicate 64 0).map (Value.int .u8)]
  refine Eq.trans ?_ (congrArg (fun z => Result.ok (Value.agg z) w) h.symm)
  kernel_rfl
def nUs (s : Option (List Int)) : Bool := bigN (Qag s 1) == 1
def nOk (s : Option (List Int)) : Bool := nUs s || (bigN (Qag s 1) == 0 && QaB false (nNm s) (nKy s) (nSg s) (nPa s) (nL s))
def QaA (s : Option (List Int)) : Option (List Int) := Qax (Qax (nR6 s) (nOk s)) (risV (nL s))
theorem QaO (b : Bool) : Qax none b = none := by cases b <;> rfl
theorem QaN (s : Option (List Int)) : (nKy s).length = 32 := Qam _ (Qai _ 32)
theorem QaL (s : Option (List Int)) : (nSg s).length = 32 := Qam _ (Qai _ 32)
theorem QaM (s : Option (List Int)) : (nPa s).length = 32 := Qam _ (Qai _ 32)
theorem QcY {B gr : Nat} {s : Option (List Int)} {w : World} {us : Bool} {okx : List Int → Bool} (hu : nUs s = us) (ho : okx (nL s) = nOk s) (e : Ending) (W : World) (h : ∃ v xs, e = .returned v ∧ ExtB gr w W ∧ RSt B gr (Qax (Qax (nR6 s) (okx xs)) (risV xs)) W ∧ (∃ (a : Option Addr) (c : Nat), v = .agg (cat [#[.bool us], #[.int .i64 (nNm s)], ints .u8 (nKy s), ints .u8 (nSg s), ints .u8 (nPa s), #[.slice a xs.length c]]) ∧ OwnN .i64 3 w.heap.size xs (.slice a xs.length c) W) ∧ xs.length ≤ 255 ∧ (nR6 s ≠ none → xs = nL s)) : Qbj B gr w (QaA s) (fun v W => ∃ (xz : List Int) (a : Option Addr) (c : Nat), v = .agg (cat [#[.bool (nUs s)], #[.int .i64 (nNm s)], ints .u8 (nKy s), ints .u8 (nSg s), ints .u8 (nPa s), #[.slice a xz.length c]]) ∧ OwnN .i64 3 w.heap.size xz (.slice a xz.length c) W ∧ xz.length ≤ 255 ∧ (QaA s ≠ none → xz = nL s)) e W := by
  obtain ⟨v, xs, e1, e2, e3, ⟨a, c, hv, hown⟩, hl, hx⟩ := h
  refine ⟨v, e1, e2, ?_, xs, a, c, by rw [hu]; exact hv, hown, hl, fun hne => hx (fun h6 => hne (by unfold QaA; rw [h6, QaO, QaO]))⟩
  by_cases h6 : nR6 s = none
  · unfold QaA; rw [h6, QaO, QaO] at e3 ⊢; exact e3
  · obtain rfl := hx h6
    rw [ho] at e3; exact e3
theorem Qf3 (B gr : Nat) (s : Option (List Int)) (w : World) (hB : B ≤ gr) (h : RSt B gr s w) : Calls Try.prog 102 #[.pointer (some ⟨gr, 0, none⟩)] w (Qbj B gr w (QaA s) fun v W => ∃ (xz : List Int) (a : Option Addr) (c : Nat), v = .agg (cat [#[.bool (nUs s)], #[.int .i64 (nNm s)], ints .u8 (nKy s), ints .u8 (nSg s), ints .u8 (nPa s), #[.slice a xz.length c]]) ∧ OwnN .i64 3 w.heap.size xz (.slice a xz.length c) W ∧ xz.length ≤ 255 ∧ (QaA s ≠ none → xz = nL s)) := by
  rcases (show bigN (Qag s 1) = 1 ∨ bigN (Qag s 1) = 0 ∨ 1 < bigN (Qag s 1) by omega) with hU | hU | hU
  · have e : nUs s = true := by unfold nUs; rw [hU]; rfl
    exact (Qgk B gr s w hB h hU).mono fun e' W hh => QcY (okx := fun _ => true) e (by unfold nOk; rw [e]; rfl) e' W hh
  · have e : nUs s = false := by unfold nUs; rw [hU]; rfl
    exact (Qgj B gr s w hB h hU).mono fun e' W hh => QcY (okx := fun xs => QaB false (nNm s) (nKy s) (nSg s) (nPa s) xs) e (by unfold nOk; rw [e, hU]; rfl) e' W hh
  · have e : nUs s = false := by unfold nUs; exact beq_eq_false_iff_ne.2 (by omega)
    exact (Qgi B gr s w hB h hU).mono fun e' W hh => QcY (okx := fun _ => false) e (by unfold nOk; rw [e, beq_eq_false_iff_ne.2 (show bigN (Qag s 1) ≠ 0 by omega)]; rfl) e' W hh
end Go.Proofs.Ytfelfmchachljaa.Wr
end
section
namespace Go.Proofs.Ytfelfmchachljaa.Wr
open Go Go.RowKit
open Rely Auto Own Sha
set_option linter.unusedVariables false
set_option linter.unusedSimpArgs false
theorem QcX {w : World} {g k : Nat} {v : Value} (h : w.cell? ⟨g, k, none⟩ = some v) : ∃ cs t fr, w.heap[g]? = some (.cells cs t fr) := by
  unfold World.cell? at h
  split at h
  · next c t f e => exact ⟨c, t, f, e⟩
  · cases h
theorem Qev {P : Program} {ρ : Operand → Value} {o : Oper} {w : World} (t : TypeId) (x y : Operand) (k : IntKind) (n g off len cap : Nat) (e : TypeId) (sz : Nat) (ho : o.op = .indexAddr t x y) (hx : ρ x = .slice (some ⟨g, off, none⟩) len cap) (hy : ρ y = .int k n)
    (hu : P.underlying t = some (.slice e)) (hs : (P.info? e).map (·.size) = some sz) (hn : n < len) : (execOp ρ o).run P w = .ok (.value (.pointer (some ⟨g, off + n * sz, none⟩))) w := by
  cases hq : P.info? e with
  | none => simp [hq] at hs
  | some i =>
    have hs' : i.size = sz := by simpa [hq] using hs
    have hadd : (⟨g, off, none⟩ : Addr).add (n * sz) = ⟨g, off + n * sz, none⟩ := by unfold Addr.add; split <;> simp_all
    have h0 : (0 : Int) ≤ (n : Int) := by omega
    have h1 : (n : Int) < (len : Int) := by omega
    unfold execOp
    simp only [ho, hx, hy]
    simp [Instr.indexAt, asIntOf, run_underlying hu, sizeOf, typeInfo, hq, hs', h0, hn, hadd]
theorem Qb2 {P : Program} {ρ : Operand → Value} {o : Oper} {w : World} (t : TypeId) (x y : Operand) (k : IntKind) (n g off len cap : Nat) (e : TypeId) (sz : Nat) (ad : Option Addr) (ha : ad = some ⟨g, off, none⟩) (ho : o.op = .indexAddr t x y) (hx : ρ x = .slice ad len cap) (hy : ρ y = .int k n)
    (hu : P.underlying t = some (.slice e)) (hs : (P.info? e).map (·.size) = some sz) (hn : n < len) : (execOp ρ o).run P w = .ok (.value (.pointer (some ⟨g, off + n * sz, none⟩))) w := by
  subst ha
  exact Qev t x y k n g off len cap e sz ho hx hy hu hs hn
structure NdC where
  us : Bool
  nm : Int
  key : List Int
  sg : List Int
  pa : List Int
  ms : List Int
structure NdV where
  n : NdC
  a : Option Addr
  c : Nat
def nd0 : NdV := ⟨⟨false, 0, [], [], [], []⟩, none, 0⟩
def ndi (ts : List NdV) (i : Nat) : NdV := ts.getD i nd0
structure NdOk (n : NdC) : Prop where
  kl : n.key.length = 32
  gl : n.sg.length = 32
  pl : n.pa.length = 32
  kb : Qao n.key
  gb : Qao n.sg
  pb : Qao n.pa
def ndP (n : NdV) : List (Array Value) := [#[.bool n.n.us], #[.int .i64 n.n.nm], ints .u8 n.n.key, ints .u8 n.n.sg, ints .u8 n.n.pa, #[.slice n.a n.n.ms.length n.c]]
theorem QeS (n : NdV) (h : NdOk n.n) : (cat (ndP n)).size = 99 := by
  unfold ndP
  simp only [cat, Array.size_append, Qad, h.kl, h.gl, h.pl]
  rfl
structure NdAt (B : Nat) (w : World) (g off : Nat) (n : NdV) : Prop where
  lt : g < B
  lt2 : g < w.heap.size
  cell : ∀ j u, (cat (ndP n))[j]? = some u → w.cell? ⟨g, off + j, none⟩ = some u
  rd : RdK .i64 B n.n.ms (.slice n.a n.n.ms.length n.c) w
  ok : NdOk n.n
theorem NdAt.keep {B g off : Nat} {w W : World} {n : NdV} (h : NdAt B w g off n) (hs : w.heap.size ≤ W.heap.size) (hk : ∀ k, k < B → k < w.heap.size → W.heap[k]? = w.heap[k]?) : NdAt B W g off n :=
  ⟨h.lt, Nat.lt_of_lt_of_le h.lt2 hs, fun j u hu => by rw [← h.cell j u hu]; exact World.cell?_of_block (hk g h.lt h.lt2), h.rd.keep hs hk, h.ok⟩
def TrAt (B : Nat) (w : World) (a : Option Addr) (ts : List NdV) : Prop := ∃ g o, (0 < ts.length → a = some ⟨g, o, none⟩) ∧ ∀ i, i < ts.length → NdAt B w g (o + i * 99) (ndi ts i)
theorem TrAt.keep {B : Nat} {w W : World} {a : Option Addr} {ts : List NdV} (h : TrAt B w a ts) (hs : w.heap.size ≤ W.heap.size) (hk : ∀ k, k < B → k < w.heap.size → W.heap[k]? = w.heap[k]?) : TrAt B W a ts := by
  obtain ⟨g, o, h1, h2⟩ := h
  exact ⟨g, o, h1, fun i hi => (h2 i hi).keep hs hk⟩
theorem TrAt.ext {B : Nat} {w W : World} {a : Option Addr} {ts : List NdV} (h : TrAt B w a ts) (e : Ext w W) : TrAt B W a ts := h.keep e.size fun k _ hl => e.block k hl
theorem TrAt.gw {base gw : Nat} {w W : World} {a : Option Addr} {ts : List NdV} (h : TrAt base w a ts) (q : GW base gw w W) (hb : base ≤ gw) : TrAt base W a ts := h.keep q.size fun k hk hl => q.block k hl (by omega) (.inl hk)
theorem TrAt.here {B : Nat} {w : World} {a : Option Addr} {ts : List NdV} (h : TrAt B w a ts) : TrAt w.heap.size w a ts := by
  obtain ⟨g, o, h1, h2⟩ := h
  exact ⟨g, o, h1, fun i hi => ⟨(h2 i hi).lt2, (h2 i hi).lt2, (h2 i hi).cell, RdK.here (h2 i hi).rd, (h2 i hi).ok⟩⟩
theorem TrAt.more {B B' : Nat} {w : World} {a : Option Addr} {ts : List NdV} (h : TrAt B w a ts) (hb : B ≤ B') : TrAt B' w a ts := by
  obtain ⟨g, o, h1, h2⟩ := h
  exact ⟨g, o, h1, fun i hi => ⟨Nat.lt_of_lt_of_le (h2 i hi).lt hb, (h2 i hi).lt2, (h2 i hi).cell, RdK.more (h2 i hi).rd hb, (h2 i hi).ok⟩⟩
end Go.Proofs.Ytfelfmchachljaa.Wr
end
section
namespace Go.Proofs.Ytfelfmchachljaa.Wr
open Go Go.RowKit
open Rely Auto Own Sha
set_option linter.unusedVariables false
set_option linter.unusedSimpArgs false
def QeA (s : Option (List Int)) (n : NdC) : Option (List Int) := QbM s n.us n.nm n.key n.sg n.pa n.ms
theorem Qcr (n : Int) (k : Nat) : numS none n k = none := by unfold numS; rw [show Qax none (okN n k) = none by cases okN n k <;> rfl, Qcw]
theorem Qfn (n : NdC) : QeA none n = none := by
  unfold QeA QbM QbK
  have e : (bif n.us then numS none 1 1 else numS (Qax none (QaB n.us n.nm n.key n.sg n.pa n.ms)) 0 1) = none := by
    rw [QaO, Qcr, Qcr]; cases n.us <;> rfl
  rw [e, Qcr]
  show n.ms.foldl QaE (numS (Qax none _) _ 1) = none
  rw [QaO, Qcr]
  exact Qbg _
end Go.Proofs.Ytfelfmchachljaa.Wr
end
section
namespace Go.Proofs.Ytfelfmchachljaa.Wr
open Go Go.RowKit
open Rely Auto Own Sha
set_option linter.unusedVariables false
set_option linter.unusedSimpArgs false
def okN_ (n : NdC) : Bool := Qca n.us n.nm n.key n.sg n.pa n.ms
def Qhm (n : NdC) : List Int := Qch n.us n.nm n.key n.sg n.pa n.ms
theorem Qho (ts : List NdV) (i : Nat) (h : i < ts.length) : ndi ts i ∈ ts := by
  unfold ndi
  rw [List.getD_eq_getElem?_getD, List.getElem?_eq_getElem h]
  exact List.getElem_mem h
end Go.Proofs.Ytfelfmchachljaa.Wr
end
section
namespace Go.Proofs.Ytfelfmchachljaa.Wr
open Go Go.RowKit
open Rely Auto Own Sha
set_option linter.unusedVariables false
set_option linter.unusedSimpArgs false
def putN (s : Option (List Int)) (us : Bool) (nm : Int) (key sg pa ms : List Int) : Option (List Int) := if Qca us nm key sg pa ms = true then rawS s (Qch us nm key sg pa ms) else none
theorem Qcx (s : Option (List Int)) (us : Bool) (nm : Int) (key sg pa ms : List Int) (hkl : key.length = 32) (hgl : sg.length = 32) (hpl : pa.length = 32) : QbM s us nm key sg pa ms = putN s us nm key sg pa ms := by
  have hall := Qfa ms ms.length (Nat.le_refl _)
  rw [List.take_length] at hall
  unfold QbM putN Qca QbK
  rw [QcN]
  change _ = if (inB nm 255 && decide (ms.length ≤ 32) && (risV ms && allN ms ms.length && (us || QaB us nm key sg pa ms))) = true then _ else _
  have hs1 : (bif us then numS s 1 1 else numS (Qax s (QaB us nm key sg pa ms)) 0 1) = bif (us || QaB us nm key sg pa ms) then rawS s [bif us then 1 else 0] else none := by
    cases us with
    | true => rfl
    | false =>
      cases QaB false nm key sg pa ms with
      | true => rfl
      | false => rfl
  rw [hs1]
  cases hb : (us || QaB us nm key sg pa ms) with
  | false =>
    rw [if_neg (by rw [Bool.and_false, Bool.and_false]; decide)]
    show ms.foldl QaE (numS (Qax (rawS (rawS (rawS (numS none nm 1) key) sg) pa) (risV ms)) _ 1) = none
    have e1 : numS none nm 1 = none := by rw [Qbm _ nm 0 255 (by decide) (by decide)]; cases inB nm 255 <;> rfl
    rw [e1]
    have e2 : Qax (rawS (rawS (rawS none key) sg) pa) (risV ms) = none := by cases risV ms <;> rfl
    rw [e2, Qbm _ _ 0 255 (by decide) (by decide)]
    cases inB ((ms.length : Nat) : Int) 255 <;> exact Qbg ms
  | true =>
    rw [Bool.and_true]
    show ms.foldl QaE (numS (Qax (rawS (rawS (rawS (numS (rawS s [bif us then 1 else 0]) nm 1) key) sg) pa) (risV ms)) _ 1) = _
    rw [Qbm _ nm 0 255 (by decide) (by decide)]
    cases hn : inB nm 255 with
    | false =>
      rw [if_neg (by rw [Bool.false_and, Bool.false_and]; decide)]
      have e2 : Qax (rawS (rawS (rawS (bif false then rawS (rawS s [bif us then 1 else 0]) (beV nm (0 + 1)) else none) key) sg) pa) (risV ms) = none := by cases risV ms <;> rfl
      rw [e2, Qbm _ _ 0 255 (by decide) (by decide)]
      cases inB ((ms.length : Nat) : Int) 255 <;> exact Qbg ms
    | true =>
      rw [Bool.true_and]
      cases hr : risV ms with
      | false =>
        rw [if_neg (by rw [Bool.false_and, Bool.and_false]; decide)]
        show ms.foldl QaE (numS none _ 1) = none
        rw [Qbm _ _ 0 255 (by decide) (by decide)]
        cases inB ((ms.length : Nat) : Int) 255 <;> exact Qbg ms
      | true =>
        rw [Bool.true_and]
        show ms.foldl QaE (numS (rawS (rawS (rawS (rawS (rawS s [bif us then 1 else 0]) (beV nm 1)) key) sg) pa) ((ms.length : Nat) : Int) (0 + 1)) = _
        rw [Qbm _ _ 0 255 (by decide) (by decide)]
        cases ha : allN ms ms.length with
        | false =>
          rw [if_neg (by rw [Bool.and_false]; decide)]
          cases inB ((ms.length : Nat) : Int) 255 with
          | false => exact Qbg ms
          | true =>
            show ms.foldl QaE (rawS _ (beV _ (0 + 1))) = none
            rw [Qdc, ← hall, ha]
            rfl
        | true =>
          have hl := Qiu ms hr ha
          rw [decide_eq_true hl, if_pos (by rfl), show inB ((ms.length : Nat) : Int) 255 = true by unfold inB; simp; omega]
          show ms.foldl QaE (rawS _ (beV _ (0 + 1))) = _
          rw [Qdc, ← hall, ha]
          show rawS (rawS (rawS (rawS (rawS (rawS s [bif us then 1 else 0]) (beV nm 1)) key) sg) pa) (beV ((ms.length : Nat) : Int) 1 ++ ms.map fun m => byV m 0) = _
          rw [QaF, QaF, QaF, QaF, QaF]
          have e : [bif us then 1 else 0] ++ (beV nm 1 ++ (key ++ (sg ++ (pa ++ (beV ((ms.length : Nat) : Int) 1 ++ ms.map fun m => byV m 0))))) = Qch us nm key sg pa ms := by
            unfold Qch Qgx
            simp only [List.append_assoc]
            rfl
          rw [e]
theorem Qc5 (us : Bool) (nm : Int) (key sg pa ms r : List Int) (hkl : key.length = 32) (hgl : sg.length = 32) (hpl : pa.length = 32) (hg : Qca us nm key sg pa ms = true) (s : Option (List Int)) (hs : s = some (Qch us nm key sg pa ms ++ r)) :
    nUs s = us ∧ nNm s = nm ∧ nKy s = key ∧ nSg s = sg ∧ nPa s = pa ∧ QaA s = some r ∧ nL s = ms := by
  obtain ⟨h1, h2, h3, h4, h5, h6, h7⟩ := QfD us nm key sg pa ms r hkl hgl hpl hg s hs
  have hu : nUs s = us := by unfold nUs; rw [h1]; cases us <;> rfl
  refine ⟨hu, h2, h3, h4, h5, ?_, h7⟩
  unfold Qca at hg
  rw [QcN] at hg
  simp only [Bool.and_eq_true] at hg
  obtain ⟨-, ⟨hr, -⟩, hb⟩ := hg
  have ho : nOk s = true := by
    unfold nOk
    rw [hu, h1, h2, h3, h4, h5, h7]
    cases us with
    | true => rfl
    | false => exact hb
  unfold QaA
  rw [ho, h6, h7, show risV ms = true from hr]
  rfl
structure NdIs (s : Option (List Int)) (n : NdC) : Prop where
  us : n.us = nUs s
  nm : n.nm = nNm s
  key : n.key = nKy s
  sg : n.sg = nSg s
  pa : n.pa = nPa s
  ms : n.ms = nL s
end Go.Proofs.Ytfelfmchachljaa.Wr
end
section
namespace Go.Proofs.Ytfelfmchachljaa.Wr
open Go Go.RowKit
open Rely Auto Own Sha
set_option linter.unusedVariables false
set_option linter.unusedSimpArgs false
section
variable {ds : List Deferred} {P : Program} {ops : Array Oper} {Q : Exit → Act → World → Prop} {rest : List Oper} {o : Oper} {N : Nat} {L : Env} {w : World}
theorem Qdz (ob : Obj) (mk : Nat → Value) (d : Nat) (hd : o.dst = some d) (hg : QbJ ops o N L = some true) (h : (execOp (Rely.look (envN N L)) o).run P w = .ok (.value (mk w.heap.size)) (w.alloc ob))
    (k : ∀ (g : Nat) (W : World), w.heap.size ≤ g → Ext w W → W.heap[g]? = some ob → WL P ops Q rest (QaH ds N ((d, mk g) :: L)) W) : WL P ops Q (o :: rest) (QaH ds N L) w :=
  QbF _ _ d hd hg h (k _ _ (Nat.le_refl _) (Qde _ _) (heap_alloc_new _ _))
end
theorem Qew {P : Program} {ρ : Operand → Value} {o : Oper} {w : World} (t e : TypeId) (sz : Nat) (x : Operand) (v : Value) (ho : o.op = .buildSlice t 1 #[(0, x)]) (hx : ρ x = v) (hu : P.underlying t = some (.slice e)) (hs : (P.info? e).map (·.size) = some sz) (hz : ((P.info? e).bind (·.zero)).isSome = true) (hv : v.cells.size = sz) (h0 : 0 < sz) (hl : sz ≤ 2 ^ 24) :
    (execOp ρ o).run P w = .ok (.value (.slice (some ⟨w.heap.size, 0, none⟩) 1 1)) (w.alloc (.cells v.cells e)) := by
  cases hie : P.info? e with
  | none => simp [hie] at hs
  | some ie =>
    simp only [hie, Option.map_some, Option.some.injEq, Option.bind_some] at hs hz
    obtain ⟨z, hzz⟩ := Option.isSome_iff_exists.1 hz
    subst hx
    have hf : Instr.fill (fun i => some (i * ie.size, ie.size)) ((Array.range (1 * ie.size)).map (z.cells[· % z.cells.size]!)) (Array.map (fun p : Nat × Operand => (p.1, ρ p.2)) #[(0, x)]).toList = some (ρ x).cells := by
      have := QdJ (fun i => some (i * ie.size, ie.size)) [(0, ie.size, ρ x, (ρ x).cells)] [] ((Array.range (1 * ie.size)).map (z.cells[· % z.cells.size]!)) 0 rfl ⟨by simp, rfl, by rw [hv, hs], trivial⟩ (by simp [tot])
      simpa [cat] using this
    have hr := run_buildSlice w t e 1 (Array.map (fun p : Nat × Operand => (p.1, ρ p.2)) #[(0, x)]) (ρ x).cells ie z hu hie hzz (by rw [hs]; omega) (by rw [hs]; omega) hf
    unfold execOp
    simp only [ho, Sem.run_bind]
    rw [hr]
    rfl
def ByS (s : Option (List Int)) : Prop := ∀ xs, s = some xs → Qao xs
theorem RSt.byS {B gr : Nat} {s : Option (List Int)} {W : World} (h : RSt B gr s W) : ByS s := by
  obtain ⟨u, xs, bad, -, -, h3, rfl⟩ := h
  intro ys hy
  cases bad with
  | true => cases hy
  | false => exact Option.some.inj hy ▸ h3
theorem ByS.take {s : Option (List Int)} (h : ByS s) (n : Nat) : ByS (Qac s n) := by
  intro ys hy
  cases s with
  | none => cases hy
  | some xs =>
    have h1 : (if n ≤ xs.length then some (xs.drop n) else none) = some ys := hy
    split at h1
    · exact Option.some.inj h1 ▸ QbN (h xs rfl) n
    · cases h1
theorem ByS.bytes {s : Option (List Int)} (h : ByS s) (n : Nat) : Qao (Qag s n) := by
  cases s with
  | none => exact Qcc
  | some xs =>
    show Qao (if n ≤ xs.length then xs.take n else [])
    split
    · exact QcA (h xs rfl) n
    · exact Qcc
theorem Qis {s : Option (List Int)} (h : ByS s) (us : Bool) (nm : Int) (ms : List Int) : NdOk ⟨us, nm, nKy s, nSg s, nPa s, ms⟩ := by
  have h2 : ByS (nR2 s) := (h.take 1).take 1
  have h3 : ByS (nR3 s) := h2.take 32
  have h4 : ByS (nR4 s) := h3.take 32
  exact ⟨QaN s, QaL s, QaM s, Qbr _ (h2.bytes 32), Qbr _ (h3.bytes 32), Qbr _ (h4.bytes 32)⟩
structure OwT (base : Nat) (ts : List NdV) (v : Value) (W : World) : Prop where
  row : W.ownsRow base 43 99 v ts.length (ts.flatMap fun n => (cat (ndP n)).toList)
  nd : ∀ n ∈ ts, NdOk n.n ∧ n.n.ms.length ≤ 255 ∧ OwnN .i64 3 base n.n.ms (.slice n.a n.n.ms.length n.c) W
theorem OwT.nil (base : Nat) (W : World) : OwT base [] (.slice none 0 0) W := ⟨World.ownsRow_nil W base 43 99, fun n hn => by cases hn⟩
theorem Qc4 {base : Nat} {e : TypeId} {size n : Nat} {v : Value} {xs : List Value} {W : World} (h : W.ownsRow base e size v n xs) {g : Nat} (hg : v.ownBlock = some g) : base ≤ g ∧ ∃ cur, W.heap[g]? = some (.cells cur e) := by
  rcases h.2 with ⟨rfl, _⟩ | ⟨g', c, cur, rfl, q2, q3, _⟩
  · cases hg
  · obtain rfl : g' = g := Option.some.inj hg
    exact ⟨q2, cur, q3⟩
theorem OwT.grown {base : Nat} {ts : List NdV} {v : Value} {W W' : World} {g : Nat} (h : OwT base ts v W) (q : W.grownBy W' (some g)) (hg : g < base) : OwT base ts v W' :=
  ⟨h.row.kept q (by
    cases e : v.ownBlock with
    | none => exact .inl rfl
    | some k => exact .inr fun e2 => by have := (Qc4 h.row e).1; obtain rfl := Option.some.inj e2; omega), fun n hn => by
    obtain ⟨h1, h2, h3⟩ := h.nd n hn
    exact ⟨h1, h2, h3.keep fun k hk => q.block k (h3.lt hk) fun e => by have := h3.ge hk; obtain rfl := Option.some.inj e; omega⟩⟩
theorem OwT.extB {base g : Nat} {ts : List NdV} {v : Value} {W W' : World} (h : OwT base ts v W) (q : ExtB g W W') (hg : g < base) : OwT base ts v W' :=
  h.grown (g := g) ⟨q.1, q.2.1, q.2.2.1, q.2.2.2.1, fun k hk hn => q.2.2.2.2 k hk fun e => hn (by rw [e])⟩ hg
theorem OwT.ext {base : Nat} {ts : List NdV} {v : Value} {W W' : World} (h : OwT base ts v W) (e : Ext W W') : OwT base ts v W' :=
  ⟨h.row.kept (row := none) ⟨e.os, e.tape, e.output, e.size, fun k hk _ => e.block k hk⟩ (by cases e : v.ownBlock with
    | none => exact .inl rfl
    | some k => exact .inr fun e2 => by cases e2), fun n hn => ⟨(h.nd n hn).1, (h.nd n hn).2.1, (h.nd n hn).2.2.ext e⟩⟩
theorem Qhp (n : NdV) : ∀ u ∈ (cat (ndP n)).toList, u.oneCell' = true := by
  intro u hu
  unfold ndP at hu
  simp only [cat, Array.toList_append, ints, List.mem_append, List.mem_map, List.mem_cons, List.not_mem_nil, or_false] at hu
  rcases hu with rfl | rfl | ⟨x, -, rfl⟩ | ⟨x, -, rfl⟩ | ⟨x, -, rfl⟩ | rfl <;> rfl
theorem OwT.app {P : Program} {ρ : Operand → Value} {o : Oper} {W : World} (b : Nat) (s x : Operand) (t : TypeId) (ho : o.op = .call { callee := .builtin .append, args := #[s, x], argTypes := #[t, t] }) (ht : P.underlying t = some (.slice 43))
    (hi : (P.info? 43).map (fun i => (i.zero.map (·.cells.size), i.size, i.bytes)) = some (some 99, 99, b)) (hb8 : b ≤ 1000) {base g : Nat} {v : Value} {ts : List NdV} {n : NdV} (hs : ρ s = v) (hx : ρ x = .slice (some ⟨g, 0, none⟩) 1 1)
    (h : OwT base ts v W) (hn : NdOk n.n) (hnl : n.n.ms.length ≤ 255) (hno : OwnN .i64 3 base n.n.ms (.slice n.a n.n.ms.length n.c) W) (hrow : W.heap[g]? = some (.cells (cat (ndP n)) 43)) (htl : ts.length ≤ 1000000) (hbase : base ≤ W.heap.size) :
    ∃ v' W', (execOp ρ o).run P W = .ok (.value v') W' ∧ OwT base (ts ++ [n]) v' W' ∧ RowKit.Below base W W' := by
  obtain ⟨i, hq, z, hz, hzs, hi2, hi3⟩ : ∃ i, P.info? 43 = some i ∧ ∃ z, i.zero = some z ∧ z.cells.size = 99 ∧ i.size = 99 ∧ i.bytes = b := by
    cases hq : P.info? 43 with
    | none => rw [hq] at hi; cases hi
    | some i =>
      rw [hq] at hi
      simp only [Option.map_some, Option.some.injEq, Prod.mk.injEq] at hi
      obtain ⟨z, hz, hzs⟩ := Option.map_eq_some_iff.1 hi.1
      exact ⟨i, rfl, z, hz, hzs, hi.2.1, hi.2.2⟩
  have hsz := QeS n hn
  obtain ⟨v', W', hr, h2, h3, -, -⟩ := run_append_own_at (P := P) W base t o.type 43 i z 99 b ht hq hz hi2 hi3 hzs (by decide) v ts.length _ h.row ⟨g, 0, none⟩ 1 1 (cat (ndP n)).toList (by rw [Array.length_toList, hsz])
    (fun j u hu => by
      rw [WideShapes.add_plain, Nat.zero_add]
      unfold World.cell?
      simp only [hrow]
      rw [Array.getElem?_toList] at hu
      rw [← hu]; rfl) (Qhp n) (by simp only [maxLen]; omega) (by
        have : (ts.length + 1) * b ≤ 1000001 * 1000 := Nat.mul_le_mul (by omega) hb8
        omega) hbase
  refine ⟨v', W', ?_, ⟨?_, ?_⟩, ⟨h3.os, h3.tape, h3.output, h3.size, fun k hk => h3.block k (Nat.lt_of_lt_of_le hk hbase) fun q => by have := (Qc4 h.row q.symm).1; omega⟩⟩
  · unfold execOp
    simp only [ho, resolve, invoke, builtin, Sem.run_bind, Sem.run_pure, Result.andThen_ok, List.map_toArray, List.map_cons, List.map_nil, hs, hx, hr]
  · rw [List.length_append, List.flatMap_append]
    simpa using h2
  · intro m hm
    have keep : ∀ m : NdV, OwnN .i64 3 base m.n.ms (.slice m.a m.n.ms.length m.c) W → OwnN .i64 3 base m.n.ms (.slice m.a m.n.ms.length m.c) W' := fun m hmo => hmo.keep fun k hk => h3.block k (hmo.lt hk) fun q => by
      obtain ⟨cur, e1⟩ := QdD hmo hk
      obtain ⟨-, cur2, e2⟩ := Qc4 h.row q.symm
      exact typW e1 e2 (by decide) rfl
    rcases List.mem_append.1 hm with h1 | h1
    · obtain ⟨a1, a2, a3⟩ := h.nd m h1
      exact ⟨a1, a2, keep m a3⟩
    · obtain rfl : m = n := by simpa using h1
      exact ⟨hn, hnl, keep m hno⟩
section
variable {ds : List Deferred} {P : Program} {ops : Array Oper} {Q : Exit → Act → World → Prop} {rest : List Oper} {o : Oper} {N : Nat} {L : Env} {W : World}
end
theorem Qgz (ts : List NdV) (ho : ∀ n ∈ ts, NdOk n.n) : ∀ i, i < ts.length → ∀ j u, (cat (ndP (ndi ts i)))[j]? = some u → (ts.flatMap fun n => (cat (ndP n)).toList)[i * 99 + j]? = some u := by
  induction ts with
  | nil => intro i hi; exact absurd hi (Nat.not_lt_zero _)
  | cons n r ih =>
    intro i hi j u hu
    have hsz : (cat (ndP n)).toList.length = 99 := by rw [Array.length_toList]; exact QeS n (ho n List.mem_cons_self)
    rw [List.flatMap_cons]
    cases i with
    | zero =>
      have hu' : (cat (ndP n))[j]? = some u := hu
      have hj : j < 99 := by have := (Array.getElem?_eq_some_iff.1 hu').1; rw [← Array.length_toList, hsz] at this; exact this
      rw [List.getElem?_append_left (by omega), Nat.zero_mul, Nat.zero_add, Array.getElem?_toList]; exact hu'
    | succ i =>
      rw [List.getElem?_append_right (by omega), hsz, show (i + 1) * 99 + j - 99 = i * 99 + j by omega]
      exact ih (fun x hx => ho x (List.mem_cons_of_mem _ hx)) i (by simpa using hi) j u hu
theorem OwT.tr {base : Nat} {ts : List NdV} {a : Option Addr} {c : Nat} {W : World} (h : OwT base ts (.slice a ts.length c) W) : TrAt W.heap.size W a ts := by
  rcases h.row.2 with ⟨e, -⟩ | ⟨g, cap, cur, e, q2, q3, -⟩
  · have h0 : ts.length = 0 := by simp only [Value.slice.injEq] at e; exact e.2.1
    exact ⟨0, 0, fun h1 => absurd h1 (by omega), fun i hi => absurd hi (by omega)⟩
  · simp only [Value.slice.injEq] at e
    obtain ⟨rfl, -, rfl⟩ := e
    refine ⟨g, 0, fun _ => rfl, fun i hi => ?_⟩
    have hm := Qho ts i hi
    obtain ⟨h1, h2, h3⟩ := h.nd _ hm
    refine ⟨Qa5 q3, Qa5 q3, fun j u hu => ?_, RdK.here (OwnN.rd h3), h1⟩
    have := h.row.cells (g := g) rfl (i * 99 + j) u (Qgz ts (fun n hn => (h.nd n hn).1) i hi j u hu)
    rw [WideShapes.add_plain] at this
    rw [Nat.zero_add] at this
    rw [Nat.zero_add]; exact this
theorem OwT.sl {base : Nat} {ts : List NdV} {v : Value} {W : World} (h : OwT base ts v W) : ∃ a c, v = .slice a ts.length c := by
  rcases h.row.2 with ⟨e, e2⟩ | ⟨g, cap, cur, e, -⟩
  · exact ⟨none, 0, by rw [e, e2]⟩
  · exact ⟨_, _, e⟩
theorem OwT.base {a b : Nat} {ts : List NdV} {v : Value} {W : World} (h : OwT b ts v W) (hab : a ≤ b) : OwT a ts v W :=
  ⟨⟨h.row.1, h.row.2.imp id fun ⟨g, c, cur, q1, q2, q3⟩ => ⟨g, c, cur, q1, Nat.le_trans hab q2, q3⟩⟩, fun n hn => ⟨(h.nd n hn).1, (h.nd n hn).2.1, OwnN.base hab (h.nd n hn).2.2⟩⟩
end Go.Proofs.Ytfelfmchachljaa.Wr
end
section
namespace Go.Proofs.Ytfelfmchachljaa.Wr
open Go Go.RowKit
open Rely Auto Own Sha
set_option linter.unusedVariables false
set_option linter.unusedSimpArgs false
end Go.Proofs.Ytfelfmchachljaa.Wr
end
section
namespace Go.Proofs.Ytfelfmchachljaa.Wr
open Go Go.RowKit
open Rely Auto Own Sha
set_option linter.unusedVariables false
set_option linter.unusedSimpArgs false
theorem OwT.puts {base g : Nat} {ts : List NdV} {v : Value} {W W' : World} {c : Array Value} {T' : TypeId} (h : OwT base ts v W) (p : Puts W g W') (r : W.heap[g]? = some (.cells c T')) (h1 : T' ≠ 43) (h2 : T' ≠ 3) : OwT base ts v W' := by
  have q : W.grownBy W' (some g) := ⟨p.1, p.2.1, p.2.2.1, Nat.le_of_eq p.2.2.2.1.symm, fun k hk hn => p.2.2.2.2 k fun e => hn (by rw [e])⟩
  refine ⟨h.row.kept q ?_, fun n hn => ?_⟩
  · cases e : v.ownBlock with
    | none => exact .inl rfl
    | some k =>
      refine .inr fun e2 => ?_
      obtain ⟨-, cur, e3⟩ := Qc4 h.row e
      obtain rfl := Option.some.inj e2
      exact typW r e3 h1 rfl
  · obtain ⟨a1, a2, a3⟩ := h.nd n hn
    exact ⟨a1, a2, a3.puts p (Qcy a3 r (Ne.symm h2))⟩
end Go.Proofs.Ytfelfmchachljaa.Wr
end
section
namespace Go.Proofs.Ytfelfmchachljaa.Wr
open Go Go.RowKit
open Rely Auto Own Sha
set_option linter.unusedVariables false
set_option linter.unusedSimpArgs false
def LsAt {α : Type} (El : Nat → World → Nat → Nat → α → Prop) (sz : Nat) (d : α) (B : Nat) (w : World) (a : Option Addr) (ts : List α) : Prop :=
  ∃ g o, (0 < ts.length → a = some ⟨g, o, none⟩) ∧ ∀ i, i < ts.length → El B w g (o + i * sz) (ts.getD i d)
structure ElK {α : Type} (El : Nat → World → Nat → Nat → α → Prop) : Prop where
  keep : ∀ {B g off : Nat} {w W : World} {x : α}, El B w g off x → w.heap.size ≤ W.heap.size → (∀ k, k < B → k < w.heap.size → W.heap[k]? = w.heap[k]?) → El B W g off x
  here : ∀ {B g off : Nat} {w : World} {x : α}, El B w g off x → El w.heap.size w g off x
  more : ∀ {B B' g off : Nat} {w : World} {x : α}, El B w g off x → B ≤ B' → El B' w g off x
section
variable {α : Type} {El : Nat → World → Nat → Nat → α → Prop} {sz : Nat} {d : α} {B : Nat} {w W : World} {a : Option Addr} {ts : List α}
theorem LsAt.keep (K : ElK El) (h : LsAt El sz d B w a ts) (hs : w.heap.size ≤ W.heap.size) (hk : ∀ k, k < B → k < w.heap.size → W.heap[k]? = w.heap[k]?) : LsAt El sz d B W a ts := by
  obtain ⟨g, o, h1, h2⟩ := h
  exact ⟨g, o, h1, fun i hi => K.keep (h2 i hi) hs hk⟩
theorem LsAt.ext (K : ElK El) (h : LsAt El sz d B w a ts) (e : Ext w W) : LsAt El sz d B W a ts := h.keep K e.size fun k _ hl => e.block k hl
theorem LsAt.gw {gw : Nat} (K : ElK El) (h : LsAt El sz d B w a ts) (q : GW B gw w W) (hb : B ≤ gw) : LsAt El sz d B W a ts := h.keep K q.size fun k hk hl => q.block k hl (by omega) (.inl hk)
theorem LsAt.here (K : ElK El) (h : LsAt El sz d B w a ts) : LsAt El sz d w.heap.size w a ts := by
  obtain ⟨g, o, h1, h2⟩ := h
  exact ⟨g, o, h1, fun i hi => K.here (h2 i hi)⟩
theorem LsAt.more {B' : Nat} (K : ElK El) (h : LsAt El sz d B w a ts) (hb : B ≤ B') : LsAt El sz d B' w a ts := by
  obtain ⟨g, o, h1, h2⟩ := h
  exact ⟨g, o, h1, fun i hi => K.more (h2 i hi) hb⟩
theorem Qcz (ts : List α) (d : α) (i : Nat) (h : i < ts.length) : ts.drop i = ts.getD i d :: ts.drop (i + 1) := by
  rw [List.drop_eq_getElem_cons h]
  congr 1
  rw [List.getD_eq_getElem?_getD, List.getElem?_eq_getElem h]
  rfl
theorem QbI (ts : List α) (d : α) (i : Nat) (h : i < ts.length) : ts.getD i d ∈ ts := by
  rw [List.getD_eq_getElem?_getD, List.getElem?_eq_getElem h]
  exact List.getElem_mem h
theorem Qcs {F : Option (List Int) → α → Option (List Int)} (hF : ∀ x, F none x = none) : ∀ ts : List α, ts.foldl F none = none
  | [] => rfl
  | x :: r => by rw [List.foldl_cons, hF]; exact Qcs hF r
end
structure RwV where
  xs : List Int
  a : Option Addr
  c : Nat
def rw0 : RwV := ⟨[], none, 0⟩
structure RwAt (B : Nat) (w : World) (g off : Nat) (r : RwV) : Prop where
  lt : g < B
  lt2 : g < w.heap.size
  cell : w.cell? ⟨g, off, none⟩ = some (.slice r.a r.xs.length r.c)
  rd : RdK .u8 B r.xs (.slice r.a r.xs.length r.c) w
  by_ : Qao r.xs
theorem rwK : ElK RwAt :=
  ⟨fun h hs hk => ⟨h.lt, Nat.lt_of_lt_of_le h.lt2 hs, by rw [← h.cell]; exact World.cell?_of_block (hk _ h.lt h.lt2), h.rd.keep hs hk, h.by_⟩, fun h => ⟨h.lt2, h.lt2, h.cell, RdK.here h.rd, h.by_⟩, fun h hb => ⟨Nat.lt_of_lt_of_le h.lt hb, h.lt2, h.cell, RdK.more h.rd hb, h.by_⟩⟩
theorem QcV {P : Program} {ρ : Operand → Value} {o : Oper} {w : World} (ty : TypeId) (x : Operand) (g off : Nat) (v : Value) (h : w.cell? ⟨g, off, none⟩ = some v) (ho : o.op = .load ty x) (hx : ρ x = .pointer (some ⟨g, off, none⟩)) (hu : aggD P ty = some false) : (execOp ρ o).run P w = .ok (.value v) w := by
  obtain ⟨cs, t, fr, hg⟩ := QcX h
  refine Qal ty x g off t cs v fr hg ho hx ?_ hu
  unfold World.cell? at h
  simp only [hg] at h
  rw [← h]; rfl
theorem QbT {P : Program} {ρ : Operand → Value} {o : Oper} {w : World} (ty : TypeId) (x : Operand) (g off sz : Nat) (cs : Array Value) (u : Value) (h0 : cs[0]? = some u) (hsz : cs.size = sz) (h : ∀ j v, cs[j]? = some v → w.cell? ⟨g, off + j, none⟩ = some v)
    (ho : o.op = .load ty x) (hx : ρ x = .pointer (some ⟨g, off, none⟩)) (hu : aggD P ty = some true) (hi : (P.info? ty).map (·.size) = some sz) : (execOp ρ o).run P w = .ok (.value (.agg cs)) w := by
  obtain ⟨ds, t, fr, hg⟩ := QcX (h 0 _ h0)
  refine Qay ty x g off t ds cs fr hg ho hx (fun j v hv => ?_) hu (by rw [hi, hsz])
  have h1 := h j v hv
  unfold World.cell? at h1
  simp only [hg] at h1
  rw [← h1]; rfl
structure StV where
  key : List Int
  rows : List RwV
  a : Option Addr
  c : Nat
def st0 : StV := ⟨[], [], none, 0⟩
def stP (s : StV) : List (Array Value) := [ints .u8 s.key, #[.slice s.a s.rows.length s.c]]
structure StAt (B : Nat) (w : World) (g off : Nat) (s : StV) : Prop where
  lt : g < B
  lt2 : g < w.heap.size
  cell : ∀ j u, (cat (stP s))[j]? = some u → w.cell? ⟨g, off + j, none⟩ = some u
  rows : LsAt RwAt 1 rw0 B w s.a s.rows
  kl : s.key.length = 32
  kb : Qao s.key
theorem stK : ElK StAt :=
  ⟨fun h hs hk => ⟨h.lt, Nat.lt_of_lt_of_le h.lt2 hs, fun j u hu => by rw [← h.cell j u hu]; exact World.cell?_of_block (hk _ h.lt h.lt2), h.rows.keep rwK hs hk, h.kl, h.kb⟩, fun h => ⟨h.lt2, h.lt2, h.cell, h.rows.here rwK, h.kl, h.kb⟩, fun h hb => ⟨Nat.lt_of_lt_of_le h.lt hb, h.lt2, h.cell, h.rows.more rwK hb, h.kl, h.kb⟩⟩
theorem QbR (s : StV) (h : s.key.length = 32) : (cat (stP s)).size = 33 := by
  unfold stP
  simp only [cat, Array.size_append, Qad, h]
  rfl
theorem QhE (s : StV) (h : s.key.length = 32) : ∃ u, (cat (stP s))[0]? = some u := ⟨_, Array.getElem?_eq_getElem (by rw [QbR s h]; decide)⟩
structure PrC where
  grp : List Int
  ep : Int
  fr : Int
  bas : List Int
  kd : Int
  n : NdC
  start : List Int
  at_ : Int
  sig : List Int
structure PrV where
  p : PrC
  a : Option Addr
  c : Nat
def pr0 : PrV := ⟨⟨[], 0, 0, [], 0, ⟨false, 0, [], [], [], []⟩, [], 0, []⟩, none, 0⟩
structure PrOk (p : PrC) : Prop where
  rl : p.grp.length = 32
  rb : Qao p.grp
  al : p.bas.length = 32
  ab : Qao p.bas
  n : NdOk p.n
  tl : p.start.length = 32
  tb : Qao p.start
  il : p.sig.length = 64
  ib : Qao p.sig
def prP (p : PrV) : List (Array Value) := [ints .u8 p.p.grp, #[.int .i64 p.p.ep], #[.int .i64 p.p.fr], ints .u8 p.p.bas, #[.int .i64 p.p.kd], #[.bool p.p.n.us], #[.int .i64 p.p.n.nm], ints .u8 p.p.n.key, ints .u8 p.p.n.sg, ints .u8 p.p.n.pa, #[.slice p.a p.p.n.ms.length p.c], ints .u8 p.p.start, #[.int .i64 p.p.at_], ints .u8 p.p.sig]
theorem QbU (p : PrV) (h : PrOk p.p) : (cat (prP p)).size = 263 := by
  unfold prP
  simp only [cat, Array.size_append, Qad, h.rl, h.al, h.n.kl, h.n.gl, h.n.pl, h.tl, h.il]
  rfl
theorem QhO (p : PrV) (h : PrOk p.p) : ∃ u, (cat (prP p))[0]? = some u := ⟨_, Array.getElem?_eq_getElem (by rw [QbU p h]; decide)⟩
structure PrAt (B : Nat) (w : World) (g off : Nat) (p : PrV) : Prop where
  lt : g < B
  lt2 : g < w.heap.size
  cell : ∀ j u, (cat (prP p))[j]? = some u → w.cell? ⟨g, off + j, none⟩ = some u
  rd : RdK .i64 B p.p.n.ms (.slice p.a p.p.n.ms.length p.c) w
  ok : PrOk p.p
theorem prK : ElK PrAt :=
  ⟨fun h hs hk => ⟨h.lt, Nat.lt_of_lt_of_le h.lt2 hs, fun j u hu => by rw [← h.cell j u hu]; exact World.cell?_of_block (hk _ h.lt h.lt2), h.rd.keep hs hk, h.ok⟩, fun h => ⟨h.lt2, h.lt2, h.cell, RdK.here h.rd, h.ok⟩, fun h hb => ⟨Nat.lt_of_lt_of_le h.lt hb, h.lt2, h.cell, RdK.more h.rd hb, h.ok⟩⟩
end Go.Proofs.Ytfelfmchachljaa.Wr
end
