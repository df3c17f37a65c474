/- Texts of this claim, joined (C1). -/
import Derived.Test.YtfelfmchachljaaZC0

section
namespace Go.Proofs.Ytfelfmchachljaa.Wr
open Go Go.RowKit
open Rely Auto Own Sha
set_option linter.unusedVariables false
set_option linter.unusedSimpArgs false
section
variable {ds : List Deferred} {P : Program} {ops : Array Oper} {Q : Exit → Act → World → Prop} {rest : List Oper} {o : Oper} {N : Nat} {L : Env} {W : World}
theorem QeM {k : IntKind} {T : TypeId} (base b : Nat) (s x : Operand) (t : TypeId) (ho : o.op = .call { callee := .builtin .append, args := #[s, x], argTypes := #[t, t] })
    (ht : P.underlying t = some (.slice T)) (hi : (P.info? T).map (fun i => (i.zero, i.size, i.bytes)) = some (some (.int k 0), 1, b)) (hb8 : b ≤ 8) (d : Nat) (hd : o.dst = some d) (hg : QbL ops o N L = some true) {B : Nat} {v y : Value} {xs ys : List Int}
    (hs : Rely.look (envN N L) s = v) (hx : Rely.look (envN N L) x = y)
    (h : OwnN k T base xs v W) (hy : RdK k B ys y W) (hn : xs.length + ys.length ≤ 1000000000) (hV : base ≤ W.heap.size)
    (kk : ∀ (u : Value) (W' : World), OwnN k T base (xs ++ ys) u W' → Below base W W' → WL P ops Q rest (QaG ds N ((d, u) :: L)) W') : WL P ops Q (o :: rest) (QaG ds N L) W := by
  obtain ⟨v', W', h1, h2, h3, h4⟩ := Qc1 (ρ := Rely.look (envN N L)) (o := o) (W := W) s x t ho ht hi hb8 hs hx h hy hn hV
  exact Qcn _ _ d hd hg h1 (kk v' W' h2 ⟨h3.os, h3.tape, h3.output, h3.size, fun i hi => h3.block i (Nat.lt_of_lt_of_le hi hV) (fun q => by have := h.ge q.symm; omega)⟩)
end
def itR (s : Option (List Int)) : Nat → Option (List Int)
  | 0 => s
  | i + 1 => Qan (itR s i)
def itL (s : Option (List Int)) : Nat → List Int
  | 0 => []
  | i + 1 => itL s i ++ [((bigN (Qai (itR s i) 1) : Nat) : Int)]
theorem Qff (s : Option (List Int)) : ∀ i, (itL s i).length = i
  | 0 => rfl
  | i + 1 => by unfold itL; rw [List.length_append, Qff s i]; rfl
theorem Qdd : Qan none = none := by unfold Qan Qa4 Qad; cases decide (((bigN (Qai none 1) : Nat) : Int) < 32) <;> rfl
theorem Qfe (s : Option (List Int)) (i : Nat) (h : itR s i = none) : ∀ n, i ≤ n → itR s n = none
  | 0, hn => by obtain rfl : i = 0 := by omega
                exact h
  | n + 1, hn => by
    by_cases e : i = n + 1
    · rw [← e]; exact h
    · show Qan (itR s n) = none
      rw [Qfe s i h n (by omega)]
      exact Qdd
set_option maxHeartbeats 4000000 in
theorem QcG (B gr : Nat) (s : Option (List Int)) (w : World) (hB : B ≤ gr) (h : RSt B gr s w) : Calls Try.prog 123 #[.pointer (some ⟨gr, 0, none⟩), .func (.func 111) #[] #[]] w (QbB B gr w (itR (Qad s 1) (bigN (Qai s 1))) fun v W => ∃ xs, OwnN .i64 3 w.heap.size xs v W ∧ xs.length ≤ 255 ∧ (itR (Qad s 1) (bigN (Qai s 1)) ≠ none → xs = itL (Qad s 1) (bigN (Qai s 1)))) := by
 have hgr := h.lt
 have hN : bigN (Qai s 1) < 256 := Qdh _ (h.bytes 1) 1 (Qal s 1)
 refine enter 22 [(0, .pointer (some ⟨gr, 0, none⟩)), (1, .func (.func 111) #[] #[])] Try.func123 rfl rfl kj rfl ?_
 refine wp_seq_k fun K1 hK1 => ?_
 refine Qae ?_
 refine Qab (.slice none 0 0) 4 rfl kj kj ?_
 refine Qaf ?_
 refine hK1 _ _ ?_
 refine wp_seq_k fun K2 hK2 => ?_
 refine Qae ?_
 refine Qab (.slice none 0 0) 5 rfl kj kj ?_
 refine Qaf ?_
 refine hK2 _ _ ?_
 refine wp_seq_k fun K3 hK3 => ?_
 refine wp_seq_k fun K4 hK4 => ?_
 refine Qae ?_
 refine Qab (.pointer (some ⟨gr, 0, none⟩)) 6 rfl kj kj ?_
 refine Qak (fun v W' => ExtB gr w W' ∧ RSt B gr (Qad (s) 1) W' ∧ (fun (v : Value) (_ : World) => v = .int .i64 ((bigN (Qai (s) 1) : Nat) : Int)) v W') 110 #[.pointer (some ⟨gr, 0, none⟩), .int .i64 1] 7 rfl kj kj (Qbg B gr _ 1 _ hB h (by decide)) fun vv5 W1 hh5 => ?_
 obtain ⟨q1, rs5, hv5⟩ := hh5
 have x1 : ExtB gr w W1 := ExtB.tr (ExtB.refl gr w) q1
 subst hv5
 refine Qab (.int .i64 0) 8 rfl kj kj ?_
 refine Qaf ?_
 refine hK4 _ _ ?_
 refine wp_block ?_
 refine QaP (fun (s1 : Nat × Value) => [(0, .pointer (some ⟨gr, 0, none⟩)), (1, .func (.func 111) #[] #[]), (5, s1.2), (7, .int .i64 ((bigN (Qai (s) 1) : Nat) : Int)), (8, .int .i64 ((s1.1 : Nat) : Int))]) (fun (s1 : Nat × Value) W => (s1.1 ≤ bigN (Qai s 1)) ∧ (RSt B gr (itR (Qad s 1) s1.1) W) ∧ (OwnN .i64 3 w.heap.size (itL (Qad s 1) s1.1) s1.2 W) ∧ (ExtB gr w W)) (fun (s1 : Nat × Value) => bigN (Qai s 1) - s1.1) (0, (.slice none 0 0)) ⟨rfl, rfl, rfl, rfl, rfl, trivial⟩ ⟨(Nat.zero_le _), rs5, (Qco _ _ _ _), x1⟩ fun s1 X1 V1 hI1 => ?_
 obtain ⟨i, u⟩ := s1
 obtain ⟨hi, hrs, hu, xx1⟩ := hI1
 replace hi : i ≤ bigN (Qai s 1) := hi
 replace hrs : RSt B gr (itR (Qad s 1) i) V1 := hrs
 replace hu : OwnN .i64 3 w.heap.size (itL (Qad s 1) i) u V1 := hu
 replace xx1 : ExtB gr w V1 := xx1
 refine wp_seq_k fun K6 hK6 => ?_
 refine Qae ?_
 refine Qab (.bool (decide (((i : Nat) : Int) < ((bigN (Qai (s) 1) : Nat) : Int)))) 9 rfl kj kj ?_
 refine Qaf ?_
 refine hK6 _ _ ?_
 refine wp_seq_k fun K7 hK7 => ?_
 refine Qa5 (t := decide (((i : Nat) : Int) < ((bigN (Qai (s) 1) : Nat) : Int))) kj (fun c8 => ?_) (fun c8 => ?_)
 ·skip
  have hlt9 : i < bigN (Qai s 1) := by have := of_decide_eq_true c8; omega
  obtain ⟨u9, xs9, bad, rb9, -, -, hsc⟩ := id hrs
  refine wp_skip ?_
  refine hK7 _ _ ?_
  refine wp_seq_k fun K11 hK11 => ?_
  refine wp_block ?_
  refine wp_seq_k fun K12 hK12 => ?_
  refine wp_seq_k fun K13 hK13 => ?_
  refine Qae ?_
  refine Qab (.pointer (some ⟨gr, 0, none⟩)) 10 rfl kj kj ?_
  refine Qab (.pointer (some ⟨gr, 0, none⟩)) 11 rfl kj kj ?_
  refine Qab (.pointer (some ⟨gr, 1, none⟩)) 12 rfl kj kj ?_
  refine Qab (.bool bad) 13 rfl kj (Qag 4 _ gr 1 179 _ (.bool bad) _ rb9 rfl kj kj kj) ?_
  refine Qaf ?_
  refine hK13 _ _ ?_
  refine Qa5 (t := bad) kj (fun c14 => ?_) (fun c14 => ?_)
  ·skip
   have hbad : bad = true := c14
   have h9 : itR (Qad s 1) i = none := by rw [hsc, hbad]; rfl
   have h8 : itR (Qad s 1) (bigN (Qai s 1)) = none := Qfe _ i h9 _ hi
   have hrs3 : RSt B gr (itR (Qad s 1) (bigN (Qai s 1))) V1 := by rw [h8, ← h9]; exact hrs
   refine wp_seq_k fun K15 hK15 => ?_
   refine Qae ?_
   refine Qab (.slice none 0 0) 4 rfl kj kj ?_
   refine Qaf ?_
   refine hK15 _ _ ?_
   refine wp_ret ?_
   repeat (first | with_reducible refine goR1 ?_ | with_reducible refine goR2 ?_)
   exact (show bodyPost _ _ _ .ret _ _ from ret1 (.slice none 0 0) rfl (Qaw kj) ⟨_, rfl, xx1, hrs3, [], Qco _ _ _ _, by decide, fun hne => absurd h8 hne⟩)
  ·skip
   refine wp_skip ?_
   refine hK12 _ _ ?_
   refine Qae ?_
   refine Qab (u) 14 rfl kj kj ?_
   refine Qab (.func (.func 111) #[] #[]) 15 rfl kj kj ?_
   refine Qab (.pointer (some ⟨gr, 0, none⟩)) 16 rfl kj kj ?_
   refine Qak (fun v W' => ExtB gr V1 W' ∧ RSt B gr (Qan (itR (Qad s 1) i)) W' ∧ (fun (v : Value) (_ : World) => v = .int .i64 ((bigN (Qai (itR (Qad s 1) i) 1) : Nat) : Int)) v W') 111 #[.pointer (some ⟨gr, 0, none⟩)] 17 rfl kj kj (Qdk B gr _ _ hB hrs) fun vv16 W3 hh16 => ?_
   obtain ⟨q3, rs16, hv16⟩ := hh16
   have x3 : ExtB gr w W3 := ExtB.tr xx1 q3
   subst hv16
   refine Qbs (ints .i64 ([((bigN (Qai (itR (Qad s 1) i) 1) : Nat) : Int)])) 3 1 18 rfl kj kj fun g17 W4 l17 e4 r17_4 => ?_
   have x4 : ExtB gr w W4 := ExtB.ext x3 e4
   have b17 : w.heap.size ≤ g17 := Nat.le_trans x3.size l17
   have f18_3 := (Qbw hu q3 (Qbp hu (Nat.lt_of_lt_of_le hgr (ExtB.refl gr w).2.2.2.1)))
   have f19_4 := (f18_3.ext e4)
   refine QeM (k := .i64) (T := 3) w.heap.size 8 (.tmp 14) (.tmp 18) 41 rfl kj kj (by decide) 19 rfl kj kj kj f19_4 (Qbd (xs := [((bigN (Qai (itR (Qad s 1) i) 1) : Nat) : Int)]) (n := 1) rfl r17_4 (Qay r17_4) (show 1 ≤ maxLen from by decide)) (by rw [Qff]; show i + 1 ≤ _; omega) x4.2.2.2.1 fun u2 W5 hu2 l5 => ?_
   have x5 : ExtB gr w W5 := ExtB.low x4 l5 (Nat.le_refl _)
   refine Qab (u2) 5 rfl kj kj ?_
   refine Qaf ?_
   refine hK11 _ _ ?_
   refine Qae ?_
   refine Qab (.int .i64 ((i + 1 : Nat) : Int)) 20 rfl kj (Qax (u := .int .i64 (IntKind.i64.wrap (((i : Nat) : Int) + 1))) kj (congrArg (Value.int .i64) (i64n _ _ (by omega) (by omega)))) ?_
   refine Qab (.int .i64 ((i + 1 : Nat) : Int)) 8 rfl kj kj ?_
   refine Qaf ?_
   have rs20 := (RSt.low (RSt.ext rs16 hB e4) hB l5 hgr)
   repeat (first | with_reducible refine goX1 ?_ | with_reducible refine goX2 ?_ | with_reducible refine goX3 ?_)
   exact QaK ((i + 1), u2) ⟨rfl, rfl, rfl, rfl, rfl, trivial⟩ ⟨(by omega), rs20, hu2, x5⟩ (by omega)
 ·skip
  have heq9 : i = bigN (Qai s 1) := by have := of_decide_eq_false c8; omega
  have hrs2 := hrs
  rw [heq9] at hrs2
  refine wp_exit ?_
  refine hK3 _ _ ?_
  refine wp_seq_k fun K21 hK21 => ?_
  refine Qae ?_
  refine Qab (u) 21 rfl kj kj ?_
  refine Qab (u) 4 rfl kj kj ?_
  refine Qaf ?_
  refine hK21 _ _ ?_
  refine wp_ret ?_
  repeat (first | with_reducible refine goR1 ?_ | with_reducible refine goR2 ?_)
  exact (show bodyPost _ _ _ .ret _ _ from ret1 (u) rfl (Qaw kj) ⟨_, rfl, xx1, hrs2, _, hu, by rw [Qff]; omega, fun _ => by rw [heq9]⟩)
end Go.Proofs.Ytfelfmchachljaa.Wr
end
section
namespace Go.Proofs.Ytfelfmchachljaa.Wr
open Go Go.RowKit
open Rely Auto Own Sha
set_option linter.unusedVariables false
set_option linter.unusedSimpArgs false
def Qam (xs : List Int) : Option (List Int) := bif decide ((65536 : Int) < ((xs.length : Nat) : Int)) then none else some xs
theorem Qbv (s : Option (List Int)) : (pGrp s).length = 32 := Qap _ (Qal s 32)
theorem ExtB.toExt {g : Nat} {u w W : World} (h : Ext u w) (q : ExtB g w W) (hg : u.heap.size ≤ g) : Ext u W :=
  ⟨q.1.trans h.os, q.2.1.trans h.tape, q.2.2.1.trans h.output, Nat.le_trans h.size q.2.2.2.1, fun k hk => (q.2.2.2.2 k (Nat.lt_of_lt_of_le hk h.size) (by omega)).trans (h.block k hk)⟩
set_option maxHeartbeats 4000000 in
theorem Qeb (xs : List Int) (a_y : Option Addr) (c_y : Nat) (w : World) (hyb : Qaj xs) (hy : RdK .u8 w.heap.size xs (.slice a_y xs.length c_y) w) (hS : Qdp (Qam xs) = none) : Calls Try.prog 83 #[.slice a_y xs.length c_y, .func (.func 84) #[] #[]] w (Ret w (.tuple #[.agg (cat [(Array.replicate 32 (.int .u8 0)), #[.int .i64 0], #[.int .i64 0], #[.int .i64 0], #[.slice none 0 0]]), .iface 102 (.int .i64 3)])) := by
  refine enter 33 [(0, .slice a_y xs.length c_y), (1, .func (.func 84) #[] #[])] Try.func83 rfl rfl kj rfl ?_
  refine wp_seq_k fun K1 hK1 => ?_
  refine Qae ?_
  refine Qav (cat [(Array.replicate 32 (.int .u8 0)), #[.int .i64 0], #[.int .i64 0], #[.int .i64 0], #[.slice none 0 0]]) 81 4 rfl kj kj fun g2 W1 l2 e1 r2_1 => ?_
  have x1 : Ext w W1 := Ext.tr (Rely.Ext.refl w) e1
  have b2 : w.heap.size ≤ g2 := Nat.le_trans (Rely.Ext.refl w).size l2
  refine Qab (.nilIface) 5 rfl kj kj ?_
  refine Qaf ?_
  refine hK1 _ _ ?_
  refine wp_seq_k fun K3 hK3 => ?_
  refine Qae ?_
  refine Qab (.slice a_y xs.length c_y) 9 rfl kj kj ?_
  refine Qab (.slice a_y xs.length c_y) 10 rfl kj kj ?_
  refine Qab (.int .i64 ((xs.length : Nat) : Int)) 11 rfl kj kj ?_
  refine Qab (.bool (decide (((xs.length : Nat) : Int) > 65536))) 12 rfl kj kj ?_
  refine Qab (.agg (cat [#[.slice a_y xs.length c_y], #[.bool (decide (((xs.length : Nat) : Int) > 65536))]])) 13 rfl kj kj ?_
  refine Qav (cat [#[.slice a_y xs.length c_y], #[.bool (decide (((xs.length : Nat) : Int) > 65536))]]) 179 14 rfl kj kj fun g4 W2 l4 e2 r4_2 => ?_
  have x2 : Ext w W2 := Ext.tr x1 e2
  have b4 : w.heap.size ≤ g4 := Nat.le_trans x1.size l4
  refine Qab (.pointer (some ⟨g4, 0, none⟩)) 6 rfl kj kj ?_
  refine Qaf ?_
  refine hK3 _ _ ?_
  refine wp_seq_k fun K5 hK5 => ?_
  refine Qae ?_
  refine Qab (.func (.func 84) #[] #[]) 15 rfl kj kj ?_
  refine Qab (.pointer (some ⟨g4, 0, none⟩)) 16 rfl kj kj ?_
  refine Qak (fun v W' => ExtB g4 W2 W' ∧ RSt w.heap.size g4 (Qdp (Qam xs)) W' ∧ ∃ (a_s : Option Addr) (c_s : Nat), v = .agg (cat [ints .u8 (pGrp (Qam xs)), #[.int .i64 (pEp (Qam xs))], #[.int .i64 (pFr (Qam xs))], #[.int .i64 (pNo (Qam xs))], #[.slice a_s (pSe (Qam xs)).length c_s]]) ∧ OwnN .u8 5 W2.heap.size (pSe (Qam xs)) (.slice a_s (pSe (Qam xs)).length c_s) W' ∧ Qaj (pSe (Qam xs)) ∧ (pSe (Qam xs)).length ≤ 65535) 84 #[.pointer (some ⟨g4, 0, none⟩)] 17 rfl kj kj (Qec w.heap.size g4 (Qam xs) _ b4 ⟨_, xs, _, r4_2, RdK.ext hy x2, hyb, rfl⟩) fun vv6 W3 hh6 => ?_
  obtain ⟨q3, ⟨u6, xs2, bad, rb3, hu6, -, hS2⟩, hv6⟩ := hh6
  rw [hS] at hS2
  obtain ⟨au_, cu_, rfl, -⟩ := id hu6
  obtain rfl : bad = true := by cases bad with | true => rfl | false => cases hS2
  have rc3 : W3.heap[g4]? = some (.cells (cat [#[.slice au_ xs2.length cu_], #[.bool true]]) 179) := rb3
  have x3 : Ext w W3 := ExtB.toExt x2 q3 b4
  obtain ⟨a7pSe_, c7pSe_, rfl, ⟨ho7pSe, hb7pSe, hl7pSe⟩⟩ := hv6
  refine Qav (cat [(Array.replicate 32 (.int .u8 0)), #[.int .i64 0], #[.int .i64 0], #[.int .i64 0], #[.slice none 0 0]]) 81 7 rfl kj kj fun g8 W4 l8 e4 r8_4 => ?_
  have x4 : Ext w W4 := Ext.tr x3 e4
  have b8 : w.heap.size ≤ g8 := Nat.le_trans x3.size l8
  refine Qa3 g8 _ (cat [ints .u8 (pGrp (Qam xs)), #[.int .i64 (pEp (Qam xs))], #[.int .i64 (pFr (Qam xs))], #[.int .i64 (pNo (Qam xs))], #[.slice a7pSe_ ((pSe (Qam xs)).length) c7pSe_]]) 81 r8_4 rfl kj (Qa0 81 _ _ g8 81 _ _ r8_4 rfl kj kj (isz (n := 36) kj (by rw [Qaa, Qaa, Qaa, Qaa, Qaa]; simp only [Array.size_append, cat, ((Qac _ _).trans (Qbv (Qam xs)))]; rfl)) (eqsz (n := 36) kj (by rw [Qaa, Qaa, Qaa, Qaa, Qaa]; simp only [Array.size_append, cat, ((Qac _ _).trans (Qbv (Qam xs)))]; rfl)) (QaX _ (by intro a ha; simp only [List.mem_cons, List.not_mem_nil, or_false] at ha; rcases ha with rfl | rfl | rfl | rfl | rfl; exact (Qas _ _); exact (Qaq _ rfl); exact (Qaq _ rfl); exact (Qaq _ rfl); exact (Qaq _ rfl)))) fun W5 p5 r8_5 => ?_
  have x5 : Ext w W5 := Puts.ext p5 x4 b8
  refine Qaf ?_
  refine hK5 _ _ ?_
  refine wp_seq_k fun K9 hK9 => ?_
  refine wp_seq_k fun K10 hK10 => ?_
  refine Qae ?_
  refine Qab (.pointer (some ⟨g4, 0, none⟩)) 18 rfl kj kj ?_
  refine Qab (.pointer (some ⟨g4, 0, none⟩)) 19 rfl kj kj ?_
  refine Qab (.pointer (some ⟨g4, 1, none⟩)) 20 rfl kj kj ?_
  have r4_4 := (Qar rc3 e4)
  have r4_5 := (Puts.row p5 r4_4 (QaI rc3 l8))
  refine Qab (.bool true) 21 rfl kj (Qag 4 _ g4 1 179 _ (.bool true) _ r4_5 rfl kj kj kj) ?_
  refine Qab (.bool true) 22 rfl kj kj ?_
  refine Qao 23 rfl kj ?_
  refine Qao 24 rfl kj ?_
  refine Qao 25 rfl kj ?_
  refine Qao 26 rfl kj ?_
  refine Qao 27 rfl kj ?_
  refine Qao 28 rfl kj ?_
  refine Qab (.bool true) 29 rfl kj kj ?_
  refine Qaf ?_
  refine hK10 _ _ ?_
  refine cond_true kj ?_
  refine wp_seq_k fun K11 hK11 => ?_
  refine Qae ?_
  refine Qav (cat [(Array.replicate 32 (.int .u8 0)), #[.int .i64 0], #[.int .i64 0], #[.int .i64 0], #[.slice none 0 0]]) 81 8 rfl kj kj fun g12 W6 l12 e6 r12_6 => ?_
  have x6 : Ext w W6 := Ext.tr x5 e6
  have b12 : w.heap.size ≤ g12 := Nat.le_trans x5.size l12
  refine Qaf ?_
  refine hK11 _ _ ?_
  refine wp_seq_k fun K13 hK13 => ?_
  refine Qae ?_
  refine Qab (.agg (cat [(Array.replicate 32 (.int .u8 0)), #[.int .i64 0], #[.int .i64 0], #[.int .i64 0], #[.slice none 0 0]])) 30 rfl kj (QaA 81 _ g12 81 _ _ r12_6 rfl kj kj (isz (n := 36) kj kj)) ?_
  refine Qab (.iface 102 (.int .i64 3)) 31 rfl kj kj ?_
  have r2_2 := (Qar r2_1 e2)
  have r2_3 := (ExtB.row q3 r2_2 (QaI r2_1 l4))
  have r2_4 := (Qar r2_3 e4)
  have r2_5 := (Puts.row p5 r2_4 (QaI r2_3 l8))
  have r2_6 := (Qar r2_5 e6)
  refine Qa3 g2 _ (cat [(Array.replicate 32 (.int .u8 0)), #[.int .i64 0], #[.int .i64 0], #[.int .i64 0], #[.slice none 0 0]]) 81 r2_6 rfl kj (Qa0 81 _ _ g2 81 _ _ r2_6 rfl kj kj (isz (n := 36) kj kj) (eqsz (n := 36) kj kj) kj) fun W7 p7 r2_7 => ?_
  have x7 : Ext w W7 := Puts.ext p7 x6 b2
  refine Qab (.iface 102 (.int .i64 3)) 5 rfl kj kj ?_
  refine Qaf ?_
  refine hK13 _ _ ?_
  refine wp_ret ?_
  repeat (first | with_reducible refine goR1 ?_ | with_reducible refine goR2 ?_)
  exact (show bodyPost _ _ _ .ret _ _ from ret2 (.agg (cat [(Array.replicate 32 (.int .u8 0)), #[.int .i64 0], #[.int .i64 0], #[.int .i64 0], #[.slice none 0 0]])) (.iface 102 (.int .i64 3)) rfl (Qbk g2 81 _ r2_7 kj kj (isz (n := 36) kj kj)) (Qaw kj) ⟨rfl, x7⟩)
set_option maxHeartbeats 4000000 in
theorem Qea (xs : List Int) (a_y : Option Addr) (c_y : Nat) (w : World) (hyb : Qaj xs) (hy : RdK .u8 w.heap.size xs (.slice a_y xs.length c_y) w) (hS : Qdp (Qam xs) = some []) : Calls Try.prog 83 #[.slice a_y xs.length c_y, .func (.func 84) #[] #[]] w (QbE w (fun v W => ∃ (a_s : Option Addr) (c_s : Nat), v = .tuple #[.agg (cat [ints .u8 (pGrp (Qam xs)), #[.int .i64 (pEp (Qam xs))], #[.int .i64 (pFr (Qam xs))], #[.int .i64 (pNo (Qam xs))], #[.slice a_s (pSe (Qam xs)).length c_s]]), .nilIface] ∧ OwnN .u8 5 w.heap.size (pSe (Qam xs)) (.slice a_s (pSe (Qam xs)).length c_s) W ∧ Qaj (pSe (Qam xs)) ∧ (pSe (Qam xs)).length ≤ 65535)) := by
  refine enter 33 [(0, .slice a_y xs.length c_y), (1, .func (.func 84) #[] #[])] Try.func83 rfl rfl kj rfl ?_
  refine wp_seq_k fun K1 hK1 => ?_
  refine Qae ?_
  refine Qav (cat [(Array.replicate 32 (.int .u8 0)), #[.int .i64 0], #[.int .i64 0], #[.int .i64 0], #[.slice none 0 0]]) 81 4 rfl kj kj fun g2 W1 l2 e1 r2_1 => ?_
  have x1 : Ext w W1 := Ext.tr (Rely.Ext.refl w) e1
  have b2 : w.heap.size ≤ g2 := Nat.le_trans (Rely.Ext.refl w).size l2
  refine Qab (.nilIface) 5 rfl kj kj ?_
  refine Qaf ?_
  refine hK1 _ _ ?_
  refine wp_seq_k fun K3 hK3 => ?_
  refine Qae ?_
  refine Qab (.slice a_y xs.length c_y) 9 rfl kj kj ?_
  refine Qab (.slice a_y xs.length c_y) 10 rfl kj kj ?_
  refine Qab (.int .i64 ((xs.length : Nat) : Int)) 11 rfl kj kj ?_
  refine Qab (.bool (decide (((xs.length : Nat) : Int) > 65536))) 12 rfl kj kj ?_
  refine Qab (.agg (cat [#[.slice a_y xs.length c_y], #[.bool (decide (((xs.length : Nat) : Int) > 65536))]])) 13 rfl kj kj ?_
  refine Qav (cat [#[.slice a_y xs.length c_y], #[.bool (decide (((xs.length : Nat) : Int) > 65536))]]) 179 14 rfl kj kj fun g4 W2 l4 e2 r4_2 => ?_
  have x2 : Ext w W2 := Ext.tr x1 e2
  have b4 : w.heap.size ≤ g4 := Nat.le_trans x1.size l4
  refine Qab (.pointer (some ⟨g4, 0, none⟩)) 6 rfl kj kj ?_
  refine Qaf ?_
  refine hK3 _ _ ?_
  refine wp_seq_k fun K5 hK5 => ?_
  refine Qae ?_
  refine Qab (.func (.func 84) #[] #[]) 15 rfl kj kj ?_
  refine Qab (.pointer (some ⟨g4, 0, none⟩)) 16 rfl kj kj ?_
  refine Qak (fun v W' => ExtB g4 W2 W' ∧ RSt w.heap.size g4 (Qdp (Qam xs)) W' ∧ ∃ (a_s : Option Addr) (c_s : Nat), v = .agg (cat [ints .u8 (pGrp (Qam xs)), #[.int .i64 (pEp (Qam xs))], #[.int .i64 (pFr (Qam xs))], #[.int .i64 (pNo (Qam xs))], #[.slice a_s (pSe (Qam xs)).length c_s]]) ∧ OwnN .u8 5 W2.heap.size (pSe (Qam xs)) (.slice a_s (pSe (Qam xs)).length c_s) W' ∧ Qaj (pSe (Qam xs)) ∧ (pSe (Qam xs)).length ≤ 65535) 84 #[.pointer (some ⟨g4, 0, none⟩)] 17 rfl kj kj (Qec w.heap.size g4 (Qam xs) _ b4 ⟨_, xs, _, r4_2, RdK.ext hy x2, hyb, rfl⟩) fun vv6 W3 hh6 => ?_
  obtain ⟨q3, ⟨u6, xs2, bad, rb3, hu6, -, hS2⟩, hv6⟩ := hh6
  rw [hS] at hS2
  obtain ⟨au_, cu_, rfl, -⟩ := id hu6
  obtain ⟨rfl, rfl⟩ : bad = false ∧ xs2 = [] := by cases bad with | true => cases hS2 | false => exact ⟨rfl, (Option.some.inj hS2).symm⟩
  have rc3 : W3.heap[g4]? = some (.cells (cat [#[.slice au_ 0 cu_], #[.bool false]]) 179) := rb3
  have x3 : Ext w W3 := ExtB.toExt x2 q3 b4
  obtain ⟨a7pSe_, c7pSe_, rfl, ⟨ho7pSe, hb7pSe, hl7pSe⟩⟩ := hv6
  refine Qav (cat [(Array.replicate 32 (.int .u8 0)), #[.int .i64 0], #[.int .i64 0], #[.int .i64 0], #[.slice none 0 0]]) 81 7 rfl kj kj fun g8 W4 l8 e4 r8_4 => ?_
  have x4 : Ext w W4 := Ext.tr x3 e4
  have b8 : w.heap.size ≤ g8 := Nat.le_trans x3.size l8
  refine Qa3 g8 _ (cat [ints .u8 (pGrp (Qam xs)), #[.int .i64 (pEp (Qam xs))], #[.int .i64 (pFr (Qam xs))], #[.int .i64 (pNo (Qam xs))], #[.slice a7pSe_ ((pSe (Qam xs)).length) c7pSe_]]) 81 r8_4 rfl kj (Qa0 81 _ _ g8 81 _ _ r8_4 rfl kj kj (isz (n := 36) kj (by rw [Qaa, Qaa, Qaa, Qaa, Qaa]; simp only [Array.size_append, cat, ((Qac _ _).trans (Qbv (Qam xs)))]; rfl)) (eqsz (n := 36) kj (by rw [Qaa, Qaa, Qaa, Qaa, Qaa]; simp only [Array.size_append, cat, ((Qac _ _).trans (Qbv (Qam xs)))]; rfl)) (QaX _ (by intro a ha; simp only [List.mem_cons, List.not_mem_nil, or_false] at ha; rcases ha with rfl | rfl | rfl | rfl | rfl; exact (Qas _ _); exact (Qaq _ rfl); exact (Qaq _ rfl); exact (Qaq _ rfl); exact (Qaq _ rfl)))) fun W5 p5 r8_5 => ?_
  have x5 : Ext w W5 := Puts.ext p5 x4 b8
  refine Qaf ?_
  refine hK5 _ _ ?_
  refine wp_seq_k fun K9 hK9 => ?_
  refine wp_seq_k fun K10 hK10 => ?_
  refine Qae ?_
  refine Qab (.pointer (some ⟨g4, 0, none⟩)) 18 rfl kj kj ?_
  refine Qab (.pointer (some ⟨g4, 0, none⟩)) 19 rfl kj kj ?_
  refine Qab (.pointer (some ⟨g4, 1, none⟩)) 20 rfl kj kj ?_
  have r4_4 := (Qar rc3 e4)
  have r4_5 := (Puts.row p5 r4_4 (QaI rc3 l8))
  refine Qab (.bool false) 21 rfl kj (Qag 4 _ g4 1 179 _ (.bool false) _ r4_5 rfl kj kj kj) ?_
  refine Qab (.bool false) 22 rfl kj kj ?_
  refine Qab (.pointer (some ⟨g4, 0, none⟩)) 23 rfl kj kj ?_
  refine Qab (.pointer (some ⟨g4, 0, none⟩)) 24 rfl kj kj ?_
  refine Qab (.pointer (some ⟨g4, 0, none⟩)) 25 rfl kj kj ?_
  refine Qab (.slice au_ 0 cu_) 26 rfl kj (Qag 26 _ g4 0 179 _ (.slice au_ 0 cu_) _ r4_5 rfl kj kj kj) ?_
  refine Qab (.int .i64 0) 27 rfl kj kj ?_
  refine Qab (.bool false) 28 rfl kj kj ?_
  refine Qab (.bool false) 29 rfl kj kj ?_
  refine Qaf ?_
  refine hK10 _ _ ?_
  refine cond_false kj ?_
  refine wp_skip ?_
  refine hK9 _ _ ?_
  refine wp_seq_k fun K11 hK11 => ?_
  refine Qae ?_
  refine Qab (.agg (cat [ints .u8 (pGrp (Qam xs)), #[.int .i64 (pEp (Qam xs))], #[.int .i64 (pFr (Qam xs))], #[.int .i64 (pNo (Qam xs))], #[.slice a7pSe_ ((pSe (Qam xs)).length) c7pSe_]])) 32 rfl kj (QaA 81 _ g8 81 _ _ r8_5 rfl kj kj (isz (n := 36) kj (by rw [Qaa, Qaa, Qaa, Qaa, Qaa]; simp only [Array.size_append, cat, ((Qac _ _).trans (Qbv (Qam xs)))]; rfl))) ?_
  have r2_2 := (Qar r2_1 e2)
  have r2_3 := (ExtB.row q3 r2_2 (QaI r2_1 l4))
  have r2_4 := (Qar r2_3 e4)
  have r2_5 := (Puts.row p5 r2_4 (QaI r2_3 l8))
  refine Qa3 g2 _ (cat [ints .u8 (pGrp (Qam xs)), #[.int .i64 (pEp (Qam xs))], #[.int .i64 (pFr (Qam xs))], #[.int .i64 (pNo (Qam xs))], #[.slice a7pSe_ ((pSe (Qam xs)).length) c7pSe_]]) 81 r2_5 rfl kj (Qa0 81 _ _ g2 81 _ _ r2_5 rfl kj kj (isz (n := 36) kj (by rw [Qaa, Qaa, Qaa, Qaa, Qaa]; simp only [Array.size_append, cat, ((Qac _ _).trans (Qbv (Qam xs)))]; rfl)) (eqsz (n := 36) kj (by rw [Qaa, Qaa, Qaa, Qaa, Qaa]; simp only [Array.size_append, cat, ((Qac _ _).trans (Qbv (Qam xs)))]; rfl)) (QaX _ (by intro a ha; simp only [List.mem_cons, List.not_mem_nil, or_false] at ha; rcases ha with rfl | rfl | rfl | rfl | rfl; exact (Qas _ _); exact (Qaq _ rfl); exact (Qaq _ rfl); exact (Qaq _ rfl); exact (Qaq _ rfl)))) fun W6 p6 r2_6 => ?_
  have x6 : Ext w W6 := Puts.ext p6 x5 b2
  refine Qab (.nilIface) 5 rfl kj kj ?_
  refine Qaf ?_
  refine hK11 _ _ ?_
  refine wp_ret ?_
  repeat (first | with_reducible refine goR1 ?_ | with_reducible refine goR2 ?_)
  have f12_4 := (ho7pSe.ext e4)
  have f13_5 := (f12_4.puts p5 (Qdl ho7pSe l8))
  have f14_6 := (f13_5.puts p6 (Qbp ho7pSe (Qay r2_2)))
  exact (show bodyPost _ _ _ .ret _ _ from ret2 (.agg (cat [ints .u8 (pGrp (Qam xs)), #[.int .i64 (pEp (Qam xs))], #[.int .i64 (pFr (Qam xs))], #[.int .i64 (pNo (Qam xs))], #[.slice a7pSe_ ((pSe (Qam xs)).length) c7pSe_]])) (.nilIface) rfl (Qbk g2 81 _ r2_6 kj kj (isz (n := 36) kj (by rw [Qaa, Qaa, Qaa, Qaa, Qaa]; simp only [Array.size_append, cat, ((Qac _ _).trans (Qbv (Qam xs)))]; rfl))) (Qaw kj) ⟨_, rfl, x6, _, _, rfl, ⟨OwnN.base x2.size f14_6, hb7pSe, hl7pSe⟩⟩)
set_option maxHeartbeats 4000000 in
theorem QdZ (xs : List Int) (a_y : Option Addr) (c_y : Nat) (w : World) (hyb : Qaj xs) (hy : RdK .u8 w.heap.size xs (.slice a_y xs.length c_y) w) (y : Int) (ys : List Int) (hS : Qdp (Qam xs) = some (y :: ys)) : Calls Try.prog 83 #[.slice a_y xs.length c_y, .func (.func 84) #[] #[]] w (Ret w (.tuple #[.agg (cat [(Array.replicate 32 (.int .u8 0)), #[.int .i64 0], #[.int .i64 0], #[.int .i64 0], #[.slice none 0 0]]), .iface 102 (.int .i64 3)])) := by
  refine enter 33 [(0, .slice a_y xs.length c_y), (1, .func (.func 84) #[] #[])] Try.func83 rfl rfl kj rfl ?_
  refine wp_seq_k fun K1 hK1 => ?_
  refine Qae ?_
  refine Qav (cat [(Array.replicate 32 (.int .u8 0)), #[.int .i64 0], #[.int .i64 0], #[.int .i64 0], #[.slice none 0 0]]) 81 4 rfl kj kj fun g2 W1 l2 e1 r2_1 => ?_
  have x1 : Ext w W1 := Ext.tr (Rely.Ext.refl w) e1
  have b2 : w.heap.size ≤ g2 := Nat.le_trans (Rely.Ext.refl w).size l2
  refine Qab (.nilIface) 5 rfl kj kj ?_
  refine Qaf ?_
  refine hK1 _ _ ?_
  refine wp_seq_k fun K3 hK3 => ?_
  refine Qae ?_
  refine Qab (.slice a_y xs.length c_y) 9 rfl kj kj ?_
  refine Qab (.slice a_y xs.length c_y) 10 rfl kj kj ?_
  refine Qab (.int .i64 ((xs.length : Nat) : Int)) 11 rfl kj kj ?_
  refine Qab (.bool (decide (((xs.length : Nat) : Int) > 65536))) 12 rfl kj kj ?_
  refine Qab (.agg (cat [#[.slice a_y xs.length c_y], #[.bool (decide (((xs.length : Nat) : Int) > 65536))]])) 13 rfl kj kj ?_
  refine Qav (cat [#[.slice a_y xs.length c_y], #[.bool (decide (((xs.length : Nat) : Int) > 65536))]]) 179 14 rfl kj kj fun g4 W2 l4 e2 r4_2 => ?_
  have x2 : Ext w W2 := Ext.tr x1 e2
  have b4 : w.heap.size ≤ g4 := Nat.le_trans x1.size l4
  refine Qab (.pointer (some ⟨g4, 0, none⟩)) 6 rfl kj kj ?_
  refine Qaf ?_
  refine hK3 _ _ ?_
  refine wp_seq_k fun K5 hK5 => ?_
  refine Qae ?_
  refine Qab (.func (.func 84) #[] #[]) 15 rfl kj kj ?_
  refine Qab (.pointer (some ⟨g4, 0, none⟩)) 16 rfl kj kj ?_
  refine Qak (fun v W' => ExtB g4 W2 W' ∧ RSt w.heap.size g4 (Qdp (Qam xs)) W' ∧ ∃ (a_s : Option Addr) (c_s : Nat), v = .agg (cat [ints .u8 (pGrp (Qam xs)), #[.int .i64 (pEp (Qam xs))], #[.int .i64 (pFr (Qam xs))], #[.int .i64 (pNo (Qam xs))], #[.slice a_s (pSe (Qam xs)).length c_s]]) ∧ OwnN .u8 5 W2.heap.size (pSe (Qam xs)) (.slice a_s (pSe (Qam xs)).length c_s) W' ∧ Qaj (pSe (Qam xs)) ∧ (pSe (Qam xs)).length ≤ 65535) 84 #[.pointer (some ⟨g4, 0, none⟩)] 17 rfl kj kj (Qec w.heap.size g4 (Qam xs) _ b4 ⟨_, xs, _, r4_2, RdK.ext hy x2, hyb, rfl⟩) fun vv6 W3 hh6 => ?_
  obtain ⟨q3, ⟨u6, xs2, bad, rb3, hu6, -, hS2⟩, hv6⟩ := hh6
  rw [hS] at hS2
  obtain ⟨au_, cu_, rfl, -⟩ := id hu6
  obtain ⟨rfl, rfl⟩ : bad = false ∧ xs2 = y :: ys := by cases bad with | true => cases hS2 | false => exact ⟨rfl, (Option.some.inj hS2).symm⟩
  have rc3 : W3.heap[g4]? = some (.cells (cat [#[.slice au_ ((y :: ys).length) cu_], #[.bool false]]) 179) := rb3
  have x3 : Ext w W3 := ExtB.toExt x2 q3 b4
  obtain ⟨a7pSe_, c7pSe_, rfl, ⟨ho7pSe, hb7pSe, hl7pSe⟩⟩ := hv6
  refine Qav (cat [(Array.replicate 32 (.int .u8 0)), #[.int .i64 0], #[.int .i64 0], #[.int .i64 0], #[.slice none 0 0]]) 81 7 rfl kj kj fun g8 W4 l8 e4 r8_4 => ?_
  have x4 : Ext w W4 := Ext.tr x3 e4
  have b8 : w.heap.size ≤ g8 := Nat.le_trans x3.size l8
  refine Qa3 g8 _ (cat [ints .u8 (pGrp (Qam xs)), #[.int .i64 (pEp (Qam xs))], #[.int .i64 (pFr (Qam xs))], #[.int .i64 (pNo (Qam xs))], #[.slice a7pSe_ ((pSe (Qam xs)).length) c7pSe_]]) 81 r8_4 rfl kj (Qa0 81 _ _ g8 81 _ _ r8_4 rfl kj kj (isz (n := 36) kj (by rw [Qaa, Qaa, Qaa, Qaa, Qaa]; simp only [Array.size_append, cat, ((Qac _ _).trans (Qbv (Qam xs)))]; rfl)) (eqsz (n := 36) kj (by rw [Qaa, Qaa, Qaa, Qaa, Qaa]; simp only [Array.size_append, cat, ((Qac _ _).trans (Qbv (Qam xs)))]; rfl)) (QaX _ (by intro a ha; simp only [List.mem_cons, List.not_mem_nil, or_false] at ha; rcases ha with rfl | rfl | rfl | rfl | rfl; exact (Qas _ _); exact (Qaq _ rfl); exact (Qaq _ rfl); exact (Qaq _ rfl); exact (Qaq _ rfl)))) fun W5 p5 r8_5 => ?_
  have x5 : Ext w W5 := Puts.ext p5 x4 b8
  refine Qaf ?_
  refine hK5 _ _ ?_
  refine wp_seq_k fun K9 hK9 => ?_
  refine wp_seq_k fun K10 hK10 => ?_
  refine Qae ?_
  refine Qab (.pointer (some ⟨g4, 0, none⟩)) 18 rfl kj kj ?_
  refine Qab (.pointer (some ⟨g4, 0, none⟩)) 19 rfl kj kj ?_
  refine Qab (.pointer (some ⟨g4, 1, none⟩)) 20 rfl kj kj ?_
  have r4_4 := (Qar rc3 e4)
  have r4_5 := (Puts.row p5 r4_4 (QaI rc3 l8))
  refine Qab (.bool false) 21 rfl kj (Qag 4 _ g4 1 179 _ (.bool false) _ r4_5 rfl kj kj kj) ?_
  refine Qab (.bool false) 22 rfl kj kj ?_
  refine Qab (.pointer (some ⟨g4, 0, none⟩)) 23 rfl kj kj ?_
  refine Qab (.pointer (some ⟨g4, 0, none⟩)) 24 rfl kj kj ?_
  refine Qab (.pointer (some ⟨g4, 0, none⟩)) 25 rfl kj kj ?_
  refine Qab (.slice au_ ((y :: ys).length) cu_) 26 rfl kj (Qag 26 _ g4 0 179 _ (.slice au_ ((y :: ys).length) cu_) _ r4_5 rfl kj kj kj) ?_
  refine Qab (.int .i64 (((y :: ys).length : Nat) : Int)) 27 rfl kj kj ?_
  refine Qab (.bool true) 28 rfl kj (Qax (u := .bool (decide ((((y :: ys).length : Nat) : Int) > 0))) kj (congrArg Value.bool (decide_eq_true (by simp only [List.length_cons]; omega)))) ?_
  refine Qab (.bool true) 29 rfl kj kj ?_
  refine Qaf ?_
  refine hK10 _ _ ?_
  refine cond_true kj ?_
  refine wp_seq_k fun K11 hK11 => ?_
  refine Qae ?_
  refine Qav (cat [(Array.replicate 32 (.int .u8 0)), #[.int .i64 0], #[.int .i64 0], #[.int .i64 0], #[.slice none 0 0]]) 81 8 rfl kj kj fun g12 W6 l12 e6 r12_6 => ?_
  have x6 : Ext w W6 := Ext.tr x5 e6
  have b12 : w.heap.size ≤ g12 := Nat.le_trans x5.size l12
  refine Qaf ?_
  refine hK11 _ _ ?_
  refine wp_seq_k fun K13 hK13 => ?_
  refine Qae ?_
  refine Qab (.agg (cat [(Array.replicate 32 (.int .u8 0)), #[.int .i64 0], #[.int .i64 0], #[.int .i64 0], #[.slice none 0 0]])) 30 rfl kj (QaA 81 _ g12 81 _ _ r12_6 rfl kj kj (isz (n := 36) kj kj)) ?_
  refine Qab (.iface 102 (.int .i64 3)) 31 rfl kj kj ?_
  have r2_2 := (Qar r2_1 e2)
  have r2_3 := (ExtB.row q3 r2_2 (QaI r2_1 l4))
  have r2_4 := (Qar r2_3 e4)
  have r2_5 := (Puts.row p5 r2_4 (QaI r2_3 l8))
  have r2_6 := (Qar r2_5 e6)
  refine Qa3 g2 _ (cat [(Array.replicate 32 (.int .u8 0)), #[.int .i64 0], #[.int .i64 0], #[.int .i64 0], #[.slice none 0 0]]) 81 r2_6 rfl kj (Qa0 81 _ _ g2 81 _ _ r2_6 rfl kj kj (isz (n := 36) kj kj) (eqsz (n := 36) kj kj) kj) fun W7 p7 r2_7 => ?_
  have x7 : Ext w W7 := Puts.ext p7 x6 b2
  refine Qab (.iface 102 (.int .i64 3)) 5 rfl kj kj ?_
  refine Qaf ?_
  refine hK13 _ _ ?_
  refine wp_ret ?_
  repeat (first | with_reducible refine goR1 ?_ | with_reducible refine goR2 ?_)
  exact (show bodyPost _ _ _ .ret _ _ from ret2 (.agg (cat [(Array.replicate 32 (.int .u8 0)), #[.int .i64 0], #[.int .i64 0], #[.int .i64 0], #[.slice none 0 0]])) (.iface 102 (.int .i64 3)) rfl (Qbk g2 81 _ r2_7 kj kj (isz (n := 36) kj kj)) (Qaw kj) ⟨rfl, x7⟩)
set_option maxHeartbeats 4000000 in
theorem Qei (xs : List Int) (a_y : Option Addr) (c_y : Nat) (w : World) (hyb : Qaj xs) (hy : RdK .u8 w.heap.size xs (.slice a_y xs.length c_y) w) (hS : Qdp (Qam xs) = none) : Calls Try.prog 36 #[.slice a_y xs.length c_y] w (Ret w (.tuple #[.agg (cat [(Array.replicate 32 (.int .u8 0)), #[.int .i64 0], #[.int .i64 0], #[.int .i64 0], #[.slice none 0 0]]), .iface 102 (.int .i64 3)])) := by
  refine enter 8 [(0, .slice a_y xs.length c_y)] Try.func36 rfl rfl kj rfl ?_
  refine wp_seq_k fun K1 hK1 => ?_
  refine Qae ?_
  refine Qav (cat [(Array.replicate 32 (.int .u8 0)), #[.int .i64 0], #[.int .i64 0], #[.int .i64 0], #[.slice none 0 0]]) 81 2 rfl kj kj fun g2 W1 l2 e1 r2_1 => ?_
  have x1 : Ext w W1 := Ext.tr (Rely.Ext.refl w) e1
  have b2 : w.heap.size ≤ g2 := Nat.le_trans (Rely.Ext.refl w).size l2
  refine Qab (.nilIface) 3 rfl kj kj ?_
  refine Qaf ?_
  refine hK1 _ _ ?_
  refine wp_seq_k fun K3 hK3 => ?_
  refine Qae ?_
  refine Qab (.slice a_y xs.length c_y) 4 rfl kj kj ?_
  refine Qa1 (.tuple #[.agg (cat [(Array.replicate 32 (.int .u8 0)), #[.int .i64 0], #[.int .i64 0], #[.int .i64 0], #[.slice none 0 0]]), .iface 102 (.int .i64 3)]) 83 #[.slice a_y xs.length c_y, .func (.func 84) #[] #[]] 5 rfl kj kj (Qeb xs _ _ _ hyb (RdK.here (RdK.ext hy x1)) hS) fun W2 e2 => ?_
  have x2 : Ext w W2 := Ext.tr x1 e2
  refine Qab (.agg (cat [(Array.replicate 32 (.int .u8 0)), #[.int .i64 0], #[.int .i64 0], #[.int .i64 0], #[.slice none 0 0]])) 6 rfl kj kj ?_
  refine Qab (.iface 102 (.int .i64 3)) 7 rfl kj kj ?_
  have r2_2 := (Qar r2_1 e2)
  refine Qa3 g2 _ (cat [(Array.replicate 32 (.int .u8 0)), #[.int .i64 0], #[.int .i64 0], #[.int .i64 0], #[.slice none 0 0]]) 81 r2_2 rfl kj (Qa0 81 _ _ g2 81 _ _ r2_2 rfl kj kj (isz (n := 36) kj kj) (eqsz (n := 36) kj kj) kj) fun W3 p3 r2_3 => ?_
  have x3 : Ext w W3 := Puts.ext p3 x2 b2
  refine Qab (.iface 102 (.int .i64 3)) 3 rfl kj kj ?_
  refine Qaf ?_
  refine hK3 _ _ ?_
  refine wp_ret ?_
  repeat (first | with_reducible refine goR1 ?_ | with_reducible refine goR2 ?_)
  exact (show bodyPost _ _ _ .ret _ _ from ret2 (.agg (cat [(Array.replicate 32 (.int .u8 0)), #[.int .i64 0], #[.int .i64 0], #[.int .i64 0], #[.slice none 0 0]])) (.iface 102 (.int .i64 3)) rfl (Qbk g2 81 _ r2_3 kj kj (isz (n := 36) kj kj)) (Qaw kj) ⟨rfl, x3⟩)
set_option maxHeartbeats 4000000 in
theorem Qeh (xs : List Int) (a_y : Option Addr) (c_y : Nat) (w : World) (hyb : Qaj xs) (hy : RdK .u8 w.heap.size xs (.slice a_y xs.length c_y) w) (hS : Qdp (Qam xs) = some []) : Calls Try.prog 36 #[.slice a_y xs.length c_y] w (QbE w (fun v W => ∃ (a_s : Option Addr) (c_s : Nat), v = .tuple #[.agg (cat [ints .u8 (pGrp (Qam xs)), #[.int .i64 (pEp (Qam xs))], #[.int .i64 (pFr (Qam xs))], #[.int .i64 (pNo (Qam xs))], #[.slice a_s (pSe (Qam xs)).length c_s]]), .nilIface] ∧ OwnN .u8 5 w.heap.size (pSe (Qam xs)) (.slice a_s (pSe (Qam xs)).length c_s) W ∧ Qaj (pSe (Qam xs)) ∧ (pSe (Qam xs)).length ≤ 65535)) := by
  refine enter 8 [(0, .slice a_y xs.length c_y)] Try.func36 rfl rfl kj rfl ?_
  refine wp_seq_k fun K1 hK1 => ?_
  refine Qae ?_
  refine Qav (cat [(Array.replicate 32 (.int .u8 0)), #[.int .i64 0], #[.int .i64 0], #[.int .i64 0], #[.slice none 0 0]]) 81 2 rfl kj kj fun g2 W1 l2 e1 r2_1 => ?_
  have x1 : Ext w W1 := Ext.tr (Rely.Ext.refl w) e1
  have b2 : w.heap.size ≤ g2 := Nat.le_trans (Rely.Ext.refl w).size l2
  refine Qab (.nilIface) 3 rfl kj kj ?_
  refine Qaf ?_
  refine hK1 _ _ ?_
  refine wp_seq_k fun K3 hK3 => ?_
  refine Qae ?_
  refine Qab (.slice a_y xs.length c_y) 4 rfl kj kj ?_
  refine Qak (fun v W' => (fun v W => ∃ (a_s : Option Addr) (c_s : Nat), v = .tuple #[.agg (cat [ints .u8 (pGrp (Qam xs)), #[.int .i64 (pEp (Qam xs))], #[.int .i64 (pFr (Qam xs))], #[.int .i64 (pNo (Qam xs))], #[.slice a_s (pSe (Qam xs)).length c_s]]), .nilIface] ∧ OwnN .u8 5 W1.heap.size (pSe (Qam xs)) (.slice a_s (pSe (Qam xs)).length c_s) W ∧ Qaj (pSe (Qam xs)) ∧ (pSe (Qam xs)).length ≤ 65535) v W' ∧ Ext W1 W') 83 #[.slice a_y xs.length c_y, .func (.func 84) #[] #[]] 5 rfl kj kj ((Qea xs _ _ _ hyb (RdK.here (RdK.ext hy x1)) hS).mono (by rintro e w' ⟨v, rfl, e1, hv⟩; exact ⟨v, rfl, hv, e1⟩)) fun vv4 W2 hh4 => ?_
  obtain ⟨hv4, e2⟩ := hh4
  have x2 : Ext w W2 := Ext.tr x1 e2
  obtain ⟨a5pSe_, c5pSe_, rfl, ⟨ho5pSe, hb5pSe, hl5pSe⟩⟩ := hv4
  refine Qab (.agg (cat [ints .u8 (pGrp (Qam xs)), #[.int .i64 (pEp (Qam xs))], #[.int .i64 (pFr (Qam xs))], #[.int .i64 (pNo (Qam xs))], #[.slice a5pSe_ ((pSe (Qam xs)).length) c5pSe_]])) 6 rfl kj kj ?_
  refine Qab (.nilIface) 7 rfl kj kj ?_
  have r2_2 := (Qar r2_1 e2)
  refine Qa3 g2 _ (cat [ints .u8 (pGrp (Qam xs)), #[.int .i64 (pEp (Qam xs))], #[.int .i64 (pFr (Qam xs))], #[.int .i64 (pNo (Qam xs))], #[.slice a5pSe_ ((pSe (Qam xs)).length) c5pSe_]]) 81 r2_2 rfl kj (Qa0 81 _ _ g2 81 _ _ r2_2 rfl kj kj (isz (n := 36) kj (by rw [Qaa, Qaa, Qaa, Qaa, Qaa]; simp only [Array.size_append, cat, ((Qac _ _).trans (Qbv (Qam xs)))]; rfl)) (eqsz (n := 36) kj (by rw [Qaa, Qaa, Qaa, Qaa, Qaa]; simp only [Array.size_append, cat, ((Qac _ _).trans (Qbv (Qam xs)))]; rfl)) (QaX _ (by intro a ha; simp only [List.mem_cons, List.not_mem_nil, or_false] at ha; rcases ha with rfl | rfl | rfl | rfl | rfl; exact (Qas _ _); exact (Qaq _ rfl); exact (Qaq _ rfl); exact (Qaq _ rfl); exact (Qaq _ rfl)))) fun W3 p3 r2_3 => ?_
  have x3 : Ext w W3 := Puts.ext p3 x2 b2
  refine Qab (.nilIface) 3 rfl kj kj ?_
  refine Qaf ?_
  refine hK3 _ _ ?_
  refine wp_ret ?_
  repeat (first | with_reducible refine goR1 ?_ | with_reducible refine goR2 ?_)
  have f6_3 := (ho5pSe.puts p3 (Qbp ho5pSe (Qay r2_1)))
  exact (show bodyPost _ _ _ .ret _ _ from ret2 (.agg (cat [ints .u8 (pGrp (Qam xs)), #[.int .i64 (pEp (Qam xs))], #[.int .i64 (pFr (Qam xs))], #[.int .i64 (pNo (Qam xs))], #[.slice a5pSe_ ((pSe (Qam xs)).length) c5pSe_]])) (.nilIface) rfl (Qbk g2 81 _ r2_3 kj kj (isz (n := 36) kj (by rw [Qaa, Qaa, Qaa, Qaa, Qaa]; simp only [Array.size_append, cat, ((Qac _ _).trans (Qbv (Qam xs)))]; rfl))) (Qaw kj) ⟨_, rfl, x3, _, _, rfl, ⟨OwnN.base x1.size f6_3, hb5pSe, hl5pSe⟩⟩)
set_option maxHeartbeats 4000000 in
theorem Qeg (xs : List Int) (a_y : Option Addr) (c_y : Nat) (w : World) (hyb : Qaj xs) (hy : RdK .u8 w.heap.size xs (.slice a_y xs.length c_y) w) (y : Int) (ys : List Int) (hS : Qdp (Qam xs) = some (y :: ys)) : Calls Try.prog 36 #[.slice a_y xs.length c_y] w (Ret w (.tuple #[.agg (cat [(Array.replicate 32 (.int .u8 0)), #[.int .i64 0], #[.int .i64 0], #[.int .i64 0], #[.slice none 0 0]]), .iface 102 (.int .i64 3)])) := by
  refine enter 8 [(0, .slice a_y xs.length c_y)] Try.func36 rfl rfl kj rfl ?_
  refine wp_seq_k fun K1 hK1 => ?_
  refine Qae ?_
  refine Qav (cat [(Array.replicate 32 (.int .u8 0)), #[.int .i64 0], #[.int .i64 0], #[.int .i64 0], #[.slice none 0 0]]) 81 2 rfl kj kj fun g2 W1 l2 e1 r2_1 => ?_
  have x1 : Ext w W1 := Ext.tr (Rely.Ext.refl w) e1
  have b2 : w.heap.size ≤ g2 := Nat.le_trans (Rely.Ext.refl w).size l2
  refine Qab (.nilIface) 3 rfl kj kj ?_
  refine Qaf ?_
  refine hK1 _ _ ?_
  refine wp_seq_k fun K3 hK3 => ?_
  refine Qae ?_
  refine Qab (.slice a_y xs.length c_y) 4 rfl kj kj ?_
  refine Qa1 (.tuple #[.agg (cat [(Array.replicate 32 (.int .u8 0)), #[.int .i64 0], #[.int .i64 0], #[.int .i64 0], #[.slice none 0 0]]), .iface 102 (.int .i64 3)]) 83 #[.slice a_y xs.length c_y, .func (.func 84) #[] #[]] 5 rfl kj kj (QdZ xs _ _ _ hyb (RdK.here (RdK.ext hy x1)) y ys hS) fun W2 e2 => ?_
  have x2 : Ext w W2 := Ext.tr x1 e2
  refine Qab (.agg (cat [(Array.replicate 32 (.int .u8 0)), #[.int .i64 0], #[.int .i64 0], #[.int .i64 0], #[.slice none 0 0]])) 6 rfl kj kj ?_
  refine Qab (.iface 102 (.int .i64 3)) 7 rfl kj kj ?_
  have r2_2 := (Qar r2_1 e2)
  refine Qa3 g2 _ (cat [(Array.replicate 32 (.int .u8 0)), #[.int .i64 0], #[.int .i64 0], #[.int .i64 0], #[.slice none 0 0]]) 81 r2_2 rfl kj (Qa0 81 _ _ g2 81 _ _ r2_2 rfl kj kj (isz (n := 36) kj kj) (eqsz (n := 36) kj kj) kj) fun W3 p3 r2_3 => ?_
  have x3 : Ext w W3 := Puts.ext p3 x2 b2
  refine Qab (.iface 102 (.int .i64 3)) 3 rfl kj kj ?_
  refine Qaf ?_
  refine hK3 _ _ ?_
  refine wp_ret ?_
  repeat (first | with_reducible refine goR1 ?_ | with_reducible refine goR2 ?_)
  exact (show bodyPost _ _ _ .ret _ _ from ret2 (.agg (cat [(Array.replicate 32 (.int .u8 0)), #[.int .i64 0], #[.int .i64 0], #[.int .i64 0], #[.slice none 0 0]])) (.iface 102 (.int .i64 3)) rfl (Qbk g2 81 _ r2_3 kj kj (isz (n := 36) kj kj)) (Qaw kj) ⟨rfl, x3⟩)
theorem Qe4 (xs : List Int) (a_y : Option Addr) (c_y : Nat) (w : World) (hyb : Qaj xs) (hy : RdK .u8 w.heap.size xs (.slice a_y xs.length c_y) w) (hS : Qdp (Qam xs) ≠ some []) : Calls Try.prog 36 #[.slice a_y xs.length c_y] w (Ret w (.tuple #[.agg (cat [(Array.replicate 32 (.int .u8 0)), #[.int .i64 0], #[.int .i64 0], #[.int .i64 0], #[.slice none 0 0]]), .iface 102 (.int .i64 3)])) := by
  cases h : Qdp (Qam xs) with
  | none => exact Qei xs a_y c_y w hyb hy h
  | some l => cases l with
    | nil => exact absurd h hS
    | cons y ys => exact Qeg xs a_y c_y w hyb hy y ys h
end Go.Proofs.Ytfelfmchachljaa.Wr
end
section
namespace Go.Proofs.Ytfelfmchachljaa.Wr
open Go Go.RowKit
open Rely Auto Own Sha
set_option linter.unusedVariables false
set_option linter.unusedSimpArgs false
set_option maxHeartbeats 4000000 in
theorem is3 (w : World) : Calls Try.prog 45 #[.iface 102 (.int .i64 3), .int .i64 3] w (Ret w (.bool true)) := by
  refine enter 9 [(0, .iface 102 (.int .i64 3)), (1, .int .i64 3)] Try.func45 rfl rfl kj rfl ?_
  refine wp_seq_k fun K1 hK1 => ?_
  refine Qae ?_
  refine Qab (.bool false) 4 rfl kj kj ?_
  refine Qaf ?_
  refine hK1 _ _ ?_
  refine wp_seq_k fun K2 hK2 => ?_
  refine Qae ?_
  refine Qab (.iface 102 (.int .i64 3)) 5 rfl kj kj ?_
  refine Qa1 (.int .i64 3) 93 #[.iface 102 (.int .i64 3)] 6 rfl kj kj ((numE 3 (by decide)) _) fun W1 e1 => ?_
  have x1 : Ext w W1 := Ext.tr (Rely.Ext.refl w) e1
  refine Qab (.int .i64 3) 7 rfl kj kj ?_
  refine Qab (.bool true) 8 rfl kj kj ?_
  refine Qab (.bool true) 4 rfl kj kj ?_
  refine Qaf ?_
  refine hK2 _ _ ?_
  refine wp_ret ?_
  repeat (first | with_reducible refine goR1 ?_ | with_reducible refine goR2 ?_)
  exact (show bodyPost _ _ _ .ret _ _ from ret1 (.bool true) rfl (Qaw kj) ⟨rfl, x1⟩)
set_option maxHeartbeats 4000000 in
theorem Qhw (x : Value) (w : World) : Calls Try.prog 16 #[.slice none 0 0, .iface 102 (.int .i64 3), x, .bool false] w (Ret w (.bool true)) := by
  refine enter 25 [(0, .slice none 0 0), (1, .iface 102 (.int .i64 3)), (2, x), (3, .bool false)] Try.func16 rfl rfl kj rfl ?_
  refine wp_seq_k fun K1 hK1 => ?_
  refine Qae ?_
  refine Qab (.bool false) 8 rfl kj kj ?_
  refine Qaf ?_
  refine hK1 _ _ ?_
  refine wp_seq_k fun K2 hK2 => ?_
  refine wp_seq_k fun K3 hK3 => ?_
  refine Qae ?_
  refine Qab (.bool false) 9 rfl kj kj ?_
  refine Qab (.bool true) 10 rfl kj kj ?_
  refine Qaf ?_
  refine hK3 _ _ ?_
  refine cond_true kj ?_
  refine wp_seq_k fun K4 hK4 => ?_
  refine Qae ?_
  refine Qab (.iface 102 (.int .i64 3)) 11 rfl kj kj ?_
  refine Qa1 (.bool true) 45 #[.iface 102 (.int .i64 3), .int .i64 3] 12 rfl kj kj ((is3) _) fun W1 e1 => ?_
  have x1 : Ext w W1 := Ext.tr (Rely.Ext.refl w) e1
  refine Qab (.bool true) 13 rfl kj kj ?_
  refine Qab (.slice none 0 0) 14 rfl kj kj ?_
  refine Qab (.int .i64 0) 15 rfl kj kj ?_
  refine Qab (.bool true) 16 rfl kj kj ?_
  refine Qab (.bool true) 17 rfl kj kj ?_
  refine Qab (.bool true) 8 rfl kj kj ?_
  refine Qaf ?_
  refine hK4 _ _ ?_
  refine wp_ret ?_
  repeat (first | with_reducible refine goR1 ?_ | with_reducible refine goR2 ?_)
  exact (show bodyPost _ _ _ .ret _ _ from ret1 (.bool true) rfl (Qaw kj) ⟨rfl, x1⟩)
set_option maxHeartbeats 4000000 in
theorem Qhv (x y : Value) (xs : List Int) (w : World) (hx : QbH w x xs) (hy : QbH w y xs) : Calls Try.prog 16 #[x, .nilIface, y, .bool true] w (Ret w (.bool true)) := by
  refine enter 25 [(0, x), (1, .nilIface), (2, y), (3, .bool true)] Try.func16 rfl rfl kj rfl ?_
  refine wp_seq_k fun K1 hK1 => ?_
  refine Qae ?_
  refine Qab (.bool false) 8 rfl kj kj ?_
  refine Qaf ?_
  refine hK1 _ _ ?_
  refine wp_seq_k fun K2 hK2 => ?_
  refine wp_seq_k fun K3 hK3 => ?_
  refine Qae ?_
  refine Qab (.bool true) 9 rfl kj kj ?_
  refine Qab (.bool false) 10 rfl kj kj ?_
  refine Qaf ?_
  refine hK3 _ _ ?_
  refine cond_false kj ?_
  refine wp_skip ?_
  refine hK2 _ _ ?_
  refine wp_seq_k fun K4 hK4 => ?_
  refine Qae ?_
  refine Qab (.nilIface) 18 rfl kj kj ?_
  refine Qab (.bool true) 19 rfl kj kj ?_
  refine Qab (.bool true) 20 rfl kj kj ?_
  refine Qab (x) 21 rfl kj kj ?_
  refine Qab (y) 22 rfl kj kj ?_
  refine Qa1 (.bool true) 19 #[x, y] 23 rfl kj kj ((QhC _ _ _ _ _ rfl (QbH.ext hx (Rely.Ext.refl w)) (QbH.ext hy (Rely.Ext.refl w)))) fun W1 e1 => ?_
  have x1 : Ext w W1 := Ext.tr (Rely.Ext.refl w) e1
  refine Qab (.bool true) 24 rfl kj kj ?_
  refine Qab (.bool true) 8 rfl kj kj ?_
  refine Qaf ?_
  refine hK4 _ _ ?_
  refine wp_ret ?_
  repeat (first | with_reducible refine goR1 ?_ | with_reducible refine goR2 ?_)
  exact (show bodyPost _ _ _ .ret _ _ from ret1 (.bool true) rfl (Qaw kj) ⟨rfl, x1⟩)
set_option maxHeartbeats 4000000 in
theorem Qju (g n c : Nat) (xs : List Int) (rest : Array Value) (w : World) (hnl : n ≤ 1000000) (hn : xs.length = n) (hg : w.heap[g]? = some (.cells (ints .u8 xs ++ rest) 5)) : Calls Try.prog 18 #[.slice (some ⟨g, 0, none⟩) n c] w (fun e W => e = .returned (.tuple #[]) ∧ ExtB g w W) := by
 refine enter 15 [(0, .slice (some ⟨g, 0, none⟩) n c)] Try.func18 rfl rfl kj rfl ?_
 refine wp_seq_k fun K2 hK2 => ?_
 refine Qae ?_
 refine Qab (.slice (some ⟨g, 0, none⟩) n c) 3 rfl kj kj ?_
 refine Qab (.int .i64 ((n : Nat) : Int)) 4 rfl kj kj ?_
 refine Qab (.int .i64 0) 5 rfl kj kj ?_
 refine Qaf ?_
 refine hK2 _ _ ?_
 refine wp_block ?_
 refine QaP (fun (s1 : Nat × List Int) => [(0, .slice (some ⟨g, 0, none⟩) n c), (4, .int .i64 ((n : Nat) : Int)), (5, .int .i64 ((s1.1 : Nat) : Int))]) (fun (s1 : Nat × List Int) W => (s1.1 ≤ n) ∧ (s1.2.length = n) ∧ (W.heap[g]? = some (.cells (ints .u8 (s1.2) ++ rest) 5)) ∧ (QbO [g] w W) ∧ (ExtB g w W)) (fun (s1 : Nat × List Int) => n - s1.1) (0, xs) ⟨rfl, rfl, rfl, trivial⟩ ⟨(Nat.zero_le _), hn, hg, (QbO.refl [g] w), (ExtB.refl g w)⟩ fun s1 X1 V1 hI1 => ?_
 obtain ⟨i, zs⟩ := s1
 obtain ⟨hi, hz, q1_1, kk1, xx1⟩ := hI1
 replace hi : i ≤ n := hi
 replace hz : zs.length = n := hz
 replace q1_1 : V1.heap[g]? = some (.cells (ints .u8 (zs) ++ rest) 5) := q1_1
 replace kk1 : QbO [g] w V1 := kk1
 replace xx1 : ExtB g w V1 := xx1
 have q1 := kk1
 refine wp_seq_k fun K3 hK3 => ?_
 refine Qae ?_
 refine Qab (.bool (decide (((i : Nat) : Int) < ((n : Nat) : Int)))) 6 rfl kj kj ?_
 refine Qaf ?_
 refine hK3 _ _ ?_
 refine wp_seq_k fun K4 hK4 => ?_
 refine Qa5 (t := decide (((i : Nat) : Int) < ((n : Nat) : Int))) kj (fun c5 => ?_) (fun c5 => ?_)
 ·skip
  have hlt6 : i < n := by have := of_decide_eq_true c5; omega
  refine wp_skip ?_
  refine hK4 _ _ ?_
  refine wp_seq_k fun K6 hK6 => ?_
  refine wp_block ?_
  refine wp_seq_k fun K7 hK7 => ?_
  refine Qae ?_
  refine Qab (.int .i64 ((i : Nat) : Int)) 7 rfl kj kj ?_
  refine Qab (.int .i64 ((i : Nat) : Int)) 2 rfl kj kj ?_
  refine Qaf ?_
  refine hK7 _ _ ?_
  refine Qae ?_
  refine Qab (.slice (some ⟨g, 0, none⟩) n c) 8 rfl kj kj ?_
  refine Qab (.int .i64 ((i : Nat) : Int)) 9 rfl kj kj ?_
  refine Qab (.pointer (some ⟨g, i, none⟩)) 10 rfl kj (QcI 26 _ _ .i64 (i) g n c 5 rfl kj kj kj kj (by omega)) ?_
  refine Qab (.int .u8 (nth (zs) i)) 11 rfl kj (Qag 5 _ g i 5 _ (.int .u8 (nth (zs) i)) _ q1_1 rfl kj (Qfl (Nat.lt_of_lt_of_eq (by omega) hz.symm)) kj) ?_
  refine Qab (.int .u8 (bits .xor .u8 ((nth (zs) i)) (255))) 12 rfl kj kj ?_
  refine Qab (.pointer (some ⟨g, i, none⟩)) 13 rfl kj (QcI 26 _ _ .i64 (i) g n c 5 rfl kj kj kj kj (by omega)) ?_
  refine Qa3 g _ (ints .u8 ((zs).set i (bits .xor .u8 ((nth (zs) i)) (255))) ++ rest) 5 q1_1 rfl kj (QdX 5 _ _ g i 5 _ _ _ q1_1 rfl kj kj kj (Nat.lt_of_lt_of_eq (by omega) hz.symm)) fun W2 p2 r1_2 => ?_
  have x2 : ExtB g w W2 := ExtB.puts xx1 p2
  refine Qaf ?_
  refine hK6 _ _ ?_
  refine Qae ?_
  refine Qab (.int .i64 ((i + 1 : Nat) : Int)) 14 rfl kj (Qax (u := .int .i64 (IntKind.i64.wrap (((i : Nat) : Int) + 1))) kj (congrArg (Value.int .i64) (i64n _ _ (by omega) (by omega)))) ?_
  refine Qab (.int .i64 ((i + 1 : Nat) : Int)) 5 rfl kj kj ?_
  refine Qaf ?_
  repeat (first | with_reducible refine goX1 ?_ | with_reducible refine goX2 ?_ | with_reducible refine goX3 ?_)
  exact QaK ((i + 1), (zs).set i (bits .xor .u8 ((nth (zs) i)) (255))) ⟨rfl, rfl, rfl, trivial⟩ ⟨(by omega), (by rw [List.length_set]; exact hz), r1_2, (QbO.puts q1 p2 (.inl (by simp))), x2⟩ (by omega)
 ·skip
  have heq6 : i = n := by have := of_decide_eq_false c5; omega
  refine wp_exit ?_
  repeat (first | with_reducible refine goX1 ?_ | with_reducible refine goX2 ?_ | with_reducible refine goX3 ?_)
  exact (show bodyPost _ _ _ .normal _ _ from end0 rfl ⟨rfl, xx1⟩)
end Go.Proofs.Ytfelfmchachljaa.Wr
end
section
namespace Go.Proofs.Ytfelfmchachljaa.Wr
open Go Go.RowKit
open Rely Auto Own Sha
set_option linter.unusedVariables false
set_option linter.unusedSimpArgs false
theorem Qba (s : Option (List Int)) (a b : List Int) : rawS (rawS s a) b = rawS s (a ++ b) := by
  cases s with
  | none => rfl
  | some xs =>
    unfold rawS
    simp only [Option.bind_some]
    by_cases h1 : xs.length + a.length ≤ 65536
    · rw [if_pos h1]
      simp only [Option.bind_some, List.length_append]
      by_cases h2 : xs.length + a.length + b.length ≤ 65536
      · rw [if_pos h2, if_pos (by omega), List.append_assoc]
      · rw [if_neg h2, if_neg (by omega)]
    · rw [if_neg h1, if_neg (by rw [List.length_append]; omega)]
      rfl
theorem Qgv (n : Int) : ∀ (k : Nat) (s : Option (List Int)), numR n (k + 1) s = rawS s (beV n (k + 1))
  | 0, s => rfl
  | k + 1, s => by
    show numR n (k + 1) (rawS s [byV n (k + 1)]) = _
    rw [Qgv n k, Qba]
    rfl
theorem QcP (n : Int) : ∀ k : Nat, numR n k none = none
  | 0 => rfl
  | k + 1 => QcP n k
theorem QiL (n : Int) (k : Nat) (m : Int) (hm : (2 : Int) ^ (8 * k) = m + 1) (h0 : 0 ≤ m) : okN n k = inB n m := by
  unfold okN inB
  rw [hm, Int.fdiv_eq_ediv_of_nonneg _ (by omega), Bool.eq_iff_iff]
  simp only [Bool.and_eq_true, decide_eq_true_eq, beq_iff_eq]
  constructor
  · rintro ⟨h1, h2⟩
    have h3 := Int.lt_ediv_add_one_mul_self n (show 0 < m + 1 by omega)
    rw [h2] at h3
    exact ⟨h1, by omega⟩
  · rintro ⟨h1, h2⟩
    exact ⟨h1, Int.ediv_eq_zero_of_lt h1 (by omega)⟩
theorem QbP (s : Option (List Int)) (n : Int) (k : Nat) (m : Int) (hm : (2 : Int) ^ (8 * (k + 1)) = m + 1) (h0 : 0 ≤ m) : numS s n (k + 1) = bif inB n m then rawS s (beV n (k + 1)) else none := by
  unfold numS
  rw [QiL n (k + 1) m hm h0]
  cases inB n m with
  | true => exact Qgv n k s
  | false => exact QcP n (k + 1)
theorem QcB (s : Option (List Int)) (n : Int) : QaQ s n = bif inB n 31 then rawS s (beV n 1) else none := by
  unfold QaQ
  rw [QbP _ n 0 255 (by decide) (by decide)]
  by_cases h : n < 32
  · rw [decide_eq_true h]
    by_cases h0 : 0 ≤ n
    · rw [show inB n 255 = true by unfold inB; simp; omega, show inB n 31 = true by unfold inB; simp; omega]; rfl
    · rw [show inB n 255 = false by unfold inB; simp; omega, show inB n 31 = false by unfold inB; simp; omega]; rfl
  · rw [decide_eq_false h, show inB n 31 = false by unfold inB; simp; omega]
    cases inB n 255 <;> rfl
theorem Qg8 (s : Option (List Int)) (ys : List Int) : bytS s ys = if ys.length ≤ 65535 then rawS s (rowV ys) else none := by
  unfold bytS
  rw [QbP _ _ 1 65535 (by decide) (by decide)]
  by_cases h : ys.length ≤ 65535
  · rw [if_pos h, show inB ((ys.length : Nat) : Int) 65535 = true by unfold inB; simp; omega]
    exact Qba _ _ _
  · rw [if_neg h, show inB ((ys.length : Nat) : Int) 65535 = false by unfold inB; simp; omega]
    rfl
theorem Qhd (ys : List Int) : rawS (some []) ys = fitV ys := by
  unfold rawS fitV
  simp only [Option.bind_some, List.length_nil, Nat.zero_add, List.nil_append]
theorem QaL (a b : List Int) (n : Nat) (h : a.length = n) : Qai (some (a ++ b)) n = a := by
  subst h
  show (if a.length ≤ (a ++ b).length then (a ++ b).take a.length else []) = a
  rw [if_pos (by rw [List.length_append]; omega), List.take_left]
theorem QaR (a b : List Int) (n : Nat) (h : a.length = n) : Qad (some (a ++ b)) n = some b := by
  subst h
  show (if a.length ≤ (a ++ b).length then some ((a ++ b).drop a.length) else none) = some b
  rw [if_pos (by rw [List.length_append]; omega), List.drop_left]
theorem Qg9 (ys : List Int) : ∀ a : Nat, ys.foldl (fun n b => n * 256 + b.toNat) a = a * 256 ^ ys.length + bigN ys := by
  induction ys with
  | nil => intro a; show a = a * 1 + 0; omega
  | cons y ys ih =>
    intro a
    show ys.foldl _ (a * 256 + y.toNat) = a * 256 ^ (ys.length + 1) + ys.foldl _ (0 * 256 + y.toNat)
    rw [ih, ih, Nat.pow_succ, Nat.add_mul, Nat.zero_mul, Nat.zero_add, Nat.mul_assoc, Nat.mul_comm 256]
    omega
theorem QeD (N : Nat) : ∀ k : Nat, bigN (beV ((N : Nat) : Int) k) = N % 256 ^ k
  | 0 => by show 0 = N % 1; omega
  | k + 1 => by
    show (beV ((N : Nat) : Int) k).foldl _ (0 * 256 + (byV ((N : Nat) : Int) k).toNat) = _
    rw [Qg9, QaZ, QeD N k, Nat.zero_mul, Nat.zero_add]
    have e : (byV ((N : Nat) : Int) k).toNat = N / 256 ^ k % 256 := by
      unfold byV
      have e2 : (2 : Int) ^ (8 * k) = ((256 ^ k : Nat) : Int) := by rw [Int.pow_mul]; simp
      rw [QfJ, e2, Int.fdiv_eq_ediv_of_nonneg _ (Int.natCast_nonneg _), ← Int.natCast_ediv]
      generalize N / 256 ^ k = q
      omega
    rw [e, Nat.pow_succ, Nat.mod_mul, Nat.mul_comm, Nat.add_comm]
theorem Qdn (n : Int) (k : Nat) (h0 : 0 ≤ n) (h1 : n < ((256 ^ k : Nat) : Int)) : ((bigN (beV n k) : Nat) : Int) = n := by
  obtain ⟨N, rfl⟩ := Int.eq_ofNat_of_zero_le h0
  rw [QeD, Nat.mod_eq_of_lt (by omega)]
theorem QfW (ys r : List Int) (h : ys.length ≤ 65535) : rowL (some (rowV ys ++ r)) = ys ∧ rowR (some (rowV ys ++ r)) = some r := by
  have e1 : rowV ys ++ r = beV ((ys.length : Nat) : Int) 2 ++ (ys ++ r) := by unfold rowV; rw [List.append_assoc]
  have e2 : bigN (beV ((ys.length : Nat) : Int) 2) = ys.length := by rw [QeD, Nat.mod_eq_of_lt (by omega)]
  unfold rowL rowR
  rw [e1, QaL _ _ 2 (QaZ _ 2), QaR _ _ 2 (QaZ _ 2), e2, QaL _ _ _ rfl, QaR _ _ _ rfl]
  exact ⟨rfl, rfl⟩
theorem QeI (xs : List Int) (h : xs.length ≤ 65536) : Qam xs = some xs := by
  unfold Qam
  rw [decide_eq_false (by omega)]
  rfl
theorem QbD (ys : List Int) (h : ys.length = 32) : keyV ys = ys := by
  unfold keyV
  rw [h, show (List.replicate 32 (0 : Int)).drop 32 = [] from rfl, List.append_nil]
end Go.Proofs.Ytfelfmchachljaa.Wr
end
section
namespace Go.Proofs.Ytfelfmchachljaa.Wr
open Go Go.RowKit
open Rely Auto Own Sha
set_option linter.unusedVariables false
set_option linter.unusedSimpArgs false
def QaE (us : Bool) (nm : Int) (key sg pa ms : List Int) : Bool := !us && (nm == 0) && decide (key = List.replicate 32 0) && decide (sg = List.replicate 32 0) && decide (pa = List.replicate 32 0) && (ms.length == 0)
set_option maxHeartbeats 4000000 in
theorem Qiv (nm : Int) (key sg pa ms : List Int) (a_m : Option Addr) (c_m : Nat) (w : World) (hkl : key.length = 32) (hgl : sg.length = 32) (hpl : pa.length = 32)  : Calls Try.prog 107 #[.agg (cat [#[.bool true], #[.int .i64 nm], ints .u8 (key), ints .u8 (sg), ints .u8 (pa), #[.slice a_m ms.length c_m]])] w (Ret w (.bool false)) := by
  refine enter 35 [(0, .agg (cat [#[.bool true], #[.int .i64 nm], ints .u8 (key), ints .u8 (sg), ints .u8 (pa), #[.slice a_m ms.length c_m]]))] Try.func107 rfl rfl kj rfl ?_
  refine wp_seq_k fun K1 hK1 => ?_
  refine Qae ?_
  refine Qav (cat [#[.bool true], #[.int .i64 nm], ints .u8 (key), ints .u8 (sg), ints .u8 (pa), #[.slice a_m ms.length c_m]]) 43 1 rfl kj kj fun g2 W1 l2 e1 r2_1 => ?_
  have x1 : Ext w W1 := Ext.tr (Rely.Ext.refl w) e1
  have b2 : w.heap.size ≤ g2 := Nat.le_trans (Rely.Ext.refl w).size l2
  refine Qab (.bool false) 2 rfl kj kj ?_
  refine Qaf ?_
  refine hK1 _ _ ?_
  refine wp_seq_k fun K3 hK3 => ?_
  refine Qae ?_
  refine Qab (.pointer (some ⟨g2, 0, none⟩)) 3 rfl kj kj ?_
  refine Qab (.bool true) 4 rfl kj (Qag 4 _ g2 0 43 _ (.bool true) _ r2_1 rfl kj (Qah [] [#[.bool true]] [#[.int .i64 nm], ints .u8 (key), ints .u8 (sg), ints .u8 (pa), #[.slice a_m ms.length c_m]] 0 kj 0 _ rfl) kj) ?_
  refine Qab (.bool false) 5 rfl kj kj ?_
  refine Qab (.bool false) 6 rfl kj kj ?_
  refine Qao 7 rfl kj ?_
  refine Qao 8 rfl kj ?_
  refine Qao 9 rfl kj ?_
  refine Qab (.bool false) 10 rfl kj kj ?_
  refine Qab (.bool false) 11 rfl kj kj ?_
  refine Qao 12 rfl kj ?_
  refine Qao 13 rfl kj ?_
  refine Qao 14 rfl kj ?_
  refine Qao 15 rfl kj ?_
  refine Qab (.bool false) 16 rfl kj kj ?_
  refine Qab (.bool false) 17 rfl kj kj ?_
  refine Qao 18 rfl kj ?_
  refine Qao 19 rfl kj ?_
  refine Qao 20 rfl kj ?_
  refine Qao 21 rfl kj ?_
  refine Qab (.bool false) 22 rfl kj kj ?_
  refine Qab (.bool false) 23 rfl kj kj ?_
  refine Qao 24 rfl kj ?_
  refine Qao 25 rfl kj ?_
  refine Qao 26 rfl kj ?_
  refine Qao 27 rfl kj ?_
  refine Qab (.bool false) 28 rfl kj kj ?_
  refine Qab (.bool false) 29 rfl kj kj ?_
  refine Qao 30 rfl kj ?_
  refine Qao 31 rfl kj ?_
  refine Qao 32 rfl kj ?_
  refine Qao 33 rfl kj ?_
  refine Qab (.bool false) 34 rfl kj kj ?_
  refine Qab (.bool false) 2 rfl kj kj ?_
  refine Qaf ?_
  refine hK3 _ _ ?_
  refine wp_ret ?_
  repeat (first | with_reducible refine goR1 ?_ | with_reducible refine goR2 ?_)
  exact (show bodyPost _ _ _ .ret _ _ from ret1 (.bool false) rfl (Qaw kj) ⟨rfl, x1⟩)
set_option maxHeartbeats 4000000 in
theorem Qiu (nm : Int) (key sg pa ms : List Int) (a_m : Option Addr) (c_m : Nat) (w : World) (hkl : key.length = 32) (hgl : sg.length = 32) (hpl : pa.length = 32) (h1 : ¬ nm = 0) : Calls Try.prog 107 #[.agg (cat [#[.bool false], #[.int .i64 nm], ints .u8 (key), ints .u8 (sg), ints .u8 (pa), #[.slice a_m ms.length c_m]])] w (Ret w (.bool false)) := by
  refine enter 35 [(0, .agg (cat [#[.bool false], #[.int .i64 nm], ints .u8 (key), ints .u8 (sg), ints .u8 (pa), #[.slice a_m ms.length c_m]]))] Try.func107 rfl rfl kj rfl ?_
  refine wp_seq_k fun K1 hK1 => ?_
  refine Qae ?_
  refine Qav (cat [#[.bool false], #[.int .i64 nm], ints .u8 (key), ints .u8 (sg), ints .u8 (pa), #[.slice a_m ms.length c_m]]) 43 1 rfl kj kj fun g2 W1 l2 e1 r2_1 => ?_
  have x1 : Ext w W1 := Ext.tr (Rely.Ext.refl w) e1
  have b2 : w.heap.size ≤ g2 := Nat.le_trans (Rely.Ext.refl w).size l2
  refine Qab (.bool false) 2 rfl kj kj ?_
  refine Qaf ?_
  refine hK1 _ _ ?_
  refine wp_seq_k fun K3 hK3 => ?_
  refine Qae ?_
  refine Qab (.pointer (some ⟨g2, 0, none⟩)) 3 rfl kj kj ?_
  refine Qab (.bool false) 4 rfl kj (Qag 4 _ g2 0 43 _ (.bool false) _ r2_1 rfl kj (Qah [] [#[.bool false]] [#[.int .i64 nm], ints .u8 (key), ints .u8 (sg), ints .u8 (pa), #[.slice a_m ms.length c_m]] 0 kj 0 _ rfl) kj) ?_
  refine Qab (.bool true) 5 rfl kj kj ?_
  refine Qab (.bool true) 6 rfl kj kj ?_
  refine Qab (.pointer (some ⟨g2, 1, none⟩)) 7 rfl kj kj ?_
  refine Qab (.int .i64 nm) 8 rfl kj (Qag 3 _ g2 1 43 _ (.int .i64 nm) _ r2_1 rfl kj (Qah [#[.bool false]] [#[.int .i64 nm]] [ints .u8 (key), ints .u8 (sg), ints .u8 (pa), #[.slice a_m ms.length c_m]] 1 kj 0 _ rfl) kj) ?_
  refine Qab (.bool false) 9 rfl kj (Qax (u := .bool ((nm == 0))) kj (congrArg Value.bool (beq_eq_false_iff_ne.2 h1))) ?_
  refine Qab (.bool false) 10 rfl kj kj ?_
  refine Qab (.bool false) 11 rfl kj kj ?_
  refine Qao 12 rfl kj ?_
  refine Qao 13 rfl kj ?_
  refine Qao 14 rfl kj ?_
  refine Qao 15 rfl kj ?_
  refine Qab (.bool false) 16 rfl kj kj ?_
  refine Qab (.bool false) 17 rfl kj kj ?_
  refine Qao 18 rfl kj ?_
  refine Qao 19 rfl kj ?_
  refine Qao 20 rfl kj ?_
  refine Qao 21 rfl kj ?_
  refine Qab (.bool false) 22 rfl kj kj ?_
  refine Qab (.bool false) 23 rfl kj kj ?_
  refine Qao 24 rfl kj ?_
  refine Qao 25 rfl kj ?_
  refine Qao 26 rfl kj ?_
  refine Qao 27 rfl kj ?_
  refine Qab (.bool false) 28 rfl kj kj ?_
  refine Qab (.bool false) 29 rfl kj kj ?_
  refine Qao 30 rfl kj ?_
  refine Qao 31 rfl kj ?_
  refine Qao 32 rfl kj ?_
  refine Qao 33 rfl kj ?_
  refine Qab (.bool false) 34 rfl kj kj ?_
  refine Qab (.bool false) 2 rfl kj kj ?_
  refine Qaf ?_
  refine hK3 _ _ ?_
  refine wp_ret ?_
  repeat (first | with_reducible refine goR1 ?_ | with_reducible refine goR2 ?_)
  exact (show bodyPost _ _ _ .ret _ _ from ret1 (.bool false) rfl (Qaw kj) ⟨rfl, x1⟩)
set_option maxHeartbeats 4000000 in
theorem Qit (nm : Int) (key sg pa ms : List Int) (a_m : Option Addr) (c_m : Nat) (w : World) (hkl : key.length = 32) (hgl : sg.length = 32) (hpl : pa.length = 32) (h1 : nm = 0) (h2 : ¬ key = List.replicate 32 0) : Calls Try.prog 107 #[.agg (cat [#[.bool false], #[.int .i64 nm], ints .u8 (key), ints .u8 (sg), ints .u8 (pa), #[.slice a_m ms.length c_m]])] w (Ret w (.bool false)) := by
  refine enter 35 [(0, .agg (cat [#[.bool false], #[.int .i64 nm], ints .u8 (key), ints .u8 (sg), ints .u8 (pa), #[.slice a_m ms.length c_m]]))] Try.func107 rfl rfl kj rfl ?_
  refine wp_seq_k fun K1 hK1 => ?_
  refine Qae ?_
  refine Qav (cat [#[.bool false], #[.int .i64 nm], ints .u8 (key), ints .u8 (sg), ints .u8 (pa), #[.slice a_m ms.length c_m]]) 43 1 rfl kj kj fun g2 W1 l2 e1 r2_1 => ?_
  have x1 : Ext w W1 := Ext.tr (Rely.Ext.refl w) e1
  have b2 : w.heap.size ≤ g2 := Nat.le_trans (Rely.Ext.refl w).size l2
  refine Qab (.bool false) 2 rfl kj kj ?_
  refine Qaf ?_
  refine hK1 _ _ ?_
  refine wp_seq_k fun K3 hK3 => ?_
  refine Qae ?_
  refine Qab (.pointer (some ⟨g2, 0, none⟩)) 3 rfl kj kj ?_
  refine Qab (.bool false) 4 rfl kj (Qag 4 _ g2 0 43 _ (.bool false) _ r2_1 rfl kj (Qah [] [#[.bool false]] [#[.int .i64 nm], ints .u8 (key), ints .u8 (sg), ints .u8 (pa), #[.slice a_m ms.length c_m]] 0 kj 0 _ rfl) kj) ?_
  refine Qab (.bool true) 5 rfl kj kj ?_
  refine Qab (.bool true) 6 rfl kj kj ?_
  refine Qab (.pointer (some ⟨g2, 1, none⟩)) 7 rfl kj kj ?_
  refine Qab (.int .i64 nm) 8 rfl kj (Qag 3 _ g2 1 43 _ (.int .i64 nm) _ r2_1 rfl kj (Qah [#[.bool false]] [#[.int .i64 nm]] [ints .u8 (key), ints .u8 (sg), ints .u8 (pa), #[.slice a_m ms.length c_m]] 1 kj 0 _ rfl) kj) ?_
  refine Qab (.bool true) 9 rfl kj (Qax (u := .bool ((nm == 0))) kj (congrArg Value.bool (beq_iff_eq.2 h1))) ?_
  refine Qab (.bool true) 10 rfl kj kj ?_
  refine Qab (.bool true) 11 rfl kj kj ?_
  refine Qab (.pointer (some ⟨g2, 2, none⟩)) 12 rfl kj kj ?_
  refine Qab (.agg (ints .u8 (key))) 13 rfl kj (Qau 40 _ g2 2 43 _ _ _ r2_1 rfl kj (Qah [#[.bool false], #[.int .i64 nm]] [ints .u8 (key)] [ints .u8 (sg), ints .u8 (pa), #[.slice a_m ms.length c_m]] 2 kj) kj (isz (n := 32) kj ((Qac _ _).trans hkl))) ?_
  refine Qab (.agg (ints .u8 (List.replicate 32 0))) 14 rfl kj kj ?_
  refine Qab (.bool false) 15 rfl kj (Qa7 40 _ _ _ _ _ (.bool false) rfl kj kj kj (QaD 40 (e := 5) (k := .u8) (key) (List.replicate 32 0) (decide_eq_false h2) hkl (List.length_replicate (n := 32)) kj kj kj _)) ?_
  refine Qab (.bool false) 16 rfl kj kj ?_
  refine Qab (.bool false) 17 rfl kj kj ?_
  refine Qao 18 rfl kj ?_
  refine Qao 19 rfl kj ?_
  refine Qao 20 rfl kj ?_
  refine Qao 21 rfl kj ?_
  refine Qab (.bool false) 22 rfl kj kj ?_
  refine Qab (.bool false) 23 rfl kj kj ?_
  refine Qao 24 rfl kj ?_
  refine Qao 25 rfl kj ?_
  refine Qao 26 rfl kj ?_
  refine Qao 27 rfl kj ?_
  refine Qab (.bool false) 28 rfl kj kj ?_
  refine Qab (.bool false) 29 rfl kj kj ?_
  refine Qao 30 rfl kj ?_
  refine Qao 31 rfl kj ?_
  refine Qao 32 rfl kj ?_
  refine Qao 33 rfl kj ?_
  refine Qab (.bool false) 34 rfl kj kj ?_
  refine Qab (.bool false) 2 rfl kj kj ?_
  refine Qaf ?_
  refine hK3 _ _ ?_
  refine wp_ret ?_
  repeat (first | with_reducible refine goR1 ?_ | with_reducible refine goR2 ?_)
  exact (show bodyPost _ _ _ .ret _ _ from ret1 (.bool false) rfl (Qaw kj) ⟨rfl, x1⟩)
set_option maxHeartbeats 4000000 in
theorem Qis (nm : Int) (key sg pa ms : List Int) (a_m : Option Addr) (c_m : Nat) (w : World) (hkl : key.length = 32) (hgl : sg.length = 32) (hpl : pa.length = 32) (h1 : nm = 0) (h2 : key = List.replicate 32 0) (h3 : ¬ sg = List.replicate 32 0) : Calls Try.prog 107 #[.agg (cat [#[.bool false], #[.int .i64 nm], ints .u8 (key), ints .u8 (sg), ints .u8 (pa), #[.slice a_m ms.length c_m]])] w (Ret w (.bool false)) := by
  refine enter 35 [(0, .agg (cat [#[.bool false], #[.int .i64 nm], ints .u8 (key), ints .u8 (sg), ints .u8 (pa), #[.slice a_m ms.length c_m]]))] Try.func107 rfl rfl kj rfl ?_
  refine wp_seq_k fun K1 hK1 => ?_
  refine Qae ?_
  refine Qav (cat [#[.bool false], #[.int .i64 nm], ints .u8 (key), ints .u8 (sg), ints .u8 (pa), #[.slice a_m ms.length c_m]]) 43 1 rfl kj kj fun g2 W1 l2 e1 r2_1 => ?_
  have x1 : Ext w W1 := Ext.tr (Rely.Ext.refl w) e1
  have b2 : w.heap.size ≤ g2 := Nat.le_trans (Rely.Ext.refl w).size l2
  refine Qab (.bool false) 2 rfl kj kj ?_
  refine Qaf ?_
  refine hK1 _ _ ?_
  refine wp_seq_k fun K3 hK3 => ?_
  refine Qae ?_
  refine Qab (.pointer (some ⟨g2, 0, none⟩)) 3 rfl kj kj ?_
  refine Qab (.bool false) 4 rfl kj (Qag 4 _ g2 0 43 _ (.bool false) _ r2_1 rfl kj (Qah [] [#[.bool false]] [#[.int .i64 nm], ints .u8 (key), ints .u8 (sg), ints .u8 (pa), #[.slice a_m ms.length c_m]] 0 kj 0 _ rfl) kj) ?_
  refine Qab (.bool true) 5 rfl kj kj ?_
  refine Qab (.bool true) 6 rfl kj kj ?_
  refine Qab (.pointer (some ⟨g2, 1, none⟩)) 7 rfl kj kj ?_
  refine Qab (.int .i64 nm) 8 rfl kj (Qag 3 _ g2 1 43 _ (.int .i64 nm) _ r2_1 rfl kj (Qah [#[.bool false]] [#[.int .i64 nm]] [ints .u8 (key), ints .u8 (sg), ints .u8 (pa), #[.slice a_m ms.length c_m]] 1 kj 0 _ rfl) kj) ?_
  refine Qab (.bool true) 9 rfl kj (Qax (u := .bool ((nm == 0))) kj (congrArg Value.bool (beq_iff_eq.2 h1))) ?_
  refine Qab (.bool true) 10 rfl kj kj ?_
  refine Qab (.bool true) 11 rfl kj kj ?_
  refine Qab (.pointer (some ⟨g2, 2, none⟩)) 12 rfl kj kj ?_
  refine Qab (.agg (ints .u8 (key))) 13 rfl kj (Qau 40 _ g2 2 43 _ _ _ r2_1 rfl kj (Qah [#[.bool false], #[.int .i64 nm]] [ints .u8 (key)] [ints .u8 (sg), ints .u8 (pa), #[.slice a_m ms.length c_m]] 2 kj) kj (isz (n := 32) kj ((Qac _ _).trans hkl))) ?_
  refine Qab (.agg (ints .u8 (List.replicate 32 0))) 14 rfl kj kj ?_
  refine Qab (.bool true) 15 rfl kj (Qa7 40 _ _ _ _ _ (.bool true) rfl kj kj kj (QaD 40 (e := 5) (k := .u8) (key) (List.replicate 32 0) (decide_eq_true h2) hkl (List.length_replicate (n := 32)) kj kj kj _)) ?_
  refine Qab (.bool true) 16 rfl kj kj ?_
  refine Qab (.bool true) 17 rfl kj kj ?_
  refine Qab (.pointer (some ⟨g2, 34, none⟩)) 18 rfl kj kj ?_
  refine Qab (.agg (ints .u8 (sg))) 19 rfl kj (Qau 40 _ g2 34 43 _ _ _ r2_1 rfl kj (Qah [#[.bool false], #[.int .i64 nm], ints .u8 (key)] [ints .u8 (sg)] [ints .u8 (pa), #[.slice a_m ms.length c_m]] 34 (by rw [Qaa, Qaa, Qaa]; simp only [Array.size_append, cat, ((Qac _ _).trans hkl)]; rfl)) kj (isz (n := 32) kj ((Qac _ _).trans hgl))) ?_
  refine Qab (.agg (ints .u8 (List.replicate 32 0))) 20 rfl kj kj ?_
  refine Qab (.bool false) 21 rfl kj (Qa7 40 _ _ _ _ _ (.bool false) rfl kj kj kj (QaD 40 (e := 5) (k := .u8) (sg) (List.replicate 32 0) (decide_eq_false h3) hgl (List.length_replicate (n := 32)) kj kj kj _)) ?_
  refine Qab (.bool false) 22 rfl kj kj ?_
  refine Qab (.bool false) 23 rfl kj kj ?_
  refine Qao 24 rfl kj ?_
  refine Qao 25 rfl kj ?_
  refine Qao 26 rfl kj ?_
  refine Qao 27 rfl kj ?_
  refine Qab (.bool false) 28 rfl kj kj ?_
  refine Qab (.bool false) 29 rfl kj kj ?_
  refine Qao 30 rfl kj ?_
  refine Qao 31 rfl kj ?_
  refine Qao 32 rfl kj ?_
  refine Qao 33 rfl kj ?_
  refine Qab (.bool false) 34 rfl kj kj ?_
  refine Qab (.bool false) 2 rfl kj kj ?_
  refine Qaf ?_
  refine hK3 _ _ ?_
  refine wp_ret ?_
  repeat (first | with_reducible refine goR1 ?_ | with_reducible refine goR2 ?_)
  exact (show bodyPost _ _ _ .ret _ _ from ret1 (.bool false) rfl (Qaw kj) ⟨rfl, x1⟩)
set_option maxHeartbeats 4000000 in
theorem Qir (nm : Int) (key sg pa ms : List Int) (a_m : Option Addr) (c_m : Nat) (w : World) (hkl : key.length = 32) (hgl : sg.length = 32) (hpl : pa.length = 32) (h1 : nm = 0) (h2 : key = List.replicate 32 0) (h3 : sg = List.replicate 32 0) (h4 : ¬ pa = List.replicate 32 0) : Calls Try.prog 107 #[.agg (cat [#[.bool false], #[.int .i64 nm], ints .u8 (key), ints .u8 (sg), ints .u8 (pa), #[.slice a_m ms.length c_m]])] w (Ret w (.bool false)) := by
  refine enter 35 [(0, .agg (cat [#[.bool false], #[.int .i64 nm], ints .u8 (key), ints .u8 (sg), ints .u8 (pa), #[.slice a_m ms.length c_m]]))] Try.func107 rfl rfl kj rfl ?_
  refine wp_seq_k fun K1 hK1 => ?_
  refine Qae ?_
  refine Qav (cat [#[.bool false], #[.int .i64 nm], ints .u8 (key), ints .u8 (sg), ints .u8 (pa), #[.slice a_m ms.length c_m]]) 43 1 rfl kj kj fun g2 W1 l2 e1 r2_1 => ?_
  have x1 : Ext w W1 := Ext.tr (Rely.Ext.refl w) e1
  have b2 : w.heap.size ≤ g2 := Nat.le_trans (Rely.Ext.refl w).size l2
  refine Qab (.bool false) 2 rfl kj kj ?_
  refine Qaf ?_
  refine hK1 _ _ ?_
  refine wp_seq_k fun K3 hK3 => ?_
  refine Qae ?_
  refine Qab (.pointer (some ⟨g2, 0, none⟩)) 3 rfl kj kj ?_
  refine Qab (.bool false) 4 rfl kj (Qag 4 _ g2 0 43 _ (.bool false) _ r2_1 rfl kj (Qah [] [#[.bool false]] [#[.int .i64 nm], ints .u8 (key), ints .u8 (sg), ints .u8 (pa), #[.slice a_m ms.length c_m]] 0 kj 0 _ rfl) kj) ?_
  refine Qab (.bool true) 5 rfl kj kj ?_
  refine Qab (.bool true) 6 rfl kj kj ?_
  refine Qab (.pointer (some ⟨g2, 1, none⟩)) 7 rfl kj kj ?_
  refine Qab (.int .i64 nm) 8 rfl kj (Qag 3 _ g2 1 43 _ (.int .i64 nm) _ r2_1 rfl kj (Qah [#[.bool false]] [#[.int .i64 nm]] [ints .u8 (key), ints .u8 (sg), ints .u8 (pa), #[.slice a_m ms.length c_m]] 1 kj 0 _ rfl) kj) ?_
  refine Qab (.bool true) 9 rfl kj (Qax (u := .bool ((nm == 0))) kj (congrArg Value.bool (beq_iff_eq.2 h1))) ?_
  refine Qab (.bool true) 10 rfl kj kj ?_
  refine Qab (.bool true) 11 rfl kj kj ?_
  refine Qab (.pointer (some ⟨g2, 2, none⟩)) 12 rfl kj kj ?_
  refine Qab (.agg (ints .u8 (key))) 13 rfl kj (Qau 40 _ g2 2 43 _ _ _ r2_1 rfl kj (Qah [#[.bool false], #[.int .i64 nm]] [ints .u8 (key)] [ints .u8 (sg), ints .u8 (pa), #[.slice a_m ms.length c_m]] 2 kj) kj (isz (n := 32) kj ((Qac _ _).trans hkl))) ?_
  refine Qab (.agg (ints .u8 (List.replicate 32 0))) 14 rfl kj kj ?_
  refine Qab (.bool true) 15 rfl kj (Qa7 40 _ _ _ _ _ (.bool true) rfl kj kj kj (QaD 40 (e := 5) (k := .u8) (key) (List.replicate 32 0) (decide_eq_true h2) hkl (List.length_replicate (n := 32)) kj kj kj _)) ?_
  refine Qab (.bool true) 16 rfl kj kj ?_
  refine Qab (.bool true) 17 rfl kj kj ?_
  refine Qab (.pointer (some ⟨g2, 34, none⟩)) 18 rfl kj kj ?_
  refine Qab (.agg (ints .u8 (sg))) 19 rfl kj (Qau 40 _ g2 34 43 _ _ _ r2_1 rfl kj (Qah [#[.bool false], #[.int .i64 nm], ints .u8 (key)] [ints .u8 (sg)] [ints .u8 (pa), #[.slice a_m ms.length c_m]] 34 (by rw [Qaa, Qaa, Qaa]; simp only [Array.size_append, cat, ((Qac _ _).trans hkl)]; rfl)) kj (isz (n := 32) kj ((Qac _ _).trans hgl))) ?_
  refine Qab (.agg (ints .u8 (List.replicate 32 0))) 20 rfl kj kj ?_
  refine Qab (.bool true) 21 rfl kj (Qa7 40 _ _ _ _ _ (.bool true) rfl kj kj kj (QaD 40 (e := 5) (k := .u8) (sg) (List.replicate 32 0) (decide_eq_true h3) hgl (List.length_replicate (n := 32)) kj kj kj _)) ?_
  refine Qab (.bool true) 22 rfl kj kj ?_
  refine Qab (.bool true) 23 rfl kj kj ?_
  refine Qab (.pointer (some ⟨g2, 66, none⟩)) 24 rfl kj kj ?_
  refine Qab (.agg (ints .u8 (pa))) 25 rfl kj (Qau 39 _ g2 66 43 _ _ _ r2_1 rfl kj (Qah [#[.bool false], #[.int .i64 nm], ints .u8 (key), ints .u8 (sg)] [ints .u8 (pa)] [#[.slice a_m ms.length c_m]] 66 (by rw [Qaa, Qaa, Qaa, Qaa]; simp only [Array.size_append, cat, ((Qac _ _).trans hgl), ((Qac _ _).trans hkl)]; rfl)) kj (isz (n := 32) kj ((Qac _ _).trans hpl))) ?_
  refine Qab (.agg (ints .u8 (List.replicate 32 0))) 26 rfl kj kj ?_
  refine Qab (.bool false) 27 rfl kj (Qa7 39 _ _ _ _ _ (.bool false) rfl kj kj kj (QaD 39 (e := 5) (k := .u8) (pa) (List.replicate 32 0) (decide_eq_false h4) hpl (List.length_replicate (n := 32)) kj kj kj _)) ?_
  refine Qab (.bool false) 28 rfl kj kj ?_
  refine Qab (.bool false) 29 rfl kj kj ?_
  refine Qao 30 rfl kj ?_
  refine Qao 31 rfl kj ?_
  refine Qao 32 rfl kj ?_
  refine Qao 33 rfl kj ?_
  refine Qab (.bool false) 34 rfl kj kj ?_
  refine Qab (.bool false) 2 rfl kj kj ?_
  refine Qaf ?_
  refine hK3 _ _ ?_
  refine wp_ret ?_
  repeat (first | with_reducible refine goR1 ?_ | with_reducible refine goR2 ?_)
  exact (show bodyPost _ _ _ .ret _ _ from ret1 (.bool false) rfl (Qaw kj) ⟨rfl, x1⟩)
set_option maxHeartbeats 4000000 in
theorem Qiq (nm : Int) (key sg pa ms : List Int) (a_m : Option Addr) (c_m : Nat) (w : World) (hkl : key.length = 32) (hgl : sg.length = 32) (hpl : pa.length = 32) (h1 : nm = 0) (h2 : key = List.replicate 32 0) (h3 : sg = List.replicate 32 0) (h4 : pa = List.replicate 32 0) (h5 : ¬ ms.length = 0) : Calls Try.prog 107 #[.agg (cat [#[.bool false], #[.int .i64 nm], ints .u8 (key), ints .u8 (sg), ints .u8 (pa), #[.slice a_m ms.length c_m]])] w (Ret w (.bool false)) := by
  refine enter 35 [(0, .agg (cat [#[.bool false], #[.int .i64 nm], ints .u8 (key), ints .u8 (sg), ints .u8 (pa), #[.slice a_m ms.length c_m]]))] Try.func107 rfl rfl kj rfl ?_
  refine wp_seq_k fun K1 hK1 => ?_
  refine Qae ?_
  refine Qav (cat [#[.bool false], #[.int .i64 nm], ints .u8 (key), ints .u8 (sg), ints .u8 (pa), #[.slice a_m ms.length c_m]]) 43 1 rfl kj kj fun g2 W1 l2 e1 r2_1 => ?_
  have x1 : Ext w W1 := Ext.tr (Rely.Ext.refl w) e1
  have b2 : w.heap.size ≤ g2 := Nat.le_trans (Rely.Ext.refl w).size l2
  refine Qab (.bool false) 2 rfl kj kj ?_
  refine Qaf ?_
  refine hK1 _ _ ?_
  refine wp_seq_k fun K3 hK3 => ?_
  refine Qae ?_
  refine Qab (.pointer (some ⟨g2, 0, none⟩)) 3 rfl kj kj ?_
  refine Qab (.bool false) 4 rfl kj (Qag 4 _ g2 0 43 _ (.bool false) _ r2_1 rfl kj (Qah [] [#[.bool false]] [#[.int .i64 nm], ints .u8 (key), ints .u8 (sg), ints .u8 (pa), #[.slice a_m ms.length c_m]] 0 kj 0 _ rfl) kj) ?_
  refine Qab (.bool true) 5 rfl kj kj ?_
  refine Qab (.bool true) 6 rfl kj kj ?_
  refine Qab (.pointer (some ⟨g2, 1, none⟩)) 7 rfl kj kj ?_
  refine Qab (.int .i64 nm) 8 rfl kj (Qag 3 _ g2 1 43 _ (.int .i64 nm) _ r2_1 rfl kj (Qah [#[.bool false]] [#[.int .i64 nm]] [ints .u8 (key), ints .u8 (sg), ints .u8 (pa), #[.slice a_m ms.length c_m]] 1 kj 0 _ rfl) kj) ?_
  refine Qab (.bool true) 9 rfl kj (Qax (u := .bool ((nm == 0))) kj (congrArg Value.bool (beq_iff_eq.2 h1))) ?_
  refine Qab (.bool true) 10 rfl kj kj ?_
  refine Qab (.bool true) 11 rfl kj kj ?_
  refine Qab (.pointer (some ⟨g2, 2, none⟩)) 12 rfl kj kj ?_
  refine Qab (.agg (ints .u8 (key))) 13 rfl kj (Qau 40 _ g2 2 43 _ _ _ r2_1 rfl kj (Qah [#[.bool false], #[.int .i64 nm]] [ints .u8 (key)] [ints .u8 (sg), ints .u8 (pa), #[.slice a_m ms.length c_m]] 2 kj) kj (isz (n := 32) kj ((Qac _ _).trans hkl))) ?_
  refine Qab (.agg (ints .u8 (List.replicate 32 0))) 14 rfl kj kj ?_
  refine Qab (.bool true) 15 rfl kj (Qa7 40 _ _ _ _ _ (.bool true) rfl kj kj kj (QaD 40 (e := 5) (k := .u8) (key) (List.replicate 32 0) (decide_eq_true h2) hkl (List.length_replicate (n := 32)) kj kj kj _)) ?_
  refine Qab (.bool true) 16 rfl kj kj ?_
  refine Qab (.bool true) 17 rfl kj kj ?_
  refine Qab (.pointer (some ⟨g2, 34, none⟩)) 18 rfl kj kj ?_
  refine Qab (.agg (ints .u8 (sg))) 19 rfl kj (Qau 40 _ g2 34 43 _ _ _ r2_1 rfl kj (Qah [#[.bool false], #[.int .i64 nm], ints .u8 (key)] [ints .u8 (sg)] [ints .u8 (pa), #[.slice a_m ms.length c_m]] 34 (by rw [Qaa, Qaa, Qaa]; simp only [Array.size_append, cat, ((Qac _ _).trans hkl)]; rfl)) kj (isz (n := 32) kj ((Qac _ _).trans hgl))) ?_
  refine Qab (.agg (ints .u8 (List.replicate 32 0))) 20 rfl kj kj ?_
  refine Qab (.bool true) 21 rfl kj (Qa7 40 _ _ _ _ _ (.bool true) rfl kj kj kj (QaD 40 (e := 5) (k := .u8) (sg) (List.replicate 32 0) (decide_eq_true h3) hgl (List.length_replicate (n := 32)) kj kj kj _)) ?_
  refine Qab (.bool true) 22 rfl kj kj ?_
  refine Qab (.bool true) 23 rfl kj kj ?_
  refine Qab (.pointer (some ⟨g2, 66, none⟩)) 24 rfl kj kj ?_
  refine Qab (.agg (ints .u8 (pa))) 25 rfl kj (Qau 39 _ g2 66 43 _ _ _ r2_1 rfl kj (Qah [#[.bool false], #[.int .i64 nm], ints .u8 (key), ints .u8 (sg)] [ints .u8 (pa)] [#[.slice a_m ms.length c_m]] 66 (by rw [Qaa, Qaa, Qaa, Qaa]; simp only [Array.size_append, cat, ((Qac _ _).trans hgl), ((Qac _ _).trans hkl)]; rfl)) kj (isz (n := 32) kj ((Qac _ _).trans hpl))) ?_
  refine Qab (.agg (ints .u8 (List.replicate 32 0))) 26 rfl kj kj ?_
  refine Qab (.bool true) 27 rfl kj (Qa7 39 _ _ _ _ _ (.bool true) rfl kj kj kj (QaD 39 (e := 5) (k := .u8) (pa) (List.replicate 32 0) (decide_eq_true h4) hpl (List.length_replicate (n := 32)) kj kj kj _)) ?_
  refine Qab (.bool true) 28 rfl kj kj ?_
  refine Qab (.bool true) 29 rfl kj kj ?_
  refine Qab (.pointer (some ⟨g2, 98, none⟩)) 30 rfl kj kj ?_
  refine Qab (.slice a_m ms.length c_m) 31 rfl kj (Qag 41 _ g2 98 43 _ (.slice a_m ms.length c_m) _ r2_1 rfl kj (Qah [#[.bool false], #[.int .i64 nm], ints .u8 (key), ints .u8 (sg), ints .u8 (pa)] [#[.slice a_m ms.length c_m]] [] 98 (by rw [Qaa, Qaa, Qaa, Qaa, Qaa]; simp only [Array.size_append, cat, ((Qac _ _).trans hgl), ((Qac _ _).trans hkl), ((Qac _ _).trans hpl)]; rfl) 0 _ rfl) kj) ?_
  refine Qab (.int .i64 ((ms.length : Nat) : Int)) 32 rfl kj kj ?_
  refine Qab (.bool false) 33 rfl kj (Qax (u := .bool ((((ms.length : Nat) : Int) == 0))) kj (congrArg Value.bool (beq_eq_false_iff_ne.2 (by omega)))) ?_
  refine Qab (.bool false) 34 rfl kj kj ?_
  refine Qab (.bool false) 2 rfl kj kj ?_
  refine Qaf ?_
  refine hK3 _ _ ?_
  refine wp_ret ?_
  repeat (first | with_reducible refine goR1 ?_ | with_reducible refine goR2 ?_)
  exact (show bodyPost _ _ _ .ret _ _ from ret1 (.bool false) rfl (Qaw kj) ⟨rfl, x1⟩)
set_option maxHeartbeats 4000000 in
theorem Qip (nm : Int) (key sg pa ms : List Int) (a_m : Option Addr) (c_m : Nat) (w : World) (hkl : key.length = 32) (hgl : sg.length = 32) (hpl : pa.length = 32) (h1 : nm = 0) (h2 : key = List.replicate 32 0) (h3 : sg = List.replicate 32 0) (h4 : pa = List.replicate 32 0) (h5 : ms.length = 0) : Calls Try.prog 107 #[.agg (cat [#[.bool false], #[.int .i64 nm], ints .u8 (key), ints .u8 (sg), ints .u8 (pa), #[.slice a_m ms.length c_m]])] w (Ret w (.bool true)) := by
  refine enter 35 [(0, .agg (cat [#[.bool false], #[.int .i64 nm], ints .u8 (key), ints .u8 (sg), ints .u8 (pa), #[.slice a_m ms.length c_m]]))] Try.func107 rfl rfl kj rfl ?_
  refine wp_seq_k fun K1 hK1 => ?_
  refine Qae ?_
  refine Qav (cat [#[.bool false], #[.int .i64 nm], ints .u8 (key), ints .u8 (sg), ints .u8 (pa), #[.slice a_m ms.length c_m]]) 43 1 rfl kj kj fun g2 W1 l2 e1 r2_1 => ?_
  have x1 : Ext w W1 := Ext.tr (Rely.Ext.refl w) e1
  have b2 : w.heap.size ≤ g2 := Nat.le_trans (Rely.Ext.refl w).size l2
  refine Qab (.bool false) 2 rfl kj kj ?_
  refine Qaf ?_
  refine hK1 _ _ ?_
  refine wp_seq_k fun K3 hK3 => ?_
  refine Qae ?_
  refine Qab (.pointer (some ⟨g2, 0, none⟩)) 3 rfl kj kj ?_
  refine Qab (.bool false) 4 rfl kj (Qag 4 _ g2 0 43 _ (.bool false) _ r2_1 rfl kj (Qah [] [#[.bool false]] [#[.int .i64 nm], ints .u8 (key), ints .u8 (sg), ints .u8 (pa), #[.slice a_m ms.length c_m]] 0 kj 0 _ rfl) kj) ?_
  refine Qab (.bool true) 5 rfl kj kj ?_
  refine Qab (.bool true) 6 rfl kj kj ?_
  refine Qab (.pointer (some ⟨g2, 1, none⟩)) 7 rfl kj kj ?_
  refine Qab (.int .i64 nm) 8 rfl kj (Qag 3 _ g2 1 43 _ (.int .i64 nm) _ r2_1 rfl kj (Qah [#[.bool false]] [#[.int .i64 nm]] [ints .u8 (key), ints .u8 (sg), ints .u8 (pa), #[.slice a_m ms.length c_m]] 1 kj 0 _ rfl) kj) ?_
  refine Qab (.bool true) 9 rfl kj (Qax (u := .bool ((nm == 0))) kj (congrArg Value.bool (beq_iff_eq.2 h1))) ?_
  refine Qab (.bool true) 10 rfl kj kj ?_
  refine Qab (.bool true) 11 rfl kj kj ?_
  refine Qab (.pointer (some ⟨g2, 2, none⟩)) 12 rfl kj kj ?_
  refine Qab (.agg (ints .u8 (key))) 13 rfl kj (Qau 40 _ g2 2 43 _ _ _ r2_1 rfl kj (Qah [#[.bool false], #[.int .i64 nm]] [ints .u8 (key)] [ints .u8 (sg), ints .u8 (pa), #[.slice a_m ms.length c_m]] 2 kj) kj (isz (n := 32) kj ((Qac _ _).trans hkl))) ?_
  refine Qab (.agg (ints .u8 (List.replicate 32 0))) 14 rfl kj kj ?_
  refine Qab (.bool true) 15 rfl kj (Qa7 40 _ _ _ _ _ (.bool true) rfl kj kj kj (QaD 40 (e := 5) (k := .u8) (key) (List.replicate 32 0) (decide_eq_true h2) hkl (List.length_replicate (n := 32)) kj kj kj _)) ?_
  refine Qab (.bool true) 16 rfl kj kj ?_
  refine Qab (.bool true) 17 rfl kj kj ?_
  refine Qab (.pointer (some ⟨g2, 34, none⟩)) 18 rfl kj kj ?_
  refine Qab (.agg (ints .u8 (sg))) 19 rfl kj (Qau 40 _ g2 34 43 _ _ _ r2_1 rfl kj (Qah [#[.bool false], #[.int .i64 nm], ints .u8 (key)] [ints .u8 (sg)] [ints .u8 (pa), #[.slice a_m ms.length c_m]] 34 (by rw [Qaa, Qaa, Qaa]; simp only [Array.size_append, cat, ((Qac _ _).trans hkl)]; rfl)) kj (isz (n := 32) kj ((Qac _ _).trans hgl))) ?_
  refine Qab (.agg (ints .u8 (List.replicate 32 0))) 20 rfl kj kj ?_
  refine Qab (.bool true) 21 rfl kj (Qa7 40 _ _ _ _ _ (.bool true) rfl kj kj kj (QaD 40 (e := 5) (k := .u8) (sg) (List.replicate 32 0) (decide_eq_true h3) hgl (List.length_replicate (n := 32)) kj kj kj _)) ?_
  refine Qab (.bool true) 22 rfl kj kj ?_
  refine Qab (.bool true) 23 rfl kj kj ?_
  refine Qab (.pointer (some ⟨g2, 66, none⟩)) 24 rfl kj kj ?_
  refine Qab (.agg (ints .u8 (pa))) 25 rfl kj (Qau 39 _ g2 66 43 _ _ _ r2_1 rfl kj (Qah [#[.bool false], #[.int .i64 nm], ints .u8 (key), ints .u8 (sg)] [ints .u8 (pa)] [#[.slice a_m ms.length c_m]] 66 (by rw [Qaa, Qaa, Qaa, Qaa]; simp only [Array.size_append, cat, ((Qac _ _).trans hgl), ((Qac _ _).trans hkl)]; rfl)) kj (isz (n := 32) kj ((Qac _ _).trans hpl))) ?_
  refine Qab (.agg (ints .u8 (List.replicate 32 0))) 26 rfl kj kj ?_
  refine Qab (.bool true) 27 rfl kj (Qa7 39 _ _ _ _ _ (.bool true) rfl kj kj kj (QaD 39 (e := 5) (k := .u8) (pa) (List.replicate 32 0) (decide_eq_true h4) hpl (List.length_replicate (n := 32)) kj kj kj _)) ?_
  refine Qab (.bool true) 28 rfl kj kj ?_
  refine Qab (.bool true) 29 rfl kj kj ?_
  refine Qab (.pointer (some ⟨g2, 98, none⟩)) 30 rfl kj kj ?_
  refine Qab (.slice a_m ms.length c_m) 31 rfl kj (Qag 41 _ g2 98 43 _ (.slice a_m ms.length c_m) _ r2_1 rfl kj (Qah [#[.bool false], #[.int .i64 nm], ints .u8 (key), ints .u8 (sg), ints .u8 (pa)] [#[.slice a_m ms.length c_m]] [] 98 (by rw [Qaa, Qaa, Qaa, Qaa, Qaa]; simp only [Array.size_append, cat, ((Qac _ _).trans hgl), ((Qac _ _).trans hkl), ((Qac _ _).trans hpl)]; rfl) 0 _ rfl) kj) ?_
  refine Qab (.int .i64 ((ms.length : Nat) : Int)) 32 rfl kj kj ?_
  refine Qab (.bool true) 33 rfl kj (Qax (u := .bool ((((ms.length : Nat) : Int) == 0))) kj (congrArg Value.bool (by rw [h5]; rfl))) ?_
  refine Qab (.bool true) 34 rfl kj kj ?_
  refine Qab (.bool true) 2 rfl kj kj ?_
  refine Qaf ?_
  refine hK3 _ _ ?_
  refine wp_ret ?_
  repeat (first | with_reducible refine goR1 ?_ | with_reducible refine goR2 ?_)
  exact (show bodyPost _ _ _ .ret _ _ from ret1 (.bool true) rfl (Qaw kj) ⟨rfl, x1⟩)
theorem QeC (us : Bool) (nm : Int) (key sg pa ms : List Int) (a_m : Option Addr) (c_m : Nat) (w : World) (hkl : key.length = 32) (hgl : sg.length = 32) (hpl : pa.length = 32) : Calls Try.prog 107 #[.agg (cat [#[.bool us], #[.int .i64 nm], ints .u8 (key), ints .u8 (sg), ints .u8 (pa), #[.slice a_m ms.length c_m]])] w (Ret w (.bool (QaE us nm key sg pa ms))) := by
  unfold QaE
  cases us with
  | true => exact Qiv nm key sg pa ms a_m c_m w hkl hgl hpl
  | false =>
    by_cases h1 : nm = 0
    · rw [beq_iff_eq.2 h1]
      by_cases h2 : key = List.replicate 32 0
      · rw [decide_eq_true h2]
        by_cases h3 : sg = List.replicate 32 0
        · rw [decide_eq_true h3]
          by_cases h4 : pa = List.replicate 32 0
          · rw [decide_eq_true h4]
            by_cases h5 : ms.length = 0
            · rw [beq_iff_eq.2 h5]; exact Qip nm key sg pa ms a_m c_m w hkl hgl hpl h1 h2 h3 h4 h5
            · rw [beq_eq_false_iff_ne.2 h5]; exact Qiq nm key sg pa ms a_m c_m w hkl hgl hpl h1 h2 h3 h4 h5
          · rw [decide_eq_false h4]; exact Qir nm key sg pa ms a_m c_m w hkl hgl hpl h1 h2 h3 h4
        · rw [decide_eq_false h3]; exact Qis nm key sg pa ms a_m c_m w hkl hgl hpl h1 h2 h3
      · rw [decide_eq_false h2]; exact Qit nm key sg pa ms a_m c_m w hkl hgl hpl h1 h2
    · rw [beq_eq_false_iff_ne.2 h1]; exact Qiu nm key sg pa ms a_m c_m w hkl hgl hpl h1
set_option maxHeartbeats 4000000 in
theorem Qi4 (nm : Int) (key sg pa ms : List Int) (a_m : Option Addr) (c_m : Nat) (w : World) (hkl : key.length = 32) (hgl : sg.length = 32) (hpl : pa.length = 32)  : Calls Try.prog 108 #[.agg (cat [#[.bool true], #[.int .i64 nm], ints .u8 (key), ints .u8 (sg), ints .u8 (pa), #[.slice a_m ms.length c_m]])] w (Ret w (.bool false)) := by
  refine enter 35 [(0, .agg (cat [#[.bool true], #[.int .i64 nm], ints .u8 (key), ints .u8 (sg), ints .u8 (pa), #[.slice a_m ms.length c_m]]))] Try.func108 rfl rfl kj rfl ?_
  refine wp_seq_k fun K1 hK1 => ?_
  refine Qae ?_
  refine Qav (cat [#[.bool true], #[.int .i64 nm], ints .u8 (key), ints .u8 (sg), ints .u8 (pa), #[.slice a_m ms.length c_m]]) 43 1 rfl kj kj fun g2 W1 l2 e1 r2_1 => ?_
  have x1 : Ext w W1 := Ext.tr (Rely.Ext.refl w) e1
  have b2 : w.heap.size ≤ g2 := Nat.le_trans (Rely.Ext.refl w).size l2
  refine Qab (.bool false) 2 rfl kj kj ?_
  refine Qaf ?_
  refine hK1 _ _ ?_
  refine wp_seq_k fun K3 hK3 => ?_
  refine Qae ?_
  refine Qab (.pointer (some ⟨g2, 0, none⟩)) 3 rfl kj kj ?_
  refine Qab (.bool true) 4 rfl kj (Qag 4 _ g2 0 43 _ (.bool true) _ r2_1 rfl kj (Qah [] [#[.bool true]] [#[.int .i64 nm], ints .u8 (key), ints .u8 (sg), ints .u8 (pa), #[.slice a_m ms.length c_m]] 0 kj 0 _ rfl) kj) ?_
  refine Qab (.bool false) 5 rfl kj kj ?_
  refine Qab (.bool false) 6 rfl kj kj ?_
  refine Qao 7 rfl kj ?_
  refine Qao 8 rfl kj ?_
  refine Qao 9 rfl kj ?_
  refine Qab (.bool false) 10 rfl kj kj ?_
  refine Qab (.bool false) 11 rfl kj kj ?_
  refine Qao 12 rfl kj ?_
  refine Qao 13 rfl kj ?_
  refine Qao 14 rfl kj ?_
  refine Qao 15 rfl kj ?_
  refine Qab (.bool false) 16 rfl kj kj ?_
  refine Qab (.bool false) 17 rfl kj kj ?_
  refine Qao 18 rfl kj ?_
  refine Qao 19 rfl kj ?_
  refine Qao 20 rfl kj ?_
  refine Qao 21 rfl kj ?_
  refine Qab (.bool false) 22 rfl kj kj ?_
  refine Qab (.bool false) 23 rfl kj kj ?_
  refine Qao 24 rfl kj ?_
  refine Qao 25 rfl kj ?_
  refine Qao 26 rfl kj ?_
  refine Qao 27 rfl kj ?_
  refine Qab (.bool false) 28 rfl kj kj ?_
  refine Qab (.bool false) 29 rfl kj kj ?_
  refine Qao 30 rfl kj ?_
  refine Qao 31 rfl kj ?_
  refine Qao 32 rfl kj ?_
  refine Qao 33 rfl kj ?_
  refine Qab (.bool false) 34 rfl kj kj ?_
  refine Qab (.bool false) 2 rfl kj kj ?_
  refine Qaf ?_
  refine hK3 _ _ ?_
  refine wp_ret ?_
  repeat (first | with_reducible refine goR1 ?_ | with_reducible refine goR2 ?_)
  exact (show bodyPost _ _ _ .ret _ _ from ret1 (.bool false) rfl (Qaw kj) ⟨rfl, x1⟩)
set_option maxHeartbeats 4000000 in
theorem Qi3 (nm : Int) (key sg pa ms : List Int) (a_m : Option Addr) (c_m : Nat) (w : World) (hkl : key.length = 32) (hgl : sg.length = 32) (hpl : pa.length = 32) (h1 : ¬ nm = 0) : Calls Try.prog 108 #[.agg (cat [#[.bool false], #[.int .i64 nm], ints .u8 (key), ints .u8 (sg), ints .u8 (pa), #[.slice a_m ms.length c_m]])] w (Ret w (.bool false)) := by
  refine enter 35 [(0, .agg (cat [#[.bool false], #[.int .i64 nm], ints .u8 (key), ints .u8 (sg), ints .u8 (pa), #[.slice a_m ms.length c_m]]))] Try.func108 rfl rfl kj rfl ?_
  refine wp_seq_k fun K1 hK1 => ?_
  refine Qae ?_
  refine Qav (cat [#[.bool false], #[.int .i64 nm], ints .u8 (key), ints .u8 (sg), ints .u8 (pa), #[.slice a_m ms.length c_m]]) 43 1 rfl kj kj fun g2 W1 l2 e1 r2_1 => ?_
  have x1 : Ext w W1 := Ext.tr (Rely.Ext.refl w) e1
  have b2 : w.heap.size ≤ g2 := Nat.le_trans (Rely.Ext.refl w).size l2
  refine Qab (.bool false) 2 rfl kj kj ?_
  refine Qaf ?_
  refine hK1 _ _ ?_
  refine wp_seq_k fun K3 hK3 => ?_
  refine Qae ?_
  refine Qab (.pointer (some ⟨g2, 0, none⟩)) 3 rfl kj kj ?_
  refine Qab (.bool false) 4 rfl kj (Qag 4 _ g2 0 43 _ (.bool false) _ r2_1 rfl kj (Qah [] [#[.bool false]] [#[.int .i64 nm], ints .u8 (key), ints .u8 (sg), ints .u8 (pa), #[.slice a_m ms.length c_m]] 0 kj 0 _ rfl) kj) ?_
  refine Qab (.bool true) 5 rfl kj kj ?_
  refine Qab (.bool true) 6 rfl kj kj ?_
  refine Qab (.pointer (some ⟨g2, 1, none⟩)) 7 rfl kj kj ?_
  refine Qab (.int .i64 nm) 8 rfl kj (Qag 3 _ g2 1 43 _ (.int .i64 nm) _ r2_1 rfl kj (Qah [#[.bool false]] [#[.int .i64 nm]] [ints .u8 (key), ints .u8 (sg), ints .u8 (pa), #[.slice a_m ms.length c_m]] 1 kj 0 _ rfl) kj) ?_
  refine Qab (.bool false) 9 rfl kj (Qax (u := .bool ((nm == 0))) kj (congrArg Value.bool (beq_eq_false_iff_ne.2 h1))) ?_
  refine Qab (.bool false) 10 rfl kj kj ?_
  refine Qab (.bool false) 11 rfl kj kj ?_
  refine Qao 12 rfl kj ?_
  refine Qao 13 rfl kj ?_
  refine Qao 14 rfl kj ?_
  refine Qao 15 rfl kj ?_
  refine Qab (.bool false) 16 rfl kj kj ?_
  refine Qab (.bool false) 17 rfl kj kj ?_
  refine Qao 18 rfl kj ?_
  refine Qao 19 rfl kj ?_
  refine Qao 20 rfl kj ?_
  refine Qao 21 rfl kj ?_
  refine Qab (.bool false) 22 rfl kj kj ?_
  refine Qab (.bool false) 23 rfl kj kj ?_
  refine Qao 24 rfl kj ?_
  refine Qao 25 rfl kj ?_
  refine Qao 26 rfl kj ?_
  refine Qao 27 rfl kj ?_
  refine Qab (.bool false) 28 rfl kj kj ?_
  refine Qab (.bool false) 29 rfl kj kj ?_
  refine Qao 30 rfl kj ?_
  refine Qao 31 rfl kj ?_
  refine Qao 32 rfl kj ?_
  refine Qao 33 rfl kj ?_
  refine Qab (.bool false) 34 rfl kj kj ?_
  refine Qab (.bool false) 2 rfl kj kj ?_
  refine Qaf ?_
  refine hK3 _ _ ?_
  refine wp_ret ?_
  repeat (first | with_reducible refine goR1 ?_ | with_reducible refine goR2 ?_)
  exact (show bodyPost _ _ _ .ret _ _ from ret1 (.bool false) rfl (Qaw kj) ⟨rfl, x1⟩)
set_option maxHeartbeats 4000000 in
theorem Qi2 (nm : Int) (key sg pa ms : List Int) (a_m : Option Addr) (c_m : Nat) (w : World) (hkl : key.length = 32) (hgl : sg.length = 32) (hpl : pa.length = 32) (h1 : nm = 0) (h2 : ¬ key = List.replicate 32 0) : Calls Try.prog 108 #[.agg (cat [#[.bool false], #[.int .i64 nm], ints .u8 (key), ints .u8 (sg), ints .u8 (pa), #[.slice a_m ms.length c_m]])] w (Ret w (.bool false)) := by
  refine enter 35 [(0, .agg (cat [#[.bool false], #[.int .i64 nm], ints .u8 (key), ints .u8 (sg), ints .u8 (pa), #[.slice a_m ms.length c_m]]))] Try.func108 rfl rfl kj rfl ?_
  refine wp_seq_k fun K1 hK1 => ?_
  refine Qae ?_
  refine Qav (cat [#[.bool false], #[.int .i64 nm], ints .u8 (key), ints .u8 (sg), ints .u8 (pa), #[.slice a_m ms.length c_m]]) 43 1 rfl kj kj fun g2 W1 l2 e1 r2_1 => ?_
  have x1 : Ext w W1 := Ext.tr (Rely.Ext.refl w) e1
  have b2 : w.heap.size ≤ g2 := Nat.le_trans (Rely.Ext.refl w).size l2
  refine Qab (.bool false) 2 rfl kj kj ?_
  refine Qaf ?_
  refine hK1 _ _ ?_
  refine wp_seq_k fun K3 hK3 => ?_
  refine Qae ?_
  refine Qab (.pointer (some ⟨g2, 0, none⟩)) 3 rfl kj kj ?_
  refine Qab (.bool false) 4 rfl kj (Qag 4 _ g2 0 43 _ (.bool false) _ r2_1 rfl kj (Qah [] [#[.bool false]] [#[.int .i64 nm], ints .u8 (key), ints .u8 (sg), ints .u8 (pa), #[.slice a_m ms.length c_m]] 0 kj 0 _ rfl) kj) ?_
  refine Qab (.bool true) 5 rfl kj kj ?_
  refine Qab (.bool true) 6 rfl kj kj ?_
  refine Qab (.pointer (some ⟨g2, 1, none⟩)) 7 rfl kj kj ?_
  refine Qab (.int .i64 nm) 8 rfl kj (Qag 3 _ g2 1 43 _ (.int .i64 nm) _ r2_1 rfl kj (Qah [#[.bool false]] [#[.int .i64 nm]] [ints .u8 (key), ints .u8 (sg), ints .u8 (pa), #[.slice a_m ms.length c_m]] 1 kj 0 _ rfl) kj) ?_
  refine Qab (.bool true) 9 rfl kj (Qax (u := .bool ((nm == 0))) kj (congrArg Value.bool (beq_iff_eq.2 h1))) ?_
  refine Qab (.bool true) 10 rfl kj kj ?_
  refine Qab (.bool true) 11 rfl kj kj ?_
  refine Qab (.pointer (some ⟨g2, 2, none⟩)) 12 rfl kj kj ?_
  refine Qab (.agg (ints .u8 (key))) 13 rfl kj (Qau 40 _ g2 2 43 _ _ _ r2_1 rfl kj (Qah [#[.bool false], #[.int .i64 nm]] [ints .u8 (key)] [ints .u8 (sg), ints .u8 (pa), #[.slice a_m ms.length c_m]] 2 kj) kj (isz (n := 32) kj ((Qac _ _).trans hkl))) ?_
  refine Qab (.agg (ints .u8 (List.replicate 32 0))) 14 rfl kj kj ?_
  refine Qab (.bool false) 15 rfl kj (Qa7 40 _ _ _ _ _ (.bool false) rfl kj kj kj (QaD 40 (e := 5) (k := .u8) (key) (List.replicate 32 0) (decide_eq_false h2) hkl (List.length_replicate (n := 32)) kj kj kj _)) ?_
  refine Qab (.bool false) 16 rfl kj kj ?_
  refine Qab (.bool false) 17 rfl kj kj ?_
  refine Qao 18 rfl kj ?_
  refine Qao 19 rfl kj ?_
  refine Qao 20 rfl kj ?_
  refine Qao 21 rfl kj ?_
  refine Qab (.bool false) 22 rfl kj kj ?_
  refine Qab (.bool false) 23 rfl kj kj ?_
  refine Qao 24 rfl kj ?_
  refine Qao 25 rfl kj ?_
  refine Qao 26 rfl kj ?_
  refine Qao 27 rfl kj ?_
  refine Qab (.bool false) 28 rfl kj kj ?_
  refine Qab (.bool false) 29 rfl kj kj ?_
  refine Qao 30 rfl kj ?_
  refine Qao 31 rfl kj ?_
  refine Qao 32 rfl kj ?_
  refine Qao 33 rfl kj ?_
  refine Qab (.bool false) 34 rfl kj kj ?_
  refine Qab (.bool false) 2 rfl kj kj ?_
  refine Qaf ?_
  refine hK3 _ _ ?_
  refine wp_ret ?_
  repeat (first | with_reducible refine goR1 ?_ | with_reducible refine goR2 ?_)
  exact (show bodyPost _ _ _ .ret _ _ from ret1 (.bool false) rfl (Qaw kj) ⟨rfl, x1⟩)
set_option maxHeartbeats 4000000 in
theorem Qi1 (nm : Int) (key sg pa ms : List Int) (a_m : Option Addr) (c_m : Nat) (w : World) (hkl : key.length = 32) (hgl : sg.length = 32) (hpl : pa.length = 32) (h1 : nm = 0) (h2 : key = List.replicate 32 0) (h3 : ¬ sg = List.replicate 32 0) : Calls Try.prog 108 #[.agg (cat [#[.bool false], #[.int .i64 nm], ints .u8 (key), ints .u8 (sg), ints .u8 (pa), #[.slice a_m ms.length c_m]])] w (Ret w (.bool false)) := by
  refine enter 35 [(0, .agg (cat [#[.bool false], #[.int .i64 nm], ints .u8 (key), ints .u8 (sg), ints .u8 (pa), #[.slice a_m ms.length c_m]]))] Try.func108 rfl rfl kj rfl ?_
  refine wp_seq_k fun K1 hK1 => ?_
  refine Qae ?_
  refine Qav (cat [#[.bool false], #[.int .i64 nm], ints .u8 (key), ints .u8 (sg), ints .u8 (pa), #[.slice a_m ms.length c_m]]) 43 1 rfl kj kj fun g2 W1 l2 e1 r2_1 => ?_
  have x1 : Ext w W1 := Ext.tr (Rely.Ext.refl w) e1
  have b2 : w.heap.size ≤ g2 := Nat.le_trans (Rely.Ext.refl w).size l2
  refine Qab (.bool false) 2 rfl kj kj ?_
  refine Qaf ?_
  refine hK1 _ _ ?_
  refine wp_seq_k fun K3 hK3 => ?_
  refine Qae ?_
  refine Qab (.pointer (some ⟨g2, 0, none⟩)) 3 rfl kj kj ?_
  refine Qab (.bool false) 4 rfl kj (Qag 4 _ g2 0 43 _ (.bool false) _ r2_1 rfl kj (Qah [] [#[.bool false]] [#[.int .i64 nm], ints .u8 (key), ints .u8 (sg), ints .u8 (pa), #[.slice a_m ms.length c_m]] 0 kj 0 _ rfl) kj) ?_
  refine Qab (.bool true) 5 rfl kj kj ?_
  refine Qab (.bool true) 6 rfl kj kj ?_
  refine Qab (.pointer (some ⟨g2, 1, none⟩)) 7 rfl kj kj ?_
  refine Qab (.int .i64 nm) 8 rfl kj (Qag 3 _ g2 1 43 _ (.int .i64 nm) _ r2_1 rfl kj (Qah [#[.bool false]] [#[.int .i64 nm]] [ints .u8 (key), ints .u8 (sg), ints .u8 (pa), #[.slice a_m ms.length c_m]] 1 kj 0 _ rfl) kj) ?_
  refine Qab (.bool true) 9 rfl kj (Qax (u := .bool ((nm == 0))) kj (congrArg Value.bool (beq_iff_eq.2 h1))) ?_
  refine Qab (.bool true) 10 rfl kj kj ?_
  refine Qab (.bool true) 11 rfl kj kj ?_
  refine Qab (.pointer (some ⟨g2, 2, none⟩)) 12 rfl kj kj ?_
  refine Qab (.agg (ints .u8 (key))) 13 rfl kj (Qau 40 _ g2 2 43 _ _ _ r2_1 rfl kj (Qah [#[.bool false], #[.int .i64 nm]] [ints .u8 (key)] [ints .u8 (sg), ints .u8 (pa), #[.slice a_m ms.length c_m]] 2 kj) kj (isz (n := 32) kj ((Qac _ _).trans hkl))) ?_
  refine Qab (.agg (ints .u8 (List.replicate 32 0))) 14 rfl kj kj ?_
  refine Qab (.bool true) 15 rfl kj (Qa7 40 _ _ _ _ _ (.bool true) rfl kj kj kj (QaD 40 (e := 5) (k := .u8) (key) (List.replicate 32 0) (decide_eq_true h2) hkl (List.length_replicate (n := 32)) kj kj kj _)) ?_
  refine Qab (.bool true) 16 rfl kj kj ?_
  refine Qab (.bool true) 17 rfl kj kj ?_
  refine Qab (.pointer (some ⟨g2, 34, none⟩)) 18 rfl kj kj ?_
  refine Qab (.agg (ints .u8 (sg))) 19 rfl kj (Qau 40 _ g2 34 43 _ _ _ r2_1 rfl kj (Qah [#[.bool false], #[.int .i64 nm], ints .u8 (key)] [ints .u8 (sg)] [ints .u8 (pa), #[.slice a_m ms.length c_m]] 34 (by rw [Qaa, Qaa, Qaa]; simp only [Array.size_append, cat, ((Qac _ _).trans hkl)]; rfl)) kj (isz (n := 32) kj ((Qac _ _).trans hgl))) ?_
  refine Qab (.agg (ints .u8 (List.replicate 32 0))) 20 rfl kj kj ?_
  refine Qab (.bool false) 21 rfl kj (Qa7 40 _ _ _ _ _ (.bool false) rfl kj kj kj (QaD 40 (e := 5) (k := .u8) (sg) (List.replicate 32 0) (decide_eq_false h3) hgl (List.length_replicate (n := 32)) kj kj kj _)) ?_
  refine Qab (.bool false) 22 rfl kj kj ?_
  refine Qab (.bool false) 23 rfl kj kj ?_
  refine Qao 24 rfl kj ?_
  refine Qao 25 rfl kj ?_
  refine Qao 26 rfl kj ?_
  refine Qao 27 rfl kj ?_
  refine Qab (.bool false) 28 rfl kj kj ?_
  refine Qab (.bool false) 29 rfl kj kj ?_
  refine Qao 30 rfl kj ?_
  refine Qao 31 rfl kj ?_
  refine Qao 32 rfl kj ?_
  refine Qao 33 rfl kj ?_
  refine Qab (.bool false) 34 rfl kj kj ?_
  refine Qab (.bool false) 2 rfl kj kj ?_
  refine Qaf ?_
  refine hK3 _ _ ?_
  refine wp_ret ?_
  repeat (first | with_reducible refine goR1 ?_ | with_reducible refine goR2 ?_)
  exact (show bodyPost _ _ _ .ret _ _ from ret1 (.bool false) rfl (Qaw kj) ⟨rfl, x1⟩)
set_option maxHeartbeats 4000000 in
theorem Qi0 (nm : Int) (key sg pa ms : List Int) (a_m : Option Addr) (c_m : Nat) (w : World) (hkl : key.length = 32) (hgl : sg.length = 32) (hpl : pa.length = 32) (h1 : nm = 0) (h2 : key = List.replicate 32 0) (h3 : sg = List.replicate 32 0) (h4 : ¬ pa = List.replicate 32 0) : Calls Try.prog 108 #[.agg (cat [#[.bool false], #[.int .i64 nm], ints .u8 (key), ints .u8 (sg), ints .u8 (pa), #[.slice a_m ms.length c_m]])] w (Ret w (.bool false)) := by
  refine enter 35 [(0, .agg (cat [#[.bool false], #[.int .i64 nm], ints .u8 (key), ints .u8 (sg), ints .u8 (pa), #[.slice a_m ms.length c_m]]))] Try.func108 rfl rfl kj rfl ?_
  refine wp_seq_k fun K1 hK1 => ?_
  refine Qae ?_
  refine Qav (cat [#[.bool false], #[.int .i64 nm], ints .u8 (key), ints .u8 (sg), ints .u8 (pa), #[.slice a_m ms.length c_m]]) 43 1 rfl kj kj fun g2 W1 l2 e1 r2_1 => ?_
  have x1 : Ext w W1 := Ext.tr (Rely.Ext.refl w) e1
  have b2 : w.heap.size ≤ g2 := Nat.le_trans (Rely.Ext.refl w).size l2
  refine Qab (.bool false) 2 rfl kj kj ?_
  refine Qaf ?_
  refine hK1 _ _ ?_
  refine wp_seq_k fun K3 hK3 => ?_
  refine Qae ?_
  refine Qab (.pointer (some ⟨g2, 0, none⟩)) 3 rfl kj kj ?_
  refine Qab (.bool false) 4 rfl kj (Qag 4 _ g2 0 43 _ (.bool false) _ r2_1 rfl kj (Qah [] [#[.bool false]] [#[.int .i64 nm], ints .u8 (key), ints .u8 (sg), ints .u8 (pa), #[.slice a_m ms.length c_m]] 0 kj 0 _ rfl) kj) ?_
  refine Qab (.bool true) 5 rfl kj kj ?_
  refine Qab (.bool true) 6 rfl kj kj ?_
  refine Qab (.pointer (some ⟨g2, 1, none⟩)) 7 rfl kj kj ?_
  refine Qab (.int .i64 nm) 8 rfl kj (Qag 3 _ g2 1 43 _ (.int .i64 nm) _ r2_1 rfl kj (Qah [#[.bool false]] [#[.int .i64 nm]] [ints .u8 (key), ints .u8 (sg), ints .u8 (pa), #[.slice a_m ms.length c_m]] 1 kj 0 _ rfl) kj) ?_
  refine Qab (.bool true) 9 rfl kj (Qax (u := .bool ((nm == 0))) kj (congrArg Value.bool (beq_iff_eq.2 h1))) ?_
  refine Qab (.bool true) 10 rfl kj kj ?_
  refine Qab (.bool true) 11 rfl kj kj ?_
  refine Qab (.pointer (some ⟨g2, 2, none⟩)) 12 rfl kj kj ?_
  refine Qab (.agg (ints .u8 (key))) 13 rfl kj (Qau 40 _ g2 2 43 _ _ _ r2_1 rfl kj (Qah [#[.bool false], #[.int .i64 nm]] [ints .u8 (key)] [ints .u8 (sg), ints .u8 (pa), #[.slice a_m ms.length c_m]] 2 kj) kj (isz (n := 32) kj ((Qac _ _).trans hkl))) ?_
  refine Qab (.agg (ints .u8 (List.replicate 32 0))) 14 rfl kj kj ?_
  refine Qab (.bool true) 15 rfl kj (Qa7 40 _ _ _ _ _ (.bool true) rfl kj kj kj (QaD 40 (e := 5) (k := .u8) (key) (List.replicate 32 0) (decide_eq_true h2) hkl (List.length_replicate (n := 32)) kj kj kj _)) ?_
  refine Qab (.bool true) 16 rfl kj kj ?_
  refine Qab (.bool true) 17 rfl kj kj ?_
  refine Qab (.pointer (some ⟨g2, 34, none⟩)) 18 rfl kj kj ?_
  refine Qab (.agg (ints .u8 (sg))) 19 rfl kj (Qau 40 _ g2 34 43 _ _ _ r2_1 rfl kj (Qah [#[.bool false], #[.int .i64 nm], ints .u8 (key)] [ints .u8 (sg)] [ints .u8 (pa), #[.slice a_m ms.length c_m]] 34 (by rw [Qaa, Qaa, Qaa]; simp only [Array.size_append, cat, ((Qac _ _).trans hkl)]; rfl)) kj (isz (n := 32) kj ((Qac _ _).trans hgl))) ?_
  refine Qab (.agg (ints .u8 (List.replicate 32 0))) 20 rfl kj kj ?_
  refine Qab (.bool true) 21 rfl kj (Qa7 40 _ _ _ _ _ (.bool true) rfl kj kj kj (QaD 40 (e := 5) (k := .u8) (sg) (List.replicate 32 0) (decide_eq_true h3) hgl (List.length_replicate (n := 32)) kj kj kj _)) ?_
  refine Qab (.bool true) 22 rfl kj kj ?_
  refine Qab (.bool true) 23 rfl kj kj ?_
  refine Qab (.pointer (some ⟨g2, 66, none⟩)) 24 rfl kj kj ?_
  refine Qab (.agg (ints .u8 (pa))) 25 rfl kj (Qau 39 _ g2 66 43 _ _ _ r2_1 rfl kj (Qah [#[.bool false], #[.int .i64 nm], ints .u8 (key), ints .u8 (sg)] [ints .u8 (pa)] [#[.slice a_m ms.length c_m]] 66 (by rw [Qaa, Qaa, Qaa, Qaa]; simp only [Array.size_append, cat, ((Qac _ _).trans hgl), ((Qac _ _).trans hkl)]; rfl)) kj (isz (n := 32) kj ((Qac _ _).trans hpl))) ?_
  refine Qab (.agg (ints .u8 (List.replicate 32 0))) 26 rfl kj kj ?_
  refine Qab (.bool false) 27 rfl kj (Qa7 39 _ _ _ _ _ (.bool false) rfl kj kj kj (QaD 39 (e := 5) (k := .u8) (pa) (List.replicate 32 0) (decide_eq_false h4) hpl (List.length_replicate (n := 32)) kj kj kj _)) ?_
  refine Qab (.bool false) 28 rfl kj kj ?_
  refine Qab (.bool false) 29 rfl kj kj ?_
  refine Qao 30 rfl kj ?_
  refine Qao 31 rfl kj ?_
  refine Qao 32 rfl kj ?_
  refine Qao 33 rfl kj ?_
  refine Qab (.bool false) 34 rfl kj kj ?_
  refine Qab (.bool false) 2 rfl kj kj ?_
  refine Qaf ?_
  refine hK3 _ _ ?_
  refine wp_ret ?_
  repeat (first | with_reducible refine goR1 ?_ | with_reducible refine goR2 ?_)
  exact (show bodyPost _ _ _ .ret _ _ from ret1 (.bool false) rfl (Qaw kj) ⟨rfl, x1⟩)
set_option maxHeartbeats 4000000 in
theorem Qiz (nm : Int) (key sg pa ms : List Int) (a_m : Option Addr) (c_m : Nat) (w : World) (hkl : key.length = 32) (hgl : sg.length = 32) (hpl : pa.length = 32) (h1 : nm = 0) (h2 : key = List.replicate 32 0) (h3 : sg = List.replicate 32 0) (h4 : pa = List.replicate 32 0) (h5 : ¬ ms.length = 0) : Calls Try.prog 108 #[.agg (cat [#[.bool false], #[.int .i64 nm], ints .u8 (key), ints .u8 (sg), ints .u8 (pa), #[.slice a_m ms.length c_m]])] w (Ret w (.bool false)) := by
  refine enter 35 [(0, .agg (cat [#[.bool false], #[.int .i64 nm], ints .u8 (key), ints .u8 (sg), ints .u8 (pa), #[.slice a_m ms.length c_m]]))] Try.func108 rfl rfl kj rfl ?_
  refine wp_seq_k fun K1 hK1 => ?_
  refine Qae ?_
  refine Qav (cat [#[.bool false], #[.int .i64 nm], ints .u8 (key), ints .u8 (sg), ints .u8 (pa), #[.slice a_m ms.length c_m]]) 43 1 rfl kj kj fun g2 W1 l2 e1 r2_1 => ?_
  have x1 : Ext w W1 := Ext.tr (Rely.Ext.refl w) e1
  have b2 : w.heap.size ≤ g2 := Nat.le_trans (Rely.Ext.refl w).size l2
  refine Qab (.bool false) 2 rfl kj kj ?_
  refine Qaf ?_
  refine hK1 _ _ ?_
  refine wp_seq_k fun K3 hK3 => ?_
  refine Qae ?_
  refine Qab (.pointer (some ⟨g2, 0, none⟩)) 3 rfl kj kj ?_
  refine Qab (.bool false) 4 rfl kj (Qag 4 _ g2 0 43 _ (.bool false) _ r2_1 rfl kj (Qah [] [#[.bool false]] [#[.int .i64 nm], ints .u8 (key), ints .u8 (sg), ints .u8 (pa), #[.slice a_m ms.length c_m]] 0 kj 0 _ rfl) kj) ?_
  refine Qab (.bool true) 5 rfl kj kj ?_
  refine Qab (.bool true) 6 rfl kj kj ?_
  refine Qab (.pointer (some ⟨g2, 1, none⟩)) 7 rfl kj kj ?_
  refine Qab (.int .i64 nm) 8 rfl kj (Qag 3 _ g2 1 43 _ (.int .i64 nm) _ r2_1 rfl kj (Qah [#[.bool false]] [#[.int .i64 nm]] [ints .u8 (key), ints .u8 (sg), ints .u8 (pa), #[.slice a_m ms.length c_m]] 1 kj 0 _ rfl) kj) ?_
  refine Qab (.bool true) 9 rfl kj (Qax (u := .bool ((nm == 0))) kj (congrArg Value.bool (beq_iff_eq.2 h1))) ?_
  refine Qab (.bool true) 10 rfl kj kj ?_
  refine Qab (.bool true) 11 rfl kj kj ?_
  refine Qab (.pointer (some ⟨g2, 2, none⟩)) 12 rfl kj kj ?_
  refine Qab (.agg (ints .u8 (key))) 13 rfl kj (Qau 40 _ g2 2 43 _ _ _ r2_1 rfl kj (Qah [#[.bool false], #[.int .i64 nm]] [ints .u8 (key)] [ints .u8 (sg), ints .u8 (pa), #[.slice a_m ms.length c_m]] 2 kj) kj (isz (n := 32) kj ((Qac _ _).trans hkl))) ?_
  refine Qab (.agg (ints .u8 (List.replicate 32 0))) 14 rfl kj kj ?_
  refine Qab (.bool true) 15 rfl kj (Qa7 40 _ _ _ _ _ (.bool true) rfl kj kj kj (QaD 40 (e := 5) (k := .u8) (key) (List.replicate 32 0) (decide_eq_true h2) hkl (List.length_replicate (n := 32)) kj kj kj _)) ?_
  refine Qab (.bool true) 16 rfl kj kj ?_
  refine Qab (.bool true) 17 rfl kj kj ?_
  refine Qab (.pointer (some ⟨g2, 34, none⟩)) 18 rfl kj kj ?_
  refine Qab (.agg (ints .u8 (sg))) 19 rfl kj (Qau 40 _ g2 34 43 _ _ _ r2_1 rfl kj (Qah [#[.bool false], #[.int .i64 nm], ints .u8 (key)] [ints .u8 (sg)] [ints .u8 (pa), #[.slice a_m ms.length c_m]] 34 (by rw [Qaa, Qaa, Qaa]; simp only [Array.size_append, cat, ((Qac _ _).trans hkl)]; rfl)) kj (isz (n := 32) kj ((Qac _ _).trans hgl))) ?_
  refine Qab (.agg (ints .u8 (List.replicate 32 0))) 20 rfl kj kj ?_
  refine Qab (.bool true) 21 rfl kj (Qa7 40 _ _ _ _ _ (.bool true) rfl kj kj kj (QaD 40 (e := 5) (k := .u8) (sg) (List.replicate 32 0) (decide_eq_true h3) hgl (List.length_replicate (n := 32)) kj kj kj _)) ?_
  refine Qab (.bool true) 22 rfl kj kj ?_
  refine Qab (.bool true) 23 rfl kj kj ?_
  refine Qab (.pointer (some ⟨g2, 66, none⟩)) 24 rfl kj kj ?_
  refine Qab (.agg (ints .u8 (pa))) 25 rfl kj (Qau 39 _ g2 66 43 _ _ _ r2_1 rfl kj (Qah [#[.bool false], #[.int .i64 nm], ints .u8 (key), ints .u8 (sg)] [ints .u8 (pa)] [#[.slice a_m ms.length c_m]] 66 (by rw [Qaa, Qaa, Qaa, Qaa]; simp only [Array.size_append, cat, ((Qac _ _).trans hgl), ((Qac _ _).trans hkl)]; rfl)) kj (isz (n := 32) kj ((Qac _ _).trans hpl))) ?_
  refine Qab (.agg (ints .u8 (List.replicate 32 0))) 26 rfl kj kj ?_
  refine Qab (.bool true) 27 rfl kj (Qa7 39 _ _ _ _ _ (.bool true) rfl kj kj kj (QaD 39 (e := 5) (k := .u8) (pa) (List.replicate 32 0) (decide_eq_true h4) hpl (List.length_replicate (n := 32)) kj kj kj _)) ?_
  refine Qab (.bool true) 28 rfl kj kj ?_
  refine Qab (.bool true) 29 rfl kj kj ?_
  refine Qab (.pointer (some ⟨g2, 98, none⟩)) 30 rfl kj kj ?_
  refine Qab (.slice a_m ms.length c_m) 31 rfl kj (Qag 41 _ g2 98 43 _ (.slice a_m ms.length c_m) _ r2_1 rfl kj (Qah [#[.bool false], #[.int .i64 nm], ints .u8 (key), ints .u8 (sg), ints .u8 (pa)] [#[.slice a_m ms.length c_m]] [] 98 (by rw [Qaa, Qaa, Qaa, Qaa, Qaa]; simp only [Array.size_append, cat, ((Qac _ _).trans hgl), ((Qac _ _).trans hkl), ((Qac _ _).trans hpl)]; rfl) 0 _ rfl) kj) ?_
  refine Qab (.int .i64 ((ms.length : Nat) : Int)) 32 rfl kj kj ?_
  refine Qab (.bool false) 33 rfl kj (Qax (u := .bool ((((ms.length : Nat) : Int) == 0))) kj (congrArg Value.bool (beq_eq_false_iff_ne.2 (by omega)))) ?_
  refine Qab (.bool false) 34 rfl kj kj ?_
  refine Qab (.bool false) 2 rfl kj kj ?_
  refine Qaf ?_
  refine hK3 _ _ ?_
  refine wp_ret ?_
  repeat (first | with_reducible refine goR1 ?_ | with_reducible refine goR2 ?_)
  exact (show bodyPost _ _ _ .ret _ _ from ret1 (.bool false) rfl (Qaw kj) ⟨rfl, x1⟩)
set_option maxHeartbeats 4000000 in
theorem Qiy (nm : Int) (key sg pa ms : List Int) (a_m : Option Addr) (c_m : Nat) (w : World) (hkl : key.length = 32) (hgl : sg.length = 32) (hpl : pa.length = 32) (h1 : nm = 0) (h2 : key = List.replicate 32 0) (h3 : sg = List.replicate 32 0) (h4 : pa = List.replicate 32 0) (h5 : ms.length = 0) : Calls Try.prog 108 #[.agg (cat [#[.bool false], #[.int .i64 nm], ints .u8 (key), ints .u8 (sg), ints .u8 (pa), #[.slice a_m ms.length c_m]])] w (Ret w (.bool true)) := by
  refine enter 35 [(0, .agg (cat [#[.bool false], #[.int .i64 nm], ints .u8 (key), ints .u8 (sg), ints .u8 (pa), #[.slice a_m ms.length c_m]]))] Try.func108 rfl rfl kj rfl ?_
  refine wp_seq_k fun K1 hK1 => ?_
  refine Qae ?_
  refine Qav (cat [#[.bool false], #[.int .i64 nm], ints .u8 (key), ints .u8 (sg), ints .u8 (pa), #[.slice a_m ms.length c_m]]) 43 1 rfl kj kj fun g2 W1 l2 e1 r2_1 => ?_
  have x1 : Ext w W1 := Ext.tr (Rely.Ext.refl w) e1
  have b2 : w.heap.size ≤ g2 := Nat.le_trans (Rely.Ext.refl w).size l2
  refine Qab (.bool false) 2 rfl kj kj ?_
  refine Qaf ?_
  refine hK1 _ _ ?_
  refine wp_seq_k fun K3 hK3 => ?_
  refine Qae ?_
  refine Qab (.pointer (some ⟨g2, 0, none⟩)) 3 rfl kj kj ?_
  refine Qab (.bool false) 4 rfl kj (Qag 4 _ g2 0 43 _ (.bool false) _ r2_1 rfl kj (Qah [] [#[.bool false]] [#[.int .i64 nm], ints .u8 (key), ints .u8 (sg), ints .u8 (pa), #[.slice a_m ms.length c_m]] 0 kj 0 _ rfl) kj) ?_
  refine Qab (.bool true) 5 rfl kj kj ?_
  refine Qab (.bool true) 6 rfl kj kj ?_
  refine Qab (.pointer (some ⟨g2, 1, none⟩)) 7 rfl kj kj ?_
  refine Qab (.int .i64 nm) 8 rfl kj (Qag 3 _ g2 1 43 _ (.int .i64 nm) _ r2_1 rfl kj (Qah [#[.bool false]] [#[.int .i64 nm]] [ints .u8 (key), ints .u8 (sg), ints .u8 (pa), #[.slice a_m ms.length c_m]] 1 kj 0 _ rfl) kj) ?_
  refine Qab (.bool true) 9 rfl kj (Qax (u := .bool ((nm == 0))) kj (congrArg Value.bool (beq_iff_eq.2 h1))) ?_
  refine Qab (.bool true) 10 rfl kj kj ?_
  refine Qab (.bool true) 11 rfl kj kj ?_
  refine Qab (.pointer (some ⟨g2, 2, none⟩)) 12 rfl kj kj ?_
  refine Qab (.agg (ints .u8 (key))) 13 rfl kj (Qau 40 _ g2 2 43 _ _ _ r2_1 rfl kj (Qah [#[.bool false], #[.int .i64 nm]] [ints .u8 (key)] [ints .u8 (sg), ints .u8 (pa), #[.slice a_m ms.length c_m]] 2 kj) kj (isz (n := 32) kj ((Qac _ _).trans hkl))) ?_
  refine Qab (.agg (ints .u8 (List.replicate 32 0))) 14 rfl kj kj ?_
  refine Qab (.bool true) 15 rfl kj (Qa7 40 _ _ _ _ _ (.bool true) rfl kj kj kj (QaD 40 (e := 5) (k := .u8) (key) (List.replicate 32 0) (decide_eq_true h2) hkl (List.length_replicate (n := 32)) kj kj kj _)) ?_
  refine Qab (.bool true) 16 rfl kj kj ?_
  refine Qab (.bool true) 17 rfl kj kj ?_
  refine Qab (.pointer (some ⟨g2, 34, none⟩)) 18 rfl kj kj ?_
  refine Qab (.agg (ints .u8 (sg))) 19 rfl kj (Qau 40 _ g2 34 43 _ _ _ r2_1 rfl kj (Qah [#[.bool false], #[.int .i64 nm], ints .u8 (key)] [ints .u8 (sg)] [ints .u8 (pa), #[.slice a_m ms.length c_m]] 34 (by rw [Qaa, Qaa, Qaa]; simp only [Array.size_append, cat, ((Qac _ _).trans hkl)]; rfl)) kj (isz (n := 32) kj ((Qac _ _).trans hgl))) ?_
  refine Qab (.agg (ints .u8 (List.replicate 32 0))) 20 rfl kj kj ?_
  refine Qab (.bool true) 21 rfl kj (Qa7 40 _ _ _ _ _ (.bool true) rfl kj kj kj (QaD 40 (e := 5) (k := .u8) (sg) (List.replicate 32 0) (decide_eq_true h3) hgl (List.length_replicate (n := 32)) kj kj kj _)) ?_
  refine Qab (.bool true) 22 rfl kj kj ?_
  refine Qab (.bool true) 23 rfl kj kj ?_
  refine Qab (.pointer (some ⟨g2, 66, none⟩)) 24 rfl kj kj ?_
  refine Qab (.agg (ints .u8 (pa))) 25 rfl kj (Qau 39 _ g2 66 43 _ _ _ r2_1 rfl kj (Qah [#[.bool false], #[.int .i64 nm], ints .u8 (key), ints .u8 (sg)] [ints .u8 (pa)] [#[.slice a_m ms.length c_m]] 66 (by rw [Qaa, Qaa, Qaa, Qaa]; simp only [Array.size_append, cat, ((Qac _ _).trans hgl), ((Qac _ _).trans hkl)]; rfl)) kj (isz (n := 32) kj ((Qac _ _).trans hpl))) ?_
  refine Qab (.agg (ints .u8 (List.replicate 32 0))) 26 rfl kj kj ?_
  refine Qab (.bool true) 27 rfl kj (Qa7 39 _ _ _ _ _ (.bool true) rfl kj kj kj (QaD 39 (e := 5) (k := .u8) (pa) (List.replicate 32 0) (decide_eq_true h4) hpl (List.length_replicate (n := 32)) kj kj kj _)) ?_
  refine Qab (.bool true) 28 rfl kj kj ?_
  refine Qab (.bool true) 29 rfl kj kj ?_
  refine Qab (.pointer (some ⟨g2, 98, none⟩)) 30 rfl kj kj ?_
  refine Qab (.slice a_m ms.length c_m) 31 rfl kj (Qag 41 _ g2 98 43 _ (.slice a_m ms.length c_m) _ r2_1 rfl kj (Qah [#[.bool false], #[.int .i64 nm], ints .u8 (key), ints .u8 (sg), ints .u8 (pa)] [#[.slice a_m ms.length c_m]] [] 98 (by rw [Qaa, Qaa, Qaa, Qaa, Qaa]; simp only [Array.size_append, cat, ((Qac _ _).trans hgl), ((Qac _ _).trans hkl), ((Qac _ _).trans hpl)]; rfl) 0 _ rfl) kj) ?_
  refine Qab (.int .i64 ((ms.length : Nat) : Int)) 32 rfl kj kj ?_
  refine Qab (.bool true) 33 rfl kj (Qax (u := .bool ((((ms.length : Nat) : Int) == 0))) kj (congrArg Value.bool (by rw [h5]; rfl))) ?_
  refine Qab (.bool true) 34 rfl kj kj ?_
  refine Qab (.bool true) 2 rfl kj kj ?_
  refine Qaf ?_
  refine hK3 _ _ ?_
  refine wp_ret ?_
  repeat (first | with_reducible refine goR1 ?_ | with_reducible refine goR2 ?_)
  exact (show bodyPost _ _ _ .ret _ _ from ret1 (.bool true) rfl (Qaw kj) ⟨rfl, x1⟩)
theorem Qi5 (us : Bool) (nm : Int) (key sg pa ms : List Int) (a_m : Option Addr) (c_m : Nat) (w : World) (hkl : key.length = 32) (hgl : sg.length = 32) (hpl : pa.length = 32) : Calls Try.prog 108 #[.agg (cat [#[.bool us], #[.int .i64 nm], ints .u8 (key), ints .u8 (sg), ints .u8 (pa), #[.slice a_m ms.length c_m]])] w (Ret w (.bool (QaE us nm key sg pa ms))) := by
  unfold QaE
  cases us with
  | true => exact Qi4 nm key sg pa ms a_m c_m w hkl hgl hpl
  | false =>
    by_cases h1 : nm = 0
    · rw [beq_iff_eq.2 h1]
      by_cases h2 : key = List.replicate 32 0
      · rw [decide_eq_true h2]
        by_cases h3 : sg = List.replicate 32 0
        · rw [decide_eq_true h3]
          by_cases h4 : pa = List.replicate 32 0
          · rw [decide_eq_true h4]
            by_cases h5 : ms.length = 0
            · rw [beq_iff_eq.2 h5]; exact Qiy nm key sg pa ms a_m c_m w hkl hgl hpl h1 h2 h3 h4 h5
            · rw [beq_eq_false_iff_ne.2 h5]; exact Qiz nm key sg pa ms a_m c_m w hkl hgl hpl h1 h2 h3 h4 h5
          · rw [decide_eq_false h4]; exact Qi0 nm key sg pa ms a_m c_m w hkl hgl hpl h1 h2 h3 h4
        · rw [decide_eq_false h3]; exact Qi1 nm key sg pa ms a_m c_m w hkl hgl hpl h1 h2 h3
      · rw [decide_eq_false h2]; exact Qi2 nm key sg pa ms a_m c_m w hkl hgl hpl h1 h2
    · rw [beq_eq_false_iff_ne.2 h1]; exact Qi3 nm key sg pa ms a_m c_m w hkl hgl hpl h1
end Go.Proofs.Ytfelfmchachljaa.Wr
end
section
namespace Go.Proofs.Ytfelfmchachljaa.Wr
open Go Go.RowKit
open Rely Auto Own Sha
set_option linter.unusedVariables false
set_option linter.unusedSimpArgs false
open Wk
def risN (ms : List Int) : Nat → Bool
  | 0 => true
  | n + 1 => risN ms n && ((n == 0) || decide (nth ms (n - 1) < nth ms n))
def risV (ms : List Int) : Bool := risN ms ms.length
theorem QdH (ms : List Int) (k : Nat) (h : risN ms k = false) : ∀ n, k ≤ n → risN ms n = false
  | 0, hk => by obtain rfl : k = 0 := by omega
                exact h
  | n + 1, hk => by
    by_cases e : k = n + 1
    · rw [← e]; exact h
    · unfold risN
      rw [QdH ms k h n (by omega)]
      rfl
theorem Qe3 (ms : List Int) (i : Nat) (hr : risN ms (i + 1) = true) : risN ms (i + 1 + 1) = decide (nth ms i < nth ms (i + 1)) := by
  show (risN ms (i + 1) && ((i + 1 == 0) || decide (nth ms (i + 1 - 1) < nth ms (i + 1)))) = _
  rw [hr, beq_eq_false_iff_ne.2 (show i + 1 ≠ 0 by omega)]
  rfl
set_option maxHeartbeats 4000000 in
theorem Qd0 (ms : List Int) (a_m : Option Addr) (c_m B : Nat) (w : World) (hml : ms.length ≤ 1000000) (hm : RdK .i64 B ms (.slice a_m ms.length c_m) w) : Calls Try.prog 121 #[.slice a_m ms.length c_m] w (Ret w (.bool (risV ms))) := by
 refine enter 20 [(0, .slice a_m ms.length c_m)] Try.func121 rfl rfl kj rfl ?_
 refine wp_seq_k fun K1 hK1 => ?_
 refine Qae ?_
 refine Qab (.bool false) 2 rfl kj kj ?_
 refine Qaf ?_
 refine hK1 _ _ ?_
 refine wp_seq_k fun K2 hK2 => ?_
 refine wp_seq_k fun K3 hK3 => ?_
 refine Qae ?_
 refine Qab (.int .i64 1) 3 rfl kj kj ?_
 refine Qaf ?_
 refine hK3 _ _ ?_
 refine wp_block ?_
 refine QaP (fun (s1 : Nat) => [(0, .slice a_m ms.length c_m), (3, .int .i64 (((s1 + 1) : Nat) : Int))]) (fun (s1 : Nat) W => (s1 + 1 ≤ ms.length ∨ s1 = 0) ∧ (risN ms (s1 + 1) = true) ∧ (Ext w W) ∧ (Ext w W)) (fun (s1 : Nat) => ms.length - s1) 0 ⟨rfl, rfl, trivial⟩ ⟨(.inr rfl), rfl, (Rely.Ext.refl w), (Rely.Ext.refl w)⟩ fun s1 X1 V1 hI1 => ?_
 obtain ⟨ip, hs1⟩ : ∃ z, z = s1 := ⟨_, rfl⟩
 subst hs1
 obtain ⟨hi, hr, kk1, xx1⟩ := hI1
 replace hi : ip + 1 ≤ ms.length ∨ ip = 0 := hi
 replace hr : risN ms (ip + 1) = true := hr
 replace kk1 : Ext w V1 := kk1
 replace xx1 : Ext w V1 := xx1
 have e1 := kk1
 refine wp_seq_k fun K4 hK4 => ?_
 refine wp_seq_k fun K5 hK5 => ?_
 refine Qae ?_
 refine Qab (.int .i64 (((ip + 1) : Nat) : Int)) 4 rfl kj kj ?_
 refine Qab (.slice a_m ms.length c_m) 5 rfl kj kj ?_
 refine Qab (.int .i64 ((ms.length : Nat) : Int)) 6 rfl kj kj ?_
 refine Qab (.bool (decide ((((ip + 1) : Nat) : Int) < ((ms.length : Nat) : Int)))) 7 rfl kj kj ?_
 refine Qaf ?_
 refine hK5 _ _ ?_
 refine Qa5 (t := decide ((((ip + 1) : Nat) : Int) < ((ms.length : Nat) : Int))) kj (fun c6 => ?_) (fun c6 => ?_)
 ·skip
  have hlt7 : ip + 1 < ms.length := by have := of_decide_eq_true c6; omega
  have hnm_7 : (ms).length = ms.length := rfl
  obtain ⟨gcm_7, ocm_7, ham_7, hlm_7, hcm_7⟩ := Qcy (RdK.here (RdK.ext hm xx1)) (by rw [hnm_7]; omega)
  refine wp_skip ?_
  refine hK4 _ _ ?_
  refine wp_seq_k fun K8 hK8 => ?_
  refine wp_block ?_
  refine wp_seq_k fun K9 hK9 => ?_
  refine Qbl kj fun W2 e2 => ?_
  have x2 : Ext w W2 := Ext.tr xx1 e2
  refine Qat 0 (.slice a_m ms.length c_m) 10 rfl rfl kj kj (fun _ _ _ h => h) (fun W hR => by kernel_rfl) ?_
  refine Qat 1 (.int .i64 (((ip + 1) : Nat) : Int)) 11 rfl rfl kj kj (fun _ _ _ h => h) (fun W hR => by kernel_rfl) ?_
  refine Qat 2 (.int .i64 (((ip : Nat) : Int))) 12 rfl rfl kj kj (fun _ _ _ h => h) (fun W hR => (Qax (u := .int .i64 (IntKind.i64.wrap ((((ip + 1) : Nat) : Int) - 1))) kj (congrArg (Value.int .i64) (by rw [show (((ip + 1 : Nat) : Int)) - 1 = ((ip : Nat) : Int) by omega]; exact IntWalk.i64_in _ (by omega))))) ?_
  refine Qat 3 (.pointer (some ⟨gcm_7, ocm_7 + ip, none⟩)) 13 rfl rfl kj kj (fun _ _ _ h => h) (fun W hR => (QaT 41 _ _ .i64 ip gcm_7 ocm_7 ms.length c_m 3 a_m _ ham_7 rfl rfl kj kj kj kj (Nat.lt_of_lt_of_eq (show ip < ms.length by omega) hnm_7.symm))) ?_
  have y1_2 : Ext V1 W2 := (Rely.Ext.trans (Rely.Ext.refl V1) e2)
  refine Qat 4 (.int .i64 (nth (ms) (ip))) 14 rfl rfl kj kj (fun _ _ _ h => h) (fun W hR => (QaH 3 _ _ (.int .i64 (nth (ms) (ip))) ((Below.cell (Rely.Ext.trans y1_2 hR) hlm_7).trans (hcm_7 ip (Nat.lt_of_lt_of_eq (show ip < ms.length by omega) hnm_7.symm))) rfl kj kj)) ?_
  refine Qat 5 (.slice a_m ms.length c_m) 15 rfl rfl kj kj (fun _ _ _ h => h) (fun W hR => by kernel_rfl) ?_
  refine Qat 6 (.int .i64 (((ip + 1) : Nat) : Int)) 16 rfl rfl kj kj (fun _ _ _ h => h) (fun W hR => by kernel_rfl) ?_
  refine Qat 7 (.pointer (some ⟨gcm_7, ocm_7 + (ip + 1), none⟩)) 17 rfl rfl kj kj (fun _ _ _ h => h) (fun W hR => (QaT 41 _ _ .i64 (ip + 1) gcm_7 ocm_7 ms.length c_m 3 a_m _ ham_7 rfl rfl kj kj kj kj (Nat.lt_of_lt_of_eq (show (ip + 1) < ms.length by omega) hnm_7.symm))) ?_
  refine Qat 8 (.int .i64 (nth (ms) ((ip + 1)))) 18 rfl rfl kj kj (fun _ _ _ h => h) (fun W hR => (QaH 3 _ _ (.int .i64 (nth (ms) ((ip + 1)))) ((Below.cell (Rely.Ext.trans y1_2 hR) hlm_7).trans (hcm_7 (ip + 1) (Nat.lt_of_lt_of_eq (show (ip + 1) < ms.length by omega) hnm_7.symm))) rfl kj kj)) ?_
  refine Qat 9 (.bool (decide ((nth (ms) (ip)) ≥ (nth (ms) ((ip + 1)))))) 19 rfl rfl kj kj (fun _ _ _ h => h) (fun W hR => by kernel_rfl) ?_
  refine wb_nil kj ?_
  refine hK9 _ _ ?_
  refine Qa5 (t := decide ((nth (ms) (ip)) ≥ (nth (ms) ((ip + 1))))) kj (fun c10 => ?_) (fun c10 => ?_)
  ·skip
   have hV : risV ms = false := by
    have hge := of_decide_eq_true c10
    exact QdH ms (ip + 1 + 1) (by rw [Qe3 ms ip hr]; exact decide_eq_false (by omega)) _ (by omega)
   refine wp_seq_k fun K11 hK11 => ?_
   refine Qae ?_
   refine Qab (.bool false) 2 rfl kj kj ?_
   refine Qaf ?_
   refine hK11 _ _ ?_
   refine wp_ret ?_
   repeat (first | with_reducible refine goR1 ?_ | with_reducible refine goR2 ?_)
   exact (show bodyPost _ _ _ .ret _ _ from ret1 (.bool false) rfl (Qaw kj) ⟨by rw [hV], x2⟩)
  ·skip
   have hr2 : risN ms (ip + 1 + 1) = true := by
    have hge := of_decide_eq_false c10
    rw [Qe3 ms ip hr]; exact decide_eq_true (by omega)
   refine wp_skip ?_
   refine hK8 _ _ ?_
   refine Qae ?_
   refine Qab (.int .i64 (((ip + 1) : Nat) : Int)) 8 rfl kj kj ?_
   refine Qab (.int .i64 (((ip + 1) + 1 : Nat) : Int)) 9 rfl kj (Qax (u := .int .i64 (IntKind.i64.wrap ((((ip + 1) : Nat) : Int) + 1))) kj (congrArg (Value.int .i64) (i64n _ _ (by omega) (by omega)))) ?_
   refine Qab (.int .i64 (((ip + 1) + 1 : Nat) : Int)) 3 rfl kj kj ?_
   refine Qaf ?_
   have y0_2 : Ext w W2 := (Rely.Ext.trans e1 e2)
   repeat (first | with_reducible refine goX1 ?_ | with_reducible refine goX2 ?_ | with_reducible refine goX3 ?_)
   exact QaK (ip + 1) ⟨rfl, rfl, trivial⟩ ⟨(by omega), hr2, y0_2, x2⟩ (by omega)
 ·skip
  have hV : risV ms = true := by
   have hge := of_decide_eq_false c6
   unfold risV
   rcases hi with h | h
   ·rw [show ms.length = ip + 1 by omega]; exact hr
   ·rcases Nat.eq_zero_or_pos ms.length with h0 | h0
    ·rw [h0]; rfl
    ·rw [show ms.length = ip + 1 by omega]; exact hr
  refine wp_exit ?_
  refine hK2 _ _ ?_
  refine wp_seq_k fun K12 hK12 => ?_
  refine Qae ?_
  refine Qab (.bool true) 2 rfl kj kj ?_
  refine Qaf ?_
  refine hK12 _ _ ?_
  refine wp_ret ?_
  repeat (first | with_reducible refine goR1 ?_ | with_reducible refine goR2 ?_)
  exact (show bodyPost _ _ _ .ret _ _ from ret1 (.bool true) rfl (Qaw kj) ⟨by rw [hV], xx1⟩)
end Go.Proofs.Ytfelfmchachljaa.Wr
end
section
namespace Go.Proofs.Ytfelfmchachljaa.Wr
open Go Go.RowKit
open Rely Auto Own Sha
set_option linter.unusedVariables false
set_option linter.unusedSimpArgs false
def nR1 (s : Option (List Int)) : Option (List Int) := Qad s 1
def nR2 (s : Option (List Int)) : Option (List Int) := Qad (nR1 s) 1
def nR3 (s : Option (List Int)) : Option (List Int) := Qad (nR2 s) 32
def nR4 (s : Option (List Int)) : Option (List Int) := Qad (nR3 s) 32
def nR5 (s : Option (List Int)) : Option (List Int) := Qad (nR4 s) 32
def nR6 (s : Option (List Int)) : Option (List Int) := itR (Qad (nR5 s) 1) (bigN (Qai (nR5 s) 1))
def nL (s : Option (List Int)) : List Int := itL (Qad (nR5 s) 1) (bigN (Qai (nR5 s) 1))
def nNm (s : Option (List Int)) : Int := ((bigN (Qai (nR1 s) 1) : Nat) : Int)
def nKy (s : Option (List Int)) : List Int := keyV (Qai (nR2 s) 32)
def nSg (s : Option (List Int)) : List Int := keyV (Qai (nR3 s) 32)
def nPa (s : Option (List Int)) : List Int := keyV (Qai (nR4 s) 32)
set_option maxHeartbeats 4000000 in
theorem Qha (B gr : Nat) (s : Option (List Int)) (w : World) (hB : B ≤ gr) (h : RSt B gr s w) (hU : bigN (Qai s 1) = 1) : Calls Try.prog 102 #[.pointer (some ⟨gr, 0, none⟩)] w (fun e W => ∃ v xs, e = .returned v ∧ ExtB gr w W ∧ RSt B gr (Qa4 (Qa4 (nR6 s) (true)) (risV xs)) W ∧ (∃ (a : Option Addr) (c : Nat), v = .agg (cat [#[.bool true], #[.int .i64 (nNm s)], ints .u8 (nKy s), ints .u8 (nSg s), ints .u8 (nPa s), #[.slice a xs.length c]]) ∧ OwnN .i64 3 w.heap.size xs (.slice a xs.length c) W) ∧ xs.length ≤ 255 ∧ (nR6 s ≠ none → xs = nL s)) := by
  have hgr := h.lt
  refine enter 38 [(0, .pointer (some ⟨gr, 0, none⟩))] Try.func102 rfl rfl kj rfl ?_
  refine wp_seq_k fun K1 hK1 => ?_
  refine Qae ?_
  refine Qav (cat [#[.bool false], #[.int .i64 0], (Array.replicate 32 (.int .u8 0)), (Array.replicate 32 (.int .u8 0)), (Array.replicate 32 (.int .u8 0)), #[.slice none 0 0]]) 43 2 rfl kj kj fun g2 W1 l2 e1 r2_1 => ?_
  have x1 : ExtB gr w W1 := ExtB.ext (ExtB.refl gr w) e1
  have b2 : w.heap.size ≤ g2 := Nat.le_trans (ExtB.refl gr w).size l2
  refine Qaf ?_
  refine hK1 _ _ ?_
  refine wp_seq_k fun K3 hK3 => ?_
  refine Qae ?_
  refine Qab (.pointer (some ⟨gr, 0, none⟩)) 5 rfl kj kj ?_
  have rs4 := (RSt.ext h hB e1)
  refine Qak (fun v W' => ExtB gr W1 W' ∧ RSt B gr (Qad (s) 1) W' ∧ (fun (v : Value) (_ : World) => v = .int .i64 ((bigN (Qai (s) 1) : Nat) : Int)) v W') 110 #[.pointer (some ⟨gr, 0, none⟩), .int .i64 1] 6 rfl kj kj (Qbg B gr _ 1 _ hB rs4 (by decide)) fun vv5 W2 hh5 => ?_
  obtain ⟨q2, rs5, hv5⟩ := hh5
  have x2 : ExtB gr w W2 := ExtB.tr x1 q2
  subst hv5
  refine Qab (.int .i64 ((bigN (Qai (s) 1) : Nat) : Int)) 3 rfl kj kj ?_
  refine Qaf ?_
  refine hK3 _ _ ?_
  refine wp_seq_k fun K6 hK6 => ?_
  refine Qae ?_
  refine Qab (.int .i64 ((bigN (Qai (s) 1) : Nat) : Int)) 7 rfl kj kj ?_
  refine Qab (.bool true) 8 rfl kj (Qax (u := .bool ((((bigN (Qai (s) 1) : Nat) : Int) == 1))) kj (congrArg Value.bool (beq_iff_eq.2 (by omega)))) ?_
  refine Qab (.pointer (some ⟨gr, 0, none⟩)) 9 rfl kj kj ?_
  refine Qak (fun v W' => ExtB gr W2 W' ∧ RSt B gr (Qad (Qad (s) 1) 1) W' ∧ (fun (v : Value) (_ : World) => v = .int .i64 ((bigN (Qai (Qad (s) 1) 1) : Nat) : Int)) v W') 110 #[.pointer (some ⟨gr, 0, none⟩), .int .i64 1] 10 rfl kj kj (Qbg B gr _ 1 _ hB rs5 (by decide)) fun vv7 W3 hh7 => ?_
  obtain ⟨q3, rs7, hv7⟩ := hh7
  have x3 : ExtB gr w W3 := ExtB.tr x2 q3
  subst hv7
  refine Qab (.pointer (some ⟨gr, 0, none⟩)) 11 rfl kj kj ?_
  refine Qak (fun v W' => ExtB gr W3 W' ∧ RSt B gr (Qad (Qad (Qad (s) 1) 1) 32) W' ∧ (fun (v : Value) (_ : World) => v = .agg (ints .u8 (keyV (Qai (Qad (Qad (s) 1) 1) 32)))) v W') 109 #[.pointer (some ⟨gr, 0, none⟩)] 12 rfl kj kj (Qcg B gr _ _ hB rs7) fun vv8 W4 hh8 => ?_
  obtain ⟨q4, rs8, hv8⟩ := hh8
  have x4 : ExtB gr w W4 := ExtB.tr x3 q4
  subst hv8
  refine Qab (.pointer (some ⟨gr, 0, none⟩)) 13 rfl kj kj ?_
  refine Qak (fun v W' => ExtB gr W4 W' ∧ RSt B gr (Qad (Qad (Qad (Qad (s) 1) 1) 32) 32) W' ∧ (fun (v : Value) (_ : World) => v = .agg (ints .u8 (keyV (Qai (Qad (Qad (Qad (s) 1) 1) 32) 32)))) v W') 109 #[.pointer (some ⟨gr, 0, none⟩)] 14 rfl kj kj (Qcg B gr _ _ hB rs8) fun vv9 W5 hh9 => ?_
  obtain ⟨q5, rs9, hv9⟩ := hh9
  have x5 : ExtB gr w W5 := ExtB.tr x4 q5
  subst hv9
  refine Qab (.pointer (some ⟨gr, 0, none⟩)) 15 rfl kj kj ?_
  refine Qak (fun v W' => ExtB gr W5 W' ∧ RSt B gr (Qad (Qad (Qad (Qad (Qad (s) 1) 1) 32) 32) 32) W' ∧ (fun (v : Value) (_ : World) => v = .agg (ints .u8 (keyV (Qai (Qad (Qad (Qad (Qad (s) 1) 1) 32) 32) 32)))) v W') 109 #[.pointer (some ⟨gr, 0, none⟩)] 16 rfl kj kj (Qcg B gr _ _ hB rs9) fun vv10 W6 hh10 => ?_
  obtain ⟨q6, rs10, hv10⟩ := hh10
  have x6 : ExtB gr w W6 := ExtB.tr x5 q6
  subst hv10
  refine Qab (.pointer (some ⟨gr, 0, none⟩)) 17 rfl kj kj ?_
  refine Qak (fun v W' => ExtB gr W6 W' ∧ RSt B gr (itR (Qad (Qad (Qad (Qad (Qad (Qad (s) 1) 1) 32) 32) 32) 1) (bigN (Qai (Qad (Qad (Qad (Qad (Qad (s) 1) 1) 32) 32) 32) 1))) W' ∧ (fun (v : Value) (W : World) => ∃ xs, OwnN .i64 3 W6.heap.size xs v W ∧ xs.length ≤ 255 ∧ (itR (Qad (Qad (Qad (Qad (Qad (Qad (s) 1) 1) 32) 32) 32) 1) (bigN (Qai (Qad (Qad (Qad (Qad (Qad (s) 1) 1) 32) 32) 32) 1)) ≠ none → xs = itL (Qad (Qad (Qad (Qad (Qad (Qad (s) 1) 1) 32) 32) 32) 1) (bigN (Qai (Qad (Qad (Qad (Qad (Qad (s) 1) 1) 32) 32) 32) 1)))) v W') 123 #[.pointer (some ⟨gr, 0, none⟩), .func (.func 111) #[] #[]] 18 rfl kj kj (QcG B gr _ _ hB rs10) fun vv11 W7 hh11 => ?_
  obtain ⟨q7, rs11, hv11⟩ := hh11
  have x7 : ExtB gr w W7 := ExtB.tr x6 q7
  obtain ⟨xs, hox, hlx, hxx⟩ := hv11
  obtain ⟨ax, cx, rfl, -⟩ := id (OwnN.rd hox)
  refine Qab (.agg (cat [#[.bool true], #[.int .i64 ((bigN (Qai (Qad (s) 1) 1) : Nat) : Int)], ints .u8 (keyV (Qai (Qad (Qad (s) 1) 1) 32)), ints .u8 (keyV (Qai (Qad (Qad (Qad (s) 1) 1) 32) 32)), ints .u8 (keyV (Qai (Qad (Qad (Qad (Qad (s) 1) 1) 32) 32) 32)), #[.slice ax xs.length cx]])) 19 rfl kj (Qcr 43 _ (.agg (cat [#[.bool false], #[.int .i64 0], (Array.replicate 32 (.int .u8 0)), (Array.replicate 32 (.int .u8 0)), (Array.replicate 32 (.int .u8 0)), #[.slice none 0 0]])) #[(0, 1), (1, 1), (2, 32), (34, 32), (66, 32), (98, 1)] [(0, 1, .bool true, #[.bool true]), (1, 1, .int .i64 ((bigN (Qai (Qad (s) 1) 1) : Nat) : Int), #[.int .i64 ((bigN (Qai (Qad (s) 1) 1) : Nat) : Int)]), (2, 32, .agg (ints .u8 (keyV (Qai (Qad (Qad (s) 1) 1) 32))), ints .u8 (keyV (Qai (Qad (Qad (s) 1) 1) 32))), (3, 32, .agg (ints .u8 (keyV (Qai (Qad (Qad (Qad (s) 1) 1) 32) 32))), ints .u8 (keyV (Qai (Qad (Qad (Qad (s) 1) 1) 32) 32))), (4, 32, .agg (ints .u8 (keyV (Qai (Qad (Qad (Qad (Qad (s) 1) 1) 32) 32) 32))), ints .u8 (keyV (Qai (Qad (Qad (Qad (Qad (s) 1) 1) 32) 32) 32))), (5, 1, .slice ax xs.length cx, #[.slice ax xs.length cx])] rfl kj ⟨kj, rfl, kj, kj, rfl, kj, kj, rfl, ((Qac _ _).trans (Qap _ (Qal (Qad (Qad (s) 1) 1) 32))), kj, rfl, ((Qac _ _).trans (Qap _ (Qal (Qad (Qad (Qad (s) 1) 1) 32) 32))), kj, rfl, ((Qac _ _).trans (Qap _ (Qal (Qad (Qad (Qad (Qad (s) 1) 1) 32) 32) 32))), kj, rfl, kj, trivial⟩ kj kj kj kj) ?_
  refine Qav (cat [#[.bool false], #[.int .i64 0], (Array.replicate 32 (.int .u8 0)), (Array.replicate 32 (.int .u8 0)), (Array.replicate 32 (.int .u8 0)), #[.slice none 0 0]]) 43 4 rfl kj kj fun g12 W8 l12 e8 r12_8 => ?_
  have x8 : ExtB gr w W8 := ExtB.ext x7 e8
  have b12 : w.heap.size ≤ g12 := Nat.le_trans x7.size l12
  refine Qa3 g12 _ (cat [#[.bool true], #[.int .i64 ((bigN (Qai (Qad (s) 1) 1) : Nat) : Int)], ints .u8 (keyV (Qai (Qad (Qad (s) 1) 1) 32)), ints .u8 (keyV (Qai (Qad (Qad (Qad (s) 1) 1) 32) 32)), ints .u8 (keyV (Qai (Qad (Qad (Qad (Qad (s) 1) 1) 32) 32) 32)), #[.slice ax xs.length cx]]) 43 r12_8 rfl kj (Qa0 43 _ _ g12 43 _ _ r12_8 rfl kj kj (isz (n := 99) kj (by rw [Qaa, Qaa, Qaa, Qaa, Qaa, Qaa]; simp only [Array.size_append, cat, ((Qac _ _).trans (Qap _ (Qal (Qad (Qad (s) 1) 1) 32))), ((Qac _ _).trans (Qap _ (Qal (Qad (Qad (Qad (s) 1) 1) 32) 32))), ((Qac _ _).trans (Qap _ (Qal (Qad (Qad (Qad (Qad (s) 1) 1) 32) 32) 32)))]; rfl)) (eqsz (n := 99) kj (by rw [Qaa, Qaa, Qaa, Qaa, Qaa, Qaa]; simp only [Array.size_append, cat, ((Qac _ _).trans (Qap _ (Qal (Qad (Qad (s) 1) 1) 32))), ((Qac _ _).trans (Qap _ (Qal (Qad (Qad (Qad (s) 1) 1) 32) 32))), ((Qac _ _).trans (Qap _ (Qal (Qad (Qad (Qad (Qad (s) 1) 1) 32) 32) 32)))]; rfl)) (QaX _ (by intro a ha; simp only [List.mem_cons, List.not_mem_nil, or_false] at ha; rcases ha with rfl | rfl | rfl | rfl | rfl | rfl; exact (Qaq _ rfl); exact (Qaq _ rfl); exact (Qas _ _); exact (Qas _ _); exact (Qas _ _); exact (Qaq _ rfl)))) fun W9 p9 r12_9 => ?_
  have x9 : ExtB gr w W9 := ExtB.putsN x8 p9 b12
  refine Qaf ?_
  refine hK6 _ _ ?_
  refine wp_seq_k fun K13 hK13 => ?_
  refine Qae ?_
  refine Qab (.pointer (some ⟨gr, 0, none⟩)) 20 rfl kj kj ?_
  refine Qab (.int .i64 ((bigN (Qai (s) 1) : Nat) : Int)) 21 rfl kj kj ?_
  refine Qab (.bool true) 22 rfl kj (Qax (u := .bool ((((bigN (Qai (s) 1) : Nat) : Int) == 1))) kj (congrArg Value.bool (beq_iff_eq.2 (by omega)))) ?_
  refine Qab (.bool true) 23 rfl kj kj ?_
  refine Qao 24 rfl kj ?_
  refine Qao 25 rfl kj ?_
  refine Qao 26 rfl kj ?_
  refine Qao 27 rfl kj ?_
  refine Qao 28 rfl kj ?_
  refine Qao 29 rfl kj ?_
  refine Qab (.bool true) 30 rfl kj kj ?_
  have rs14 := (RSt.put (RSt.ext rs11 hB e8) hB p9 (Nat.lt_of_lt_of_le hgr b12))
  refine Qak (fun v W' => ExtB gr W9 W' ∧ RSt B gr (Qa4 (itR (Qad (Qad (Qad (Qad (Qad (Qad (s) 1) 1) 32) 32) 32) 1) (bigN (Qai (Qad (Qad (Qad (Qad (Qad (s) 1) 1) 32) 32) 32) 1))) true) W' ∧ (fun (v : Value) (_ : World) => v = .tuple #[]) v W') 103 #[.pointer (some ⟨gr, 0, none⟩), .bool true] 31 rfl kj kj (QcN B gr _ true _ hB rs14) fun vv15 W10 hh15 => ?_
  obtain ⟨q10, rs15, hv15⟩ := hh15
  have x10 : ExtB gr w W10 := ExtB.tr x9 q10
  subst hv15
  refine Qaf ?_
  refine hK13 _ _ ?_
  refine wp_seq_k fun K16 hK16 => ?_
  refine Qae ?_
  refine Qab (.pointer (some ⟨gr, 0, none⟩)) 32 rfl kj kj ?_
  refine Qab (.pointer (some ⟨g12, 98, none⟩)) 33 rfl kj kj ?_
  have r12_10 := (ExtB.row q10 r12_9 (Ne.symm (Nat.ne_of_lt (Nat.lt_of_lt_of_le hgr b12))))
  refine Qab (.slice ax xs.length cx) 34 rfl kj (Qag 41 _ g12 98 43 _ (.slice ax xs.length cx) _ r12_10 rfl kj (Qah [#[.bool true], #[.int .i64 ((bigN (Qai (Qad (s) 1) 1) : Nat) : Int)], ints .u8 (keyV (Qai (Qad (Qad (s) 1) 1) 32)), ints .u8 (keyV (Qai (Qad (Qad (Qad (s) 1) 1) 32) 32)), ints .u8 (keyV (Qai (Qad (Qad (Qad (Qad (s) 1) 1) 32) 32) 32))] [#[.slice ax xs.length cx]] [] 98 (by rw [Qaa, Qaa, Qaa, Qaa, Qaa]; simp only [Array.size_append, cat, ((Qac _ _).trans (Qap _ (Qal (Qad (Qad (s) 1) 1) 32))), ((Qac _ _).trans (Qap _ (Qal (Qad (Qad (Qad (s) 1) 1) 32) 32))), ((Qac _ _).trans (Qap _ (Qal (Qad (Qad (Qad (Qad (s) 1) 1) 32) 32) 32)))]; rfl) 0 _ rfl) kj) ?_
  have f17_8 := (hox.ext e8)
  have f18_9 := (f17_8.puts p9 (Qdl hox l12))
  have f19_10 := (Qbw f18_9 q10 (Qbp f18_9 (Nat.lt_of_lt_of_le hgr x6.2.2.2.1)))
  refine Qa1 (.bool (risV xs)) 121 #[.slice ax xs.length cx] 35 rfl kj kj (Qd0 xs _ _ _ _ (by omega) (OwnN.rd f19_10)) fun W11 e11 => ?_
  have x11 : ExtB gr w W11 := ExtB.ext x10 e11
  have rs20 := (RSt.ext rs15 hB e11)
  refine Qak (fun v W' => ExtB gr W11 W' ∧ RSt B gr (Qa4 (Qa4 (itR (Qad (Qad (Qad (Qad (Qad (Qad (s) 1) 1) 32) 32) 32) 1) (bigN (Qai (Qad (Qad (Qad (Qad (Qad (s) 1) 1) 32) 32) 32) 1))) true) (risV xs)) W' ∧ (fun (v : Value) (_ : World) => v = .tuple #[]) v W') 103 #[.pointer (some ⟨gr, 0, none⟩), .bool (risV xs)] 36 rfl kj kj (QcN B gr _ (risV xs) _ hB rs20) fun vv21 W12 hh21 => ?_
  obtain ⟨q12, rs21, hv21⟩ := hh21
  have x12 : ExtB gr w W12 := ExtB.tr x11 q12
  subst hv21
  refine Qaf ?_
  refine hK16 _ _ ?_
  refine wp_seq_k fun K22 hK22 => ?_
  refine Qae ?_
  have r12_11 := (Qar r12_10 e11)
  have r12_12 := (ExtB.row q12 r12_11 (Ne.symm (Nat.ne_of_lt (Nat.lt_of_lt_of_le hgr b12))))
  refine Qab (.agg (cat [#[.bool true], #[.int .i64 ((bigN (Qai (Qad (s) 1) 1) : Nat) : Int)], ints .u8 (keyV (Qai (Qad (Qad (s) 1) 1) 32)), ints .u8 (keyV (Qai (Qad (Qad (Qad (s) 1) 1) 32) 32)), ints .u8 (keyV (Qai (Qad (Qad (Qad (Qad (s) 1) 1) 32) 32) 32)), #[.slice ax xs.length cx]])) 37 rfl kj (QaA 43 _ g12 43 _ _ r12_12 rfl kj kj (isz (n := 99) kj (by rw [Qaa, Qaa, Qaa, Qaa, Qaa, Qaa]; simp only [Array.size_append, cat, ((Qac _ _).trans (Qap _ (Qal (Qad (Qad (s) 1) 1) 32))), ((Qac _ _).trans (Qap _ (Qal (Qad (Qad (Qad (s) 1) 1) 32) 32))), ((Qac _ _).trans (Qap _ (Qal (Qad (Qad (Qad (Qad (s) 1) 1) 32) 32) 32)))]; rfl))) ?_
  have r2_2 := (ExtB.row q2 r2_1 (Ne.symm (Nat.ne_of_lt (Nat.lt_of_lt_of_le hgr b2))))
  have r2_3 := (ExtB.row q3 r2_2 (Ne.symm (Nat.ne_of_lt (Nat.lt_of_lt_of_le hgr b2))))
  have r2_4 := (ExtB.row q4 r2_3 (Ne.symm (Nat.ne_of_lt (Nat.lt_of_lt_of_le hgr b2))))
  have r2_5 := (ExtB.row q5 r2_4 (Ne.symm (Nat.ne_of_lt (Nat.lt_of_lt_of_le hgr b2))))
  have r2_6 := (ExtB.row q6 r2_5 (Ne.symm (Nat.ne_of_lt (Nat.lt_of_lt_of_le hgr b2))))
  have r2_7 := (ExtB.row q7 r2_6 (Ne.symm (Nat.ne_of_lt (Nat.lt_of_lt_of_le hgr b2))))
  have r2_8 := (Qar r2_7 e8)
  have r2_9 := (Puts.row p9 r2_8 (QaI r2_7 l12))
  have r2_10 := (ExtB.row q10 r2_9 (Ne.symm (Nat.ne_of_lt (Nat.lt_of_lt_of_le hgr b2))))
  have r2_11 := (Qar r2_10 e11)
  have r2_12 := (ExtB.row q12 r2_11 (Ne.symm (Nat.ne_of_lt (Nat.lt_of_lt_of_le hgr b2))))
  refine Qa3 g2 _ (cat [#[.bool true], #[.int .i64 ((bigN (Qai (Qad (s) 1) 1) : Nat) : Int)], ints .u8 (keyV (Qai (Qad (Qad (s) 1) 1) 32)), ints .u8 (keyV (Qai (Qad (Qad (Qad (s) 1) 1) 32) 32)), ints .u8 (keyV (Qai (Qad (Qad (Qad (Qad (s) 1) 1) 32) 32) 32)), #[.slice ax xs.length cx]]) 43 r2_12 rfl kj (Qa0 43 _ _ g2 43 _ _ r2_12 rfl kj kj (isz (n := 99) kj (by rw [Qaa, Qaa, Qaa, Qaa, Qaa, Qaa]; simp only [Array.size_append, cat, ((Qac _ _).trans (Qap _ (Qal (Qad (Qad (s) 1) 1) 32))), ((Qac _ _).trans (Qap _ (Qal (Qad (Qad (Qad (s) 1) 1) 32) 32))), ((Qac _ _).trans (Qap _ (Qal (Qad (Qad (Qad (Qad (s) 1) 1) 32) 32) 32)))]; rfl)) (eqsz (n := 99) kj (by rw [Qaa, Qaa, Qaa, Qaa, Qaa, Qaa]; simp only [Array.size_append, cat, ((Qac _ _).trans (Qap _ (Qal (Qad (Qad (s) 1) 1) 32))), ((Qac _ _).trans (Qap _ (Qal (Qad (Qad (Qad (s) 1) 1) 32) 32))), ((Qac _ _).trans (Qap _ (Qal (Qad (Qad (Qad (Qad (s) 1) 1) 32) 32) 32)))]; rfl)) (QaX _ (by intro a ha; simp only [List.mem_cons, List.not_mem_nil, or_false] at ha; rcases ha with rfl | rfl | rfl | rfl | rfl | rfl; exact (Qaq _ rfl); exact (Qaq _ rfl); exact (Qas _ _); exact (Qas _ _); exact (Qas _ _); exact (Qaq _ rfl)))) fun W13 p13 r2_13 => ?_
  have x13 : ExtB gr w W13 := ExtB.putsN x12 p13 b2
  refine Qaf ?_
  refine hK22 _ _ ?_
  refine wp_ret ?_
  repeat (first | with_reducible refine goR1 ?_ | with_reducible refine goR2 ?_)
  have rs23 := (RSt.put rs21 hB p13 (Nat.lt_of_lt_of_le hgr b2))
  have f24_11 := (f19_10.ext e11)
  have f25_12 := (Qbw f24_11 q12 (Qbp f24_11 (Nat.lt_of_lt_of_le hgr x6.2.2.2.1)))
  have f26_13 := (f25_12.puts p13 (Qbp hox (Qay r2_6)))
  exact (show bodyPost _ _ _ .ret _ _ from ret1 (.agg (cat [#[.bool true], #[.int .i64 ((bigN (Qai (Qad (s) 1) 1) : Nat) : Int)], ints .u8 (keyV (Qai (Qad (Qad (s) 1) 1) 32)), ints .u8 (keyV (Qai (Qad (Qad (Qad (s) 1) 1) 32) 32)), ints .u8 (keyV (Qai (Qad (Qad (Qad (Qad (s) 1) 1) 32) 32) 32)), #[.slice ax xs.length cx]])) rfl (Qbk g2 43 _ r2_13 kj kj (isz (n := 99) kj (by rw [Qaa, Qaa, Qaa, Qaa, Qaa, Qaa]; simp only [Array.size_append, cat, ((Qac _ _).trans (Qap _ (Qal (Qad (Qad (s) 1) 1) 32))), ((Qac _ _).trans (Qap _ (Qal (Qad (Qad (Qad (s) 1) 1) 32) 32))), ((Qac _ _).trans (Qap _ (Qal (Qad (Qad (Qad (Qad (s) 1) 1) 32) 32) 32)))]; rfl))) ⟨_, xs, rfl, x13, rs23, ⟨ax, cx, rfl, OwnN.base x6.2.2.2.1 f26_13⟩, hlx, hxx⟩)
set_option maxHeartbeats 4000000 in
theorem QgZ (B gr : Nat) (s : Option (List Int)) (w : World) (hB : B ≤ gr) (h : RSt B gr s w) (hU : bigN (Qai s 1) = 0) : Calls Try.prog 102 #[.pointer (some ⟨gr, 0, none⟩)] w (fun e W => ∃ v xs, e = .returned v ∧ ExtB gr w W ∧ RSt B gr (Qa4 (Qa4 (nR6 s) (QaE false (nNm s) (nKy s) (nSg s) (nPa s) xs)) (risV xs)) W ∧ (∃ (a : Option Addr) (c : Nat), v = .agg (cat [#[.bool false], #[.int .i64 (nNm s)], ints .u8 (nKy s), ints .u8 (nSg s), ints .u8 (nPa s), #[.slice a xs.length c]]) ∧ OwnN .i64 3 w.heap.size xs (.slice a xs.length c) W) ∧ xs.length ≤ 255 ∧ (nR6 s ≠ none → xs = nL s)) := by
  have hgr := h.lt
  refine enter 38 [(0, .pointer (some ⟨gr, 0, none⟩))] Try.func102 rfl rfl kj rfl ?_
  refine wp_seq_k fun K1 hK1 => ?_
  refine Qae ?_
  refine Qav (cat [#[.bool false], #[.int .i64 0], (Array.replicate 32 (.int .u8 0)), (Array.replicate 32 (.int .u8 0)), (Array.replicate 32 (.int .u8 0)), #[.slice none 0 0]]) 43 2 rfl kj kj fun g2 W1 l2 e1 r2_1 => ?_
  have x1 : ExtB gr w W1 := ExtB.ext (ExtB.refl gr w) e1
  have b2 : w.heap.size ≤ g2 := Nat.le_trans (ExtB.refl gr w).size l2
  refine Qaf ?_
  refine hK1 _ _ ?_
  refine wp_seq_k fun K3 hK3 => ?_
  refine Qae ?_
  refine Qab (.pointer (some ⟨gr, 0, none⟩)) 5 rfl kj kj ?_
  have rs4 := (RSt.ext h hB e1)
  refine Qak (fun v W' => ExtB gr W1 W' ∧ RSt B gr (Qad (s) 1) W' ∧ (fun (v : Value) (_ : World) => v = .int .i64 ((bigN (Qai (s) 1) : Nat) : Int)) v W') 110 #[.pointer (some ⟨gr, 0, none⟩), .int .i64 1] 6 rfl kj kj (Qbg B gr _ 1 _ hB rs4 (by decide)) fun vv5 W2 hh5 => ?_
  obtain ⟨q2, rs5, hv5⟩ := hh5
  have x2 : ExtB gr w W2 := ExtB.tr x1 q2
  subst hv5
  refine Qab (.int .i64 ((bigN (Qai (s) 1) : Nat) : Int)) 3 rfl kj kj ?_
  refine Qaf ?_
  refine hK3 _ _ ?_
  refine wp_seq_k fun K6 hK6 => ?_
  refine Qae ?_
  refine Qab (.int .i64 ((bigN (Qai (s) 1) : Nat) : Int)) 7 rfl kj kj ?_
  refine Qab (.bool false) 8 rfl kj (Qax (u := .bool ((((bigN (Qai (s) 1) : Nat) : Int) == 1))) kj (congrArg Value.bool (beq_eq_false_iff_ne.2 (by omega)))) ?_
  refine Qab (.pointer (some ⟨gr, 0, none⟩)) 9 rfl kj kj ?_
  refine Qak (fun v W' => ExtB gr W2 W' ∧ RSt B gr (Qad (Qad (s) 1) 1) W' ∧ (fun (v : Value) (_ : World) => v = .int .i64 ((bigN (Qai (Qad (s) 1) 1) : Nat) : Int)) v W') 110 #[.pointer (some ⟨gr, 0, none⟩), .int .i64 1] 10 rfl kj kj (Qbg B gr _ 1 _ hB rs5 (by decide)) fun vv7 W3 hh7 => ?_
  obtain ⟨q3, rs7, hv7⟩ := hh7
  have x3 : ExtB gr w W3 := ExtB.tr x2 q3
  subst hv7
  refine Qab (.pointer (some ⟨gr, 0, none⟩)) 11 rfl kj kj ?_
  refine Qak (fun v W' => ExtB gr W3 W' ∧ RSt B gr (Qad (Qad (Qad (s) 1) 1) 32) W' ∧ (fun (v : Value) (_ : World) => v = .agg (ints .u8 (keyV (Qai (Qad (Qad (s) 1) 1) 32)))) v W') 109 #[.pointer (some ⟨gr, 0, none⟩)] 12 rfl kj kj (Qcg B gr _ _ hB rs7) fun vv8 W4 hh8 => ?_
  obtain ⟨q4, rs8, hv8⟩ := hh8
  have x4 : ExtB gr w W4 := ExtB.tr x3 q4
  subst hv8
  refine Qab (.pointer (some ⟨gr, 0, none⟩)) 13 rfl kj kj ?_
  refine Qak (fun v W' => ExtB gr W4 W' ∧ RSt B gr (Qad (Qad (Qad (Qad (s) 1) 1) 32) 32) W' ∧ (fun (v : Value) (_ : World) => v = .agg (ints .u8 (keyV (Qai (Qad (Qad (Qad (s) 1) 1) 32) 32)))) v W') 109 #[.pointer (some ⟨gr, 0, none⟩)] 14 rfl kj kj (Qcg B gr _ _ hB rs8) fun vv9 W5 hh9 => ?_
  obtain ⟨q5, rs9, hv9⟩ := hh9
  have x5 : ExtB gr w W5 := ExtB.tr x4 q5
  subst hv9
  refine Qab (.pointer (some ⟨gr, 0, none⟩)) 15 rfl kj kj ?_
  refine Qak (fun v W' => ExtB gr W5 W' ∧ RSt B gr (Qad (Qad (Qad (Qad (Qad (s) 1) 1) 32) 32) 32) W' ∧ (fun (v : Value) (_ : World) => v = .agg (ints .u8 (keyV (Qai (Qad (Qad (Qad (Qad (s) 1) 1) 32) 32) 32)))) v W') 109 #[.pointer (some ⟨gr, 0, none⟩)] 16 rfl kj kj (Qcg B gr _ _ hB rs9) fun vv10 W6 hh10 => ?_
  obtain ⟨q6, rs10, hv10⟩ := hh10
  have x6 : ExtB gr w W6 := ExtB.tr x5 q6
  subst hv10
  refine Qab (.pointer (some ⟨gr, 0, none⟩)) 17 rfl kj kj ?_
  refine Qak (fun v W' => ExtB gr W6 W' ∧ RSt B gr (itR (Qad (Qad (Qad (Qad (Qad (Qad (s) 1) 1) 32) 32) 32) 1) (bigN (Qai (Qad (Qad (Qad (Qad (Qad (s) 1) 1) 32) 32) 32) 1))) W' ∧ (fun (v : Value) (W : World) => ∃ xs, OwnN .i64 3 W6.heap.size xs v W ∧ xs.length ≤ 255 ∧ (itR (Qad (Qad (Qad (Qad (Qad (Qad (s) 1) 1) 32) 32) 32) 1) (bigN (Qai (Qad (Qad (Qad (Qad (Qad (s) 1) 1) 32) 32) 32) 1)) ≠ none → xs = itL (Qad (Qad (Qad (Qad (Qad (Qad (s) 1) 1) 32) 32) 32) 1) (bigN (Qai (Qad (Qad (Qad (Qad (Qad (s) 1) 1) 32) 32) 32) 1)))) v W') 123 #[.pointer (some ⟨gr, 0, none⟩), .func (.func 111) #[] #[]] 18 rfl kj kj (QcG B gr _ _ hB rs10) fun vv11 W7 hh11 => ?_
  obtain ⟨q7, rs11, hv11⟩ := hh11
  have x7 : ExtB gr w W7 := ExtB.tr x6 q7
  obtain ⟨xs, hox, hlx, hxx⟩ := hv11
  obtain ⟨ax, cx, rfl, -⟩ := id (OwnN.rd hox)
  refine Qab (.agg (cat [#[.bool false], #[.int .i64 ((bigN (Qai (Qad (s) 1) 1) : Nat) : Int)], ints .u8 (keyV (Qai (Qad (Qad (s) 1) 1) 32)), ints .u8 (keyV (Qai (Qad (Qad (Qad (s) 1) 1) 32) 32)), ints .u8 (keyV (Qai (Qad (Qad (Qad (Qad (s) 1) 1) 32) 32) 32)), #[.slice ax xs.length cx]])) 19 rfl kj (Qcr 43 _ (.agg (cat [#[.bool false], #[.int .i64 0], (Array.replicate 32 (.int .u8 0)), (Array.replicate 32 (.int .u8 0)), (Array.replicate 32 (.int .u8 0)), #[.slice none 0 0]])) #[(0, 1), (1, 1), (2, 32), (34, 32), (66, 32), (98, 1)] [(0, 1, .bool false, #[.bool false]), (1, 1, .int .i64 ((bigN (Qai (Qad (s) 1) 1) : Nat) : Int), #[.int .i64 ((bigN (Qai (Qad (s) 1) 1) : Nat) : Int)]), (2, 32, .agg (ints .u8 (keyV (Qai (Qad (Qad (s) 1) 1) 32))), ints .u8 (keyV (Qai (Qad (Qad (s) 1) 1) 32))), (3, 32, .agg (ints .u8 (keyV (Qai (Qad (Qad (Qad (s) 1) 1) 32) 32))), ints .u8 (keyV (Qai (Qad (Qad (Qad (s) 1) 1) 32) 32))), (4, 32, .agg (ints .u8 (keyV (Qai (Qad (Qad (Qad (Qad (s) 1) 1) 32) 32) 32))), ints .u8 (keyV (Qai (Qad (Qad (Qad (Qad (s) 1) 1) 32) 32) 32))), (5, 1, .slice ax xs.length cx, #[.slice ax xs.length cx])] rfl kj ⟨kj, rfl, kj, kj, rfl, kj, kj, rfl, ((Qac _ _).trans (Qap _ (Qal (Qad (Qad (s) 1) 1) 32))), kj, rfl, ((Qac _ _).trans (Qap _ (Qal (Qad (Qad (Qad (s) 1) 1) 32) 32))), kj, rfl, ((Qac _ _).trans (Qap _ (Qal (Qad (Qad (Qad (Qad (s) 1) 1) 32) 32) 32))), kj, rfl, kj, trivial⟩ kj kj kj kj) ?_
  refine Qav (cat [#[.bool false], #[.int .i64 0], (Array.replicate 32 (.int .u8 0)), (Array.replicate 32 (.int .u8 0)), (Array.replicate 32 (.int .u8 0)), #[.slice none 0 0]]) 43 4 rfl kj kj fun g12 W8 l12 e8 r12_8 => ?_
  have x8 : ExtB gr w W8 := ExtB.ext x7 e8
  have b12 : w.heap.size ≤ g12 := Nat.le_trans x7.size l12
  refine Qa3 g12 _ (cat [#[.bool false], #[.int .i64 ((bigN (Qai (Qad (s) 1) 1) : Nat) : Int)], ints .u8 (keyV (Qai (Qad (Qad (s) 1) 1) 32)), ints .u8 (keyV (Qai (Qad (Qad (Qad (s) 1) 1) 32) 32)), ints .u8 (keyV (Qai (Qad (Qad (Qad (Qad (s) 1) 1) 32) 32) 32)), #[.slice ax xs.length cx]]) 43 r12_8 rfl kj (Qa0 43 _ _ g12 43 _ _ r12_8 rfl kj kj (isz (n := 99) kj (by rw [Qaa, Qaa, Qaa, Qaa, Qaa, Qaa]; simp only [Array.size_append, cat, ((Qac _ _).trans (Qap _ (Qal (Qad (Qad (s) 1) 1) 32))), ((Qac _ _).trans (Qap _ (Qal (Qad (Qad (Qad (s) 1) 1) 32) 32))), ((Qac _ _).trans (Qap _ (Qal (Qad (Qad (Qad (Qad (s) 1) 1) 32) 32) 32)))]; rfl)) (eqsz (n := 99) kj (by rw [Qaa, Qaa, Qaa, Qaa, Qaa, Qaa]; simp only [Array.size_append, cat, ((Qac _ _).trans (Qap _ (Qal (Qad (Qad (s) 1) 1) 32))), ((Qac _ _).trans (Qap _ (Qal (Qad (Qad (Qad (s) 1) 1) 32) 32))), ((Qac _ _).trans (Qap _ (Qal (Qad (Qad (Qad (Qad (s) 1) 1) 32) 32) 32)))]; rfl)) (QaX _ (by intro a ha; simp only [List.mem_cons, List.not_mem_nil, or_false] at ha; rcases ha with rfl | rfl | rfl | rfl | rfl | rfl; exact (Qaq _ rfl); exact (Qaq _ rfl); exact (Qas _ _); exact (Qas _ _); exact (Qas _ _); exact (Qaq _ rfl)))) fun W9 p9 r12_9 => ?_
  have x9 : ExtB gr w W9 := ExtB.putsN x8 p9 b12
  refine Qaf ?_
  refine hK6 _ _ ?_
  refine wp_seq_k fun K13 hK13 => ?_
  refine Qae ?_
  refine Qab (.pointer (some ⟨gr, 0, none⟩)) 20 rfl kj kj ?_
  refine Qab (.int .i64 ((bigN (Qai (s) 1) : Nat) : Int)) 21 rfl kj kj ?_
  refine Qab (.bool false) 22 rfl kj (Qax (u := .bool ((((bigN (Qai (s) 1) : Nat) : Int) == 1))) kj (congrArg Value.bool (beq_eq_false_iff_ne.2 (by omega)))) ?_
  refine Qab (.bool false) 23 rfl kj kj ?_
  refine Qab (.int .i64 ((bigN (Qai (s) 1) : Nat) : Int)) 24 rfl kj kj ?_
  refine Qab (.bool true) 25 rfl kj (Qax (u := .bool ((((bigN (Qai (s) 1) : Nat) : Int) == 0))) kj (congrArg Value.bool (beq_iff_eq.2 (by omega)))) ?_
  refine Qab (.bool true) 26 rfl kj kj ?_
  refine Qab (.agg (cat [#[.bool false], #[.int .i64 ((bigN (Qai (Qad (s) 1) 1) : Nat) : Int)], ints .u8 (keyV (Qai (Qad (Qad (s) 1) 1) 32)), ints .u8 (keyV (Qai (Qad (Qad (Qad (s) 1) 1) 32) 32)), ints .u8 (keyV (Qai (Qad (Qad (Qad (Qad (s) 1) 1) 32) 32) 32)), #[.slice ax xs.length cx]])) 27 rfl kj (QaA 43 _ g12 43 _ _ r12_9 rfl kj kj (isz (n := 99) kj (by rw [Qaa, Qaa, Qaa, Qaa, Qaa, Qaa]; simp only [Array.size_append, cat, ((Qac _ _).trans (Qap _ (Qal (Qad (Qad (s) 1) 1) 32))), ((Qac _ _).trans (Qap _ (Qal (Qad (Qad (Qad (s) 1) 1) 32) 32))), ((Qac _ _).trans (Qap _ (Qal (Qad (Qad (Qad (Qad (s) 1) 1) 32) 32) 32)))]; rfl))) ?_
  refine Qa1 (.bool (QaE false ((bigN (Qai (Qad (s) 1) 1) : Nat) : Int) (keyV (Qai (Qad (Qad (s) 1) 1) 32)) (keyV (Qai (Qad (Qad (Qad (s) 1) 1) 32) 32)) (keyV (Qai (Qad (Qad (Qad (Qad (s) 1) 1) 32) 32) 32)) xs)) 107 #[.agg (cat [#[.bool false], #[.int .i64 ((bigN (Qai (Qad (s) 1) 1) : Nat) : Int)], ints .u8 (keyV (Qai (Qad (Qad (s) 1) 1) 32)), ints .u8 (keyV (Qai (Qad (Qad (Qad (s) 1) 1) 32) 32)), ints .u8 (keyV (Qai (Qad (Qad (Qad (Qad (s) 1) 1) 32) 32) 32)), #[.slice ax xs.length cx]])] 28 rfl kj kj (QeC false ((bigN (Qai (Qad (s) 1) 1) : Nat) : Int) (keyV (Qai (Qad (Qad (s) 1) 1) 32)) (keyV (Qai (Qad (Qad (Qad (s) 1) 1) 32) 32)) (keyV (Qai (Qad (Qad (Qad (Qad (s) 1) 1) 32) 32) 32)) xs _ _ _ (Qap _ (Qal (Qad (Qad (s) 1) 1) 32)) (Qap _ (Qal (Qad (Qad (Qad (s) 1) 1) 32) 32)) (Qap _ (Qal (Qad (Qad (Qad (Qad (s) 1) 1) 32) 32) 32))) fun W10 e10 => ?_
  have x10 : ExtB gr w W10 := ExtB.ext x9 e10
  refine Qab (.bool (QaE false ((bigN (Qai (Qad (s) 1) 1) : Nat) : Int) (keyV (Qai (Qad (Qad (s) 1) 1) 32)) (keyV (Qai (Qad (Qad (Qad (s) 1) 1) 32) 32)) (keyV (Qai (Qad (Qad (Qad (Qad (s) 1) 1) 32) 32) 32)) xs)) 29 rfl kj kj ?_
  refine Qab (.bool (QaE false ((bigN (Qai (Qad (s) 1) 1) : Nat) : Int) (keyV (Qai (Qad (Qad (s) 1) 1) 32)) (keyV (Qai (Qad (Qad (Qad (s) 1) 1) 32) 32)) (keyV (Qai (Qad (Qad (Qad (Qad (s) 1) 1) 32) 32) 32)) xs)) 30 rfl kj kj ?_
  have rs14 := (RSt.ext (RSt.put (RSt.ext rs11 hB e8) hB p9 (Nat.lt_of_lt_of_le hgr b12)) hB e10)
  refine Qak (fun v W' => ExtB gr W10 W' ∧ RSt B gr (Qa4 (itR (Qad (Qad (Qad (Qad (Qad (Qad (s) 1) 1) 32) 32) 32) 1) (bigN (Qai (Qad (Qad (Qad (Qad (Qad (s) 1) 1) 32) 32) 32) 1))) (QaE false ((bigN (Qai (Qad (s) 1) 1) : Nat) : Int) (keyV (Qai (Qad (Qad (s) 1) 1) 32)) (keyV (Qai (Qad (Qad (Qad (s) 1) 1) 32) 32)) (keyV (Qai (Qad (Qad (Qad (Qad (s) 1) 1) 32) 32) 32)) xs)) W' ∧ (fun (v : Value) (_ : World) => v = .tuple #[]) v W') 103 #[.pointer (some ⟨gr, 0, none⟩), .bool (QaE false ((bigN (Qai (Qad (s) 1) 1) : Nat) : Int) (keyV (Qai (Qad (Qad (s) 1) 1) 32)) (keyV (Qai (Qad (Qad (Qad (s) 1) 1) 32) 32)) (keyV (Qai (Qad (Qad (Qad (Qad (s) 1) 1) 32) 32) 32)) xs)] 31 rfl kj kj (QcN B gr _ (QaE false ((bigN (Qai (Qad (s) 1) 1) : Nat) : Int) (keyV (Qai (Qad (Qad (s) 1) 1) 32)) (keyV (Qai (Qad (Qad (Qad (s) 1) 1) 32) 32)) (keyV (Qai (Qad (Qad (Qad (Qad (s) 1) 1) 32) 32) 32)) xs) _ hB rs14) fun vv15 W11 hh15 => ?_
  obtain ⟨q11, rs15, hv15⟩ := hh15
  have x11 : ExtB gr w W11 := ExtB.tr x10 q11
  subst hv15
  refine Qaf ?_
  refine hK13 _ _ ?_
  refine wp_seq_k fun K16 hK16 => ?_
  refine Qae ?_
  refine Qab (.pointer (some ⟨gr, 0, none⟩)) 32 rfl kj kj ?_
  refine Qab (.pointer (some ⟨g12, 98, none⟩)) 33 rfl kj kj ?_
  have r12_10 := (Qar r12_9 e10)
  have r12_11 := (ExtB.row q11 r12_10 (Ne.symm (Nat.ne_of_lt (Nat.lt_of_lt_of_le hgr b12))))
  refine Qab (.slice ax xs.length cx) 34 rfl kj (Qag 41 _ g12 98 43 _ (.slice ax xs.length cx) _ r12_11 rfl kj (Qah [#[.bool false], #[.int .i64 ((bigN (Qai (Qad (s) 1) 1) : Nat) : Int)], ints .u8 (keyV (Qai (Qad (Qad (s) 1) 1) 32)), ints .u8 (keyV (Qai (Qad (Qad (Qad (s) 1) 1) 32) 32)), ints .u8 (keyV (Qai (Qad (Qad (Qad (Qad (s) 1) 1) 32) 32) 32))] [#[.slice ax xs.length cx]] [] 98 (by rw [Qaa, Qaa, Qaa, Qaa, Qaa]; simp only [Array.size_append, cat, ((Qac _ _).trans (Qap _ (Qal (Qad (Qad (s) 1) 1) 32))), ((Qac _ _).trans (Qap _ (Qal (Qad (Qad (Qad (s) 1) 1) 32) 32))), ((Qac _ _).trans (Qap _ (Qal (Qad (Qad (Qad (Qad (s) 1) 1) 32) 32) 32)))]; rfl) 0 _ rfl) kj) ?_
  have f17_8 := (hox.ext e8)
  have f18_9 := (f17_8.puts p9 (Qdl hox l12))
  have f19_10 := (f18_9.ext e10)
  have f20_11 := (Qbw f19_10 q11 (Qbp f19_10 (Nat.lt_of_lt_of_le hgr x6.2.2.2.1)))
  refine Qa1 (.bool (risV xs)) 121 #[.slice ax xs.length cx] 35 rfl kj kj (Qd0 xs _ _ _ _ (by omega) (OwnN.rd f20_11)) fun W12 e12 => ?_
  have x12 : ExtB gr w W12 := ExtB.ext x11 e12
  have rs21 := (RSt.ext rs15 hB e12)
  refine Qak (fun v W' => ExtB gr W12 W' ∧ RSt B gr (Qa4 (Qa4 (itR (Qad (Qad (Qad (Qad (Qad (Qad (s) 1) 1) 32) 32) 32) 1) (bigN (Qai (Qad (Qad (Qad (Qad (Qad (s) 1) 1) 32) 32) 32) 1))) (QaE false ((bigN (Qai (Qad (s) 1) 1) : Nat) : Int) (keyV (Qai (Qad (Qad (s) 1) 1) 32)) (keyV (Qai (Qad (Qad (Qad (s) 1) 1) 32) 32)) (keyV (Qai (Qad (Qad (Qad (Qad (s) 1) 1) 32) 32) 32)) xs)) (risV xs)) W' ∧ (fun (v : Value) (_ : World) => v = .tuple #[]) v W') 103 #[.pointer (some ⟨gr, 0, none⟩), .bool (risV xs)] 36 rfl kj kj (QcN B gr _ (risV xs) _ hB rs21) fun vv22 W13 hh22 => ?_
  obtain ⟨q13, rs22, hv22⟩ := hh22
  have x13 : ExtB gr w W13 := ExtB.tr x12 q13
  subst hv22
  refine Qaf ?_
  refine hK16 _ _ ?_
  refine wp_seq_k fun K23 hK23 => ?_
  refine Qae ?_
  have r12_12 := (Qar r12_11 e12)
  have r12_13 := (ExtB.row q13 r12_12 (Ne.symm (Nat.ne_of_lt (Nat.lt_of_lt_of_le hgr b12))))
  refine Qab (.agg (cat [#[.bool false], #[.int .i64 ((bigN (Qai (Qad (s) 1) 1) : Nat) : Int)], ints .u8 (keyV (Qai (Qad (Qad (s) 1) 1) 32)), ints .u8 (keyV (Qai (Qad (Qad (Qad (s) 1) 1) 32) 32)), ints .u8 (keyV (Qai (Qad (Qad (Qad (Qad (s) 1) 1) 32) 32) 32)), #[.slice ax xs.length cx]])) 37 rfl kj (QaA 43 _ g12 43 _ _ r12_13 rfl kj kj (isz (n := 99) kj (by rw [Qaa, Qaa, Qaa, Qaa, Qaa, Qaa]; simp only [Array.size_append, cat, ((Qac _ _).trans (Qap _ (Qal (Qad (Qad (s) 1) 1) 32))), ((Qac _ _).trans (Qap _ (Qal (Qad (Qad (Qad (s) 1) 1) 32) 32))), ((Qac _ _).trans (Qap _ (Qal (Qad (Qad (Qad (Qad (s) 1) 1) 32) 32) 32)))]; rfl))) ?_
  have r2_2 := (ExtB.row q2 r2_1 (Ne.symm (Nat.ne_of_lt (Nat.lt_of_lt_of_le hgr b2))))
  have r2_3 := (ExtB.row q3 r2_2 (Ne.symm (Nat.ne_of_lt (Nat.lt_of_lt_of_le hgr b2))))
  have r2_4 := (ExtB.row q4 r2_3 (Ne.symm (Nat.ne_of_lt (Nat.lt_of_lt_of_le hgr b2))))
  have r2_5 := (ExtB.row q5 r2_4 (Ne.symm (Nat.ne_of_lt (Nat.lt_of_lt_of_le hgr b2))))
  have r2_6 := (ExtB.row q6 r2_5 (Ne.symm (Nat.ne_of_lt (Nat.lt_of_lt_of_le hgr b2))))
  have r2_7 := (ExtB.row q7 r2_6 (Ne.symm (Nat.ne_of_lt (Nat.lt_of_lt_of_le hgr b2))))
  have r2_8 := (Qar r2_7 e8)
  have r2_9 := (Puts.row p9 r2_8 (QaI r2_7 l12))
  have r2_10 := (Qar r2_9 e10)
  have r2_11 := (ExtB.row q11 r2_10 (Ne.symm (Nat.ne_of_lt (Nat.lt_of_lt_of_le hgr b2))))
  have r2_12 := (Qar r2_11 e12)
  have r2_13 := (ExtB.row q13 r2_12 (Ne.symm (Nat.ne_of_lt (Nat.lt_of_lt_of_le hgr b2))))
  refine Qa3 g2 _ (cat [#[.bool false], #[.int .i64 ((bigN (Qai (Qad (s) 1) 1) : Nat) : Int)], ints .u8 (keyV (Qai (Qad (Qad (s) 1) 1) 32)), ints .u8 (keyV (Qai (Qad (Qad (Qad (s) 1) 1) 32) 32)), ints .u8 (keyV (Qai (Qad (Qad (Qad (Qad (s) 1) 1) 32) 32) 32)), #[.slice ax xs.length cx]]) 43 r2_13 rfl kj (Qa0 43 _ _ g2 43 _ _ r2_13 rfl kj kj (isz (n := 99) kj (by rw [Qaa, Qaa, Qaa, Qaa, Qaa, Qaa]; simp only [Array.size_append, cat, ((Qac _ _).trans (Qap _ (Qal (Qad (Qad (s) 1) 1) 32))), ((Qac _ _).trans (Qap _ (Qal (Qad (Qad (Qad (s) 1) 1) 32) 32))), ((Qac _ _).trans (Qap _ (Qal (Qad (Qad (Qad (Qad (s) 1) 1) 32) 32) 32)))]; rfl)) (eqsz (n := 99) kj (by rw [Qaa, Qaa, Qaa, Qaa, Qaa, Qaa]; simp only [Array.size_append, cat, ((Qac _ _).trans (Qap _ (Qal (Qad (Qad (s) 1) 1) 32))), ((Qac _ _).trans (Qap _ (Qal (Qad (Qad (Qad (s) 1) 1) 32) 32))), ((Qac _ _).trans (Qap _ (Qal (Qad (Qad (Qad (Qad (s) 1) 1) 32) 32) 32)))]; rfl)) (QaX _ (by intro a ha; simp only [List.mem_cons, List.not_mem_nil, or_false] at ha; rcases ha with rfl | rfl | rfl | rfl | rfl | rfl; exact (Qaq _ rfl); exact (Qaq _ rfl); exact (Qas _ _); exact (Qas _ _); exact (Qas _ _); exact (Qaq _ rfl)))) fun W14 p14 r2_14 => ?_
  have x14 : ExtB gr w W14 := ExtB.putsN x13 p14 b2
  refine Qaf ?_
  refine hK23 _ _ ?_
  refine wp_ret ?_
  repeat (first | with_reducible refine goR1 ?_ | with_reducible refine goR2 ?_)
  have rs24 := (RSt.put rs22 hB p14 (Nat.lt_of_lt_of_le hgr b2))
  have f25_12 := (f20_11.ext e12)
  have f26_13 := (Qbw f25_12 q13 (Qbp f25_12 (Nat.lt_of_lt_of_le hgr x6.2.2.2.1)))
  have f27_14 := (f26_13.puts p14 (Qbp hox (Qay r2_6)))
  exact (show bodyPost _ _ _ .ret _ _ from ret1 (.agg (cat [#[.bool false], #[.int .i64 ((bigN (Qai (Qad (s) 1) 1) : Nat) : Int)], ints .u8 (keyV (Qai (Qad (Qad (s) 1) 1) 32)), ints .u8 (keyV (Qai (Qad (Qad (Qad (s) 1) 1) 32) 32)), ints .u8 (keyV (Qai (Qad (Qad (Qad (Qad (s) 1) 1) 32) 32) 32)), #[.slice ax xs.length cx]])) rfl (Qbk g2 43 _ r2_14 kj kj (isz (n := 99) kj (by rw [Qaa, Qaa, Qaa, Qaa, Qaa, Qaa]; simp only [Array.size_append, cat, ((Qac _ _).trans (Qap _ (Qal (Qad (Qad (s) 1) 1) 32))), ((Qac _ _).trans (Qap _ (Qal (Qad (Qad (Qad (s) 1) 1) 32) 32))), ((Qac _ _).trans (Qap _ (Qal (Qad (Qad (Qad (Qad (s) 1) 1) 32) 32) 32)))]; rfl))) ⟨_, xs, rfl, x14, rs24, ⟨ax, cx, rfl, OwnN.base x6.2.2.2.1 f27_14⟩, hlx, hxx⟩)
set_option maxHeartbeats 4000000 in
theorem QgY (B gr : Nat) (s : Option (List Int)) (w : World) (hB : B ≤ gr) (h : RSt B gr s w) (hU : 1 < bigN (Qai s 1)) : Calls Try.prog 102 #[.pointer (some ⟨gr, 0, none⟩)] w (fun e W => ∃ v xs, e = .returned v ∧ ExtB gr w W ∧ RSt B gr (Qa4 (Qa4 (nR6 s) (false)) (risV xs)) W ∧ (∃ (a : Option Addr) (c : Nat), v = .agg (cat [#[.bool false], #[.int .i64 (nNm s)], ints .u8 (nKy s), ints .u8 (nSg s), ints .u8 (nPa s), #[.slice a xs.length c]]) ∧ OwnN .i64 3 w.heap.size xs (.slice a xs.length c) W) ∧ xs.length ≤ 255 ∧ (nR6 s ≠ none → xs = nL s)) := by
  have hgr := h.lt
  refine enter 38 [(0, .pointer (some ⟨gr, 0, none⟩))] Try.func102 rfl rfl kj rfl ?_
  refine wp_seq_k fun K1 hK1 => ?_
  refine Qae ?_
  refine Qav (cat [#[.bool false], #[.int .i64 0], (Array.replicate 32 (.int .u8 0)), (Array.replicate 32 (.int .u8 0)), (Array.replicate 32 (.int .u8 0)), #[.slice none 0 0]]) 43 2 rfl kj kj fun g2 W1 l2 e1 r2_1 => ?_
  have x1 : ExtB gr w W1 := ExtB.ext (ExtB.refl gr w) e1
  have b2 : w.heap.size ≤ g2 := Nat.le_trans (ExtB.refl gr w).size l2
  refine Qaf ?_
  refine hK1 _ _ ?_
  refine wp_seq_k fun K3 hK3 => ?_
  refine Qae ?_
  refine Qab (.pointer (some ⟨gr, 0, none⟩)) 5 rfl kj kj ?_
  have rs4 := (RSt.ext h hB e1)
  refine Qak (fun v W' => ExtB gr W1 W' ∧ RSt B gr (Qad (s) 1) W' ∧ (fun (v : Value) (_ : World) => v = .int .i64 ((bigN (Qai (s) 1) : Nat) : Int)) v W') 110 #[.pointer (some ⟨gr, 0, none⟩), .int .i64 1] 6 rfl kj kj (Qbg B gr _ 1 _ hB rs4 (by decide)) fun vv5 W2 hh5 => ?_
  obtain ⟨q2, rs5, hv5⟩ := hh5
  have x2 : ExtB gr w W2 := ExtB.tr x1 q2
  subst hv5
  refine Qab (.int .i64 ((bigN (Qai (s) 1) : Nat) : Int)) 3 rfl kj kj ?_
  refine Qaf ?_
  refine hK3 _ _ ?_
  refine wp_seq_k fun K6 hK6 => ?_
  refine Qae ?_
  refine Qab (.int .i64 ((bigN (Qai (s) 1) : Nat) : Int)) 7 rfl kj kj ?_
  refine Qab (.bool false) 8 rfl kj (Qax (u := .bool ((((bigN (Qai (s) 1) : Nat) : Int) == 1))) kj (congrArg Value.bool (beq_eq_false_iff_ne.2 (by omega)))) ?_
  refine Qab (.pointer (some ⟨gr, 0, none⟩)) 9 rfl kj kj ?_
  refine Qak (fun v W' => ExtB gr W2 W' ∧ RSt B gr (Qad (Qad (s) 1) 1) W' ∧ (fun (v : Value) (_ : World) => v = .int .i64 ((bigN (Qai (Qad (s) 1) 1) : Nat) : Int)) v W') 110 #[.pointer (some ⟨gr, 0, none⟩), .int .i64 1] 10 rfl kj kj (Qbg B gr _ 1 _ hB rs5 (by decide)) fun vv7 W3 hh7 => ?_
  obtain ⟨q3, rs7, hv7⟩ := hh7
  have x3 : ExtB gr w W3 := ExtB.tr x2 q3
  subst hv7
  refine Qab (.pointer (some ⟨gr, 0, none⟩)) 11 rfl kj kj ?_
  refine Qak (fun v W' => ExtB gr W3 W' ∧ RSt B gr (Qad (Qad (Qad (s) 1) 1) 32) W' ∧ (fun (v : Value) (_ : World) => v = .agg (ints .u8 (keyV (Qai (Qad (Qad (s) 1) 1) 32)))) v W') 109 #[.pointer (some ⟨gr, 0, none⟩)] 12 rfl kj kj (Qcg B gr _ _ hB rs7) fun vv8 W4 hh8 => ?_
  obtain ⟨q4, rs8, hv8⟩ := hh8
  have x4 : ExtB gr w W4 := ExtB.tr x3 q4
  subst hv8
  refine Qab (.pointer (some ⟨gr, 0, none⟩)) 13 rfl kj kj ?_
  refine Qak (fun v W' => ExtB gr W4 W' ∧ RSt B gr (Qad (Qad (Qad (Qad (s) 1) 1) 32) 32) W' ∧ (fun (v : Value) (_ : World) => v = .agg (ints .u8 (keyV (Qai (Qad (Qad (Qad (s) 1) 1) 32) 32)))) v W') 109 #[.pointer (some ⟨gr, 0, none⟩)] 14 rfl kj kj (Qcg B gr _ _ hB rs8) fun vv9 W5 hh9 => ?_
  obtain ⟨q5, rs9, hv9⟩ := hh9
  have x5 : ExtB gr w W5 := ExtB.tr x4 q5
  subst hv9
  refine Qab (.pointer (some ⟨gr, 0, none⟩)) 15 rfl kj kj ?_
  refine Qak (fun v W' => ExtB gr W5 W' ∧ RSt B gr (Qad (Qad (Qad (Qad (Qad (s) 1) 1) 32) 32) 32) W' ∧ (fun (v : Value) (_ : World) => v = .agg (ints .u8 (keyV (Qai (Qad (Qad (Qad (Qad (s) 1) 1) 32) 32) 32)))) v W') 109 #[.pointer (some ⟨gr, 0, none⟩)] 16 rfl kj kj (Qcg B gr _ _ hB rs9) fun vv10 W6 hh10 => ?_
  obtain ⟨q6, rs10, hv10⟩ := hh10
  have x6 : ExtB gr w W6 := ExtB.tr x5 q6
  subst hv10
  refine Qab (.pointer (some ⟨gr, 0, none⟩)) 17 rfl kj kj ?_
  refine Qak (fun v W' => ExtB gr W6 W' ∧ RSt B gr (itR (Qad (Qad (Qad (Qad (Qad (Qad (s) 1) 1) 32) 32) 32) 1) (bigN (Qai (Qad (Qad (Qad (Qad (Qad (s) 1) 1) 32) 32) 32) 1))) W' ∧ (fun (v : Value) (W : World) => ∃ xs, OwnN .i64 3 W6.heap.size xs v W ∧ xs.length ≤ 255 ∧ (itR (Qad (Qad (Qad (Qad (Qad (Qad (s) 1) 1) 32) 32) 32) 1) (bigN (Qai (Qad (Qad (Qad (Qad (Qad (s) 1) 1) 32) 32) 32) 1)) ≠ none → xs = itL (Qad (Qad (Qad (Qad (Qad (Qad (s) 1) 1) 32) 32) 32) 1) (bigN (Qai (Qad (Qad (Qad (Qad (Qad (s) 1) 1) 32) 32) 32) 1)))) v W') 123 #[.pointer (some ⟨gr, 0, none⟩), .func (.func 111) #[] #[]] 18 rfl kj kj (QcG B gr _ _ hB rs10) fun vv11 W7 hh11 => ?_
  obtain ⟨q7, rs11, hv11⟩ := hh11
  have x7 : ExtB gr w W7 := ExtB.tr x6 q7
  obtain ⟨xs, hox, hlx, hxx⟩ := hv11
  obtain ⟨ax, cx, rfl, -⟩ := id (OwnN.rd hox)
  refine Qab (.agg (cat [#[.bool false], #[.int .i64 ((bigN (Qai (Qad (s) 1) 1) : Nat) : Int)], ints .u8 (keyV (Qai (Qad (Qad (s) 1) 1) 32)), ints .u8 (keyV (Qai (Qad (Qad (Qad (s) 1) 1) 32) 32)), ints .u8 (keyV (Qai (Qad (Qad (Qad (Qad (s) 1) 1) 32) 32) 32)), #[.slice ax xs.length cx]])) 19 rfl kj (Qcr 43 _ (.agg (cat [#[.bool false], #[.int .i64 0], (Array.replicate 32 (.int .u8 0)), (Array.replicate 32 (.int .u8 0)), (Array.replicate 32 (.int .u8 0)), #[.slice none 0 0]])) #[(0, 1), (1, 1), (2, 32), (34, 32), (66, 32), (98, 1)] [(0, 1, .bool false, #[.bool false]), (1, 1, .int .i64 ((bigN (Qai (Qad (s) 1) 1) : Nat) : Int), #[.int .i64 ((bigN (Qai (Qad (s) 1) 1) : Nat) : Int)]), (2, 32, .agg (ints .u8 (keyV (Qai (Qad (Qad (s) 1) 1) 32))), ints .u8 (keyV (Qai (Qad (Qad (s) 1) 1) 32))), (3, 32, .agg (ints .u8 (keyV (Qai (Qad (Qad (Qad (s) 1) 1) 32) 32))), ints .u8 (keyV (Qai (Qad (Qad (Qad (s) 1) 1) 32) 32))), (4, 32, .agg (ints .u8 (keyV (Qai (Qad (Qad (Qad (Qad (s) 1) 1) 32) 32) 32))), ints .u8 (keyV (Qai (Qad (Qad (Qad (Qad (s) 1) 1) 32) 32) 32))), (5, 1, .slice ax xs.length cx, #[.slice ax xs.length cx])] rfl kj ⟨kj, rfl, kj, kj, rfl, kj, kj, rfl, ((Qac _ _).trans (Qap _ (Qal (Qad (Qad (s) 1) 1) 32))), kj, rfl, ((Qac _ _).trans (Qap _ (Qal (Qad (Qad (Qad (s) 1) 1) 32) 32))), kj, rfl, ((Qac _ _).trans (Qap _ (Qal (Qad (Qad (Qad (Qad (s) 1) 1) 32) 32) 32))), kj, rfl, kj, trivial⟩ kj kj kj kj) ?_
  refine Qav (cat [#[.bool false], #[.int .i64 0], (Array.replicate 32 (.int .u8 0)), (Array.replicate 32 (.int .u8 0)), (Array.replicate 32 (.int .u8 0)), #[.slice none 0 0]]) 43 4 rfl kj kj fun g12 W8 l12 e8 r12_8 => ?_
  have x8 : ExtB gr w W8 := ExtB.ext x7 e8
  have b12 : w.heap.size ≤ g12 := Nat.le_trans x7.size l12
  refine Qa3 g12 _ (cat [#[.bool false], #[.int .i64 ((bigN (Qai (Qad (s) 1) 1) : Nat) : Int)], ints .u8 (keyV (Qai (Qad (Qad (s) 1) 1) 32)), ints .u8 (keyV (Qai (Qad (Qad (Qad (s) 1) 1) 32) 32)), ints .u8 (keyV (Qai (Qad (Qad (Qad (Qad (s) 1) 1) 32) 32) 32)), #[.slice ax xs.length cx]]) 43 r12_8 rfl kj (Qa0 43 _ _ g12 43 _ _ r12_8 rfl kj kj (isz (n := 99) kj (by rw [Qaa, Qaa, Qaa, Qaa, Qaa, Qaa]; simp only [Array.size_append, cat, ((Qac _ _).trans (Qap _ (Qal (Qad (Qad (s) 1) 1) 32))), ((Qac _ _).trans (Qap _ (Qal (Qad (Qad (Qad (s) 1) 1) 32) 32))), ((Qac _ _).trans (Qap _ (Qal (Qad (Qad (Qad (Qad (s) 1) 1) 32) 32) 32)))]; rfl)) (eqsz (n := 99) kj (by rw [Qaa, Qaa, Qaa, Qaa, Qaa, Qaa]; simp only [Array.size_append, cat, ((Qac _ _).trans (Qap _ (Qal (Qad (Qad (s) 1) 1) 32))), ((Qac _ _).trans (Qap _ (Qal (Qad (Qad (Qad (s) 1) 1) 32) 32))), ((Qac _ _).trans (Qap _ (Qal (Qad (Qad (Qad (Qad (s) 1) 1) 32) 32) 32)))]; rfl)) (QaX _ (by intro a ha; simp only [List.mem_cons, List.not_mem_nil, or_false] at ha; rcases ha with rfl | rfl | rfl | rfl | rfl | rfl; exact (Qaq _ rfl); exact (Qaq _ rfl); exact (Qas _ _); exact (Qas _ _); exact (Qas _ _); exact (Qaq _ rfl)))) fun W9 p9 r12_9 => ?_
  have x9 : ExtB gr w W9 := ExtB.putsN x8 p9 b12
  refine Qaf ?_
  refine hK6 _ _ ?_
  refine wp_seq_k fun K13 hK13 => ?_
  refine Qae ?_
  refine Qab (.pointer (some ⟨gr, 0, none⟩)) 20 rfl kj kj ?_
  refine Qab (.int .i64 ((bigN (Qai (s) 1) : Nat) : Int)) 21 rfl kj kj ?_
  refine Qab (.bool false) 22 rfl kj (Qax (u := .bool ((((bigN (Qai (s) 1) : Nat) : Int) == 1))) kj (congrArg Value.bool (beq_eq_false_iff_ne.2 (by omega)))) ?_
  refine Qab (.bool false) 23 rfl kj kj ?_
  refine Qab (.int .i64 ((bigN (Qai (s) 1) : Nat) : Int)) 24 rfl kj kj ?_
  refine Qab (.bool false) 25 rfl kj (Qax (u := .bool ((((bigN (Qai (s) 1) : Nat) : Int) == 0))) kj (congrArg Value.bool (beq_eq_false_iff_ne.2 (by omega)))) ?_
  refine Qab (.bool false) 26 rfl kj kj ?_
  refine Qao 27 rfl kj ?_
  refine Qao 28 rfl kj ?_
  refine Qab (.bool false) 29 rfl kj kj ?_
  refine Qab (.bool false) 30 rfl kj kj ?_
  have rs14 := (RSt.put (RSt.ext rs11 hB e8) hB p9 (Nat.lt_of_lt_of_le hgr b12))
  refine Qak (fun v W' => ExtB gr W9 W' ∧ RSt B gr (Qa4 (itR (Qad (Qad (Qad (Qad (Qad (Qad (s) 1) 1) 32) 32) 32) 1) (bigN (Qai (Qad (Qad (Qad (Qad (Qad (s) 1) 1) 32) 32) 32) 1))) false) W' ∧ (fun (v : Value) (_ : World) => v = .tuple #[]) v W') 103 #[.pointer (some ⟨gr, 0, none⟩), .bool false] 31 rfl kj kj (QcN B gr _ false _ hB rs14) fun vv15 W10 hh15 => ?_
  obtain ⟨q10, rs15, hv15⟩ := hh15
  have x10 : ExtB gr w W10 := ExtB.tr x9 q10
  subst hv15
  refine Qaf ?_
  refine hK13 _ _ ?_
  refine wp_seq_k fun K16 hK16 => ?_
  refine Qae ?_
  refine Qab (.pointer (some ⟨gr, 0, none⟩)) 32 rfl kj kj ?_
  refine Qab (.pointer (some ⟨g12, 98, none⟩)) 33 rfl kj kj ?_
  have r12_10 := (ExtB.row q10 r12_9 (Ne.symm (Nat.ne_of_lt (Nat.lt_of_lt_of_le hgr b12))))
  refine Qab (.slice ax xs.length cx) 34 rfl kj (Qag 41 _ g12 98 43 _ (.slice ax xs.length cx) _ r12_10 rfl kj (Qah [#[.bool false], #[.int .i64 ((bigN (Qai (Qad (s) 1) 1) : Nat) : Int)], ints .u8 (keyV (Qai (Qad (Qad (s) 1) 1) 32)), ints .u8 (keyV (Qai (Qad (Qad (Qad (s) 1) 1) 32) 32)), ints .u8 (keyV (Qai (Qad (Qad (Qad (Qad (s) 1) 1) 32) 32) 32))] [#[.slice ax xs.length cx]] [] 98 (by rw [Qaa, Qaa, Qaa, Qaa, Qaa]; simp only [Array.size_append, cat, ((Qac _ _).trans (Qap _ (Qal (Qad (Qad (s) 1) 1) 32))), ((Qac _ _).trans (Qap _ (Qal (Qad (Qad (Qad (s) 1) 1) 32) 32))), ((Qac _ _).trans (Qap _ (Qal (Qad (Qad (Qad (Qad (s) 1) 1) 32) 32) 32)))]; rfl) 0 _ rfl) kj) ?_
  have f17_8 := (hox.ext e8)
  have f18_9 := (f17_8.puts p9 (Qdl hox l12))
  have f19_10 := (Qbw f18_9 q10 (Qbp f18_9 (Nat.lt_of_lt_of_le hgr x6.2.2.2.1)))
  refine Qa1 (.bool (risV xs)) 121 #[.slice ax xs.length cx] 35 rfl kj kj (Qd0 xs _ _ _ _ (by omega) (OwnN.rd f19_10)) fun W11 e11 => ?_
  have x11 : ExtB gr w W11 := ExtB.ext x10 e11
  have rs20 := (RSt.ext rs15 hB e11)
  refine Qak (fun v W' => ExtB gr W11 W' ∧ RSt B gr (Qa4 (Qa4 (itR (Qad (Qad (Qad (Qad (Qad (Qad (s) 1) 1) 32) 32) 32) 1) (bigN (Qai (Qad (Qad (Qad (Qad (Qad (s) 1) 1) 32) 32) 32) 1))) false) (risV xs)) W' ∧ (fun (v : Value) (_ : World) => v = .tuple #[]) v W') 103 #[.pointer (some ⟨gr, 0, none⟩), .bool (risV xs)] 36 rfl kj kj (QcN B gr _ (risV xs) _ hB rs20) fun vv21 W12 hh21 => ?_
  obtain ⟨q12, rs21, hv21⟩ := hh21
  have x12 : ExtB gr w W12 := ExtB.tr x11 q12
  subst hv21
  refine Qaf ?_
  refine hK16 _ _ ?_
  refine wp_seq_k fun K22 hK22 => ?_
  refine Qae ?_
  have r12_11 := (Qar r12_10 e11)
  have r12_12 := (ExtB.row q12 r12_11 (Ne.symm (Nat.ne_of_lt (Nat.lt_of_lt_of_le hgr b12))))
  refine Qab (.agg (cat [#[.bool false], #[.int .i64 ((bigN (Qai (Qad (s) 1) 1) : Nat) : Int)], ints .u8 (keyV (Qai (Qad (Qad (s) 1) 1) 32)), ints .u8 (keyV (Qai (Qad (Qad (Qad (s) 1) 1) 32) 32)), ints .u8 (keyV (Qai (Qad (Qad (Qad (Qad (s) 1) 1) 32) 32) 32)), #[.slice ax xs.length cx]])) 37 rfl kj (QaA 43 _ g12 43 _ _ r12_12 rfl kj kj (isz (n := 99) kj (by rw [Qaa, Qaa, Qaa, Qaa, Qaa, Qaa]; simp only [Array.size_append, cat, ((Qac _ _).trans (Qap _ (Qal (Qad (Qad (s) 1) 1) 32))), ((Qac _ _).trans (Qap _ (Qal (Qad (Qad (Qad (s) 1) 1) 32) 32))), ((Qac _ _).trans (Qap _ (Qal (Qad (Qad (Qad (Qad (s) 1) 1) 32) 32) 32)))]; rfl))) ?_
  have r2_2 := (ExtB.row q2 r2_1 (Ne.symm (Nat.ne_of_lt (Nat.lt_of_lt_of_le hgr b2))))
  have r2_3 := (ExtB.row q3 r2_2 (Ne.symm (Nat.ne_of_lt (Nat.lt_of_lt_of_le hgr b2))))
  have r2_4 := (ExtB.row q4 r2_3 (Ne.symm (Nat.ne_of_lt (Nat.lt_of_lt_of_le hgr b2))))
  have r2_5 := (ExtB.row q5 r2_4 (Ne.symm (Nat.ne_of_lt (Nat.lt_of_lt_of_le hgr b2))))
  have r2_6 := (ExtB.row q6 r2_5 (Ne.symm (Nat.ne_of_lt (Nat.lt_of_lt_of_le hgr b2))))
  have r2_7 := (ExtB.row q7 r2_6 (Ne.symm (Nat.ne_of_lt (Nat.lt_of_lt_of_le hgr b2))))
  have r2_8 := (Qar r2_7 e8)
  have r2_9 := (Puts.row p9 r2_8 (QaI r2_7 l12))
  have r2_10 := (ExtB.row q10 r2_9 (Ne.symm (Nat.ne_of_lt (Nat.lt_of_lt_of_le hgr b2))))
  have r2_11 := (Qar r2_10 e11)
  have r2_12 := (ExtB.row q12 r2_11 (Ne.symm (Nat.ne_of_lt (Nat.lt_of_lt_of_le hgr b2))))
  refine Qa3 g2 _ (cat [#[.bool false], #[.int .i64 ((bigN (Qai (Qad (s) 1) 1) : Nat) : Int)], ints .u8 (keyV (Qai (Qad (Qad (s) 1) 1) 32)), ints .u8 (keyV (Qai (Qad (Qad (Qad (s) 1) 1) 32) 32)), ints .u8 (keyV (Qai (Qad (Qad (Qad (Qad (s) 1) 1) 32) 32) 32)), #[.slice ax xs.length cx]]) 43 r2_12 rfl kj (Qa0 43 _ _ g2 43 _ _ r2_12 rfl kj kj (isz (n := 99) kj (by rw [Qaa, Qaa, Qaa, Qaa, Qaa, Qaa]; simp only [Array.size_append, cat, ((Qac _ _).trans (Qap _ (Qal (Qad (Qad (s) 1) 1) 32))), ((Qac _ _).trans (Qap _ (Qal (Qad (Qad (Qad (s) 1) 1) 32) 32))), ((Qac _ _).trans (Qap _ (Qal (Qad (Qad (Qad (Qad (s) 1) 1) 32) 32) 32)))]; rfl)) (eqsz (n := 99) kj (by rw [Qaa, Qaa, Qaa, Qaa, Qaa, Qaa]; simp only [Array.size_append, cat, ((Qac _ _).trans (Qap _ (Qal (Qad (Qad (s) 1) 1) 32))), ((Qac _ _).trans (Qap _ (Qal (Qad (Qad (Qad (s) 1) 1) 32) 32))), ((Qac _ _).trans (Qap _ (Qal (Qad (Qad (Qad (Qad (s) 1) 1) 32) 32) 32)))]; rfl)) (QaX _ (by intro a ha; simp only [List.mem_cons, List.not_mem_nil, or_false] at ha; rcases ha with rfl | rfl | rfl | rfl | rfl | rfl; exact (Qaq _ rfl); exact (Qaq _ rfl); exact (Qas _ _); exact (Qas _ _); exact (Qas _ _); exact (Qaq _ rfl)))) fun W13 p13 r2_13 => ?_
  have x13 : ExtB gr w W13 := ExtB.putsN x12 p13 b2
  refine Qaf ?_
  refine hK22 _ _ ?_
  refine wp_ret ?_
  repeat (first | with_reducible refine goR1 ?_ | with_reducible refine goR2 ?_)
  have rs23 := (RSt.put rs21 hB p13 (Nat.lt_of_lt_of_le hgr b2))
  have f24_11 := (f19_10.ext e11)
  have f25_12 := (Qbw f24_11 q12 (Qbp f24_11 (Nat.lt_of_lt_of_le hgr x6.2.2.2.1)))
  have f26_13 := (f25_12.puts p13 (Qbp hox (Qay r2_6)))
  exact (show bodyPost _ _ _ .ret _ _ from ret1 (.agg (cat [#[.bool false], #[.int .i64 ((bigN (Qai (Qad (s) 1) 1) : Nat) : Int)], ints .u8 (keyV (Qai (Qad (Qad (s) 1) 1) 32)), ints .u8 (keyV (Qai (Qad (Qad (Qad (s) 1) 1) 32) 32)), ints .u8 (keyV (Qai (Qad (Qad (Qad (Qad (s) 1) 1) 32) 32) 32)), #[.slice ax xs.length cx]])) rfl (Qbk g2 43 _ r2_13 kj kj (isz (n := 99) kj (by rw [Qaa, Qaa, Qaa, Qaa, Qaa, Qaa]; simp only [Array.size_append, cat, ((Qac _ _).trans (Qap _ (Qal (Qad (Qad (s) 1) 1) 32))), ((Qac _ _).trans (Qap _ (Qal (Qad (Qad (Qad (s) 1) 1) 32) 32))), ((Qac _ _).trans (Qap _ (Qal (Qad (Qad (Qad (Qad (s) 1) 1) 32) 32) 32)))]; rfl))) ⟨_, xs, rfl, x13, rs23, ⟨ax, cx, rfl, OwnN.base x6.2.2.2.1 f26_13⟩, hlx, hxx⟩)
end Go.Proofs.Ytfelfmchachljaa.Wr
end
section
namespace Go.Proofs.Ytfelfmchachljaa.Wr
open Go Go.RowKit
open Rely Auto Own Sha
set_option linter.unusedVariables false
set_option linter.unusedSimpArgs false
def Qcq (s : Option (List Int)) (ms : List Int) : Option (List Int) := ms.foldl QaQ (numS s ((ms.length : Nat) : Int) 1)
theorem Qdc (n : Int) : QaQ none n = none := by rw [QcB]; cases inB n 31 <;> rfl
theorem Qb6 : ∀ ms : List Int, ms.foldl QaQ none = none
  | [] => rfl
  | m :: r => by rw [List.foldl_cons, Qdc]; exact Qb6 r
theorem Qfy (ms : List Int) (i : Nat) (h : i < ms.length) : ms.drop i = nth ms i :: ms.drop (i + 1) := by
  rw [List.drop_eq_getElem_cons h]
  congr 1
  unfold nth
  rw [List.getD_eq_getElem?_getD, List.getElem?_eq_getElem h]
  rfl
theorem QcE {k : IntKind} {base gw : Nat} {w W : World} {ys : List Int} {v : Value} (h : RdK k base ys v w) (q : GW base gw w W) (hb : base ≤ gw) : RdK k base ys v W := h.keep q.size fun g hg hl => q.block g hl (by omega) (.inl hg)
set_option maxHeartbeats 4000000 in
theorem QdI (base gw : Nat) (s : Option (List Int)) (ms : List Int) (a_m : Option Addr) (c_m : Nat) (w : World) (hbw : base ≤ w.heap.size) (hbg : base ≤ gw) (h : WSt base gw s w) (hml : ms.length ≤ 1000000) (hm : RdK .i64 base ms (.slice a_m ms.length c_m) w) : Calls Try.prog 122 #[.pointer (some ⟨gw, 0, none⟩), .slice a_m ms.length c_m, .func (.func 106) #[] #[]] w (fun e W => e = .returned (.tuple #[]) ∧ GW base gw w W ∧ WSt base gw (Qcq s ms) W) := by
 have hgw := h.lt
 refine enter 27 [(0, .pointer (some ⟨gw, 0, none⟩)), (1, .slice a_m ms.length c_m), (2, .func (.func 106) #[] #[])] Try.func122 rfl rfl kj rfl ?_
 refine wp_seq_k fun K1 hK1 => ?_
 refine Qae ?_
 refine Qab (.pointer (some ⟨gw, 0, none⟩)) 8 rfl kj kj ?_
 refine Qab (.slice a_m ms.length c_m) 9 rfl kj kj ?_
 refine Qab (.int .i64 ((ms.length : Nat) : Int)) 10 rfl kj kj ?_
 refine Qak (fun v W' => v = .tuple #[] ∧ GW base gw w W' ∧ WSt base gw (numS s ((ms.length : Nat) : Int) 1) W') 105 #[.pointer (some ⟨gw, 0, none⟩), .int .i64 ((ms.length : Nat) : Int), .int .i64 1] 11 rfl kj kj ((Qbn base gw s ((ms.length : Nat) : Int) 1 _ (Nat.le_trans hbw (GW.refl base gw w).size) h (by decide)).mono (by rintro e w' ⟨rfl, h1, h2⟩; exact ⟨_, rfl, rfl, h1, h2⟩)) fun v2 W1 h2 => ?_
 obtain ⟨rfl, q1, ws2⟩ := h2
 have x1 : GW base gw w W1 := GW.trans (GW.refl base gw w) q1
 refine Qaf ?_
 refine hK1 _ _ ?_
 refine wp_seq_k fun K3 hK3 => ?_
 refine Qae ?_
 refine Qab (.slice a_m ms.length c_m) 12 rfl kj kj ?_
 refine Qab (.int .i64 ((ms.length : Nat) : Int)) 13 rfl kj kj ?_
 refine Qab (.int .i64 0) 14 rfl kj kj ?_
 refine Qaf ?_
 refine hK3 _ _ ?_
 refine wp_block ?_
 refine QaP (fun (s1 : Nat × Option (List Int)) => [(0, .pointer (some ⟨gw, 0, none⟩)), (2, .func (.func 106) #[] #[]), (12, .slice a_m ms.length c_m), (13, .int .i64 ((ms.length : Nat) : Int)), (14, .int .i64 ((s1.1 : Nat) : Int))]) (fun (s1 : Nat × Option (List Int)) W => (s1.1 ≤ ms.length) ∧ (WSt base gw s1.2 W) ∧ ((ms.drop s1.1).foldl QaQ s1.2 = Qcq s ms) ∧ (GW base gw w W)) (fun (s1 : Nat × Option (List Int)) => ms.length - s1.1) (0, numS s ((ms.length : Nat) : Int) 1) ⟨rfl, rfl, rfl, rfl, rfl, trivial⟩ ⟨(Nat.zero_le _), ws2, rfl, x1⟩ fun s1 X1 V1 hI1 => ?_
 obtain ⟨i, sc⟩ := s1
 obtain ⟨hi, hws, hnum, xx1⟩ := hI1
 replace hi : i ≤ ms.length := hi
 replace hws : WSt base gw sc V1 := hws
 replace hnum : (ms.drop i).foldl QaQ sc = Qcq s ms := hnum
 replace xx1 : GW base gw w V1 := xx1
 refine wp_seq_k fun K4 hK4 => ?_
 refine Qae ?_
 refine Qab (.bool (decide (((i : Nat) : Int) < ((ms.length : Nat) : Int)))) 15 rfl kj kj ?_
 refine Qaf ?_
 refine hK4 _ _ ?_
 refine wp_seq_k fun K5 hK5 => ?_
 refine Qa5 (t := decide (((i : Nat) : Int) < ((ms.length : Nat) : Int))) kj (fun c6 => ?_) (fun c6 => ?_)
 ·skip
  have hlt15 : i < ms.length := by have := of_decide_eq_true c6; omega
  have hnm_7 : (ms).length = ms.length := rfl
  obtain ⟨gcm_7, ocm_7, ham_7, hlm_7, hcm_7⟩ := Qcy (RdK.here (QcE hm xx1 hbg)) (by rw [hnm_7]; omega)
  obtain ⟨u8, xs8, bad, rb8, -, -, -, hsc⟩ := id hws
  refine wp_skip ?_
  refine hK5 _ _ ?_
  refine wp_seq_k fun K10 hK10 => ?_
  refine wp_block ?_
  refine wp_seq_k fun K11 hK11 => ?_
  refine Qae ?_
  refine Qab (.pointer (some ⟨gcm_7, ocm_7 + i, none⟩)) 16 rfl kj (QaT 41 _ _ .i64 i gcm_7 ocm_7 ms.length c_m 3 a_m _ ham_7 rfl rfl kj kj kj kj (Nat.lt_of_lt_of_eq (show i < ms.length by omega) hnm_7.symm)) ?_
  refine Qab (.int .i64 (nth (ms) (i))) 17 rfl kj (QaH 3 _ _ (.int .i64 (nth (ms) (i))) (hcm_7 i (Nat.lt_of_lt_of_eq (show i < ms.length by omega) hnm_7.symm)) rfl kj kj) ?_
  refine Qab (.int .i64 (nth (ms) (i))) 7 rfl kj kj ?_
  refine Qaf ?_
  refine hK11 _ _ ?_
  refine wp_seq_k fun K12 hK12 => ?_
  refine wp_seq_k fun K13 hK13 => ?_
  refine Qae ?_
  refine Qab (.pointer (some ⟨gw, 0, none⟩)) 18 rfl kj kj ?_
  refine Qab (.pointer (some ⟨gw, 0, none⟩)) 19 rfl kj kj ?_
  refine Qab (.pointer (some ⟨gw, 1, none⟩)) 20 rfl kj kj ?_
  refine Qab (.bool bad) 21 rfl kj (Qag 4 _ gw 1 174 _ (.bool bad) _ rb8 rfl kj kj kj) ?_
  refine Qaf ?_
  refine hK13 _ _ ?_
  refine Qa5 (t := bad) kj (fun c14 => ?_) (fun c14 => ?_)
  ·skip
   have hbad : bad = true := c14
   have h9 : sc = none := by rw [hsc, hbad]; rfl
   have h8 : Qcq s ms = none := by rw [← hnum, h9]; exact Qb6 _
   refine wp_ret ?_
   repeat (first | with_reducible refine goR1 ?_ | with_reducible refine goR2 ?_)
   exact (show bodyPost _ _ _ .ret _ _ from ret0 rfl ⟨rfl, xx1, by rw [h8]; rw [h9] at hws; exact hws⟩)
  ·skip
   refine wp_skip ?_
   refine hK12 _ _ ?_
   refine Qae ?_
   refine Qab (.func (.func 106) #[] #[]) 22 rfl kj kj ?_
   refine Qab (.pointer (some ⟨gw, 0, none⟩)) 23 rfl kj kj ?_
   refine Qab (.int .i64 (nth (ms) (i))) 24 rfl kj kj ?_
   refine Qak (fun v W' => v = .tuple #[] ∧ GW base gw V1 W' ∧ WSt base gw (QaQ sc (nth ms i)) W') 106 #[.pointer (some ⟨gw, 0, none⟩), .int .i64 (nth (ms) (i))] 25 rfl kj kj ((Qen base gw sc (nth ms i) _ (Nat.le_trans hbw xx1.size) hws).mono (by rintro e w' ⟨rfl, h1, h2⟩; exact ⟨_, rfl, rfl, h1, h2⟩)) fun v15 W3 h15 => ?_
   obtain ⟨rfl, q3, ws15⟩ := h15
   have x3 : GW base gw w W3 := GW.trans xx1 q3
   refine Qaf ?_
   refine hK10 _ _ ?_
   refine Qae ?_
   refine Qab (.int .i64 ((i + 1 : Nat) : Int)) 26 rfl kj (Qax (u := .int .i64 (IntKind.i64.wrap (((i : Nat) : Int) + 1))) kj (congrArg (Value.int .i64) (i64n _ _ (by omega) (by omega)))) ?_
   refine Qab (.int .i64 ((i + 1 : Nat) : Int)) 14 rfl kj kj ?_
   refine Qaf ?_
   repeat (first | with_reducible refine goX1 ?_ | with_reducible refine goX2 ?_ | with_reducible refine goX3 ?_)
   exact QaK ((i + 1), QaQ sc (nth ms i)) ⟨rfl, rfl, rfl, rfl, rfl, trivial⟩ ⟨(by omega), ws15, (by rw [← hnum, Qfy ms i hlt15]; rfl), x3⟩ (by omega)
 ·skip
  have heq15 : i = ms.length := by have := of_decide_eq_false c6; omega
  refine wp_exit ?_
  repeat (first | with_reducible refine goX1 ?_ | with_reducible refine goX2 ?_ | with_reducible refine goX3 ?_)
  exact (show bodyPost _ _ _ .normal _ _ from end0 rfl ⟨rfl, xx1, by have h9 : sc = Qcq s ms := (by have h7 := hnum; rw [heq15, List.drop_length] at h7; exact h7); rw [h9] at hws; exact hws⟩)
end Go.Proofs.Ytfelfmchachljaa.Wr
end
section
namespace Go.Proofs.Ytfelfmchachljaa.Wr
open Go Go.RowKit
open Rely Auto Own Sha
set_option linter.unusedVariables false
set_option linter.unusedSimpArgs false
def Qcs (s : Option (List Int)) (us : Bool) (nm : Int) (key sg pa ms : List Int) : Option (List Int) :=
  Qcq (Qa4 (rawS (rawS (rawS (numS (bif us then numS s 1 1 else numS (Qa4 s (QaE us nm key sg pa ms)) 0 1) nm 1) key) sg) pa) (risV ms)) ms
set_option maxHeartbeats 4000000 in
theorem QfB (base gw : Nat) (s : Option (List Int)) (nm : Int) (key sg pa ms : List Int) (a_m : Option Addr) (c_m : Nat) (w : World) (hbw : base ≤ w.heap.size) (hbg : base ≤ gw) (h : WSt base gw s w) (hkl : key.length = 32) (hgl : sg.length = 32) (hpl : pa.length = 32) (hkb : Qaj key) (hgb : Qaj sg) (hpb : Qaj pa) (hml : ms.length ≤ 1000000) (hm : RdK .i64 base ms (.slice a_m ms.length c_m) w) : Calls Try.prog 95 #[.pointer (some ⟨gw, 0, none⟩), .agg (cat [#[.bool true], #[.int .i64 nm], ints .u8 (key), ints .u8 (sg), ints .u8 (pa), #[.slice a_m ms.length c_m]])] w (fun e W => e = .returned (.tuple #[]) ∧ GW base gw w W ∧ WSt base gw (Qcs s true nm key sg pa ms) W) := by
  have hgw := h.lt
  refine enter 39 [(0, .pointer (some ⟨gw, 0, none⟩)), (1, .agg (cat [#[.bool true], #[.int .i64 nm], ints .u8 (key), ints .u8 (sg), ints .u8 (pa), #[.slice a_m ms.length c_m]]))] Try.func95 rfl rfl kj rfl ?_
  refine wp_seq_k fun K1 hK1 => ?_
  refine Qae ?_
  refine Qav (cat [#[.bool true], #[.int .i64 nm], ints .u8 (key), ints .u8 (sg), ints .u8 (pa), #[.slice a_m ms.length c_m]]) 43 3 rfl kj kj fun g2 W1 l2 e1 r2_1 => ?_
  have x1 : GW base gw w W1 := GW.ext (GW.refl base gw w) e1
  have ws3 := WSt.ext h e1
  have b2 : w.heap.size ≤ g2 := Nat.le_trans (GW.refl base gw w).size l2
  refine Qaf ?_
  refine hK1 _ _ ?_
  refine wp_seq_k fun K4 hK4 => ?_
  refine wp_seq_k fun K5 hK5 => ?_
  refine Qae ?_
  refine Qab (.pointer (some ⟨g2, 0, none⟩)) 4 rfl kj kj ?_
  refine Qab (.bool true) 5 rfl kj (Qag 4 _ g2 0 43 _ (.bool true) _ r2_1 rfl kj (Qah [] [#[.bool true]] [#[.int .i64 nm], ints .u8 (key), ints .u8 (sg), ints .u8 (pa), #[.slice a_m ms.length c_m]] 0 kj 0 _ rfl) kj) ?_
  refine Qaf ?_
  refine hK5 _ _ ?_
  refine cond_true kj ?_
  refine Qae ?_
  refine Qab (.pointer (some ⟨gw, 0, none⟩)) 6 rfl kj kj ?_
  refine Qak (fun v W' => v = .tuple #[] ∧ GW base gw W1 W' ∧ WSt base gw (numS (s) 1 1) W') 105 #[.pointer (some ⟨gw, 0, none⟩), .int .i64 1, .int .i64 1] 7 rfl kj kj ((Qbn base gw _ 1 1 _ (Nat.le_trans hbw x1.size) ws3 (by decide)).mono (by rintro e w' ⟨rfl, h1, h2⟩; exact ⟨_, rfl, rfl, h1, h2⟩)) fun v6 W2 h6 => ?_
  obtain ⟨rfl, q2, ws6⟩ := h6
  have x2 : GW base gw w W2 := GW.trans x1 q2
  refine Qaf ?_
  refine hK4 _ _ ?_
  refine wp_seq_k fun K7 hK7 => ?_
  refine Qae ?_
  refine Qab (.pointer (some ⟨gw, 0, none⟩)) 14 rfl kj kj ?_
  refine Qab (.pointer (some ⟨g2, 1, none⟩)) 15 rfl kj kj ?_
  have r2_2 := (GW.row q2 r2_1 (by decide) (Ne.symm (Nat.ne_of_lt (Nat.lt_of_lt_of_le hgw b2))))
  refine Qab (.int .i64 nm) 16 rfl kj (Qag 3 _ g2 1 43 _ (.int .i64 nm) _ r2_2 rfl kj (Qah [#[.bool true]] [#[.int .i64 nm]] [ints .u8 (key), ints .u8 (sg), ints .u8 (pa), #[.slice a_m ms.length c_m]] 1 kj 0 _ rfl) kj) ?_
  refine Qak (fun v W' => v = .tuple #[] ∧ GW base gw W2 W' ∧ WSt base gw (numS (numS (s) 1 1) nm 1) W') 105 #[.pointer (some ⟨gw, 0, none⟩), .int .i64 nm, .int .i64 1] 17 rfl kj kj ((Qbn base gw _ nm 1 _ (Nat.le_trans hbw x2.size) ws6 (by decide)).mono (by rintro e w' ⟨rfl, h1, h2⟩; exact ⟨_, rfl, rfl, h1, h2⟩)) fun v8 W3 h8 => ?_
  obtain ⟨rfl, q3, ws8⟩ := h8
  have x3 : GW base gw w W3 := GW.trans x2 q3
  refine Qaf ?_
  refine hK7 _ _ ?_
  refine wp_seq_k fun K9 hK9 => ?_
  refine Qae ?_
  refine Qab (.pointer (some ⟨gw, 0, none⟩)) 18 rfl kj kj ?_
  refine Qab (.pointer (some ⟨g2, 2, none⟩)) 19 rfl kj kj ?_
  refine Qab (.slice (some ⟨g2, 2, none⟩) 32 32) 20 rfl kj kj ?_
  have r2_3 := (GW.row q3 r2_2 (by decide) (Ne.symm (Nat.ne_of_lt (Nat.lt_of_lt_of_le hgw b2))))
  refine Qak (fun v W' => v = .tuple #[] ∧ GW base gw W3 W' ∧ WSt base gw (rawS (numS (numS (s) 1 1) nm 1) key) W') 104 #[.pointer (some ⟨gw, 0, none⟩), .slice (some ⟨g2, 2, none⟩) 32 32] 21 rfl kj kj ((rawW base gw _ key _ _ (Nat.le_trans hbw x3.size) ws8 (by omega) hkb (fun W e => (QaB 2 hkl (ExtB.row e r2_3 (Ne.symm (Nat.ne_of_lt (Nat.lt_of_lt_of_le hgw b2)))) (fun i hi => Qa8 [#[.bool true], #[.int .i64 nm]] [ints .u8 (sg), ints .u8 (pa), #[.slice a_m ms.length c_m]] key 2 i (2 + i) kj rfl (by rw [hkl]; exact hi)) (Qay (ExtB.row e r2_3 (Ne.symm (Nat.ne_of_lt (Nat.lt_of_lt_of_le hgw b2))))) (Nat.le_refl _) (by decide)))).mono (by rintro e w' ⟨rfl, h1, h2⟩; exact ⟨_, rfl, rfl, h1, h2⟩)) fun v10 W4 h10 => ?_
  obtain ⟨rfl, q4, ws10⟩ := h10
  have x4 : GW base gw w W4 := GW.trans x3 q4
  refine Qaf ?_
  refine hK9 _ _ ?_
  refine wp_seq_k fun K11 hK11 => ?_
  refine Qae ?_
  refine Qab (.pointer (some ⟨gw, 0, none⟩)) 22 rfl kj kj ?_
  refine Qab (.pointer (some ⟨g2, 34, none⟩)) 23 rfl kj kj ?_
  refine Qab (.slice (some ⟨g2, 34, none⟩) 32 32) 24 rfl kj kj ?_
  have r2_4 := (GW.row q4 r2_3 (by decide) (Ne.symm (Nat.ne_of_lt (Nat.lt_of_lt_of_le hgw b2))))
  refine Qak (fun v W' => v = .tuple #[] ∧ GW base gw W4 W' ∧ WSt base gw (rawS (rawS (numS (numS (s) 1 1) nm 1) key) sg) W') 104 #[.pointer (some ⟨gw, 0, none⟩), .slice (some ⟨g2, 34, none⟩) 32 32] 25 rfl kj kj ((rawW base gw _ sg _ _ (Nat.le_trans hbw x4.size) ws10 (by omega) hgb (fun W e => (QaB 34 hgl (ExtB.row e r2_4 (Ne.symm (Nat.ne_of_lt (Nat.lt_of_lt_of_le hgw b2)))) (fun i hi => Qa8 [#[.bool true], #[.int .i64 nm], ints .u8 (key)] [ints .u8 (pa), #[.slice a_m ms.length c_m]] sg 34 i (34 + i) (by rw [Qaa, Qaa, Qaa]; simp only [Array.size_append, cat, ((Qac _ _).trans hkl)]; rfl) rfl (by rw [hgl]; exact hi)) (Qay (ExtB.row e r2_4 (Ne.symm (Nat.ne_of_lt (Nat.lt_of_lt_of_le hgw b2))))) (Nat.le_refl _) (by decide)))).mono (by rintro e w' ⟨rfl, h1, h2⟩; exact ⟨_, rfl, rfl, h1, h2⟩)) fun v12 W5 h12 => ?_
  obtain ⟨rfl, q5, ws12⟩ := h12
  have x5 : GW base gw w W5 := GW.trans x4 q5
  refine Qaf ?_
  refine hK11 _ _ ?_
  refine wp_seq_k fun K13 hK13 => ?_
  refine Qae ?_
  refine Qab (.pointer (some ⟨gw, 0, none⟩)) 26 rfl kj kj ?_
  refine Qab (.pointer (some ⟨g2, 66, none⟩)) 27 rfl kj kj ?_
  refine Qab (.slice (some ⟨g2, 66, none⟩) 32 32) 28 rfl kj kj ?_
  have r2_5 := (GW.row q5 r2_4 (by decide) (Ne.symm (Nat.ne_of_lt (Nat.lt_of_lt_of_le hgw b2))))
  refine Qak (fun v W' => v = .tuple #[] ∧ GW base gw W5 W' ∧ WSt base gw (rawS (rawS (rawS (numS (numS (s) 1 1) nm 1) key) sg) pa) W') 104 #[.pointer (some ⟨gw, 0, none⟩), .slice (some ⟨g2, 66, none⟩) 32 32] 29 rfl kj kj ((rawW base gw _ pa _ _ (Nat.le_trans hbw x5.size) ws12 (by omega) hpb (fun W e => (QaB 66 hpl (ExtB.row e r2_5 (Ne.symm (Nat.ne_of_lt (Nat.lt_of_lt_of_le hgw b2)))) (fun i hi => Qa8 [#[.bool true], #[.int .i64 nm], ints .u8 (key), ints .u8 (sg)] [#[.slice a_m ms.length c_m]] pa 66 i (66 + i) (by rw [Qaa, Qaa, Qaa, Qaa]; simp only [Array.size_append, cat, ((Qac _ _).trans hgl), ((Qac _ _).trans hkl)]; rfl) rfl (by rw [hpl]; exact hi)) (Qay (ExtB.row e r2_5 (Ne.symm (Nat.ne_of_lt (Nat.lt_of_lt_of_le hgw b2))))) (Nat.le_refl _) (by decide)))).mono (by rintro e w' ⟨rfl, h1, h2⟩; exact ⟨_, rfl, rfl, h1, h2⟩)) fun v14 W6 h14 => ?_
  obtain ⟨rfl, q6, ws14⟩ := h14
  have x6 : GW base gw w W6 := GW.trans x5 q6
  refine Qaf ?_
  refine hK13 _ _ ?_
  refine wp_seq_k fun K15 hK15 => ?_
  refine Qae ?_
  refine Qab (.pointer (some ⟨gw, 0, none⟩)) 30 rfl kj kj ?_
  refine Qab (.pointer (some ⟨g2, 98, none⟩)) 31 rfl kj kj ?_
  have r2_6 := (GW.row q6 r2_5 (by decide) (Ne.symm (Nat.ne_of_lt (Nat.lt_of_lt_of_le hgw b2))))
  refine Qab (.slice a_m ms.length c_m) 32 rfl kj (Qag 41 _ g2 98 43 _ (.slice a_m ms.length c_m) _ r2_6 rfl kj (Qah [#[.bool true], #[.int .i64 nm], ints .u8 (key), ints .u8 (sg), ints .u8 (pa)] [#[.slice a_m ms.length c_m]] [] 98 (by rw [Qaa, Qaa, Qaa, Qaa, Qaa]; simp only [Array.size_append, cat, ((Qac _ _).trans hgl), ((Qac _ _).trans hkl), ((Qac _ _).trans hpl)]; rfl) 0 _ rfl) kj) ?_
  refine Qa1 (.bool (risV ms)) 121 #[.slice a_m ms.length c_m] 33 rfl kj kj (Qd0 ms _ _ _ _ hml (QcE hm x6 hbg)) fun W7 e7 => ?_
  have x7 : GW base gw w W7 := GW.ext x6 e7
  have ws16 := WSt.ext ws14 e7
  refine Qak (fun v W' => v = .tuple #[] ∧ GW base gw W7 W' ∧ WSt base gw (Qa4 (rawS (rawS (rawS (numS (numS (s) 1 1) nm 1) key) sg) pa) (risV ms)) W') 98 #[.pointer (some ⟨gw, 0, none⟩), .bool (risV ms)] 34 rfl kj kj ((Qcj base gw _ (risV ms) _ ws16).mono (by rintro e w' ⟨rfl, h1, h2⟩; exact ⟨_, rfl, rfl, h1, h2⟩)) fun v17 W8 h17 => ?_
  obtain ⟨rfl, q8, ws17⟩ := h17
  have x8 : GW base gw w W8 := GW.trans x7 q8
  refine Qaf ?_
  refine hK15 _ _ ?_
  refine Qae ?_
  refine Qab (.pointer (some ⟨gw, 0, none⟩)) 35 rfl kj kj ?_
  refine Qab (.pointer (some ⟨g2, 98, none⟩)) 36 rfl kj kj ?_
  have r2_7 := (Qar r2_6 e7)
  have r2_8 := (GW.row q8 r2_7 (by decide) (Ne.symm (Nat.ne_of_lt (Nat.lt_of_lt_of_le hgw b2))))
  refine Qab (.slice a_m ms.length c_m) 37 rfl kj (Qag 41 _ g2 98 43 _ (.slice a_m ms.length c_m) _ r2_8 rfl kj (Qah [#[.bool true], #[.int .i64 nm], ints .u8 (key), ints .u8 (sg), ints .u8 (pa)] [#[.slice a_m ms.length c_m]] [] 98 (by rw [Qaa, Qaa, Qaa, Qaa, Qaa]; simp only [Array.size_append, cat, ((Qac _ _).trans hgl), ((Qac _ _).trans hkl), ((Qac _ _).trans hpl)]; rfl) 0 _ rfl) kj) ?_
  refine Qak (fun v W' => v = .tuple #[] ∧ GW base gw W8 W' ∧ WSt base gw (Qcq (Qa4 (rawS (rawS (rawS (numS (numS (s) 1 1) nm 1) key) sg) pa) (risV ms)) ms) W') 122 #[.pointer (some ⟨gw, 0, none⟩), .slice a_m ms.length c_m, .func (.func 106) #[] #[]] 38 rfl kj kj ((QdI base gw _ ms _ _ _ (Nat.le_trans hbw x8.size) hbg ws17 hml (QcE hm x8 hbg)).mono (by rintro e w' ⟨rfl, h1, h2⟩; exact ⟨_, rfl, rfl, h1, h2⟩)) fun v18 W9 h18 => ?_
  obtain ⟨rfl, q9, ws18⟩ := h18
  have x9 : GW base gw w W9 := GW.trans x8 q9
  refine Qaf ?_
  repeat (first | with_reducible refine goX1 ?_ | with_reducible refine goX2 ?_ | with_reducible refine goX3 ?_)
  exact (show bodyPost _ _ _ .normal _ _ from end0 rfl ⟨rfl, x9, ws18⟩)
set_option maxHeartbeats 4000000 in
theorem QeZ (base gw : Nat) (s : Option (List Int)) (nm : Int) (key sg pa ms : List Int) (a_m : Option Addr) (c_m : Nat) (w : World) (hbw : base ≤ w.heap.size) (hbg : base ≤ gw) (h : WSt base gw s w) (hkl : key.length = 32) (hgl : sg.length = 32) (hpl : pa.length = 32) (hkb : Qaj key) (hgb : Qaj sg) (hpb : Qaj pa) (hml : ms.length ≤ 1000000) (hm : RdK .i64 base ms (.slice a_m ms.length c_m) w) : Calls Try.prog 95 #[.pointer (some ⟨gw, 0, none⟩), .agg (cat [#[.bool false], #[.int .i64 nm], ints .u8 (key), ints .u8 (sg), ints .u8 (pa), #[.slice a_m ms.length c_m]])] w (fun e W => e = .returned (.tuple #[]) ∧ GW base gw w W ∧ WSt base gw (Qcs s false nm key sg pa ms) W) := by
  have hgw := h.lt
  refine enter 39 [(0, .pointer (some ⟨gw, 0, none⟩)), (1, .agg (cat [#[.bool false], #[.int .i64 nm], ints .u8 (key), ints .u8 (sg), ints .u8 (pa), #[.slice a_m ms.length c_m]]))] Try.func95 rfl rfl kj rfl ?_
  refine wp_seq_k fun K1 hK1 => ?_
  refine Qae ?_
  refine Qav (cat [#[.bool false], #[.int .i64 nm], ints .u8 (key), ints .u8 (sg), ints .u8 (pa), #[.slice a_m ms.length c_m]]) 43 3 rfl kj kj fun g2 W1 l2 e1 r2_1 => ?_
  have x1 : GW base gw w W1 := GW.ext (GW.refl base gw w) e1
  have ws3 := WSt.ext h e1
  have b2 : w.heap.size ≤ g2 := Nat.le_trans (GW.refl base gw w).size l2
  refine Qaf ?_
  refine hK1 _ _ ?_
  refine wp_seq_k fun K4 hK4 => ?_
  refine wp_seq_k fun K5 hK5 => ?_
  refine Qae ?_
  refine Qab (.pointer (some ⟨g2, 0, none⟩)) 4 rfl kj kj ?_
  refine Qab (.bool false) 5 rfl kj (Qag 4 _ g2 0 43 _ (.bool false) _ r2_1 rfl kj (Qah [] [#[.bool false]] [#[.int .i64 nm], ints .u8 (key), ints .u8 (sg), ints .u8 (pa), #[.slice a_m ms.length c_m]] 0 kj 0 _ rfl) kj) ?_
  refine Qaf ?_
  refine hK5 _ _ ?_
  refine cond_false kj ?_
  refine wp_seq_k fun K6 hK6 => ?_
  refine Qae ?_
  refine Qab (.pointer (some ⟨gw, 0, none⟩)) 8 rfl kj kj ?_
  refine Qab (.agg (cat [#[.bool false], #[.int .i64 nm], ints .u8 (key), ints .u8 (sg), ints .u8 (pa), #[.slice a_m ms.length c_m]])) 9 rfl kj (QaA 43 _ g2 43 _ _ r2_1 rfl kj kj (isz (n := 99) kj (by rw [Qaa, Qaa, Qaa, Qaa, Qaa, Qaa]; simp only [Array.size_append, cat, ((Qac _ _).trans hgl), ((Qac _ _).trans hkl), ((Qac _ _).trans hpl)]; rfl))) ?_
  refine Qa1 (.bool (QaE false nm key sg pa ms)) 107 #[.agg (cat [#[.bool false], #[.int .i64 nm], ints .u8 (key), ints .u8 (sg), ints .u8 (pa), #[.slice a_m ms.length c_m]])] 10 rfl kj kj (QeC false nm key sg pa ms _ _ _ hkl hgl hpl) fun W2 e2 => ?_
  have x2 : GW base gw w W2 := GW.ext x1 e2
  have ws7 := WSt.ext ws3 e2
  refine Qak (fun v W' => v = .tuple #[] ∧ GW base gw W2 W' ∧ WSt base gw (Qa4 (s) (QaE false nm key sg pa ms)) W') 98 #[.pointer (some ⟨gw, 0, none⟩), .bool (QaE false nm key sg pa ms)] 11 rfl kj kj ((Qcj base gw _ (QaE false nm key sg pa ms) _ ws7).mono (by rintro e w' ⟨rfl, h1, h2⟩; exact ⟨_, rfl, rfl, h1, h2⟩)) fun v8 W3 h8 => ?_
  obtain ⟨rfl, q3, ws8⟩ := h8
  have x3 : GW base gw w W3 := GW.trans x2 q3
  refine Qaf ?_
  refine hK6 _ _ ?_
  refine Qae ?_
  refine Qab (.pointer (some ⟨gw, 0, none⟩)) 12 rfl kj kj ?_
  refine Qak (fun v W' => v = .tuple #[] ∧ GW base gw W3 W' ∧ WSt base gw (numS (Qa4 (s) (QaE false nm key sg pa ms)) 0 1) W') 105 #[.pointer (some ⟨gw, 0, none⟩), .int .i64 0, .int .i64 1] 13 rfl kj kj ((Qbn base gw _ 0 1 _ (Nat.le_trans hbw x3.size) ws8 (by decide)).mono (by rintro e w' ⟨rfl, h1, h2⟩; exact ⟨_, rfl, rfl, h1, h2⟩)) fun v9 W4 h9 => ?_
  obtain ⟨rfl, q4, ws9⟩ := h9
  have x4 : GW base gw w W4 := GW.trans x3 q4
  refine Qaf ?_
  refine hK4 _ _ ?_
  refine wp_seq_k fun K10 hK10 => ?_
  refine Qae ?_
  refine Qab (.pointer (some ⟨gw, 0, none⟩)) 14 rfl kj kj ?_
  refine Qab (.pointer (some ⟨g2, 1, none⟩)) 15 rfl kj kj ?_
  have r2_2 := (Qar r2_1 e2)
  have r2_3 := (GW.row q3 r2_2 (by decide) (Ne.symm (Nat.ne_of_lt (Nat.lt_of_lt_of_le hgw b2))))
  have r2_4 := (GW.row q4 r2_3 (by decide) (Ne.symm (Nat.ne_of_lt (Nat.lt_of_lt_of_le hgw b2))))
  refine Qab (.int .i64 nm) 16 rfl kj (Qag 3 _ g2 1 43 _ (.int .i64 nm) _ r2_4 rfl kj (Qah [#[.bool false]] [#[.int .i64 nm]] [ints .u8 (key), ints .u8 (sg), ints .u8 (pa), #[.slice a_m ms.length c_m]] 1 kj 0 _ rfl) kj) ?_
  refine Qak (fun v W' => v = .tuple #[] ∧ GW base gw W4 W' ∧ WSt base gw (numS (numS (Qa4 (s) (QaE false nm key sg pa ms)) 0 1) nm 1) W') 105 #[.pointer (some ⟨gw, 0, none⟩), .int .i64 nm, .int .i64 1] 17 rfl kj kj ((Qbn base gw _ nm 1 _ (Nat.le_trans hbw x4.size) ws9 (by decide)).mono (by rintro e w' ⟨rfl, h1, h2⟩; exact ⟨_, rfl, rfl, h1, h2⟩)) fun v11 W5 h11 => ?_
  obtain ⟨rfl, q5, ws11⟩ := h11
  have x5 : GW base gw w W5 := GW.trans x4 q5
  refine Qaf ?_
  refine hK10 _ _ ?_
  refine wp_seq_k fun K12 hK12 => ?_
  refine Qae ?_
  refine Qab (.pointer (some ⟨gw, 0, none⟩)) 18 rfl kj kj ?_
  refine Qab (.pointer (some ⟨g2, 2, none⟩)) 19 rfl kj kj ?_
  refine Qab (.slice (some ⟨g2, 2, none⟩) 32 32) 20 rfl kj kj ?_
  have r2_5 := (GW.row q5 r2_4 (by decide) (Ne.symm (Nat.ne_of_lt (Nat.lt_of_lt_of_le hgw b2))))
  refine Qak (fun v W' => v = .tuple #[] ∧ GW base gw W5 W' ∧ WSt base gw (rawS (numS (numS (Qa4 (s) (QaE false nm key sg pa ms)) 0 1) nm 1) key) W') 104 #[.pointer (some ⟨gw, 0, none⟩), .slice (some ⟨g2, 2, none⟩) 32 32] 21 rfl kj kj ((rawW base gw _ key _ _ (Nat.le_trans hbw x5.size) ws11 (by omega) hkb (fun W e => (QaB 2 hkl (ExtB.row e r2_5 (Ne.symm (Nat.ne_of_lt (Nat.lt_of_lt_of_le hgw b2)))) (fun i hi => Qa8 [#[.bool false], #[.int .i64 nm]] [ints .u8 (sg), ints .u8 (pa), #[.slice a_m ms.length c_m]] key 2 i (2 + i) kj rfl (by rw [hkl]; exact hi)) (Qay (ExtB.row e r2_5 (Ne.symm (Nat.ne_of_lt (Nat.lt_of_lt_of_le hgw b2))))) (Nat.le_refl _) (by decide)))).mono (by rintro e w' ⟨rfl, h1, h2⟩; exact ⟨_, rfl, rfl, h1, h2⟩)) fun v13 W6 h13 => ?_
  obtain ⟨rfl, q6, ws13⟩ := h13
  have x6 : GW base gw w W6 := GW.trans x5 q6
  refine Qaf ?_
  refine hK12 _ _ ?_
  refine wp_seq_k fun K14 hK14 => ?_
  refine Qae ?_
  refine Qab (.pointer (some ⟨gw, 0, none⟩)) 22 rfl kj kj ?_
  refine Qab (.pointer (some ⟨g2, 34, none⟩)) 23 rfl kj kj ?_
  refine Qab (.slice (some ⟨g2, 34, none⟩) 32 32) 24 rfl kj kj ?_
  have r2_6 := (GW.row q6 r2_5 (by decide) (Ne.symm (Nat.ne_of_lt (Nat.lt_of_lt_of_le hgw b2))))
  refine Qak (fun v W' => v = .tuple #[] ∧ GW base gw W6 W' ∧ WSt base gw (rawS (rawS (numS (numS (Qa4 (s) (QaE false nm key sg pa ms)) 0 1) nm 1) key) sg) W') 104 #[.pointer (some ⟨gw, 0, none⟩), .slice (some ⟨g2, 34, none⟩) 32 32] 25 rfl kj kj ((rawW base gw _ sg _ _ (Nat.le_trans hbw x6.size) ws13 (by omega) hgb (fun W e => (QaB 34 hgl (ExtB.row e r2_6 (Ne.symm (Nat.ne_of_lt (Nat.lt_of_lt_of_le hgw b2)))) (fun i hi => Qa8 [#[.bool false], #[.int .i64 nm], ints .u8 (key)] [ints .u8 (pa), #[.slice a_m ms.length c_m]] sg 34 i (34 + i) (by rw [Qaa, Qaa, Qaa]; simp only [Array.size_append, cat, ((Qac _ _).trans hkl)]; rfl) rfl (by rw [hgl]; exact hi)) (Qay (ExtB.row e r2_6 (Ne.symm (Nat.ne_of_lt (Nat.lt_of_lt_of_le hgw b2))))) (Nat.le_refl _) (by decide)))).mono (by rintro e w' ⟨rfl, h1, h2⟩; exact ⟨_, rfl, rfl, h1, h2⟩)) fun v15 W7 h15 => ?_
  obtain ⟨rfl, q7, ws15⟩ := h15
  have x7 : GW base gw w W7 := GW.trans x6 q7
  refine Qaf ?_
  refine hK14 _ _ ?_
  refine wp_seq_k fun K16 hK16 => ?_
  refine Qae ?_
  refine Qab (.pointer (some ⟨gw, 0, none⟩)) 26 rfl kj kj ?_
  refine Qab (.pointer (some ⟨g2, 66, none⟩)) 27 rfl kj kj ?_
  refine Qab (.slice (some ⟨g2, 66, none⟩) 32 32) 28 rfl kj kj ?_
  have r2_7 := (GW.row q7 r2_6 (by decide) (Ne.symm (Nat.ne_of_lt (Nat.lt_of_lt_of_le hgw b2))))
  refine Qak (fun v W' => v = .tuple #[] ∧ GW base gw W7 W' ∧ WSt base gw (rawS (rawS (rawS (numS (numS (Qa4 (s) (QaE false nm key sg pa ms)) 0 1) nm 1) key) sg) pa) W') 104 #[.pointer (some ⟨gw, 0, none⟩), .slice (some ⟨g2, 66, none⟩) 32 32] 29 rfl kj kj ((rawW base gw _ pa _ _ (Nat.le_trans hbw x7.size) ws15 (by omega) hpb (fun W e => (QaB 66 hpl (ExtB.row e r2_7 (Ne.symm (Nat.ne_of_lt (Nat.lt_of_lt_of_le hgw b2)))) (fun i hi => Qa8 [#[.bool false], #[.int .i64 nm], ints .u8 (key), ints .u8 (sg)] [#[.slice a_m ms.length c_m]] pa 66 i (66 + i) (by rw [Qaa, Qaa, Qaa, Qaa]; simp only [Array.size_append, cat, ((Qac _ _).trans hgl), ((Qac _ _).trans hkl)]; rfl) rfl (by rw [hpl]; exact hi)) (Qay (ExtB.row e r2_7 (Ne.symm (Nat.ne_of_lt (Nat.lt_of_lt_of_le hgw b2))))) (Nat.le_refl _) (by decide)))).mono (by rintro e w' ⟨rfl, h1, h2⟩; exact ⟨_, rfl, rfl, h1, h2⟩)) fun v17 W8 h17 => ?_
  obtain ⟨rfl, q8, ws17⟩ := h17
  have x8 : GW base gw w W8 := GW.trans x7 q8
  refine Qaf ?_
  refine hK16 _ _ ?_
  refine wp_seq_k fun K18 hK18 => ?_
  refine Qae ?_
  refine Qab (.pointer (some ⟨gw, 0, none⟩)) 30 rfl kj kj ?_
  refine Qab (.pointer (some ⟨g2, 98, none⟩)) 31 rfl kj kj ?_
  have r2_8 := (GW.row q8 r2_7 (by decide) (Ne.symm (Nat.ne_of_lt (Nat.lt_of_lt_of_le hgw b2))))
  refine Qab (.slice a_m ms.length c_m) 32 rfl kj (Qag 41 _ g2 98 43 _ (.slice a_m ms.length c_m) _ r2_8 rfl kj (Qah [#[.bool false], #[.int .i64 nm], ints .u8 (key), ints .u8 (sg), ints .u8 (pa)] [#[.slice a_m ms.length c_m]] [] 98 (by rw [Qaa, Qaa, Qaa, Qaa, Qaa]; simp only [Array.size_append, cat, ((Qac _ _).trans hgl), ((Qac _ _).trans hkl), ((Qac _ _).trans hpl)]; rfl) 0 _ rfl) kj) ?_
  refine Qa1 (.bool (risV ms)) 121 #[.slice a_m ms.length c_m] 33 rfl kj kj (Qd0 ms _ _ _ _ hml (QcE hm x8 hbg)) fun W9 e9 => ?_
  have x9 : GW base gw w W9 := GW.ext x8 e9
  have ws19 := WSt.ext ws17 e9
  refine Qak (fun v W' => v = .tuple #[] ∧ GW base gw W9 W' ∧ WSt base gw (Qa4 (rawS (rawS (rawS (numS (numS (Qa4 (s) (QaE false nm key sg pa ms)) 0 1) nm 1) key) sg) pa) (risV ms)) W') 98 #[.pointer (some ⟨gw, 0, none⟩), .bool (risV ms)] 34 rfl kj kj ((Qcj base gw _ (risV ms) _ ws19).mono (by rintro e w' ⟨rfl, h1, h2⟩; exact ⟨_, rfl, rfl, h1, h2⟩)) fun v20 W10 h20 => ?_
  obtain ⟨rfl, q10, ws20⟩ := h20
  have x10 : GW base gw w W10 := GW.trans x9 q10
  refine Qaf ?_
  refine hK18 _ _ ?_
  refine Qae ?_
  refine Qab (.pointer (some ⟨gw, 0, none⟩)) 35 rfl kj kj ?_
  refine Qab (.pointer (some ⟨g2, 98, none⟩)) 36 rfl kj kj ?_
  have r2_9 := (Qar r2_8 e9)
  have r2_10 := (GW.row q10 r2_9 (by decide) (Ne.symm (Nat.ne_of_lt (Nat.lt_of_lt_of_le hgw b2))))
  refine Qab (.slice a_m ms.length c_m) 37 rfl kj (Qag 41 _ g2 98 43 _ (.slice a_m ms.length c_m) _ r2_10 rfl kj (Qah [#[.bool false], #[.int .i64 nm], ints .u8 (key), ints .u8 (sg), ints .u8 (pa)] [#[.slice a_m ms.length c_m]] [] 98 (by rw [Qaa, Qaa, Qaa, Qaa, Qaa]; simp only [Array.size_append, cat, ((Qac _ _).trans hgl), ((Qac _ _).trans hkl), ((Qac _ _).trans hpl)]; rfl) 0 _ rfl) kj) ?_
  refine Qak (fun v W' => v = .tuple #[] ∧ GW base gw W10 W' ∧ WSt base gw (Qcq (Qa4 (rawS (rawS (rawS (numS (numS (Qa4 (s) (QaE false nm key sg pa ms)) 0 1) nm 1) key) sg) pa) (risV ms)) ms) W') 122 #[.pointer (some ⟨gw, 0, none⟩), .slice a_m ms.length c_m, .func (.func 106) #[] #[]] 38 rfl kj kj ((QdI base gw _ ms _ _ _ (Nat.le_trans hbw x10.size) hbg ws20 hml (QcE hm x10 hbg)).mono (by rintro e w' ⟨rfl, h1, h2⟩; exact ⟨_, rfl, rfl, h1, h2⟩)) fun v21 W11 h21 => ?_
  obtain ⟨rfl, q11, ws21⟩ := h21
  have x11 : GW base gw w W11 := GW.trans x10 q11
  refine Qaf ?_
  repeat (first | with_reducible refine goX1 ?_ | with_reducible refine goX2 ?_ | with_reducible refine goX3 ?_)
  exact (show bodyPost _ _ _ .normal _ _ from end0 rfl ⟨rfl, x11, ws21⟩)
theorem Qif (base gw : Nat) (s : Option (List Int)) (us : Bool) (nm : Int) (key sg pa ms : List Int) (a_m : Option Addr) (c_m : Nat) (w : World) (hbw : base ≤ w.heap.size) (hbg : base ≤ gw) (h : WSt base gw s w) (hkl : key.length = 32) (hgl : sg.length = 32) (hpl : pa.length = 32) (hkb : Qaj key) (hgb : Qaj sg) (hpb : Qaj pa) (hml : ms.length ≤ 1000000) (hm : RdK .i64 base ms (.slice a_m ms.length c_m) w) : Calls Try.prog 95 #[.pointer (some ⟨gw, 0, none⟩), .agg (cat [#[.bool us], #[.int .i64 nm], ints .u8 (key), ints .u8 (sg), ints .u8 (pa), #[.slice a_m ms.length c_m]])] w (fun e W => e = .returned (.tuple #[]) ∧ GW base gw w W ∧ WSt base gw (Qcs s us nm key sg pa ms) W) := by
  cases us with
  | true => exact QfB base gw s nm key sg pa ms a_m c_m w hbw hbg h hkl hgl hpl hkb hgb hpb hml hm
  | false => exact QeZ base gw s nm key sg pa ms a_m c_m w hbw hbg h hkl hgl hpl hkb hgb hpb hml hm
end Go.Proofs.Ytfelfmchachljaa.Wr
end
section
namespace Go.Proofs.Ytfelfmchachljaa.Wr
open Go Go.RowKit
open Rely Auto Own Sha
set_option linter.unusedVariables false
set_option linter.unusedSimpArgs false
end Go.Proofs.Ytfelfmchachljaa.Wr
end
section
namespace Go.Proofs.Ytfelfmchachljaa.Wr
open Go Go.RowKit
open Rely Auto Own Sha
set_option linter.unusedVariables false
set_option linter.unusedSimpArgs false
open Wk
def Qb7 (ms : List Int) : Nat → Bool
  | 0 => true
  | n + 1 => Qb7 ms n && (inB (nth ms n) 31 && ((n == 0) || decide (nth ms (n - 1) < nth ms n)))
theorem Qck (ms : List Int) (k : Nat) (h : Qb7 ms k = false) : ∀ n, k ≤ n → Qb7 ms n = false
  | 0, hk => by obtain rfl : k = 0 := by omega
                exact h
  | n + 1, hk => by
    by_cases e : k = n + 1
    · rw [← e]; exact h
    · unfold Qb7
      rw [Qck ms k h n (by omega)]
      rfl
def QbN (us : Bool) (nm : Int) (key sg pa ms : List Int) : Bool := inB nm 255 && decide (ms.length ≤ 32) && (Qb7 ms ms.length && (us || QaE us nm key sg pa ms))
set_option maxHeartbeats 4000000 in
theorem QiU (us : Bool) (nm : Int) (key sg pa ms : List Int) (a_m : Option Addr) (c_m : Nat) (w : World) (hkl : key.length = 32) (hgl : sg.length = 32) (hpl : pa.length = 32) (hm : RdK .i64 w.heap.size ms (.slice a_m ms.length c_m) w) (h1 : inB nm 255 = false) : Calls Try.prog 96 #[.agg (cat [#[.bool us], #[.int .i64 nm], ints .u8 (key), ints .u8 (sg), ints .u8 (pa), #[.slice a_m ms.length c_m]])] w (Ret w (.bool false)) := by
  refine enter 52 [(0, .agg (cat [#[.bool us], #[.int .i64 nm], ints .u8 (key), ints .u8 (sg), ints .u8 (pa), #[.slice a_m ms.length c_m]]))] Try.func96 rfl rfl kj rfl ?_
  refine wp_seq_k fun K1 hK1 => ?_
  refine Qae ?_
  refine Qav (cat [#[.bool us], #[.int .i64 nm], ints .u8 (key), ints .u8 (sg), ints .u8 (pa), #[.slice a_m ms.length c_m]]) 43 1 rfl kj kj fun g2 W1 l2 e1 r2_1 => ?_
  have x1 : Ext w W1 := Ext.tr (Rely.Ext.refl w) e1
  have b2 : w.heap.size ≤ g2 := Nat.le_trans (Rely.Ext.refl w).size l2
  refine Qab (.bool false) 2 rfl kj kj ?_
  refine Qaf ?_
  refine hK1 _ _ ?_
  refine wp_seq_k fun K3 hK3 => ?_
  refine wp_seq_k fun K4 hK4 => ?_
  refine Qae ?_
  refine Qab (.pointer (some ⟨g2, 1, none⟩)) 4 rfl kj kj ?_
  refine Qab (.int .i64 nm) 5 rfl kj (Qag 3 _ g2 1 43 _ (.int .i64 nm) _ r2_1 rfl kj (Qah [#[.bool us]] [#[.int .i64 nm]] [ints .u8 (key), ints .u8 (sg), ints .u8 (pa), #[.slice a_m ms.length c_m]] 1 kj 0 _ rfl) kj) ?_
  refine Qa1 (.bool false) 77 #[.int .i64 nm, .int .i64 255] 6 rfl kj kj ((inE nm 255 _ h1) _) fun W2 e2 => ?_
  have x2 : Ext w W2 := Ext.tr x1 e2
  refine Qab (.bool true) 7 rfl kj kj ?_
  refine Qab (.bool true) 8 rfl kj kj ?_
  refine Qao 9 rfl kj ?_
  refine Qao 10 rfl kj ?_
  refine Qao 11 rfl kj ?_
  refine Qao 12 rfl kj ?_
  refine Qab (.bool true) 13 rfl kj kj ?_
  refine Qaf ?_
  refine hK4 _ _ ?_
  refine cond_true kj ?_
  refine wp_seq_k fun K5 hK5 => ?_
  refine Qae ?_
  refine Qab (.bool false) 2 rfl kj kj ?_
  refine Qaf ?_
  refine hK5 _ _ ?_
  refine wp_ret ?_
  repeat (first | with_reducible refine goR1 ?_ | with_reducible refine goR2 ?_)
  exact (show bodyPost _ _ _ .ret _ _ from ret1 (.bool false) rfl (Qaw kj) ⟨rfl, x2⟩)
set_option maxHeartbeats 4000000 in
theorem QiT (us : Bool) (nm : Int) (key sg pa ms : List Int) (a_m : Option Addr) (c_m : Nat) (w : World) (hkl : key.length = 32) (hgl : sg.length = 32) (hpl : pa.length = 32) (hm : RdK .i64 w.heap.size ms (.slice a_m ms.length c_m) w) (h1 : inB nm 255 = true) (h2 : 32 < ms.length) : Calls Try.prog 96 #[.agg (cat [#[.bool us], #[.int .i64 nm], ints .u8 (key), ints .u8 (sg), ints .u8 (pa), #[.slice a_m ms.length c_m]])] w (Ret w (.bool false)) := by
  refine enter 52 [(0, .agg (cat [#[.bool us], #[.int .i64 nm], ints .u8 (key), ints .u8 (sg), ints .u8 (pa), #[.slice a_m ms.length c_m]]))] Try.func96 rfl rfl kj rfl ?_
  refine wp_seq_k fun K1 hK1 => ?_
  refine Qae ?_
  refine Qav (cat [#[.bool us], #[.int .i64 nm], ints .u8 (key), ints .u8 (sg), ints .u8 (pa), #[.slice a_m ms.length c_m]]) 43 1 rfl kj kj fun g2 W1 l2 e1 r2_1 => ?_
  have x1 : Ext w W1 := Ext.tr (Rely.Ext.refl w) e1
  have b2 : w.heap.size ≤ g2 := Nat.le_trans (Rely.Ext.refl w).size l2
  refine Qab (.bool false) 2 rfl kj kj ?_
  refine Qaf ?_
  refine hK1 _ _ ?_
  refine wp_seq_k fun K3 hK3 => ?_
  refine wp_seq_k fun K4 hK4 => ?_
  refine Qae ?_
  refine Qab (.pointer (some ⟨g2, 1, none⟩)) 4 rfl kj kj ?_
  refine Qab (.int .i64 nm) 5 rfl kj (Qag 3 _ g2 1 43 _ (.int .i64 nm) _ r2_1 rfl kj (Qah [#[.bool us]] [#[.int .i64 nm]] [ints .u8 (key), ints .u8 (sg), ints .u8 (pa), #[.slice a_m ms.length c_m]] 1 kj 0 _ rfl) kj) ?_
  refine Qa1 (.bool true) 77 #[.int .i64 nm, .int .i64 255] 6 rfl kj kj ((inE nm 255 _ h1) _) fun W2 e2 => ?_
  have x2 : Ext w W2 := Ext.tr x1 e2
  refine Qab (.bool false) 7 rfl kj kj ?_
  refine Qab (.bool false) 8 rfl kj kj ?_
  refine Qab (.pointer (some ⟨g2, 98, none⟩)) 9 rfl kj kj ?_
  have r2_2 := (Qar r2_1 e2)
  refine Qab (.slice a_m ms.length c_m) 10 rfl kj (Qag 41 _ g2 98 43 _ (.slice a_m ms.length c_m) _ r2_2 rfl kj (Qah [#[.bool us], #[.int .i64 nm], ints .u8 (key), ints .u8 (sg), ints .u8 (pa)] [#[.slice a_m ms.length c_m]] [] 98 (by rw [Qaa, Qaa, Qaa, Qaa, Qaa]; simp only [Array.size_append, cat, ((Qac _ _).trans hgl), ((Qac _ _).trans hkl), ((Qac _ _).trans hpl)]; rfl) 0 _ rfl) kj) ?_
  refine Qab (.int .i64 ((ms.length : Nat) : Int)) 11 rfl kj kj ?_
  refine Qab (.bool true) 12 rfl kj (Qax (u := .bool (decide (((ms.length : Nat) : Int) > 32))) kj (congrArg Value.bool (decide_eq_true (by omega)))) ?_
  refine Qab (.bool true) 13 rfl kj kj ?_
  refine Qaf ?_
  refine hK4 _ _ ?_
  refine cond_true kj ?_
  refine wp_seq_k fun K5 hK5 => ?_
  refine Qae ?_
  refine Qab (.bool false) 2 rfl kj kj ?_
  refine Qaf ?_
  refine hK5 _ _ ?_
  refine wp_ret ?_
  repeat (first | with_reducible refine goR1 ?_ | with_reducible refine goR2 ?_)
  exact (show bodyPost _ _ _ .ret _ _ from ret1 (.bool false) rfl (Qaw kj) ⟨rfl, x2⟩)
set_option maxHeartbeats 4000000 in
theorem QfE (nm : Int) (key sg pa ms : List Int) (a_m : Option Addr) (c_m : Nat) (w : World) (hkl : key.length = 32) (hgl : sg.length = 32) (hpl : pa.length = 32) (hm : RdK .i64 w.heap.size ms (.slice a_m ms.length c_m) w) (h1 : inB nm 255 = true) (h2 : ms.length ≤ 32) : Calls Try.prog 96 #[.agg (cat [#[.bool true], #[.int .i64 nm], ints .u8 (key), ints .u8 (sg), ints .u8 (pa), #[.slice a_m ms.length c_m]])] w (Ret w (.bool (Qb7 ms ms.length && (true || QaE true nm key sg pa ms)))) := by
 refine enter 52 [(0, .agg (cat [#[.bool true], #[.int .i64 nm], ints .u8 (key), ints .u8 (sg), ints .u8 (pa), #[.slice a_m ms.length c_m]]))] Try.func96 rfl rfl kj rfl ?_
 refine wp_seq_k fun K1 hK1 => ?_
 refine Qae ?_
 refine Qav (cat [#[.bool true], #[.int .i64 nm], ints .u8 (key), ints .u8 (sg), ints .u8 (pa), #[.slice a_m ms.length c_m]]) 43 1 rfl kj kj fun g2 W1 l2 e1 r2_1 => ?_
 have x1 : Ext w W1 := Ext.tr (Rely.Ext.refl w) e1
 have b2 : w.heap.size ≤ g2 := Nat.le_trans (Rely.Ext.refl w).size l2
 refine Qab (.bool false) 2 rfl kj kj ?_
 refine Qaf ?_
 refine hK1 _ _ ?_
 refine wp_seq_k fun K3 hK3 => ?_
 refine wp_seq_k fun K4 hK4 => ?_
 refine Qae ?_
 refine Qab (.pointer (some ⟨g2, 1, none⟩)) 4 rfl kj kj ?_
 refine Qab (.int .i64 nm) 5 rfl kj (Qag 3 _ g2 1 43 _ (.int .i64 nm) _ r2_1 rfl kj (Qah [#[.bool true]] [#[.int .i64 nm]] [ints .u8 (key), ints .u8 (sg), ints .u8 (pa), #[.slice a_m ms.length c_m]] 1 kj 0 _ rfl) kj) ?_
 refine Qa1 (.bool true) 77 #[.int .i64 nm, .int .i64 255] 6 rfl kj kj ((inE nm 255 _ h1) _) fun W2 e2 => ?_
 have x2 : Ext w W2 := Ext.tr x1 e2
 refine Qab (.bool false) 7 rfl kj kj ?_
 refine Qab (.bool false) 8 rfl kj kj ?_
 refine Qab (.pointer (some ⟨g2, 98, none⟩)) 9 rfl kj kj ?_
 have r2_2 := (Qar r2_1 e2)
 refine Qab (.slice a_m ms.length c_m) 10 rfl kj (Qag 41 _ g2 98 43 _ (.slice a_m ms.length c_m) _ r2_2 rfl kj (Qah [#[.bool true], #[.int .i64 nm], ints .u8 (key), ints .u8 (sg), ints .u8 (pa)] [#[.slice a_m ms.length c_m]] [] 98 (by rw [Qaa, Qaa, Qaa, Qaa, Qaa]; simp only [Array.size_append, cat, ((Qac _ _).trans hgl), ((Qac _ _).trans hkl), ((Qac _ _).trans hpl)]; rfl) 0 _ rfl) kj) ?_
 refine Qab (.int .i64 ((ms.length : Nat) : Int)) 11 rfl kj kj ?_
 refine Qab (.bool false) 12 rfl kj (Qax (u := .bool (decide (((ms.length : Nat) : Int) > 32))) kj (congrArg Value.bool (decide_eq_false (by omega)))) ?_
 refine Qab (.bool false) 13 rfl kj kj ?_
 refine Qaf ?_
 refine hK4 _ _ ?_
 refine cond_false kj ?_
 refine wp_skip ?_
 refine hK3 _ _ ?_
 refine wp_seq_k fun K5 hK5 => ?_
 refine wp_seq_k fun K6 hK6 => ?_
 refine Qae ?_
 refine Qab (.int .i64 0) 3 rfl kj kj ?_
 refine Qaf ?_
 refine hK6 _ _ ?_
 refine wp_block ?_
 refine QaP (fun (s1 : Nat) => [(1, .pointer (some ⟨g2, 0, none⟩)), (3, .int .i64 ((s1 : Nat) : Int))]) (fun (s1 : Nat) W => (s1 ≤ ms.length) ∧ (Qb7 ms s1 = true) ∧ (Ext W2 W) ∧ (Ext w W)) (fun (s1 : Nat) => ms.length - s1) 0 ⟨rfl, rfl, trivial⟩ ⟨(Nat.zero_le _), rfl, (Rely.Ext.refl W2), x2⟩ fun s1 X1 V1 hI1 => ?_
 obtain ⟨i, hs1⟩ : ∃ z, z = s1 := ⟨_, rfl⟩
 subst hs1
 obtain ⟨hi, hr, kk1, xx1⟩ := hI1
 replace hi : i ≤ ms.length := hi
 replace hr : Qb7 ms i = true := hr
 replace kk1 : Ext W2 V1 := kk1
 replace xx1 : Ext w V1 := xx1
 have e3 := kk1
 refine wp_seq_k fun K7 hK7 => ?_
 refine wp_seq_k fun K8 hK8 => ?_
 refine Qae ?_
 refine Qab (.int .i64 ((i : Nat) : Int)) 14 rfl kj kj ?_
 refine Qab (.pointer (some ⟨g2, 98, none⟩)) 15 rfl kj kj ?_
 have r2_3 := (Qar r2_2 e3)
 refine Qab (.slice a_m ms.length c_m) 16 rfl kj (Qag 41 _ g2 98 43 _ (.slice a_m ms.length c_m) _ r2_3 rfl kj (Qah [#[.bool true], #[.int .i64 nm], ints .u8 (key), ints .u8 (sg), ints .u8 (pa)] [#[.slice a_m ms.length c_m]] [] 98 (by rw [Qaa, Qaa, Qaa, Qaa, Qaa]; simp only [Array.size_append, cat, ((Qac _ _).trans hgl), ((Qac _ _).trans hkl), ((Qac _ _).trans hpl)]; rfl) 0 _ rfl) kj) ?_
 refine Qab (.int .i64 ((ms.length : Nat) : Int)) 17 rfl kj kj ?_
 refine Qab (.bool (decide (((i : Nat) : Int) < ((ms.length : Nat) : Int)))) 18 rfl kj kj ?_
 refine Qaf ?_
 refine hK8 _ _ ?_
 refine Qa5 (t := decide (((i : Nat) : Int) < ((ms.length : Nat) : Int))) kj (fun c9 => ?_) (fun c9 => ?_)
 ·skip
  have hlt18 : i < ms.length := by have := of_decide_eq_true c9; omega
  have hnm_10 : (ms).length = ms.length := rfl
  obtain ⟨gcm_10, ocm_10, ham_10, hlm_10, hcm_10⟩ := Qcy (RdK.here (RdK.ext hm xx1)) (by rw [hnm_10]; omega)
  refine wp_skip ?_
  refine hK7 _ _ ?_
  refine wp_seq_k fun K11 hK11 => ?_
  refine wp_block ?_
  refine wp_seq_k fun K12 hK12 => ?_
  rcases (show inB (nth ms i) 31 = false ∨ (inB (nth ms i) 31 = true ∧ i = 0) ∨ (inB (nth ms i) 31 = true ∧ 0 < i ∧ nth ms i ≤ nth ms (i - 1)) ∨ (inB (nth ms i) 31 = true ∧ 0 < i ∧ nth ms (i - 1) < nth ms i) by cases inB (nth ms i) 31 <;> simp <;> omega) with hin | ⟨hin, h0⟩ | ⟨hin, h0, hq⟩ | ⟨hin, h0, hq⟩
  ·skip
   have hs : Qb7 ms (i + 1) = false := by show (Qb7 ms i && (inB (nth ms i) 31 && _)) = false; rw [hin, Bool.false_and, Bool.and_false]
   have hV : Qb7 ms ms.length = false := Qck ms (i + 1) hs _ (by omega)
   refine Qbl kj fun W4 e4 => ?_
   have x4 : Ext w W4 := Ext.tr xx1 e4
   refine Qat 0 (.pointer (some ⟨g2, 98, none⟩)) 21 rfl rfl kj kj (fun _ _ _ h => h) (fun W hR => by kernel_rfl) ?_
   have r2_4 := (Qar r2_3 e4)
   refine Qat 1 (.slice a_m ms.length c_m) 22 rfl rfl kj kj (fun _ _ _ h => h) (fun W hR => (Qag 41 _ g2 98 43 _ (.slice a_m ms.length c_m) _ (Qar r2_4 hR) rfl kj (Qah [#[.bool true], #[.int .i64 nm], ints .u8 (key), ints .u8 (sg), ints .u8 (pa)] [#[.slice a_m ms.length c_m]] [] 98 (by rw [Qaa, Qaa, Qaa, Qaa, Qaa]; simp only [Array.size_append, cat, ((Qac _ _).trans hgl), ((Qac _ _).trans hkl), ((Qac _ _).trans hpl)]; rfl) 0 _ rfl) kj)) ?_
   refine Qat 2 (.int .i64 ((i : Nat) : Int)) 23 rfl rfl kj kj (fun _ _ _ h => h) (fun W hR => by kernel_rfl) ?_
   refine Qat 3 (.pointer (some ⟨gcm_10, ocm_10 + i, none⟩)) 24 rfl rfl kj kj (fun _ _ _ h => h) (fun W hR => (QaT 41 _ _ .i64 i gcm_10 ocm_10 ms.length c_m 3 a_m _ ham_10 rfl rfl kj kj kj kj (Nat.lt_of_lt_of_eq (show i < ms.length by omega) hnm_10.symm))) ?_
   have y3_4 : Ext V1 W4 := (Rely.Ext.trans (Rely.Ext.refl V1) e4)
   refine Qat 4 (.int .i64 (nth (ms) (i))) 25 rfl rfl kj kj (fun _ _ _ h => h) (fun W hR => (QaH 3 _ _ (.int .i64 (nth (ms) (i))) ((Below.cell (Rely.Ext.trans y3_4 hR) hlm_10).trans (hcm_10 i (Nat.lt_of_lt_of_eq (show i < ms.length by omega) hnm_10.symm))) rfl kj kj)) ?_
   refine QaJ 5 kj ?_
   refine Qbi rfl (fun v W' => v = (.bool false) ∧ Ext W4 W') 77 #[.int .i64 (nth (ms) (i)), .int .i64 31] 26 rfl kj kj (((inE (nth ms i) 31 _ hin) _).mono fun e w' h => ⟨_, h.1, rfl, h.2⟩) (fun _ _ h => Rely.Ext.trans (Rely.Ext.refl W4) h.2) fun vv13 W5 hh13 => ?_
   obtain ⟨rfl, e5⟩ := hh13
   have x5 : Ext w W5 := Ext.tr x4 e5
   refine Qat 6 (.bool true) 27 rfl rfl kj kj (fun _ _ _ h => h) (fun W hR => by kernel_rfl) ?_
   refine Qat 7 (.bool true) 28 rfl rfl kj kj (fun _ _ _ h => h) (fun W hR => by kernel_rfl) ?_
   refine QaC 8 29 rfl rfl kj kj (fun _ _ _ h => h) ?_
   refine QaC 9 30 rfl rfl kj kj (fun _ _ _ h => h) ?_
   refine QaC 10 31 rfl rfl kj kj (fun _ _ _ h => h) ?_
   refine QaC 11 32 rfl rfl kj kj (fun _ _ _ h => h) ?_
   refine QaC 12 33 rfl rfl kj kj (fun _ _ _ h => h) ?_
   refine QaC 13 34 rfl rfl kj kj (fun _ _ _ h => h) ?_
   refine QaC 14 35 rfl rfl kj kj (fun _ _ _ h => h) ?_
   refine QaC 15 36 rfl rfl kj kj (fun _ _ _ h => h) ?_
   refine QaC 16 37 rfl rfl kj kj (fun _ _ _ h => h) ?_
   refine QaC 17 38 rfl rfl kj kj (fun _ _ _ h => h) ?_
   refine QaC 18 39 rfl rfl kj kj (fun _ _ _ h => h) ?_
   refine QaC 19 40 rfl rfl kj kj (fun _ _ _ h => h) ?_
   refine QaC 20 41 rfl rfl kj kj (fun _ _ _ h => h) ?_
   refine QaC 21 42 rfl rfl kj kj (fun _ _ _ h => h) ?_
   refine QaC 22 43 rfl rfl kj kj (fun _ _ _ h => h) ?_
   refine QaC 23 44 rfl rfl kj kj (fun _ _ _ h => h) ?_
   refine Qat 24 (.bool true) 45 rfl rfl kj kj (fun _ _ _ h => h) (fun W hR => by kernel_rfl) ?_
   refine wb_nil kj ?_
   refine hK12 _ _ ?_
   refine cond_true kj ?_
   refine wp_seq_k fun K14 hK14 => ?_
   refine Qae ?_
   refine Qab (.bool false) 2 rfl kj kj ?_
   refine Qaf ?_
   refine hK14 _ _ ?_
   refine wp_ret ?_
   repeat (first | with_reducible refine goR1 ?_ | with_reducible refine goR2 ?_)
   exact (show bodyPost _ _ _ .ret _ _ from ret1 (.bool false) rfl (Qaw kj) ⟨by rw [hV]; rfl, x5⟩)
  ·skip
   have hs : Qb7 ms (i + 1) = true := by show (Qb7 ms i && (inB (nth ms i) 31 && ((i == 0) || _))) = true; rw [hr, hin, beq_iff_eq.2 h0]; rfl
   refine Qbl kj fun W4 e4 => ?_
   have x4 : Ext w W4 := Ext.tr xx1 e4
   refine Qat 0 (.pointer (some ⟨g2, 98, none⟩)) 21 rfl rfl kj kj (fun _ _ _ h => h) (fun W hR => by kernel_rfl) ?_
   have r2_4 := (Qar r2_3 e4)
   refine Qat 1 (.slice a_m ms.length c_m) 22 rfl rfl kj kj (fun _ _ _ h => h) (fun W hR => (Qag 41 _ g2 98 43 _ (.slice a_m ms.length c_m) _ (Qar r2_4 hR) rfl kj (Qah [#[.bool true], #[.int .i64 nm], ints .u8 (key), ints .u8 (sg), ints .u8 (pa)] [#[.slice a_m ms.length c_m]] [] 98 (by rw [Qaa, Qaa, Qaa, Qaa, Qaa]; simp only [Array.size_append, cat, ((Qac _ _).trans hgl), ((Qac _ _).trans hkl), ((Qac _ _).trans hpl)]; rfl) 0 _ rfl) kj)) ?_
   refine Qat 2 (.int .i64 ((i : Nat) : Int)) 23 rfl rfl kj kj (fun _ _ _ h => h) (fun W hR => by kernel_rfl) ?_
   refine Qat 3 (.pointer (some ⟨gcm_10, ocm_10 + i, none⟩)) 24 rfl rfl kj kj (fun _ _ _ h => h) (fun W hR => (QaT 41 _ _ .i64 i gcm_10 ocm_10 ms.length c_m 3 a_m _ ham_10 rfl rfl kj kj kj kj (Nat.lt_of_lt_of_eq (show i < ms.length by omega) hnm_10.symm))) ?_
   have y3_4 : Ext V1 W4 := (Rely.Ext.trans (Rely.Ext.refl V1) e4)
   refine Qat 4 (.int .i64 (nth (ms) (i))) 25 rfl rfl kj kj (fun _ _ _ h => h) (fun W hR => (QaH 3 _ _ (.int .i64 (nth (ms) (i))) ((Below.cell (Rely.Ext.trans y3_4 hR) hlm_10).trans (hcm_10 i (Nat.lt_of_lt_of_eq (show i < ms.length by omega) hnm_10.symm))) rfl kj kj)) ?_
   refine QaJ 5 kj ?_
   refine Qbi rfl (fun v W' => v = (.bool true) ∧ Ext W4 W') 77 #[.int .i64 (nth (ms) (i)), .int .i64 31] 26 rfl kj kj (((inE (nth ms i) 31 _ hin) _).mono fun e w' h => ⟨_, h.1, rfl, h.2⟩) (fun _ _ h => Rely.Ext.trans (Rely.Ext.refl W4) h.2) fun vv15 W5 hh15 => ?_
   obtain ⟨rfl, e5⟩ := hh15
   have x5 : Ext w W5 := Ext.tr x4 e5
   refine Qat 6 (.bool false) 27 rfl rfl kj kj (fun _ _ _ h => h) (fun W hR => by kernel_rfl) ?_
   refine Qat 7 (.bool false) 28 rfl rfl kj kj (fun _ _ _ h => h) (fun W hR => by kernel_rfl) ?_
   refine Qat 8 (.int .i64 ((i : Nat) : Int)) 29 rfl rfl kj kj (fun _ _ _ h => h) (fun W hR => by kernel_rfl) ?_
   refine Qat 9 (.bool false) 30 rfl rfl kj kj (fun _ _ _ h => h) (fun W hR => (Qax (u := .bool (decide (((i : Nat) : Int) > 0))) kj (congrArg Value.bool (decide_eq_false (by omega))))) ?_
   refine Qat 10 (.bool false) 31 rfl rfl kj kj (fun _ _ _ h => h) (fun W hR => by kernel_rfl) ?_
   refine QaC 11 32 rfl rfl kj kj (fun _ _ _ h => h) ?_
   refine QaC 12 33 rfl rfl kj kj (fun _ _ _ h => h) ?_
   refine QaC 13 34 rfl rfl kj kj (fun _ _ _ h => h) ?_
   refine QaC 14 35 rfl rfl kj kj (fun _ _ _ h => h) ?_
   refine QaC 15 36 rfl rfl kj kj (fun _ _ _ h => h) ?_
   refine QaC 16 37 rfl rfl kj kj (fun _ _ _ h => h) ?_
   refine QaC 17 38 rfl rfl kj kj (fun _ _ _ h => h) ?_
   refine QaC 18 39 rfl rfl kj kj (fun _ _ _ h => h) ?_
   refine QaC 19 40 rfl rfl kj kj (fun _ _ _ h => h) ?_
   refine QaC 20 41 rfl rfl kj kj (fun _ _ _ h => h) ?_
   refine QaC 21 42 rfl rfl kj kj (fun _ _ _ h => h) ?_
   refine QaC 22 43 rfl rfl kj kj (fun _ _ _ h => h) ?_
   refine Qat 23 (.bool false) 44 rfl rfl kj kj (fun _ _ _ h => h) (fun W hR => by kernel_rfl) ?_
   refine Qat 24 (.bool false) 45 rfl rfl kj kj (fun _ _ _ h => h) (fun W hR => by kernel_rfl) ?_
   refine wb_nil kj ?_
   refine hK12 _ _ ?_
   refine cond_false kj ?_
   refine wp_skip ?_
   refine hK11 _ _ ?_
   refine Qae ?_
   refine Qab (.int .i64 ((i : Nat) : Int)) 19 rfl kj kj ?_
   refine Qab (.int .i64 ((i + 1 : Nat) : Int)) 20 rfl kj (Qax (u := .int .i64 (IntKind.i64.wrap (((i : Nat) : Int) + 1))) kj (congrArg (Value.int .i64) (i64n _ _ (by omega) (by omega)))) ?_
   refine Qab (.int .i64 ((i + 1 : Nat) : Int)) 3 rfl kj kj ?_
   refine Qaf ?_
   have y2_4 : Ext W2 W4 := (Rely.Ext.trans e3 e4)
   have y2_5 : Ext W2 W5 := (Rely.Ext.trans y2_4 e5)
   repeat (first | with_reducible refine goX1 ?_ | with_reducible refine goX2 ?_ | with_reducible refine goX3 ?_)
   exact QaK (i + 1) ⟨rfl, rfl, trivial⟩ ⟨(by omega), hs, y2_5, x5⟩ (by omega)
  ·skip
   obtain ⟨ip, hip⟩ : ∃ ip, i = ip + 1 := ⟨i - 1, by omega⟩
   have hi1 : i - 1 = ip := by omega
   rw [hi1] at hq
   have hs : Qb7 ms (i + 1) = false := by show (Qb7 ms i && (inB (nth ms i) 31 && ((i == 0) || decide (nth ms (i - 1) < nth ms i)))) = false; rw [hi1, hr, hin, beq_eq_false_iff_ne.2 (show i ≠ 0 by omega), decide_eq_false (by omega)]; rfl
   have hV : Qb7 ms ms.length = false := Qck ms (i + 1) hs _ (by omega)
   refine Qbl kj fun W4 e4 => ?_
   have x4 : Ext w W4 := Ext.tr xx1 e4
   refine Qat 0 (.pointer (some ⟨g2, 98, none⟩)) 21 rfl rfl kj kj (fun _ _ _ h => h) (fun W hR => by kernel_rfl) ?_
   have r2_4 := (Qar r2_3 e4)
   refine Qat 1 (.slice a_m ms.length c_m) 22 rfl rfl kj kj (fun _ _ _ h => h) (fun W hR => (Qag 41 _ g2 98 43 _ (.slice a_m ms.length c_m) _ (Qar r2_4 hR) rfl kj (Qah [#[.bool true], #[.int .i64 nm], ints .u8 (key), ints .u8 (sg), ints .u8 (pa)] [#[.slice a_m ms.length c_m]] [] 98 (by rw [Qaa, Qaa, Qaa, Qaa, Qaa]; simp only [Array.size_append, cat, ((Qac _ _).trans hgl), ((Qac _ _).trans hkl), ((Qac _ _).trans hpl)]; rfl) 0 _ rfl) kj)) ?_
   refine Qat 2 (.int .i64 ((i : Nat) : Int)) 23 rfl rfl kj kj (fun _ _ _ h => h) (fun W hR => by kernel_rfl) ?_
   refine Qat 3 (.pointer (some ⟨gcm_10, ocm_10 + i, none⟩)) 24 rfl rfl kj kj (fun _ _ _ h => h) (fun W hR => (QaT 41 _ _ .i64 i gcm_10 ocm_10 ms.length c_m 3 a_m _ ham_10 rfl rfl kj kj kj kj (Nat.lt_of_lt_of_eq (show i < ms.length by omega) hnm_10.symm))) ?_
   have y3_4 : Ext V1 W4 := (Rely.Ext.trans (Rely.Ext.refl V1) e4)
   refine Qat 4 (.int .i64 (nth (ms) (i))) 25 rfl rfl kj kj (fun _ _ _ h => h) (fun W hR => (QaH 3 _ _ (.int .i64 (nth (ms) (i))) ((Below.cell (Rely.Ext.trans y3_4 hR) hlm_10).trans (hcm_10 i (Nat.lt_of_lt_of_eq (show i < ms.length by omega) hnm_10.symm))) rfl kj kj)) ?_
   refine QaJ 5 kj ?_
   refine Qbi rfl (fun v W' => v = (.bool true) ∧ Ext W4 W') 77 #[.int .i64 (nth (ms) (i)), .int .i64 31] 26 rfl kj kj (((inE (nth ms i) 31 _ hin) _).mono fun e w' h => ⟨_, h.1, rfl, h.2⟩) (fun _ _ h => Rely.Ext.trans (Rely.Ext.refl W4) h.2) fun vv16 W5 hh16 => ?_
   obtain ⟨rfl, e5⟩ := hh16
   have x5 : Ext w W5 := Ext.tr x4 e5
   refine Qat 6 (.bool false) 27 rfl rfl kj kj (fun _ _ _ h => h) (fun W hR => by kernel_rfl) ?_
   refine Qat 7 (.bool false) 28 rfl rfl kj kj (fun _ _ _ h => h) (fun W hR => by kernel_rfl) ?_
   refine Qat 8 (.int .i64 ((i : Nat) : Int)) 29 rfl rfl kj kj (fun _ _ _ h => h) (fun W hR => by kernel_rfl) ?_
   refine Qat 9 (.bool true) 30 rfl rfl kj kj (fun _ _ _ h => h) (fun W hR => (Qax (u := .bool (decide (((i : Nat) : Int) > 0))) kj (congrArg Value.bool (decide_eq_true (by omega))))) ?_
   refine Qat 10 (.bool true) 31 rfl rfl kj kj (fun _ _ _ h => h) (fun W hR => by kernel_rfl) ?_
   refine Qat 11 (.pointer (some ⟨g2, 98, none⟩)) 32 rfl rfl kj kj (fun _ _ _ h => h) (fun W hR => by kernel_rfl) ?_
   refine Qat 12 (.slice a_m ms.length c_m) 33 rfl rfl kj kj (fun _ _ _ h => h) (fun W hR => (Qag 41 _ g2 98 43 _ (.slice a_m ms.length c_m) _ (Qar r2_4 hR) rfl kj (Qah [#[.bool true], #[.int .i64 nm], ints .u8 (key), ints .u8 (sg), ints .u8 (pa)] [#[.slice a_m ms.length c_m]] [] 98 (by rw [Qaa, Qaa, Qaa, Qaa, Qaa]; simp only [Array.size_append, cat, ((Qac _ _).trans hgl), ((Qac _ _).trans hkl), ((Qac _ _).trans hpl)]; rfl) 0 _ rfl) kj)) ?_
   refine Qat 13 (.int .i64 ((i : Nat) : Int)) 34 rfl rfl kj kj (fun _ _ _ h => h) (fun W hR => by kernel_rfl) ?_
   refine Qat 14 (.int .i64 (((ip : Nat) : Int))) 35 rfl rfl kj kj (fun _ _ _ h => h) (fun W hR => (Qax (u := .int .i64 (IntKind.i64.wrap (((i : Nat) : Int) - 1))) kj (congrArg (Value.int .i64) (by rw [show ((i : Nat) : Int) - 1 = ((ip : Nat) : Int) by omega]; exact IntWalk.i64_in _ (by omega))))) ?_
   refine Qat 15 (.pointer (some ⟨gcm_10, ocm_10 + ip, none⟩)) 36 rfl rfl kj kj (fun _ _ _ h => h) (fun W hR => (QaT 41 _ _ .i64 ip gcm_10 ocm_10 ms.length c_m 3 a_m _ ham_10 rfl rfl kj kj kj kj (Nat.lt_of_lt_of_eq (show ip < ms.length by omega) hnm_10.symm))) ?_
   refine Qat 16 (.int .i64 (nth (ms) (ip))) 37 rfl rfl kj kj (fun _ _ _ h => h) (fun W hR => (QaH 3 _ _ (.int .i64 (nth (ms) (ip))) ((Below.cell (Rely.Ext.trans y3_4 hR) hlm_10).trans (hcm_10 ip (Nat.lt_of_lt_of_eq (show ip < ms.length by omega) hnm_10.symm))) rfl kj kj)) ?_
   refine Qat 17 (.pointer (some ⟨g2, 98, none⟩)) 38 rfl rfl kj kj (fun _ _ _ h => h) (fun W hR => by kernel_rfl) ?_
   refine Qat 18 (.slice a_m ms.length c_m) 39 rfl rfl kj kj (fun _ _ _ h => h) (fun W hR => (Qag 41 _ g2 98 43 _ (.slice a_m ms.length c_m) _ (Qar r2_4 hR) rfl kj (Qah [#[.bool true], #[.int .i64 nm], ints .u8 (key), ints .u8 (sg), ints .u8 (pa)] [#[.slice a_m ms.length c_m]] [] 98 (by rw [Qaa, Qaa, Qaa, Qaa, Qaa]; simp only [Array.size_append, cat, ((Qac _ _).trans hgl), ((Qac _ _).trans hkl), ((Qac _ _).trans hpl)]; rfl) 0 _ rfl) kj)) ?_
   refine Qat 19 (.int .i64 ((i : Nat) : Int)) 40 rfl rfl kj kj (fun _ _ _ h => h) (fun W hR => by kernel_rfl) ?_
   refine Qat 20 (.pointer (some ⟨gcm_10, ocm_10 + i, none⟩)) 41 rfl rfl kj kj (fun _ _ _ h => h) (fun W hR => (QaT 41 _ _ .i64 i gcm_10 ocm_10 ms.length c_m 3 a_m _ ham_10 rfl rfl kj kj kj kj (Nat.lt_of_lt_of_eq (show i < ms.length by omega) hnm_10.symm))) ?_
   refine Qat 21 (.int .i64 (nth (ms) (i))) 42 rfl rfl kj kj (fun _ _ _ h => h) (fun W hR => (QaH 3 _ _ (.int .i64 (nth (ms) (i))) ((Below.cell (Rely.Ext.trans y3_4 hR) hlm_10).trans (hcm_10 i (Nat.lt_of_lt_of_eq (show i < ms.length by omega) hnm_10.symm))) rfl kj kj)) ?_
   refine Qat 22 (.bool true) 43 rfl rfl kj kj (fun _ _ _ h => h) (fun W hR => (Qax (u := .bool (decide ((nth (ms) (ip)) ≥ (nth (ms) (i))))) kj (congrArg Value.bool (decide_eq_true (by omega))))) ?_
   refine Qat 23 (.bool true) 44 rfl rfl kj kj (fun _ _ _ h => h) (fun W hR => by kernel_rfl) ?_
   refine Qat 24 (.bool true) 45 rfl rfl kj kj (fun _ _ _ h => h) (fun W hR => by kernel_rfl) ?_
   refine wb_nil kj ?_
   refine hK12 _ _ ?_
   refine cond_true kj ?_
   refine wp_seq_k fun K17 hK17 => ?_
   refine Qae ?_
   refine Qab (.bool false) 2 rfl kj kj ?_
   refine Qaf ?_
   refine hK17 _ _ ?_
   refine wp_ret ?_
   repeat (first | with_reducible refine goR1 ?_ | with_reducible refine goR2 ?_)
   exact (show bodyPost _ _ _ .ret _ _ from ret1 (.bool false) rfl (Qaw kj) ⟨by rw [hV]; rfl, x5⟩)
  ·skip
   obtain ⟨ip, hip⟩ : ∃ ip, i = ip + 1 := ⟨i - 1, by omega⟩
   have hi1 : i - 1 = ip := by omega
   rw [hi1] at hq
   have hs : Qb7 ms (i + 1) = true := by show (Qb7 ms i && (inB (nth ms i) 31 && ((i == 0) || decide (nth ms (i - 1) < nth ms i)))) = true; rw [hi1, hr, hin, beq_eq_false_iff_ne.2 (show i ≠ 0 by omega), decide_eq_true (by omega)]; rfl
   refine Qbl kj fun W4 e4 => ?_
   have x4 : Ext w W4 := Ext.tr xx1 e4
   refine Qat 0 (.pointer (some ⟨g2, 98, none⟩)) 21 rfl rfl kj kj (fun _ _ _ h => h) (fun W hR => by kernel_rfl) ?_
   have r2_4 := (Qar r2_3 e4)
   refine Qat 1 (.slice a_m ms.length c_m) 22 rfl rfl kj kj (fun _ _ _ h => h) (fun W hR => (Qag 41 _ g2 98 43 _ (.slice a_m ms.length c_m) _ (Qar r2_4 hR) rfl kj (Qah [#[.bool true], #[.int .i64 nm], ints .u8 (key), ints .u8 (sg), ints .u8 (pa)] [#[.slice a_m ms.length c_m]] [] 98 (by rw [Qaa, Qaa, Qaa, Qaa, Qaa]; simp only [Array.size_append, cat, ((Qac _ _).trans hgl), ((Qac _ _).trans hkl), ((Qac _ _).trans hpl)]; rfl) 0 _ rfl) kj)) ?_
   refine Qat 2 (.int .i64 ((i : Nat) : Int)) 23 rfl rfl kj kj (fun _ _ _ h => h) (fun W hR => by kernel_rfl) ?_
   refine Qat 3 (.pointer (some ⟨gcm_10, ocm_10 + i, none⟩)) 24 rfl rfl kj kj (fun _ _ _ h => h) (fun W hR => (QaT 41 _ _ .i64 i gcm_10 ocm_10 ms.length c_m 3 a_m _ ham_10 rfl rfl kj kj kj kj (Nat.lt_of_lt_of_eq (show i < ms.length by omega) hnm_10.symm))) ?_
   have y3_4 : Ext V1 W4 := (Rely.Ext.trans (Rely.Ext.refl V1) e4)
   refine Qat 4 (.int .i64 (nth (ms) (i))) 25 rfl rfl kj kj (fun _ _ _ h => h) (fun W hR => (QaH 3 _ _ (.int .i64 (nth (ms) (i))) ((Below.cell (Rely.Ext.trans y3_4 hR) hlm_10).trans (hcm_10 i (Nat.lt_of_lt_of_eq (show i < ms.length by omega) hnm_10.symm))) rfl kj kj)) ?_
   refine QaJ 5 kj ?_
   refine Qbi rfl (fun v W' => v = (.bool true) ∧ Ext W4 W') 77 #[.int .i64 (nth (ms) (i)), .int .i64 31] 26 rfl kj kj (((inE (nth ms i) 31 _ hin) _).mono fun e w' h => ⟨_, h.1, rfl, h.2⟩) (fun _ _ h => Rely.Ext.trans (Rely.Ext.refl W4) h.2) fun vv18 W5 hh18 => ?_
   obtain ⟨rfl, e5⟩ := hh18
   have x5 : Ext w W5 := Ext.tr x4 e5
   refine Qat 6 (.bool false) 27 rfl rfl kj kj (fun _ _ _ h => h) (fun W hR => by kernel_rfl) ?_
   refine Qat 7 (.bool false) 28 rfl rfl kj kj (fun _ _ _ h => h) (fun W hR => by kernel_rfl) ?_
   refine Qat 8 (.int .i64 ((i : Nat) : Int)) 29 rfl rfl kj kj (fun _ _ _ h => h) (fun W hR => by kernel_rfl) ?_
   refine Qat 9 (.bool true) 30 rfl rfl kj kj (fun _ _ _ h => h) (fun W hR => (Qax (u := .bool (decide (((i : Nat) : Int) > 0))) kj (congrArg Value.bool (decide_eq_true (by omega))))) ?_
   refine Qat 10 (.bool true) 31 rfl rfl kj kj (fun _ _ _ h => h) (fun W hR => by kernel_rfl) ?_
   refine Qat 11 (.pointer (some ⟨g2, 98, none⟩)) 32 rfl rfl kj kj (fun _ _ _ h => h) (fun W hR => by kernel_rfl) ?_
   refine Qat 12 (.slice a_m ms.length c_m) 33 rfl rfl kj kj (fun _ _ _ h => h) (fun W hR => (Qag 41 _ g2 98 43 _ (.slice a_m ms.length c_m) _ (Qar r2_4 hR) rfl kj (Qah [#[.bool true], #[.int .i64 nm], ints .u8 (key), ints .u8 (sg), ints .u8 (pa)] [#[.slice a_m ms.length c_m]] [] 98 (by rw [Qaa, Qaa, Qaa, Qaa, Qaa]; simp only [Array.size_append, cat, ((Qac _ _).trans hgl), ((Qac _ _).trans hkl), ((Qac _ _).trans hpl)]; rfl) 0 _ rfl) kj)) ?_
   refine Qat 13 (.int .i64 ((i : Nat) : Int)) 34 rfl rfl kj kj (fun _ _ _ h => h) (fun W hR => by kernel_rfl) ?_
   refine Qat 14 (.int .i64 (((ip : Nat) : Int))) 35 rfl rfl kj kj (fun _ _ _ h => h) (fun W hR => (Qax (u := .int .i64 (IntKind.i64.wrap (((i : Nat) : Int) - 1))) kj (congrArg (Value.int .i64) (by rw [show ((i : Nat) : Int) - 1 = ((ip : Nat) : Int) by omega]; exact IntWalk.i64_in _ (by omega))))) ?_
   refine Qat 15 (.pointer (some ⟨gcm_10, ocm_10 + ip, none⟩)) 36 rfl rfl kj kj (fun _ _ _ h => h) (fun W hR => (QaT 41 _ _ .i64 ip gcm_10 ocm_10 ms.length c_m 3 a_m _ ham_10 rfl rfl kj kj kj kj (Nat.lt_of_lt_of_eq (show ip < ms.length by omega) hnm_10.symm))) ?_
   refine Qat 16 (.int .i64 (nth (ms) (ip))) 37 rfl rfl kj kj (fun _ _ _ h => h) (fun W hR => (QaH 3 _ _ (.int .i64 (nth (ms) (ip))) ((Below.cell (Rely.Ext.trans y3_4 hR) hlm_10).trans (hcm_10 ip (Nat.lt_of_lt_of_eq (show ip < ms.length by omega) hnm_10.symm))) rfl kj kj)) ?_
   refine Qat 17 (.pointer (some ⟨g2, 98, none⟩)) 38 rfl rfl kj kj (fun _ _ _ h => h) (fun W hR => by kernel_rfl) ?_
   refine Qat 18 (.slice a_m ms.length c_m) 39 rfl rfl kj kj (fun _ _ _ h => h) (fun W hR => (Qag 41 _ g2 98 43 _ (.slice a_m ms.length c_m) _ (Qar r2_4 hR) rfl kj (Qah [#[.bool true], #[.int .i64 nm], ints .u8 (key), ints .u8 (sg), ints .u8 (pa)] [#[.slice a_m ms.length c_m]] [] 98 (by rw [Qaa, Qaa, Qaa, Qaa, Qaa]; simp only [Array.size_append, cat, ((Qac _ _).trans hgl), ((Qac _ _).trans hkl), ((Qac _ _).trans hpl)]; rfl) 0 _ rfl) kj)) ?_
   refine Qat 19 (.int .i64 ((i : Nat) : Int)) 40 rfl rfl kj kj (fun _ _ _ h => h) (fun W hR => by kernel_rfl) ?_
   refine Qat 20 (.pointer (some ⟨gcm_10, ocm_10 + i, none⟩)) 41 rfl rfl kj kj (fun _ _ _ h => h) (fun W hR => (QaT 41 _ _ .i64 i gcm_10 ocm_10 ms.length c_m 3 a_m _ ham_10 rfl rfl kj kj kj kj (Nat.lt_of_lt_of_eq (show i < ms.length by omega) hnm_10.symm))) ?_
   refine Qat 21 (.int .i64 (nth (ms) (i))) 42 rfl rfl kj kj (fun _ _ _ h => h) (fun W hR => (QaH 3 _ _ (.int .i64 (nth (ms) (i))) ((Below.cell (Rely.Ext.trans y3_4 hR) hlm_10).trans (hcm_10 i (Nat.lt_of_lt_of_eq (show i < ms.length by omega) hnm_10.symm))) rfl kj kj)) ?_
   refine Qat 22 (.bool false) 43 rfl rfl kj kj (fun _ _ _ h => h) (fun W hR => (Qax (u := .bool (decide ((nth (ms) (ip)) ≥ (nth (ms) (i))))) kj (congrArg Value.bool (decide_eq_false (by omega))))) ?_
   refine Qat 23 (.bool false) 44 rfl rfl kj kj (fun _ _ _ h => h) (fun W hR => by kernel_rfl) ?_
   refine Qat 24 (.bool false) 45 rfl rfl kj kj (fun _ _ _ h => h) (fun W hR => by kernel_rfl) ?_
   refine wb_nil kj ?_
   refine hK12 _ _ ?_
   refine cond_false kj ?_
   refine wp_skip ?_
   refine hK11 _ _ ?_
   refine Qae ?_
   refine Qab (.int .i64 ((i : Nat) : Int)) 19 rfl kj kj ?_
   refine Qab (.int .i64 ((i + 1 : Nat) : Int)) 20 rfl kj (Qax (u := .int .i64 (IntKind.i64.wrap (((i : Nat) : Int) + 1))) kj (congrArg (Value.int .i64) (i64n _ _ (by omega) (by omega)))) ?_
   refine Qab (.int .i64 ((i + 1 : Nat) : Int)) 3 rfl kj kj ?_
   refine Qaf ?_
   have y2_4 : Ext W2 W4 := (Rely.Ext.trans e3 e4)
   have y2_5 : Ext W2 W5 := (Rely.Ext.trans y2_4 e5)
   repeat (first | with_reducible refine goX1 ?_ | with_reducible refine goX2 ?_ | with_reducible refine goX3 ?_)
   exact QaK (i + 1) ⟨rfl, rfl, trivial⟩ ⟨(by omega), hs, y2_5, x5⟩ (by omega)
 ·skip
  have heq18 : i = ms.length := by have := of_decide_eq_false c9; omega
  have hV : Qb7 ms ms.length = true := by rw [← heq18]; exact hr
  refine wp_exit ?_
  refine hK5 _ _ ?_
  refine wp_seq_k fun K19 hK19 => ?_
  refine Qae ?_
  refine Qab (.pointer (some ⟨g2, 0, none⟩)) 46 rfl kj kj ?_
  refine Qab (.bool true) 47 rfl kj (Qag 4 _ g2 0 43 _ (.bool true) _ r2_3 rfl kj (Qah [] [#[.bool true]] [#[.int .i64 nm], ints .u8 (key), ints .u8 (sg), ints .u8 (pa), #[.slice a_m ms.length c_m]] 0 kj 0 _ rfl) kj) ?_
  refine Qab (.bool true) 48 rfl kj kj ?_
  refine Qao 49 rfl kj ?_
  refine Qao 50 rfl kj ?_
  refine Qab (.bool true) 51 rfl kj kj ?_
  refine Qab (.bool true) 2 rfl kj kj ?_
  refine Qaf ?_
  refine hK19 _ _ ?_
  refine wp_ret ?_
  repeat (first | with_reducible refine goR1 ?_ | with_reducible refine goR2 ?_)
  exact (show bodyPost _ _ _ .ret _ _ from ret1 (.bool true) rfl (Qaw kj) ⟨by rw [hV]; rfl, xx1⟩)
set_option maxHeartbeats 4000000 in
theorem Qfg (nm : Int) (key sg pa ms : List Int) (a_m : Option Addr) (c_m : Nat) (w : World) (hkl : key.length = 32) (hgl : sg.length = 32) (hpl : pa.length = 32) (hm : RdK .i64 w.heap.size ms (.slice a_m ms.length c_m) w) (h1 : inB nm 255 = true) (h2 : ms.length ≤ 32) : Calls Try.prog 96 #[.agg (cat [#[.bool false], #[.int .i64 nm], ints .u8 (key), ints .u8 (sg), ints .u8 (pa), #[.slice a_m ms.length c_m]])] w (Ret w (.bool (Qb7 ms ms.length && (false || QaE false nm key sg pa ms)))) := by
 refine enter 52 [(0, .agg (cat [#[.bool false], #[.int .i64 nm], ints .u8 (key), ints .u8 (sg), ints .u8 (pa), #[.slice a_m ms.length c_m]]))] Try.func96 rfl rfl kj rfl ?_
 refine wp_seq_k fun K1 hK1 => ?_
 refine Qae ?_
 refine Qav (cat [#[.bool false], #[.int .i64 nm], ints .u8 (key), ints .u8 (sg), ints .u8 (pa), #[.slice a_m ms.length c_m]]) 43 1 rfl kj kj fun g2 W1 l2 e1 r2_1 => ?_
 have x1 : Ext w W1 := Ext.tr (Rely.Ext.refl w) e1
 have b2 : w.heap.size ≤ g2 := Nat.le_trans (Rely.Ext.refl w).size l2
 refine Qab (.bool false) 2 rfl kj kj ?_
 refine Qaf ?_
 refine hK1 _ _ ?_
 refine wp_seq_k fun K3 hK3 => ?_
 refine wp_seq_k fun K4 hK4 => ?_
 refine Qae ?_
 refine Qab (.pointer (some ⟨g2, 1, none⟩)) 4 rfl kj kj ?_
 refine Qab (.int .i64 nm) 5 rfl kj (Qag 3 _ g2 1 43 _ (.int .i64 nm) _ r2_1 rfl kj (Qah [#[.bool false]] [#[.int .i64 nm]] [ints .u8 (key), ints .u8 (sg), ints .u8 (pa), #[.slice a_m ms.length c_m]] 1 kj 0 _ rfl) kj) ?_
 refine Qa1 (.bool true) 77 #[.int .i64 nm, .int .i64 255] 6 rfl kj kj ((inE nm 255 _ h1) _) fun W2 e2 => ?_
 have x2 : Ext w W2 := Ext.tr x1 e2
 refine Qab (.bool false) 7 rfl kj kj ?_
 refine Qab (.bool false) 8 rfl kj kj ?_
 refine Qab (.pointer (some ⟨g2, 98, none⟩)) 9 rfl kj kj ?_
 have r2_2 := (Qar r2_1 e2)
 refine Qab (.slice a_m ms.length c_m) 10 rfl kj (Qag 41 _ g2 98 43 _ (.slice a_m ms.length c_m) _ r2_2 rfl kj (Qah [#[.bool false], #[.int .i64 nm], ints .u8 (key), ints .u8 (sg), ints .u8 (pa)] [#[.slice a_m ms.length c_m]] [] 98 (by rw [Qaa, Qaa, Qaa, Qaa, Qaa]; simp only [Array.size_append, cat, ((Qac _ _).trans hgl), ((Qac _ _).trans hkl), ((Qac _ _).trans hpl)]; rfl) 0 _ rfl) kj) ?_
 refine Qab (.int .i64 ((ms.length : Nat) : Int)) 11 rfl kj kj ?_
 refine Qab (.bool false) 12 rfl kj (Qax (u := .bool (decide (((ms.length : Nat) : Int) > 32))) kj (congrArg Value.bool (decide_eq_false (by omega)))) ?_
 refine Qab (.bool false) 13 rfl kj kj ?_
 refine Qaf ?_
 refine hK4 _ _ ?_
 refine cond_false kj ?_
 refine wp_skip ?_
 refine hK3 _ _ ?_
 refine wp_seq_k fun K5 hK5 => ?_
 refine wp_seq_k fun K6 hK6 => ?_
 refine Qae ?_
 refine Qab (.int .i64 0) 3 rfl kj kj ?_
 refine Qaf ?_
 refine hK6 _ _ ?_
 refine wp_block ?_
 refine QaP (fun (s1 : Nat) => [(1, .pointer (some ⟨g2, 0, none⟩)), (3, .int .i64 ((s1 : Nat) : Int))]) (fun (s1 : Nat) W => (s1 ≤ ms.length) ∧ (Qb7 ms s1 = true) ∧ (Ext W2 W) ∧ (Ext w W)) (fun (s1 : Nat) => ms.length - s1) 0 ⟨rfl, rfl, trivial⟩ ⟨(Nat.zero_le _), rfl, (Rely.Ext.refl W2), x2⟩ fun s1 X1 V1 hI1 => ?_
 obtain ⟨i, hs1⟩ : ∃ z, z = s1 := ⟨_, rfl⟩
 subst hs1
 obtain ⟨hi, hr, kk1, xx1⟩ := hI1
 replace hi : i ≤ ms.length := hi
 replace hr : Qb7 ms i = true := hr
 replace kk1 : Ext W2 V1 := kk1
 replace xx1 : Ext w V1 := xx1
 have e3 := kk1
 refine wp_seq_k fun K7 hK7 => ?_
 refine wp_seq_k fun K8 hK8 => ?_
 refine Qae ?_
 refine Qab (.int .i64 ((i : Nat) : Int)) 14 rfl kj kj ?_
 refine Qab (.pointer (some ⟨g2, 98, none⟩)) 15 rfl kj kj ?_
 have r2_3 := (Qar r2_2 e3)
 refine Qab (.slice a_m ms.length c_m) 16 rfl kj (Qag 41 _ g2 98 43 _ (.slice a_m ms.length c_m) _ r2_3 rfl kj (Qah [#[.bool false], #[.int .i64 nm], ints .u8 (key), ints .u8 (sg), ints .u8 (pa)] [#[.slice a_m ms.length c_m]] [] 98 (by rw [Qaa, Qaa, Qaa, Qaa, Qaa]; simp only [Array.size_append, cat, ((Qac _ _).trans hgl), ((Qac _ _).trans hkl), ((Qac _ _).trans hpl)]; rfl) 0 _ rfl) kj) ?_
 refine Qab (.int .i64 ((ms.length : Nat) : Int)) 17 rfl kj kj ?_
 refine Qab (.bool (decide (((i : Nat) : Int) < ((ms.length : Nat) : Int)))) 18 rfl kj kj ?_
 refine Qaf ?_
 refine hK8 _ _ ?_
 refine Qa5 (t := decide (((i : Nat) : Int) < ((ms.length : Nat) : Int))) kj (fun c9 => ?_) (fun c9 => ?_)
 ·skip
  have hlt18 : i < ms.length := by have := of_decide_eq_true c9; omega
  have hnm_10 : (ms).length = ms.length := rfl
  obtain ⟨gcm_10, ocm_10, ham_10, hlm_10, hcm_10⟩ := Qcy (RdK.here (RdK.ext hm xx1)) (by rw [hnm_10]; omega)
  refine wp_skip ?_
  refine hK7 _ _ ?_
  refine wp_seq_k fun K11 hK11 => ?_
  refine wp_block ?_
  refine wp_seq_k fun K12 hK12 => ?_
  rcases (show inB (nth ms i) 31 = false ∨ (inB (nth ms i) 31 = true ∧ i = 0) ∨ (inB (nth ms i) 31 = true ∧ 0 < i ∧ nth ms i ≤ nth ms (i - 1)) ∨ (inB (nth ms i) 31 = true ∧ 0 < i ∧ nth ms (i - 1) < nth ms i) by cases inB (nth ms i) 31 <;> simp <;> omega) with hin | ⟨hin, h0⟩ | ⟨hin, h0, hq⟩ | ⟨hin, h0, hq⟩
  ·skip
   have hs : Qb7 ms (i + 1) = false := by show (Qb7 ms i && (inB (nth ms i) 31 && _)) = false; rw [hin, Bool.false_and, Bool.and_false]
   have hV : Qb7 ms ms.length = false := Qck ms (i + 1) hs _ (by omega)
   refine Qbl kj fun W4 e4 => ?_
   have x4 : Ext w W4 := Ext.tr xx1 e4
   refine Qat 0 (.pointer (some ⟨g2, 98, none⟩)) 21 rfl rfl kj kj (fun _ _ _ h => h) (fun W hR => by kernel_rfl) ?_
   have r2_4 := (Qar r2_3 e4)
   refine Qat 1 (.slice a_m ms.length c_m) 22 rfl rfl kj kj (fun _ _ _ h => h) (fun W hR => (Qag 41 _ g2 98 43 _ (.slice a_m ms.length c_m) _ (Qar r2_4 hR) rfl kj (Qah [#[.bool false], #[.int .i64 nm], ints .u8 (key), ints .u8 (sg), ints .u8 (pa)] [#[.slice a_m ms.length c_m]] [] 98 (by rw [Qaa, Qaa, Qaa, Qaa, Qaa]; simp only [Array.size_append, cat, ((Qac _ _).trans hgl), ((Qac _ _).trans hkl), ((Qac _ _).trans hpl)]; rfl) 0 _ rfl) kj)) ?_
   refine Qat 2 (.int .i64 ((i : Nat) : Int)) 23 rfl rfl kj kj (fun _ _ _ h => h) (fun W hR => by kernel_rfl) ?_
   refine Qat 3 (.pointer (some ⟨gcm_10, ocm_10 + i, none⟩)) 24 rfl rfl kj kj (fun _ _ _ h => h) (fun W hR => (QaT 41 _ _ .i64 i gcm_10 ocm_10 ms.length c_m 3 a_m _ ham_10 rfl rfl kj kj kj kj (Nat.lt_of_lt_of_eq (show i < ms.length by omega) hnm_10.symm))) ?_
   have y3_4 : Ext V1 W4 := (Rely.Ext.trans (Rely.Ext.refl V1) e4)
   refine Qat 4 (.int .i64 (nth (ms) (i))) 25 rfl rfl kj kj (fun _ _ _ h => h) (fun W hR => (QaH 3 _ _ (.int .i64 (nth (ms) (i))) ((Below.cell (Rely.Ext.trans y3_4 hR) hlm_10).trans (hcm_10 i (Nat.lt_of_lt_of_eq (show i < ms.length by omega) hnm_10.symm))) rfl kj kj)) ?_
   refine QaJ 5 kj ?_
   refine Qbi rfl (fun v W' => v = (.bool false) ∧ Ext W4 W') 77 #[.int .i64 (nth (ms) (i)), .int .i64 31] 26 rfl kj kj (((inE (nth ms i) 31 _ hin) _).mono fun e w' h => ⟨_, h.1, rfl, h.2⟩) (fun _ _ h => Rely.Ext.trans (Rely.Ext.refl W4) h.2) fun vv13 W5 hh13 => ?_
   obtain ⟨rfl, e5⟩ := hh13
   have x5 : Ext w W5 := Ext.tr x4 e5
   refine Qat 6 (.bool true) 27 rfl rfl kj kj (fun _ _ _ h => h) (fun W hR => by kernel_rfl) ?_
   refine Qat 7 (.bool true) 28 rfl rfl kj kj (fun _ _ _ h => h) (fun W hR => by kernel_rfl) ?_
   refine QaC 8 29 rfl rfl kj kj (fun _ _ _ h => h) ?_
   refine QaC 9 30 rfl rfl kj kj (fun _ _ _ h => h) ?_
   refine QaC 10 31 rfl rfl kj kj (fun _ _ _ h => h) ?_
   refine QaC 11 32 rfl rfl kj kj (fun _ _ _ h => h) ?_
   refine QaC 12 33 rfl rfl kj kj (fun _ _ _ h => h) ?_
   refine QaC 13 34 rfl rfl kj kj (fun _ _ _ h => h) ?_
   refine QaC 14 35 rfl rfl kj kj (fun _ _ _ h => h) ?_
   refine QaC 15 36 rfl rfl kj kj (fun _ _ _ h => h) ?_
   refine QaC 16 37 rfl rfl kj kj (fun _ _ _ h => h) ?_
   refine QaC 17 38 rfl rfl kj kj (fun _ _ _ h => h) ?_
   refine QaC 18 39 rfl rfl kj kj (fun _ _ _ h => h) ?_
   refine QaC 19 40 rfl rfl kj kj (fun _ _ _ h => h) ?_
   refine QaC 20 41 rfl rfl kj kj (fun _ _ _ h => h) ?_
   refine QaC 21 42 rfl rfl kj kj (fun _ _ _ h => h) ?_
   refine QaC 22 43 rfl rfl kj kj (fun _ _ _ h => h) ?_
   refine QaC 23 44 rfl rfl kj kj (fun _ _ _ h => h) ?_
   refine Qat 24 (.bool true) 45 rfl rfl kj kj (fun _ _ _ h => h) (fun W hR => by kernel_rfl) ?_
   refine wb_nil kj ?_
   refine hK12 _ _ ?_
   refine cond_true kj ?_
   refine wp_seq_k fun K14 hK14 => ?_
   refine Qae ?_
   refine Qab (.bool false) 2 rfl kj kj ?_
   refine Qaf ?_
   refine hK14 _ _ ?_
   refine wp_ret ?_
   repeat (first | with_reducible refine goR1 ?_ | with_reducible refine goR2 ?_)
   exact (show bodyPost _ _ _ .ret _ _ from ret1 (.bool false) rfl (Qaw kj) ⟨by rw [hV]; rfl, x5⟩)
  ·skip
   have hs : Qb7 ms (i + 1) = true := by show (Qb7 ms i && (inB (nth ms i) 31 && ((i == 0) || _))) = true; rw [hr, hin, beq_iff_eq.2 h0]; rfl
   refine Qbl kj fun W4 e4 => ?_
   have x4 : Ext w W4 := Ext.tr xx1 e4
   refine Qat 0 (.pointer (some ⟨g2, 98, none⟩)) 21 rfl rfl kj kj (fun _ _ _ h => h) (fun W hR => by kernel_rfl) ?_
   have r2_4 := (Qar r2_3 e4)
   refine Qat 1 (.slice a_m ms.length c_m) 22 rfl rfl kj kj (fun _ _ _ h => h) (fun W hR => (Qag 41 _ g2 98 43 _ (.slice a_m ms.length c_m) _ (Qar r2_4 hR) rfl kj (Qah [#[.bool false], #[.int .i64 nm], ints .u8 (key), ints .u8 (sg), ints .u8 (pa)] [#[.slice a_m ms.length c_m]] [] 98 (by rw [Qaa, Qaa, Qaa, Qaa, Qaa]; simp only [Array.size_append, cat, ((Qac _ _).trans hgl), ((Qac _ _).trans hkl), ((Qac _ _).trans hpl)]; rfl) 0 _ rfl) kj)) ?_
   refine Qat 2 (.int .i64 ((i : Nat) : Int)) 23 rfl rfl kj kj (fun _ _ _ h => h) (fun W hR => by kernel_rfl) ?_
   refine Qat 3 (.pointer (some ⟨gcm_10, ocm_10 + i, none⟩)) 24 rfl rfl kj kj (fun _ _ _ h => h) (fun W hR => (QaT 41 _ _ .i64 i gcm_10 ocm_10 ms.length c_m 3 a_m _ ham_10 rfl rfl kj kj kj kj (Nat.lt_of_lt_of_eq (show i < ms.length by omega) hnm_10.symm))) ?_
   have y3_4 : Ext V1 W4 := (Rely.Ext.trans (Rely.Ext.refl V1) e4)
   refine Qat 4 (.int .i64 (nth (ms) (i))) 25 rfl rfl kj kj (fun _ _ _ h => h) (fun W hR => (QaH 3 _ _ (.int .i64 (nth (ms) (i))) ((Below.cell (Rely.Ext.trans y3_4 hR) hlm_10).trans (hcm_10 i (Nat.lt_of_lt_of_eq (show i < ms.length by omega) hnm_10.symm))) rfl kj kj)) ?_
   refine QaJ 5 kj ?_
   refine Qbi rfl (fun v W' => v = (.bool true) ∧ Ext W4 W') 77 #[.int .i64 (nth (ms) (i)), .int .i64 31] 26 rfl kj kj (((inE (nth ms i) 31 _ hin) _).mono fun e w' h => ⟨_, h.1, rfl, h.2⟩) (fun _ _ h => Rely.Ext.trans (Rely.Ext.refl W4) h.2) fun vv15 W5 hh15 => ?_
   obtain ⟨rfl, e5⟩ := hh15
   have x5 : Ext w W5 := Ext.tr x4 e5
   refine Qat 6 (.bool false) 27 rfl rfl kj kj (fun _ _ _ h => h) (fun W hR => by kernel_rfl) ?_
   refine Qat 7 (.bool false) 28 rfl rfl kj kj (fun _ _ _ h => h) (fun W hR => by kernel_rfl) ?_
   refine Qat 8 (.int .i64 ((i : Nat) : Int)) 29 rfl rfl kj kj (fun _ _ _ h => h) (fun W hR => by kernel_rfl) ?_
   refine Qat 9 (.bool false) 30 rfl rfl kj kj (fun _ _ _ h => h) (fun W hR => (Qax (u := .bool (decide (((i : Nat) : Int) > 0))) kj (congrArg Value.bool (decide_eq_false (by omega))))) ?_
   refine Qat 10 (.bool false) 31 rfl rfl kj kj (fun _ _ _ h => h) (fun W hR => by kernel_rfl) ?_
   refine QaC 11 32 rfl rfl kj kj (fun _ _ _ h => h) ?_
   refine QaC 12 33 rfl rfl kj kj (fun _ _ _ h => h) ?_
   refine QaC 13 34 rfl rfl kj kj (fun _ _ _ h => h) ?_
   refine QaC 14 35 rfl rfl kj kj (fun _ _ _ h => h) ?_
   refine QaC 15 36 rfl rfl kj kj (fun _ _ _ h => h) ?_
   refine QaC 16 37 rfl rfl kj kj (fun _ _ _ h => h) ?_
   refine QaC 17 38 rfl rfl kj kj (fun _ _ _ h => h) ?_
   refine QaC 18 39 rfl rfl kj kj (fun _ _ _ h => h) ?_
   refine QaC 19 40 rfl rfl kj kj (fun _ _ _ h => h) ?_
   refine QaC 20 41 rfl rfl kj kj (fun _ _ _ h => h) ?_
   refine QaC 21 42 rfl rfl kj kj (fun _ _ _ h => h) ?_
   refine QaC 22 43 rfl rfl kj kj (fun _ _ _ h => h) ?_
   refine Qat 23 (.bool false) 44 rfl rfl kj kj (fun _ _ _ h => h) (fun W hR => by kernel_rfl) ?_
   refine Qat 24 (.bool false) 45 rfl rfl kj kj (fun _ _ _ h => h) (fun W hR => by kernel_rfl) ?_
   refine wb_nil kj ?_
   refine hK12 _ _ ?_
   refine cond_false kj ?_
   refine wp_skip ?_
   refine hK11 _ _ ?_
   refine Qae ?_
   refine Qab (.int .i64 ((i : Nat) : Int)) 19 rfl kj kj ?_
   refine Qab (.int .i64 ((i + 1 : Nat) : Int)) 20 rfl kj (Qax (u := .int .i64 (IntKind.i64.wrap (((i : Nat) : Int) + 1))) kj (congrArg (Value.int .i64) (i64n _ _ (by omega) (by omega)))) ?_
   refine Qab (.int .i64 ((i + 1 : Nat) : Int)) 3 rfl kj kj ?_
   refine Qaf ?_
   have y2_4 : Ext W2 W4 := (Rely.Ext.trans e3 e4)
   have y2_5 : Ext W2 W5 := (Rely.Ext.trans y2_4 e5)
   repeat (first | with_reducible refine goX1 ?_ | with_reducible refine goX2 ?_ | with_reducible refine goX3 ?_)
   exact QaK (i + 1) ⟨rfl, rfl, trivial⟩ ⟨(by omega), hs, y2_5, x5⟩ (by omega)
  ·skip
   obtain ⟨ip, hip⟩ : ∃ ip, i = ip + 1 := ⟨i - 1, by omega⟩
   have hi1 : i - 1 = ip := by omega
   rw [hi1] at hq
   have hs : Qb7 ms (i + 1) = false := by show (Qb7 ms i && (inB (nth ms i) 31 && ((i == 0) || decide (nth ms (i - 1) < nth ms i)))) = false; rw [hi1, hr, hin, beq_eq_false_iff_ne.2 (show i ≠ 0 by omega), decide_eq_false (by omega)]; rfl
   have hV : Qb7 ms ms.length = false := Qck ms (i + 1) hs _ (by omega)
   refine Qbl kj fun W4 e4 => ?_
   have x4 : Ext w W4 := Ext.tr xx1 e4
   refine Qat 0 (.pointer (some ⟨g2, 98, none⟩)) 21 rfl rfl kj kj (fun _ _ _ h => h) (fun W hR => by kernel_rfl) ?_
   have r2_4 := (Qar r2_3 e4)
   refine Qat 1 (.slice a_m ms.length c_m) 22 rfl rfl kj kj (fun _ _ _ h => h) (fun W hR => (Qag 41 _ g2 98 43 _ (.slice a_m ms.length c_m) _ (Qar r2_4 hR) rfl kj (Qah [#[.bool false], #[.int .i64 nm], ints .u8 (key), ints .u8 (sg), ints .u8 (pa)] [#[.slice a_m ms.length c_m]] [] 98 (by rw [Qaa, Qaa, Qaa, Qaa, Qaa]; simp only [Array.size_append, cat, ((Qac _ _).trans hgl), ((Qac _ _).trans hkl), ((Qac _ _).trans hpl)]; rfl) 0 _ rfl) kj)) ?_
   refine Qat 2 (.int .i64 ((i : Nat) : Int)) 23 rfl rfl kj kj (fun _ _ _ h => h) (fun W hR => by kernel_rfl) ?_
   refine Qat 3 (.pointer (some ⟨gcm_10, ocm_10 + i, none⟩)) 24 rfl rfl kj kj (fun _ _ _ h => h) (fun W hR => (QaT 41 _ _ .i64 i gcm_10 ocm_10 ms.length c_m 3 a_m _ ham_10 rfl rfl kj kj kj kj (Nat.lt_of_lt_of_eq (show i < ms.length by omega) hnm_10.symm))) ?_
   have y3_4 : Ext V1 W4 := (Rely.Ext.trans (Rely.Ext.refl V1) e4)
   refine Qat 4 (.int .i64 (nth (ms) (i))) 25 rfl rfl kj kj (fun _ _ _ h => h) (fun W hR => (QaH 3 _ _ (.int .i64 (nth (ms) (i))) ((Below.cell (Rely.Ext.trans y3_4 hR) hlm_10).trans (hcm_10 i (Nat.lt_of_lt_of_eq (show i < ms.length by omega) hnm_10.symm))) rfl kj kj)) ?_
   refine QaJ 5 kj ?_
   refine Qbi rfl (fun v W' => v = (.bool true) ∧ Ext W4 W') 77 #[.int .i64 (nth (ms) (i)), .int .i64 31] 26 rfl kj kj (((inE (nth ms i) 31 _ hin) _).mono fun e w' h => ⟨_, h.1, rfl, h.2⟩) (fun _ _ h => Rely.Ext.trans (Rely.Ext.refl W4) h.2) fun vv16 W5 hh16 => ?_
   obtain ⟨rfl, e5⟩ := hh16
   have x5 : Ext w W5 := Ext.tr x4 e5
   refine Qat 6 (.bool false) 27 rfl rfl kj kj (fun _ _ _ h => h) (fun W hR => by kernel_rfl) ?_
   refine Qat 7 (.bool false) 28 rfl rfl kj kj (fun _ _ _ h => h) (fun W hR => by kernel_rfl) ?_
   refine Qat 8 (.int .i64 ((i : Nat) : Int)) 29 rfl rfl kj kj (fun _ _ _ h => h) (fun W hR => by kernel_rfl) ?_
   refine Qat 9 (.bool true) 30 rfl rfl kj kj (fun _ _ _ h => h) (fun W hR => (Qax (u := .bool (decide (((i : Nat) : Int) > 0))) kj (congrArg Value.bool (decide_eq_true (by omega))))) ?_
   refine Qat 10 (.bool true) 31 rfl rfl kj kj (fun _ _ _ h => h) (fun W hR => by kernel_rfl) ?_
   refine Qat 11 (.pointer (some ⟨g2, 98, none⟩)) 32 rfl rfl kj kj (fun _ _ _ h => h) (fun W hR => by kernel_rfl) ?_
   refine Qat 12 (.slice a_m ms.length c_m) 33 rfl rfl kj kj (fun _ _ _ h => h) (fun W hR => (Qag 41 _ g2 98 43 _ (.slice a_m ms.length c_m) _ (Qar r2_4 hR) rfl kj (Qah [#[.bool false], #[.int .i64 nm], ints .u8 (key), ints .u8 (sg), ints .u8 (pa)] [#[.slice a_m ms.length c_m]] [] 98 (by rw [Qaa, Qaa, Qaa, Qaa, Qaa]; simp only [Array.size_append, cat, ((Qac _ _).trans hgl), ((Qac _ _).trans hkl), ((Qac _ _).trans hpl)]; rfl) 0 _ rfl) kj)) ?_
   refine Qat 13 (.int .i64 ((i : Nat) : Int)) 34 rfl rfl kj kj (fun _ _ _ h => h) (fun W hR => by kernel_rfl) ?_
   refine Qat 14 (.int .i64 (((ip : Nat) : Int))) 35 rfl rfl kj kj (fun _ _ _ h => h) (fun W hR => (Qax (u := .int .i64 (IntKind.i64.wrap (((i : Nat) : Int) - 1))) kj (congrArg (Value.int .i64) (by rw [show ((i : Nat) : Int) - 1 = ((ip : Nat) : Int) by omega]; exact IntWalk.i64_in _ (by omega))))) ?_
   refine Qat 15 (.pointer (some ⟨gcm_10, ocm_10 + ip, none⟩)) 36 rfl rfl kj kj (fun _ _ _ h => h) (fun W hR => (QaT 41 _ _ .i64 ip gcm_10 ocm_10 ms.length c_m 3 a_m _ ham_10 rfl rfl kj kj kj kj (Nat.lt_of_lt_of_eq (show ip < ms.length by omega) hnm_10.symm))) ?_
   refine Qat 16 (.int .i64 (nth (ms) (ip))) 37 rfl rfl kj kj (fun _ _ _ h => h) (fun W hR => (QaH 3 _ _ (.int .i64 (nth (ms) (ip))) ((Below.cell (Rely.Ext.trans y3_4 hR) hlm_10).trans (hcm_10 ip (Nat.lt_of_lt_of_eq (show ip < ms.length by omega) hnm_10.symm))) rfl kj kj)) ?_
   refine Qat 17 (.pointer (some ⟨g2, 98, none⟩)) 38 rfl rfl kj kj (fun _ _ _ h => h) (fun W hR => by kernel_rfl) ?_
   refine Qat 18 (.slice a_m ms.length c_m) 39 rfl rfl kj kj (fun _ _ _ h => h) (fun W hR => (Qag 41 _ g2 98 43 _ (.slice a_m ms.length c_m) _ (Qar r2_4 hR) rfl kj (Qah [#[.bool false], #[.int .i64 nm], ints .u8 (key), ints .u8 (sg), ints .u8 (pa)] [#[.slice a_m ms.length c_m]] [] 98 (by rw [Qaa, Qaa, Qaa, Qaa, Qaa]; simp only [Array.size_append, cat, ((Qac _ _).trans hgl), ((Qac _ _).trans hkl), ((Qac _ _).trans hpl)]; rfl) 0 _ rfl) kj)) ?_
   refine Qat 19 (.int .i64 ((i : Nat) : Int)) 40 rfl rfl kj kj (fun _ _ _ h => h) (fun W hR => by kernel_rfl) ?_
   refine Qat 20 (.pointer (some ⟨gcm_10, ocm_10 + i, none⟩)) 41 rfl rfl kj kj (fun _ _ _ h => h) (fun W hR => (QaT 41 _ _ .i64 i gcm_10 ocm_10 ms.length c_m 3 a_m _ ham_10 rfl rfl kj kj kj kj (Nat.lt_of_lt_of_eq (show i < ms.length by omega) hnm_10.symm))) ?_
   refine Qat 21 (.int .i64 (nth (ms) (i))) 42 rfl rfl kj kj (fun _ _ _ h => h) (fun W hR => (QaH 3 _ _ (.int .i64 (nth (ms) (i))) ((Below.cell (Rely.Ext.trans y3_4 hR) hlm_10).trans (hcm_10 i (Nat.lt_of_lt_of_eq (show i < ms.length by omega) hnm_10.symm))) rfl kj kj)) ?_
   refine Qat 22 (.bool true) 43 rfl rfl kj kj (fun _ _ _ h => h) (fun W hR => (Qax (u := .bool (decide ((nth (ms) (ip)) ≥ (nth (ms) (i))))) kj (congrArg Value.bool (decide_eq_true (by omega))))) ?_
   refine Qat 23 (.bool true) 44 rfl rfl kj kj (fun _ _ _ h => h) (fun W hR => by kernel_rfl) ?_
   refine Qat 24 (.bool true) 45 rfl rfl kj kj (fun _ _ _ h => h) (fun W hR => by kernel_rfl) ?_
   refine wb_nil kj ?_
   refine hK12 _ _ ?_
   refine cond_true kj ?_
   refine wp_seq_k fun K17 hK17 => ?_
   refine Qae ?_
   refine Qab (.bool false) 2 rfl kj kj ?_
   refine Qaf ?_
   refine hK17 _ _ ?_
   refine wp_ret ?_
   repeat (first | with_reducible refine goR1 ?_ | with_reducible refine goR2 ?_)
   exact (show bodyPost _ _ _ .ret _ _ from ret1 (.bool false) rfl (Qaw kj) ⟨by rw [hV]; rfl, x5⟩)
  ·skip
   obtain ⟨ip, hip⟩ : ∃ ip, i = ip + 1 := ⟨i - 1, by omega⟩
   have hi1 : i - 1 = ip := by omega
   rw [hi1] at hq
   have hs : Qb7 ms (i + 1) = true := by show (Qb7 ms i && (inB (nth ms i) 31 && ((i == 0) || decide (nth ms (i - 1) < nth ms i)))) = true; rw [hi1, hr, hin, beq_eq_false_iff_ne.2 (show i ≠ 0 by omega), decide_eq_true (by omega)]; rfl
   refine Qbl kj fun W4 e4 => ?_
   have x4 : Ext w W4 := Ext.tr xx1 e4
   refine Qat 0 (.pointer (some ⟨g2, 98, none⟩)) 21 rfl rfl kj kj (fun _ _ _ h => h) (fun W hR => by kernel_rfl) ?_
   have r2_4 := (Qar r2_3 e4)
   refine Qat 1 (.slice a_m ms.length c_m) 22 rfl rfl kj kj (fun _ _ _ h => h) (fun W hR => (Qag 41 _ g2 98 43 _ (.slice a_m ms.length c_m) _ (Qar r2_4 hR) rfl kj (Qah [#[.bool false], #[.int .i64 nm], ints .u8 (key), ints .u8 (sg), ints .u8 (pa)] [#[.slice a_m ms.length c_m]] [] 98 (by rw [Qaa, Qaa, Qaa, Qaa, Qaa]; simp only [Array.size_append, cat, ((Qac _ _).trans hgl), ((Qac _ _).trans hkl), ((Qac _ _).trans hpl)]; rfl) 0 _ rfl) kj)) ?_
   refine Qat 2 (.int .i64 ((i : Nat) : Int)) 23 rfl rfl kj kj (fun _ _ _ h => h) (fun W hR => by kernel_rfl) ?_
   refine Qat 3 (.pointer (some ⟨gcm_10, ocm_10 + i, none⟩)) 24 rfl rfl kj kj (fun _ _ _ h => h) (fun W hR => (QaT 41 _ _ .i64 i gcm_10 ocm_10 ms.length c_m 3 a_m _ ham_10 rfl rfl kj kj kj kj (Nat.lt_of_lt_of_eq (show i < ms.length by omega) hnm_10.symm))) ?_
   have y3_4 : Ext V1 W4 := (Rely.Ext.trans (Rely.Ext.refl V1) e4)
   refine Qat 4 (.int .i64 (nth (ms) (i))) 25 rfl rfl kj kj (fun _ _ _ h => h) (fun W hR => (QaH 3 _ _ (.int .i64 (nth (ms) (i))) ((Below.cell (Rely.Ext.trans y3_4 hR) hlm_10).trans (hcm_10 i (Nat.lt_of_lt_of_eq (show i < ms.length by omega) hnm_10.symm))) rfl kj kj)) ?_
   refine QaJ 5 kj ?_
   refine Qbi rfl (fun v W' => v = (.bool true) ∧ Ext W4 W') 77 #[.int .i64 (nth (ms) (i)), .int .i64 31] 26 rfl kj kj (((inE (nth ms i) 31 _ hin) _).mono fun e w' h => ⟨_, h.1, rfl, h.2⟩) (fun _ _ h => Rely.Ext.trans (Rely.Ext.refl W4) h.2) fun vv18 W5 hh18 => ?_
   obtain ⟨rfl, e5⟩ := hh18
   have x5 : Ext w W5 := Ext.tr x4 e5
   refine Qat 6 (.bool false) 27 rfl rfl kj kj (fun _ _ _ h => h) (fun W hR => by kernel_rfl) ?_
   refine Qat 7 (.bool false) 28 rfl rfl kj kj (fun _ _ _ h => h) (fun W hR => by kernel_rfl) ?_
   refine Qat 8 (.int .i64 ((i : Nat) : Int)) 29 rfl rfl kj kj (fun _ _ _ h => h) (fun W hR => by kernel_rfl) ?_
   refine Qat 9 (.bool true) 30 rfl rfl kj kj (fun _ _ _ h => h) (fun W hR => (Qax (u := .bool (decide (((i : Nat) : Int) > 0))) kj (congrArg Value.bool (decide_eq_true (by omega))))) ?_
   refine Qat 10 (.bool true) 31 rfl rfl kj kj (fun _ _ _ h => h) (fun W hR => by kernel_rfl) ?_
   refine Qat 11 (.pointer (some ⟨g2, 98, none⟩)) 32 rfl rfl kj kj (fun _ _ _ h => h) (fun W hR => by kernel_rfl) ?_
   refine Qat 12 (.slice a_m ms.length c_m) 33 rfl rfl kj kj (fun _ _ _ h => h) (fun W hR => (Qag 41 _ g2 98 43 _ (.slice a_m ms.length c_m) _ (Qar r2_4 hR) rfl kj (Qah [#[.bool false], #[.int .i64 nm], ints .u8 (key), ints .u8 (sg), ints .u8 (pa)] [#[.slice a_m ms.length c_m]] [] 98 (by rw [Qaa, Qaa, Qaa, Qaa, Qaa]; simp only [Array.size_append, cat, ((Qac _ _).trans hgl), ((Qac _ _).trans hkl), ((Qac _ _).trans hpl)]; rfl) 0 _ rfl) kj)) ?_
   refine Qat 13 (.int .i64 ((i : Nat) : Int)) 34 rfl rfl kj kj (fun _ _ _ h => h) (fun W hR => by kernel_rfl) ?_
   refine Qat 14 (.int .i64 (((ip : Nat) : Int))) 35 rfl rfl kj kj (fun _ _ _ h => h) (fun W hR => (Qax (u := .int .i64 (IntKind.i64.wrap (((i : Nat) : Int) - 1))) kj (congrArg (Value.int .i64) (by rw [show ((i : Nat) : Int) - 1 = ((ip : Nat) : Int) by omega]; exact IntWalk.i64_in _ (by omega))))) ?_
   refine Qat 15 (.pointer (some ⟨gcm_10, ocm_10 + ip, none⟩)) 36 rfl rfl kj kj (fun _ _ _ h => h) (fun W hR => (QaT 41 _ _ .i64 ip gcm_10 ocm_10 ms.length c_m 3 a_m _ ham_10 rfl rfl kj kj kj kj (Nat.lt_of_lt_of_eq (show ip < ms.length by omega) hnm_10.symm))) ?_
   refine Qat 16 (.int .i64 (nth (ms) (ip))) 37 rfl rfl kj kj (fun _ _ _ h => h) (fun W hR => (QaH 3 _ _ (.int .i64 (nth (ms) (ip))) ((Below.cell (Rely.Ext.trans y3_4 hR) hlm_10).trans (hcm_10 ip (Nat.lt_of_lt_of_eq (show ip < ms.length by omega) hnm_10.symm))) rfl kj kj)) ?_
   refine Qat 17 (.pointer (some ⟨g2, 98, none⟩)) 38 rfl rfl kj kj (fun _ _ _ h => h) (fun W hR => by kernel_rfl) ?_
   refine Qat 18 (.slice a_m ms.length c_m) 39 rfl rfl kj kj (fun _ _ _ h => h) (fun W hR => (Qag 41 _ g2 98 43 _ (.slice a_m ms.length c_m) _ (Qar r2_4 hR) rfl kj (Qah [#[.bool false], #[.int .i64 nm], ints .u8 (key), ints .u8 (sg), ints .u8 (pa)] [#[.slice a_m ms.length c_m]] [] 98 (by rw [Qaa, Qaa, Qaa, Qaa, Qaa]; simp only [Array.size_append, cat, ((Qac _ _).trans hgl), ((Qac _ _).trans hkl), ((Qac _ _).trans hpl)]; rfl) 0 _ rfl) kj)) ?_
   refine Qat 19 (.int .i64 ((i : Nat) : Int)) 40 rfl rfl kj kj (fun _ _ _ h => h) (fun W hR => by kernel_rfl) ?_
   refine Qat 20 (.pointer (some ⟨gcm_10, ocm_10 + i, none⟩)) 41 rfl rfl kj kj (fun _ _ _ h => h) (fun W hR => (QaT 41 _ _ .i64 i gcm_10 ocm_10 ms.length c_m 3 a_m _ ham_10 rfl rfl kj kj kj kj (Nat.lt_of_lt_of_eq (show i < ms.length by omega) hnm_10.symm))) ?_
   refine Qat 21 (.int .i64 (nth (ms) (i))) 42 rfl rfl kj kj (fun _ _ _ h => h) (fun W hR => (QaH 3 _ _ (.int .i64 (nth (ms) (i))) ((Below.cell (Rely.Ext.trans y3_4 hR) hlm_10).trans (hcm_10 i (Nat.lt_of_lt_of_eq (show i < ms.length by omega) hnm_10.symm))) rfl kj kj)) ?_
   refine Qat 22 (.bool false) 43 rfl rfl kj kj (fun _ _ _ h => h) (fun W hR => (Qax (u := .bool (decide ((nth (ms) (ip)) ≥ (nth (ms) (i))))) kj (congrArg Value.bool (decide_eq_false (by omega))))) ?_
   refine Qat 23 (.bool false) 44 rfl rfl kj kj (fun _ _ _ h => h) (fun W hR => by kernel_rfl) ?_
   refine Qat 24 (.bool false) 45 rfl rfl kj kj (fun _ _ _ h => h) (fun W hR => by kernel_rfl) ?_
   refine wb_nil kj ?_
   refine hK12 _ _ ?_
   refine cond_false kj ?_
   refine wp_skip ?_
   refine hK11 _ _ ?_
   refine Qae ?_
   refine Qab (.int .i64 ((i : Nat) : Int)) 19 rfl kj kj ?_
   refine Qab (.int .i64 ((i + 1 : Nat) : Int)) 20 rfl kj (Qax (u := .int .i64 (IntKind.i64.wrap (((i : Nat) : Int) + 1))) kj (congrArg (Value.int .i64) (i64n _ _ (by omega) (by omega)))) ?_
   refine Qab (.int .i64 ((i + 1 : Nat) : Int)) 3 rfl kj kj ?_
   refine Qaf ?_
   have y2_4 : Ext W2 W4 := (Rely.Ext.trans e3 e4)
   have y2_5 : Ext W2 W5 := (Rely.Ext.trans y2_4 e5)
   repeat (first | with_reducible refine goX1 ?_ | with_reducible refine goX2 ?_ | with_reducible refine goX3 ?_)
   exact QaK (i + 1) ⟨rfl, rfl, trivial⟩ ⟨(by omega), hs, y2_5, x5⟩ (by omega)
 ·skip
  have heq18 : i = ms.length := by have := of_decide_eq_false c9; omega
  have hV : Qb7 ms ms.length = true := by rw [← heq18]; exact hr
  refine wp_exit ?_
  refine hK5 _ _ ?_
  refine wp_seq_k fun K19 hK19 => ?_
  refine Qae ?_
  refine Qab (.pointer (some ⟨g2, 0, none⟩)) 46 rfl kj kj ?_
  refine Qab (.bool false) 47 rfl kj (Qag 4 _ g2 0 43 _ (.bool false) _ r2_3 rfl kj (Qah [] [#[.bool false]] [#[.int .i64 nm], ints .u8 (key), ints .u8 (sg), ints .u8 (pa), #[.slice a_m ms.length c_m]] 0 kj 0 _ rfl) kj) ?_
  refine Qab (.bool false) 48 rfl kj kj ?_
  refine Qab (.agg (cat [#[.bool false], #[.int .i64 nm], ints .u8 (key), ints .u8 (sg), ints .u8 (pa), #[.slice a_m ms.length c_m]])) 49 rfl kj (QaA 43 _ g2 43 _ _ r2_3 rfl kj kj (isz (n := 99) kj (by rw [Qaa, Qaa, Qaa, Qaa, Qaa, Qaa]; simp only [Array.size_append, cat, ((Qac _ _).trans hgl), ((Qac _ _).trans hkl), ((Qac _ _).trans hpl)]; rfl))) ?_
  refine Qa1 (.bool (QaE false nm key sg pa ms)) 108 #[.agg (cat [#[.bool false], #[.int .i64 nm], ints .u8 (key), ints .u8 (sg), ints .u8 (pa), #[.slice a_m ms.length c_m]])] 50 rfl kj kj (Qi5 false nm key sg pa ms _ _ _ hkl hgl hpl) fun W4 e4 => ?_
  have x4 : Ext w W4 := Ext.tr xx1 e4
  refine Qab (.bool (QaE false nm key sg pa ms)) 51 rfl kj kj ?_
  refine Qab (.bool (QaE false nm key sg pa ms)) 2 rfl kj kj ?_
  refine Qaf ?_
  refine hK19 _ _ ?_
  refine wp_ret ?_
  repeat (first | with_reducible refine goR1 ?_ | with_reducible refine goR2 ?_)
  exact (show bodyPost _ _ _ .ret _ _ from ret1 (.bool (QaE false nm key sg pa ms)) rfl (Qaw kj) ⟨by rw [hV]; rfl, x4⟩)
theorem QiV (us : Bool) (nm : Int) (key sg pa ms : List Int) (a_m : Option Addr) (c_m : Nat) (w : World) (hkl : key.length = 32) (hgl : sg.length = 32) (hpl : pa.length = 32) (hm : RdK .i64 w.heap.size ms (.slice a_m ms.length c_m) w) : Calls Try.prog 96 #[.agg (cat [#[.bool us], #[.int .i64 nm], ints .u8 (key), ints .u8 (sg), ints .u8 (pa), #[.slice a_m ms.length c_m]])] w (Ret w (.bool (QbN us nm key sg pa ms))) := by
  unfold QbN
  cases h1 : inB nm 255 with
  | false => exact QiU us nm key sg pa ms a_m c_m w hkl hgl hpl hm h1
  | true =>
    by_cases h2 : ms.length ≤ 32
    · rw [decide_eq_true h2]
      cases us with
      | true => exact QfE nm key sg pa ms a_m c_m w hkl hgl hpl hm h1 h2
      | false => exact Qfg nm key sg pa ms a_m c_m w hkl hgl hpl hm h1 h2
    · rw [decide_eq_false h2]; exact QiT us nm key sg pa ms a_m c_m w hkl hgl hpl hm h1 (by omega)
end Go.Proofs.Ytfelfmchachljaa.Wr
end
