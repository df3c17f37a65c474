/- Texts of this claim, joined (N5). -/
import Derived.Test.YtdoadngmgmdlbaaDoorZN4
import Derived.Lib.LaidTab

set_option linter.unusedVariables false
set_option linter.unusedSimpArgs false
set_option maxHeartbeats 4000000
section
namespace Go.Proofs.YtdoadngmgmdlbaaDoor.Sgn
open Go Go.RowKit
open Rely Auto Own Sha5
open Ladder (clamp)
open Field (Qao resN numA num lims QbW ordL Qb0 QbH QbG QaQ encP Qbe pa Qdh pAdd pNeg mulP QcK okK xK zK lK mulR BP Qcb numB nmul OnP QcH)
structure Tabs (tc tq tO tB tX tY : TypeId) (w : World) : Prop where
  c:w.heap[5]? = some (.cells (ints .u64 Qc6) tc)
  q:w.heap[4]? = some (.cells (ints .u64 Qbc) tq)
  o:w.heap[3]? = some (.cells QbW tO)
  b:w.heap[2]? = some (.cells (ints .u8 Qb0) tB)
  x:w.heap[0]? = some (.cells (ints .u8 QbH) tX)
  y:w.heap[1]? = some (.cells (ints .u8 QbG) tY)
theorem Tabs.ext {tc tq tO tB tX tY:TypeId} {w W:World} (h:Tabs tc tq tO tB tX tY w) (e:Ext w W):Tabs tc tq tO tB tX tY W:=⟨Qaa h.c e,Qaa h.q e,Qaa h.o e,Qaa h.b e,Qaa h.x e,Qaa h.y e⟩
theorem Qn2 (xs : List Int) (hx:xs.length=32) (hb:Qal xs) (tc tq tO tB tX tY:TypeId) (w:World) (hT:Tabs tc tq tO tB tX tY w):Calls Tryd.prog 19 #[.agg (ints .u8 xs)] w (Ret w (.tuple #[.agg (ints .u8 (secV xs)),.agg (ints .u8 (preV xs))])):=by
  unfold secV preV
  exact QpO xs hx hb tc tq w hT.c hT.q
theorem QqY (xs : List Int) (hxs:xs.length=32) (hbxs:Qal xs) (gh:Nat) (Th:TypeId) (gp n:Nat) (Tp:TypeId) (ps:List (Value×List Int)) (hn:ps.length=n) (hn9:n≤1000) (hone:∀ u∈ps.map Prod.fst,u.oneCell'=true) (tc tq tO tB tX tY:TypeId) (w:World) (hT:Tabs tc tq tO tB tX tY w) (hheads:w.heap[gh]? = some (.cells (ints .u8 (xs)) Th)) (hrow:w.heap[gp]? = some (.cells (ps.map Prod.fst).toArray Tp)) (hps:∀ p∈ps,RdK .u8 w.heap.size p.2 p.1 w∧Qal p.2) (t:List Int) (ht:(ps.map Prod.snd).flatten=t) (hlen:t.length≤100000):Calls Tryd.prog 29 #[.slice (some ⟨gp,0,none⟩) n n,.slice (some ⟨gh,0,none⟩) 1 1] w (Ret w (.agg (ints .u8 (resV (xs++t))))):=by
  subst ht
  unfold resV
  exact Qmc xs hxs hbxs gh Th gp n Tp ps hn hn9 hone tc tq tO w hT.c hT.q hT.o hheads hrow hps hlen
theorem QpV (xs ys:List Int) (hxs:xs.length=32) (hbxs:Qal xs) (hys:ys.length=32) (hbys:Qal ys) (gh:Nat) (Th:TypeId) (gp n:Nat) (Tp:TypeId) (ps:List (Value×List Int)) (hn:ps.length=n) (hn9:n≤1000) (hone:∀ u∈ps.map Prod.fst,u.oneCell'=true) (tc tq tO tB tX tY:TypeId) (w:World) (hT:Tabs tc tq tO tB tX tY w) (hheads:w.heap[gh]? = some (.cells (cat [ints .u8 (xs),ints .u8 (ys)]) Th)) (hrow:w.heap[gp]? = some (.cells (ps.map Prod.fst).toArray Tp)) (hps:∀ p∈ps,RdK .u8 w.heap.size p.2 p.1 w∧Qal p.2) (t:List Int) (ht:(ps.map Prod.snd).flatten=t) (hlen:t.length≤100000):Calls Tryd.prog 29 #[.slice (some ⟨gp,0,none⟩) n n,.slice (some ⟨gh,0,none⟩) 2 2] w (Ret w (.agg (ints .u8 (resV (xs++ys++t))))):=by
  subst ht
  unfold resV
  exact Qmb xs ys hxs hbxs hys hbys gh Th gp n Tp ps hn hn9 hone tc tq tO w hT.c hT.q hT.o hheads hrow hps hlen
theorem Qoq (xs : List Int) (hx:xs.length=32) (hb:Qal xs) (tc tq tO tB tX tY:TypeId) (w:World) (hT:Tabs tc tq tO tB tX tY w):Calls Tryd.prog 10 #[.agg (ints .u8 xs)] w (Ret w (.agg (ints .u8 (encP (pa (secV xs)))))):=by
  refine enter 14 [(0,.agg (ints .u8 (xs)))] Tryd.func10 rfl rfl kj rfl ?_
  refine wp_seq_k fun K1 hK1=>?_
  refine Qac ?_
  refine Qaj (ints .u8 (xs)) 23 1 rfl kj kj fun g2 W1 l2 e1 r2_1=>?_
  have x1:Ext w W1:=Ext.tr (Rely.Ext.refl w) e1
  have b2:w.heap.size≤g2:=qT (Rely.Ext.refl w).size l2
  refine Qaj (ints .u8 (List.replicate 32 0)) 23 2 rfl kj kj fun g3 W2 l3 e2 r3_2=>?_
  have x2:Ext w W2:=Ext.tr x1 e2
  have b3:w.heap.size≤g3:=qT x1.size l3
  refine Qaf ?_
  refine hK1 _ _ ?_
  refine wp_seq_k fun K4 hK4=>?_
  refine Qac ?_
  have r2_2:=(Qaa r2_1 e2)
  refine Qab (.agg (ints .u8 (xs))) 6 rfl kj (Qag 23 _ g2 23 _ _ r2_2 rfl kj kj (isz (n:=32) kj ((Qae _ _).trans hx))) ?_
  refine Qar (.tuple #[.agg (ints .u8 (secV xs)),.agg (ints .u8 (preV xs))]) 19 #[.agg (ints .u8 (xs))] 7 rfl kj kj (Qn2 xs hx hb tc tq tO tB tX tY _ (hT.ext x2)) fun W3 e3=>?_
  have x3:Ext w W3:=Ext.tr x2 e3
  refine Qab (.tuple #[.agg (ints .u8 (secV xs)),.agg (ints .u8 (preV xs))]) 5 rfl kj kj ?_
  refine Qab (.agg (ints .u8 (secV xs))) 8 rfl kj kj ?_
  refine Qab (.agg (ints .u8 (preV xs))) 9 rfl kj kj ?_
  refine Qaj (ints .u8 (List.replicate 32 0)) 23 3 rfl kj kj fun g5 W4 l5 e4 r5_4=>?_
  have x4:Ext w W4:=Ext.tr x3 e4
  have b5:w.heap.size≤g5:=qT x3.size l5
  refine Qaj (ints .u8 (List.replicate 32 0)) 23 4 rfl kj kj fun g6 W5 l6 e5 r6_5=>?_
  have x5:Ext w W5:=Ext.tr x4 e5
  have b6:w.heap.size≤g6:=qT x4.size l6
  have r5_5:=(Qaa r5_4 e5)
  refine Qak g5 _ (ints .u8 (secV xs)) 23 r5_5 rfl kj (Qah 23 _ _ g5 23 _ _ r5_5 rfl kj kj (isz (n:=32) kj ((Qae _ _).trans (QbC xs))) (eqsz (n:=32) ((Qae _ _).trans (qZ (n:=32))) ((Qae _ _).trans (QbC xs))) (ints_one _ _)) fun W6 p6 r5_6=>?_
  have x6:Ext w W6:=Puts.ext p6 x5 b5
  have r6_6:=(Puts.row p6 r6_5 (Qat r5_4 l6))
  refine Qak g6 _ (ints .u8 (preV xs)) 23 r6_6 rfl kj (Qah 23 _ _ g6 23 _ _ r6_6 rfl kj kj (isz (n:=32) kj ((Qae _ _).trans (Qb8 xs))) (eqsz (n:=32) ((Qae _ _).trans (qZ (n:=32))) ((Qae _ _).trans (Qb8 xs))) (ints_one _ _)) fun W7 p7 r6_7=>?_
  have x7:Ext w W7:=Puts.ext p7 x6 b6
  refine Qaf ?_
  refine hK4 _ _ ?_
  refine wp_seq_k fun K7 hK7=>?_
  refine QaK 4 [⟨none,[]⟩,⟨none,[(3,none)]⟩,⟨none,[(10,some 0),(11,some 1)]⟩,⟨none,[(12,some 2)]⟩] kj kj fun F hF=>?_
  refine Qau (.agg (Field.ptA (BP))) 20 #[] kj kj (fun W=>kj) (fun W hR=>Field.ptBase W tX (hT.ext (Rely.Ext.trans (Rely.Ext.trans x7 (Qai _)) hR)).x tY (hT.ext (Rely.Ext.trans (Rely.Ext.trans x7 (Qai _)) hR)).y) ?_
  have r5_7:=(Puts.row p7 r5_6 (Qad r5_4 l6))
  refine Qaq (.agg (ints .u8 (secV xs))) kj kj (fun W hR=>(Qag 23 _ g5 23 _ _ (Qaa (Qaa r5_7 (Qai _)) hR) rfl kj kj (isz (n:=32) kj ((Qae _ _).trans (QbC xs))))) ?_
  refine Qau (.agg (Field.ptA (pa (secV xs)))) 21 #[.agg (Field.ptA (BP)),.agg (ints .u8 (secV xs))] kj kj (fun W=>kj) (fun W hR=>Field.ptTimes Qcb (secV xs) (QbC xs) (Qc8 xs) W tB (hT.ext (Rely.Ext.trans (Rely.Ext.trans x7 (Qai _)) hR)).b) ?_
  refine Qau (.agg (ints .u8 (encP (pa (secV xs))))) 22 #[.agg (Field.ptA (pa (secV xs)))] kj kj (fun W=>kj) (fun W hR=>Field.ptBytes (Qdh (secV xs)) W) ?_
  refine Qa9 (hF _ kj fun W8 e8=>?_)
  simp only [ups,up,Kn.val,List.take_succ_cons,List.take_zero,List.drop_succ_cons,List.drop_zero,List.nil_append,List.cons_append]
  clear hF
  have x8:Ext w W8:=Ext.tr x7 e8
  have r3_3:=(Qaa r3_2 e3)
  have r3_4:=(Qaa r3_3 e4)
  have r3_5:=(Qaa r3_4 e5)
  have r3_6:=(Puts.row p6 r3_5 (Qad r3_3 l5))
  have r3_7:=(Puts.row p7 r3_6 (Qad r3_4 l6))
  have r3_8:=(Qaa r3_7 e8)
  refine Qak g3 _ (ints .u8 (encP (pa (secV xs)))) 23 r3_8 rfl kj (Qah 23 _ _ g3 23 _ _ r3_8 rfl kj kj (isz (n:=32) kj ((Qae _ _).trans (Qbe _))) (eqsz (n:=32) ((Qae _ _).trans (qZ (n:=32))) ((Qae _ _).trans (Qbe _))) (ints_one _ _)) fun W9 p9 r3_9=>?_
  have x9:Ext w W9:=Puts.ext p9 x8 b3
  refine Qaf ?_
  refine hK7 _ _ ?_
  refine wp_ret ?_
  repeat (first | with_reducible refine goR1 ?_ | with_reducible refine goR2 ?_)
  exact (show bodyPost _ _ _ .ret _ _ from ret1 (.agg (ints .u8 (encP (pa (secV xs))))) rfl (QaC g3 23 _ r3_9 kj kj (isz (n:=32) kj ((Qae _ _).trans (Qbe _)))) ⟨rfl,x9⟩)
theorem Qop (xs : List Int) (hx:xs.length=32) (hb:Qal xs) (tc tq tO tB tX tY:TypeId) (w:World) (hT:Tabs tc tq tO tB tX tY w):Calls Tryd.prog 10 #[.agg (ints .u8 xs)] w (Ret w (.agg (ints .u8 (pubV xs)))):=by
  unfold pubV
  exact Qoq xs hx hb tc tq tO tB tX tY w hT
end Go.Proofs.YtdoadngmgmdlbaaDoor.Sgn
end
section
namespace Go.Proofs.YtdoadngmgmdlbaaDoor.Sgn
open Go Go.RowKit
open Rely Auto Own Sha5
open Ladder (clamp)
open Field (Qao resN numA num lims QbW ordL Qb0 QbH QbG QaQ encP Qbe pa Qdh pAdd pNeg mulP QcK okK xK zK lK mulR BP Qcb numB nmul OnP QcH)
theorem Qor (xs : List Int):encP (pa (secV xs))=pubV xs:=by unfold pubV; rfl
theorem Qn4 (xs t:List Int):resV (preV xs++t)=sgR xs t:=by unfold sgR; rfl
theorem Qn6 (xs t:List Int):encP (pa (sgR xs t))=sgF xs t:=by unfold sgF; rfl
theorem Qn5 (xs t:List Int):resV (sgF xs t++pubV xs++t)=sgK xs t:=by unfold sgK; rfl
theorem Qn3 (xs t:List Int):Qao (mulR (sgK xs t) (secV xs) (sgR xs t))=sgS xs t:=by unfold sgS; rfl
theorem Qko (xs t:List Int):sgF xs t++sgS xs t=sigV xs t:=by unfold sigV; rfl
theorem Qpt {z : List Int} (h:z.length=32):(List.replicate 64 (0:Int)).take (0+0)++z.take 32++(List.replicate 64 (0:Int)).drop ((0+0)+32)=z++List.replicate 32 0:=by
  rw [List.take_of_length_le (qE h)]
  rfl
theorem Qpu {a z:List Int} (ha:a.length=32) (h:z.length=32):(a++List.replicate 32 (0:Int)).take (0+32)++z.take 32++(a++List.replicate 32 (0:Int)).drop ((0+32)+32)=a++z:=by
  rw [List.take_of_length_le (qE h),List.take_left' ha,List.drop_of_length_le (by rw [List.length_append,ha,qZ]; decide),List.append_nil]
theorem QkZ {a z:List Int} (ha:a.length=32) (h:z.length=32):(a++z).length=64:=by rw [List.length_append,ha,h]
theorem QqV (xs : List Int) (hx:xs.length=32) (hb:Qal xs) (gp n:Nat) (Tp:TypeId) (ps:List (Value×List Int)) (hn:ps.length=n) (hn9:n≤1000) (hone:∀ u∈ps.map Prod.fst,u.oneCell'=true) (tc tq tO tB tX tY:TypeId) (w:World) (hT:Tabs tc tq tO tB tX tY w) (hrow:w.heap[gp]? = some (.cells (ps.map Prod.fst).toArray Tp)) (hps:∀ p∈ps,RdK .u8 w.heap.size p.2 p.1 w∧Qal p.2) (t:List Int) (ht:(ps.map Prod.snd).flatten=t) (hlen:t.length≤100000):Calls Tryd.prog 13 #[.agg (ints .u8 xs),.slice (some ⟨gp,0,none⟩) n n] w (Ret w (.agg (ints .u8 (sigV xs t)))):=by
  refine enter 46 [(0,.agg (ints .u8 (xs))),(1,.slice (some ⟨gp,0,none⟩) n n)] Tryd.func13 rfl rfl kj rfl ?_
  refine wp_seq_k fun K2 hK2=>?_
  refine Qac ?_
  refine Qaj (ints .u8 (xs)) 23 2 rfl kj kj fun g3 W1 l3 e1 r3_1=>?_
  have x1:Ext w W1:=Ext.tr (Rely.Ext.refl w) e1
  have b3:w.heap.size≤g3:=qT (Rely.Ext.refl w).size l3
  refine Qaj (ints .u8 (List.replicate 64 0)) 30 4 rfl kj kj fun g4 W2 l4 e2 r4_2=>?_
  have x2:Ext w W2:=Ext.tr x1 e2
  have b4:w.heap.size≤g4:=qT x1.size l4
  refine Qaf ?_
  refine hK2 _ _ ?_
  refine wp_seq_k fun K5 hK5=>?_
  refine Qac ?_
  have r3_2:=(Qaa r3_1 e2)
  refine Qab (.agg (ints .u8 (xs))) 14 rfl kj (Qag 23 _ g3 23 _ _ r3_2 rfl kj kj (isz (n:=32) kj ((Qae _ _).trans hx))) ?_
  refine Qar (.tuple #[.agg (ints .u8 (secV xs)),.agg (ints .u8 (preV xs))]) 19 #[.agg (ints .u8 (xs))] 15 rfl kj kj (Qn2 xs hx hb tc tq tO tB tX tY _ (hT.ext x2)) fun W3 e3=>?_
  have x3:Ext w W3:=Ext.tr x2 e3
  refine Qab (.tuple #[.agg (ints .u8 (secV xs)),.agg (ints .u8 (preV xs))]) 13 rfl kj kj ?_
  refine Qab (.agg (ints .u8 (secV xs))) 16 rfl kj kj ?_
  refine Qab (.agg (ints .u8 (preV xs))) 17 rfl kj kj ?_
  refine Qaj (ints .u8 (List.replicate 32 0)) 23 5 rfl kj kj fun g6 W4 l6 e4 r6_4=>?_
  have x4:Ext w W4:=Ext.tr x3 e4
  have b6:w.heap.size≤g6:=qT x3.size l6
  refine Qaj (ints .u8 (List.replicate 32 0)) 23 6 rfl kj kj fun g7 W5 l7 e5 r7_5=>?_
  have x5:Ext w W5:=Ext.tr x4 e5
  have b7:w.heap.size≤g7:=qT x4.size l7
  have r6_5:=(Qaa r6_4 e5)
  refine Qak g6 _ (ints .u8 (secV xs)) 23 r6_5 rfl kj (Qah 23 _ _ g6 23 _ _ r6_5 rfl kj kj (isz (n:=32) kj ((Qae _ _).trans (QbC xs))) (eqsz (n:=32) ((Qae _ _).trans (qZ (n:=32))) ((Qae _ _).trans (QbC xs))) (ints_one _ _)) fun W6 p6 r6_6=>?_
  have x6:Ext w W6:=Puts.ext p6 x5 b6
  have r7_6:=(Puts.row p6 r7_5 (Qat r6_4 l7))
  refine Qak g7 _ (ints .u8 (preV xs)) 23 r7_6 rfl kj (Qah 23 _ _ g7 23 _ _ r7_6 rfl kj kj (isz (n:=32) kj ((Qae _ _).trans (Qb8 xs))) (eqsz (n:=32) ((Qae _ _).trans (qZ (n:=32))) ((Qae _ _).trans (Qb8 xs))) (ints_one _ _)) fun W7 p7 r7_7=>?_
  have x7:Ext w W7:=Puts.ext p7 x6 b7
  refine Qaf ?_
  refine hK5 _ _ ?_
  refine wp_seq_k fun K8 hK8=>?_
  refine Qbd 5 [⟨none,[]⟩,⟨none,[(5,none)]⟩,⟨none,[(18,some 0),(19,some 1)]⟩,⟨none,[(20,some 2)]⟩,⟨none,[]⟩] [4] kj kj kj fun F hF=>?_
  refine Qau (.agg (Field.ptA (BP))) 20 #[] kj kj (fun W=>kj) (fun W hR=>Field.ptBase W tX (hT.ext (Rely.Ext.trans (Rely.Ext.trans x7 (Qai _)) hR)).x tY (hT.ext (Rely.Ext.trans (Rely.Ext.trans x7 (Qai _)) hR)).y) ?_
  have r6_7:=(Puts.row p7 r6_6 (Qad r6_4 l7))
  refine Qaq (.agg (ints .u8 (secV xs))) kj kj (fun W hR=>(Qag 23 _ g6 23 _ _ (Qaa (Qaa r6_7 (Qai _)) hR) rfl kj kj (isz (n:=32) kj ((Qae _ _).trans (QbC xs))))) ?_
  refine Qau (.agg (Field.ptA (pa (secV xs)))) 21 #[.agg (Field.ptA (BP)),.agg (ints .u8 (secV xs))] kj kj (fun W=>kj) (fun W hR=>Field.ptTimes Qcb (secV xs) (QbC xs) (Qc8 xs) W tB (hT.ext (Rely.Ext.trans (Rely.Ext.trans x7 (Qai _)) hR)).b) ?_
  refine Qau (.agg (ints .u8 (encP (pa (secV xs))))) 22 #[.agg (Field.ptA (pa (secV xs)))] kj kj (fun W=>kj) (fun W hR=>Field.ptBytes (Qdh (secV xs)) W) ?_
  refine QbN (ints .u8 (List.replicate 32 0)) 23 kj (qR _) kj (fun W=>kj) ?_
  refine Qa9 (hF _ kj fun W8 e8=>?_)
  simp only [fins,up,List.take_succ_cons,List.take_zero,List.drop_succ_cons,List.drop_zero,List.nil_append,List.cons_append]
  intro g9 l9 r9_8 n9
  have b9:w.heap.size≤g9:=qT x7.size l9
  clear hF
  have x8:Ext w W8:=Ext.tr x7 e8
  refine Qak g9 _ (ints .u8 (encP (pa (secV xs)))) 23 r9_8 rfl kj (Qah 23 _ _ g9 23 _ _ r9_8 rfl kj kj (isz (n:=32) kj ((Qae _ _).trans (Qbe _))) (eqsz (n:=32) ((Qae _ _).trans (qZ (n:=32))) ((Qae _ _).trans (Qbe _))) (ints_one _ _)) fun W9 p9 r9_9=>?_
  have x9:Ext w W9:=Puts.ext p9 x8 b9
  refine Qaf ?_
  refine hK8 _ _ ?_
  refine wp_seq_k fun K10 hK10=>?_
  have r9_9_11:W9.heap[g9]? = some (.cells (ints .u8 (pubV xs)) 23):=QaB r9_9 (Qor xs)
  refine Qac ?_
  refine Qab (.slice (some ⟨gp,0,none⟩) n n) 22 rfl kj kj ?_
  have r7_8:=(Qaa r7_7 e8)
  have r7_9:=(Puts.row p9 r7_8 (Qad r7_7 l9))
  refine Qab (.agg (ints .u8 (preV xs))) 23 rfl kj (Qag 23 _ g7 23 _ _ r7_9 rfl kj kj (isz (n:=32) kj ((Qae _ _).trans (Qb8 xs)))) ?_
  refine QaR (ints .u8 (preV xs)) 23 1 24 rfl kj (Qim (P:=Tryd.prog) 94 23 1 _ (.agg (ints .u8 (List.replicate 32 0))) ([(0,32,.agg (ints .u8 (preV xs)),ints .u8 (preV xs))]:List (Nat×Nat×Value×Array Value)) rfl kj kj kj ⟨rfl,rfl,(Qae _ _).trans (Qb8 xs),trivial⟩ rfl (by decide) (by decide)) fun g12 W10 l12 e10 r12_10=>?_
  have x10:Ext w W10:=Ext.tr x9 e10
  have b12:w.heap.size≤g12:=qT x9.size l12
  have r1_1:=(Qaa hrow e1)
  have r1_2:=(Qaa r1_1 e2)
  have r1_3:=(Qaa r1_2 e3)
  have r1_4:=(Qaa r1_3 e4)
  have r1_5:=(Qaa r1_4 e5)
  have r1_6:=(Puts.row p6 r1_5 (Qad r1_3 l6))
  have r1_7:=(Puts.row p7 r1_6 (Qad r1_4 l7))
  have r1_8:=(Qaa r1_7 e8)
  have r1_9:=(Puts.row p9 r1_8 (Qad r1_7 l9))
  have r1_10:=(Qaa r1_9 e10)
  refine Qar (.agg (ints .u8 (resV ((preV xs)++t)))) 29 #[.slice (some ⟨gp,0,none⟩) n n,.slice (some ⟨g12,0,none⟩) 1 1] 25 rfl kj kj (QqY (preV xs) (Qb8 xs) (Qgf xs) g12 _ gp n Tp ps hn hn9 hone tc tq tO tB tX tY _ (hT.ext x10) r12_10 r1_10 (fun p hp=>⟨RdK.here ((hps p hp).1.ext x10),(hps p hp).2⟩) t ht hlen) fun W11 e11=>?_
  have x11:Ext w W11:=Ext.tr x10 e11
  refine Qaj (ints .u8 (List.replicate 32 0)) 23 8 rfl kj kj fun g13 W12 l13 e12 r13_12=>?_
  have x12:Ext w W12:=Ext.tr x11 e12
  have b13:w.heap.size≤g13:=qT x11.size l13
  refine Qak g13 _ (ints .u8 (resV ((preV xs)++t))) 23 r13_12 rfl kj (Qah 23 _ _ g13 23 _ _ r13_12 rfl kj kj (isz (n:=32) kj ((Qae _ _).trans (QbV _))) (eqsz (n:=32) ((Qae _ _).trans (qZ (n:=32))) ((Qae _ _).trans (QbV _))) (ints_one _ _)) fun W13 p13 r13_13=>?_
  have x13:Ext w W13:=Puts.ext p13 x12 b13
  refine Qaf ?_
  refine hK10 _ _ ?_
  refine wp_seq_k fun K14 hK14=>?_
  have r13_13_15:W13.heap[g13]? = some (.cells (ints .u8 (sgR xs t)) 23):=QaB r13_13 (Qn4 xs t)
  refine Qbd 5 [⟨none,[]⟩,⟨none,[(8,none)]⟩,⟨none,[(26,some 0),(27,some 1)]⟩,⟨none,[(28,some 2)]⟩,⟨none,[]⟩] [4] kj kj kj fun F hF=>?_
  refine Qau (.agg (Field.ptA (BP))) 20 #[] kj kj (fun W=>kj) (fun W hR=>Field.ptBase W tX (hT.ext (Rely.Ext.trans (Rely.Ext.trans x13 (Qai _)) hR)).x tY (hT.ext (Rely.Ext.trans (Rely.Ext.trans x13 (Qai _)) hR)).y) ?_
  refine Qaq (.agg (ints .u8 (sgR xs t))) kj kj (fun W hR=>(Qag 23 _ g13 23 _ _ (Qaa (Qaa r13_13_15 (Qai _)) hR) rfl kj kj (isz (n:=32) kj ((Qae _ _).trans (QbT xs t))))) ?_
  refine Qau (.agg (Field.ptA (pa (sgR xs t)))) 21 #[.agg (Field.ptA (BP)),.agg (ints .u8 (sgR xs t))] kj kj (fun W=>kj) (fun W hR=>Field.ptTimes Qcb (sgR xs t) (QbT xs t) (Qdi xs t) W tB (hT.ext (Rely.Ext.trans (Rely.Ext.trans x13 (Qai _)) hR)).b) ?_
  refine Qau (.agg (ints .u8 (encP (pa (sgR xs t))))) 22 #[.agg (Field.ptA (pa (sgR xs t)))] kj kj (fun W=>kj) (fun W hR=>Field.ptBytes (Qdh (sgR xs t)) W) ?_
  refine QbN (ints .u8 (List.replicate 32 0)) 23 kj (qR _) kj (fun W=>kj) ?_
  refine Qa9 (hF _ kj fun W14 e14=>?_)
  simp only [fins,up,List.take_succ_cons,List.take_zero,List.drop_succ_cons,List.drop_zero,List.nil_append,List.cons_append]
  intro g16 l16 r16_14 n16
  have b16:w.heap.size≤g16:=qT x13.size l16
  clear hF
  have x14:Ext w W14:=Ext.tr x13 e14
  refine Qak g16 _ (ints .u8 (encP (pa (sgR xs t)))) 23 r16_14 rfl kj (Qah 23 _ _ g16 23 _ _ r16_14 rfl kj kj (isz (n:=32) kj ((Qae _ _).trans (Qbe _))) (eqsz (n:=32) ((Qae _ _).trans (qZ (n:=32))) ((Qae _ _).trans (Qbe _))) (ints_one _ _)) fun W15 p15 r16_15=>?_
  have x15:Ext w W15:=Puts.ext p15 x14 b16
  refine Qaf ?_
  refine hK14 _ _ ?_
  refine wp_seq_k fun K17 hK17=>?_
  have r16_15_18:W15.heap[g16]? = some (.cells (ints .u8 (sgF xs t)) 23):=QaB r16_15 (Qn6 xs t)
  refine Qac ?_
  refine Qab (.slice (some ⟨gp,0,none⟩) n n) 30 rfl kj kj ?_
  refine Qab (.agg (ints .u8 (sgF xs t))) 31 rfl kj (Qag 23 _ g16 23 _ _ r16_15_18 rfl kj kj (isz (n:=32) kj ((Qae _ _).trans (Qbf xs t)))) ?_
  have r9_10:=(Qaa r9_9_11 e10)
  have r9_11:=(Qaa r9_10 e11)
  have r9_12:=(Qaa r9_11 e12)
  have r9_13:=(Puts.row p13 r9_12 (Qad r9_11 l13))
  have r9_14:=(Qaa r9_13 e14)
  have r9_15:=(Puts.row p15 r9_14 (Qad r9_13 l16))
  refine Qab (.agg (ints .u8 (pubV xs))) 32 rfl kj (Qag 23 _ g9 23 _ _ r9_15 rfl kj kj (isz (n:=32) kj ((Qae _ _).trans (Qbn xs)))) ?_
  refine QaR (cat [ints .u8 (sgF xs t),ints .u8 (pubV xs)]) 23 2 33 rfl kj (Qim (P:=Tryd.prog) 94 23 2 _ (.agg (ints .u8 (List.replicate 32 0))) ([(0,32,.agg (ints .u8 (sgF xs t)),ints .u8 (sgF xs t)),(1,32,.agg (ints .u8 (pubV xs)),ints .u8 (pubV xs))]:List (Nat×Nat×Value×Array Value)) rfl kj kj kj ⟨rfl,rfl,(Qae _ _).trans (Qbf xs t),rfl,rfl,(Qae _ _).trans (Qbn xs),trivial⟩ rfl (by decide) (by decide)) fun g19 W16 l19 e16 r19_16=>?_
  have x16:Ext w W16:=Ext.tr x15 e16
  have b19:w.heap.size≤g19:=qT x15.size l19
  have r1_11:=(Qaa r1_10 e11)
  have r1_12:=(Qaa r1_11 e12)
  have r1_13:=(Puts.row p13 r1_12 (Qad r1_11 l13))
  have r1_14:=(Qaa r1_13 e14)
  have r1_15:=(Puts.row p15 r1_14 (Qad r1_13 l16))
  have r1_16:=(Qaa r1_15 e16)
  refine Qar (.agg (ints .u8 (resV ((sgF xs t)++(pubV xs)++t)))) 29 #[.slice (some ⟨gp,0,none⟩) n n,.slice (some ⟨g19,0,none⟩) 2 2] 34 rfl kj kj (QpV (sgF xs t) (pubV xs) (Qbf xs t) (Qev xs t) (Qbn xs) (Qdn xs) g19 _ gp n Tp ps hn hn9 hone tc tq tO tB tX tY _ (hT.ext x16) r19_16 r1_16 (fun p hp=>⟨RdK.here ((hps p hp).1.ext x16),(hps p hp).2⟩) t ht hlen) fun W17 e17=>?_
  have x17:Ext w W17:=Ext.tr x16 e17
  refine Qaj (ints .u8 (List.replicate 32 0)) 23 10 rfl kj kj fun g20 W18 l20 e18 r20_18=>?_
  have x18:Ext w W18:=Ext.tr x17 e18
  have b20:w.heap.size≤g20:=qT x17.size l20
  refine Qak g20 _ (ints .u8 (resV ((sgF xs t)++(pubV xs)++t))) 23 r20_18 rfl kj (Qah 23 _ _ g20 23 _ _ r20_18 rfl kj kj (isz (n:=32) kj ((Qae _ _).trans (QbV _))) (eqsz (n:=32) ((Qae _ _).trans (qZ (n:=32))) ((Qae _ _).trans (QbV _))) (ints_one _ _)) fun W19 p19 r20_19=>?_
  have x19:Ext w W19:=Puts.ext p19 x18 b20
  refine Qaf ?_
  refine hK17 _ _ ?_
  refine wp_seq_k fun K21 hK21=>?_
  have r20_19_22:W19.heap[g20]? = some (.cells (ints .u8 (sgK xs t)) 23):=QaB r20_19 (Qn5 xs t)
  refine Qac ?_
  refine Qab (.agg (ints .u8 (sgK xs t))) 35 rfl kj (Qag 23 _ g20 23 _ _ r20_19_22 rfl kj kj (isz (n:=32) kj ((Qae _ _).trans (Qg3 xs t)))) ?_
  have r6_8:=(Qaa r6_7 e8)
  have r6_9:=(Puts.row p9 r6_8 (Qad r6_7 l9))
  have r6_10:=(Qaa r6_9 e10)
  have r6_11:=(Qaa r6_10 e11)
  have r6_12:=(Qaa r6_11 e12)
  have r6_13:=(Puts.row p13 r6_12 (Qad r6_11 l13))
  have r6_14:=(Qaa r6_13 e14)
  have r6_15:=(Puts.row p15 r6_14 (Qad r6_13 l16))
  have r6_16:=(Qaa r6_15 e16)
  have r6_17:=(Qaa r6_16 e17)
  have r6_18:=(Qaa r6_17 e18)
  have r6_19:=(Puts.row p19 r6_18 (Qad r6_17 l20))
  refine Qab (.agg (ints .u8 (secV xs))) 36 rfl kj (Qag 23 _ g6 23 _ _ r6_19 rfl kj kj (isz (n:=32) kj ((Qae _ _).trans (QbC xs)))) ?_
  have r13_14:=(Qaa r13_13_15 e14)
  have r13_15:=(Puts.row p15 r13_14 (Qad r13_13_15 l16))
  have r13_16:=(Qaa r13_15 e16)
  have r13_17:=(Qaa r13_16 e17)
  have r13_18:=(Qaa r13_17 e18)
  have r13_19:=(Puts.row p19 r13_18 (Qad r13_17 l20))
  refine Qab (.agg (ints .u8 (sgR xs t))) 37 rfl kj (Qag 23 _ g13 23 _ _ r13_19 rfl kj kj (isz (n:=32) kj ((Qae _ _).trans (QbT xs t)))) ?_
  refine Qar (.agg (ints .u8 (Qao (mulR (sgK xs t) (secV xs) (sgR xs t))))) 30 #[.agg (ints .u8 (sgK xs t)),.agg (ints .u8 (secV xs)),.agg (ints .u8 (sgR xs t))] 38 rfl kj kj (Field.mulAddC (sgK xs t) (secV xs) (sgR xs t) (Qg3 xs t) (Qeu xs t) (QbC xs) (Qc8 xs) (QbT xs t) (Qdi xs t) _ tO (hT.ext x19).o) fun W20 e20=>?_
  have x20:Ext w W20:=Ext.tr x19 e20
  refine Qaj (ints .u8 (List.replicate 32 0)) 23 11 rfl kj kj fun g23 W21 l23 e21 r23_21=>?_
  have x21:Ext w W21:=Ext.tr x20 e21
  have b23:w.heap.size≤g23:=qT x20.size l23
  refine Qak g23 _ (ints .u8 (Qao (mulR (sgK xs t) (secV xs) (sgR xs t)))) 23 r23_21 rfl kj (Qah 23 _ _ g23 23 _ _ r23_21 rfl kj kj (isz (n:=32) kj ((Qae _ _).trans (bytesOf_len _))) (eqsz (n:=32) ((Qae _ _).trans (qZ (n:=32))) ((Qae _ _).trans (bytesOf_len _))) (ints_one _ _)) fun W22 p22 r23_22=>?_
  have x22:Ext w W22:=Puts.ext p22 x21 b23
  refine Qaf ?_
  refine hK21 _ _ ?_
  refine wp_seq_k fun K24 hK24=>?_
  have r23_22_25:W22.heap[g23]? = some (.cells (ints .u8 (sgS xs t)) 23):=QaB r23_22 (Qn3 xs t)
  refine Qac ?_
  refine Qaj (ints .u8 (List.replicate 64 0)) 30 12 rfl kj kj fun g26 W23 l26 e23 r26_23=>?_
  have x23:Ext w W23:=Ext.tr x22 e23
  have b26:w.heap.size≤g26:=qT x22.size l26
  refine Qaf ?_
  refine hK24 _ _ ?_
  refine wp_seq_k fun K27 hK27=>?_
  refine Qbb 2 [⟨none,[(12,none)]⟩,⟨none,[(9,none)]⟩] kj kj fun F hF=>?_
  refine QaL (Qaz _) (.slice (some ⟨g26,0+0,none⟩) (32-0) (64-0)) kj kj (fun W=>(Qb4 30 _ _ _ 0 32 64 g26 0 5 rfl kj kj kj rfl ⟨.i64,kj⟩ (by omega) (by omega) (by omega))) ?_
  refine QaL (Qaz _) (.slice (some ⟨g16,0,none⟩) 32 32) kj kj (fun W=>kj) ?_
  refine QdE (hF _ fun W24 e24=>?_)
  simp only [List.nil_append,List.cons_append,List.take_succ_cons,List.take_zero,List.drop_succ_cons,List.drop_zero,finE,up]
  clear hF
  have x24:Ext w W24:=Ext.tr x23 e24
  have r16_16:=(Qaa r16_15_18 e16)
  have r16_17:=(Qaa r16_16 e17)
  have r16_18:=(Qaa r16_17 e18)
  have r16_19:=(Puts.row p19 r16_18 (Qad r16_17 l20))
  have r16_20:=(Qaa r16_19 e20)
  have r16_21:=(Qaa r16_20 e21)
  have r16_22:=(Puts.row p22 r16_21 (Qad r16_20 l23))
  have r16_23:=(Qaa r16_22 e23)
  have r16_24:=(Qaa r16_23 e24)
  have hrd28:RdK .u8 W24.heap.size (sgF xs t) (.slice (some ⟨g16,0,none⟩) 32 32) W24:=Qeb 0 (Qbf xs t) r16_24 (fun i hi=>by rw [Nat.zero_add]; exact Qas .u8 _ i (by rw [Qbf xs t]; exact hi)) (Qa3 r16_24) (by decide) (by decide)
  have r26_24:=(Qaa r26_23 e24)
  refine Qcn (k:=.u8) (e:=5) (z:=sgF xs t) (.tmp 39) (.tmp 40) 27 27 41 rfl kj kj rfl kj (off:=0+0) (dl:=32-0) (dc:=64-0) (n:=32) (xs:=List.replicate 64 0) kj kj hrd28 r26_24 (qT (show 0+0+(32-0)≤64 from (by decide)) (qE (qZ (n:=64)).symm)) (by rw [(Qbf xs t)]; rfl) fun W25 p25 r26_25=>?_
  have x25:Ext w W25:=Puts.ext p25 x24 b26
  have r26_25_29:W25.heap[g26]? = some (.cells (ints .u8 (sgF xs t++List.replicate 32 0)) 30):=QaB r26_25 (Qpt (Qbf xs t))
  refine Qaf ?_
  refine hK27 _ _ ?_
  refine wp_seq_k fun K30 hK30=>?_
  refine Qbb 2 [⟨none,[(12,none)]⟩,⟨none,[(11,none)]⟩] kj kj fun F hF=>?_
  refine QaL (Qaz _) (.slice (some ⟨g26,0+32,none⟩) (64-32) (64-32)) kj kj (fun W=>(Qb4 30 _ _ _ 32 64 64 g26 0 5 rfl kj kj kj ⟨.i64,kj⟩ rfl (by omega) (by omega) (by omega))) ?_
  refine QaL (Qaz _) (.slice (some ⟨g23,0,none⟩) 32 32) kj kj (fun W=>kj) ?_
  refine QdE (hF _ fun W26 e26=>?_)
  simp only [List.nil_append,List.cons_append,List.take_succ_cons,List.take_zero,List.drop_succ_cons,List.drop_zero,finE,up]
  clear hF
  have x26:Ext w W26:=Ext.tr x25 e26
  have r23_23:=(Qaa r23_22_25 e23)
  have r23_24:=(Qaa r23_23 e24)
  have r23_25:=(Puts.row p25 r23_24 (Qad r23_22_25 l26))
  have r23_26:=(Qaa r23_25 e26)
  have hrd31:RdK .u8 W26.heap.size (sgS xs t) (.slice (some ⟨g23,0,none⟩) 32 32) W26:=Qeb 0 (Qdq xs t) r23_26 (fun i hi=>by rw [Nat.zero_add]; exact Qas .u8 _ i (by rw [Qdq xs t]; exact hi)) (Qa3 r23_26) (by decide) (by decide)
  have r26_26:=(Qaa r26_25_29 e26)
  refine Qcn (k:=.u8) (e:=5) (z:=sgS xs t) (.tmp 42) (.tmp 43) 27 27 44 rfl kj kj rfl kj (off:=0+32) (dl:=64-32) (dc:=64-32) (n:=32) (xs:=sgF xs t++List.replicate 32 0) kj kj hrd31 r26_26 (qT (show 0+32+(64-32)≤64 from (by decide)) (qE (QkZ (Qbf xs t) qZ).symm)) (by rw [(Qdq xs t)]; rfl) fun W27 p27 r26_27=>?_
  have x27:Ext w W27:=Puts.ext p27 x26 b26
  have r26_27_32:W27.heap[g26]? = some (.cells (ints .u8 (sgF xs t++sgS xs t)) 30):=QaB r26_27 (Qpu (Qbf xs t) (Qdq xs t))
  refine Qaf ?_
  refine hK30 _ _ ?_
  refine wp_seq_k fun K33 hK33=>?_
  have r26_27_34:W27.heap[g26]? = some (.cells (ints .u8 (sigV xs t)) 30):=QaB r26_27_32 (Qko xs t)
  refine Qac ?_
  refine Qab (.agg (ints .u8 (sigV xs t))) 45 rfl kj (Qag 30 _ g26 30 _ _ r26_27_34 rfl kj kj (isz (n:=64) kj ((Qae _ _).trans (QbB xs t)))) ?_
  have r4_3:=(Qaa r4_2 e3)
  have r4_4:=(Qaa r4_3 e4)
  have r4_5:=(Qaa r4_4 e5)
  have r4_6:=(Puts.row p6 r4_5 (Qad r4_3 l6))
  have r4_7:=(Puts.row p7 r4_6 (Qad r4_4 l7))
  have r4_8:=(Qaa r4_7 e8)
  have r4_9:=(Puts.row p9 r4_8 (Qad r4_7 l9))
  have r4_10:=(Qaa r4_9 e10)
  have r4_11:=(Qaa r4_10 e11)
  have r4_12:=(Qaa r4_11 e12)
  have r4_13:=(Puts.row p13 r4_12 (Qad r4_11 l13))
  have r4_14:=(Qaa r4_13 e14)
  have r4_15:=(Puts.row p15 r4_14 (Qad r4_13 l16))
  have r4_16:=(Qaa r4_15 e16)
  have r4_17:=(Qaa r4_16 e17)
  have r4_18:=(Qaa r4_17 e18)
  have r4_19:=(Puts.row p19 r4_18 (Qad r4_17 l20))
  have r4_20:=(Qaa r4_19 e20)
  have r4_21:=(Qaa r4_20 e21)
  have r4_22:=(Puts.row p22 r4_21 (Qad r4_20 l23))
  have r4_23:=(Qaa r4_22 e23)
  have r4_24:=(Qaa r4_23 e24)
  have r4_25:=(Puts.row p25 r4_24 (Qad r4_22 l26))
  have r4_26:=(Qaa r4_25 e26)
  have r4_27:=(Puts.row p27 r4_26 (Qad r4_22 l26))
  refine Qak g4 _ (ints .u8 (sigV xs t)) 30 r4_27 rfl kj (Qah 30 _ _ g4 30 _ _ r4_27 rfl kj kj (isz (n:=64) kj ((Qae _ _).trans (QbB xs t))) (eqsz (n:=64) ((Qae _ _).trans (qZ (n:=64))) ((Qae _ _).trans (QbB xs t))) (ints_one _ _)) fun W28 p28 r4_28=>?_
  have x28:Ext w W28:=Puts.ext p28 x27 b4
  refine Qaf ?_
  refine hK33 _ _ ?_
  refine wp_ret ?_
  repeat (first | with_reducible refine goR1 ?_ | with_reducible refine goR2 ?_)
  exact (show bodyPost _ _ _ .ret _ _ from ret1 (.agg (ints .u8 (sigV xs t))) rfl (QaC g4 30 _ r4_28 kj kj (isz (n:=64) kj ((Qae _ _).trans (QbB xs t)))) ⟨rfl,x28⟩)
end Go.Proofs.YtdoadngmgmdlbaaDoor.Sgn
end
section
namespace Go.Proofs.YtdoadngmgmdlbaaDoor.Sgn
open Go Go.RowKit
open Rely Auto Own Sha5
open Ladder (clamp)
open Field (Qao resN numA num lims QbW ordL Qb0 QbH QbG QaQ encP Qbe pa Qdh pAdd pNeg mulP QcK okK xK zK lK mulR BP Qcb numB nmul OnP QcH)
theorem QqB (p : List Int) (hp:p.length=32) (hb:Qal p) (b:Bool) (ho:okK p=b) (w:World) (tB:TypeId) (hB:w.heap[2]? = some (.cells (ints .u8 Qb0) tB)):Calls Tryd.prog 34 #[.agg (ints .u8 p)] w (Ret w (.tuple #[.agg (Field.ptA (xK p,zK p)),.bool b])):=by
  have c:=Field.pfromC p hp hb w tB hB
  rw [ho,Field.lK_eq] at c
  exact c
theorem canS (s : List Int) (hs:s.length=32) (hb:Qal s) (b:Bool) (h:canV s=b) (w:World) (tO:TypeId) (hO:w.heap[3]? = some (.cells QbW tO)):Calls Tryd.prog 33 #[.agg (ints .u8 s)] w (Ret w (.bool b)):=by
  subst h
  exact Field.residueBC s hs hb w tO hO
theorem QnU (p s:List Int) (hp:p.length=32) (hpb:Qal p) (hs:s.length=64) (hsb:Qal s) (hc:canV (s.drop 32)=false) (gp n:Nat) (Tp:TypeId) (ps:List (Value×List Int)) (hn:ps.length=n) (hn9:n≤1000) (hone:∀ u∈ps.map Prod.fst,u.oneCell'=true) (tc tq tO tB tX tY:TypeId) (w:World) (hT:Tabs tc tq tO tB tX tY w) (hrow:w.heap[gp]? = some (.cells (ps.map Prod.fst).toArray Tp)) (hps:∀ p∈ps,RdK .u8 w.heap.size p.2 p.1 w∧Qal p.2) (t:List Int) (ht:(ps.map Prod.snd).flatten=t) (hlen:t.length≤100000):Calls Tryd.prog 16 #[.agg (ints .u8 p),.agg (ints .u8 s),.slice (some ⟨gp,0,none⟩) n n] w (Ret w (.bool false)):=by
  refine enter 44 [(0,.agg (ints .u8 (p))),(1,.agg (ints .u8 (s))),(2,.slice (some ⟨gp,0,none⟩) n n)] Tryd.func16 rfl rfl kj rfl ?_
  refine wp_seq_k fun K2 hK2=>?_
  refine Qac ?_
  refine Qaj (ints .u8 (p)) 23 3 rfl kj kj fun g3 W1 l3 e1 r3_1=>?_
  have x1:Ext w W1:=Ext.tr (Rely.Ext.refl w) e1
  have b3:w.heap.size≤g3:=qT (Rely.Ext.refl w).size l3
  refine Qaj (ints .u8 (s)) 30 4 rfl kj kj fun g4 W2 l4 e2 r4_2=>?_
  have x2:Ext w W2:=Ext.tr x1 e2
  have b4:w.heap.size≤g4:=qT x1.size l4
  refine Qab (.bool false) 6 rfl kj kj ?_
  refine Qaf ?_
  refine hK2 _ _ ?_
  refine wp_seq_k fun K5 hK5=>?_
  refine Qac ?_
  refine Qaj (ints .u8 (List.replicate 32 0)) 23 7 rfl kj kj fun g6 W3 l6 e3 r6_3=>?_
  have x3:Ext w W3:=Ext.tr x2 e3
  have b6:w.heap.size≤g6:=qT x2.size l6
  refine Qaj (ints .u8 (List.replicate 32 0)) 23 8 rfl kj kj fun g7 W4 l7 e4 r7_4=>?_
  have x4:Ext w W4:=Ext.tr x3 e4
  have b7:w.heap.size≤g7:=qT x3.size l7
  refine Qaf ?_
  refine hK5 _ _ ?_
  refine wp_seq_k fun K8 hK8=>?_
  refine Qbb 2 [⟨none,[(7,none)]⟩,⟨none,[(4,none)]⟩] kj kj fun F hF=>?_
  refine QaL (Qaz _) (.slice (some ⟨g6,0,none⟩) 32 32) kj kj (fun W=>kj) ?_
  refine QaL (Qaz _) (.slice (some ⟨g4,0+0,none⟩) (32-0) (64-0)) kj kj (fun W=>(Qb4 30 _ _ _ 0 32 64 g4 0 5 rfl kj kj kj rfl ⟨.i64,kj⟩ (by omega) (by omega) (by omega))) ?_
  refine QdE (hF _ fun W5 e5=>?_)
  simp only [List.nil_append,List.cons_append,List.take_succ_cons,List.take_zero,List.drop_succ_cons,List.drop_zero,finE,up]
  clear hF
  have x5:Ext w W5:=Ext.tr x4 e5
  have r4_3:=(Qaa r4_2 e3)
  have r4_4:=(Qaa r4_3 e4)
  have r4_5:=(Qaa r4_4 e5)
  have hrd9:RdK .u8 W5.heap.size (s.take 32) (.slice (some ⟨g4,0+0,none⟩) (32-0) (64-0)) W5:=Qd9 (l:=0) (h:=32) (n:=64) hs r4_5 (by decide) (by decide) (by decide)
  have r6_4:=(Qaa r6_3 e4)
  have r6_5:=(Qaa r6_4 e5)
  refine Qcn (k:=.u8) (e:=5) (z:=s.take 32) (.tmp 12) (.tmp 13) 27 27 14 rfl kj kj rfl kj (off:=0) (dl:=32) (dc:=32) (n:=32) (xs:=List.replicate 32 0) kj kj hrd9 r6_5 (qT (show 0+(32)≤32 from (by omega)) (qE (qZ (n:=32)).symm)) (by rw [(Qbt hs)]; rfl) fun W6 p6 r6_6=>?_
  have x6:Ext w W6:=Puts.ext p6 x5 b6
  have r6_6_10:W6.heap[g6]? = some (.cells (ints .u8 (s.take 32)) 23):=QaB r6_6 (Qdf (Qbt hs))
  refine Qaf ?_
  refine hK8 _ _ ?_
  refine wp_seq_k fun K11 hK11=>?_
  refine Qbb 2 [⟨none,[(8,none)]⟩,⟨none,[(4,none)]⟩] kj kj fun F hF=>?_
  refine QaL (Qaz _) (.slice (some ⟨g7,0,none⟩) 32 32) kj kj (fun W=>kj) ?_
  refine QaL (Qaz _) (.slice (some ⟨g4,0+32,none⟩) (64-32) (64-32)) kj kj (fun W=>(Qb4 30 _ _ _ 32 64 64 g4 0 5 rfl kj kj kj ⟨.i64,kj⟩ rfl (by omega) (by omega) (by omega))) ?_
  refine QdE (hF _ fun W7 e7=>?_)
  simp only [List.nil_append,List.cons_append,List.take_succ_cons,List.take_zero,List.drop_succ_cons,List.drop_zero,finE,up]
  clear hF
  have x7:Ext w W7:=Ext.tr x6 e7
  have r4_6:=(Puts.row p6 r4_5 (Qad r4_2 l6))
  have r4_7:=(Qaa r4_6 e7)
  have hrd12:RdK .u8 W7.heap.size (s.drop 32) (.slice (some ⟨g4,0+32,none⟩) (64-32) (64-32)) W7:=by
    have h:=Qd9 (l:=32) (h:=64) (n:=64) hs r4_7 (by decide) (by decide) (by decide)
    rwa [List.take_of_length_le (by rw [List.length_drop,hs]; decide)] at h
  have r7_5:=(Qaa r7_4 e5)
  have r7_6:=(Puts.row p6 r7_5 (Qat r6_3 l7))
  have r7_7:=(Qaa r7_6 e7)
  refine Qcn (k:=.u8) (e:=5) (z:=s.drop 32) (.tmp 15) (.tmp 16) 27 27 17 rfl kj kj rfl kj (off:=0) (dl:=32) (dc:=32) (n:=32) (xs:=List.replicate 32 0) kj kj hrd12 r7_7 (qT (show 0+(32)≤32 from (by omega)) (qE (qZ (n:=32)).symm)) (by rw [(Qby hs)]; rfl) fun W8 p8 r7_8=>?_
  have x8:Ext w W8:=Puts.ext p8 x7 b7
  have r7_8_13:W8.heap[g7]? = some (.cells (ints .u8 (s.drop 32)) 23):=QaB r7_8 (Qdf (Qby hs))
  refine Qaf ?_
  refine hK11 _ _ ?_
  refine wp_seq_k fun K14 hK14=>?_
  refine wp_seq_k fun K15 hK15=>?_
  refine Qac ?_
  refine Qab (.agg (ints .u8 (s.drop 32))) 18 rfl kj (Qag 23 _ g7 23 _ _ r7_8_13 rfl kj kj (isz (n:=32) kj ((Qae _ _).trans (Qby hs)))) ?_
  refine Qar (.bool false) 33 #[.agg (ints .u8 (s.drop 32))] 19 rfl kj kj (canS (s.drop 32) (Qby hs) (QeD hsb 32) false hc _ tO (hT.ext x8).o) fun W9 e9=>?_
  have x9:Ext w W9:=Ext.tr x8 e9
  refine Qab (.bool true) 20 rfl kj kj ?_
  refine Qaf ?_
  refine hK15 _ _ ?_
  refine cond_true kj ?_
  refine wp_seq_k fun K16 hK16=>?_
  refine Qac ?_
  refine Qab (.bool false) 6 rfl kj kj ?_
  refine Qaf ?_
  refine hK16 _ _ ?_
  refine wp_ret ?_
  repeat (first | with_reducible refine goR1 ?_ | with_reducible refine goR2 ?_)
  exact (show bodyPost _ _ _ .ret _ _ from ret1 (.bool false) rfl (Qbr kj) ⟨rfl,x9⟩)
theorem QnT (p s:List Int) (hp:p.length=32) (hpb:Qal p) (hs:s.length=64) (hsb:Qal s) (hc:canV (s.drop 32)=true) (ho:okK p=false) (gp n:Nat) (Tp:TypeId) (ps:List (Value×List Int)) (hn:ps.length=n) (hn9:n≤1000) (hone:∀ u∈ps.map Prod.fst,u.oneCell'=true) (tc tq tO tB tX tY:TypeId) (w:World) (hT:Tabs tc tq tO tB tX tY w) (hrow:w.heap[gp]? = some (.cells (ps.map Prod.fst).toArray Tp)) (hps:∀ p∈ps,RdK .u8 w.heap.size p.2 p.1 w∧Qal p.2) (t:List Int) (ht:(ps.map Prod.snd).flatten=t) (hlen:t.length≤100000):Calls Tryd.prog 16 #[.agg (ints .u8 p),.agg (ints .u8 s),.slice (some ⟨gp,0,none⟩) n n] w (Ret w (.bool false)):=by
  refine enter 44 [(0,.agg (ints .u8 (p))),(1,.agg (ints .u8 (s))),(2,.slice (some ⟨gp,0,none⟩) n n)] Tryd.func16 rfl rfl kj rfl ?_
  refine wp_seq_k fun K2 hK2=>?_
  refine Qac ?_
  refine Qaj (ints .u8 (p)) 23 3 rfl kj kj fun g3 W1 l3 e1 r3_1=>?_
  have x1:Ext w W1:=Ext.tr (Rely.Ext.refl w) e1
  have b3:w.heap.size≤g3:=qT (Rely.Ext.refl w).size l3
  refine Qaj (ints .u8 (s)) 30 4 rfl kj kj fun g4 W2 l4 e2 r4_2=>?_
  have x2:Ext w W2:=Ext.tr x1 e2
  have b4:w.heap.size≤g4:=qT x1.size l4
  refine Qab (.bool false) 6 rfl kj kj ?_
  refine Qaf ?_
  refine hK2 _ _ ?_
  refine wp_seq_k fun K5 hK5=>?_
  refine Qac ?_
  refine Qaj (ints .u8 (List.replicate 32 0)) 23 7 rfl kj kj fun g6 W3 l6 e3 r6_3=>?_
  have x3:Ext w W3:=Ext.tr x2 e3
  have b6:w.heap.size≤g6:=qT x2.size l6
  refine Qaj (ints .u8 (List.replicate 32 0)) 23 8 rfl kj kj fun g7 W4 l7 e4 r7_4=>?_
  have x4:Ext w W4:=Ext.tr x3 e4
  have b7:w.heap.size≤g7:=qT x3.size l7
  refine Qaf ?_
  refine hK5 _ _ ?_
  refine wp_seq_k fun K8 hK8=>?_
  refine Qbb 2 [⟨none,[(7,none)]⟩,⟨none,[(4,none)]⟩] kj kj fun F hF=>?_
  refine QaL (Qaz _) (.slice (some ⟨g6,0,none⟩) 32 32) kj kj (fun W=>kj) ?_
  refine QaL (Qaz _) (.slice (some ⟨g4,0+0,none⟩) (32-0) (64-0)) kj kj (fun W=>(Qb4 30 _ _ _ 0 32 64 g4 0 5 rfl kj kj kj rfl ⟨.i64,kj⟩ (by omega) (by omega) (by omega))) ?_
  refine QdE (hF _ fun W5 e5=>?_)
  simp only [List.nil_append,List.cons_append,List.take_succ_cons,List.take_zero,List.drop_succ_cons,List.drop_zero,finE,up]
  clear hF
  have x5:Ext w W5:=Ext.tr x4 e5
  have r4_3:=(Qaa r4_2 e3)
  have r4_4:=(Qaa r4_3 e4)
  have r4_5:=(Qaa r4_4 e5)
  have hrd9:RdK .u8 W5.heap.size (s.take 32) (.slice (some ⟨g4,0+0,none⟩) (32-0) (64-0)) W5:=Qd9 (l:=0) (h:=32) (n:=64) hs r4_5 (by decide) (by decide) (by decide)
  have r6_4:=(Qaa r6_3 e4)
  have r6_5:=(Qaa r6_4 e5)
  refine Qcn (k:=.u8) (e:=5) (z:=s.take 32) (.tmp 12) (.tmp 13) 27 27 14 rfl kj kj rfl kj (off:=0) (dl:=32) (dc:=32) (n:=32) (xs:=List.replicate 32 0) kj kj hrd9 r6_5 (qT (show 0+(32)≤32 from (by omega)) (qE (qZ (n:=32)).symm)) (by rw [(Qbt hs)]; rfl) fun W6 p6 r6_6=>?_
  have x6:Ext w W6:=Puts.ext p6 x5 b6
  have r6_6_10:W6.heap[g6]? = some (.cells (ints .u8 (s.take 32)) 23):=QaB r6_6 (Qdf (Qbt hs))
  refine Qaf ?_
  refine hK8 _ _ ?_
  refine wp_seq_k fun K11 hK11=>?_
  refine Qbb 2 [⟨none,[(8,none)]⟩,⟨none,[(4,none)]⟩] kj kj fun F hF=>?_
  refine QaL (Qaz _) (.slice (some ⟨g7,0,none⟩) 32 32) kj kj (fun W=>kj) ?_
  refine QaL (Qaz _) (.slice (some ⟨g4,0+32,none⟩) (64-32) (64-32)) kj kj (fun W=>(Qb4 30 _ _ _ 32 64 64 g4 0 5 rfl kj kj kj ⟨.i64,kj⟩ rfl (by omega) (by omega) (by omega))) ?_
  refine QdE (hF _ fun W7 e7=>?_)
  simp only [List.nil_append,List.cons_append,List.take_succ_cons,List.take_zero,List.drop_succ_cons,List.drop_zero,finE,up]
  clear hF
  have x7:Ext w W7:=Ext.tr x6 e7
  have r4_6:=(Puts.row p6 r4_5 (Qad r4_2 l6))
  have r4_7:=(Qaa r4_6 e7)
  have hrd12:RdK .u8 W7.heap.size (s.drop 32) (.slice (some ⟨g4,0+32,none⟩) (64-32) (64-32)) W7:=by
    have h:=Qd9 (l:=32) (h:=64) (n:=64) hs r4_7 (by decide) (by decide) (by decide)
    rwa [List.take_of_length_le (by rw [List.length_drop,hs]; decide)] at h
  have r7_5:=(Qaa r7_4 e5)
  have r7_6:=(Puts.row p6 r7_5 (Qat r6_3 l7))
  have r7_7:=(Qaa r7_6 e7)
  refine Qcn (k:=.u8) (e:=5) (z:=s.drop 32) (.tmp 15) (.tmp 16) 27 27 17 rfl kj kj rfl kj (off:=0) (dl:=32) (dc:=32) (n:=32) (xs:=List.replicate 32 0) kj kj hrd12 r7_7 (qT (show 0+(32)≤32 from (by omega)) (qE (qZ (n:=32)).symm)) (by rw [(Qby hs)]; rfl) fun W8 p8 r7_8=>?_
  have x8:Ext w W8:=Puts.ext p8 x7 b7
  have r7_8_13:W8.heap[g7]? = some (.cells (ints .u8 (s.drop 32)) 23):=QaB r7_8 (Qdf (Qby hs))
  refine Qaf ?_
  refine hK11 _ _ ?_
  refine wp_seq_k fun K14 hK14=>?_
  refine wp_seq_k fun K15 hK15=>?_
  refine Qac ?_
  refine Qab (.agg (ints .u8 (s.drop 32))) 18 rfl kj (Qag 23 _ g7 23 _ _ r7_8_13 rfl kj kj (isz (n:=32) kj ((Qae _ _).trans (Qby hs)))) ?_
  refine Qar (.bool true) 33 #[.agg (ints .u8 (s.drop 32))] 19 rfl kj kj (canS (s.drop 32) (Qby hs) (QeD hsb 32) true hc _ tO (hT.ext x8).o) fun W9 e9=>?_
  have x9:Ext w W9:=Ext.tr x8 e9
  refine Qab (.bool false) 20 rfl kj kj ?_
  refine Qaf ?_
  refine hK15 _ _ ?_
  refine cond_false kj ?_
  refine wp_skip ?_
  refine hK14 _ _ ?_
  refine wp_seq_k fun K16 hK16=>?_
  refine Qac ?_
  have r3_2:=(Qaa r3_1 e2)
  have r3_3:=(Qaa r3_2 e3)
  have r3_4:=(Qaa r3_3 e4)
  have r3_5:=(Qaa r3_4 e5)
  have r3_6:=(Puts.row p6 r3_5 (Qad r3_2 l6))
  have r3_7:=(Qaa r3_6 e7)
  have r3_8:=(Puts.row p8 r3_7 (Qad r3_3 l7))
  have r3_9:=(Qaa r3_8 e9)
  refine Qab (.agg (ints .u8 (p))) 22 rfl kj (Qag 23 _ g3 23 _ _ r3_9 rfl kj kj (isz (n:=32) kj ((Qae _ _).trans hp))) ?_
  refine Qar (.tuple #[.agg (Field.ptA (xK p,zK p)),.bool false]) 34 #[.agg (ints .u8 (p))] 23 rfl kj kj (QqB p hp hpb false ho _ tB (hT.ext x9).b) fun W10 e10=>?_
  have x10:Ext w W10:=Ext.tr x9 e10
  refine Qab (.tuple #[.agg (Field.ptA (xK p,zK p)),.bool false]) 21 rfl kj kj ?_
  refine Qab (.agg (Field.ptA ((xK p,zK p)))) 24 rfl kj kj ?_
  refine Qab (.bool false) 25 rfl kj kj ?_
  refine Qaj (Field.ptA (0,1)) 51 9 rfl kj kj fun g17 W11 l17 e11 r17_11=>?_
  have x11:Ext w W11:=Ext.tr x10 e11
  have b17:w.heap.size≤g17:=qT x10.size l17
  refine Qak g17 _ (Field.ptA ((xK p,zK p))) 51 r17_11 rfl kj (Qah 51 _ _ g17 51 _ _ r17_11 rfl kj kj (isz (n:=8) kj kj) (eqsz (n:=8) kj kj) kj) fun W12 p12 r17_12=>?_
  have x12:Ext w W12:=Puts.ext p12 x11 b17
  refine Qab (.bool false) 10 rfl kj kj ?_
  refine Qaf ?_
  refine hK16 _ _ ?_
  refine wp_seq_k fun K18 hK18=>?_
  refine wp_seq_k fun K19 hK19=>?_
  refine Qac ?_
  refine Qab (.bool false) 26 rfl kj kj ?_
  refine Qab (.bool true) 27 rfl kj kj ?_
  refine Qaf ?_
  refine hK19 _ _ ?_
  refine cond_true kj ?_
  refine wp_seq_k fun K20 hK20=>?_
  refine Qac ?_
  refine Qab (.bool false) 6 rfl kj kj ?_
  refine Qaf ?_
  refine hK20 _ _ ?_
  refine wp_ret ?_
  repeat (first | with_reducible refine goR1 ?_ | with_reducible refine goR2 ?_)
  exact (show bodyPost _ _ _ .ret _ _ from ret1 (.bool false) rfl (Qbr kj) ⟨rfl,x12⟩)
theorem QlP (p s:List Int) (hp:p.length=32) (hpb:Qal p) (hs:s.length=64) (hsb:Qal s) (hc:canV (s.drop 32)=true) (ho:okK p=true) (gp n:Nat) (Tp:TypeId) (ps:List (Value×List Int)) (hn:ps.length=n) (hn9:n≤1000) (hone:∀ u∈ps.map Prod.fst,u.oneCell'=true) (tc tq tO tB tX tY:TypeId) (w:World) (hT:Tabs tc tq tO tB tX tY w) (hrow:w.heap[gp]? = some (.cells (ps.map Prod.fst).toArray Tp)) (hps:∀ p∈ps,RdK .u8 w.heap.size p.2 p.1 w∧Qal p.2) (t:List Int) (ht:(ps.map Prod.snd).flatten=t) (hlen:t.length≤100000):Calls Tryd.prog 16 #[.agg (ints .u8 p),.agg (ints .u8 s),.slice (some ⟨gp,0,none⟩) n n] w (Ret w (.bool (decide (encP (pAdd (pa (s.drop 32)) (pNeg (mulP p (resV (s.take 32++p++t)))))=s.take 32)))):=by
  refine enter 44 [(0,.agg (ints .u8 (p))),(1,.agg (ints .u8 (s))),(2,.slice (some ⟨gp,0,none⟩) n n)] Tryd.func16 rfl rfl kj rfl ?_
  refine wp_seq_k fun K2 hK2=>?_
  refine Qac ?_
  refine Qaj (ints .u8 (p)) 23 3 rfl kj kj fun g3 W1 l3 e1 r3_1=>?_
  have x1:Ext w W1:=Ext.tr (Rely.Ext.refl w) e1
  have b3:w.heap.size≤g3:=qT (Rely.Ext.refl w).size l3
  refine Qaj (ints .u8 (s)) 30 4 rfl kj kj fun g4 W2 l4 e2 r4_2=>?_
  have x2:Ext w W2:=Ext.tr x1 e2
  have b4:w.heap.size≤g4:=qT x1.size l4
  refine Qab (.bool false) 6 rfl kj kj ?_
  refine Qaf ?_
  refine hK2 _ _ ?_
  refine wp_seq_k fun K5 hK5=>?_
  refine Qac ?_
  refine Qaj (ints .u8 (List.replicate 32 0)) 23 7 rfl kj kj fun g6 W3 l6 e3 r6_3=>?_
  have x3:Ext w W3:=Ext.tr x2 e3
  have b6:w.heap.size≤g6:=qT x2.size l6
  refine Qaj (ints .u8 (List.replicate 32 0)) 23 8 rfl kj kj fun g7 W4 l7 e4 r7_4=>?_
  have x4:Ext w W4:=Ext.tr x3 e4
  have b7:w.heap.size≤g7:=qT x3.size l7
  refine Qaf ?_
  refine hK5 _ _ ?_
  refine wp_seq_k fun K8 hK8=>?_
  refine Qbb 2 [⟨none,[(7,none)]⟩,⟨none,[(4,none)]⟩] kj kj fun F hF=>?_
  refine QaL (Qaz _) (.slice (some ⟨g6,0,none⟩) 32 32) kj kj (fun W=>kj) ?_
  refine QaL (Qaz _) (.slice (some ⟨g4,0+0,none⟩) (32-0) (64-0)) kj kj (fun W=>(Qb4 30 _ _ _ 0 32 64 g4 0 5 rfl kj kj kj rfl ⟨.i64,kj⟩ (by omega) (by omega) (by omega))) ?_
  refine QdE (hF _ fun W5 e5=>?_)
  simp only [List.nil_append,List.cons_append,List.take_succ_cons,List.take_zero,List.drop_succ_cons,List.drop_zero,finE,up]
  clear hF
  have x5:Ext w W5:=Ext.tr x4 e5
  have r4_3:=(Qaa r4_2 e3)
  have r4_4:=(Qaa r4_3 e4)
  have r4_5:=(Qaa r4_4 e5)
  have hrd9:RdK .u8 W5.heap.size (s.take 32) (.slice (some ⟨g4,0+0,none⟩) (32-0) (64-0)) W5:=Qd9 (l:=0) (h:=32) (n:=64) hs r4_5 (by decide) (by decide) (by decide)
  have r6_4:=(Qaa r6_3 e4)
  have r6_5:=(Qaa r6_4 e5)
  refine Qcn (k:=.u8) (e:=5) (z:=s.take 32) (.tmp 12) (.tmp 13) 27 27 14 rfl kj kj rfl kj (off:=0) (dl:=32) (dc:=32) (n:=32) (xs:=List.replicate 32 0) kj kj hrd9 r6_5 (qT (show 0+(32)≤32 from (by omega)) (qE (qZ (n:=32)).symm)) (by rw [(Qbt hs)]; rfl) fun W6 p6 r6_6=>?_
  have x6:Ext w W6:=Puts.ext p6 x5 b6
  have r6_6_10:W6.heap[g6]? = some (.cells (ints .u8 (s.take 32)) 23):=QaB r6_6 (Qdf (Qbt hs))
  refine Qaf ?_
  refine hK8 _ _ ?_
  refine wp_seq_k fun K11 hK11=>?_
  refine Qbb 2 [⟨none,[(8,none)]⟩,⟨none,[(4,none)]⟩] kj kj fun F hF=>?_
  refine QaL (Qaz _) (.slice (some ⟨g7,0,none⟩) 32 32) kj kj (fun W=>kj) ?_
  refine QaL (Qaz _) (.slice (some ⟨g4,0+32,none⟩) (64-32) (64-32)) kj kj (fun W=>(Qb4 30 _ _ _ 32 64 64 g4 0 5 rfl kj kj kj ⟨.i64,kj⟩ rfl (by omega) (by omega) (by omega))) ?_
  refine QdE (hF _ fun W7 e7=>?_)
  simp only [List.nil_append,List.cons_append,List.take_succ_cons,List.take_zero,List.drop_succ_cons,List.drop_zero,finE,up]
  clear hF
  have x7:Ext w W7:=Ext.tr x6 e7
  have r4_6:=(Puts.row p6 r4_5 (Qad r4_2 l6))
  have r4_7:=(Qaa r4_6 e7)
  have hrd12:RdK .u8 W7.heap.size (s.drop 32) (.slice (some ⟨g4,0+32,none⟩) (64-32) (64-32)) W7:=by
    have h:=Qd9 (l:=32) (h:=64) (n:=64) hs r4_7 (by decide) (by decide) (by decide)
    rwa [List.take_of_length_le (by rw [List.length_drop,hs]; decide)] at h
  have r7_5:=(Qaa r7_4 e5)
  have r7_6:=(Puts.row p6 r7_5 (Qat r6_3 l7))
  have r7_7:=(Qaa r7_6 e7)
  refine Qcn (k:=.u8) (e:=5) (z:=s.drop 32) (.tmp 15) (.tmp 16) 27 27 17 rfl kj kj rfl kj (off:=0) (dl:=32) (dc:=32) (n:=32) (xs:=List.replicate 32 0) kj kj hrd12 r7_7 (qT (show 0+(32)≤32 from (by omega)) (qE (qZ (n:=32)).symm)) (by rw [(Qby hs)]; rfl) fun W8 p8 r7_8=>?_
  have x8:Ext w W8:=Puts.ext p8 x7 b7
  have r7_8_13:W8.heap[g7]? = some (.cells (ints .u8 (s.drop 32)) 23):=QaB r7_8 (Qdf (Qby hs))
  refine Qaf ?_
  refine hK11 _ _ ?_
  refine wp_seq_k fun K14 hK14=>?_
  refine wp_seq_k fun K15 hK15=>?_
  refine Qac ?_
  refine Qab (.agg (ints .u8 (s.drop 32))) 18 rfl kj (Qag 23 _ g7 23 _ _ r7_8_13 rfl kj kj (isz (n:=32) kj ((Qae _ _).trans (Qby hs)))) ?_
  refine Qar (.bool true) 33 #[.agg (ints .u8 (s.drop 32))] 19 rfl kj kj (canS (s.drop 32) (Qby hs) (QeD hsb 32) true hc _ tO (hT.ext x8).o) fun W9 e9=>?_
  have x9:Ext w W9:=Ext.tr x8 e9
  refine Qab (.bool false) 20 rfl kj kj ?_
  refine Qaf ?_
  refine hK15 _ _ ?_
  refine cond_false kj ?_
  refine wp_skip ?_
  refine hK14 _ _ ?_
  refine wp_seq_k fun K16 hK16=>?_
  refine Qac ?_
  have r3_2:=(Qaa r3_1 e2)
  have r3_3:=(Qaa r3_2 e3)
  have r3_4:=(Qaa r3_3 e4)
  have r3_5:=(Qaa r3_4 e5)
  have r3_6:=(Puts.row p6 r3_5 (Qad r3_2 l6))
  have r3_7:=(Qaa r3_6 e7)
  have r3_8:=(Puts.row p8 r3_7 (Qad r3_3 l7))
  have r3_9:=(Qaa r3_8 e9)
  refine Qab (.agg (ints .u8 (p))) 22 rfl kj (Qag 23 _ g3 23 _ _ r3_9 rfl kj kj (isz (n:=32) kj ((Qae _ _).trans hp))) ?_
  refine Qar (.tuple #[.agg (Field.ptA (xK p,zK p)),.bool true]) 34 #[.agg (ints .u8 (p))] 23 rfl kj kj (QqB p hp hpb true ho _ tB (hT.ext x9).b) fun W10 e10=>?_
  have x10:Ext w W10:=Ext.tr x9 e10
  refine Qab (.tuple #[.agg (Field.ptA (xK p,zK p)),.bool true]) 21 rfl kj kj ?_
  refine Qab (.agg (Field.ptA ((xK p,zK p)))) 24 rfl kj kj ?_
  refine Qab (.bool true) 25 rfl kj kj ?_
  refine Qaj (Field.ptA (0,1)) 51 9 rfl kj kj fun g17 W11 l17 e11 r17_11=>?_
  have x11:Ext w W11:=Ext.tr x10 e11
  have b17:w.heap.size≤g17:=qT x10.size l17
  refine Qak g17 _ (Field.ptA ((xK p,zK p))) 51 r17_11 rfl kj (Qah 51 _ _ g17 51 _ _ r17_11 rfl kj kj (isz (n:=8) kj kj) (eqsz (n:=8) kj kj) kj) fun W12 p12 r17_12=>?_
  have x12:Ext w W12:=Puts.ext p12 x11 b17
  refine Qab (.bool true) 10 rfl kj kj ?_
  refine Qaf ?_
  refine hK16 _ _ ?_
  refine wp_seq_k fun K18 hK18=>?_
  refine wp_seq_k fun K19 hK19=>?_
  refine Qac ?_
  refine Qab (.bool true) 26 rfl kj kj ?_
  refine Qab (.bool false) 27 rfl kj kj ?_
  refine Qaf ?_
  refine hK19 _ _ ?_
  refine cond_false kj ?_
  refine wp_skip ?_
  refine hK18 _ _ ?_
  refine wp_seq_k fun K20 hK20=>?_
  refine Qac ?_
  refine Qab (.slice (some ⟨gp,0,none⟩) n n) 28 rfl kj kj ?_
  have r6_7:=(Qaa r6_6_10 e7)
  have r6_8:=(Puts.row p8 r6_7 (Qad r6_3 l7))
  have r6_9:=(Qaa r6_8 e9)
  have r6_10:=(Qaa r6_9 e10)
  have r6_11:=(Qaa r6_10 e11)
  have r6_12:=(Puts.row p12 r6_11 (Qad r6_10 l17))
  refine Qab (.agg (ints .u8 (s.take 32))) 29 rfl kj (Qag 23 _ g6 23 _ _ r6_12 rfl kj kj (isz (n:=32) kj ((Qae _ _).trans (Qbt hs)))) ?_
  have r3_10:=(Qaa r3_9 e10)
  have r3_11:=(Qaa r3_10 e11)
  have r3_12:=(Puts.row p12 r3_11 (Qad r3_10 l17))
  refine Qab (.agg (ints .u8 (p))) 30 rfl kj (Qag 23 _ g3 23 _ _ r3_12 rfl kj kj (isz (n:=32) kj ((Qae _ _).trans hp))) ?_
  refine QaR (cat [ints .u8 (s.take 32),ints .u8 (p)]) 23 2 31 rfl kj (Qim (P:=Tryd.prog) 94 23 2 _ (.agg (ints .u8 (List.replicate 32 0))) ([(0,32,.agg (ints .u8 (s.take 32)),ints .u8 (s.take 32)),(1,32,.agg (ints .u8 (p)),ints .u8 (p))]:List (Nat×Nat×Value×Array Value)) rfl kj kj kj ⟨rfl,rfl,(Qae _ _).trans (Qbt hs),rfl,rfl,(Qae _ _).trans hp,trivial⟩ rfl (by decide) (by decide)) fun g21 W13 l21 e13 r21_13=>?_
  have x13:Ext w W13:=Ext.tr x12 e13
  have b21:w.heap.size≤g21:=qT x12.size l21
  have r1_1:=(Qaa hrow e1)
  have r1_2:=(Qaa r1_1 e2)
  have r1_3:=(Qaa r1_2 e3)
  have r1_4:=(Qaa r1_3 e4)
  have r1_5:=(Qaa r1_4 e5)
  have r1_6:=(Puts.row p6 r1_5 (Qad r1_2 l6))
  have r1_7:=(Qaa r1_6 e7)
  have r1_8:=(Puts.row p8 r1_7 (Qad r1_3 l7))
  have r1_9:=(Qaa r1_8 e9)
  have r1_10:=(Qaa r1_9 e10)
  have r1_11:=(Qaa r1_10 e11)
  have r1_12:=(Puts.row p12 r1_11 (Qad r1_10 l17))
  have r1_13:=(Qaa r1_12 e13)
  refine Qar (.agg (ints .u8 (resV ((s.take 32)++p++t)))) 29 #[.slice (some ⟨gp,0,none⟩) n n,.slice (some ⟨g21,0,none⟩) 2 2] 32 rfl kj kj (QpV (s.take 32) p (Qbt hs) (Qfj hsb) hp hpb g21 _ gp n Tp ps hn hn9 hone tc tq tO tB tX tY _ (hT.ext x13) r21_13 r1_13 (fun p hp=>⟨RdK.here ((hps p hp).1.ext x13),(hps p hp).2⟩) t ht hlen) fun W14 e14=>?_
  have x14:Ext w W14:=Ext.tr x13 e14
  refine Qaj (ints .u8 (List.replicate 32 0)) 23 11 rfl kj kj fun g22 W15 l22 e15 r22_15=>?_
  have x15:Ext w W15:=Ext.tr x14 e15
  have b22:w.heap.size≤g22:=qT x14.size l22
  refine Qak g22 _ (ints .u8 (resV ((s.take 32)++p++t))) 23 r22_15 rfl kj (Qah 23 _ _ g22 23 _ _ r22_15 rfl kj kj (isz (n:=32) kj ((Qae _ _).trans (QbV _))) (eqsz (n:=32) ((Qae _ _).trans (qZ (n:=32))) ((Qae _ _).trans (QbV _))) (ints_one _ _)) fun W16 p16 r22_16=>?_
  have x16:Ext w W16:=Puts.ext p16 x15 b22
  refine Qaf ?_
  refine hK20 _ _ ?_
  refine wp_seq_k fun K23 hK23=>?_
  refine QaK 11 [⟨none,[]⟩,⟨none,[(8,none)]⟩,⟨none,[(33,some 0),(34,some 1)]⟩,⟨none,[(9,none)]⟩,⟨none,[(11,none)]⟩,⟨none,[(36,some 3),(37,some 4)]⟩,⟨none,[(38,some 5)]⟩,⟨none,[(35,some 2),(39,some 6)]⟩,⟨none,[(40,some 7)]⟩,⟨none,[(7,none)]⟩,⟨none,[(41,some 8),(42,some 9)]⟩] kj kj fun F hF=>?_
  refine Qau (.agg (Field.ptA (BP))) 20 #[] kj kj (fun W=>kj) (fun W hR=>Field.ptBase W tX (hT.ext (Rely.Ext.trans (Rely.Ext.trans x16 (Qai _)) hR)).x tY (hT.ext (Rely.Ext.trans (Rely.Ext.trans x16 (Qai _)) hR)).y) ?_
  have r7_9:=(Qaa r7_8_13 e9)
  have r7_10:=(Qaa r7_9 e10)
  have r7_11:=(Qaa r7_10 e11)
  have r7_12:=(Puts.row p12 r7_11 (Qad r7_10 l17))
  have r7_13:=(Qaa r7_12 e13)
  have r7_14:=(Qaa r7_13 e14)
  have r7_15:=(Qaa r7_14 e15)
  have r7_16:=(Puts.row p16 r7_15 (Qad r7_14 l22))
  refine Qaq (.agg (ints .u8 (s.drop 32))) kj kj (fun W hR=>(Qag 23 _ g7 23 _ _ (Qaa (Qaa r7_16 (Qai _)) hR) rfl kj kj (isz (n:=32) kj ((Qae _ _).trans (Qby hs))))) ?_
  refine Qau (.agg (Field.ptA (pa (s.drop 32)))) 21 #[.agg (Field.ptA (BP)),.agg (ints .u8 (s.drop 32))] kj kj (fun W=>kj) (fun W hR=>Field.ptTimes Qcb (s.drop 32) (Qby hs) (QeD hsb 32) W tB (hT.ext (Rely.Ext.trans (Rely.Ext.trans x16 (Qai _)) hR)).b) ?_
  have r17_13:=(Qaa r17_12 e13)
  have r17_14:=(Qaa r17_13 e14)
  have r17_15:=(Qaa r17_14 e15)
  have r17_16:=(Puts.row p16 r17_15 (Qad r17_14 l22))
  refine Qaq (.agg (Field.ptA ((xK p,zK p)))) kj kj (fun W hR=>(Qag 51 _ g17 51 _ _ (Qaa (Qaa r17_16 (Qai _)) hR) rfl kj kj (isz (n:=8) kj kj))) ?_
  refine Qaq (.agg (ints .u8 (resV ((s.take 32)++p++t)))) kj kj (fun W hR=>(Qag 23 _ g22 23 _ _ (Qaa (Qaa r22_16 (Qai _)) hR) rfl kj kj (isz (n:=32) kj ((Qae _ _).trans (QbV _))))) ?_
  refine Qau (.agg (Field.ptA (mulP p (resV ((s.take 32)++p++t))))) 21 #[.agg (Field.ptA ((xK p,zK p))),.agg (ints .u8 (resV ((s.take 32)++p++t)))] kj kj (fun W=>kj) (fun W hR=>Field.ptTimes (Field.K_onP p) (resV ((s.take 32)++p++t)) (QbV ((s.take 32)++p++t)) (QdO ((s.take 32)++p++t)) W tB (hT.ext (Rely.Ext.trans (Rely.Ext.trans x16 (Qai _)) hR)).b) ?_
  refine Qau (.agg (Field.ptA (pNeg (mulP p (resV ((s.take 32)++p++t)))))) 36 #[.agg (Field.ptA (mulP p (resV ((s.take 32)++p++t))))] kj kj (fun W=>kj) (fun W hR=>Field.ptNeg (QcK p (resV ((s.take 32)++p++t))) W) ?_
  refine Qau (.agg (Field.ptA (pAdd (pa (s.drop 32)) (pNeg (mulP p (resV ((s.take 32)++p++t))))))) 35 #[.agg (Field.ptA (pa (s.drop 32))),.agg (Field.ptA (pNeg (mulP p (resV ((s.take 32)++p++t)))))] kj kj (fun W=>kj) (fun W hR=>Field.ptAdd (Qdh (s.drop 32)) (Field.pNeg_on (QcK p (resV ((s.take 32)++p++t)))) W tB (hT.ext (Rely.Ext.trans (Rely.Ext.trans x16 (Qai _)) hR)).b) ?_
  refine Qau (.agg (ints .u8 (encP (pAdd (pa (s.drop 32)) (pNeg (mulP p (resV ((s.take 32)++p++t)))))))) 22 #[.agg (Field.ptA (pAdd (pa (s.drop 32)) (pNeg (mulP p (resV ((s.take 32)++p++t))))))] kj kj (fun W=>kj) (fun W hR=>Field.ptBytes (Field.pAdd_on (Qdh (s.drop 32)) (Field.pNeg_on (QcK p (resV ((s.take 32)++p++t))))) W) ?_
  have r6_13:=(Qaa r6_12 e13)
  have r6_14:=(Qaa r6_13 e14)
  have r6_15:=(Qaa r6_14 e15)
  have r6_16:=(Puts.row p16 r6_15 (Qad r6_14 l22))
  refine Qaq (.agg (ints .u8 (s.take 32))) kj kj (fun W hR=>(Qag 23 _ g6 23 _ _ (Qaa (Qaa r6_16 (Qai _)) hR) rfl kj kj (isz (n:=32) kj ((Qae _ _).trans (Qbt hs))))) ?_
  refine Qav (.bool (decide (encP (pAdd (pa (s.drop 32)) (pNeg (mulP p (resV ((s.take 32)++p++t)))))=s.take 32))) kj kj (fun W=>(Qds 23 _ _ _ _ _ (.bool (decide (encP (pAdd (pa (s.drop 32)) (pNeg (mulP p (resV ((s.take 32)++p++t)))))=s.take 32))) rfl kj kj kj (Field.key_eql (encP (pAdd (pa (s.drop 32)) (pNeg (mulP p (resV ((s.take 32)++p++t)))))) (s.take 32) (decide (encP (pAdd (pa (s.drop 32)) (pNeg (mulP p (resV ((s.take 32)++p++t)))))=s.take 32)) (Qbe _) (Qbt hs) rfl _))) ?_
  refine Qa9 (hF _ kj fun W17 e17=>?_)
  simp only [ups,up,Kn.val,List.take_succ_cons,List.take_zero,List.drop_succ_cons,List.drop_zero,List.nil_append,List.cons_append]
  clear hF
  have x17:Ext w W17:=Ext.tr x16 e17
  refine Qab (.bool (decide (encP (pAdd (pa (s.drop 32)) (pNeg (mulP p (resV ((s.take 32)++p++t)))))=s.take 32))) 6 rfl kj kj ?_
  refine Qaf ?_
  refine hK23 _ _ ?_
  refine wp_ret ?_
  repeat (first | with_reducible refine goR1 ?_ | with_reducible refine goR2 ?_)
  exact (show bodyPost _ _ _ .ret _ _ from ret1 (.bool (decide (encP (pAdd (pa (s.drop 32)) (pNeg (mulP p (resV ((s.take 32)++p++t)))))=s.take 32))) rfl (Qbr kj) ⟨rfl,x17⟩)
theorem Qig (p s:List Int) (hp:p.length=32) (hpb:Qal p) (hs:s.length=64) (hsb:Qal s) (gp n:Nat) (Tp:TypeId) (ps:List (Value×List Int)) (hn:ps.length=n) (hn9:n≤1000) (hone:∀ u∈ps.map Prod.fst,u.oneCell'=true) (tc tq tO tB tX tY:TypeId) (w:World) (hT:Tabs tc tq tO tB tX tY w) (hrow:w.heap[gp]? = some (.cells (ps.map Prod.fst).toArray Tp)) (hps:∀ p∈ps,RdK .u8 w.heap.size p.2 p.1 w∧Qal p.2) (t:List Int) (ht:(ps.map Prod.snd).flatten=t) (hlen:t.length≤100000):Calls Tryd.prog 16 #[.agg (ints .u8 p),.agg (ints .u8 s),.slice (some ⟨gp,0,none⟩) n n] w (Ret w (.bool (verV p s t))):=by
  unfold verV
  cases hc:canV (s.drop 32)
  · exact QnU p s hp hpb hs hsb hc gp n Tp ps hn hn9 hone tc tq tO tB tX tY w hT hrow hps t ht hlen
  · cases ho:okK p
    · exact QnT p s hp hpb hs hsb hc ho gp n Tp ps hn hn9 hone tc tq tO tB tX tY w hT hrow hps t ht hlen
    · unfold eqV
      exact QlP p s hp hpb hs hsb hc ho gp n Tp ps hn hn9 hone tc tq tO tB tX tY w hT hrow hps t ht hlen
end Go.Proofs.YtdoadngmgmdlbaaDoor.Sgn
end
section
namespace Go.Proofs.YtdoadngmgmdlbaaDoor.Sgn
open Go Go.RowKit
open Rely Auto Own
structure OncU (base n : Nat) (ys : List Int) (W W' : World) : Prop where
  os:W'.os=W.os
  tape:W'.tape=W.tape
  output:W'.output=W.output
  size:W.heap.size≤W'.heap.size
  block:∀ g,g<W.heap.size→W'.heap[g]? = W.heap[g]?∨(base≤g∧∃ cs cs',W.heap[g]? = some (.cells cs 5)∧W'.heap[g]? = some (.cells cs' 5)∧cs'.size=cs.size∧∀ i,cs'[i]? = cs[i]?∨(n≤i∧cs'[i]? = some (.int .u8 (nth ys (i-n)))))
theorem OncU.refl (base n:Nat) (ys:List Int) (W:World):OncU base n ys W W:=⟨rfl,rfl,rfl,qR _,fun _ _=>.inl rfl⟩
theorem OncU.trans {base n:Nat} {ys:List Int} {a b c:World} (h:OncU base n ys a b) (k:OncU base n ys b c):OncU base n ys a c:=by
  refine ⟨k.os.trans h.os,k.tape.trans h.tape,k.output.trans h.output,qT h.size k.size,fun g hg=>?_⟩
  rcases k.block g (qL hg h.size) with h2 | ⟨hb,cs,cs',r1,r2,r3,r4⟩
  · rw [h2]; exact h.block g hg
  · rcases h.block g hg with h1 | ⟨_,ds,ds',s1,s2,s3,s4⟩
    · exact .inr ⟨hb,cs,cs',h1▸r1,r2,r3,r4⟩
    · rw [s2] at r1
      simp only [Option.some.injEq,Obj.cells.injEq,and_true,true_and] at r1
      obtain rfl:=r1
      refine .inr ⟨hb,ds,cs',s1,r2,r3.trans s3,fun i=>?_⟩
      rcases r4 i with r | ⟨r,r'⟩
      · rw [r]; exact s4 i
      · exact .inr ⟨r,r'⟩
theorem OncU.ext {base n:Nat} {ys:List Int} {a b:World} (e:Ext a b):OncU base n ys a b:=⟨e.os,e.tape,e.output,e.size,fun g hg=>.inl (e.block g hg)⟩
theorem OncU.low {n : Nat} {ys:List Int} {w0 W:World} (h:OncU w0.heap.size n ys w0 W):Ext w0 W :=
  ⟨h.os,h.tape,h.output,h.size,fun g hg=>by
    rcases h.block g hg with h | ⟨hb,_⟩
    · exact h
    · omega⟩
theorem Qok (w0 : World) (n:Nat) (ys:List Int):Rl (OncU w0.heap.size n ys) w0:=⟨OncU.refl _ _ _,OncU.trans,fun _ e=>OncU.ext e,OncU.low⟩
theorem Qj6 {cs : Array Value} {xs:List Int} {k:IntKind} (h:∀ i,i<xs.length→cs[i]? = some (.int k (nth xs i))):cs.toList.take xs.length=xs.map (Value.int k):=by
  apply List.ext_getElem?
  intro i
  rw [List.getElem?_take]
  by_cases hi:i<xs.length
  · rw [if_pos hi,Array.getElem?_toList,h i hi,List.getElem?_map,List.getElem?_eq_getElem hi]
    simp [nth,hi]
  · rw [if_neg hi,List.getElem?_map,List.getElem?_eq_none (by omega)]; rfl
theorem QgL {base n:Nat} {ys xs:List Int} (hx:∀ i,i<xs.length→n≤i→nth xs i=nth ys (i-n)):QbL (OncU base n ys) (OwnN .u8 5 base xs):=fun v W W' hR h=>by
  rcases Nat.eq_zero_or_pos xs.length with h0 | h0
  · obtain ⟨⟨h1,h2⟩,hm⟩:=h
    refine ⟨⟨h1,?_⟩,hm⟩
    rcases h2 with h2 | ⟨g,c,cur,rfl,q2,q3,q4,q5,q6,q7⟩
    · exact .inl h2
    · rcases hR.block g (Qa3 q3) with h | ⟨hb,cs,cs',r1,r2,r3,r4⟩
      · exact .inr ⟨g,c,cur,rfl,q2,h.trans q3,q4,q5,q6,q7⟩
      · rw [q3] at r1
        simp only [Option.some.injEq,Obj.cells.injEq,and_true,true_and] at r1
        obtain rfl:=r1
        refine .inr ⟨g,c,cs',rfl,q2,r2,q4,q5,r3.trans q6,?_⟩
        obtain rfl:=List.length_eq_zero_iff.1 h0
        rfl
  · obtain ⟨g,c,cur,rfl,q2,q3,q4,q5,q6,q7⟩:=QkI h h0
    rcases hR.block g (Qa3 q3) with h2 | ⟨hb,cs,cs',r1,r2,r3,r4⟩
    · exact h.keep fun g' hg=>by
        obtain rfl:g=g':=Option.some.inj hg
        exact h2
    · rw [q3] at r1
      simp only [Option.some.injEq,Obj.cells.injEq,and_true,true_and] at r1
      obtain rfl:=r1
      refine QoC rfl q2 r2 (r3.trans q4) q5 q6 (Qj6 fun i hi=>?_)
      rcases r4 i with r | ⟨r,r'⟩
      · rw [r]; exact Qf7 q7 hi
      · rw [r',hx i hi r]
theorem Qm4 {n : Nat} {ys:List Int} {w0:World}:QbL (OncU w0.heap.size n ys) (NewS w0.heap.size #[] 5 0):=fun v W W' hR ⟨g,h1,h2,h3⟩=>by
  refine ⟨g,h1,h2,?_⟩
  rcases hR.block g (Qa3 h3) with h | ⟨hb,cs,cs',r1,r2,r3,r4⟩
  · exact h.trans h3
  · rw [h3] at r1
    simp only [Option.some.injEq,Obj.cells.injEq,and_true,true_and] at r1
    obtain rfl:=r1
    rw [r2,Array.eq_empty_of_size_eq_zero r3]
theorem QgY {P : Program} {b:Nat} {ρ:Operand→Value} {o:Oper} {W:World} (s x:Operand) (t:TypeId) (ho:o.op=.call { callee:=.builtin .append,args:=#[s,x],argTypes:=#[t,t] })
    (ht:P.underlying t=some (.slice 5)) (hi:(P.info? 5).map (fun i=>(i.zero,i.size,i.bytes))=some (some (.int .u8 0),1,b)) (hb8:b≤8) {base B n:Nat} {v y:Value} {xs ys Y:List Int} (hs:ρ s=v) (hx:ρ x=y)
    (h:OwnN .u8 5 base xs v W) (hy:RdK .u8 B ys y W) (hn:xs.length+ys.length≤1000000000) (hbase:base≤W.heap.size) (hY:(∃ g,v=.slice (some ⟨g,0,none⟩) 0 0)∨∃ j,xs.length=n+j∧∀ i,i<ys.length→nth Y (j+i)=nth ys i) :
    ∃ v' W',(execOp ρ o).run P W=.ok (.value v') W'∧OncU base n Y W W'∧OwnN .u8 5 base (xs++ys) v' W':=by
  obtain ⟨i,hq,hi1,hi2,hi3⟩:=Qq6 hi
  obtain ⟨v2,W2,r2,o2,g2,-⟩:=QgZ (ρ:=ρ) (o:=o) (W:=W) s x t ho ht hi hb8 hs hx h hy hn hbase
  refine ⟨v2,W2,r2,?_,o2⟩
  rcases h.1.2 with ⟨h0,h0'⟩ | ⟨g,c,cur,rfl,q2,q3,q4,q5,q6,q7⟩
  · exact ⟨g2.os,g2.tape,g2.output,g2.size,fun k hk=>.inl (g2.block k hk (by rw [h0]; intro e; cases e))⟩
  · have hc0:(∃ g',(Value.slice (some ⟨g,0,none⟩) xs.length c)=.slice (some ⟨g',0,none⟩) 0 0)→c=0:=fun ⟨g',e'⟩=>by
      simp only [Value.slice.injEq] at e'
      exact e'.2.2
    obtain ⟨a,cap,rfl,y2,y3,y4,y5⟩:=hy
    have hgo:∀ (v':Value) (W':World),(Builtin.append_ #[t,t] o.type #[.slice (some ⟨g,0,none⟩) xs.length c,.slice a ys.length cap]).run P W=.ok v' W'→(execOp ρ o).run P W=.ok (.value v') W':=fun v' W' hr=>by
      unfold execOp
      simp only [ho,resolve,invoke,builtin,Sem.run_bind,Sem.run_pure,Result.andThen_ok,List.map_toArray,List.map_cons,List.map_nil,hs,hx,hr]
    have same:∀ (v':Value) (W':World),(execOp ρ o).run P W=.ok (.value v') W'→W2=W':=fun v' W' hr=>by
      rw [r2] at hr
      injection hr
    refine ⟨g2.os,g2.tape,g2.output,g2.size,fun k hk=>?_⟩
    by_cases hkg:k=g
    · subst hkg
      cases a with
      | none =>
        have hc0:=y4 rfl
        have hy0:ys=[]:=List.length_eq_zero_iff.1 (by omega)
        subst hy0
        subst hc0
        exact .inl (by rw [same _ _ (hgo _ _ (run_append_owned_none (P:=P) W base t o.type 5 i 1 ht hq _ xs.length _ h.1))])
      | some a =>
        have hnews:∀ j u,(ys.map (Value.int .u8))[j]? = some u→W.cell? (a.add j)=some u:=by
          rcases y5 with rfl | ⟨g',o',e1,e2,e3,e4⟩
          · intro j u hu; simp at hu
          · obtain rfl:=Option.some.inj e1
            exact Qm9 e4
        by_cases hroom:xs.length+ys.length≤c
        · have hr:=run_append_room (P:=P) W t o.type 5 i ht hq k xs.length c cur q3 a ys.length cap (ys.map (Value.int .u8)) (by simp [hi2]) hnews (Qm2 _ ys) hroom (by rw [hi2]; simp; omega)
          have hW:=same _ _ (hgo _ _ hr)
          rw [hW]
          refine .inr ⟨q2,_,_,q3,setRow_heap W k cur _ 5 _ q3,?_,fun j=>?_⟩
          · simp only [List.size_toArray,List.length_append,List.length_take,List.length_drop,List.length_map,Array.length_toList,hi2]; omega
          · simp only [List.getElem?_toArray,hi2,Nat.mul_one]
            have hl1:(List.take xs.length cur.toList).length=xs.length:=by
              have e:cur.toList.length=cur.size:=Array.length_toList
              rw [List.length_take,e]; omega
            rw [List.append_assoc]
            rcases Nat.lt_or_ge j xs.length with hj | hj
            · left
              rw [List.getElem?_append_left (by omega),List.getElem?_take,if_pos hj,Array.getElem?_toList]
            · rw [List.getElem?_append_right (by omega),hl1]
              rcases Nat.lt_or_ge (j-xs.length) ys.length with hj2 | hj2
              · right
                rcases hY with hY | ⟨q,hq,hYq⟩
                · have:=hc0 hY; omega
                · refine ⟨by omega,?_⟩
                  rw [List.getElem?_append_left (by rw [List.length_map]; exact hj2),List.getElem?_map,List.getElem?_eq_getElem hj2,show j-n=q+(j-xs.length) by omega,hYq _ hj2]
                  simp [nth,hj2]
              · left
                rw [List.getElem?_append_right (by rw [List.length_map]; exact hj2),List.length_map,List.getElem?_drop,Array.getElem?_toList]
                congr 1; omega
        · have holds:=h.1.cells (g:=k) rfl
          have hr:=run_append_grow (P:=P) W t o.type 5 i (.int .u8 0) ht hq hi1 ⟨k,0,none⟩ xs.length c (xs.map (Value.int .u8)) (by simp [hi2]) (by simpa using holds) a ys.length cap (ys.map (Value.int .u8)) (by simp [hi2]) hnews (by omega) (by omega) (growslice_fits (by omega) (by
            rw [hi3]
            have:(xs.length+ys.length)*b≤1000000000*8:=Nat.mul_le_mul hn hb8
            omega))
          have hW:=same _ _ (hgo _ _ hr)
          rw [hW]
          exact .inl (heap_alloc_old W.drew _ hk)
    · exact .inl (g2.block k hk (fun e=>hkg (Option.some.inj e)))
theorem Qe5 (a b:List Int) (i:Nat):nth (a++b) (a.length+i)=nth b i:=by
  unfold nth
  rw [List.getD_eq_getElem?_getD,List.getD_eq_getElem?_getD,List.getElem?_append_right (Nat.le_add_right _ _),Nat.add_sub_cancel_left]
theorem Qh5 (a b:List Int) {i:Nat} (h:i<a.length):nth (a++b) i=nth a i:=by
  unfold nth
  rw [List.getD_eq_getElem?_getD,List.getD_eq_getElem?_getD,List.getElem?_append_left h]
theorem Qqr (a Y:List Int):∀ i,i<a.length→a.length≤i→nth a i=nth Y (i-a.length):=fun i h k=>absurd h (by omega)
theorem Qqq (a b c:List Int):∀ i,i<(a++b).length→a.length≤i→nth (a++b) i=nth (b++c) (i-a.length):=fun i h k=>by
  rw [List.length_append] at h
  obtain ⟨j,rfl⟩:∃ j,i=a.length+j:=⟨i-a.length,by omega⟩
  rw [Qe5,Nat.add_sub_cancel_left,Qh5 b c (by omega)]
theorem Qqp (a b c:List Int):∀ i,i<(a++b++c).length→a.length≤i→nth (a++b++c) i=nth (b++c) (i-a.length):=fun i h k=>by
  obtain ⟨j,rfl⟩:∃ j,i=a.length+j:=⟨i-a.length,by omega⟩
  rw [List.append_assoc,Qe5,Nat.add_sub_cancel_left]
theorem QkQ {n : Nat} {ys:List Int} {w0:World} {T:TypeId} {cs:Array Value} (hT:T≠5):QbL (OncU w0.heap.size n ys) (NewP w0.heap.size cs T):=fun v W W' hR ⟨g,h1,h2,h3⟩=>by
  refine ⟨g,h1,h2,?_⟩
  rcases hR.block g (Qa3 h3) with q | ⟨hb,ds,ds',r1,_⟩
  · exact q.trans h3
  · rw [h3] at r1
    simp only [Option.some.injEq,Obj.cells.injEq] at r1
    exact absurd r1.2.1 hT
theorem Qfq {r0 : Tmp→Value} {E:List Fact} {ρ:Tmp→Value} {W:World} {d:Tmp} {j:Nat}:∀ (rd:List (Tmp×Option Nat)) (i:Nat),Qca r0 E ρ W rd→rd[i]? = some (d,some j)→(E.getD j fun _ _=>True) (ρ d) W
  | [],_,_,h=>by simp at h
  | (t,some k)::r,0,h,e=>by
    obtain ⟨rfl,rfl⟩:t=d∧k=j:=by simpa using e
    exact h.1
  | (t,none)::r,0,h,e=>by simp at e
  | (t,some k)::r,i+1,h,e=>Qfq r i h.2 (by simpa using e)
  | (t,none)::r,i+1,h,e=>Qfq r i h.2 (by simpa using e)
theorem QgS {r0 : Tmp→Value} {C:List KE} {ρ:Tmp→Value} {W:World} {rd:List (Tmp×Option Nat)} (h:Qca r0 (C.map KE.fact) ρ W rd) (i:Nat) (d:Tmp) (j:Nat) (hi:rd[i]? = some (d,some j)) {v:Value} (hj:C[j]? = some (.is v)):ρ d=v:=by
  have h1:=Qfq rd i h hi
  rw [List.getD_eq_getElem?_getD,List.getElem?_map,hj] at h1
  exact h1
theorem Qfp {r0 : Tmp→Value} {C:List KE} {ρ:Tmp→Value} {W:World} {rd:List (Tmp×Option Nat)} (h:Qca r0 (C.map KE.fact) ρ W rd) (i:Nat) (d:Tmp) (j:Nat) (hi:rd[i]? = some (d,some j)) {φ:Fact} (hj:C[j]? = some (.ex φ)):φ (ρ d) W:=by
  have h1:=Qfq rd i h hi
  rw [List.getD_eq_getElem?_getD,List.getElem?_map,hj] at h1
  exact h1
end Go.Proofs.YtdoadngmgmdlbaaDoor.Sgn
end
section
namespace Go.Proofs.YtdoadngmgmdlbaaDoor.Sgn
open Go Go.RowKit
open Rely Auto Own Sha5
open Ladder (clamp)
open Field (Qao resN numA num lims QbW ordL Qb0 QbH QbG QaQ encP Qbe pa Qdh pAdd pNeg mulP QcK okK xK zK lK mulR BP Qcb numB nmul OnP QcH)
theorem verE {p s t:List Int} {b:Bool} (e:verV p s t=b) {P:Program} {f:FuncId} {args:Array Value} {w:World} (h:Calls P f args w (Ret w (.bool (verV p s t)))):Calls P f args w (Ret w (.bool b)):=by rw [e] at h; exact h
theorem QnG : k7.length=32:=rfl
theorem Qjf : Qal k7:=by unfold Qal; decide
theorem Qnv : Qal [97,98]:=by unfold Qal; decide
theorem Qp9 : Qal [97]:=by unfold Qal; decide
theorem QlB : Qal [98]:=by unfold Qal; decide
theorem QlE (tc tq tO tB tX tY:TypeId) (w:World) (hT:Tabs tc tq tO tB tX tY w):Calls Tryd.prog 9 #[] w (Ret w (.bool true)):=by
  refine enter 27 [] Tryd.func9 rfl rfl kj rfl ?_
  refine wp_seq_k fun K1 hK1=>?_
  refine Qac ?_
  refine Qab (.bool false) 0 rfl kj kj ?_
  refine Qaf ?_
  refine hK1 _ _ ?_
  refine wp_seq_k fun K2 hK2=>?_
  refine Qac ?_
  refine Qab (.agg (ints .u8 (k7))) 3 rfl kj kj ?_
  refine Qar (.agg (ints .u8 (pubV k7))) 10 #[.agg (ints .u8 (k7))] 4 rfl kj kj (Qop k7 QnG Qjf tc tq tO tB tX tY _ (hT.ext (Rely.Ext.refl w))) fun W1 e1=>?_
  have x1:Ext w W1:=Ext.tr (Rely.Ext.refl w) e1
  refine Qaj (ints .u8 (List.replicate 32 0)) 23 1 rfl kj kj fun g3 W2 l3 e2 r3_2=>?_
  have x2:Ext w W2:=Ext.tr x1 e2
  have b3:w.heap.size≤g3:=qT x1.size l3
  refine Qak g3 _ (ints .u8 (pubV k7)) 23 r3_2 rfl kj (Qah 23 _ _ g3 23 _ _ r3_2 rfl kj kj (isz (n:=32) kj ((Qae _ _).trans (Qbn k7))) (eqsz (n:=32) ((Qae _ _).trans (qZ (n:=32))) ((Qae _ _).trans (Qbn k7))) (ints_one _ _)) fun W3 p3 r3_3=>?_
  have x3:Ext w W3:=Puts.ext p3 x2 b3
  refine Qaf ?_
  refine hK2 _ _ ?_
  refine wp_seq_k fun K4 hK4=>?_
  refine Qac ?_
  refine Qab (.agg (ints .u8 (k7))) 5 rfl kj kj ?_
  refine QaR (ints .u8 ([97])) 5 1 6 rfl kj kj fun g5 W4 l5 e4 r5_4=>?_
  have x4:Ext w W4:=Ext.tr x3 e4
  have b5:w.heap.size≤g5:=qT x3.size l5
  refine Qew (xs:=[97]) 27 5 (.tmp 6) 7 rfl rfl kj kj kj kj rfl (show 1≤maxLen by decide) r5_4 fun W5 p5 r5_5 rd6=>?_
  have x5:Ext w W5:=Puts.ext p5 x4 b5
  refine QaR (ints .u8 ([98])) 5 1 8 rfl kj kj fun g7 W6 l7 e6 r7_6=>?_
  have x6:Ext w W6:=Ext.tr x5 e6
  have b7:w.heap.size≤g7:=qT x5.size l7
  refine Qew (xs:=[98]) 27 5 (.tmp 8) 9 rfl rfl kj kj kj kj rfl (show 1≤maxLen by decide) r7_6 fun W7 p7 r7_7 rd8=>?_
  have x7:Ext w W7:=Puts.ext p7 x6 b7
  refine QaR (#[.slice (some ⟨g5,0,none⟩) 1 1,.slice (some ⟨g7,0,none⟩) 1 1]) 27 2 10 rfl kj kj fun g9 W8 l9 e8 r9_8=>?_
  have x8:Ext w W8:=Ext.tr x7 e8
  have b9:w.heap.size≤g9:=qT x7.size l9
  have f10_6:=(rd6.ext e6)
  have f11_7:=(RdK.putsP f10_6 p7 (.inr (fun e=>(Qad r5_5 l7) (Option.some.inj e))))
  have f12_8:=(f11_7.ext e8)
  have f13_8:=(rd8.ext e8)
  have hps14:∀ p∈([(.slice (some ⟨g5,0,none⟩) 1 1,[97]),(.slice (some ⟨g7,0,none⟩) 1 1,[98])]:List (Value×List Int)),RdK .u8 W8.heap.size p.2 p.1 W8∧Qal p.2:=by
    intro p hp
    simp only [List.mem_cons,List.not_mem_nil,or_false] at hp
    rcases hp with rfl | rfl
    · exact ⟨RdK.here f12_8,Qp9⟩
    · exact ⟨RdK.here f13_8,QlB⟩
  have hone14:∀ u∈([(.slice (some ⟨g5,0,none⟩) 1 1,[97]),(.slice (some ⟨g7,0,none⟩) 1 1,[98])]:List (Value×List Int)).map Prod.fst,u.oneCell'=true:=by
    intro u hu
    simp only [List.map_cons,List.map_nil,List.mem_cons,List.not_mem_nil,or_false] at hu
    rcases hu with rfl | rfl <;> rfl
  refine Qar (.agg (ints .u8 (sigV k7 ([97,98])))) 13 #[.agg (ints .u8 (k7)),.slice (some ⟨g9,0,none⟩) 2 2] 11 rfl kj kj (QqV k7 QnG Qjf g9 2 _ ([(.slice (some ⟨g5,0,none⟩) 1 1,[97]),(.slice (some ⟨g7,0,none⟩) 1 1,[98])]:List (Value×List Int)) rfl (by decide) hone14 tc tq tO tB tX tY _ (hT.ext x8) r9_8 hps14 ([97,98]) rfl (by decide)) fun W9 e9=>?_
  have x9:Ext w W9:=Ext.tr x8 e9
  refine Qaj (ints .u8 (List.replicate 64 0)) 30 2 rfl kj kj fun g15 W10 l15 e10 r15_10=>?_
  have x10:Ext w W10:=Ext.tr x9 e10
  have b15:w.heap.size≤g15:=qT x9.size l15
  refine Qak g15 _ (ints .u8 (sigV k7 ([97,98]))) 30 r15_10 rfl kj (Qah 30 _ _ g15 30 _ _ r15_10 rfl kj kj (isz (n:=64) kj ((Qae _ _).trans (QbB k7 ([97,98])))) (eqsz (n:=64) ((Qae _ _).trans (qZ (n:=64))) ((Qae _ _).trans (QbB k7 ([97,98])))) (ints_one _ _)) fun W11 p11 r15_11=>?_
  have x11:Ext w W11:=Puts.ext p11 x10 b15
  refine Qaf ?_
  refine hK4 _ _ ?_
  refine wp_seq_k fun K16 hK16=>?_
  refine Qac ?_
  have r3_4:=(Qaa r3_3 e4)
  have r3_5:=(Puts.row p5 r3_4 (Qad r3_3 l5))
  have r3_6:=(Qaa r3_5 e6)
  have r3_7:=(Puts.row p7 r3_6 (Qad r3_5 l7))
  have r3_8:=(Qaa r3_7 e8)
  have r3_9:=(Qaa r3_8 e9)
  have r3_10:=(Qaa r3_9 e10)
  have r3_11:=(Puts.row p11 r3_10 (Qad r3_9 l15))
  refine Qab (.agg (ints .u8 (pubV k7))) 12 rfl kj (Qag 23 _ g3 23 _ _ r3_11 rfl kj kj (isz (n:=32) kj ((Qae _ _).trans (Qbn k7)))) ?_
  refine Qab (.agg (ints .u8 (sigV k7 ([97,98])))) 13 rfl kj (Qag 30 _ g15 30 _ _ r15_11 rfl kj kj (isz (n:=64) kj ((Qae _ _).trans (QbB k7 ([97,98]))))) ?_
  refine QaR (ints .u8 ([97,98])) 5 2 14 rfl kj kj fun g17 W12 l17 e12 r17_12=>?_
  have x12:Ext w W12:=Ext.tr x11 e12
  have b17:w.heap.size≤g17:=qT x11.size l17
  refine Qew (xs:=[97,98]) 27 5 (.tmp 14) 15 rfl rfl kj kj kj kj rfl (show 2≤maxLen by decide) r17_12 fun W13 p13 r17_13 rd18=>?_
  have x13:Ext w W13:=Puts.ext p13 x12 b17
  refine QaR (#[.slice (some ⟨g17,0,none⟩) 2 2]) 27 1 16 rfl kj kj fun g19 W14 l19 e14 r19_14=>?_
  have x14:Ext w W14:=Ext.tr x13 e14
  have b19:w.heap.size≤g19:=qT x13.size l19
  have f20_14:=(rd18.ext e14)
  have hps21:∀ p∈([(.slice (some ⟨g17,0,none⟩) 2 2,[97,98])]:List (Value×List Int)),RdK .u8 W14.heap.size p.2 p.1 W14∧Qal p.2:=by
    intro p hp
    simp only [List.mem_cons,List.not_mem_nil,or_false] at hp
    rcases hp with rfl
    · exact ⟨RdK.here f20_14,Qnv⟩
  have hone21:∀ u∈([(.slice (some ⟨g17,0,none⟩) 2 2,[97,98])]:List (Value×List Int)).map Prod.fst,u.oneCell'=true:=by
    intro u hu
    simp only [List.map_cons,List.map_nil,List.mem_cons,List.not_mem_nil,or_false] at hu
    rcases hu with rfl <;> rfl
  refine Qar (.bool true) 16 #[.agg (ints .u8 (pubV k7)),.agg (ints .u8 (sigV k7 ([97,98]))),.slice (some ⟨g19,0,none⟩) 1 1] 17 rfl kj kj (verE (QnV k7 [97,98]) (Qig (pubV k7) (sigV k7 ([97,98])) (Qbn k7) (Qdn k7) (QbB k7 ([97,98])) (Qgd k7 ([97,98])) g19 1 _ ([(.slice (some ⟨g17,0,none⟩) 2 2,[97,98])]:List (Value×List Int)) rfl (by decide) hone21 tc tq tO tB tX tY _ (hT.ext x14) r19_14 hps21 ([97,98]) rfl (by decide))) fun W15 e15=>?_
  have x15:Ext w W15:=Ext.tr x14 e15
  refine Qab (.bool true) 18 rfl kj kj ?_
  have r3_12:=(Qaa r3_11 e12)
  have r3_13:=(Puts.row p13 r3_12 (Qad r3_11 l17))
  have r3_14:=(Qaa r3_13 e14)
  have r3_15:=(Qaa r3_14 e15)
  refine Qab (.agg (ints .u8 (pubV k7))) 19 rfl kj (Qag 23 _ g3 23 _ _ r3_15 rfl kj kj (isz (n:=32) kj ((Qae _ _).trans (Qbn k7)))) ?_
  have r15_12:=(Qaa r15_11 e12)
  have r15_13:=(Puts.row p13 r15_12 (Qad r15_11 l17))
  have r15_14:=(Qaa r15_13 e14)
  have r15_15:=(Qaa r15_14 e15)
  refine Qab (.agg (ints .u8 (sigV k7 ([97,98])))) 20 rfl kj (Qag 30 _ g15 30 _ _ r15_15 rfl kj kj (isz (n:=64) kj ((Qae _ _).trans (QbB k7 ([97,98]))))) ?_
  refine QaR (ints .u8 ([98])) 5 1 21 rfl kj kj fun g22 W16 l22 e16 r22_16=>?_
  have x16:Ext w W16:=Ext.tr x15 e16
  have b22:w.heap.size≤g22:=qT x15.size l22
  refine Qew (xs:=[98]) 27 5 (.tmp 21) 22 rfl rfl kj kj kj kj rfl (show 1≤maxLen by decide) r22_16 fun W17 p17 r22_17 rd23=>?_
  have x17:Ext w W17:=Puts.ext p17 x16 b22
  refine QaR (#[.slice (some ⟨g22,0,none⟩) 1 1]) 27 1 23 rfl kj kj fun g24 W18 l24 e18 r24_18=>?_
  have x18:Ext w W18:=Ext.tr x17 e18
  have b24:w.heap.size≤g24:=qT x17.size l24
  have f25_18:=(rd23.ext e18)
  have hps26:∀ p∈([(.slice (some ⟨g22,0,none⟩) 1 1,[98])]:List (Value×List Int)),RdK .u8 W18.heap.size p.2 p.1 W18∧Qal p.2:=by
    intro p hp
    simp only [List.mem_cons,List.not_mem_nil,or_false] at hp
    rcases hp with rfl
    · exact ⟨RdK.here f25_18,QlB⟩
  have hone26:∀ u∈([(.slice (some ⟨g22,0,none⟩) 1 1,[98])]:List (Value×List Int)).map Prod.fst,u.oneCell'=true:=by
    intro u hu
    simp only [List.map_cons,List.map_nil,List.mem_cons,List.not_mem_nil,or_false] at hu
    rcases hu with rfl <;> rfl
  refine Qar (.bool false) 16 #[.agg (ints .u8 (pubV k7)),.agg (ints .u8 (sigV k7 ([97,98]))),.slice (some ⟨g24,0,none⟩) 1 1] 24 rfl kj kj (verE ver7 (Qig (pubV k7) (sigV k7 ([97,98])) (Qbn k7) (Qdn k7) (QbB k7 ([97,98])) (Qgd k7 ([97,98])) g24 1 _ ([(.slice (some ⟨g22,0,none⟩) 1 1,[98])]:List (Value×List Int)) rfl (by decide) hone26 tc tq tO tB tX tY _ (hT.ext x18) r24_18 hps26 ([98]) rfl (by decide))) fun W19 e19=>?_
  have x19:Ext w W19:=Ext.tr x18 e19
  refine Qab (.bool true) 25 rfl kj kj ?_
  refine Qab (.bool true) 26 rfl kj kj ?_
  refine Qab (.bool true) 0 rfl kj kj ?_
  refine Qaf ?_
  refine hK16 _ _ ?_
  refine wp_ret ?_
  repeat (first | with_reducible refine goR1 ?_ | with_reducible refine goR2 ?_)
  exact (show bodyPost _ _ _ .ret _ _ from ret1 (.bool true) rfl (Qbr kj) ⟨rfl,x19⟩)
end Go.Proofs.YtdoadngmgmdlbaaDoor.Sgn
end
section
namespace Go.Proofs.YtdoadngmgmdlbaaDoor.Sgn
open Go Go.RowKit
open Rely Auto Own Sha5
open Ladder (clamp)
open Field (Qao resN numA num lims QbW ordL Qb0 QbH QbG QaQ encP Qbe pa Qdh pAdd pNeg mulP QcK okK xK zK lK mulR BP Qcb numB nmul OnP QcH)
def w3A (A : Field.W3):Array Value:=cat [ints .i64 (lims A.1),ints .i64 (lims A.2.1),ints .i64 (lims A.2.2)]
structure R3 (A : Field.W3) (P : Int × Int) : Prop where
  is:Field.isW3 A
  rep:Field.RepR' A P
  on:OnP P
@[irreducible] def rT (A : Field.W3) (ks : List Int) : Field.W3 := Field.rruns A Field.Z0 ks 0
def bA : Field.W3:=(Field.bxN,Field.byN,1)
theorem R3.of {P : Int×Int} (h:OnP P):R3 (P.1,P.2,1) P:=⟨⟨h.x,h.y,Field.num_isN 1⟩,Field.rE_rep h,h⟩
theorem Qg9 : R3 bA BP:=R3.of Qcb
theorem R3.times {A : Field.W3} {P:Int×Int} (h:R3 A P) (ks:List Int):R3 (rT A ks) (Field.climbP P (Field.bitsB ks)):=by
  unfold rT
  rw [Field.rruns_full]
  exact ⟨Field.rrun_is h.is _ ⟨Field.num_isN 0,Field.num_isN 1,Field.num_isN 1⟩,Field.rrun_rep h.on h.rep (Field.bitsB ks) Field.pZero_on Field.Z0_rep,Field.climbP_on h.on _⟩
theorem R3.add {A B:Field.W3} {P Q:Int×Int} (h:R3 A P) (k:R3 B Q):R3 (Field.rad A B) (pAdd P Q):=⟨Field.rad_is h.is k.is,Field.rad_rep h.on k.on h.rep k.rep,Field.pAdd_on h.on k.on⟩
theorem Qk7 {A : Field.W3} {P:Int×Int} (h:R3 A P) (ks:List Int) (hk:ks.length=32) (hkb:Qal ks) (w:World):Calls Tryd.prog 26 #[.agg (w3A A),.agg (ints .u8 ks)] w (Ret w (.agg (w3A (rT A ks)))):=by
  unfold rT
  exact Field.rtimesC A h.is ks hk hkb w
theorem Qk8 {A : Field.W3} {P:Int×Int} (h:R3 A P) (w:World):Calls Tryd.prog 25 #[.agg (w3A A)] w (Ret w (.agg (ints .u8 (encP P)))):=by
  have c:=Field.rbytesC _ _ _ h.is.1 h.is.2.1 h.is.2.2 w
  have r:=h.rep
  have ex:A.1*Field.invN A.2.2%Field.p=P.1:=by rw [r.hx]; exact Field.rep_out r.n r.z h.on.x
  have ey:A.2.1*Field.invN A.2.2%Field.p=P.2:=by rw [r.hy]; exact Field.rep_out r.n r.z h.on.y
  rw [ex,ey] at c
  exact c
theorem from_bx (w : World):Calls Tryd.prog 60 #[.agg (ints .u8 QbH)] w (Ret w (.agg (ints .i64 (lims Field.bxN)))):=by rw [←Field.key_bx]; exact Field.lFrom QbH rfl Field.baseX_bytes w
theorem from_by (w : World):Calls Tryd.prog 60 #[.agg (ints .u8 QbG)] w (Ret w (.agg (ints .i64 (lims Field.byN)))):=by rw [←Field.key_by]; exact Field.lFrom QbG rfl Field.baseY_bytes w
theorem bitsS (bs : List Int) (v:Value) (B:Nat) (w:World) (hn:bs.length≤1000) (hb:Qal bs) (hr:RdK .u8 B bs v w):Calls Tryd.prog 38 #[v] w (Ret w (.agg (ints .u8 (Qao (resN bs))))):=by
  obtain ⟨a,cap,rfl,h1,h2,h3,h4⟩:=hr
  refine Field.bitsC a bs.length cap bs rfl hn hb w ?_
  rcases h4 with h4 | ⟨g,o,e1,_,e3,e4⟩
  · exact .inl (by rw [h4]; rfl)
  · exact .inr ⟨g,o,e1,e3,e4⟩
theorem QnN (xs : List Int) (w:World):Calls Tryd.prog 28 #[.agg (ints .u8 ((dig xs).take 32))] w (Ret w (.agg (ints .u8 (secV xs)))):=by
  unfold secV
  exact Ladder.refClampC _ (Qbt (dig_len xs)) (Qfj (dig_bytes xs)) w
theorem QeG {a b:List Int} (h:Qal a) (k:Qal b):Qal (a++b):=fun x hx=>by
  rcases List.mem_append.1 hx with q | q
  · exact h x q
  · exact k x q
theorem Qn9 (w : World):Calls Tryd.prog 27 #[] w (Ret w (.agg (w3A bA))):=by
  refine enter 7 [] Tryd.func27 rfl rfl kj rfl ?_
  refine wp_seq_k fun K1 hK1=>?_
  refine Qac ?_
  refine Qaj (w3A (0,0,0)) 60 0 rfl kj kj fun g2 W1 l2 e1 r2_1=>?_
  have x1:Ext w W1:=Ext.tr (Rely.Ext.refl w) e1
  have b2:w.heap.size≤g2:=qT (Rely.Ext.refl w).size l2
  refine Qaf ?_
  refine hK1 _ _ ?_
  refine wp_seq_k fun K3 hK3=>?_
  refine Qac ?_
  refine Qab (.agg (ints .u8 (QbH))) 1 rfl kj kj ?_
  refine Qar (.agg (ints .i64 (lims Field.bxN))) 60 #[.agg (ints .u8 (QbH))] 2 rfl kj kj (from_bx _) fun W2 e2=>?_
  have x2:Ext w W2:=Ext.tr x1 e2
  refine Qab (.agg (ints .u8 (QbG))) 3 rfl kj kj ?_
  refine Qar (.agg (ints .i64 (lims Field.byN))) 60 #[.agg (ints .u8 (QbG))] 4 rfl kj kj (from_by _) fun W3 e3=>?_
  have x3:Ext w W3:=Ext.tr x2 e3
  refine Qab (.agg (ints .i64 (lims 1))) 5 rfl kj kj ?_
  refine Qab (.agg (w3A (bA))) 6 rfl kj kj ?_
  have r2_2:=(Qaa r2_1 e2)
  have r2_3:=(Qaa r2_2 e3)
  refine Qak g2 _ (w3A (bA)) 60 r2_3 rfl kj (Qah 60 _ _ g2 60 _ _ r2_3 rfl kj kj (isz (n:=48) kj kj) (eqsz (n:=48) kj kj) kj) fun W4 p4 r2_4=>?_
  have x4:Ext w W4:=Puts.ext p4 x3 b2
  refine Qaf ?_
  refine hK3 _ _ ?_
  refine wp_ret ?_
  repeat (first | with_reducible refine goR1 ?_ | with_reducible refine goR2 ?_)
  exact (show bodyPost _ _ _ .ret _ _ from ret1 (.agg (w3A (bA))) rfl (QaC g2 60 _ r2_4 kj kj (isz (n:=48) kj kj)) ⟨rfl,x4⟩)
theorem Qmg (t : List Int) (v:Value) (B:Nat) (w:World) (hlen:t.length≤900000000) (htb:Qal t) (hr:RdK .u8 B t v w):Calls Tryd.prog 31 #[v] w (Ret w (.agg (ints .u8 (Qao (resN (dig t)))))):=by
  refine enter 8 [(0,v)] Tryd.func31 rfl rfl kj rfl ?_
  refine wp_seq_k fun K1 hK1=>?_
  refine Qac ?_
  refine Qaj (ints .u8 (List.replicate 32 0)) 23 2 rfl kj kj fun g2 W1 l2 e1 r2_1=>?_
  have x1:Ext w W1:=Ext.tr (Rely.Ext.refl w) e1
  have b2:w.heap.size≤g2:=qT (Rely.Ext.refl w).size l2
  refine Qaf ?_
  refine hK1 _ _ ?_
  refine wp_seq_k fun K3 hK3=>?_
  refine Qac ?_
  refine Qab (v) 4 rfl kj kj ?_
  refine Qar (.agg (ints .u8 (dig t))) 24 #[v] 5 rfl kj kj (Qk2 t _ _ _ hlen htb (RdK.ext hr x1)) fun W2 e2=>?_
  have x2:Ext w W2:=Ext.tr x1 e2
  refine Qaj (ints .u8 (List.replicate 64 0)) 30 3 rfl kj kj fun g4 W3 l4 e3 r4_3=>?_
  have x3:Ext w W3:=Ext.tr x2 e3
  have b4:w.heap.size≤g4:=qT x2.size l4
  refine Qak g4 _ (ints .u8 (dig t)) 30 r4_3 rfl kj (Qah 30 _ _ g4 30 _ _ r4_3 rfl kj kj (isz (n:=64) kj ((Qae _ _).trans (dig_len t))) (eqsz (n:=64) ((Qae _ _).trans (qZ (n:=64))) ((Qae _ _).trans (dig_len t))) (ints_one _ _)) fun W4 p4 r4_4=>?_
  have x4:Ext w W4:=Puts.ext p4 x3 b4
  refine Qaf ?_
  refine hK3 _ _ ?_
  refine wp_seq_k fun K5 hK5=>?_
  refine Qac ?_
  refine Qab (.slice (some ⟨g4,0,none⟩) 64 64) 6 rfl kj kj ?_
  refine Qar (.agg (ints .u8 (Qao (resN (dig t))))) 38 #[.slice (some ⟨g4,0,none⟩) 64 64] 7 rfl kj kj (bitsS (dig t) _ _ _ (by rw [dig_len]; decide) (dig_bytes t) (RdK.ext (Qcc (xs:=dig t) (n:=64) (dig_len t) r4_4 (Qa3 r4_4) (show 64≤maxLen from by decide)) (Rely.Ext.refl _))) fun W5 e5=>?_
  have x5:Ext w W5:=Ext.tr x4 e5
  have r2_2:=(Qaa r2_1 e2)
  have r2_3:=(Qaa r2_2 e3)
  have r2_4:=(Puts.row p4 r2_3 (Qad r2_2 l4))
  have r2_5:=(Qaa r2_4 e5)
  refine Qak g2 _ (ints .u8 (Qao (resN (dig t)))) 23 r2_5 rfl kj (Qah 23 _ _ g2 23 _ _ r2_5 rfl kj kj (isz (n:=32) kj ((Qae _ _).trans (bytesOf_len _))) (eqsz (n:=32) ((Qae _ _).trans (qZ (n:=32))) ((Qae _ _).trans (bytesOf_len _))) (ints_one _ _)) fun W6 p6 r2_6=>?_
  have x6:Ext w W6:=Puts.ext p6 x5 b2
  refine Qaf ?_
  refine hK5 _ _ ?_
  refine wp_ret ?_
  repeat (first | with_reducible refine goR1 ?_ | with_reducible refine goR2 ?_)
  exact (show bodyPost _ _ _ .ret _ _ from ret1 (.agg (ints .u8 (Qao (resN (dig t))))) rfl (QaC g2 23 _ r2_6 kj kj (isz (n:=32) kj ((Qae _ _).trans (bytesOf_len _)))) ⟨rfl,x6⟩)
theorem QiP (t : List Int) (v:Value) (B:Nat) (w:World) (hlen:t.length≤900000000) (htb:Qal t) (hr:RdK .u8 B t v w):Calls Tryd.prog 31 #[v] w (Ret w (.agg (ints .u8 (resV t)))):=by
  unfold resV
  exact Qmg t v B w hlen htb hr
theorem QlY (xs : List Int) (hx:xs.length=32) (hb:Qal xs) (w:World):Calls Tryd.prog 11 #[.agg (ints .u8 xs)] w (Ret w (.agg (ints .u8 (encP (pa (secV xs)))))):=by
  refine enter 16 [(0,.agg (ints .u8 (xs)))] Tryd.func11 rfl rfl kj rfl ?_
  refine wp_seq_k fun K1 hK1=>?_
  refine Qac ?_
  refine Qaj (ints .u8 (xs)) 23 1 rfl kj kj fun g2 W1 l2 e1 r2_1=>?_
  have x1:Ext w W1:=Ext.tr (Rely.Ext.refl w) e1
  have b2:w.heap.size≤g2:=qT (Rely.Ext.refl w).size l2
  refine Qaj (ints .u8 (List.replicate 32 0)) 23 2 rfl kj kj fun g3 W2 l3 e2 r3_2=>?_
  have x2:Ext w W2:=Ext.tr x1 e2
  have b3:w.heap.size≤g3:=qT x1.size l3
  refine Qaf ?_
  refine hK1 _ _ ?_
  refine wp_seq_k fun K4 hK4=>?_
  refine Qac ?_
  refine Qab (.slice (some ⟨g2,0,none⟩) 32 32) 6 rfl kj kj ?_
  have r2_2:=(Qaa r2_1 e2)
  refine Qar (.agg (ints .u8 (dig xs))) 24 #[.slice (some ⟨g2,0,none⟩) 32 32] 7 rfl kj kj (Qk2 xs _ _ _ (by (try simp only [List.length_append,Qbn,Qbf,QbT,Qb8,hx]); omega) hb (Qcc (xs:=xs) (n:=32) hx r2_2 (Qa3 r2_2) (show 32≤maxLen from by decide))) fun W3 e3=>?_
  have x3:Ext w W3:=Ext.tr x2 e3
  refine Qar (.tuple #[.agg (ints .u8 ((dig xs).take 32)),.agg (ints .u8 ((dig xs).drop 32))]) 23 #[.agg (ints .u8 (dig xs))] 8 rfl kj kj ((Qli (dig xs) (dig_len xs)) _) fun W4 e4=>?_
  have x4:Ext w W4:=Ext.tr x3 e4
  refine Qab (.tuple #[.agg (ints .u8 ((dig xs).take 32)),.agg (ints .u8 ((dig xs).drop 32))]) 5 rfl kj kj ?_
  refine Qab (.agg (ints .u8 ((dig xs).take 32))) 9 rfl kj kj ?_
  refine Qab (.agg (ints .u8 ((dig xs).drop 32))) 10 rfl kj kj ?_
  refine Qaj (ints .u8 (List.replicate 32 0)) 23 3 rfl kj kj fun g5 W5 l5 e5 r5_5=>?_
  have x5:Ext w W5:=Ext.tr x4 e5
  have b5:w.heap.size≤g5:=qT x4.size l5
  refine Qaj (ints .u8 (List.replicate 32 0)) 23 4 rfl kj kj fun g6 W6 l6 e6 r6_6=>?_
  have x6:Ext w W6:=Ext.tr x5 e6
  have b6:w.heap.size≤g6:=qT x5.size l6
  have r5_6:=(Qaa r5_5 e6)
  refine Qak g5 _ (ints .u8 ((dig xs).take 32)) 23 r5_6 rfl kj (Qah 23 _ _ g5 23 _ _ r5_6 rfl kj kj (isz (n:=32) kj ((Qae _ _).trans (Qbt (dig_len xs)))) (eqsz (n:=32) ((Qae _ _).trans (qZ (n:=32))) ((Qae _ _).trans (Qbt (dig_len xs)))) (ints_one _ _)) fun W7 p7 r5_7=>?_
  have x7:Ext w W7:=Puts.ext p7 x6 b5
  have r6_7:=(Puts.row p7 r6_6 (Qat r5_5 l6))
  refine Qak g6 _ (ints .u8 ((dig xs).drop 32)) 23 r6_7 rfl kj (Qah 23 _ _ g6 23 _ _ r6_7 rfl kj kj (isz (n:=32) kj ((Qae _ _).trans (Qby (dig_len xs)))) (eqsz (n:=32) ((Qae _ _).trans (qZ (n:=32))) ((Qae _ _).trans (Qby (dig_len xs)))) (ints_one _ _)) fun W8 p8 r6_8=>?_
  have x8:Ext w W8:=Puts.ext p8 x7 b6
  refine Qaf ?_
  refine hK4 _ _ ?_
  refine wp_seq_k fun K7 hK7=>?_
  refine QaK 5 [⟨none,[]⟩,⟨none,[(3,none)]⟩,⟨none,[(12,some 1)]⟩,⟨none,[(11,some 0),(13,some 2)]⟩,⟨none,[(14,some 3)]⟩] kj kj fun F hF=>?_
  refine Qau (.agg (w3A (bA))) 27 #[] kj kj (fun W=>kj) (fun W hR=>Qn9 W) ?_
  have r5_8:=(Puts.row p8 r5_7 (Qad r5_5 l6))
  refine Qaq (.agg (ints .u8 ((dig xs).take 32))) kj kj (fun W hR=>(Qag 23 _ g5 23 _ _ (Qaa (Qaa r5_8 (Qai _)) hR) rfl kj kj (isz (n:=32) kj ((Qae _ _).trans (Qbt (dig_len xs)))))) ?_
  refine Qau (.agg (ints .u8 (secV xs))) 28 #[.agg (ints .u8 ((dig xs).take 32))] kj kj (fun W=>kj) (fun W hR=>QnN xs W) ?_
  refine Qau (.agg (w3A (rT bA (secV xs)))) 26 #[.agg (w3A (bA)),.agg (ints .u8 (secV xs))] kj kj (fun W=>kj) (fun W hR=>Qk7 Qg9 (secV xs) (QbC xs) (Qc8 xs) W) ?_
  refine Qau (.agg (ints .u8 (encP (pa (secV xs))))) 25 #[.agg (w3A (rT bA (secV xs)))] kj kj (fun W=>kj) (fun W hR=>Qk8 (R3.times Qg9 (secV xs)) W) ?_
  refine Qa9 (hF _ kj fun W9 e9=>?_)
  simp only [ups,up,Kn.val,List.take_succ_cons,List.take_zero,List.drop_succ_cons,List.drop_zero,List.nil_append,List.cons_append]
  clear hF
  have x9:Ext w W9:=Ext.tr x8 e9
  have r3_3:=(Qaa r3_2 e3)
  have r3_4:=(Qaa r3_3 e4)
  have r3_5:=(Qaa r3_4 e5)
  have r3_6:=(Qaa r3_5 e6)
  have r3_7:=(Puts.row p7 r3_6 (Qad r3_4 l5))
  have r3_8:=(Puts.row p8 r3_7 (Qad r3_5 l6))
  have r3_9:=(Qaa r3_8 e9)
  refine Qak g3 _ (ints .u8 (encP (pa (secV xs)))) 23 r3_9 rfl kj (Qah 23 _ _ g3 23 _ _ r3_9 rfl kj kj (isz (n:=32) kj ((Qae _ _).trans (Qbe _))) (eqsz (n:=32) ((Qae _ _).trans (qZ (n:=32))) ((Qae _ _).trans (Qbe _))) (ints_one _ _)) fun W10 p10 r3_10=>?_
  have x10:Ext w W10:=Puts.ext p10 x9 b3
  refine Qaf ?_
  refine hK7 _ _ ?_
  refine wp_ret ?_
  repeat (first | with_reducible refine goR1 ?_ | with_reducible refine goR2 ?_)
  exact (show bodyPost _ _ _ .ret _ _ from ret1 (.agg (ints .u8 (encP (pa (secV xs))))) rfl (QaC g3 23 _ r3_10 kj kj (isz (n:=32) kj ((Qae _ _).trans (Qbe _)))) ⟨rfl,x10⟩)
theorem QiK (xs : List Int) (hx:xs.length=32) (hb:Qal xs) (w:World):Calls Tryd.prog 11 #[.agg (ints .u8 xs)] w (Ret w (.agg (ints .u8 (pubV xs)))):=by
  unfold pubV
  exact QlY xs hx hb w
end Go.Proofs.YtdoadngmgmdlbaaDoor.Sgn
end
section
namespace Go.Proofs.YtdoadngmgmdlbaaDoor.Sgn
open Go Go.RowKit
open Rely Auto Own Sha5
open Ladder (clamp)
open Field (Qao resN numA num lims QbW ordL Qb0 QbH QbG QaQ encP Qbe pa Qdh pAdd pNeg mulP QcK okK xK zK lK mulR BP Qcb numB nmul OnP QcH)
theorem Qot (xs : List Int):(dig xs).drop 32=preV xs:=by unfold preV; rfl
def outV (xs t:List Int) (i:Nat):List Int:=fill (sgF xs t) 32 i++fill (sgS xs t) 32 i
theorem Qdo {zs : List Int} (h:zs.length=32) {i:Nat} (hi:i≤32):(fill zs 32 i).length=32:=by unfold fill; rw [List.length_append,List.length_take,qZ,h]; omega
theorem QiX (xs t:List Int) {i:Nat} (hi:i≤32):(outV xs t i).length=64:=by unfold outV; rw [List.length_append,Qdo (Qbf xs t) hi,Qdo (Qdq xs t) hi]
theorem QkJ (xs t:List Int):List.replicate 64 0=outV xs t 0:=by
  unfold outV
  rw [fill_zero,fill_zero]
  rfl
theorem Qmw (xs t:List Int):outV xs t 32=sigV xs t:=by
  unfold outV
  rw [fill_full (Qbf xs t),fill_full (Qdq xs t)]
  exact Qko xs t
theorem Qmv (xs t:List Int) {i:Nat} (h:i<32):((outV xs t i).set i (nth (sgF xs t) i)).set (32+i) (nth (sgS xs t) i)=outV xs t (i+1):=by
  unfold outV
  rw [List.set_append_left _ _ (by rw [Qdo (Qbf xs t) (by omega)]; exact h),fill_set (Qbf xs t) h]
  rw [List.set_append_right _ _ (by rw [Qdo (Qbf xs t) (by omega)]; omega),Qdo (Qbf xs t) (by omega),show 32+i-32=i by omega,fill_set (Qdq xs t) h]
theorem QpU (xs : List Int) (hx:xs.length=32) (hb:Qal xs) (t:List Int) (v:Value) (B:Nat) (w:World) (hlen:t.length≤100000) (htb:Qal t) (hr:RdK .u8 B t v w):Calls Tryd.prog 14 #[.agg (ints .u8 xs),v] w (Ret w (.agg (ints .u8 (sigV xs t)))):=by
 refine enter 63 [(0,.agg (ints .u8 (xs))),(1,v)] Tryd.func14 rfl rfl kj rfl ?_
 refine wp_seq_k fun K1 hK1=>?_
 refine Qac ?_
 refine Qaj (ints .u8 (xs)) 23 2 rfl kj kj fun g2 W1 l2 e1 r2_1=>?_
 have x1:Ext w W1:=Ext.tr (Rely.Ext.refl w) e1
 have b2:w.heap.size≤g2:=qT (Rely.Ext.refl w).size l2
 refine Qaj (ints .u8 (List.replicate 64 0)) 30 4 rfl kj kj fun g3 W2 l3 e2 r3_2=>?_
 have x2:Ext w W2:=Ext.tr x1 e2
 have b3:w.heap.size≤g3:=qT x1.size l3
 refine Qaf ?_
 refine hK1 _ _ ?_
 refine wp_seq_k fun K4 hK4=>?_
 refine Qac ?_
 refine Qab (.slice (some ⟨g2,0,none⟩) 32 32) 16 rfl kj kj ?_
 have r2_2:=(Qaa r2_1 e2)
 refine Qar (.agg (ints .u8 (dig xs))) 24 #[.slice (some ⟨g2,0,none⟩) 32 32] 17 rfl kj kj (Qk2 xs _ _ _ (by (try simp only [List.length_append,Qbn,Qbf,QbT,Qb8,hx]); omega) hb (Qcc (xs:=xs) (n:=32) hx r2_2 (Qa3 r2_2) (show 32≤maxLen from by decide))) fun W3 e3=>?_
 have x3:Ext w W3:=Ext.tr x2 e3
 refine Qar (.tuple #[.agg (ints .u8 ((dig xs).take 32)),.agg (ints .u8 ((dig xs).drop 32))]) 23 #[.agg (ints .u8 (dig xs))] 18 rfl kj kj ((Qli (dig xs) (dig_len xs)) _) fun W4 e4=>?_
 have x4:Ext w W4:=Ext.tr x3 e4
 refine Qab (.tuple #[.agg (ints .u8 ((dig xs).take 32)),.agg (ints .u8 ((dig xs).drop 32))]) 15 rfl kj kj ?_
 refine Qab (.agg (ints .u8 ((dig xs).take 32))) 19 rfl kj kj ?_
 refine Qab (.agg (ints .u8 ((dig xs).drop 32))) 20 rfl kj kj ?_
 refine Qaj (ints .u8 (List.replicate 32 0)) 23 5 rfl kj kj fun g5 W5 l5 e5 r5_5=>?_
 have x5:Ext w W5:=Ext.tr x4 e5
 have b5:w.heap.size≤g5:=qT x4.size l5
 refine Qaj (ints .u8 (List.replicate 32 0)) 23 6 rfl kj kj fun g6 W6 l6 e6 r6_6=>?_
 have x6:Ext w W6:=Ext.tr x5 e6
 have b6:w.heap.size≤g6:=qT x5.size l6
 have r5_6:=(Qaa r5_5 e6)
 refine Qak g5 _ (ints .u8 ((dig xs).take 32)) 23 r5_6 rfl kj (Qah 23 _ _ g5 23 _ _ r5_6 rfl kj kj (isz (n:=32) kj ((Qae _ _).trans (Qbt (dig_len xs)))) (eqsz (n:=32) ((Qae _ _).trans (qZ (n:=32))) ((Qae _ _).trans (Qbt (dig_len xs)))) (ints_one _ _)) fun W7 p7 r5_7=>?_
 have x7:Ext w W7:=Puts.ext p7 x6 b5
 have r6_7:=(Puts.row p7 r6_6 (Qat r5_5 l6))
 refine Qak g6 _ (ints .u8 ((dig xs).drop 32)) 23 r6_7 rfl kj (Qah 23 _ _ g6 23 _ _ r6_7 rfl kj kj (isz (n:=32) kj ((Qae _ _).trans (Qby (dig_len xs)))) (eqsz (n:=32) ((Qae _ _).trans (qZ (n:=32))) ((Qae _ _).trans (Qby (dig_len xs)))) (ints_one _ _)) fun W8 p8 r6_8=>?_
 have x8:Ext w W8:=Puts.ext p8 x7 b6
 refine Qaf ?_
 refine hK4 _ _ ?_
 refine wp_seq_k fun K7 hK7=>?_
 refine Qac ?_
 have r5_8:=(Puts.row p8 r5_7 (Qad r5_5 l6))
 refine Qab (.agg (ints .u8 ((dig xs).take 32))) 21 rfl kj (Qag 23 _ g5 23 _ _ r5_8 rfl kj kj (isz (n:=32) kj ((Qae _ _).trans (Qbt (dig_len xs))))) ?_
 refine Qar (.agg (ints .u8 (secV xs))) 28 #[.agg (ints .u8 ((dig xs).take 32))] 22 rfl kj kj (QnN xs _) fun W9 e9=>?_
 have x9:Ext w W9:=Ext.tr x8 e9
 refine Qaj (ints .u8 (List.replicate 32 0)) 23 7 rfl kj kj fun g8 W10 l8 e10 r8_10=>?_
 have x10:Ext w W10:=Ext.tr x9 e10
 have b8:w.heap.size≤g8:=qT x9.size l8
 refine Qak g8 _ (ints .u8 (secV xs)) 23 r8_10 rfl kj (Qah 23 _ _ g8 23 _ _ r8_10 rfl kj kj (isz (n:=32) kj ((Qae _ _).trans (QbC xs))) (eqsz (n:=32) ((Qae _ _).trans (qZ (n:=32))) ((Qae _ _).trans (QbC xs))) (ints_one _ _)) fun W11 p11 r8_11=>?_
 have x11:Ext w W11:=Puts.ext p11 x10 b8
 refine Qaf ?_
 refine hK7 _ _ ?_
 refine wp_seq_k fun K9 hK9=>?_
 refine Qac ?_
 have r2_3:=(Qaa r2_2 e3)
 have r2_4:=(Qaa r2_3 e4)
 have r2_5:=(Qaa r2_4 e5)
 have r2_6:=(Qaa r2_5 e6)
 have r2_7:=(Puts.row p7 r2_6 (Qad r2_4 l5))
 have r2_8:=(Puts.row p8 r2_7 (Qad r2_5 l6))
 have r2_9:=(Qaa r2_8 e9)
 have r2_10:=(Qaa r2_9 e10)
 have r2_11:=(Puts.row p11 r2_10 (Qad r2_9 l8))
 refine Qab (.agg (ints .u8 (xs))) 23 rfl kj (Qag 23 _ g2 23 _ _ r2_11 rfl kj kj (isz (n:=32) kj ((Qae _ _).trans hx))) ?_
 refine Qar (.agg (ints .u8 (pubV xs))) 11 #[.agg (ints .u8 (xs))] 24 rfl kj kj (QiK xs hx hb _) fun W12 e12=>?_
 have x12:Ext w W12:=Ext.tr x11 e12
 refine Qaj (ints .u8 (List.replicate 32 0)) 23 8 rfl kj kj fun g10 W13 l10 e13 r10_13=>?_
 have x13:Ext w W13:=Ext.tr x12 e13
 have b10:w.heap.size≤g10:=qT x12.size l10
 refine Qak g10 _ (ints .u8 (pubV xs)) 23 r10_13 rfl kj (Qah 23 _ _ g10 23 _ _ r10_13 rfl kj kj (isz (n:=32) kj ((Qae _ _).trans (Qbn xs))) (eqsz (n:=32) ((Qae _ _).trans (qZ (n:=32))) ((Qae _ _).trans (Qbn xs))) (ints_one _ _)) fun W14 p14 r10_14=>?_
 have x14:Ext w W14:=Puts.ext p14 x13 b10
 refine Qaf ?_
 refine hK9 _ _ ?_
 refine wp_seq_k fun K11 hK11=>?_
 have r6_9:=(Qaa r6_8 e9)
 have r6_10:=(Qaa r6_9 e10)
 have r6_11:=(Puts.row p11 r6_10 (Qad r6_9 l8))
 have r6_12:=(Qaa r6_11 e12)
 have r6_13:=(Qaa r6_12 e13)
 have r6_14:=(Puts.row p14 r6_13 (Qad r6_12 l10))
 have r6_14_12:W14.heap[g6]? = some (.cells (ints .u8 (preV xs)) 23):=QaB r6_14 (Qot xs)
 refine Qac ?_
 refine QaR (ints .u8 ([])) 5 0 25 rfl kj kj fun g13 W15 l13 e15 r13_15=>?_
 have x15:Ext w W15:=Ext.tr x14 e15
 have b13:w.heap.size≤g13:=qT x14.size l13
 refine Qab (.slice (some ⟨g6,0,none⟩) 32 32) 26 rfl kj kj ?_
 have r6_15:=(Qaa r6_14_12 e15)
 have y14_15:Ext W14 W15:=(Rely.Ext.trans (Rely.Ext.refl W14) e15)
 refine QbZ (k:=.u8) (T:=5) (xs:=[]) (ys:=preV xs) (V:=W14) 1 (.tmp 25) (.tmp 26) 27 rfl kj kj (by decide) 27 rfl kj kj kj (Qe4 (xs:=[]) rfl l13 r13_15 (by decide)) (Qcc (xs:=preV xs) (n:=32) (Qb8 xs) r6_15 (Qa3 r6_15) (show 32≤maxLen from by decide)) (by (try simp only [List.length_append,List.length_nil,Qbn,Qbf,QbT,Qb8,hx]); omega) y14_15 fun ap14 W16 f15 y16 l16=>?_
 have x16:Ext w W16:=Ext.low x15 l16 x14.size
 have hu14:OwnN .u8 5 W14.heap.size (preV xs) ap14 W16:=by have h:=f15; rwa [List.nil_append] at h
 refine Qab (v) 28 rfl kj kj ?_
 refine QbZ (k:=.u8) (T:=5) (xs:=preV xs) (ys:=t) (V:=W14) 1 (.tmp 27) (.tmp 28) 27 rfl kj kj (by decide) 29 rfl kj kj kj hu14 (RdK.ext hr x16) (by (try simp only [List.length_append,List.length_nil,Qbn,Qbf,QbT,Qb8,hx]); omega) y16 fun ap16 W17 f17 y17 l17=>?_
 have x17:Ext w W17:=Ext.low x16 l17 x14.size
 refine Qar (.agg (ints .u8 (resV (preV xs++t)))) 31 #[ap16] 30 rfl kj kj (QiP (preV xs++t) _ _ _ (by (try simp only [List.length_append,Qbn,Qbf,QbT,Qb8,hx]); omega) (QeG (Qgf xs) htb) (OwnN.rd f17)) fun W18 e18=>?_
 have x18:Ext w W18:=Ext.tr x17 e18
 refine Qaj (ints .u8 (List.replicate 32 0)) 23 9 rfl kj kj fun g18 W19 l18 e19 r18_19=>?_
 have x19:Ext w W19:=Ext.tr x18 e19
 have b18:w.heap.size≤g18:=qT x18.size l18
 refine Qak g18 _ (ints .u8 (resV (preV xs++t))) 23 r18_19 rfl kj (Qah 23 _ _ g18 23 _ _ r18_19 rfl kj kj (isz (n:=32) kj ((Qae _ _).trans (QbV (preV xs++t)))) (eqsz (n:=32) ((Qae _ _).trans (qZ (n:=32))) ((Qae _ _).trans (QbV (preV xs++t)))) (ints_one _ _)) fun W20 p20 r18_20=>?_
 have x20:Ext w W20:=Puts.ext p20 x19 b18
 refine Qaf ?_
 refine hK11 _ _ ?_
 refine wp_seq_k fun K19 hK19=>?_
 have r18_20_20:W20.heap[g18]? = some (.cells (ints .u8 (sgR xs t)) 23):=QaB r18_20 (Qn4 xs t)
 refine Qbd 5 [⟨none,[]⟩,⟨none,[(9,none)]⟩,⟨none,[(31,some 0),(32,some 1)]⟩,⟨none,[(33,some 2)]⟩,⟨none,[]⟩] [4] kj kj kj fun F hF=>?_
 refine Qau (.agg (w3A (bA))) 27 #[] kj kj (fun W=>kj) (fun W hR=>Qn9 W) ?_
 refine Qaq (.agg (ints .u8 (sgR xs t))) kj kj (fun W hR=>(Qag 23 _ g18 23 _ _ (Qaa (Qaa r18_20_20 (Qai _)) hR) rfl kj kj (isz (n:=32) kj ((Qae _ _).trans (QbT xs t))))) ?_
 refine Qau (.agg (w3A (rT bA (sgR xs t)))) 26 #[.agg (w3A (bA)),.agg (ints .u8 (sgR xs t))] kj kj (fun W=>kj) (fun W hR=>Qk7 Qg9 (sgR xs t) (QbT xs t) (Qdi xs t) W) ?_
 refine Qau (.agg (ints .u8 (encP (pa (sgR xs t))))) 25 #[.agg (w3A (rT bA (sgR xs t)))] kj kj (fun W=>kj) (fun W hR=>Qk8 (R3.times Qg9 (sgR xs t)) W) ?_
 refine QbN (ints .u8 (List.replicate 32 0)) 23 kj (qR _) kj (fun W=>kj) ?_
 refine Qa9 (hF _ kj fun W21 e21=>?_)
 simp only [fins,up,List.take_succ_cons,List.take_zero,List.drop_succ_cons,List.drop_zero,List.nil_append,List.cons_append]
 intro g21 l21 r21_21 n21
 have b21:w.heap.size≤g21:=qT x20.size l21
 clear hF
 have x21:Ext w W21:=Ext.tr x20 e21
 refine Qak g21 _ (ints .u8 (encP (pa (sgR xs t)))) 23 r21_21 rfl kj (Qah 23 _ _ g21 23 _ _ r21_21 rfl kj kj (isz (n:=32) kj ((Qae _ _).trans (Qbe _))) (eqsz (n:=32) ((Qae _ _).trans (qZ (n:=32))) ((Qae _ _).trans (Qbe _))) (ints_one _ _)) fun W22 p22 r21_22=>?_
 have x22:Ext w W22:=Puts.ext p22 x21 b21
 refine Qaf ?_
 refine hK19 _ _ ?_
 refine wp_seq_k fun K22 hK22=>?_
 have r21_22_23:W22.heap[g21]? = some (.cells (ints .u8 (sgF xs t)) 23):=QaB r21_22 (Qn6 xs t)
 have r10_15:=(Qaa r10_14 e15)
 have r10_16:=(Qc0 l16 r10_15 (Qa3 r10_14))
 have r10_17:=(Qc0 l17 r10_16 (Qa3 r10_14))
 have r10_18:=(Qaa r10_17 e18)
 have r10_19:=(Qaa r10_18 e19)
 have r10_20:=(Puts.row p20 r10_19 (Qad r10_18 l18))
 have r10_21:=(Qaa r10_20 e21)
 have r10_22:=(Puts.row p22 r10_21 (Qad r10_20 l21))
 have r2_12:=(Qaa r2_11 e12)
 have r2_13:=(Qaa r2_12 e13)
 have r2_14:=(Puts.row p14 r2_13 (Qad r2_12 l10))
 have r2_15:=(Qaa r2_14 e15)
 have r2_16:=(Qc0 l16 r2_15 (Qa3 r2_14))
 have r2_17:=(Qc0 l17 r2_16 (Qa3 r2_14))
 have r2_18:=(Qaa r2_17 e18)
 have r2_19:=(Qaa r2_18 e19)
 have r2_20:=(Puts.row p20 r2_19 (Qad r2_18 l18))
 have r2_21:=(Qaa r2_20 e21)
 have r2_22:=(Puts.row p22 r2_21 (Qad r2_20 l21))
 have r3_3:=(Qaa r3_2 e3)
 have r3_4:=(Qaa r3_3 e4)
 have r3_5:=(Qaa r3_4 e5)
 have r3_6:=(Qaa r3_5 e6)
 have r3_7:=(Puts.row p7 r3_6 (Qad r3_4 l5))
 have r3_8:=(Puts.row p8 r3_7 (Qad r3_5 l6))
 have r3_9:=(Qaa r3_8 e9)
 have r3_10:=(Qaa r3_9 e10)
 have r3_11:=(Puts.row p11 r3_10 (Qad r3_9 l8))
 have r3_12:=(Qaa r3_11 e12)
 have r3_13:=(Qaa r3_12 e13)
 have r3_14:=(Puts.row p14 r3_13 (Qad r3_12 l10))
 have r3_15:=(Qaa r3_14 e15)
 have r3_16:=(Qc0 l16 r3_15 (Qa3 r3_14))
 have r3_17:=(Qc0 l17 r3_16 (Qa3 r3_14))
 have r3_18:=(Qaa r3_17 e18)
 have r3_19:=(Qaa r3_18 e19)
 have r3_20:=(Puts.row p20 r3_19 (Qad r3_18 l18))
 have r3_21:=(Qaa r3_20 e21)
 have r3_22:=(Puts.row p22 r3_21 (Qad r3_20 l21))
 have r5_9:=(Qaa r5_8 e9)
 have r5_10:=(Qaa r5_9 e10)
 have r5_11:=(Puts.row p11 r5_10 (Qad r5_9 l8))
 have r5_12:=(Qaa r5_11 e12)
 have r5_13:=(Qaa r5_12 e13)
 have r5_14:=(Puts.row p14 r5_13 (Qad r5_12 l10))
 have r5_15:=(Qaa r5_14 e15)
 have r5_16:=(Qc0 l16 r5_15 (Qa3 r5_14))
 have r5_17:=(Qc0 l17 r5_16 (Qa3 r5_14))
 have r5_18:=(Qaa r5_17 e18)
 have r5_19:=(Qaa r5_18 e19)
 have r5_20:=(Puts.row p20 r5_19 (Qad r5_18 l18))
 have r5_21:=(Qaa r5_20 e21)
 have r5_22:=(Puts.row p22 r5_21 (Qad r5_20 l21))
 have r6_16:=(Qc0 l16 r6_15 (Qa3 r6_14_12))
 have r6_17:=(Qc0 l17 r6_16 (Qa3 r6_14_12))
 have r6_18:=(Qaa r6_17 e18)
 have r6_19:=(Qaa r6_18 e19)
 have r6_20:=(Puts.row p20 r6_19 (Qad r6_18 l18))
 have r6_21:=(Qaa r6_20 e21)
 have r6_22:=(Puts.row p22 r6_21 (Qad r6_20 l21))
 have r8_12:=(Qaa r8_11 e12)
 have r8_13:=(Qaa r8_12 e13)
 have r8_14:=(Puts.row p14 r8_13 (Qad r8_12 l10))
 have r8_15:=(Qaa r8_14 e15)
 have r8_16:=(Qc0 l16 r8_15 (Qa3 r8_14))
 have r8_17:=(Qc0 l17 r8_16 (Qa3 r8_14))
 have r8_18:=(Qaa r8_17 e18)
 have r8_19:=(Qaa r8_18 e19)
 have r8_20:=(Puts.row p20 r8_19 (Qad r8_18 l18))
 have r8_21:=(Qaa r8_20 e21)
 have r8_22:=(Puts.row p22 r8_21 (Qad r8_20 l21))
 have r18_21:=(Qaa r18_20_20 e21)
 have r18_22:=(Puts.row p22 r18_21 (Qad r18_20_20 l21))
 have hRl:=Qok W22.drew (sgF xs t).length ((pubV xs)++t)
 refine QfR (OncU W22.drew.heap.size (sgF xs t).length ((pubV xs)++t)) hRl 9 [⟨none,[]⟩,⟨none,[(10,none)]⟩,⟨none,[(35,some 0),(36,some 1)]⟩,⟨none,[(8,none)]⟩,⟨none,[(37,some 2),(38,some 3)]⟩,⟨none,[(1,none)]⟩,⟨none,[(39,some 4),(40,some 5)]⟩,⟨none,[(41,some 6)]⟩,⟨none,[]⟩] kj kj fun F hF=>?_
 refine Qlv hRl #[] 5 0 Qm4 kj kj (fun W=>kj) ?_
 refine QaL hRl (.slice (some ⟨g21,0,none⟩) 32 32) kj kj (fun W=>kj) ?_
 refine Qlu hRl (OwnN .u8 5 W22.drew.heap.size (sgF xs t)) (QgL (Qqr (sgF xs t) _)) (fun ρ W hR hh=>?_) ?_
 ·skip
  have e36:ρ 36=.slice (some ⟨g21,0,none⟩) 32 32:=(QgS hh 1 36 1 rfl kj)
  obtain ⟨gz,ez,lz,rz⟩:NewS W22.drew.heap.size #[] 5 0 (ρ 35) W:=(Qfp hh 0 35 0 rfl kj)
  exact QgY (base:=W22.drew.heap.size) (n:=(sgF xs t).length) (Y:=(pubV xs)++t) (b:=1) (xs:=[]) (ys:=sgF xs t) (ρ:=Rely.look ρ) (.tmp 35) (.tmp 36) 27 rfl kj kj (by decide) ez e36 (Qe4 (xs:=[]) rfl lz rz (by decide)) (RdK.ext (Qcc (xs:=sgF xs t) (n:=32) (Qbf xs t) r21_22_23 (Qa3 r21_22_23) (show 32≤maxLen from by decide)) (Rely.Ext.trans (Qai _) hR)) (by (try simp only [List.length_append,List.length_nil,Qbn,Qbf,QbT,Qb8,hx]); omega) hR.size (.inl ⟨gz,rfl⟩)
 refine QaL hRl (.slice (some ⟨g10,0,none⟩) 32 32) kj kj (fun W=>kj) ?_
 refine Qlu hRl (OwnN .u8 5 W22.drew.heap.size (sgF xs t++(pubV xs))) (QgL (Qqq (sgF xs t) (pubV xs) t)) (fun ρ W hR hh=>?_) ?_
 ·skip
  have e38:ρ 38=.slice (some ⟨g10,0,none⟩) 32 32:=(QgS hh 1 38 3 rfl kj)
  have h37:OwnN .u8 5 W22.drew.heap.size (sgF xs t) (ρ 37) W:=(Qfp hh 0 37 2 rfl kj)
  exact QgY (base:=W22.drew.heap.size) (n:=(sgF xs t).length) (Y:=(pubV xs)++t) (b:=1) (xs:=sgF xs t) (ys:=pubV xs) (ρ:=Rely.look ρ) (.tmp 37) (.tmp 38) 27 rfl kj kj (by decide) rfl e38 h37 (RdK.ext (Qcc (xs:=pubV xs) (n:=32) (Qbn xs) r10_22 (Qa3 r10_22) (show 32≤maxLen from by decide)) (Rely.Ext.trans (Qai _) hR)) (by (try simp only [List.length_append,List.length_nil,Qbn,Qbf,QbT,Qb8,hx]); omega) hR.size (.inr ⟨0,rfl,fun i hi=>by rw [Nat.zero_add]; exact Qh5 (pubV xs) t hi⟩)
 refine QaL hRl (v) kj kj (fun W=>kj) ?_
 refine Qlu hRl (OwnN .u8 5 W22.drew.heap.size (sgF xs t++(pubV xs)++t)) (QgL (Qqp (sgF xs t) (pubV xs) t)) (fun ρ W hR hh=>?_) ?_
 ·skip
  have e40:ρ 40=v:=(QgS hh 1 40 5 rfl kj)
  have h39:OwnN .u8 5 W22.drew.heap.size (sgF xs t++(pubV xs)) (ρ 39) W:=(Qfp hh 0 39 4 rfl kj)
  exact QgY (base:=W22.drew.heap.size) (n:=(sgF xs t).length) (Y:=(pubV xs)++t) (b:=1) (xs:=sgF xs t++(pubV xs)) (ys:=t) (ρ:=Rely.look ρ) (.tmp 39) (.tmp 40) 27 rfl kj kj (by decide) rfl e40 h39 (RdK.ext (RdK.ext hr x22) (Rely.Ext.trans (Qai _) hR)) (by (try simp only [List.length_append,List.length_nil,Qbn,Qbf,QbT,Qb8,hx]); omega) hR.size (.inr ⟨(pubV xs).length,List.length_append,fun i hi=>Qe5 _ _ i⟩)
 refine Qpn hRl (.agg (ints .u8 (resV (sgF xs t++pubV xs++t)))) 31 (fun ρ W hR hh=>?_) ?_
 ·skip
  have h41:OwnN .u8 5 W22.drew.heap.size (sgF xs t++(pubV xs)++t) (ρ 41) W:=(Qfp hh 0 41 6 rfl kj)
  refine ⟨#[ρ 41],Eq.trans (b:=Result.ok (Next.enter 31 #[ρ 41]) W) kj (rfl),?_⟩
  exact QiP (sgF xs t++pubV xs++t) _ _ W (by (try simp only [List.length_append,Qbn,Qbf,QbT,Qb8,hx]); omega) (QeG (QeG (Qev xs t) (Qdn xs)) htb) (OwnN.rd h41)
 refine QqC hRl (ints .u8 (List.replicate 32 0)) 23 (QkQ (by decide)) kj kj (fun W=>kj) ?_
 refine QdE (hF _ fun W23 oo23=>?_)
 have e23:Ext W22 W23:=Rely.Ext.trans (Qai _) (OncU.low oo23)
 simp only [List.nil_append,List.cons_append,List.take_succ_cons,List.take_zero,List.drop_succ_cons,List.drop_zero,finE,up]
 intro vv35 hv35 vv37 hv37 vv39 hv39 vv41 hv41 vv24_ hv24_
 clear hF
 have x23:Ext w W23:=Ext.tr x22 e23
 obtain ⟨g24,rfl,l24,r24_23⟩:=hv24_
 have b24:w.heap.size≤g24:=qT x22.size l24
 refine Qak g24 _ (ints .u8 (resV (sgF xs t++pubV xs++t))) 23 r24_23 rfl kj (Qah 23 _ _ g24 23 _ _ r24_23 rfl kj kj (isz (n:=32) kj ((Qae _ _).trans (QbV (sgF xs t++pubV xs++t)))) (eqsz (n:=32) ((Qae _ _).trans (qZ (n:=32))) ((Qae _ _).trans (QbV (sgF xs t++pubV xs++t)))) (ints_one _ _)) fun W24 p24 r24_24=>?_
 have x24:Ext w W24:=Puts.ext p24 x23 b24
 refine Qaf ?_
 refine hK22 _ _ ?_
 refine wp_seq_k fun K25 hK25=>?_
 have r24_24_26:W24.heap[g24]? = some (.cells (ints .u8 (sgK xs t)) 23):=QaB r24_24 (Qn5 xs t)
 refine Qac ?_
 refine Qab (.agg (ints .u8 (sgK xs t))) 43 rfl kj (Qag 23 _ g24 23 _ _ r24_24_26 rfl kj kj (isz (n:=32) kj ((Qae _ _).trans (Qg3 xs t)))) ?_
 have r8_23:=(Qaa r8_22 e23)
 have r8_24:=(Puts.row p24 r8_23 (Qad r8_22 l24))
 refine Qab (.agg (ints .u8 (secV xs))) 44 rfl kj (Qag 23 _ g8 23 _ _ r8_24 rfl kj kj (isz (n:=32) kj ((Qae _ _).trans (QbC xs)))) ?_
 have r18_23:=(Qaa r18_22 e23)
 have r18_24:=(Puts.row p24 r18_23 (Qad r18_22 l24))
 refine Qab (.agg (ints .u8 (sgR xs t))) 45 rfl kj (Qag 23 _ g18 23 _ _ r18_24 rfl kj kj (isz (n:=32) kj ((Qae _ _).trans (QbT xs t)))) ?_
 refine Qar (.agg (ints .u8 (Qao (mulR (sgK xs t) (secV xs) (sgR xs t))))) 32 #[.agg (ints .u8 (sgK xs t)),.agg (ints .u8 (secV xs)),.agg (ints .u8 (sgR xs t))] 46 rfl kj kj (Field.rMulAddC (sgK xs t) (secV xs) (sgR xs t) (Qg3 xs t) (Qeu xs t) (QbC xs) (Qc8 xs) (QbT xs t) (Qdi xs t) _) fun W25 e25=>?_
 have x25:Ext w W25:=Ext.tr x24 e25
 refine Qaj (ints .u8 (List.replicate 32 0)) 23 12 rfl kj kj fun g27 W26 l27 e26 r27_26=>?_
 have x26:Ext w W26:=Ext.tr x25 e26
 have b27:w.heap.size≤g27:=qT x25.size l27
 refine Qak g27 _ (ints .u8 (Qao (mulR (sgK xs t) (secV xs) (sgR xs t)))) 23 r27_26 rfl kj (Qah 23 _ _ g27 23 _ _ r27_26 rfl kj kj (isz (n:=32) kj ((Qae _ _).trans (bytesOf_len _))) (eqsz (n:=32) ((Qae _ _).trans (qZ (n:=32))) ((Qae _ _).trans (bytesOf_len _))) (ints_one _ _)) fun W27 p27 r27_27=>?_
 have x27:Ext w W27:=Puts.ext p27 x26 b27
 refine Qaf ?_
 refine hK25 _ _ ?_
 refine wp_seq_k fun K28 hK28=>?_
 have r27_27_29:W27.heap[g27]? = some (.cells (ints .u8 (sgS xs t)) 23):=QaB r27_27 (Qn3 xs t)
 refine Qac ?_
 refine Qaj (ints .u8 (List.replicate 64 0)) 30 13 rfl kj kj fun g30 W28 l30 e28 r30_28=>?_
 have x28:Ext w W28:=Ext.tr x27 e28
 have b30:w.heap.size≤g30:=qT x27.size l30
 refine Qaf ?_
 refine hK28 _ _ ?_
 refine wp_seq_k fun K31 hK31=>?_
 refine wp_seq_k fun K32 hK32=>?_
 refine Qac ?_
 refine Qab (.int .i64 0) 14 rfl kj kj ?_
 refine Qaf ?_
 refine hK32 _ _ ?_
 refine wp_block ?_
 refine QaI (fun (s1:Nat)=>[(4,.pointer (some ⟨g3,0,none⟩)),(10,.pointer (some ⟨g21,0,none⟩)),(12,.pointer (some ⟨g27,0,none⟩)),(13,.pointer (some ⟨g30,0,none⟩)),(14,.int .i64 ((s1:Nat):Int))]) (fun (s1:Nat) W=>(s1≤32)∧(W.heap[g30]? = some (.cells (ints .u8 (outV xs t s1)) 30))∧(Qa7 [g30] W28 W)∧(Ext w W)) (fun (s1:Nat)=>32-s1) 0 ⟨rfl,rfl,rfl,rfl,rfl,trivial⟩ ⟨(Nat.zero_le _),(QaB r30_28 (QkJ xs t)),(Qa7.refl [g30] W28),x28⟩ fun s1 X1 V1 hI1=>?_
 obtain ⟨i,hs1⟩:∃ z,z=s1:=⟨_,rfl⟩
 subst hs1
 obtain ⟨hi,q30_1,kk1,xx1⟩:=hI1
 replace hi:i≤32:=hi
 replace q30_1:V1.heap[g30]? = some (.cells (ints .u8 (outV xs t i)) 30):=q30_1
 replace kk1:Qa7 [g30] W28 V1:=kk1
 replace xx1:Ext w V1:=xx1
 have q29:=kk1
 refine wp_seq_k fun K33 hK33=>?_
 refine wp_seq_k fun K34 hK34=>?_
 refine Qac ?_
 refine Qab (.int .i64 ((i:Nat):Int)) 47 rfl kj kj ?_
 refine Qab (.bool (decide (((i:Nat):Int)<32))) 48 rfl kj kj ?_
 refine Qaf ?_
 refine hK34 _ _ ?_
 refine Qa5 (t:=decide (((i:Nat):Int)<32)) kj (fun c35=>?_) (fun c35=>?_)
 ·skip
  have hlt48:i<32:=by have:=of_decide_eq_true c35; omega
  refine wp_skip ?_
  refine hK33 _ _ ?_
  refine wp_seq_k fun K36 hK36=>?_
  refine wp_block ?_
  refine wp_seq_k fun K37 hK37=>?_
  refine Qac ?_
  refine Qab (.int .i64 ((i:Nat):Int)) 51 rfl kj kj ?_
  refine Qab (.int .i64 ((i:Nat):Int)) 52 rfl kj kj ?_
  refine Qab (.pointer (some ⟨g21,i,none⟩)) 53 rfl kj (QaD _ _ _ .i64 (i) _ 32 5 rfl kj kj kj kj (by omega)) ?_
  have r21_23:=(Qaa r21_22_23 e23)
  have r21_24:=(Puts.row p24 r21_23 (Qad r21_22_23 l24))
  have r21_25:=(Qaa r21_24 e25)
  have r21_26:=(Qaa r21_25 e26)
  have r21_27:=(Puts.row p27 r21_26 (Qad r21_25 l27))
  have r21_28:=(Qaa r21_27 e28)
  have r21_29:=(Qa7.row q29 r21_28 (Qbj (Qad r21_27 l30) QbI))
  refine Qab (.int .u8 (nth (sgF xs t) i)) 54 rfl kj (Qam 5 _ g21 i 23 _ (.int .u8 (nth (sgF xs t) i)) _ r21_29 rfl kj (Qas _ _ _ (Nat.lt_of_lt_of_eq (by omega) (Qbf xs t).symm)) kj) ?_
  refine Qab (.pointer (some ⟨g30,i,none⟩)) 55 rfl kj (QaD _ _ _ .i64 (i) _ 64 5 rfl kj kj kj kj (by omega)) ?_
  refine Qak g30 _ (ints .u8 ((outV xs t i).set i (nth (sgF xs t) i))) 30 q30_1 rfl kj (Qa1 5 _ _ g30 i 30 _ _ q30_1 rfl kj kj kj (Nat.lt_of_lt_of_eq (by omega) (QiX xs t hi).symm)) fun W30 p30 r30_30=>?_
  have x30:Ext w W30:=Puts.ext p30 xx1 b30
  refine Qaf ?_
  refine hK37 _ _ ?_
  refine Qac ?_
  refine Qab (.int .i64 ((i:Nat):Int)) 56 rfl kj kj ?_
  refine Qab (.int .i64 ((32+i:Nat):Int)) 57 rfl kj (Qan (u:=.int .i64 (IntKind.i64.wrap (32+((i:Nat):Int)))) kj (congrArg (Value.int .i64) (i64n _ _ (by omega) (by omega)))) ?_
  refine Qab (.int .i64 ((i:Nat):Int)) 58 rfl kj kj ?_
  refine Qab (.pointer (some ⟨g27,i,none⟩)) 59 rfl kj (QaD _ _ _ .i64 (i) _ 32 5 rfl kj kj kj kj (by omega)) ?_
  have r27_28:=(Qaa r27_27_29 e28)
  have r27_29:=(Qa7.row q29 r27_28 (Qbj (Qad r27_27_29 l30) QbI))
  have r27_30:=(Puts.row p30 r27_29 (Qad r27_27_29 l30))
  refine Qab (.int .u8 (nth (sgS xs t) i)) 60 rfl kj (Qam 5 _ g27 i 23 _ (.int .u8 (nth (sgS xs t) i)) _ r27_30 rfl kj (Qas _ _ _ (Nat.lt_of_lt_of_eq (by omega) (Qdq xs t).symm)) kj) ?_
  refine Qab (.pointer (some ⟨g30,32+i,none⟩)) 61 rfl kj (QaD _ _ _ .i64 (32+i) _ 64 5 rfl kj kj kj kj (by omega)) ?_
  refine Qak g30 _ (ints .u8 (((outV xs t i).set i (nth (sgF xs t) i)).set (32+i) (nth (sgS xs t) i))) 30 r30_30 rfl kj (Qa1 5 _ _ g30 (32+i) 30 _ _ r30_30 rfl kj kj kj (Nat.lt_of_lt_of_eq (by omega) ((List.length_set ..).trans (QiX xs t hi)).symm)) fun W31 p31 r30_31=>?_
  have x31:Ext w W31:=Puts.ext p31 x30 b30
  refine Qaf ?_
  refine hK36 _ _ ?_
  refine Qac ?_
  refine Qab (.int .i64 ((i:Nat):Int)) 49 rfl kj kj ?_
  refine Qab (.int .i64 ((i+1:Nat):Int)) 50 rfl kj (Qan (u:=.int .i64 (IntKind.i64.wrap (((i:Nat):Int)+1))) kj (congrArg (Value.int .i64) (i64n _ _ (by omega) (by omega)))) ?_
  refine Qab (.int .i64 ((i+1:Nat):Int)) 14 rfl kj kj ?_
  refine Qaf ?_
  repeat (first | with_reducible refine goX1 ?_ | with_reducible refine goX2 ?_ | with_reducible refine goX3 ?_)
  exact QaA (i+1) ⟨rfl,rfl,rfl,rfl,rfl,trivial⟩ ⟨(by omega),(QaB r30_31 (Qmv xs t hlt48)),(Qa7.puts (Qa7.puts q29 p30 (.inl (by simp))) p31 (.inl (by simp))),x31⟩ (by show 32-(i+1)<32-i; omega)
 ·skip
  have heq48:i=32:=by have:=of_decide_eq_false c35; omega
  have r30_29_38:V1.heap[g30]? = some (.cells (ints .u8 (sigV xs t)) 30):=QaB q30_1 (by rw [heq48]; exact Qmw xs t)
  refine wp_exit ?_
  refine hK31 _ _ ?_
  refine wp_seq_k fun K39 hK39=>?_
  refine Qac ?_
  refine Qab (.agg (ints .u8 (sigV xs t))) 62 rfl kj (Qag 30 _ g30 30 _ _ r30_29_38 rfl kj kj (isz (n:=64) kj ((Qae _ _).trans (QbB xs t)))) ?_
  have r3_23:=(Qaa r3_22 e23)
  have r3_24:=(Puts.row p24 r3_23 (Qad r3_22 l24))
  have r3_25:=(Qaa r3_24 e25)
  have r3_26:=(Qaa r3_25 e26)
  have r3_27:=(Puts.row p27 r3_26 (Qad r3_25 l27))
  have r3_28:=(Qaa r3_27 e28)
  have r3_29:=(Qa7.row q29 r3_28 (Qbj (Qad r3_27 l30) QbI))
  refine Qak g3 _ (ints .u8 (sigV xs t)) 30 r3_29 rfl kj (Qah 30 _ _ g3 30 _ _ r3_29 rfl kj kj (isz (n:=64) kj ((Qae _ _).trans (QbB xs t))) (eqsz (n:=64) ((Qae _ _).trans (qZ (n:=64))) ((Qae _ _).trans (QbB xs t))) (ints_one _ _)) fun W30 p30 r3_30=>?_
  have x30:Ext w W30:=Puts.ext p30 xx1 b3
  refine Qaf ?_
  refine hK39 _ _ ?_
  refine wp_ret ?_
  repeat (first | with_reducible refine goR1 ?_ | with_reducible refine goR2 ?_)
  exact (show bodyPost _ _ _ .ret _ _ from ret1 (.agg (ints .u8 (sigV xs t))) rfl (QaC g3 30 _ r3_30 kj kj (isz (n:=64) kj ((Qae _ _).trans (QbB xs t)))) ⟨rfl,x30⟩)
end Go.Proofs.YtdoadngmgmdlbaaDoor.Sgn
end
section
namespace Go.Proofs.YtdoadngmgmdlbaaDoor.Sgn
open Go Go.RowKit
open Rely Auto Own Sha5
open Field (Qao resN numA num lims QbW ordL QaQ mulR numB Qap mix ordI)
def mx (V : Int) (i:Nat):List Int:=mix 32 (Qap (V+ordL)) (Qap V) i
def cy (V : Int) (i:Nat):Int:=(V%256^i+ordL%256^i)/256^i
theorem QgE (i : Nat):(0:Int)<256^i:=Int.pow_pos (by decide)
theorem Qp7 (B a b:Int) (hB:0<B):(a+b)/B=a/B+b/B+(a%B+b%B)/B:=by
  have h1:=Int.mul_ediv_add_emod a B
  have h2:=Int.mul_ediv_add_emod b B
  have e:a+b=(a%B+b%B)+B*(a/B+b/B):=by rw [Int.mul_add]; omega
  rw [e,Int.add_mul_ediv_left _ _ (by omega)]
  omega
theorem Qnn (V : Int) (i:Nat):Qap (V+ordL) i=(Qap V i+Qap ordL i+cy V i)%256:=by
  unfold Qap cy
  rw [Qp7 _ _ _ (QgE i)]
  omega
theorem Qpo (V : Int):cy V 0=0:=by unfold cy; simp [Int.emod_one]
theorem Qpp (V : Int) (i:Nat):cy V (i+1)=(Qap V i+Qap ordL i+cy V i)/256:=by
  have hp:=QgE i
  unfold cy Qap
  rw [Field.mod_step V i,Field.mod_step ordL i,Int.pow_succ,←Int.ediv_ediv_of_nonneg (by omega)]
  congr 1
  rw [show V%256^i+256^i*(V/256^i%256)+(ordL%256^i+256^i*(ordL/256^i%256))=(V%256^i+ordL%256^i)+256^i*(V/256^i%256+ordL/256^i%256) by rw [Int.mul_add]; omega,Int.add_mul_ediv_left _ _ (by omega)]
  omega
theorem Qfr (V : Int) (i:Nat):0≤cy V i∧cy V i≤1:=by
  have hp:=QgE i
  have h1:=Int.emod_nonneg V (show (256:Int)^i≠0 by omega)
  have h2:=Int.emod_nonneg ordL (show (256:Int)^i≠0 by omega)
  have h3:=Int.emod_lt_of_pos V hp
  have h4:=Int.emod_lt_of_pos ordL hp
  unfold cy
  refine ⟨Int.ediv_nonneg (by omega) (by omega),?_⟩
  have:(V%256^i+ordL%256^i)/256^i<2:=Int.ediv_lt_of_lt_mul hp (by omega)
  omega
theorem QnE (V : Int) (i:Nat):(mx V i).length=32:=Field.mix_len ..
theorem QoN {V : Int}:Qao V=mx V 0:=by
  unfold mx
  rw [Field.mix_none]
  unfold Qao Field.part
  refine List.map_congr_left fun j hj=>?_
  rw [if_pos (List.mem_range.1 hj)]
theorem QoO (V : Int):mx V 32=Qao (V+ordL):=by
  unfold mx
  rw [Field.mix_full _ _ _ _ (qR _)]
  unfold Qao Field.part
  refine List.map_congr_left fun j hj=>?_
  rw [if_pos (List.mem_range.1 hj)]
theorem Qqy (V : Int) {i:Nat} (h:i<32):nth (mx V i) i=Qap V i:=by
  unfold mx
  rw [Field.mix_nth _ _ _ _ _ h,if_neg (by omega)]
theorem Qqx (V : Int) {i:Nat} (h:i<32):(mx V i).set i (Qap (V+ordL) i)=mx V (i+1):=by
  unfold mx
  exact Field.mix_set 32 _ _ i h
theorem Qp5 (F zs:List Int) (hF:F.length=32) (i:Nat):nth (F++zs) (32+i)=nth zs i:=by
  rw [←hF]; exact Qe5 F zs i
theorem Qp4 (F zs:List Int) (hF:F.length=32) (i:Nat) (v:Int):(F++zs).set (32+i) v=F++zs.set i v:=by
  rw [List.set_append_right _ _ (by omega),hF,show 32+i-32=i by omega]
theorem Qf6 {n : Int} (h0:0≤n) (h1:n<256^32):(numB (Qao n):Int)=n:=by
  unfold numB
  rw [Field.leAt_mod n 32 (qR _),Int.emod_eq_of_lt h0 h1,Int.toNat_of_nonneg h0]
theorem Qnl {V : Int} (h:Field.isS V):canV (Qao (V+ordL))=false:=by
  have h0:=h.1
  have h1:=h.2
  have hL:(ordL:Int)=7237005577332262213973186563042994240857116359379907606001950938285454250989:=rfl
  have hp:(256:Int)^32=115792089237316195423570985008687907853269984665640564039457584007913129639936:=by decide
  unfold canV
  refine decide_eq_false fun e=>?_
  rw [Field.resN_32 _ (bytesOf_len _) (QaQ _),Qf6 (by omega) (by omega),Int.add_emod_right,Field.isS_self h] at e
  have:=congrArg (fun z=>(numB z:Int)) e
  try simp only at this
  rw [Qf6 (by omega) (by omega),Qf6 (by omega) (by omega)] at this
  omega
theorem Qoi (xs t:List Int):∃ V,Field.isS V∧sgS xs t=Qao V:=⟨_,QgQ (sgK xs t) (secV xs) (sgR xs t),by unfold sgS; rfl⟩
theorem Qof (xs t:List Int):∃ V F,Field.isS V∧F.length=32∧Qal F∧sigV xs t=F++Qao V:=by
  obtain ⟨V,h,e⟩:=Qoi xs t
  exact ⟨V,sgF xs t,h,Qbf xs t,Qev xs t,by unfold sigV; rw [e]⟩
theorem QlQ (p t F:List Int) {V:Int} (h:Field.isS V) (hF:F.length=32):verV p (F++Qao (V+ordL)) t=false :=
  QnW p _ t (by rw [List.drop_left' hF]; exact Qnl h)
theorem QdJ (n : Int) (i:Nat):0≤Qap n i∧Qap n i≤255:=Field.byteAt_range n i
theorem QqW (v : Int):v.fdiv (2^min (8:Int).toNat IntKind.i64.bits)=v/256:=Field.shr_8 v
end Go.Proofs.YtdoadngmgmdlbaaDoor.Sgn
end
section
namespace Go.Proofs.YtdoadngmgmdlbaaDoor.Sgn
open Go Go.RowKit
open Rely Auto Own Sha5
open Ladder (clamp)
open Field (Qao resN numA num lims QbW ordL Qb0 QbH QbG QaQ encP Qbe pa Qdh pAdd pNeg mulP QcK okK xK zK lK mulR BP Qcb numB nmul OnP QcH)
open Field (Qap)
theorem QmK (xs : List Int) (hx:xs.length=32) (hb:Qal xs) (t:List Int) (a_t:Option Addr) (c_t B_t:Nat) (hbt:Qal t) (tc tq tO tB tX tY:TypeId) (w:World) (hT:Tabs tc tq tO tB tX tY w) (hr:RdK .u8 B_t t (.slice a_t t.length c_t) w) (hl:1000<t.length):Calls Tryd.prog 7 #[.agg (ints .u8 xs),.slice a_t t.length c_t] w (Ret w (.bool true)):=by
  refine enter 49 [(0,.agg (ints .u8 (xs))),(1,.slice a_t t.length c_t)] Tryd.func7 rfl rfl kj rfl ?_
  refine wp_seq_k fun K1 hK1=>?_
  refine Qac ?_
  refine Qaj (ints .u8 (xs)) 23 2 rfl kj kj fun g2 W1 l2 e1 r2_1=>?_
  have x1:Ext w W1:=Ext.tr (Rely.Ext.refl w) e1
  have b2:w.heap.size≤g2:=qT (Rely.Ext.refl w).size l2
  refine Qab (.bool false) 4 rfl kj kj ?_
  refine Qaf ?_
  refine hK1 _ _ ?_
  refine wp_seq_k fun K3 hK3=>?_
  refine wp_seq_k fun K4 hK4=>?_
  refine Qac ?_
  refine Qar (.bool true) 9 #[] 10 rfl kj kj (QlE tc tq tO tB tX tY _ (hT.ext x1)) fun W2 e2=>?_
  have x2:Ext w W2:=Ext.tr x1 e2
  refine Qab (.bool false) 11 rfl kj kj ?_
  refine Qaf ?_
  refine hK4 _ _ ?_
  refine cond_false kj ?_
  refine wp_skip ?_
  refine hK3 _ _ ?_
  refine wp_seq_k fun K5 hK5=>?_
  refine wp_seq_k fun K6 hK6=>?_
  refine Qac ?_
  refine Qab (.slice a_t t.length c_t) 12 rfl kj kj ?_
  refine Qab (.int .i64 ((t.length:Nat):Int)) 13 rfl kj kj ?_
  refine Qab (.bool true) 14 rfl kj (Qan (u:=.bool (decide (((t.length:Nat):Int)>1000))) kj (congrArg Value.bool (decide_eq_true (by omega)))) ?_
  refine Qaf ?_
  refine hK6 _ _ ?_
  refine cond_true kj ?_
  refine wp_seq_k fun K7 hK7=>?_
  refine Qac ?_
  refine Qab (.bool true) 4 rfl kj kj ?_
  refine Qaf ?_
  refine hK7 _ _ ?_
  refine wp_ret ?_
  repeat (first | with_reducible refine goR1 ?_ | with_reducible refine goR2 ?_)
  exact (show bodyPost _ _ _ .ret _ _ from ret1 (.bool true) rfl (Qbr kj) ⟨rfl,x2⟩)
theorem QmJ (xs : List Int) (hx:xs.length=32) (hb:Qal xs) (t:List Int) (a_t:Option Addr) (c_t B_t:Nat) (hbt:Qal t) (tc tq tO tB tX tY:TypeId) (w:World) (hT:Tabs tc tq tO tB tX tY w) (hr:RdK .u8 B_t t (.slice a_t t.length c_t) w) (hl:t.length≤1000):Calls Tryd.prog 7 #[.agg (ints .u8 xs),.slice a_t t.length c_t] w (Ret w (.bool true)):=by
 obtain ⟨V,Fx,hV,hFx,hFb,eS⟩:=Qof xs t
 refine enter 49 [(0,.agg (ints .u8 (xs))),(1,.slice a_t t.length c_t)] Tryd.func7 rfl rfl kj rfl ?_
 refine wp_seq_k fun K1 hK1=>?_
 refine Qac ?_
 refine Qaj (ints .u8 (xs)) 23 2 rfl kj kj fun g2 W1 l2 e1 r2_1=>?_
 have x1:Ext w W1:=Ext.tr (Rely.Ext.refl w) e1
 have b2:w.heap.size≤g2:=qT (Rely.Ext.refl w).size l2
 refine Qab (.bool false) 4 rfl kj kj ?_
 refine Qaf ?_
 refine hK1 _ _ ?_
 refine wp_seq_k fun K3 hK3=>?_
 refine wp_seq_k fun K4 hK4=>?_
 refine Qac ?_
 refine Qar (.bool true) 9 #[] 10 rfl kj kj (QlE tc tq tO tB tX tY _ (hT.ext x1)) fun W2 e2=>?_
 have x2:Ext w W2:=Ext.tr x1 e2
 refine Qab (.bool false) 11 rfl kj kj ?_
 refine Qaf ?_
 refine hK4 _ _ ?_
 refine cond_false kj ?_
 refine wp_skip ?_
 refine hK3 _ _ ?_
 refine wp_seq_k fun K5 hK5=>?_
 refine wp_seq_k fun K6 hK6=>?_
 refine Qac ?_
 refine Qab (.slice a_t t.length c_t) 12 rfl kj kj ?_
 refine Qab (.int .i64 ((t.length:Nat):Int)) 13 rfl kj kj ?_
 refine Qab (.bool false) 14 rfl kj (Qan (u:=.bool (decide (((t.length:Nat):Int)>1000))) kj (congrArg Value.bool (decide_eq_false (by omega)))) ?_
 refine Qaf ?_
 refine hK6 _ _ ?_
 refine cond_false kj ?_
 refine wp_skip ?_
 refine hK5 _ _ ?_
 refine wp_seq_k fun K7 hK7=>?_
 refine Qac ?_
 have r2_2:=(Qaa r2_1 e2)
 refine Qab (.agg (ints .u8 (xs))) 15 rfl kj (Qag 23 _ g2 23 _ _ r2_2 rfl kj kj (isz (n:=32) kj ((Qae _ _).trans hx))) ?_
 refine Qab (.slice a_t t.length c_t) 16 rfl kj kj ?_
 refine Qar (.agg (ints .u8 (sigV xs t))) 14 #[.agg (ints .u8 (xs)),.slice a_t t.length c_t] 17 rfl kj kj (QpU xs hx hb t _ _ _ (by omega) hbt (RdK.ext (RdK.ext hr x2) (Rely.Ext.refl _))) fun W3 e3=>?_
 have x3:Ext w W3:=Ext.tr x2 e3
 refine Qaj (ints .u8 (List.replicate 64 0)) 30 5 rfl kj kj fun g8 W4 l8 e4 r8_4=>?_
 have x4:Ext w W4:=Ext.tr x3 e4
 have b8:w.heap.size≤g8:=qT x3.size l8
 refine Qak g8 _ (ints .u8 (sigV xs t)) 30 r8_4 rfl kj (Qah 30 _ _ g8 30 _ _ r8_4 rfl kj kj (isz (n:=64) kj ((Qae _ _).trans (QbB xs t))) (eqsz (n:=64) ((Qae _ _).trans (qZ (n:=64))) ((Qae _ _).trans (QbB xs t))) (ints_one _ _)) fun W5 p5 r8_5=>?_
 have x5:Ext w W5:=Puts.ext p5 x4 b8
 refine Qaf ?_
 refine hK7 _ _ ?_
 refine wp_seq_k fun K9 hK9=>?_
 refine Qac ?_
 refine Qar (.agg (ints .u8 (Field.ordI))) 18 #[] 18 rfl kj kj (Field.orderI _) fun W6 e6=>?_
 have x6:Ext w W6:=Ext.tr x5 e6
 refine Qaj (ints .u8 (List.replicate 32 0)) 23 6 rfl kj kj fun g10 W7 l10 e7 r10_7=>?_
 have x7:Ext w W7:=Ext.tr x6 e7
 have b10:w.heap.size≤g10:=qT x6.size l10
 refine Qak g10 _ (ints .u8 (Field.ordI)) 23 r10_7 rfl kj (Qah 23 _ _ g10 23 _ _ r10_7 rfl kj kj (isz (n:=32) kj ((Qae _ _).trans Field.ordI_len)) (eqsz (n:=32) ((Qae _ _).trans (qZ (n:=32))) ((Qae _ _).trans Field.ordI_len)) (ints_one _ _)) fun W8 p8 r10_8=>?_
 have x8:Ext w W8:=Puts.ext p8 x7 b10
 refine Qaf ?_
 refine hK9 _ _ ?_
 refine wp_seq_k fun K11 hK11=>?_
 refine Qac ?_
 refine Qab (.int .i64 0) 7 rfl kj kj ?_
 refine Qaf ?_
 refine hK11 _ _ ?_
 refine wp_seq_k fun K12 hK12=>?_
 refine wp_seq_k fun K13 hK13=>?_
 refine Qac ?_
 refine Qab (.int .i64 0) 19 rfl kj kj ?_
 refine Qaf ?_
 refine hK13 _ _ ?_
 refine wp_block ?_
 have r8_6:=(Qaa r8_5 e6)
 have nx8_10:g8≠g10:=(Qad r8_6 l10)
 have r2_3:=(Qaa r2_2 e3)
 have nx8_2:g8≠g2:=(Qat r2_3 l8)
 have r8_7:=(Qaa r8_6 e7)
 have r8_8:=(Puts.row p8 r8_7 nx8_10)
 refine QaI (fun (s1:Nat)=>[(1,.slice a_t t.length c_t),(2,.pointer (some ⟨g2,0,none⟩)),(4,.bool false),(5,.pointer (some ⟨g8,0,none⟩)),(6,.pointer (some ⟨g10,0,none⟩)),(7,.int .i64 (cy V s1)),(19,.int .i64 ((s1:Nat):Int))]) (fun (s1:Nat) W=>(s1≤32)∧(W.heap[g8]? = some (.cells (ints .u8 (Fx++mx V s1)) 30))∧(Qa7 [g8] W8 W)∧(Ext w W)) (fun (s1:Nat)=>32-s1) 0 ⟨rfl,rfl,rfl,rfl,rfl,(congrArg (Value.int .i64) (Qpo V).symm),rfl,trivial⟩ ⟨(Nat.zero_le _),(QaB r8_8 (eS.trans (congrArg (Fx++·) QoN))),(Qa7.refl [g8] W8),x8⟩ fun s1 X1 V1 hI1=>?_
 obtain ⟨i,hs1⟩:∃ z,z=s1:=⟨_,rfl⟩
 subst hs1
 obtain ⟨hi,q8_1,kk1,xx1⟩:=hI1
 replace hi:i≤32:=hi
 replace q8_1:V1.heap[g8]? = some (.cells (ints .u8 (Fx++mx V i)) 30):=q8_1
 replace kk1:Qa7 [g8] W8 V1:=kk1
 replace xx1:Ext w V1:=xx1
 have q9:=kk1
 refine wp_seq_k fun K14 hK14=>?_
 refine Qac ?_
 refine Qab (.bool (decide (((i:Nat):Int)<32))) 20 rfl kj kj ?_
 refine Qaf ?_
 refine hK14 _ _ ?_
 refine wp_seq_k fun K15 hK15=>?_
 refine Qa5 (t:=decide (((i:Nat):Int)<32)) kj (fun c16=>?_) (fun c16=>?_)
 ·skip
  have hlt20:i<32:=by have:=of_decide_eq_true c16; omega
  refine wp_skip ?_
  refine hK15 _ _ ?_
  refine wp_seq_k fun K17 hK17=>?_
  refine wp_block ?_
  refine wp_seq_k fun K18 hK18=>?_
  refine Qac ?_
  refine Qab (.int .i64 ((i:Nat):Int)) 21 rfl kj kj ?_
  refine Qab (.int .i64 ((i:Nat):Int)) 8 rfl kj kj ?_
  refine Qaf ?_
  refine hK18 _ _ ?_
  refine wp_seq_k fun K19 hK19=>?_
  refine QaK 12 [⟨none,[(8,none)]⟩,⟨none,[(22,some 0)]⟩,⟨none,[(5,none),(23,some 1)]⟩,⟨none,[(24,some 2)]⟩,⟨none,[(25,some 3)]⟩,⟨none,[(8,none)]⟩,⟨none,[(6,none),(27,some 5)]⟩,⟨none,[(28,some 6)]⟩,⟨none,[(29,some 7)]⟩,⟨none,[(26,some 4),(30,some 8)]⟩,⟨none,[(7,none)]⟩,⟨none,[(31,some 9),(32,some 10)]⟩] kj kj fun F hF=>?_
  refine Qav (.int .i64 ((i:Nat):Int)) kj kj (fun W=>kj) ?_
  refine Qav (.int .i64 ((32+i:Nat):Int)) kj kj (fun W=>(Qan (u:=.int .i64 (IntKind.i64.wrap (32+((i:Nat):Int)))) kj (congrArg (Value.int .i64) (i64n _ _ (by omega) (by omega))))) ?_
  refine Qav (.pointer (some ⟨g8,32+i,none⟩)) kj kj (fun W=>(QaD _ _ _ .i64 (32+i) _ 64 5 rfl kj kj kj kj (by omega))) ?_
  refine Qaq (.int .u8 (Qap V i)) kj kj (fun W hR=>(Qam 5 _ g8 (32+i) 30 _ (.int .u8 (Qap V i)) _ (Qaa (Qaa q8_1 (Qai _)) hR) rfl kj ((Qas _ _ _ (Nat.lt_of_lt_of_eq (by omega) (QkZ hFx (QnE V i)).symm)).trans (congrArg (fun z=>some (Value.int .u8 z)) ((Qp5 Fx _ hFx i).trans (Qqy V hlt20)))) kj)) ?_
  refine Qav (.int .i64 (Qap V i)) kj kj (fun W=>(Qan (u:=.int .i64 (IntKind.i64.wrap (Qap V i))) kj (congrArg (Value.int .i64) (Field.i64_mid _ (by have h1:=QdJ V i; have h2:=QdJ ordL i; have h3:=Qfr V i; omega))))) ?_
  refine Qav (.int .i64 ((i:Nat):Int)) kj kj (fun W=>kj) ?_
  refine Qav (.pointer (some ⟨g10,i,none⟩)) kj kj (fun W=>(QaD _ _ _ .i64 (i) _ 32 5 rfl kj kj kj kj (by omega))) ?_
  have r10_9:=(Qa7.row q9 r10_8 (Qbj (Ne.symm nx8_10) QbI))
  refine Qaq (.int .u8 (Qap ordL i)) kj kj (fun W hR=>(Qam 5 _ g10 i 23 _ (.int .u8 (Qap ordL i)) _ (Qaa (Qaa r10_9 (Qai _)) hR) rfl kj ((Qas _ _ _ (Nat.lt_of_lt_of_eq (by omega) Field.ordI_len.symm)).trans (congrArg (fun z=>some (Value.int .u8 z)) (Field.ordI_nth i hlt20))) kj)) ?_
  refine Qav (.int .i64 (Qap ordL i)) kj kj (fun W=>(Qan (u:=.int .i64 (IntKind.i64.wrap (Qap ordL i))) kj (congrArg (Value.int .i64) (Field.i64_mid _ (by have h1:=QdJ V i; have h2:=QdJ ordL i; have h3:=Qfr V i; omega))))) ?_
  refine Qav (.int .i64 (Qap V i+Qap ordL i)) kj kj (fun W=>(Qan (u:=.int .i64 (IntKind.i64.wrap ((Qap V i)+(Qap ordL i)))) kj (congrArg (Value.int .i64) (Field.i64_mid _ (by have h1:=QdJ V i; have h2:=QdJ ordL i; have h3:=Qfr V i; omega))))) ?_
  refine Qav (.int .i64 (cy V i)) kj kj (fun W=>kj) ?_
  refine Qav (.int .i64 (Qap V i+Qap ordL i+cy V i)) kj kj (fun W=>(Qan (u:=.int .i64 (IntKind.i64.wrap ((Qap V i+Qap ordL i)+(cy V i)))) kj (congrArg (Value.int .i64) (Field.i64_mid _ (by have h1:=QdJ V i; have h2:=QdJ ordL i; have h3:=Qfr V i; omega))))) ?_
  refine Qa9 (hF _ kj fun W10 e10=>?_)
  simp only [ups,up,Kn.val,List.take_succ_cons,List.take_zero,List.drop_succ_cons,List.drop_zero,List.nil_append,List.cons_append]
  clear hF
  have x10:Ext w W10:=Ext.tr xx1 e10
  refine Qab (.int .i64 (Qap V i+Qap ordL i+cy V i)) 9 rfl kj kj ?_
  refine Qaf ?_
  refine hK19 _ _ ?_
  refine wp_seq_k fun K20 hK20=>?_
  refine Qac ?_
  refine Qab (.int .i64 ((i:Nat):Int)) 34 rfl kj kj ?_
  refine Qab (.int .i64 ((32+i:Nat):Int)) 35 rfl kj (Qan (u:=.int .i64 (IntKind.i64.wrap (32+((i:Nat):Int)))) kj (congrArg (Value.int .i64) (i64n _ _ (by omega) (by omega)))) ?_
  refine Qab (.int .i64 (Qap V i+Qap ordL i+cy V i)) 36 rfl kj kj ?_
  refine Qab (.int .u8 (Qap (V+ordL) i)) 37 rfl kj (Qan (u:=.int .u8 (IntKind.u8.wrap (Qap V i+Qap ordL i+cy V i))) kj (congrArg (Value.int .u8) ((Field.u8_mod _).trans (Qnn V i).symm))) ?_
  refine Qab (.pointer (some ⟨g8,32+i,none⟩)) 38 rfl kj (QaD _ _ _ .i64 (32+i) _ 64 5 rfl kj kj kj kj (by omega)) ?_
  have r8_10:=(Qaa q8_1 e10)
  refine Qak g8 _ (ints .u8 ((Fx++mx V i).set (32+i) (Qap (V+ordL) i))) 30 r8_10 rfl kj (Qa1 5 _ _ g8 (32+i) 30 _ _ r8_10 rfl kj kj kj (Nat.lt_of_lt_of_eq (by omega) (QkZ hFx (QnE V i)).symm)) fun W11 p11 r8_11=>?_
  have x11:Ext w W11:=Puts.ext p11 x10 b8
  refine Qaf ?_
  refine hK20 _ _ ?_
  refine Qac ?_
  refine Qab (.int .i64 (Qap V i+Qap ordL i+cy V i)) 39 rfl kj kj ?_
  refine Qab (.int .i64 (cy V (i+1))) 40 rfl kj (Qbp .shr _ _ _ _ .i64 .u64 _ _ _ rfl kj kj (QcY _ _ _ _ _ _ (by decide) ((QqW _).trans (Qpp V i).symm))) ?_
  refine Qab (.int .i64 (cy V (i+1))) 7 rfl kj kj ?_
  refine Qaf ?_
  refine hK17 _ _ ?_
  refine Qac ?_
  refine Qab (.int .i64 ((i+1:Nat):Int)) 41 rfl kj (Qan (u:=.int .i64 (IntKind.i64.wrap (((i:Nat):Int)+1))) kj (congrArg (Value.int .i64) (i64n _ _ (by omega) (by omega)))) ?_
  refine Qab (.int .i64 ((i+1:Nat):Int)) 19 rfl kj kj ?_
  refine Qaf ?_
  repeat (first | with_reducible refine goX1 ?_ | with_reducible refine goX2 ?_ | with_reducible refine goX3 ?_)
  exact QaA (i+1) ⟨rfl,rfl,rfl,rfl,rfl,rfl,rfl,trivial⟩ ⟨(by omega),(QaB r8_11 ((Qp4 Fx _ hFx i _).trans (congrArg (Fx++·) (Qqx V hlt20)))),(Qa7.puts (Qa7.step q9 e10) p11 (.inl (by simp))),x11⟩ (by show 32-(i+1)<32-i; omega)
 ·skip
  have heq20:i=32:=by have:=of_decide_eq_false c16; omega
  have r8_9_21:V1.heap[g8]? = some (.cells (ints .u8 (Fx++Qao (V+ordL))) 30):=QaB q8_1 (by rw [heq20]; exact congrArg (Fx++·) (QoO V))
  refine wp_exit ?_
  refine hK12 _ _ ?_
  refine wp_seq_k fun K22 hK22=>?_
  refine Qbb 5 [⟨none,[(2,none)]⟩,⟨none,[(42,some 0)]⟩,⟨none,[(5,none)]⟩,⟨none,[(1,none)]⟩,⟨none,[(45,some 3)]⟩] kj kj fun F hF=>?_
  have r2_4:=(Qaa r2_3 e4)
  have r2_5:=(Puts.row p5 r2_4 (Ne.symm nx8_2))
  have r2_6:=(Qaa r2_5 e6)
  have r2_7:=(Qaa r2_6 e7)
  have r2_8:=(Puts.row p8 r2_7 (Qad r2_6 l10))
  have r2_9:=(Qa7.row q9 r2_8 (Qbj (Ne.symm nx8_2) QbI))
  refine QbJ (Qaz _) (.agg (ints .u8 (xs))) kj kj (fun W hR=>(Qag 23 _ g2 23 _ _ (Qaa (Qaa r2_9 (Qai _)) hR) rfl kj kj (isz (n:=32) kj ((Qae _ _).trans hx)))) ?_
  refine QdF (Qaz _) (.agg (ints .u8 (pubV xs))) 11 #[.agg (ints .u8 (xs))] kj kj (fun W=>kj) (fun W hR=>QiK xs hx hb W) ?_
  refine QbJ (Qaz _) (.agg (ints .u8 (Fx++Qao (V+ordL)))) kj kj (fun W hR=>(Qag 30 _ g8 30 _ _ (Qaa (Qaa r8_9_21 (Qai _)) hR) rfl kj kj (isz (n:=64) kj ((Qae _ _).trans (QkZ hFx (bytesOf_len _)))))) ?_
  refine QaL (Qaz _) (.slice a_t t.length c_t) kj kj (fun W=>kj) ?_
  refine Qlv (Qaz _) (#[.slice a_t t.length c_t]) 27 1 (NewS.stable _ _ _ _) kj kj (fun W=>kj) ?_
  refine QdE (hF _ fun W10 e10=>?_)
  simp only [List.nil_append,List.cons_append,List.take_succ_cons,List.take_zero,List.drop_succ_cons,List.drop_zero,finE,up]
  intro vv23 hv23
  clear hF
  have x10:Ext w W10:=Ext.tr xx1 e10
  obtain ⟨g23,rfl,l23,r23_10⟩:=hv23
  have b23:w.heap.size≤g23:=qT xx1.size l23
  have hps24:∀ p∈([(.slice a_t t.length c_t,t)]:List (Value×List Int)),RdK .u8 W10.heap.size p.2 p.1 W10∧Qal p.2:=by
   intro p hp
   simp only [List.mem_cons,List.not_mem_nil,or_false] at hp
   rcases hp with rfl
   ·exact ⟨RdK.here (RdK.ext hr x10),hbt⟩
  have hone24:∀ u∈([(.slice a_t t.length c_t,t)]:List (Value×List Int)).map Prod.fst,u.oneCell'=true:=by
   intro u hu
   simp only [List.map_cons,List.map_nil,List.mem_cons,List.not_mem_nil,or_false] at hu
   rcases hu with rfl <;> rfl
  refine Qar (.bool false) 16 #[.agg (ints .u8 (pubV xs)),.agg (ints .u8 (Fx++Qao (V+ordL))),.slice (some ⟨g23,0,none⟩) 1 1] 47 rfl kj kj (verE (QlQ (pubV xs) t Fx hV hFx) (Qig (pubV xs) (Fx++Qao (V+ordL)) (Qbn xs) (Qdn xs) (QkZ hFx (bytesOf_len _)) (QeG hFb (QaQ _)) g23 1 _ ([(.slice a_t t.length c_t,t)]:List (Value×List Int)) rfl (by decide) hone24 tc tq tO tB tX tY _ (hT.ext x10) r23_10 hps24 t (by simp) (by omega))) fun W11 e11=>?_
  have x11:Ext w W11:=Ext.tr x10 e11
  refine Qab (.bool true) 48 rfl kj kj ?_
  refine Qab (.bool true) 4 rfl kj kj ?_
  refine Qaf ?_
  refine hK22 _ _ ?_
  refine wp_ret ?_
  repeat (first | with_reducible refine goR1 ?_ | with_reducible refine goR2 ?_)
  exact (show bodyPost _ _ _ .ret _ _ from ret1 (.bool true) rfl (Qbr kj) ⟨rfl,x11⟩)
theorem lawOnce (xs : List Int) (hx:xs.length=32) (hb:Qal xs) (t:List Int) (a_t:Option Addr) (c_t B_t:Nat) (hbt:Qal t) (tc tq tO tB tX tY:TypeId) (w:World) (hT:Tabs tc tq tO tB tX tY w) (hr:RdK .u8 B_t t (.slice a_t t.length c_t) w):Calls Tryd.prog 7 #[.agg (ints .u8 xs),.slice a_t t.length c_t] w (Ret w (.bool true)):=by
  rcases Nat.lt_or_ge 1000 t.length with hl | hl
  · exact QmK xs hx hb t a_t c_t B_t hbt tc tq tO tB tX tY w hT hr hl
  · exact QmJ xs hx hb t a_t c_t B_t hbt tc tq tO tB tX tY w hT hr hl
end Go.Proofs.YtdoadngmgmdlbaaDoor.Sgn
end
section
namespace Go.Proofs.YtdoadngmgmdlbaaDoor.Auto
open Go Go.RowKit
open Rely
theorem laidVars_at {P : Program} {w:World}:∀ (laid:List (String×DataW Unit)) (ps:List MemPlace) (n:String) (d:DataW Unit),DataW.LaidVars P w laid ps→(n,d)∈laid →
    ∃ g t cs fuel p,P.globalNamed n=some g∧(P.globals[g]?).map (·.type)=some t∧w.var? P n=some cs∧DataW.trod (fun _=>()) P w 0 (fun _=>true) false fuel t cs.toList=some (d,p)∧∀ x∈MemPlace.row ⟨g,0,none⟩ cs.size,x∈ps
  | [],_,_,_,_,h=>by cases h
  | (n0,d0)::r,ps,n,d,⟨g,t,cs,fuel,p,q,h1,h2,h3,h4,h5,h6⟩,h=>by
    subst h6
    rcases List.mem_cons.1 h with h | h
    · cases h
      exact ⟨g,t,cs,fuel,p,h1,h2,h3,h4,fun x hx=>List.mem_append_left _ (List.mem_append_left _ hx)⟩
    · obtain ⟨g',t',cs',fuel',p',a,b,c,e,f⟩:=laidVars_at r q n d h5 h
      exact ⟨g',t',cs',fuel',p',a,b,c,e,fun x hx=>List.mem_append_right _ (f x hx)⟩
theorem laid_row {P : Program} {w:World} {laid:List (String×DataW Unit)} {n:String} {k:IntKind} {zs:List Int} {g:Nat} {t e:TypeId} {m:Nat} (h:laidMet P laid w) (hm:(n,Lib.tabData k zs)∈laid)
    (hg:P.globalNamed n=some g) (hty:(P.globals[g]?).map (·.type)=some t) (ht:P.underlying t=some (.array m e)) (he:P.underlying e=some (.int k)) (hce:P.cellsOf e=1) (hct:P.cellsOf t=m) (h0:0<zs.length) :
    ∃ t,w.heap[g]? = some (.cells (ints k zs) t):=by
  obtain ⟨ps,hL,-,hC⟩:=h
  obtain ⟨g',t',cs,fuel,p,hg',ht',hvar,hd,hin⟩:=laidVars_at _ _ _ _ hL hm
  obtain rfl:=Option.some.inj (hg.symm.trans hg')
  obtain rfl:=Option.some.inj (hty.symm.trans ht')
  have hcs:=Lib.cells_of_tab ht he hce hct hd
  have hsz:0<cs.size:=by rw [←Array.length_toList,hcs,List.length_map]; exact h0
  obtain ⟨⟨c,t2,hc⟩,-⟩:=hC g 0 (hin _ (List.mem_map.2 ⟨0,List.mem_range.2 hsz,rfl⟩))
  unfold World.var? at hvar
  rw [hg] at hvar
  simp only [Option.bind_some,hc,Option.some.injEq] at hvar
  subst hvar
  refine ⟨t2,hc.trans ?_⟩
  rw [show c=ints k zs from by rw [ints,←hcs]]
theorem bytes_wf {bs : List Int} (h:∀ n∈bs,(Lit.int .u8 n).wf=true):Qal bs:=fun n hn=>by
  have:=h n hn
  simpa [Lit.wf,IntKind.min,IntKind.max,IntKind.signed,IntKind.bits] using this
end Go.Proofs.YtdoadngmgmdlbaaDoor.Auto
end
