/- Texts of this claim, joined (U5). -/
import Derived.Test.YtdoadngmgmdlbaaDoorZU4
import Derived.Lib.LaidTab

set_option linter.unusedVariables false
set_option linter.unusedSimpArgs false
set_option maxHeartbeats 4000000
section
namespace Go.Proofs.YtdoadngmgmdlbaaDoor.Sgn
open Go Go.RowKit
open Rely Auto Own Sha5
open Ladder (clamp)
open Field (Qap resN numA num lims QbV ordL Qbv QbB QbA QaZ encP Qbm pa Qdl pAdd pNeg mulP QcT okK xK zK lK mulR BP QbT numB nmul OnP QcE)
theorem Qp8 (p : List Int) (hp:p.length=32) (hb:Qal p) (b:Bool) (ho:okK p=b) (w:World) (tB:TypeId) (hB:w.heap[2]? = some (.cells (ints .u8 Qbv) tB)):Calls Tryd.prog 34 #[.agg (ints .u8 p)] w (Ret w (.tuple #[.agg (Field.ptA (xK p,zK p)),.bool b])):=by
  have c:=Field.pfromC p hp hb w tB hB
  rw [ho,Field.lK_eq] at c
  exact c
theorem canS (s : List Int) (hs:s.length=32) (hb:Qal s) (b:Bool) (h:canV s=b) (w:World) (tO:TypeId) (hO:w.heap[3]? = some (.cells QbV tO)):Calls Tryd.prog 33 #[.agg (ints .u8 s)] w (Ret w (.bool b)):=by
  subst h
  exact Field.residueBC s hs hb w tO hO
theorem Qna (p s:List Int) (hp:p.length=32) (hpb:Qal p) (hs:s.length=64) (hsb:Qal s) (hc:canV (s.drop 32)=false) (gp n:Nat) (Tp:TypeId) (ps:List (Value×List Int)) (hn:ps.length=n) (hn9:n≤1000) (hone:∀ u∈ps.map Prod.fst,u.oneCell'=true) (tc tq tO tB tX tY:TypeId) (w:World) (hT:Tabs tc tq tO tB tX tY w) (hrow:w.heap[gp]? = some (.cells (ps.map Prod.fst).toArray Tp)) (hps:∀ p∈ps,RdK .u8 w.heap.size p.2 p.1 w∧Qal p.2) (t:List Int) (ht:(ps.map Prod.snd).flatten=t) (hlen:t.length≤100000):Calls Tryd.prog 16 #[.agg (ints .u8 p),.agg (ints .u8 s),.slice (some ⟨gp,0,none⟩) n n] w (Ret w (.bool false)):=by
  refine enter 44 [(0,.agg (ints .u8 (p))),(1,.agg (ints .u8 (s))),(2,.slice (some ⟨gp,0,none⟩) n n)] Tryd.func16 rfl rfl kj rfl ?_
  refine wp_seq_k fun K2 hK2=>?_
  refine Qac ?_
  refine Qaj (ints .u8 (p)) 23 3 rfl kj kj fun g3 W1 l3 e1 r3_1=>?_
  have x1:Ext w W1:=Ext.tr (Rely.Ext.refl w) e1
  have b3:w.heap.size≤g3:=qT (Rely.Ext.refl w).size l3
  refine Qaj (ints .u8 (s)) 30 4 rfl kj kj fun g4 W2 l4 e2 r4_2=>?_
  have x2:Ext w W2:=Ext.tr x1 e2
  have b4:w.heap.size≤g4:=qT x1.size l4
  refine Qab (.bool false) 6 rfl kj kj ?_
  refine Qae ?_
  refine hK2 _ _ ?_
  refine wp_seq_k fun K5 hK5=>?_
  refine Qac ?_
  refine Qaj (ints .u8 (List.replicate 32 0)) 23 7 rfl kj kj fun g6 W3 l6 e3 r6_3=>?_
  have x3:Ext w W3:=Ext.tr x2 e3
  have b6:w.heap.size≤g6:=qT x2.size l6
  refine Qaj (ints .u8 (List.replicate 32 0)) 23 8 rfl kj kj fun g7 W4 l7 e4 r7_4=>?_
  have x4:Ext w W4:=Ext.tr x3 e4
  have b7:w.heap.size≤g7:=qT x3.size l7
  refine Qae ?_
  refine hK5 _ _ ?_
  refine wp_seq_k fun K8 hK8=>?_
  refine Qbc 2 [⟨none,[(7,none)]⟩,⟨none,[(4,none)]⟩] kj kj fun F hF=>?_
  refine QaJ (Qay _) (.slice (some ⟨g6,0,none⟩) 32 32) kj kj (fun W=>kj) ?_
  refine QaJ (Qay _) (.slice (some ⟨g4,0+0,none⟩) (32-0) (64-0)) kj kj (fun W=>(Qb1 30 _ _ _ 0 32 64 g4 0 5 rfl kj kj kj rfl ⟨.i64,kj⟩ (by omega) (by omega) (by omega))) ?_
  refine Qee (hF _ fun W5 e5=>?_)
  simp only [List.nil_append,List.cons_append,List.take_succ_cons,List.take_zero,List.drop_succ_cons,List.drop_zero,finE,up]
  clear hF
  have x5:Ext w W5:=Ext.tr x4 e5
  have r4_3:=(Qaa r4_2 e3)
  have r4_4:=(Qaa r4_3 e4)
  have r4_5:=(Qaa r4_4 e5)
  have hrd9:RdK .u8 W5.heap.size (s.take 32) (.slice (some ⟨g4,0+0,none⟩) (32-0) (64-0)) W5:=Qd5 (l:=0) (h:=32) (n:=64) hs r4_5 (by decide) (by decide) (by decide)
  have r6_4:=(Qaa r6_3 e4)
  have r6_5:=(Qaa r6_4 e5)
  refine Qca (k:=.u8) (e:=5) (z:=s.take 32) (.tmp 12) (.tmp 13) 27 27 14 rfl kj kj rfl kj (off:=0) (dl:=32) (dc:=32) (n:=32) (xs:=List.replicate 32 0) kj kj hrd9 r6_5 (qT (show 0+(32)≤32 from (by omega)) (qE (qZ (n:=32)).symm)) (by rw [(Qbw hs)]; rfl) fun W6 p6 r6_6=>?_
  have x6:Ext w W6:=Puts.ext p6 x5 b6
  have r6_6_10:W6.heap[g6]? = some (.cells (ints .u8 (s.take 32)) 23):=QaF r6_6 (Qde (Qbw hs))
  refine Qae ?_
  refine hK8 _ _ ?_
  refine wp_seq_k fun K11 hK11=>?_
  refine Qbc 2 [⟨none,[(8,none)]⟩,⟨none,[(4,none)]⟩] kj kj fun F hF=>?_
  refine QaJ (Qay _) (.slice (some ⟨g7,0,none⟩) 32 32) kj kj (fun W=>kj) ?_
  refine QaJ (Qay _) (.slice (some ⟨g4,0+32,none⟩) (64-32) (64-32)) kj kj (fun W=>(Qb1 30 _ _ _ 32 64 64 g4 0 5 rfl kj kj kj ⟨.i64,kj⟩ rfl (by omega) (by omega) (by omega))) ?_
  refine Qee (hF _ fun W7 e7=>?_)
  simp only [List.nil_append,List.cons_append,List.take_succ_cons,List.take_zero,List.drop_succ_cons,List.drop_zero,finE,up]
  clear hF
  have x7:Ext w W7:=Ext.tr x6 e7
  have r4_6:=(Puts.row p6 r4_5 (Qad r4_2 l6))
  have r4_7:=(Qaa r4_6 e7)
  have hrd12:RdK .u8 W7.heap.size (s.drop 32) (.slice (some ⟨g4,0+32,none⟩) (64-32) (64-32)) W7:=by
    have h:=Qd5 (l:=32) (h:=64) (n:=64) hs r4_7 (by decide) (by decide) (by decide)
    rwa [List.take_of_length_le (by rw [List.length_drop,hs]; decide)] at h
  have r7_5:=(Qaa r7_4 e5)
  have r7_6:=(Puts.row p6 r7_5 (Qau r6_3 l7))
  have r7_7:=(Qaa r7_6 e7)
  refine Qca (k:=.u8) (e:=5) (z:=s.drop 32) (.tmp 15) (.tmp 16) 27 27 17 rfl kj kj rfl kj (off:=0) (dl:=32) (dc:=32) (n:=32) (xs:=List.replicate 32 0) kj kj hrd12 r7_7 (qT (show 0+(32)≤32 from (by omega)) (qE (qZ (n:=32)).symm)) (by rw [(Qby hs)]; rfl) fun W8 p8 r7_8=>?_
  have x8:Ext w W8:=Puts.ext p8 x7 b7
  have r7_8_13:W8.heap[g7]? = some (.cells (ints .u8 (s.drop 32)) 23):=QaF r7_8 (Qde (Qby hs))
  refine Qae ?_
  refine hK11 _ _ ?_
  refine wp_seq_k fun K14 hK14=>?_
  refine wp_seq_k fun K15 hK15=>?_
  refine Qac ?_
  refine Qab (.agg (ints .u8 (s.drop 32))) 18 rfl kj (Qag 23 _ g7 23 _ _ r7_8_13 rfl kj kj (isz (n:=32) kj ((Qaf _ _).trans (Qby hs)))) ?_
  refine Qat (.bool false) 33 #[.agg (ints .u8 (s.drop 32))] 19 rfl kj kj (canS (s.drop 32) (Qby hs) (Qe7 hsb 32) false hc _ tO (hT.ext x8).o) fun W9 e9=>?_
  have x9:Ext w W9:=Ext.tr x8 e9
  refine Qab (.bool true) 20 rfl kj kj ?_
  refine Qae ?_
  refine hK15 _ _ ?_
  refine cond_true kj ?_
  refine wp_seq_k fun K16 hK16=>?_
  refine Qac ?_
  refine Qab (.bool false) 6 rfl kj kj ?_
  refine Qae ?_
  refine hK16 _ _ ?_
  refine wp_ret ?_
  repeat (first | with_reducible refine goR1 ?_ | with_reducible refine goR2 ?_)
  exact (show bodyPost _ _ _ .ret _ _ from ret1 (.bool false) rfl (Qbr kj) ⟨rfl,x9⟩)
theorem QmZ (p s:List Int) (hp:p.length=32) (hpb:Qal p) (hs:s.length=64) (hsb:Qal s) (hc:canV (s.drop 32)=true) (ho:okK p=false) (gp n:Nat) (Tp:TypeId) (ps:List (Value×List Int)) (hn:ps.length=n) (hn9:n≤1000) (hone:∀ u∈ps.map Prod.fst,u.oneCell'=true) (tc tq tO tB tX tY:TypeId) (w:World) (hT:Tabs tc tq tO tB tX tY w) (hrow:w.heap[gp]? = some (.cells (ps.map Prod.fst).toArray Tp)) (hps:∀ p∈ps,RdK .u8 w.heap.size p.2 p.1 w∧Qal p.2) (t:List Int) (ht:(ps.map Prod.snd).flatten=t) (hlen:t.length≤100000):Calls Tryd.prog 16 #[.agg (ints .u8 p),.agg (ints .u8 s),.slice (some ⟨gp,0,none⟩) n n] w (Ret w (.bool false)):=by
  refine enter 44 [(0,.agg (ints .u8 (p))),(1,.agg (ints .u8 (s))),(2,.slice (some ⟨gp,0,none⟩) n n)] Tryd.func16 rfl rfl kj rfl ?_
  refine wp_seq_k fun K2 hK2=>?_
  refine Qac ?_
  refine Qaj (ints .u8 (p)) 23 3 rfl kj kj fun g3 W1 l3 e1 r3_1=>?_
  have x1:Ext w W1:=Ext.tr (Rely.Ext.refl w) e1
  have b3:w.heap.size≤g3:=qT (Rely.Ext.refl w).size l3
  refine Qaj (ints .u8 (s)) 30 4 rfl kj kj fun g4 W2 l4 e2 r4_2=>?_
  have x2:Ext w W2:=Ext.tr x1 e2
  have b4:w.heap.size≤g4:=qT x1.size l4
  refine Qab (.bool false) 6 rfl kj kj ?_
  refine Qae ?_
  refine hK2 _ _ ?_
  refine wp_seq_k fun K5 hK5=>?_
  refine Qac ?_
  refine Qaj (ints .u8 (List.replicate 32 0)) 23 7 rfl kj kj fun g6 W3 l6 e3 r6_3=>?_
  have x3:Ext w W3:=Ext.tr x2 e3
  have b6:w.heap.size≤g6:=qT x2.size l6
  refine Qaj (ints .u8 (List.replicate 32 0)) 23 8 rfl kj kj fun g7 W4 l7 e4 r7_4=>?_
  have x4:Ext w W4:=Ext.tr x3 e4
  have b7:w.heap.size≤g7:=qT x3.size l7
  refine Qae ?_
  refine hK5 _ _ ?_
  refine wp_seq_k fun K8 hK8=>?_
  refine Qbc 2 [⟨none,[(7,none)]⟩,⟨none,[(4,none)]⟩] kj kj fun F hF=>?_
  refine QaJ (Qay _) (.slice (some ⟨g6,0,none⟩) 32 32) kj kj (fun W=>kj) ?_
  refine QaJ (Qay _) (.slice (some ⟨g4,0+0,none⟩) (32-0) (64-0)) kj kj (fun W=>(Qb1 30 _ _ _ 0 32 64 g4 0 5 rfl kj kj kj rfl ⟨.i64,kj⟩ (by omega) (by omega) (by omega))) ?_
  refine Qee (hF _ fun W5 e5=>?_)
  simp only [List.nil_append,List.cons_append,List.take_succ_cons,List.take_zero,List.drop_succ_cons,List.drop_zero,finE,up]
  clear hF
  have x5:Ext w W5:=Ext.tr x4 e5
  have r4_3:=(Qaa r4_2 e3)
  have r4_4:=(Qaa r4_3 e4)
  have r4_5:=(Qaa r4_4 e5)
  have hrd9:RdK .u8 W5.heap.size (s.take 32) (.slice (some ⟨g4,0+0,none⟩) (32-0) (64-0)) W5:=Qd5 (l:=0) (h:=32) (n:=64) hs r4_5 (by decide) (by decide) (by decide)
  have r6_4:=(Qaa r6_3 e4)
  have r6_5:=(Qaa r6_4 e5)
  refine Qca (k:=.u8) (e:=5) (z:=s.take 32) (.tmp 12) (.tmp 13) 27 27 14 rfl kj kj rfl kj (off:=0) (dl:=32) (dc:=32) (n:=32) (xs:=List.replicate 32 0) kj kj hrd9 r6_5 (qT (show 0+(32)≤32 from (by omega)) (qE (qZ (n:=32)).symm)) (by rw [(Qbw hs)]; rfl) fun W6 p6 r6_6=>?_
  have x6:Ext w W6:=Puts.ext p6 x5 b6
  have r6_6_10:W6.heap[g6]? = some (.cells (ints .u8 (s.take 32)) 23):=QaF r6_6 (Qde (Qbw hs))
  refine Qae ?_
  refine hK8 _ _ ?_
  refine wp_seq_k fun K11 hK11=>?_
  refine Qbc 2 [⟨none,[(8,none)]⟩,⟨none,[(4,none)]⟩] kj kj fun F hF=>?_
  refine QaJ (Qay _) (.slice (some ⟨g7,0,none⟩) 32 32) kj kj (fun W=>kj) ?_
  refine QaJ (Qay _) (.slice (some ⟨g4,0+32,none⟩) (64-32) (64-32)) kj kj (fun W=>(Qb1 30 _ _ _ 32 64 64 g4 0 5 rfl kj kj kj ⟨.i64,kj⟩ rfl (by omega) (by omega) (by omega))) ?_
  refine Qee (hF _ fun W7 e7=>?_)
  simp only [List.nil_append,List.cons_append,List.take_succ_cons,List.take_zero,List.drop_succ_cons,List.drop_zero,finE,up]
  clear hF
  have x7:Ext w W7:=Ext.tr x6 e7
  have r4_6:=(Puts.row p6 r4_5 (Qad r4_2 l6))
  have r4_7:=(Qaa r4_6 e7)
  have hrd12:RdK .u8 W7.heap.size (s.drop 32) (.slice (some ⟨g4,0+32,none⟩) (64-32) (64-32)) W7:=by
    have h:=Qd5 (l:=32) (h:=64) (n:=64) hs r4_7 (by decide) (by decide) (by decide)
    rwa [List.take_of_length_le (by rw [List.length_drop,hs]; decide)] at h
  have r7_5:=(Qaa r7_4 e5)
  have r7_6:=(Puts.row p6 r7_5 (Qau r6_3 l7))
  have r7_7:=(Qaa r7_6 e7)
  refine Qca (k:=.u8) (e:=5) (z:=s.drop 32) (.tmp 15) (.tmp 16) 27 27 17 rfl kj kj rfl kj (off:=0) (dl:=32) (dc:=32) (n:=32) (xs:=List.replicate 32 0) kj kj hrd12 r7_7 (qT (show 0+(32)≤32 from (by omega)) (qE (qZ (n:=32)).symm)) (by rw [(Qby hs)]; rfl) fun W8 p8 r7_8=>?_
  have x8:Ext w W8:=Puts.ext p8 x7 b7
  have r7_8_13:W8.heap[g7]? = some (.cells (ints .u8 (s.drop 32)) 23):=QaF r7_8 (Qde (Qby hs))
  refine Qae ?_
  refine hK11 _ _ ?_
  refine wp_seq_k fun K14 hK14=>?_
  refine wp_seq_k fun K15 hK15=>?_
  refine Qac ?_
  refine Qab (.agg (ints .u8 (s.drop 32))) 18 rfl kj (Qag 23 _ g7 23 _ _ r7_8_13 rfl kj kj (isz (n:=32) kj ((Qaf _ _).trans (Qby hs)))) ?_
  refine Qat (.bool true) 33 #[.agg (ints .u8 (s.drop 32))] 19 rfl kj kj (canS (s.drop 32) (Qby hs) (Qe7 hsb 32) true hc _ tO (hT.ext x8).o) fun W9 e9=>?_
  have x9:Ext w W9:=Ext.tr x8 e9
  refine Qab (.bool false) 20 rfl kj kj ?_
  refine Qae ?_
  refine hK15 _ _ ?_
  refine cond_false kj ?_
  refine wp_skip ?_
  refine hK14 _ _ ?_
  refine wp_seq_k fun K16 hK16=>?_
  refine Qac ?_
  have r3_2:=(Qaa r3_1 e2)
  have r3_3:=(Qaa r3_2 e3)
  have r3_4:=(Qaa r3_3 e4)
  have r3_5:=(Qaa r3_4 e5)
  have r3_6:=(Puts.row p6 r3_5 (Qad r3_2 l6))
  have r3_7:=(Qaa r3_6 e7)
  have r3_8:=(Puts.row p8 r3_7 (Qad r3_3 l7))
  have r3_9:=(Qaa r3_8 e9)
  refine Qab (.agg (ints .u8 (p))) 22 rfl kj (Qag 23 _ g3 23 _ _ r3_9 rfl kj kj (isz (n:=32) kj ((Qaf _ _).trans hp))) ?_
  refine Qat (.tuple #[.agg (Field.ptA (xK p,zK p)),.bool false]) 34 #[.agg (ints .u8 (p))] 23 rfl kj kj (Qp8 p hp hpb false ho _ tB (hT.ext x9).b) fun W10 e10=>?_
  have x10:Ext w W10:=Ext.tr x9 e10
  refine Qab (.tuple #[.agg (Field.ptA (xK p,zK p)),.bool false]) 21 rfl kj kj ?_
  refine Qab (.agg (Field.ptA ((xK p,zK p)))) 24 rfl kj kj ?_
  refine Qab (.bool false) 25 rfl kj kj ?_
  refine Qaj (Field.ptA (0,1)) 51 9 rfl kj kj fun g17 W11 l17 e11 r17_11=>?_
  have x11:Ext w W11:=Ext.tr x10 e11
  have b17:w.heap.size≤g17:=qT x10.size l17
  refine Qak g17 _ (Field.ptA ((xK p,zK p))) 51 r17_11 rfl kj (Qai 51 _ _ g17 51 _ _ r17_11 rfl kj kj (isz (n:=8) kj kj) (eqsz (n:=8) kj kj) kj) fun W12 p12 r17_12=>?_
  have x12:Ext w W12:=Puts.ext p12 x11 b17
  refine Qab (.bool false) 10 rfl kj kj ?_
  refine Qae ?_
  refine hK16 _ _ ?_
  refine wp_seq_k fun K18 hK18=>?_
  refine wp_seq_k fun K19 hK19=>?_
  refine Qac ?_
  refine Qab (.bool false) 26 rfl kj kj ?_
  refine Qab (.bool true) 27 rfl kj kj ?_
  refine Qae ?_
  refine hK19 _ _ ?_
  refine cond_true kj ?_
  refine wp_seq_k fun K20 hK20=>?_
  refine Qac ?_
  refine Qab (.bool false) 6 rfl kj kj ?_
  refine Qae ?_
  refine hK20 _ _ ?_
  refine wp_ret ?_
  repeat (first | with_reducible refine goR1 ?_ | with_reducible refine goR2 ?_)
  exact (show bodyPost _ _ _ .ret _ _ from ret1 (.bool false) rfl (Qbr kj) ⟨rfl,x12⟩)
theorem Qlm (p s:List Int) (hp:p.length=32) (hpb:Qal p) (hs:s.length=64) (hsb:Qal s) (hc:canV (s.drop 32)=true) (ho:okK p=true) (gp n:Nat) (Tp:TypeId) (ps:List (Value×List Int)) (hn:ps.length=n) (hn9:n≤1000) (hone:∀ u∈ps.map Prod.fst,u.oneCell'=true) (tc tq tO tB tX tY:TypeId) (w:World) (hT:Tabs tc tq tO tB tX tY w) (hrow:w.heap[gp]? = some (.cells (ps.map Prod.fst).toArray Tp)) (hps:∀ p∈ps,RdK .u8 w.heap.size p.2 p.1 w∧Qal p.2) (t:List Int) (ht:(ps.map Prod.snd).flatten=t) (hlen:t.length≤100000):Calls Tryd.prog 16 #[.agg (ints .u8 p),.agg (ints .u8 s),.slice (some ⟨gp,0,none⟩) n n] w (Ret w (.bool (decide (encP (pAdd (pa (s.drop 32)) (pNeg (mulP p (resV (s.take 32++p++t)))))=s.take 32)))):=by
  refine enter 44 [(0,.agg (ints .u8 (p))),(1,.agg (ints .u8 (s))),(2,.slice (some ⟨gp,0,none⟩) n n)] Tryd.func16 rfl rfl kj rfl ?_
  refine wp_seq_k fun K2 hK2=>?_
  refine Qac ?_
  refine Qaj (ints .u8 (p)) 23 3 rfl kj kj fun g3 W1 l3 e1 r3_1=>?_
  have x1:Ext w W1:=Ext.tr (Rely.Ext.refl w) e1
  have b3:w.heap.size≤g3:=qT (Rely.Ext.refl w).size l3
  refine Qaj (ints .u8 (s)) 30 4 rfl kj kj fun g4 W2 l4 e2 r4_2=>?_
  have x2:Ext w W2:=Ext.tr x1 e2
  have b4:w.heap.size≤g4:=qT x1.size l4
  refine Qab (.bool false) 6 rfl kj kj ?_
  refine Qae ?_
  refine hK2 _ _ ?_
  refine wp_seq_k fun K5 hK5=>?_
  refine Qac ?_
  refine Qaj (ints .u8 (List.replicate 32 0)) 23 7 rfl kj kj fun g6 W3 l6 e3 r6_3=>?_
  have x3:Ext w W3:=Ext.tr x2 e3
  have b6:w.heap.size≤g6:=qT x2.size l6
  refine Qaj (ints .u8 (List.replicate 32 0)) 23 8 rfl kj kj fun g7 W4 l7 e4 r7_4=>?_
  have x4:Ext w W4:=Ext.tr x3 e4
  have b7:w.heap.size≤g7:=qT x3.size l7
  refine Qae ?_
  refine hK5 _ _ ?_
  refine wp_seq_k fun K8 hK8=>?_
  refine Qbc 2 [⟨none,[(7,none)]⟩,⟨none,[(4,none)]⟩] kj kj fun F hF=>?_
  refine QaJ (Qay _) (.slice (some ⟨g6,0,none⟩) 32 32) kj kj (fun W=>kj) ?_
  refine QaJ (Qay _) (.slice (some ⟨g4,0+0,none⟩) (32-0) (64-0)) kj kj (fun W=>(Qb1 30 _ _ _ 0 32 64 g4 0 5 rfl kj kj kj rfl ⟨.i64,kj⟩ (by omega) (by omega) (by omega))) ?_
  refine Qee (hF _ fun W5 e5=>?_)
  simp only [List.nil_append,List.cons_append,List.take_succ_cons,List.take_zero,List.drop_succ_cons,List.drop_zero,finE,up]
  clear hF
  have x5:Ext w W5:=Ext.tr x4 e5
  have r4_3:=(Qaa r4_2 e3)
  have r4_4:=(Qaa r4_3 e4)
  have r4_5:=(Qaa r4_4 e5)
  have hrd9:RdK .u8 W5.heap.size (s.take 32) (.slice (some ⟨g4,0+0,none⟩) (32-0) (64-0)) W5:=Qd5 (l:=0) (h:=32) (n:=64) hs r4_5 (by decide) (by decide) (by decide)
  have r6_4:=(Qaa r6_3 e4)
  have r6_5:=(Qaa r6_4 e5)
  refine Qca (k:=.u8) (e:=5) (z:=s.take 32) (.tmp 12) (.tmp 13) 27 27 14 rfl kj kj rfl kj (off:=0) (dl:=32) (dc:=32) (n:=32) (xs:=List.replicate 32 0) kj kj hrd9 r6_5 (qT (show 0+(32)≤32 from (by omega)) (qE (qZ (n:=32)).symm)) (by rw [(Qbw hs)]; rfl) fun W6 p6 r6_6=>?_
  have x6:Ext w W6:=Puts.ext p6 x5 b6
  have r6_6_10:W6.heap[g6]? = some (.cells (ints .u8 (s.take 32)) 23):=QaF r6_6 (Qde (Qbw hs))
  refine Qae ?_
  refine hK8 _ _ ?_
  refine wp_seq_k fun K11 hK11=>?_
  refine Qbc 2 [⟨none,[(8,none)]⟩,⟨none,[(4,none)]⟩] kj kj fun F hF=>?_
  refine QaJ (Qay _) (.slice (some ⟨g7,0,none⟩) 32 32) kj kj (fun W=>kj) ?_
  refine QaJ (Qay _) (.slice (some ⟨g4,0+32,none⟩) (64-32) (64-32)) kj kj (fun W=>(Qb1 30 _ _ _ 32 64 64 g4 0 5 rfl kj kj kj ⟨.i64,kj⟩ rfl (by omega) (by omega) (by omega))) ?_
  refine Qee (hF _ fun W7 e7=>?_)
  simp only [List.nil_append,List.cons_append,List.take_succ_cons,List.take_zero,List.drop_succ_cons,List.drop_zero,finE,up]
  clear hF
  have x7:Ext w W7:=Ext.tr x6 e7
  have r4_6:=(Puts.row p6 r4_5 (Qad r4_2 l6))
  have r4_7:=(Qaa r4_6 e7)
  have hrd12:RdK .u8 W7.heap.size (s.drop 32) (.slice (some ⟨g4,0+32,none⟩) (64-32) (64-32)) W7:=by
    have h:=Qd5 (l:=32) (h:=64) (n:=64) hs r4_7 (by decide) (by decide) (by decide)
    rwa [List.take_of_length_le (by rw [List.length_drop,hs]; decide)] at h
  have r7_5:=(Qaa r7_4 e5)
  have r7_6:=(Puts.row p6 r7_5 (Qau r6_3 l7))
  have r7_7:=(Qaa r7_6 e7)
  refine Qca (k:=.u8) (e:=5) (z:=s.drop 32) (.tmp 15) (.tmp 16) 27 27 17 rfl kj kj rfl kj (off:=0) (dl:=32) (dc:=32) (n:=32) (xs:=List.replicate 32 0) kj kj hrd12 r7_7 (qT (show 0+(32)≤32 from (by omega)) (qE (qZ (n:=32)).symm)) (by rw [(Qby hs)]; rfl) fun W8 p8 r7_8=>?_
  have x8:Ext w W8:=Puts.ext p8 x7 b7
  have r7_8_13:W8.heap[g7]? = some (.cells (ints .u8 (s.drop 32)) 23):=QaF r7_8 (Qde (Qby hs))
  refine Qae ?_
  refine hK11 _ _ ?_
  refine wp_seq_k fun K14 hK14=>?_
  refine wp_seq_k fun K15 hK15=>?_
  refine Qac ?_
  refine Qab (.agg (ints .u8 (s.drop 32))) 18 rfl kj (Qag 23 _ g7 23 _ _ r7_8_13 rfl kj kj (isz (n:=32) kj ((Qaf _ _).trans (Qby hs)))) ?_
  refine Qat (.bool true) 33 #[.agg (ints .u8 (s.drop 32))] 19 rfl kj kj (canS (s.drop 32) (Qby hs) (Qe7 hsb 32) true hc _ tO (hT.ext x8).o) fun W9 e9=>?_
  have x9:Ext w W9:=Ext.tr x8 e9
  refine Qab (.bool false) 20 rfl kj kj ?_
  refine Qae ?_
  refine hK15 _ _ ?_
  refine cond_false kj ?_
  refine wp_skip ?_
  refine hK14 _ _ ?_
  refine wp_seq_k fun K16 hK16=>?_
  refine Qac ?_
  have r3_2:=(Qaa r3_1 e2)
  have r3_3:=(Qaa r3_2 e3)
  have r3_4:=(Qaa r3_3 e4)
  have r3_5:=(Qaa r3_4 e5)
  have r3_6:=(Puts.row p6 r3_5 (Qad r3_2 l6))
  have r3_7:=(Qaa r3_6 e7)
  have r3_8:=(Puts.row p8 r3_7 (Qad r3_3 l7))
  have r3_9:=(Qaa r3_8 e9)
  refine Qab (.agg (ints .u8 (p))) 22 rfl kj (Qag 23 _ g3 23 _ _ r3_9 rfl kj kj (isz (n:=32) kj ((Qaf _ _).trans hp))) ?_
  refine Qat (.tuple #[.agg (Field.ptA (xK p,zK p)),.bool true]) 34 #[.agg (ints .u8 (p))] 23 rfl kj kj (Qp8 p hp hpb true ho _ tB (hT.ext x9).b) fun W10 e10=>?_
  have x10:Ext w W10:=Ext.tr x9 e10
  refine Qab (.tuple #[.agg (Field.ptA (xK p,zK p)),.bool true]) 21 rfl kj kj ?_
  refine Qab (.agg (Field.ptA ((xK p,zK p)))) 24 rfl kj kj ?_
  refine Qab (.bool true) 25 rfl kj kj ?_
  refine Qaj (Field.ptA (0,1)) 51 9 rfl kj kj fun g17 W11 l17 e11 r17_11=>?_
  have x11:Ext w W11:=Ext.tr x10 e11
  have b17:w.heap.size≤g17:=qT x10.size l17
  refine Qak g17 _ (Field.ptA ((xK p,zK p))) 51 r17_11 rfl kj (Qai 51 _ _ g17 51 _ _ r17_11 rfl kj kj (isz (n:=8) kj kj) (eqsz (n:=8) kj kj) kj) fun W12 p12 r17_12=>?_
  have x12:Ext w W12:=Puts.ext p12 x11 b17
  refine Qab (.bool true) 10 rfl kj kj ?_
  refine Qae ?_
  refine hK16 _ _ ?_
  refine wp_seq_k fun K18 hK18=>?_
  refine wp_seq_k fun K19 hK19=>?_
  refine Qac ?_
  refine Qab (.bool true) 26 rfl kj kj ?_
  refine Qab (.bool false) 27 rfl kj kj ?_
  refine Qae ?_
  refine hK19 _ _ ?_
  refine cond_false kj ?_
  refine wp_skip ?_
  refine hK18 _ _ ?_
  refine wp_seq_k fun K20 hK20=>?_
  refine Qac ?_
  refine Qab (.slice (some ⟨gp,0,none⟩) n n) 28 rfl kj kj ?_
  have r6_7:=(Qaa r6_6_10 e7)
  have r6_8:=(Puts.row p8 r6_7 (Qad r6_3 l7))
  have r6_9:=(Qaa r6_8 e9)
  have r6_10:=(Qaa r6_9 e10)
  have r6_11:=(Qaa r6_10 e11)
  have r6_12:=(Puts.row p12 r6_11 (Qad r6_10 l17))
  refine Qab (.agg (ints .u8 (s.take 32))) 29 rfl kj (Qag 23 _ g6 23 _ _ r6_12 rfl kj kj (isz (n:=32) kj ((Qaf _ _).trans (Qbw hs)))) ?_
  have r3_10:=(Qaa r3_9 e10)
  have r3_11:=(Qaa r3_10 e11)
  have r3_12:=(Puts.row p12 r3_11 (Qad r3_10 l17))
  refine Qab (.agg (ints .u8 (p))) 30 rfl kj (Qag 23 _ g3 23 _ _ r3_12 rfl kj kj (isz (n:=32) kj ((Qaf _ _).trans hp))) ?_
  refine QaT (cat [ints .u8 (s.take 32),ints .u8 (p)]) 23 2 31 rfl kj (QhP (P:=Tryd.prog) 94 23 2 _ (.agg (ints .u8 (List.replicate 32 0))) ([(0,32,.agg (ints .u8 (s.take 32)),ints .u8 (s.take 32)),(1,32,.agg (ints .u8 (p)),ints .u8 (p))]:List (Nat×Nat×Value×Array Value)) rfl kj kj kj ⟨rfl,rfl,(Qaf _ _).trans (Qbw hs),rfl,rfl,(Qaf _ _).trans hp,trivial⟩ rfl (by decide) (by decide)) fun g21 W13 l21 e13 r21_13=>?_
  have x13:Ext w W13:=Ext.tr x12 e13
  have b21:w.heap.size≤g21:=qT x12.size l21
  have r1_1:=(Qaa hrow e1)
  have r1_2:=(Qaa r1_1 e2)
  have r1_3:=(Qaa r1_2 e3)
  have r1_4:=(Qaa r1_3 e4)
  have r1_5:=(Qaa r1_4 e5)
  have r1_6:=(Puts.row p6 r1_5 (Qad r1_2 l6))
  have r1_7:=(Qaa r1_6 e7)
  have r1_8:=(Puts.row p8 r1_7 (Qad r1_3 l7))
  have r1_9:=(Qaa r1_8 e9)
  have r1_10:=(Qaa r1_9 e10)
  have r1_11:=(Qaa r1_10 e11)
  have r1_12:=(Puts.row p12 r1_11 (Qad r1_10 l17))
  have r1_13:=(Qaa r1_12 e13)
  refine Qat (.agg (ints .u8 (resV ((s.take 32)++p++t)))) 29 #[.slice (some ⟨gp,0,none⟩) n n,.slice (some ⟨g21,0,none⟩) 2 2] 32 rfl kj kj (QoX (s.take 32) p (Qbw hs) (Qfd hsb) hp hpb g21 _ gp n Tp ps hn hn9 hone tc tq tO tB tX tY _ (hT.ext x13) r21_13 r1_13 (fun p hp=>⟨RdK.here ((hps p hp).1.ext x13),(hps p hp).2⟩) t ht hlen) fun W14 e14=>?_
  have x14:Ext w W14:=Ext.tr x13 e14
  refine Qaj (ints .u8 (List.replicate 32 0)) 23 11 rfl kj kj fun g22 W15 l22 e15 r22_15=>?_
  have x15:Ext w W15:=Ext.tr x14 e15
  have b22:w.heap.size≤g22:=qT x14.size l22
  refine Qak g22 _ (ints .u8 (resV ((s.take 32)++p++t))) 23 r22_15 rfl kj (Qai 23 _ _ g22 23 _ _ r22_15 rfl kj kj (isz (n:=32) kj ((Qaf _ _).trans (Qc8 _))) (eqsz (n:=32) ((Qaf _ _).trans (qZ (n:=32))) ((Qaf _ _).trans (Qc8 _))) (ints_one _ _)) fun W16 p16 r22_16=>?_
  have x16:Ext w W16:=Puts.ext p16 x15 b22
  refine Qae ?_
  refine hK20 _ _ ?_
  refine wp_seq_k fun K23 hK23=>?_
  refine QaK 11 [⟨none,[]⟩,⟨none,[(8,none)]⟩,⟨none,[(33,some 0),(34,some 1)]⟩,⟨none,[(9,none)]⟩,⟨none,[(11,none)]⟩,⟨none,[(36,some 3),(37,some 4)]⟩,⟨none,[(38,some 5)]⟩,⟨none,[(35,some 2),(39,some 6)]⟩,⟨none,[(40,some 7)]⟩,⟨none,[(7,none)]⟩,⟨none,[(41,some 8),(42,some 9)]⟩] kj kj fun F hF=>?_
  refine Qar (.agg (Field.ptA (BP))) 20 #[] kj kj (fun W=>kj) (fun W hR=>Field.ptBase W tX (hT.ext (Rely.Ext.trans (Rely.Ext.trans x16 (Qah _)) hR)).x tY (hT.ext (Rely.Ext.trans (Rely.Ext.trans x16 (Qah _)) hR)).y) ?_
  have r7_9:=(Qaa r7_8_13 e9)
  have r7_10:=(Qaa r7_9 e10)
  have r7_11:=(Qaa r7_10 e11)
  have r7_12:=(Puts.row p12 r7_11 (Qad r7_10 l17))
  have r7_13:=(Qaa r7_12 e13)
  have r7_14:=(Qaa r7_13 e14)
  have r7_15:=(Qaa r7_14 e15)
  have r7_16:=(Puts.row p16 r7_15 (Qad r7_14 l22))
  refine Qao (.agg (ints .u8 (s.drop 32))) kj kj (fun W hR=>(Qag 23 _ g7 23 _ _ (Qaa (Qaa r7_16 (Qah _)) hR) rfl kj kj (isz (n:=32) kj ((Qaf _ _).trans (Qby hs))))) ?_
  refine Qar (.agg (Field.ptA (pa (s.drop 32)))) 21 #[.agg (Field.ptA (BP)),.agg (ints .u8 (s.drop 32))] kj kj (fun W=>kj) (fun W hR=>Field.ptTimes QbT (s.drop 32) (Qby hs) (Qe7 hsb 32) W tB (hT.ext (Rely.Ext.trans (Rely.Ext.trans x16 (Qah _)) hR)).b) ?_
  have r17_13:=(Qaa r17_12 e13)
  have r17_14:=(Qaa r17_13 e14)
  have r17_15:=(Qaa r17_14 e15)
  have r17_16:=(Puts.row p16 r17_15 (Qad r17_14 l22))
  refine Qao (.agg (Field.ptA ((xK p,zK p)))) kj kj (fun W hR=>(Qag 51 _ g17 51 _ _ (Qaa (Qaa r17_16 (Qah _)) hR) rfl kj kj (isz (n:=8) kj kj))) ?_
  refine Qao (.agg (ints .u8 (resV ((s.take 32)++p++t)))) kj kj (fun W hR=>(Qag 23 _ g22 23 _ _ (Qaa (Qaa r22_16 (Qah _)) hR) rfl kj kj (isz (n:=32) kj ((Qaf _ _).trans (Qc8 _))))) ?_
  refine Qar (.agg (Field.ptA (mulP p (resV ((s.take 32)++p++t))))) 21 #[.agg (Field.ptA ((xK p,zK p))),.agg (ints .u8 (resV ((s.take 32)++p++t)))] kj kj (fun W=>kj) (fun W hR=>Field.ptTimes (Field.K_onP p) (resV ((s.take 32)++p++t)) (Qc8 ((s.take 32)++p++t)) (QdH ((s.take 32)++p++t)) W tB (hT.ext (Rely.Ext.trans (Rely.Ext.trans x16 (Qah _)) hR)).b) ?_
  refine Qar (.agg (Field.ptA (pNeg (mulP p (resV ((s.take 32)++p++t)))))) 36 #[.agg (Field.ptA (mulP p (resV ((s.take 32)++p++t))))] kj kj (fun W=>kj) (fun W hR=>Field.ptNeg (QcT p (resV ((s.take 32)++p++t))) W) ?_
  refine Qar (.agg (Field.ptA (pAdd (pa (s.drop 32)) (pNeg (mulP p (resV ((s.take 32)++p++t))))))) 35 #[.agg (Field.ptA (pa (s.drop 32))),.agg (Field.ptA (pNeg (mulP p (resV ((s.take 32)++p++t)))))] kj kj (fun W=>kj) (fun W hR=>Field.ptAdd (Qdl (s.drop 32)) (Field.pNeg_on (QcT p (resV ((s.take 32)++p++t)))) W tB (hT.ext (Rely.Ext.trans (Rely.Ext.trans x16 (Qah _)) hR)).b) ?_
  refine Qar (.agg (ints .u8 (encP (pAdd (pa (s.drop 32)) (pNeg (mulP p (resV ((s.take 32)++p++t)))))))) 22 #[.agg (Field.ptA (pAdd (pa (s.drop 32)) (pNeg (mulP p (resV ((s.take 32)++p++t))))))] kj kj (fun W=>kj) (fun W hR=>Field.ptBytes (Field.pAdd_on (Qdl (s.drop 32)) (Field.pNeg_on (QcT p (resV ((s.take 32)++p++t))))) W) ?_
  have r6_13:=(Qaa r6_12 e13)
  have r6_14:=(Qaa r6_13 e14)
  have r6_15:=(Qaa r6_14 e15)
  have r6_16:=(Puts.row p16 r6_15 (Qad r6_14 l22))
  refine Qao (.agg (ints .u8 (s.take 32))) kj kj (fun W hR=>(Qag 23 _ g6 23 _ _ (Qaa (Qaa r6_16 (Qah _)) hR) rfl kj kj (isz (n:=32) kj ((Qaf _ _).trans (Qbw hs))))) ?_
  refine Qa0 (.bool (decide (encP (pAdd (pa (s.drop 32)) (pNeg (mulP p (resV ((s.take 32)++p++t)))))=s.take 32))) kj kj (fun W=>(QcR 23 _ _ _ _ _ (.bool (decide (encP (pAdd (pa (s.drop 32)) (pNeg (mulP p (resV ((s.take 32)++p++t)))))=s.take 32))) rfl kj kj kj (Field.key_eql (encP (pAdd (pa (s.drop 32)) (pNeg (mulP p (resV ((s.take 32)++p++t)))))) (s.take 32) (decide (encP (pAdd (pa (s.drop 32)) (pNeg (mulP p (resV ((s.take 32)++p++t)))))=s.take 32)) (Qbm _) (Qbw hs) rfl _))) ?_
  refine Qa9 (hF _ kj fun W17 e17=>?_)
  simp only [ups,up,Kn.val,List.take_succ_cons,List.take_zero,List.drop_succ_cons,List.drop_zero,List.nil_append,List.cons_append]
  clear hF
  have x17:Ext w W17:=Ext.tr x16 e17
  refine Qab (.bool (decide (encP (pAdd (pa (s.drop 32)) (pNeg (mulP p (resV ((s.take 32)++p++t)))))=s.take 32))) 6 rfl kj kj ?_
  refine Qae ?_
  refine hK23 _ _ ?_
  refine wp_ret ?_
  repeat (first | with_reducible refine goR1 ?_ | with_reducible refine goR2 ?_)
  exact (show bodyPost _ _ _ .ret _ _ from ret1 (.bool (decide (encP (pAdd (pa (s.drop 32)) (pNeg (mulP p (resV ((s.take 32)++p++t)))))=s.take 32))) rfl (Qbr kj) ⟨rfl,x17⟩)
theorem QjK (p s:List Int) (hp:p.length=32) (hpb:Qal p) (hs:s.length=64) (hsb:Qal s) (gp n:Nat) (Tp:TypeId) (ps:List (Value×List Int)) (hn:ps.length=n) (hn9:n≤1000) (hone:∀ u∈ps.map Prod.fst,u.oneCell'=true) (tc tq tO tB tX tY:TypeId) (w:World) (hT:Tabs tc tq tO tB tX tY w) (hrow:w.heap[gp]? = some (.cells (ps.map Prod.fst).toArray Tp)) (hps:∀ p∈ps,RdK .u8 w.heap.size p.2 p.1 w∧Qal p.2) (t:List Int) (ht:(ps.map Prod.snd).flatten=t) (hlen:t.length≤100000):Calls Tryd.prog 16 #[.agg (ints .u8 p),.agg (ints .u8 s),.slice (some ⟨gp,0,none⟩) n n] w (Ret w (.bool (verV p s t))):=by
  unfold verV
  cases hc:canV (s.drop 32)
  · exact Qna p s hp hpb hs hsb hc gp n Tp ps hn hn9 hone tc tq tO tB tX tY w hT hrow hps t ht hlen
  · cases ho:okK p
    · exact QmZ p s hp hpb hs hsb hc ho gp n Tp ps hn hn9 hone tc tq tO tB tX tY w hT hrow hps t ht hlen
    · unfold eqV
      exact Qlm p s hp hpb hs hsb hc ho gp n Tp ps hn hn9 hone tc tq tO tB tX tY w hT hrow hps t ht hlen
end Go.Proofs.YtdoadngmgmdlbaaDoor.Sgn
end
section
namespace Go.Proofs.YtdoadngmgmdlbaaDoor.Sgn
open Go Go.RowKit
open Rely Auto Own
structure OncU (base n : Nat) (ys : List Int) (W W' : World) : Prop where
  os:W'.os=W.os
  tape:W'.tape=W.tape
  output:W'.output=W.output
  size:W.heap.size≤W'.heap.size
  block:∀ g,g<W.heap.size→W'.heap[g]? = W.heap[g]?∨(base≤g∧∃ cs cs',W.heap[g]? = some (.cells cs 5)∧W'.heap[g]? = some (.cells cs' 5)∧cs'.size=cs.size∧∀ i,cs'[i]? = cs[i]?∨(n≤i∧cs'[i]? = some (.int .u8 (nth ys (i-n)))))
theorem OncU.refl (base n:Nat) (ys:List Int) (W:World):OncU base n ys W W:=⟨rfl,rfl,rfl,qR _,fun _ _=>.inl rfl⟩
theorem OncU.trans {base n:Nat} {ys:List Int} {a b c:World} (h:OncU base n ys a b) (k:OncU base n ys b c):OncU base n ys a c:=by
  refine ⟨k.os.trans h.os,k.tape.trans h.tape,k.output.trans h.output,qT h.size k.size,fun g hg=>?_⟩
  rcases k.block g (qL hg h.size) with h2 | ⟨hb,cs,cs',r1,r2,r3,r4⟩
  · rw [h2]; exact h.block g hg
  · rcases h.block g hg with h1 | ⟨_,ds,ds',s1,s2,s3,s4⟩
    · exact .inr ⟨hb,cs,cs',h1▸r1,r2,r3,r4⟩
    · rw [s2] at r1
      simp only [Option.some.injEq,Obj.cells.injEq,and_true,true_and] at r1
      obtain rfl:=r1
      refine .inr ⟨hb,ds,cs',s1,r2,r3.trans s3,fun i=>?_⟩
      rcases r4 i with r | ⟨r,r'⟩
      · rw [r]; exact s4 i
      · exact .inr ⟨r,r'⟩
theorem OncU.ext {base n:Nat} {ys:List Int} {a b:World} (e:Ext a b):OncU base n ys a b:=⟨e.os,e.tape,e.output,e.size,fun g hg=>.inl (e.block g hg)⟩
theorem OncU.low {n : Nat} {ys:List Int} {w0 W:World} (h:OncU w0.heap.size n ys w0 W):Ext w0 W :=
  ⟨h.os,h.tape,h.output,h.size,fun g hg=>by
    rcases h.block g hg with h | ⟨hb,_⟩
    · exact h
    · omega⟩
end Go.Proofs.YtdoadngmgmdlbaaDoor.Sgn
end
section
namespace Go.Proofs.YtdoadngmgmdlbaaDoor.Sgn
open Go Go.RowKit
open Rely Auto Own Sha5
open Ladder (clamp)
open Field (Qap resN numA num lims QbV ordL Qbv QbB QbA QaZ encP Qbm pa Qdl pAdd pNeg mulP QcT okK xK zK lK mulR BP QbT numB nmul OnP QcE)
theorem verE {p s t:List Int} {b:Bool} (e:verV p s t=b) {P:Program} {f:FuncId} {args:Array Value} {w:World} (h:Calls P f args w (Ret w (.bool (verV p s t)))):Calls P f args w (Ret w (.bool b)):=by rw [e] at h; exact h
theorem QmN : k7.length=32:=rfl
theorem QiF : Qal k7:=by unfold Qal; decide
theorem Qm8 : Qal [97,98]:=by unfold Qal; decide
theorem Qo6 : Qal [97]:=by unfold Qal; decide
theorem QkZ : Qal [98]:=by unfold Qal; decide
theorem Qo4 (tc tq tO tB tX tY:TypeId) (w:World) (hT:Tabs tc tq tO tB tX tY w):Calls Tryd.prog 9 #[] w (Ret w (.bool true)):=by
  refine enter 27 [] Tryd.func9 rfl rfl kj rfl ?_
  refine wp_seq_k fun K1 hK1=>?_
  refine Qac ?_
  refine Qab (.bool false) 0 rfl kj kj ?_
  refine Qae ?_
  refine hK1 _ _ ?_
  refine wp_seq_k fun K2 hK2=>?_
  refine Qac ?_
  refine Qab (.agg (ints .u8 (k7))) 3 rfl kj kj ?_
  refine Qat (.agg (ints .u8 (pubV k7))) 10 #[.agg (ints .u8 (k7))] 4 rfl kj kj (Qkg k7 QmN QiF tc tq tO tB tX tY _ (hT.ext (Rely.Ext.refl w))) fun W1 e1=>?_
  have x1:Ext w W1:=Ext.tr (Rely.Ext.refl w) e1
  refine Qaj (ints .u8 (List.replicate 32 0)) 23 1 rfl kj kj fun g3 W2 l3 e2 r3_2=>?_
  have x2:Ext w W2:=Ext.tr x1 e2
  have b3:w.heap.size≤g3:=qT x1.size l3
  refine Qak g3 _ (ints .u8 (pubV k7)) 23 r3_2 rfl kj (Qai 23 _ _ g3 23 _ _ r3_2 rfl kj kj (isz (n:=32) kj ((Qaf _ _).trans (Qcg k7))) (eqsz (n:=32) ((Qaf _ _).trans (qZ (n:=32))) ((Qaf _ _).trans (Qcg k7))) (ints_one _ _)) fun W3 p3 r3_3=>?_
  have x3:Ext w W3:=Puts.ext p3 x2 b3
  refine Qae ?_
  refine hK2 _ _ ?_
  refine wp_seq_k fun K4 hK4=>?_
  refine Qac ?_
  refine Qab (.agg (ints .u8 (k7))) 5 rfl kj kj ?_
  refine QaT (ints .u8 ([97])) 5 1 6 rfl kj kj fun g5 W4 l5 e4 r5_4=>?_
  have x4:Ext w W4:=Ext.tr x3 e4
  have b5:w.heap.size≤g5:=qT x3.size l5
  refine Qet (xs:=[97]) 27 5 (.tmp 6) 7 rfl rfl kj kj kj kj rfl (show 1≤maxLen by decide) r5_4 fun W5 p5 r5_5 rd6=>?_
  have x5:Ext w W5:=Puts.ext p5 x4 b5
  refine QaT (ints .u8 ([98])) 5 1 8 rfl kj kj fun g7 W6 l7 e6 r7_6=>?_
  have x6:Ext w W6:=Ext.tr x5 e6
  have b7:w.heap.size≤g7:=qT x5.size l7
  refine Qet (xs:=[98]) 27 5 (.tmp 8) 9 rfl rfl kj kj kj kj rfl (show 1≤maxLen by decide) r7_6 fun W7 p7 r7_7 rd8=>?_
  have x7:Ext w W7:=Puts.ext p7 x6 b7
  refine QaT (#[.slice (some ⟨g5,0,none⟩) 1 1,.slice (some ⟨g7,0,none⟩) 1 1]) 27 2 10 rfl kj kj fun g9 W8 l9 e8 r9_8=>?_
  have x8:Ext w W8:=Ext.tr x7 e8
  have b9:w.heap.size≤g9:=qT x7.size l9
  have f10_6:=(rd6.ext e6)
  have f11_7:=(RdK.putsP f10_6 p7 (.inr (fun e=>(Qad r5_5 l7) (Option.some.inj e))))
  have f12_8:=(f11_7.ext e8)
  have f13_8:=(rd8.ext e8)
  have hps14:∀ p∈([(.slice (some ⟨g5,0,none⟩) 1 1,[97]),(.slice (some ⟨g7,0,none⟩) 1 1,[98])]:List (Value×List Int)),RdK .u8 W8.heap.size p.2 p.1 W8∧Qal p.2:=by
    intro p hp
    simp only [List.mem_cons,List.not_mem_nil,or_false] at hp
    rcases hp with rfl | rfl
    · exact ⟨RdK.here f12_8,Qo6⟩
    · exact ⟨RdK.here f13_8,QkZ⟩
  have hone14:∀ u∈([(.slice (some ⟨g5,0,none⟩) 1 1,[97]),(.slice (some ⟨g7,0,none⟩) 1 1,[98])]:List (Value×List Int)).map Prod.fst,u.oneCell'=true:=by
    intro u hu
    simp only [List.map_cons,List.map_nil,List.mem_cons,List.not_mem_nil,or_false] at hu
    rcases hu with rfl | rfl <;> rfl
  refine Qat (.agg (ints .u8 (sigV k7 ([97,98])))) 13 #[.agg (ints .u8 (k7)),.slice (some ⟨g9,0,none⟩) 2 2] 11 rfl kj kj (QpS k7 QmN QiF g9 2 _ ([(.slice (some ⟨g5,0,none⟩) 1 1,[97]),(.slice (some ⟨g7,0,none⟩) 1 1,[98])]:List (Value×List Int)) rfl (by decide) hone14 tc tq tO tB tX tY _ (hT.ext x8) r9_8 hps14 ([97,98]) rfl (by decide)) fun W9 e9=>?_
  have x9:Ext w W9:=Ext.tr x8 e9
  refine Qaj (ints .u8 (List.replicate 64 0)) 30 2 rfl kj kj fun g15 W10 l15 e10 r15_10=>?_
  have x10:Ext w W10:=Ext.tr x9 e10
  have b15:w.heap.size≤g15:=qT x9.size l15
  refine Qak g15 _ (ints .u8 (sigV k7 ([97,98]))) 30 r15_10 rfl kj (Qai 30 _ _ g15 30 _ _ r15_10 rfl kj kj (isz (n:=64) kj ((Qaf _ _).trans (Qc6 k7 ([97,98])))) (eqsz (n:=64) ((Qaf _ _).trans (qZ (n:=64))) ((Qaf _ _).trans (Qc6 k7 ([97,98])))) (ints_one _ _)) fun W11 p11 r15_11=>?_
  have x11:Ext w W11:=Puts.ext p11 x10 b15
  refine Qae ?_
  refine hK4 _ _ ?_
  refine wp_seq_k fun K16 hK16=>?_
  refine Qac ?_
  have r3_4:=(Qaa r3_3 e4)
  have r3_5:=(Puts.row p5 r3_4 (Qad r3_3 l5))
  have r3_6:=(Qaa r3_5 e6)
  have r3_7:=(Puts.row p7 r3_6 (Qad r3_5 l7))
  have r3_8:=(Qaa r3_7 e8)
  have r3_9:=(Qaa r3_8 e9)
  have r3_10:=(Qaa r3_9 e10)
  have r3_11:=(Puts.row p11 r3_10 (Qad r3_9 l15))
  refine Qab (.agg (ints .u8 (pubV k7))) 12 rfl kj (Qag 23 _ g3 23 _ _ r3_11 rfl kj kj (isz (n:=32) kj ((Qaf _ _).trans (Qcg k7)))) ?_
  refine Qab (.agg (ints .u8 (sigV k7 ([97,98])))) 13 rfl kj (Qag 30 _ g15 30 _ _ r15_11 rfl kj kj (isz (n:=64) kj ((Qaf _ _).trans (Qc6 k7 ([97,98]))))) ?_
  refine QaT (ints .u8 ([97,98])) 5 2 14 rfl kj kj fun g17 W12 l17 e12 r17_12=>?_
  have x12:Ext w W12:=Ext.tr x11 e12
  have b17:w.heap.size≤g17:=qT x11.size l17
  refine Qet (xs:=[97,98]) 27 5 (.tmp 14) 15 rfl rfl kj kj kj kj rfl (show 2≤maxLen by decide) r17_12 fun W13 p13 r17_13 rd18=>?_
  have x13:Ext w W13:=Puts.ext p13 x12 b17
  refine QaT (#[.slice (some ⟨g17,0,none⟩) 2 2]) 27 1 16 rfl kj kj fun g19 W14 l19 e14 r19_14=>?_
  have x14:Ext w W14:=Ext.tr x13 e14
  have b19:w.heap.size≤g19:=qT x13.size l19
  have f20_14:=(rd18.ext e14)
  have hps21:∀ p∈([(.slice (some ⟨g17,0,none⟩) 2 2,[97,98])]:List (Value×List Int)),RdK .u8 W14.heap.size p.2 p.1 W14∧Qal p.2:=by
    intro p hp
    simp only [List.mem_cons,List.not_mem_nil,or_false] at hp
    rcases hp with rfl
    · exact ⟨RdK.here f20_14,Qm8⟩
  have hone21:∀ u∈([(.slice (some ⟨g17,0,none⟩) 2 2,[97,98])]:List (Value×List Int)).map Prod.fst,u.oneCell'=true:=by
    intro u hu
    simp only [List.map_cons,List.map_nil,List.mem_cons,List.not_mem_nil,or_false] at hu
    rcases hu with rfl <;> rfl
  refine Qat (.bool true) 16 #[.agg (ints .u8 (pubV k7)),.agg (ints .u8 (sigV k7 ([97,98]))),.slice (some ⟨g19,0,none⟩) 1 1] 17 rfl kj kj (verE (Qnb k7 [97,98]) (QjK (pubV k7) (sigV k7 ([97,98])) (Qcg k7) (QeH k7) (Qc6 k7 ([97,98])) (QfT k7 ([97,98])) g19 1 _ ([(.slice (some ⟨g17,0,none⟩) 2 2,[97,98])]:List (Value×List Int)) rfl (by decide) hone21 tc tq tO tB tX tY _ (hT.ext x14) r19_14 hps21 ([97,98]) rfl (by decide))) fun W15 e15=>?_
  have x15:Ext w W15:=Ext.tr x14 e15
  refine Qab (.bool true) 18 rfl kj kj ?_
  have r3_12:=(Qaa r3_11 e12)
  have r3_13:=(Puts.row p13 r3_12 (Qad r3_11 l17))
  have r3_14:=(Qaa r3_13 e14)
  have r3_15:=(Qaa r3_14 e15)
  refine Qab (.agg (ints .u8 (pubV k7))) 19 rfl kj (Qag 23 _ g3 23 _ _ r3_15 rfl kj kj (isz (n:=32) kj ((Qaf _ _).trans (Qcg k7)))) ?_
  have r15_12:=(Qaa r15_11 e12)
  have r15_13:=(Puts.row p13 r15_12 (Qad r15_11 l17))
  have r15_14:=(Qaa r15_13 e14)
  have r15_15:=(Qaa r15_14 e15)
  refine Qab (.agg (ints .u8 (sigV k7 ([97,98])))) 20 rfl kj (Qag 30 _ g15 30 _ _ r15_15 rfl kj kj (isz (n:=64) kj ((Qaf _ _).trans (Qc6 k7 ([97,98]))))) ?_
  refine QaT (ints .u8 ([98])) 5 1 21 rfl kj kj fun g22 W16 l22 e16 r22_16=>?_
  have x16:Ext w W16:=Ext.tr x15 e16
  have b22:w.heap.size≤g22:=qT x15.size l22
  refine Qet (xs:=[98]) 27 5 (.tmp 21) 22 rfl rfl kj kj kj kj rfl (show 1≤maxLen by decide) r22_16 fun W17 p17 r22_17 rd23=>?_
  have x17:Ext w W17:=Puts.ext p17 x16 b22
  refine QaT (#[.slice (some ⟨g22,0,none⟩) 1 1]) 27 1 23 rfl kj kj fun g24 W18 l24 e18 r24_18=>?_
  have x18:Ext w W18:=Ext.tr x17 e18
  have b24:w.heap.size≤g24:=qT x17.size l24
  have f25_18:=(rd23.ext e18)
  have hps26:∀ p∈([(.slice (some ⟨g22,0,none⟩) 1 1,[98])]:List (Value×List Int)),RdK .u8 W18.heap.size p.2 p.1 W18∧Qal p.2:=by
    intro p hp
    simp only [List.mem_cons,List.not_mem_nil,or_false] at hp
    rcases hp with rfl
    · exact ⟨RdK.here f25_18,QkZ⟩
  have hone26:∀ u∈([(.slice (some ⟨g22,0,none⟩) 1 1,[98])]:List (Value×List Int)).map Prod.fst,u.oneCell'=true:=by
    intro u hu
    simp only [List.map_cons,List.map_nil,List.mem_cons,List.not_mem_nil,or_false] at hu
    rcases hu with rfl <;> rfl
  refine Qat (.bool false) 16 #[.agg (ints .u8 (pubV k7)),.agg (ints .u8 (sigV k7 ([97,98]))),.slice (some ⟨g24,0,none⟩) 1 1] 24 rfl kj kj (verE ver7 (QjK (pubV k7) (sigV k7 ([97,98])) (Qcg k7) (QeH k7) (Qc6 k7 ([97,98])) (QfT k7 ([97,98])) g24 1 _ ([(.slice (some ⟨g22,0,none⟩) 1 1,[98])]:List (Value×List Int)) rfl (by decide) hone26 tc tq tO tB tX tY _ (hT.ext x18) r24_18 hps26 ([98]) rfl (by decide))) fun W19 e19=>?_
  have x19:Ext w W19:=Ext.tr x18 e19
  refine Qab (.bool true) 25 rfl kj kj ?_
  refine Qab (.bool true) 26 rfl kj kj ?_
  refine Qab (.bool true) 0 rfl kj kj ?_
  refine Qae ?_
  refine hK16 _ _ ?_
  refine wp_ret ?_
  repeat (first | with_reducible refine goR1 ?_ | with_reducible refine goR2 ?_)
  exact (show bodyPost _ _ _ .ret _ _ from ret1 (.bool true) rfl (Qbr kj) ⟨rfl,x19⟩)
end Go.Proofs.YtdoadngmgmdlbaaDoor.Sgn
end
section
namespace Go.Proofs.YtdoadngmgmdlbaaDoor.Sgn
open Go Go.RowKit
open Rely Auto Own Sha5
open Ladder (clamp)
open Field (Qap resN numA num lims QbV ordL Qbv QbB QbA QaZ encP Qbm pa Qdl pAdd pNeg mulP QcT okK xK zK lK mulR BP QbT numB nmul OnP QcE)
def w3A (A : Field.W3):Array Value:=cat [ints .i64 (lims A.1),ints .i64 (lims A.2.1),ints .i64 (lims A.2.2)]
structure R3 (A : Field.W3) (P : Int × Int) : Prop where
  is:Field.isW3 A
  rep:Field.RepR' A P
  on:OnP P
@[irreducible] def rT (A : Field.W3) (ks : List Int) : Field.W3 := Field.rruns A Field.Z0 ks 0
def bA : Field.W3:=(Field.bxN,Field.byN,1)
theorem R3.of {P : Int×Int} (h:OnP P):R3 (P.1,P.2,1) P:=⟨⟨h.x,h.y,Field.num_isN 1⟩,Field.rE_rep h,h⟩
theorem Qkc : R3 bA BP:=R3.of QbT
theorem R3.times {A : Field.W3} {P:Int×Int} (h:R3 A P) (ks:List Int):R3 (rT A ks) (Field.climbP P (Field.bitsB ks)):=by
  unfold rT
  rw [Field.rruns_full]
  exact ⟨Field.rrun_is h.is _ ⟨Field.num_isN 0,Field.num_isN 1,Field.num_isN 1⟩,Field.rrun_rep h.on h.rep (Field.bitsB ks) Field.pZero_on Field.Z0_rep,Field.climbP_on h.on _⟩
theorem R3.add {A B:Field.W3} {P Q:Int×Int} (h:R3 A P) (k:R3 B Q):R3 (Field.rad A B) (pAdd P Q):=⟨Field.rad_is h.is k.is,Field.rad_rep h.on k.on h.rep k.rep,Field.pAdd_on h.on k.on⟩
theorem Qnr {A : Field.W3} {P:Int×Int} (h:R3 A P) (ks:List Int) (hk:ks.length=32) (hkb:Qal ks) (w:World):Calls Tryd.prog 26 #[.agg (w3A A),.agg (ints .u8 ks)] w (Ret w (.agg (w3A (rT A ks)))):=by
  unfold rT
  exact Field.rtimesC A h.is ks hk hkb w
theorem Qns {A : Field.W3} {P:Int×Int} (h:R3 A P) (w:World):Calls Tryd.prog 25 #[.agg (w3A A)] w (Ret w (.agg (ints .u8 (encP P)))):=by
  have c:=Field.rbytesC _ _ _ h.is.1 h.is.2.1 h.is.2.2 w
  have r:=h.rep
  have ex:A.1*Field.invN A.2.2%Field.p=P.1:=by rw [r.hx]; exact Field.rep_out r.n r.z h.on.x
  have ey:A.2.1*Field.invN A.2.2%Field.p=P.2:=by rw [r.hy]; exact Field.rep_out r.n r.z h.on.y
  rw [ex,ey] at c
  exact c
theorem from_bx (w : World):Calls Tryd.prog 60 #[.agg (ints .u8 QbB)] w (Ret w (.agg (ints .i64 (lims Field.bxN)))):=by rw [←Field.key_bx]; exact Field.lFrom QbB rfl Field.baseX_bytes w
theorem from_by (w : World):Calls Tryd.prog 60 #[.agg (ints .u8 QbA)] w (Ret w (.agg (ints .i64 (lims Field.byN)))):=by rw [←Field.key_by]; exact Field.lFrom QbA rfl Field.baseY_bytes w
theorem bitsS (bs : List Int) (v:Value) (B:Nat) (w:World) (hn:bs.length≤1000) (hb:Qal bs) (hr:RdK .u8 B bs v w):Calls Tryd.prog 38 #[v] w (Ret w (.agg (ints .u8 (Qap (resN bs))))):=by
  obtain ⟨a,cap,rfl,h1,h2,h3,h4⟩:=hr
  refine Field.bitsC a bs.length cap bs rfl hn hb w ?_
  rcases h4 with h4 | ⟨g,o,e1,_,e3,e4⟩
  · exact .inl (by rw [h4]; rfl)
  · exact .inr ⟨g,o,e1,e3,e4⟩
theorem QpB (xs : List Int) (w:World):Calls Tryd.prog 28 #[.agg (ints .u8 ((dig xs).take 32))] w (Ret w (.agg (ints .u8 (secV xs)))):=by
  unfold secV
  exact Ladder.refClampC _ (Qbw (dig_len xs)) (Qfd (dig_bytes xs)) w
theorem QoZ (w : World):Calls Tryd.prog 27 #[] w (Ret w (.agg (w3A bA))):=by
  refine enter 7 [] Tryd.func27 rfl rfl kj rfl ?_
  refine wp_seq_k fun K1 hK1=>?_
  refine Qac ?_
  refine Qaj (w3A (0,0,0)) 60 0 rfl kj kj fun g2 W1 l2 e1 r2_1=>?_
  have x1:Ext w W1:=Ext.tr (Rely.Ext.refl w) e1
  have b2:w.heap.size≤g2:=qT (Rely.Ext.refl w).size l2
  refine Qae ?_
  refine hK1 _ _ ?_
  refine wp_seq_k fun K3 hK3=>?_
  refine Qac ?_
  refine Qab (.agg (ints .u8 (QbB))) 1 rfl kj kj ?_
  refine Qat (.agg (ints .i64 (lims Field.bxN))) 60 #[.agg (ints .u8 (QbB))] 2 rfl kj kj (from_bx _) fun W2 e2=>?_
  have x2:Ext w W2:=Ext.tr x1 e2
  refine Qab (.agg (ints .u8 (QbA))) 3 rfl kj kj ?_
  refine Qat (.agg (ints .i64 (lims Field.byN))) 60 #[.agg (ints .u8 (QbA))] 4 rfl kj kj (from_by _) fun W3 e3=>?_
  have x3:Ext w W3:=Ext.tr x2 e3
  refine Qab (.agg (ints .i64 (lims 1))) 5 rfl kj kj ?_
  refine Qab (.agg (w3A (bA))) 6 rfl kj kj ?_
  have r2_2:=(Qaa r2_1 e2)
  have r2_3:=(Qaa r2_2 e3)
  refine Qak g2 _ (w3A (bA)) 60 r2_3 rfl kj (Qai 60 _ _ g2 60 _ _ r2_3 rfl kj kj (isz (n:=48) kj kj) (eqsz (n:=48) kj kj) kj) fun W4 p4 r2_4=>?_
  have x4:Ext w W4:=Puts.ext p4 x3 b2
  refine Qae ?_
  refine hK3 _ _ ?_
  refine wp_ret ?_
  repeat (first | with_reducible refine goR1 ?_ | with_reducible refine goR2 ?_)
  exact (show bodyPost _ _ _ .ret _ _ from ret1 (.agg (w3A (bA))) rfl (QaC g2 60 _ r2_4 kj kj (isz (n:=48) kj kj)) ⟨rfl,x4⟩)
theorem Qlv (xs : List Int) (hx:xs.length=32) (hb:Qal xs) (w:World):Calls Tryd.prog 11 #[.agg (ints .u8 xs)] w (Ret w (.agg (ints .u8 (encP (pa (secV xs)))))):=by
  refine enter 16 [(0,.agg (ints .u8 (xs)))] Tryd.func11 rfl rfl kj rfl ?_
  refine wp_seq_k fun K1 hK1=>?_
  refine Qac ?_
  refine Qaj (ints .u8 (xs)) 23 1 rfl kj kj fun g2 W1 l2 e1 r2_1=>?_
  have x1:Ext w W1:=Ext.tr (Rely.Ext.refl w) e1
  have b2:w.heap.size≤g2:=qT (Rely.Ext.refl w).size l2
  refine Qaj (ints .u8 (List.replicate 32 0)) 23 2 rfl kj kj fun g3 W2 l3 e2 r3_2=>?_
  have x2:Ext w W2:=Ext.tr x1 e2
  have b3:w.heap.size≤g3:=qT x1.size l3
  refine Qae ?_
  refine hK1 _ _ ?_
  refine wp_seq_k fun K4 hK4=>?_
  refine Qac ?_
  refine Qab (.slice (some ⟨g2,0,none⟩) 32 32) 6 rfl kj kj ?_
  have r2_2:=(Qaa r2_1 e2)
  refine Qat (.agg (ints .u8 (dig xs))) 24 #[.slice (some ⟨g2,0,none⟩) 32 32] 7 rfl kj kj (QoV xs _ _ _ (by (try simp only [List.length_append,Qcg,Qc0,QeD,Qda,hx]); omega) hb (QcZ (xs:=xs) (n:=32) hx r2_2 (QaB r2_2) (show 32≤maxLen from by decide))) fun W3 e3=>?_
  have x3:Ext w W3:=Ext.tr x2 e3
  refine Qat (.tuple #[.agg (ints .u8 ((dig xs).take 32)),.agg (ints .u8 ((dig xs).drop 32))]) 23 #[.agg (ints .u8 (dig xs))] 8 rfl kj kj ((Qoj (dig xs) (dig_len xs)) _) fun W4 e4=>?_
  have x4:Ext w W4:=Ext.tr x3 e4
  refine Qab (.tuple #[.agg (ints .u8 ((dig xs).take 32)),.agg (ints .u8 ((dig xs).drop 32))]) 5 rfl kj kj ?_
  refine Qab (.agg (ints .u8 ((dig xs).take 32))) 9 rfl kj kj ?_
  refine Qab (.agg (ints .u8 ((dig xs).drop 32))) 10 rfl kj kj ?_
  refine Qaj (ints .u8 (List.replicate 32 0)) 23 3 rfl kj kj fun g5 W5 l5 e5 r5_5=>?_
  have x5:Ext w W5:=Ext.tr x4 e5
  have b5:w.heap.size≤g5:=qT x4.size l5
  refine Qaj (ints .u8 (List.replicate 32 0)) 23 4 rfl kj kj fun g6 W6 l6 e6 r6_6=>?_
  have x6:Ext w W6:=Ext.tr x5 e6
  have b6:w.heap.size≤g6:=qT x5.size l6
  have r5_6:=(Qaa r5_5 e6)
  refine Qak g5 _ (ints .u8 ((dig xs).take 32)) 23 r5_6 rfl kj (Qai 23 _ _ g5 23 _ _ r5_6 rfl kj kj (isz (n:=32) kj ((Qaf _ _).trans (Qbw (dig_len xs)))) (eqsz (n:=32) ((Qaf _ _).trans (qZ (n:=32))) ((Qaf _ _).trans (Qbw (dig_len xs)))) (ints_one _ _)) fun W7 p7 r5_7=>?_
  have x7:Ext w W7:=Puts.ext p7 x6 b5
  have r6_7:=(Puts.row p7 r6_6 (Qau r5_5 l6))
  refine Qak g6 _ (ints .u8 ((dig xs).drop 32)) 23 r6_7 rfl kj (Qai 23 _ _ g6 23 _ _ r6_7 rfl kj kj (isz (n:=32) kj ((Qaf _ _).trans (Qby (dig_len xs)))) (eqsz (n:=32) ((Qaf _ _).trans (qZ (n:=32))) ((Qaf _ _).trans (Qby (dig_len xs)))) (ints_one _ _)) fun W8 p8 r6_8=>?_
  have x8:Ext w W8:=Puts.ext p8 x7 b6
  refine Qae ?_
  refine hK4 _ _ ?_
  refine wp_seq_k fun K7 hK7=>?_
  refine QaK 5 [⟨none,[]⟩,⟨none,[(3,none)]⟩,⟨none,[(12,some 1)]⟩,⟨none,[(11,some 0),(13,some 2)]⟩,⟨none,[(14,some 3)]⟩] kj kj fun F hF=>?_
  refine Qar (.agg (w3A (bA))) 27 #[] kj kj (fun W=>kj) (fun W hR=>QoZ W) ?_
  have r5_8:=(Puts.row p8 r5_7 (Qad r5_5 l6))
  refine Qao (.agg (ints .u8 ((dig xs).take 32))) kj kj (fun W hR=>(Qag 23 _ g5 23 _ _ (Qaa (Qaa r5_8 (Qah _)) hR) rfl kj kj (isz (n:=32) kj ((Qaf _ _).trans (Qbw (dig_len xs)))))) ?_
  refine Qar (.agg (ints .u8 (secV xs))) 28 #[.agg (ints .u8 ((dig xs).take 32))] kj kj (fun W=>kj) (fun W hR=>QpB xs W) ?_
  refine Qar (.agg (w3A (rT bA (secV xs)))) 26 #[.agg (w3A (bA)),.agg (ints .u8 (secV xs))] kj kj (fun W=>kj) (fun W hR=>Qnr Qkc (secV xs) (Qcf xs) (QcO xs) W) ?_
  refine Qar (.agg (ints .u8 (encP (pa (secV xs))))) 25 #[.agg (w3A (rT bA (secV xs)))] kj kj (fun W=>kj) (fun W hR=>Qns (R3.times Qkc (secV xs)) W) ?_
  refine Qa9 (hF _ kj fun W9 e9=>?_)
  simp only [ups,up,Kn.val,List.take_succ_cons,List.take_zero,List.drop_succ_cons,List.drop_zero,List.nil_append,List.cons_append]
  clear hF
  have x9:Ext w W9:=Ext.tr x8 e9
  have r3_3:=(Qaa r3_2 e3)
  have r3_4:=(Qaa r3_3 e4)
  have r3_5:=(Qaa r3_4 e5)
  have r3_6:=(Qaa r3_5 e6)
  have r3_7:=(Puts.row p7 r3_6 (Qad r3_4 l5))
  have r3_8:=(Puts.row p8 r3_7 (Qad r3_5 l6))
  have r3_9:=(Qaa r3_8 e9)
  refine Qak g3 _ (ints .u8 (encP (pa (secV xs)))) 23 r3_9 rfl kj (Qai 23 _ _ g3 23 _ _ r3_9 rfl kj kj (isz (n:=32) kj ((Qaf _ _).trans (Qbm _))) (eqsz (n:=32) ((Qaf _ _).trans (qZ (n:=32))) ((Qaf _ _).trans (Qbm _))) (ints_one _ _)) fun W10 p10 r3_10=>?_
  have x10:Ext w W10:=Puts.ext p10 x9 b3
  refine Qae ?_
  refine hK7 _ _ ?_
  refine wp_ret ?_
  repeat (first | with_reducible refine goR1 ?_ | with_reducible refine goR2 ?_)
  exact (show bodyPost _ _ _ .ret _ _ from ret1 (.agg (ints .u8 (encP (pa (secV xs))))) rfl (QaC g3 23 _ r3_10 kj kj (isz (n:=32) kj ((Qaf _ _).trans (Qbm _)))) ⟨rfl,x10⟩)
theorem Qlu (xs : List Int) (hx:xs.length=32) (hb:Qal xs) (w:World):Calls Tryd.prog 11 #[.agg (ints .u8 xs)] w (Ret w (.agg (ints .u8 (pubV xs)))):=by
  unfold pubV
  exact Qlv xs hx hb w
end Go.Proofs.YtdoadngmgmdlbaaDoor.Sgn
end
section
namespace Go.Proofs.YtdoadngmgmdlbaaDoor.Sgn
open Go Go.RowKit
open Rely Auto Own Sha5
open Ladder (clamp)
open Field (Qap resN numA num lims QbV ordL Qbv QbB QbA QaZ encP Qbm pa Qdl pAdd pNeg mulP QcT okK xK zK lK mulR BP QbT numB nmul OnP QcE)
theorem lawPublic (xs : List Int) (hx:xs.length=32) (hb:Qal xs) (tc tq tO tB tX tY:TypeId) (w:World) (hT:Tabs tc tq tO tB tX tY w):Calls Tryd.prog 3 #[.agg (ints .u8 xs)] w (Ret w (.bool true)):=by
  refine enter 11 [(0,.agg (ints .u8 (xs)))] Tryd.func3 rfl rfl kj rfl ?_
  refine wp_seq_k fun K1 hK1=>?_
  refine Qac ?_
  refine Qaj (ints .u8 (xs)) 23 1 rfl kj kj fun g2 W1 l2 e1 r2_1=>?_
  have x1:Ext w W1:=Ext.tr (Rely.Ext.refl w) e1
  have b2:w.heap.size≤g2:=qT (Rely.Ext.refl w).size l2
  refine Qab (.bool false) 2 rfl kj kj ?_
  refine Qae ?_
  refine hK1 _ _ ?_
  refine wp_seq_k fun K3 hK3=>?_
  refine QaK 8 [⟨none,[]⟩,⟨none,[(3,some 0)]⟩,⟨some (4,true),[(1,none),(4,some 1)]⟩,⟨some (4,true),[(5,some 2),(4,some 1)]⟩,⟨some (4,true),[(1,none),(4,some 1)]⟩,⟨some (4,true),[(7,some 4),(4,some 1)]⟩,⟨some (4,true),[(6,some 3),(8,some 5),(4,some 1)]⟩,⟨none,[(4,some 1),(9,some 6)]⟩] kj kj fun F hF=>?_
  refine Qar (.bool true) 9 #[] kj kj (fun W=>kj) (fun W hR=>Qo4 tc tq tO tB tX tY W (hT.ext (Rely.Ext.trans (Rely.Ext.trans x1 (Qah _)) hR))) ?_
  refine Qa0 (.bool true) kj kj (fun W=>kj) ?_
  refine Qao (.agg (ints .u8 (xs))) kj kj (fun W hR=>(Qag 23 _ g2 23 _ _ (Qaa (Qaa r2_1 (Qah _)) hR) rfl kj kj (isz (n:=32) kj ((Qaf _ _).trans hx)))) ?_
  refine Qar (.agg (ints .u8 (pubV xs))) 10 #[.agg (ints .u8 (xs))] kj kj (fun W=>kj) (fun W hR=>Qkg xs hx hb tc tq tO tB tX tY W (hT.ext (Rely.Ext.trans (Rely.Ext.trans x1 (Qah _)) hR))) ?_
  refine Qao (.agg (ints .u8 (xs))) kj kj (fun W hR=>(Qag 23 _ g2 23 _ _ (Qaa (Qaa r2_1 (Qah _)) hR) rfl kj kj (isz (n:=32) kj ((Qaf _ _).trans hx)))) ?_
  refine Qar (.agg (ints .u8 (pubV xs))) 11 #[.agg (ints .u8 (xs))] kj kj (fun W=>kj) (fun W hR=>Qlu xs hx hb W) ?_
  refine Qa0 (.bool true) kj kj (fun W=>(QcR 23 _ _ _ _ _ (.bool true) rfl kj kj kj (Field.key_eql (pubV xs) (pubV xs) true (Qcg xs) (Qcg xs) (decide_eq_true rfl) _))) ?_
  refine Qa0 (.bool true) kj kj (fun W=>kj) ?_
  refine Qa9 (hF _ kj fun W2 e2=>?_)
  simp only [ups,up,Kn.val,List.take_succ_cons,List.take_zero,List.drop_succ_cons,List.drop_zero,List.nil_append,List.cons_append]
  clear hF
  have x2:Ext w W2:=Ext.tr x1 e2
  refine Qab (.bool true) 2 rfl kj kj ?_
  refine Qae ?_
  refine hK3 _ _ ?_
  refine wp_ret ?_
  repeat (first | with_reducible refine goR1 ?_ | with_reducible refine goR2 ?_)
  exact (show bodyPost _ _ _ .ret _ _ from ret1 (.bool true) rfl (Qbr kj) ⟨rfl,x2⟩)
end Go.Proofs.YtdoadngmgmdlbaaDoor.Sgn
end
section
namespace Go.Proofs.YtdoadngmgmdlbaaDoor.Auto
open Go Go.RowKit
open Rely
theorem laidVars_at {P : Program} {w:World}:∀ (laid:List (String×DataW Unit)) (ps:List MemPlace) (n:String) (d:DataW Unit),DataW.LaidVars P w laid ps→(n,d)∈laid →
    ∃ g t cs fuel p,P.globalNamed n=some g∧(P.globals[g]?).map (·.type)=some t∧w.var? P n=some cs∧DataW.trod (fun _=>()) P w 0 (fun _=>true) false fuel t cs.toList=some (d,p)∧∀ x∈MemPlace.row ⟨g,0,none⟩ cs.size,x∈ps
  | [],_,_,_,_,h=>by cases h
  | (n0,d0)::r,ps,n,d,⟨g,t,cs,fuel,p,q,h1,h2,h3,h4,h5,h6⟩,h=>by
    subst h6
    rcases List.mem_cons.1 h with h | h
    · cases h
      exact ⟨g,t,cs,fuel,p,h1,h2,h3,h4,fun x hx=>List.mem_append_left _ (List.mem_append_left _ hx)⟩
    · obtain ⟨g',t',cs',fuel',p',a,b,c,e,f⟩:=laidVars_at r q n d h5 h
      exact ⟨g',t',cs',fuel',p',a,b,c,e,fun x hx=>List.mem_append_right _ (f x hx)⟩
theorem laid_row {P : Program} {w:World} {laid:List (String×DataW Unit)} {n:String} {k:IntKind} {zs:List Int} {g:Nat} {t e:TypeId} {m:Nat} (h:laidMet P laid w) (hm:(n,Lib.tabData k zs)∈laid)
    (hg:P.globalNamed n=some g) (hty:(P.globals[g]?).map (·.type)=some t) (ht:P.underlying t=some (.array m e)) (he:P.underlying e=some (.int k)) (hce:P.cellsOf e=1) (hct:P.cellsOf t=m) (h0:0<zs.length) :
    ∃ t,w.heap[g]? = some (.cells (ints k zs) t):=by
  obtain ⟨ps,hL,-,hC⟩:=h
  obtain ⟨g',t',cs,fuel,p,hg',ht',hvar,hd,hin⟩:=laidVars_at _ _ _ _ hL hm
  obtain rfl:=Option.some.inj (hg.symm.trans hg')
  obtain rfl:=Option.some.inj (hty.symm.trans ht')
  have hcs:=Lib.cells_of_tab ht he hce hct hd
  have hsz:0<cs.size:=by rw [←Array.length_toList,hcs,List.length_map]; exact h0
  obtain ⟨⟨c,t2,hc⟩,-⟩:=hC g 0 (hin _ (List.mem_map.2 ⟨0,List.mem_range.2 hsz,rfl⟩))
  unfold World.var? at hvar
  rw [hg] at hvar
  simp only [Option.bind_some,hc,Option.some.injEq] at hvar
  subst hvar
  refine ⟨t2,hc.trans ?_⟩
  rw [show c=ints k zs from by rw [ints,←hcs]]
end Go.Proofs.YtdoadngmgmdlbaaDoor.Auto
end
