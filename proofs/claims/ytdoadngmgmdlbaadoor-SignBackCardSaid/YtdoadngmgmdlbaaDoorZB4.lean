/- Texts of this claim, joined (B4). -/
import Derived.Test.YtdoadngmgmdlbaaDoorZB3
import Derived.Lib.LaidTab

set_option linter.unusedVariables false
set_option linter.unusedSimpArgs false
set_option maxHeartbeats 4000000
section
namespace Go.Proofs.YtdoadngmgmdlbaaDoor.Sgn
open Go Go.RowKit
open Rely Auto Own Sha5
open Ladder (clamp)
open Field (Qao resN numA num lims QbQ ordL Qbq QbS QbR QaP encP Qbo pa QcT pAdd pNeg mulP QcG okK xK zK lK mulR BP QbU numB nmul OnP Qc0)
theorem QnC (p : List Int) (hp:p.length=32) (hb:Qak p) (b:Bool) (ho:okK p=b) (w:World) (tB:TypeId) (hB:w.heap[2]? = some (.cells (ints .u8 Qbq) tB)):Calls Tryd.prog 34 #[.agg (ints .u8 p)] w (Ret w (.tuple #[.agg (Field.ptA (xK p,zK p)),.bool b])):=by
  have c:=Field.pfromC p hp hb w tB hB
  rw [ho,Field.lK_eq] at c
  exact c
theorem canS (s : List Int) (hs:s.length=32) (hb:Qak s) (b:Bool) (h:canV s=b) (w:World) (tO:TypeId) (hO:w.heap[3]? = some (.cells QbQ tO)):Calls Tryd.prog 33 #[.agg (ints .u8 s)] w (Ret w (.bool b)):=by
  subst h
  exact Field.residueBC s hs hb w tO hO
theorem QlE (p s:List Int) (hp:p.length=32) (hpb:Qak p) (hs:s.length=64) (hsb:Qak s) (hc:canV (s.drop 32)=false) (gp n:Nat) (Tp:TypeId) (ps:List (Value×List Int)) (hn:ps.length=n) (hn9:n≤1000) (hone:∀ u∈ps.map Prod.fst,u.oneCell'=true) (tc tq tO tB tX tY:TypeId) (w:World) (hT:Tabs tc tq tO tB tX tY w) (hrow:w.heap[gp]? = some (.cells (ps.map Prod.fst).toArray Tp)) (hps:∀ p∈ps,RdK .u8 w.heap.size p.2 p.1 w∧Qak p.2) (t:List Int) (ht:(ps.map Prod.snd).flatten=t) (hlen:t.length≤100000):Calls Tryd.prog 16 #[.agg (ints .u8 p),.agg (ints .u8 s),.slice (some ⟨gp,0,none⟩) n n] w (Ret w (.bool false)):=by
  refine enter 44 [(0,.agg (ints .u8 (p))),(1,.agg (ints .u8 (s))),(2,.slice (some ⟨gp,0,none⟩) n n)] Tryd.func16 rfl rfl kj rfl ?_
  refine wp_seq_k fun K2 hK2=>?_
  refine Qad ?_
  refine Qaj (ints .u8 (p)) 23 3 rfl kj kj fun g3 W1 l3 e1 r3_1=>?_
  have x1:Ext w W1:=Ext.tr (Rely.Ext.refl w) e1
  have b3:w.heap.size≤g3:=qT (Rely.Ext.refl w).size l3
  refine Qaj (ints .u8 (s)) 30 4 rfl kj kj fun g4 W2 l4 e2 r4_2=>?_
  have x2:Ext w W2:=Ext.tr x1 e2
  have b4:w.heap.size≤g4:=qT x1.size l4
  refine Qab (.bool false) 6 rfl kj kj ?_
  refine Qag ?_
  refine hK2 _ _ ?_
  refine wp_seq_k fun K5 hK5=>?_
  refine Qad ?_
  refine Qaj (ints .u8 (List.replicate 32 0)) 23 7 rfl kj kj fun g6 W3 l6 e3 r6_3=>?_
  have x3:Ext w W3:=Ext.tr x2 e3
  have b6:w.heap.size≤g6:=qT x2.size l6
  refine Qaj (ints .u8 (List.replicate 32 0)) 23 8 rfl kj kj fun g7 W4 l7 e4 r7_4=>?_
  have x4:Ext w W4:=Ext.tr x3 e4
  have b7:w.heap.size≤g7:=qT x3.size l7
  refine Qag ?_
  refine hK5 _ _ ?_
  refine wp_seq_k fun K8 hK8=>?_
  refine Qbb 2 [⟨none,[(7,none)]⟩,⟨none,[(4,none)]⟩] kj kj fun F hF=>?_
  refine Qbr (QaG _) (.slice (some ⟨g6,0,none⟩) 32 32) kj kj (fun W=>kj) ?_
  refine Qbr (QaG _) (.slice (some ⟨g4,0+0,none⟩) (32-0) (64-0)) kj kj (fun W=>(Qbj 30 _ _ _ 0 32 64 g4 0 5 rfl kj kj kj rfl ⟨.i64,kj⟩ (by omega) (by omega) (by omega))) ?_
  refine Qe7 (hF _ fun W5 e5=>?_)
  simp only [List.nil_append,List.cons_append,List.take_succ_cons,List.take_zero,List.drop_succ_cons,List.drop_zero,finE,up]
  clear hF
  have x5:Ext w W5:=Ext.tr x4 e5
  have r4_3:=(Qaa r4_2 e3)
  have r4_4:=(Qaa r4_3 e4)
  have r4_5:=(Qaa r4_4 e5)
  have hrd9:RdK .u8 W5.heap.size (s.take 32) (.slice (some ⟨g4,0+0,none⟩) (32-0) (64-0)) W5:=Qdi (l:=0) (h:=32) (n:=64) hs r4_5 (by decide) (by decide) (by decide)
  have r6_4:=(Qaa r6_3 e4)
  have r6_5:=(Qaa r6_4 e5)
  refine QbN (k:=.u8) (e:=5) (z:=s.take 32) (.tmp 12) (.tmp 13) 27 27 14 rfl kj kj rfl kj (off:=0) (dl:=32) (dc:=32) (n:=32) (xs:=List.replicate 32 0) kj kj hrd9 r6_5 (qT (show 0+(32)≤32 from (by omega)) (qE (qZ (n:=32)).symm)) (by rw [(Qca hs)]; rfl) fun W6 p6 r6_6=>?_
  have x6:Ext w W6:=Puts.ext p6 x5 b6
  have r6_6_10:W6.heap[g6]? = some (.cells (ints .u8 (s.take 32)) 23):=QaY r6_6 (QcC (Qca hs))
  refine Qag ?_
  refine hK8 _ _ ?_
  refine wp_seq_k fun K11 hK11=>?_
  refine Qbb 2 [⟨none,[(8,none)]⟩,⟨none,[(4,none)]⟩] kj kj fun F hF=>?_
  refine Qbr (QaG _) (.slice (some ⟨g7,0,none⟩) 32 32) kj kj (fun W=>kj) ?_
  refine Qbr (QaG _) (.slice (some ⟨g4,0+32,none⟩) (64-32) (64-32)) kj kj (fun W=>(Qbj 30 _ _ _ 32 64 64 g4 0 5 rfl kj kj kj ⟨.i64,kj⟩ rfl (by omega) (by omega) (by omega))) ?_
  refine Qe7 (hF _ fun W7 e7=>?_)
  simp only [List.nil_append,List.cons_append,List.take_succ_cons,List.take_zero,List.drop_succ_cons,List.drop_zero,finE,up]
  clear hF
  have x7:Ext w W7:=Ext.tr x6 e7
  have r4_6:=(Puts.row p6 r4_5 (Qac r4_2 l6))
  have r4_7:=(Qaa r4_6 e7)
  have hrd12:RdK .u8 W7.heap.size (s.drop 32) (.slice (some ⟨g4,0+32,none⟩) (64-32) (64-32)) W7:=by
    have h:=Qdi (l:=32) (h:=64) (n:=64) hs r4_7 (by decide) (by decide) (by decide)
    rwa [List.take_of_length_le (by rw [List.length_drop,hs]; decide)] at h
  have r7_5:=(Qaa r7_4 e5)
  have r7_6:=(Puts.row p6 r7_5 (Qat r6_3 l7))
  have r7_7:=(Qaa r7_6 e7)
  refine QbN (k:=.u8) (e:=5) (z:=s.drop 32) (.tmp 15) (.tmp 16) 27 27 17 rfl kj kj rfl kj (off:=0) (dl:=32) (dc:=32) (n:=32) (xs:=List.replicate 32 0) kj kj hrd12 r7_7 (qT (show 0+(32)≤32 from (by omega)) (qE (qZ (n:=32)).symm)) (by rw [(QbH hs)]; rfl) fun W8 p8 r7_8=>?_
  have x8:Ext w W8:=Puts.ext p8 x7 b7
  have r7_8_13:W8.heap[g7]? = some (.cells (ints .u8 (s.drop 32)) 23):=QaY r7_8 (QcC (QbH hs))
  refine Qag ?_
  refine hK11 _ _ ?_
  refine wp_seq_k fun K14 hK14=>?_
  refine wp_seq_k fun K15 hK15=>?_
  refine Qad ?_
  refine Qab (.agg (ints .u8 (s.drop 32))) 18 rfl kj (Qae 23 _ g7 23 _ _ r7_8_13 rfl kj kj (isz (n:=32) kj ((Qaf _ _).trans (QbH hs)))) ?_
  refine Qar (.bool false) 33 #[.agg (ints .u8 (s.drop 32))] 19 rfl kj kj (canS (s.drop 32) (QbH hs) (QcY hsb 32) false hc _ tO (hT.ext x8).o) fun W9 e9=>?_
  have x9:Ext w W9:=Ext.tr x8 e9
  refine Qab (.bool true) 20 rfl kj kj ?_
  refine Qag ?_
  refine hK15 _ _ ?_
  refine cond_true kj ?_
  refine wp_seq_k fun K16 hK16=>?_
  refine Qad ?_
  refine Qab (.bool false) 6 rfl kj kj ?_
  refine Qag ?_
  refine hK16 _ _ ?_
  refine wp_ret ?_
  repeat (first | with_reducible refine goR1 ?_ | with_reducible refine goR2 ?_)
  exact (show bodyPost _ _ _ .ret _ _ from ret1 (.bool false) rfl (Qb6 kj) ⟨rfl,x9⟩)
theorem QlD (p s:List Int) (hp:p.length=32) (hpb:Qak p) (hs:s.length=64) (hsb:Qak s) (hc:canV (s.drop 32)=true) (ho:okK p=false) (gp n:Nat) (Tp:TypeId) (ps:List (Value×List Int)) (hn:ps.length=n) (hn9:n≤1000) (hone:∀ u∈ps.map Prod.fst,u.oneCell'=true) (tc tq tO tB tX tY:TypeId) (w:World) (hT:Tabs tc tq tO tB tX tY w) (hrow:w.heap[gp]? = some (.cells (ps.map Prod.fst).toArray Tp)) (hps:∀ p∈ps,RdK .u8 w.heap.size p.2 p.1 w∧Qak p.2) (t:List Int) (ht:(ps.map Prod.snd).flatten=t) (hlen:t.length≤100000):Calls Tryd.prog 16 #[.agg (ints .u8 p),.agg (ints .u8 s),.slice (some ⟨gp,0,none⟩) n n] w (Ret w (.bool false)):=by
  refine enter 44 [(0,.agg (ints .u8 (p))),(1,.agg (ints .u8 (s))),(2,.slice (some ⟨gp,0,none⟩) n n)] Tryd.func16 rfl rfl kj rfl ?_
  refine wp_seq_k fun K2 hK2=>?_
  refine Qad ?_
  refine Qaj (ints .u8 (p)) 23 3 rfl kj kj fun g3 W1 l3 e1 r3_1=>?_
  have x1:Ext w W1:=Ext.tr (Rely.Ext.refl w) e1
  have b3:w.heap.size≤g3:=qT (Rely.Ext.refl w).size l3
  refine Qaj (ints .u8 (s)) 30 4 rfl kj kj fun g4 W2 l4 e2 r4_2=>?_
  have x2:Ext w W2:=Ext.tr x1 e2
  have b4:w.heap.size≤g4:=qT x1.size l4
  refine Qab (.bool false) 6 rfl kj kj ?_
  refine Qag ?_
  refine hK2 _ _ ?_
  refine wp_seq_k fun K5 hK5=>?_
  refine Qad ?_
  refine Qaj (ints .u8 (List.replicate 32 0)) 23 7 rfl kj kj fun g6 W3 l6 e3 r6_3=>?_
  have x3:Ext w W3:=Ext.tr x2 e3
  have b6:w.heap.size≤g6:=qT x2.size l6
  refine Qaj (ints .u8 (List.replicate 32 0)) 23 8 rfl kj kj fun g7 W4 l7 e4 r7_4=>?_
  have x4:Ext w W4:=Ext.tr x3 e4
  have b7:w.heap.size≤g7:=qT x3.size l7
  refine Qag ?_
  refine hK5 _ _ ?_
  refine wp_seq_k fun K8 hK8=>?_
  refine Qbb 2 [⟨none,[(7,none)]⟩,⟨none,[(4,none)]⟩] kj kj fun F hF=>?_
  refine Qbr (QaG _) (.slice (some ⟨g6,0,none⟩) 32 32) kj kj (fun W=>kj) ?_
  refine Qbr (QaG _) (.slice (some ⟨g4,0+0,none⟩) (32-0) (64-0)) kj kj (fun W=>(Qbj 30 _ _ _ 0 32 64 g4 0 5 rfl kj kj kj rfl ⟨.i64,kj⟩ (by omega) (by omega) (by omega))) ?_
  refine Qe7 (hF _ fun W5 e5=>?_)
  simp only [List.nil_append,List.cons_append,List.take_succ_cons,List.take_zero,List.drop_succ_cons,List.drop_zero,finE,up]
  clear hF
  have x5:Ext w W5:=Ext.tr x4 e5
  have r4_3:=(Qaa r4_2 e3)
  have r4_4:=(Qaa r4_3 e4)
  have r4_5:=(Qaa r4_4 e5)
  have hrd9:RdK .u8 W5.heap.size (s.take 32) (.slice (some ⟨g4,0+0,none⟩) (32-0) (64-0)) W5:=Qdi (l:=0) (h:=32) (n:=64) hs r4_5 (by decide) (by decide) (by decide)
  have r6_4:=(Qaa r6_3 e4)
  have r6_5:=(Qaa r6_4 e5)
  refine QbN (k:=.u8) (e:=5) (z:=s.take 32) (.tmp 12) (.tmp 13) 27 27 14 rfl kj kj rfl kj (off:=0) (dl:=32) (dc:=32) (n:=32) (xs:=List.replicate 32 0) kj kj hrd9 r6_5 (qT (show 0+(32)≤32 from (by omega)) (qE (qZ (n:=32)).symm)) (by rw [(Qca hs)]; rfl) fun W6 p6 r6_6=>?_
  have x6:Ext w W6:=Puts.ext p6 x5 b6
  have r6_6_10:W6.heap[g6]? = some (.cells (ints .u8 (s.take 32)) 23):=QaY r6_6 (QcC (Qca hs))
  refine Qag ?_
  refine hK8 _ _ ?_
  refine wp_seq_k fun K11 hK11=>?_
  refine Qbb 2 [⟨none,[(8,none)]⟩,⟨none,[(4,none)]⟩] kj kj fun F hF=>?_
  refine Qbr (QaG _) (.slice (some ⟨g7,0,none⟩) 32 32) kj kj (fun W=>kj) ?_
  refine Qbr (QaG _) (.slice (some ⟨g4,0+32,none⟩) (64-32) (64-32)) kj kj (fun W=>(Qbj 30 _ _ _ 32 64 64 g4 0 5 rfl kj kj kj ⟨.i64,kj⟩ rfl (by omega) (by omega) (by omega))) ?_
  refine Qe7 (hF _ fun W7 e7=>?_)
  simp only [List.nil_append,List.cons_append,List.take_succ_cons,List.take_zero,List.drop_succ_cons,List.drop_zero,finE,up]
  clear hF
  have x7:Ext w W7:=Ext.tr x6 e7
  have r4_6:=(Puts.row p6 r4_5 (Qac r4_2 l6))
  have r4_7:=(Qaa r4_6 e7)
  have hrd12:RdK .u8 W7.heap.size (s.drop 32) (.slice (some ⟨g4,0+32,none⟩) (64-32) (64-32)) W7:=by
    have h:=Qdi (l:=32) (h:=64) (n:=64) hs r4_7 (by decide) (by decide) (by decide)
    rwa [List.take_of_length_le (by rw [List.length_drop,hs]; decide)] at h
  have r7_5:=(Qaa r7_4 e5)
  have r7_6:=(Puts.row p6 r7_5 (Qat r6_3 l7))
  have r7_7:=(Qaa r7_6 e7)
  refine QbN (k:=.u8) (e:=5) (z:=s.drop 32) (.tmp 15) (.tmp 16) 27 27 17 rfl kj kj rfl kj (off:=0) (dl:=32) (dc:=32) (n:=32) (xs:=List.replicate 32 0) kj kj hrd12 r7_7 (qT (show 0+(32)≤32 from (by omega)) (qE (qZ (n:=32)).symm)) (by rw [(QbH hs)]; rfl) fun W8 p8 r7_8=>?_
  have x8:Ext w W8:=Puts.ext p8 x7 b7
  have r7_8_13:W8.heap[g7]? = some (.cells (ints .u8 (s.drop 32)) 23):=QaY r7_8 (QcC (QbH hs))
  refine Qag ?_
  refine hK11 _ _ ?_
  refine wp_seq_k fun K14 hK14=>?_
  refine wp_seq_k fun K15 hK15=>?_
  refine Qad ?_
  refine Qab (.agg (ints .u8 (s.drop 32))) 18 rfl kj (Qae 23 _ g7 23 _ _ r7_8_13 rfl kj kj (isz (n:=32) kj ((Qaf _ _).trans (QbH hs)))) ?_
  refine Qar (.bool true) 33 #[.agg (ints .u8 (s.drop 32))] 19 rfl kj kj (canS (s.drop 32) (QbH hs) (QcY hsb 32) true hc _ tO (hT.ext x8).o) fun W9 e9=>?_
  have x9:Ext w W9:=Ext.tr x8 e9
  refine Qab (.bool false) 20 rfl kj kj ?_
  refine Qag ?_
  refine hK15 _ _ ?_
  refine cond_false kj ?_
  refine wp_skip ?_
  refine hK14 _ _ ?_
  refine wp_seq_k fun K16 hK16=>?_
  refine Qad ?_
  have r3_2:=(Qaa r3_1 e2)
  have r3_3:=(Qaa r3_2 e3)
  have r3_4:=(Qaa r3_3 e4)
  have r3_5:=(Qaa r3_4 e5)
  have r3_6:=(Puts.row p6 r3_5 (Qac r3_2 l6))
  have r3_7:=(Qaa r3_6 e7)
  have r3_8:=(Puts.row p8 r3_7 (Qac r3_3 l7))
  have r3_9:=(Qaa r3_8 e9)
  refine Qab (.agg (ints .u8 (p))) 22 rfl kj (Qae 23 _ g3 23 _ _ r3_9 rfl kj kj (isz (n:=32) kj ((Qaf _ _).trans hp))) ?_
  refine Qar (.tuple #[.agg (Field.ptA (xK p,zK p)),.bool false]) 34 #[.agg (ints .u8 (p))] 23 rfl kj kj (QnC p hp hpb false ho _ tB (hT.ext x9).b) fun W10 e10=>?_
  have x10:Ext w W10:=Ext.tr x9 e10
  refine Qab (.tuple #[.agg (Field.ptA (xK p,zK p)),.bool false]) 21 rfl kj kj ?_
  refine Qab (.agg (Field.ptA ((xK p,zK p)))) 24 rfl kj kj ?_
  refine Qab (.bool false) 25 rfl kj kj ?_
  refine Qaj (Field.ptA (0,1)) 51 9 rfl kj kj fun g17 W11 l17 e11 r17_11=>?_
  have x11:Ext w W11:=Ext.tr x10 e11
  have b17:w.heap.size≤g17:=qT x10.size l17
  refine Qal g17 _ (Field.ptA ((xK p,zK p))) 51 r17_11 rfl kj (Qai 51 _ _ g17 51 _ _ r17_11 rfl kj kj (isz (n:=8) kj kj) (eqsz (n:=8) kj kj) kj) fun W12 p12 r17_12=>?_
  have x12:Ext w W12:=Puts.ext p12 x11 b17
  refine Qab (.bool false) 10 rfl kj kj ?_
  refine Qag ?_
  refine hK16 _ _ ?_
  refine wp_seq_k fun K18 hK18=>?_
  refine wp_seq_k fun K19 hK19=>?_
  refine Qad ?_
  refine Qab (.bool false) 26 rfl kj kj ?_
  refine Qab (.bool true) 27 rfl kj kj ?_
  refine Qag ?_
  refine hK19 _ _ ?_
  refine cond_true kj ?_
  refine wp_seq_k fun K20 hK20=>?_
  refine Qad ?_
  refine Qab (.bool false) 6 rfl kj kj ?_
  refine Qag ?_
  refine hK20 _ _ ?_
  refine wp_ret ?_
  repeat (first | with_reducible refine goR1 ?_ | with_reducible refine goR2 ?_)
  exact (show bodyPost _ _ _ .ret _ _ from ret1 (.bool false) rfl (Qb6 kj) ⟨rfl,x12⟩)
theorem Qkj (p s:List Int) (hp:p.length=32) (hpb:Qak p) (hs:s.length=64) (hsb:Qak s) (hc:canV (s.drop 32)=true) (ho:okK p=true) (gp n:Nat) (Tp:TypeId) (ps:List (Value×List Int)) (hn:ps.length=n) (hn9:n≤1000) (hone:∀ u∈ps.map Prod.fst,u.oneCell'=true) (tc tq tO tB tX tY:TypeId) (w:World) (hT:Tabs tc tq tO tB tX tY w) (hrow:w.heap[gp]? = some (.cells (ps.map Prod.fst).toArray Tp)) (hps:∀ p∈ps,RdK .u8 w.heap.size p.2 p.1 w∧Qak p.2) (t:List Int) (ht:(ps.map Prod.snd).flatten=t) (hlen:t.length≤100000):Calls Tryd.prog 16 #[.agg (ints .u8 p),.agg (ints .u8 s),.slice (some ⟨gp,0,none⟩) n n] w (Ret w (.bool (decide (encP (pAdd (pa (s.drop 32)) (pNeg (mulP p (resV (s.take 32++p++t)))))=s.take 32)))):=by
  refine enter 44 [(0,.agg (ints .u8 (p))),(1,.agg (ints .u8 (s))),(2,.slice (some ⟨gp,0,none⟩) n n)] Tryd.func16 rfl rfl kj rfl ?_
  refine wp_seq_k fun K2 hK2=>?_
  refine Qad ?_
  refine Qaj (ints .u8 (p)) 23 3 rfl kj kj fun g3 W1 l3 e1 r3_1=>?_
  have x1:Ext w W1:=Ext.tr (Rely.Ext.refl w) e1
  have b3:w.heap.size≤g3:=qT (Rely.Ext.refl w).size l3
  refine Qaj (ints .u8 (s)) 30 4 rfl kj kj fun g4 W2 l4 e2 r4_2=>?_
  have x2:Ext w W2:=Ext.tr x1 e2
  have b4:w.heap.size≤g4:=qT x1.size l4
  refine Qab (.bool false) 6 rfl kj kj ?_
  refine Qag ?_
  refine hK2 _ _ ?_
  refine wp_seq_k fun K5 hK5=>?_
  refine Qad ?_
  refine Qaj (ints .u8 (List.replicate 32 0)) 23 7 rfl kj kj fun g6 W3 l6 e3 r6_3=>?_
  have x3:Ext w W3:=Ext.tr x2 e3
  have b6:w.heap.size≤g6:=qT x2.size l6
  refine Qaj (ints .u8 (List.replicate 32 0)) 23 8 rfl kj kj fun g7 W4 l7 e4 r7_4=>?_
  have x4:Ext w W4:=Ext.tr x3 e4
  have b7:w.heap.size≤g7:=qT x3.size l7
  refine Qag ?_
  refine hK5 _ _ ?_
  refine wp_seq_k fun K8 hK8=>?_
  refine Qbb 2 [⟨none,[(7,none)]⟩,⟨none,[(4,none)]⟩] kj kj fun F hF=>?_
  refine Qbr (QaG _) (.slice (some ⟨g6,0,none⟩) 32 32) kj kj (fun W=>kj) ?_
  refine Qbr (QaG _) (.slice (some ⟨g4,0+0,none⟩) (32-0) (64-0)) kj kj (fun W=>(Qbj 30 _ _ _ 0 32 64 g4 0 5 rfl kj kj kj rfl ⟨.i64,kj⟩ (by omega) (by omega) (by omega))) ?_
  refine Qe7 (hF _ fun W5 e5=>?_)
  simp only [List.nil_append,List.cons_append,List.take_succ_cons,List.take_zero,List.drop_succ_cons,List.drop_zero,finE,up]
  clear hF
  have x5:Ext w W5:=Ext.tr x4 e5
  have r4_3:=(Qaa r4_2 e3)
  have r4_4:=(Qaa r4_3 e4)
  have r4_5:=(Qaa r4_4 e5)
  have hrd9:RdK .u8 W5.heap.size (s.take 32) (.slice (some ⟨g4,0+0,none⟩) (32-0) (64-0)) W5:=Qdi (l:=0) (h:=32) (n:=64) hs r4_5 (by decide) (by decide) (by decide)
  have r6_4:=(Qaa r6_3 e4)
  have r6_5:=(Qaa r6_4 e5)
  refine QbN (k:=.u8) (e:=5) (z:=s.take 32) (.tmp 12) (.tmp 13) 27 27 14 rfl kj kj rfl kj (off:=0) (dl:=32) (dc:=32) (n:=32) (xs:=List.replicate 32 0) kj kj hrd9 r6_5 (qT (show 0+(32)≤32 from (by omega)) (qE (qZ (n:=32)).symm)) (by rw [(Qca hs)]; rfl) fun W6 p6 r6_6=>?_
  have x6:Ext w W6:=Puts.ext p6 x5 b6
  have r6_6_10:W6.heap[g6]? = some (.cells (ints .u8 (s.take 32)) 23):=QaY r6_6 (QcC (Qca hs))
  refine Qag ?_
  refine hK8 _ _ ?_
  refine wp_seq_k fun K11 hK11=>?_
  refine Qbb 2 [⟨none,[(8,none)]⟩,⟨none,[(4,none)]⟩] kj kj fun F hF=>?_
  refine Qbr (QaG _) (.slice (some ⟨g7,0,none⟩) 32 32) kj kj (fun W=>kj) ?_
  refine Qbr (QaG _) (.slice (some ⟨g4,0+32,none⟩) (64-32) (64-32)) kj kj (fun W=>(Qbj 30 _ _ _ 32 64 64 g4 0 5 rfl kj kj kj ⟨.i64,kj⟩ rfl (by omega) (by omega) (by omega))) ?_
  refine Qe7 (hF _ fun W7 e7=>?_)
  simp only [List.nil_append,List.cons_append,List.take_succ_cons,List.take_zero,List.drop_succ_cons,List.drop_zero,finE,up]
  clear hF
  have x7:Ext w W7:=Ext.tr x6 e7
  have r4_6:=(Puts.row p6 r4_5 (Qac r4_2 l6))
  have r4_7:=(Qaa r4_6 e7)
  have hrd12:RdK .u8 W7.heap.size (s.drop 32) (.slice (some ⟨g4,0+32,none⟩) (64-32) (64-32)) W7:=by
    have h:=Qdi (l:=32) (h:=64) (n:=64) hs r4_7 (by decide) (by decide) (by decide)
    rwa [List.take_of_length_le (by rw [List.length_drop,hs]; decide)] at h
  have r7_5:=(Qaa r7_4 e5)
  have r7_6:=(Puts.row p6 r7_5 (Qat r6_3 l7))
  have r7_7:=(Qaa r7_6 e7)
  refine QbN (k:=.u8) (e:=5) (z:=s.drop 32) (.tmp 15) (.tmp 16) 27 27 17 rfl kj kj rfl kj (off:=0) (dl:=32) (dc:=32) (n:=32) (xs:=List.replicate 32 0) kj kj hrd12 r7_7 (qT (show 0+(32)≤32 from (by omega)) (qE (qZ (n:=32)).symm)) (by rw [(QbH hs)]; rfl) fun W8 p8 r7_8=>?_
  have x8:Ext w W8:=Puts.ext p8 x7 b7
  have r7_8_13:W8.heap[g7]? = some (.cells (ints .u8 (s.drop 32)) 23):=QaY r7_8 (QcC (QbH hs))
  refine Qag ?_
  refine hK11 _ _ ?_
  refine wp_seq_k fun K14 hK14=>?_
  refine wp_seq_k fun K15 hK15=>?_
  refine Qad ?_
  refine Qab (.agg (ints .u8 (s.drop 32))) 18 rfl kj (Qae 23 _ g7 23 _ _ r7_8_13 rfl kj kj (isz (n:=32) kj ((Qaf _ _).trans (QbH hs)))) ?_
  refine Qar (.bool true) 33 #[.agg (ints .u8 (s.drop 32))] 19 rfl kj kj (canS (s.drop 32) (QbH hs) (QcY hsb 32) true hc _ tO (hT.ext x8).o) fun W9 e9=>?_
  have x9:Ext w W9:=Ext.tr x8 e9
  refine Qab (.bool false) 20 rfl kj kj ?_
  refine Qag ?_
  refine hK15 _ _ ?_
  refine cond_false kj ?_
  refine wp_skip ?_
  refine hK14 _ _ ?_
  refine wp_seq_k fun K16 hK16=>?_
  refine Qad ?_
  have r3_2:=(Qaa r3_1 e2)
  have r3_3:=(Qaa r3_2 e3)
  have r3_4:=(Qaa r3_3 e4)
  have r3_5:=(Qaa r3_4 e5)
  have r3_6:=(Puts.row p6 r3_5 (Qac r3_2 l6))
  have r3_7:=(Qaa r3_6 e7)
  have r3_8:=(Puts.row p8 r3_7 (Qac r3_3 l7))
  have r3_9:=(Qaa r3_8 e9)
  refine Qab (.agg (ints .u8 (p))) 22 rfl kj (Qae 23 _ g3 23 _ _ r3_9 rfl kj kj (isz (n:=32) kj ((Qaf _ _).trans hp))) ?_
  refine Qar (.tuple #[.agg (Field.ptA (xK p,zK p)),.bool true]) 34 #[.agg (ints .u8 (p))] 23 rfl kj kj (QnC p hp hpb true ho _ tB (hT.ext x9).b) fun W10 e10=>?_
  have x10:Ext w W10:=Ext.tr x9 e10
  refine Qab (.tuple #[.agg (Field.ptA (xK p,zK p)),.bool true]) 21 rfl kj kj ?_
  refine Qab (.agg (Field.ptA ((xK p,zK p)))) 24 rfl kj kj ?_
  refine Qab (.bool true) 25 rfl kj kj ?_
  refine Qaj (Field.ptA (0,1)) 51 9 rfl kj kj fun g17 W11 l17 e11 r17_11=>?_
  have x11:Ext w W11:=Ext.tr x10 e11
  have b17:w.heap.size≤g17:=qT x10.size l17
  refine Qal g17 _ (Field.ptA ((xK p,zK p))) 51 r17_11 rfl kj (Qai 51 _ _ g17 51 _ _ r17_11 rfl kj kj (isz (n:=8) kj kj) (eqsz (n:=8) kj kj) kj) fun W12 p12 r17_12=>?_
  have x12:Ext w W12:=Puts.ext p12 x11 b17
  refine Qab (.bool true) 10 rfl kj kj ?_
  refine Qag ?_
  refine hK16 _ _ ?_
  refine wp_seq_k fun K18 hK18=>?_
  refine wp_seq_k fun K19 hK19=>?_
  refine Qad ?_
  refine Qab (.bool true) 26 rfl kj kj ?_
  refine Qab (.bool false) 27 rfl kj kj ?_
  refine Qag ?_
  refine hK19 _ _ ?_
  refine cond_false kj ?_
  refine wp_skip ?_
  refine hK18 _ _ ?_
  refine wp_seq_k fun K20 hK20=>?_
  refine Qad ?_
  refine Qab (.slice (some ⟨gp,0,none⟩) n n) 28 rfl kj kj ?_
  have r6_7:=(Qaa r6_6_10 e7)
  have r6_8:=(Puts.row p8 r6_7 (Qac r6_3 l7))
  have r6_9:=(Qaa r6_8 e9)
  have r6_10:=(Qaa r6_9 e10)
  have r6_11:=(Qaa r6_10 e11)
  have r6_12:=(Puts.row p12 r6_11 (Qac r6_10 l17))
  refine Qab (.agg (ints .u8 (s.take 32))) 29 rfl kj (Qae 23 _ g6 23 _ _ r6_12 rfl kj kj (isz (n:=32) kj ((Qaf _ _).trans (Qca hs)))) ?_
  have r3_10:=(Qaa r3_9 e10)
  have r3_11:=(Qaa r3_10 e11)
  have r3_12:=(Puts.row p12 r3_11 (Qac r3_10 l17))
  refine Qab (.agg (ints .u8 (p))) 30 rfl kj (Qae 23 _ g3 23 _ _ r3_12 rfl kj kj (isz (n:=32) kj ((Qaf _ _).trans hp))) ?_
  refine Qbd (cat [ints .u8 (s.take 32),ints .u8 (p)]) 23 2 31 rfl kj (Qhc (P:=Tryd.prog) 94 23 2 _ (.agg (ints .u8 (List.replicate 32 0))) ([(0,32,.agg (ints .u8 (s.take 32)),ints .u8 (s.take 32)),(1,32,.agg (ints .u8 (p)),ints .u8 (p))]:List (Nat×Nat×Value×Array Value)) rfl kj kj kj ⟨rfl,rfl,(Qaf _ _).trans (Qca hs),rfl,rfl,(Qaf _ _).trans hp,trivial⟩ rfl (by decide) (by decide)) fun g21 W13 l21 e13 r21_13=>?_
  have x13:Ext w W13:=Ext.tr x12 e13
  have b21:w.heap.size≤g21:=qT x12.size l21
  have r1_1:=(Qaa hrow e1)
  have r1_2:=(Qaa r1_1 e2)
  have r1_3:=(Qaa r1_2 e3)
  have r1_4:=(Qaa r1_3 e4)
  have r1_5:=(Qaa r1_4 e5)
  have r1_6:=(Puts.row p6 r1_5 (Qac r1_2 l6))
  have r1_7:=(Qaa r1_6 e7)
  have r1_8:=(Puts.row p8 r1_7 (Qac r1_3 l7))
  have r1_9:=(Qaa r1_8 e9)
  have r1_10:=(Qaa r1_9 e10)
  have r1_11:=(Qaa r1_10 e11)
  have r1_12:=(Puts.row p12 r1_11 (Qac r1_10 l17))
  have r1_13:=(Qaa r1_12 e13)
  refine Qar (.agg (ints .u8 (resV ((s.take 32)++p++t)))) 29 #[.slice (some ⟨gp,0,none⟩) n n,.slice (some ⟨g21,0,none⟩) 2 2] 32 rfl kj kj (Qnl (s.take 32) p (Qca hs) (QfA hsb) hp hpb g21 _ gp n Tp ps hn hn9 hone tc tq tO tB tX tY _ (hT.ext x13) r21_13 r1_13 (fun p hp=>⟨RdK.here ((hps p hp).1.ext x13),(hps p hp).2⟩) t ht hlen) fun W14 e14=>?_
  have x14:Ext w W14:=Ext.tr x13 e14
  refine Qaj (ints .u8 (List.replicate 32 0)) 23 11 rfl kj kj fun g22 W15 l22 e15 r22_15=>?_
  have x15:Ext w W15:=Ext.tr x14 e15
  have b22:w.heap.size≤g22:=qT x14.size l22
  refine Qal g22 _ (ints .u8 (resV ((s.take 32)++p++t))) 23 r22_15 rfl kj (Qai 23 _ _ g22 23 _ _ r22_15 rfl kj kj (isz (n:=32) kj ((Qaf _ _).trans (Qcn _))) (eqsz (n:=32) ((Qaf _ _).trans (qZ (n:=32))) ((Qaf _ _).trans (Qcn _))) (ints_one _ _)) fun W16 p16 r22_16=>?_
  have x16:Ext w W16:=Puts.ext p16 x15 b22
  refine Qag ?_
  refine hK20 _ _ ?_
  refine wp_seq_k fun K23 hK23=>?_
  refine QaB 11 [⟨none,[]⟩,⟨none,[(8,none)]⟩,⟨none,[(33,some 0),(34,some 1)]⟩,⟨none,[(9,none)]⟩,⟨none,[(11,none)]⟩,⟨none,[(36,some 3),(37,some 4)]⟩,⟨none,[(38,some 5)]⟩,⟨none,[(35,some 2),(39,some 6)]⟩,⟨none,[(40,some 7)]⟩,⟨none,[(7,none)]⟩,⟨none,[(41,some 8),(42,some 9)]⟩] kj kj fun F hF=>?_
  refine Qaq (.agg (Field.ptA (BP))) 20 #[] kj kj (fun W=>kj) (fun W hR=>Field.ptBase W tX (hT.ext (Rely.Ext.trans (Rely.Ext.trans x16 (Qah _)) hR)).x tY (hT.ext (Rely.Ext.trans (Rely.Ext.trans x16 (Qah _)) hR)).y) ?_
  have r7_9:=(Qaa r7_8_13 e9)
  have r7_10:=(Qaa r7_9 e10)
  have r7_11:=(Qaa r7_10 e11)
  have r7_12:=(Puts.row p12 r7_11 (Qac r7_10 l17))
  have r7_13:=(Qaa r7_12 e13)
  have r7_14:=(Qaa r7_13 e14)
  have r7_15:=(Qaa r7_14 e15)
  have r7_16:=(Puts.row p16 r7_15 (Qac r7_14 l22))
  refine Qam (.agg (ints .u8 (s.drop 32))) kj kj (fun W hR=>(Qae 23 _ g7 23 _ _ (Qaa (Qaa r7_16 (Qah _)) hR) rfl kj kj (isz (n:=32) kj ((Qaf _ _).trans (QbH hs))))) ?_
  refine Qaq (.agg (Field.ptA (pa (s.drop 32)))) 21 #[.agg (Field.ptA (BP)),.agg (ints .u8 (s.drop 32))] kj kj (fun W=>kj) (fun W hR=>Field.ptTimes QbU (s.drop 32) (QbH hs) (QcY hsb 32) W tB (hT.ext (Rely.Ext.trans (Rely.Ext.trans x16 (Qah _)) hR)).b) ?_
  have r17_13:=(Qaa r17_12 e13)
  have r17_14:=(Qaa r17_13 e14)
  have r17_15:=(Qaa r17_14 e15)
  have r17_16:=(Puts.row p16 r17_15 (Qac r17_14 l22))
  refine Qam (.agg (Field.ptA ((xK p,zK p)))) kj kj (fun W hR=>(Qae 51 _ g17 51 _ _ (Qaa (Qaa r17_16 (Qah _)) hR) rfl kj kj (isz (n:=8) kj kj))) ?_
  refine Qam (.agg (ints .u8 (resV ((s.take 32)++p++t)))) kj kj (fun W hR=>(Qae 23 _ g22 23 _ _ (Qaa (Qaa r22_16 (Qah _)) hR) rfl kj kj (isz (n:=32) kj ((Qaf _ _).trans (Qcn _))))) ?_
  refine Qaq (.agg (Field.ptA (mulP p (resV ((s.take 32)++p++t))))) 21 #[.agg (Field.ptA ((xK p,zK p))),.agg (ints .u8 (resV ((s.take 32)++p++t)))] kj kj (fun W=>kj) (fun W hR=>Field.ptTimes (Field.K_onP p) (resV ((s.take 32)++p++t)) (Qcn ((s.take 32)++p++t)) (Qds ((s.take 32)++p++t)) W tB (hT.ext (Rely.Ext.trans (Rely.Ext.trans x16 (Qah _)) hR)).b) ?_
  refine Qaq (.agg (Field.ptA (pNeg (mulP p (resV ((s.take 32)++p++t)))))) 36 #[.agg (Field.ptA (mulP p (resV ((s.take 32)++p++t))))] kj kj (fun W=>kj) (fun W hR=>Field.ptNeg (QcG p (resV ((s.take 32)++p++t))) W) ?_
  refine Qaq (.agg (Field.ptA (pAdd (pa (s.drop 32)) (pNeg (mulP p (resV ((s.take 32)++p++t))))))) 35 #[.agg (Field.ptA (pa (s.drop 32))),.agg (Field.ptA (pNeg (mulP p (resV ((s.take 32)++p++t)))))] kj kj (fun W=>kj) (fun W hR=>Field.ptAdd (QcT (s.drop 32)) (Field.pNeg_on (QcG p (resV ((s.take 32)++p++t)))) W tB (hT.ext (Rely.Ext.trans (Rely.Ext.trans x16 (Qah _)) hR)).b) ?_
  refine Qaq (.agg (ints .u8 (encP (pAdd (pa (s.drop 32)) (pNeg (mulP p (resV ((s.take 32)++p++t)))))))) 22 #[.agg (Field.ptA (pAdd (pa (s.drop 32)) (pNeg (mulP p (resV ((s.take 32)++p++t))))))] kj kj (fun W=>kj) (fun W hR=>Field.ptBytes (Field.pAdd_on (QcT (s.drop 32)) (Field.pNeg_on (QcG p (resV ((s.take 32)++p++t))))) W) ?_
  have r6_13:=(Qaa r6_12 e13)
  have r6_14:=(Qaa r6_13 e14)
  have r6_15:=(Qaa r6_14 e15)
  have r6_16:=(Puts.row p16 r6_15 (Qac r6_14 l22))
  refine Qam (.agg (ints .u8 (s.take 32))) kj kj (fun W hR=>(Qae 23 _ g6 23 _ _ (Qaa (Qaa r6_16 (Qah _)) hR) rfl kj kj (isz (n:=32) kj ((Qaf _ _).trans (Qca hs))))) ?_
  refine Qav (.bool (decide (encP (pAdd (pa (s.drop 32)) (pNeg (mulP p (resV ((s.take 32)++p++t)))))=s.take 32))) kj kj (fun W=>(Qcz 23 _ _ _ _ _ (.bool (decide (encP (pAdd (pa (s.drop 32)) (pNeg (mulP p (resV ((s.take 32)++p++t)))))=s.take 32))) rfl kj kj kj (Field.key_eql (encP (pAdd (pa (s.drop 32)) (pNeg (mulP p (resV ((s.take 32)++p++t)))))) (s.take 32) (decide (encP (pAdd (pa (s.drop 32)) (pNeg (mulP p (resV ((s.take 32)++p++t)))))=s.take 32)) (Qbo _) (Qca hs) rfl _))) ?_
  refine Qa3 (hF _ kj fun W17 e17=>?_)
  simp only [ups,up,Kn.val,List.take_succ_cons,List.take_zero,List.drop_succ_cons,List.drop_zero,List.nil_append,List.cons_append]
  clear hF
  have x17:Ext w W17:=Ext.tr x16 e17
  refine Qab (.bool (decide (encP (pAdd (pa (s.drop 32)) (pNeg (mulP p (resV ((s.take 32)++p++t)))))=s.take 32))) 6 rfl kj kj ?_
  refine Qag ?_
  refine hK23 _ _ ?_
  refine wp_ret ?_
  repeat (first | with_reducible refine goR1 ?_ | with_reducible refine goR2 ?_)
  exact (show bodyPost _ _ _ .ret _ _ from ret1 (.bool (decide (encP (pAdd (pa (s.drop 32)) (pNeg (mulP p (resV ((s.take 32)++p++t)))))=s.take 32))) rfl (Qb6 kj) ⟨rfl,x17⟩)
theorem QgW (p s:List Int) (hp:p.length=32) (hpb:Qak p) (hs:s.length=64) (hsb:Qak s) (gp n:Nat) (Tp:TypeId) (ps:List (Value×List Int)) (hn:ps.length=n) (hn9:n≤1000) (hone:∀ u∈ps.map Prod.fst,u.oneCell'=true) (tc tq tO tB tX tY:TypeId) (w:World) (hT:Tabs tc tq tO tB tX tY w) (hrow:w.heap[gp]? = some (.cells (ps.map Prod.fst).toArray Tp)) (hps:∀ p∈ps,RdK .u8 w.heap.size p.2 p.1 w∧Qak p.2) (t:List Int) (ht:(ps.map Prod.snd).flatten=t) (hlen:t.length≤100000):Calls Tryd.prog 16 #[.agg (ints .u8 p),.agg (ints .u8 s),.slice (some ⟨gp,0,none⟩) n n] w (Ret w (.bool (verV p s t))):=by
  unfold verV
  cases hc:canV (s.drop 32)
  · exact QlE p s hp hpb hs hsb hc gp n Tp ps hn hn9 hone tc tq tO tB tX tY w hT hrow hps t ht hlen
  · cases ho:okK p
    · exact QlD p s hp hpb hs hsb hc ho gp n Tp ps hn hn9 hone tc tq tO tB tX tY w hT hrow hps t ht hlen
    · unfold eqV
      exact Qkj p s hp hpb hs hsb hc ho gp n Tp ps hn hn9 hone tc tq tO tB tX tY w hT hrow hps t ht hlen
end Go.Proofs.YtdoadngmgmdlbaaDoor.Sgn
end
section
namespace Go.Proofs.YtdoadngmgmdlbaaDoor.Sgn
open Go Go.RowKit
open Rely Auto Own
structure OncU (base n : Nat) (ys : List Int) (W W' : World) : Prop where
  os:W'.os=W.os
  tape:W'.tape=W.tape
  output:W'.output=W.output
  size:W.heap.size≤W'.heap.size
  block:∀ g,g<W.heap.size→W'.heap[g]? = W.heap[g]?∨(base≤g∧∃ cs cs',W.heap[g]? = some (.cells cs 5)∧W'.heap[g]? = some (.cells cs' 5)∧cs'.size=cs.size∧∀ i,cs'[i]? = cs[i]?∨(n≤i∧cs'[i]? = some (.int .u8 (nth ys (i-n)))))
theorem OncU.refl (base n:Nat) (ys:List Int) (W:World):OncU base n ys W W:=⟨rfl,rfl,rfl,qR _,fun _ _=>.inl rfl⟩
theorem OncU.trans {base n:Nat} {ys:List Int} {a b c:World} (h:OncU base n ys a b) (k:OncU base n ys b c):OncU base n ys a c:=by
  refine ⟨k.os.trans h.os,k.tape.trans h.tape,k.output.trans h.output,qT h.size k.size,fun g hg=>?_⟩
  rcases k.block g (qL hg h.size) with h2 | ⟨hb,cs,cs',r1,r2,r3,r4⟩
  · rw [h2]; exact h.block g hg
  · rcases h.block g hg with h1 | ⟨_,ds,ds',s1,s2,s3,s4⟩
    · exact .inr ⟨hb,cs,cs',h1▸r1,r2,r3,r4⟩
    · rw [s2] at r1
      simp only [Option.some.injEq,Obj.cells.injEq,and_true,true_and] at r1
      obtain rfl:=r1
      refine .inr ⟨hb,ds,cs',s1,r2,r3.trans s3,fun i=>?_⟩
      rcases r4 i with r | ⟨r,r'⟩
      · rw [r]; exact s4 i
      · exact .inr ⟨r,r'⟩
theorem OncU.ext {base n:Nat} {ys:List Int} {a b:World} (e:Ext a b):OncU base n ys a b:=⟨e.os,e.tape,e.output,e.size,fun g hg=>.inl (e.block g hg)⟩
theorem OncU.low {n : Nat} {ys:List Int} {w0 W:World} (h:OncU w0.heap.size n ys w0 W):Ext w0 W :=
  ⟨h.os,h.tape,h.output,h.size,fun g hg=>by
    rcases h.block g hg with h | ⟨hb,_⟩
    · exact h
    · omega⟩
theorem Qj5 (b c:Bool):isB b (.bool c)=(c==b):=rfl
theorem Qeu {r0 : Tmp→Value} {E:List Fact} {ρ:Tmp→Value} {W:World} {d:Tmp} {j:Nat}:∀ (rd:List (Tmp×Option Nat)),QbJ r0 E ρ W rd→rd.getLast? = some (d,some j)→(E.getD j fun _ _=>True) (ρ d) W
  | [],_,h=>by cases h
  | [(t,some i)],h,e=>by
    obtain ⟨rfl,rfl⟩:t=d∧i=j:=by simpa using e
    exact h.1
  | [(t,none)],h,e=>by simp at e
  | (t,some i)::x::r,h,e=>Qeu (x::r) h.2 (by rw [List.getLast?_cons_cons] at e; exact e)
  | (t,none)::x::r,h,e=>Qeu (x::r) h.2 (by rw [List.getLast?_cons_cons] at e; exact e)
theorem QeF {r0 : Tmp→Value} {E:List Fact} {ρ:Tmp→Value} {W:World} {d:Tmp} {j:Nat}:∀ (rd:List (Tmp×Option Nat)) (i:Nat),QbJ r0 E ρ W rd→rd[i]? = some (d,some j)→(E.getD j fun _ _=>True) (ρ d) W
  | [],_,_,h=>by simp at h
  | (t,some k)::r,0,h,e=>by
    obtain ⟨rfl,rfl⟩:t=d∧k=j:=by simpa using e
    exact h.1
  | (t,none)::r,0,h,e=>by simp at e
  | (t,some k)::r,i+1,h,e=>QeF r i h.2 (by simpa using e)
  | (t,none)::r,i+1,h,e=>QeF r i h.2 (by simpa using e)
theorem QfU {r0 : Tmp→Value} {C:List KE} {ρ:Tmp→Value} {W:World} {rd:List (Tmp×Option Nat)} (h:QbJ r0 (C.map KE.fact) ρ W rd) (i:Nat) (d:Tmp) (j:Nat) (hi:rd[i]? = some (d,some j)) {v:Value} (hj:C[j]? = some (.is v)):ρ d=v:=by
  have h1:=QeF rd i h hi
  rw [List.getD_eq_getElem?_getD,List.getElem?_map,hj] at h1
  exact h1
theorem QhT {r0 : Tmp→Value} {C:List KE} {ρ:Tmp→Value} {W:World} {rd:List (Tmp×Option Nat)} (h:QbJ r0 (C.map KE.fact) ρ W rd) (i:Nat) (d:Tmp) (j:Nat) (hi:rd[i]? = some (d,some j)) {φ:Fact} (hj:C[j]? = some (.ex φ)):φ (ρ d) W:=by
  have h1:=QeF rd i h hi
  rw [List.getD_eq_getElem?_getD,List.getElem?_map,hj] at h1
  exact h1
theorem Qlb {P : Program} {R:World→World→Prop} {w0:World} {N:Nat} {L:Env} {F:List KE→Prop} {o:Oper} {os:List Oper} {ss:List Src} {C:List KE} (hRl:Rl R w0) (v:Value) (f:FuncId) {d:Tmp} {b:Bool} {rd:List (Tmp×Option Nat)} (j:Nat)
    (hrd:rd.getLast? = some (d,some j)) (hj:C[j]? = some (.is (.bool b)))
    (h:∀ (ρ:Tmp→Value) (W:World),Ext w0 W→QbJ (envN N L) (C.map KE.fact) ρ W rd→∃ args,(execOp (Rely.look ρ) o).run P W=.ok (.enter f args) W∧Calls P f args W (Ret W v))
    (hk:QbM P R w0 N L F os ss (C++[.is v])):QbM P R w0 N L F (o::os) (⟨some (d,b),rd⟩::ss) C :=
  ⟨.is v,trivial,fun ρ W hR hh=>by
    have h1:=Qeu rd hh hrd
    rw [List.getD_eq_getElem?_getD,List.getElem?_map,hj] at h1
    have h2:ρ d=.bool b:=h1
    refine Qcm (show isB b (ρ d)=true by rw [h2,Qj5,beq_self_eq_true]) ?_
    obtain ⟨args,h1,h2⟩:=h ρ W (hRl.low hR) hh
    show Qc6 _ _ _ _ _
    rw [h1]
    exact ⟨hRl.refl _,h2.mono fun _ _ h=>Qje h.const (hRl.ext (hRl.low hR).size)⟩,hk⟩
end Go.Proofs.YtdoadngmgmdlbaaDoor.Sgn
end
section
namespace Go.Proofs.YtdoadngmgmdlbaaDoor.Sgn
open Go Go.RowKit
open Rely Auto Own Sha5
open Ladder (clamp)
open Field (Qao resN numA num lims QbQ ordL Qbq QbS QbR QaP encP Qbo pa QcT pAdd pNeg mulP QcG okK xK zK lK mulR BP QbU numB nmul OnP Qc0)
theorem verE {p s t:List Int} {b:Bool} (e:verV p s t=b) {P:Program} {f:FuncId} {args:Array Value} {w:World} (h:Calls P f args w (Ret w (.bool (verV p s t)))):Calls P f args w (Ret w (.bool b)):=by rw [e] at h; exact h
theorem Ql1 : k7.length=32:=rfl
theorem QhQ : Qak k7:=by unfold Qak; decide
theorem Qln : Qak [97,98]:=by unfold Qak; decide
theorem QmR : Qak [97]:=by unfold Qak; decide
theorem QjU : Qak [98]:=by unfold Qak; decide
theorem QjX (tc tq tO tB tX tY:TypeId) (w:World) (hT:Tabs tc tq tO tB tX tY w):Calls Tryd.prog 9 #[] w (Ret w (.bool true)):=by
  refine enter 27 [] Tryd.func9 rfl rfl kj rfl ?_
  refine wp_seq_k fun K1 hK1=>?_
  refine Qad ?_
  refine Qab (.bool false) 0 rfl kj kj ?_
  refine Qag ?_
  refine hK1 _ _ ?_
  refine wp_seq_k fun K2 hK2=>?_
  refine Qad ?_
  refine Qab (.agg (ints .u8 (k7))) 3 rfl kj kj ?_
  refine Qar (.agg (ints .u8 (pubV k7))) 10 #[.agg (ints .u8 (k7))] 4 rfl kj kj (Qjk k7 Ql1 QhQ tc tq tO tB tX tY _ (hT.ext (Rely.Ext.refl w))) fun W1 e1=>?_
  have x1:Ext w W1:=Ext.tr (Rely.Ext.refl w) e1
  refine Qaj (ints .u8 (List.replicate 32 0)) 23 1 rfl kj kj fun g3 W2 l3 e2 r3_2=>?_
  have x2:Ext w W2:=Ext.tr x1 e2
  have b3:w.heap.size≤g3:=qT x1.size l3
  refine Qal g3 _ (ints .u8 (pubV k7)) 23 r3_2 rfl kj (Qai 23 _ _ g3 23 _ _ r3_2 rfl kj kj (isz (n:=32) kj ((Qaf _ _).trans (Qco k7))) (eqsz (n:=32) ((Qaf _ _).trans (qZ (n:=32))) ((Qaf _ _).trans (Qco k7))) (ints_one _ _)) fun W3 p3 r3_3=>?_
  have x3:Ext w W3:=Puts.ext p3 x2 b3
  refine Qag ?_
  refine hK2 _ _ ?_
  refine wp_seq_k fun K4 hK4=>?_
  refine Qad ?_
  refine Qab (.agg (ints .u8 (k7))) 5 rfl kj kj ?_
  refine Qbd (ints .u8 ([97])) 5 1 6 rfl kj kj fun g5 W4 l5 e4 r5_4=>?_
  have x4:Ext w W4:=Ext.tr x3 e4
  have b5:w.heap.size≤g5:=qT x3.size l5
  refine QdX (xs:=[97]) 27 5 (.tmp 6) 7 rfl rfl kj kj kj kj rfl (show 1≤maxLen by decide) r5_4 fun W5 p5 r5_5 rd6=>?_
  have x5:Ext w W5:=Puts.ext p5 x4 b5
  refine Qbd (ints .u8 ([98])) 5 1 8 rfl kj kj fun g7 W6 l7 e6 r7_6=>?_
  have x6:Ext w W6:=Ext.tr x5 e6
  have b7:w.heap.size≤g7:=qT x5.size l7
  refine QdX (xs:=[98]) 27 5 (.tmp 8) 9 rfl rfl kj kj kj kj rfl (show 1≤maxLen by decide) r7_6 fun W7 p7 r7_7 rd8=>?_
  have x7:Ext w W7:=Puts.ext p7 x6 b7
  refine Qbd (#[.slice (some ⟨g5,0,none⟩) 1 1,.slice (some ⟨g7,0,none⟩) 1 1]) 27 2 10 rfl kj kj fun g9 W8 l9 e8 r9_8=>?_
  have x8:Ext w W8:=Ext.tr x7 e8
  have b9:w.heap.size≤g9:=qT x7.size l9
  have f10_6:=(rd6.ext e6)
  have f11_7:=(RdK.putsP f10_6 p7 (.inr (fun e=>(Qac r5_5 l7) (Option.some.inj e))))
  have f12_8:=(f11_7.ext e8)
  have f13_8:=(rd8.ext e8)
  have hps14:∀ p∈([(.slice (some ⟨g5,0,none⟩) 1 1,[97]),(.slice (some ⟨g7,0,none⟩) 1 1,[98])]:List (Value×List Int)),RdK .u8 W8.heap.size p.2 p.1 W8∧Qak p.2:=by
    intro p hp
    simp only [List.mem_cons,List.not_mem_nil,or_false] at hp
    rcases hp with rfl | rfl
    · exact ⟨RdK.here f12_8,QmR⟩
    · exact ⟨RdK.here f13_8,QjU⟩
  have hone14:∀ u∈([(.slice (some ⟨g5,0,none⟩) 1 1,[97]),(.slice (some ⟨g7,0,none⟩) 1 1,[98])]:List (Value×List Int)).map Prod.fst,u.oneCell'=true:=by
    intro u hu
    simp only [List.map_cons,List.map_nil,List.mem_cons,List.not_mem_nil,or_false] at hu
    rcases hu with rfl | rfl <;> rfl
  refine Qar (.agg (ints .u8 (sigV k7 ([97,98])))) 13 #[.agg (ints .u8 (k7)),.slice (some ⟨g9,0,none⟩) 2 2] 11 rfl kj kj (QlL k7 Ql1 QhQ g9 2 _ ([(.slice (some ⟨g5,0,none⟩) 1 1,[97]),(.slice (some ⟨g7,0,none⟩) 1 1,[98])]:List (Value×List Int)) rfl (by decide) hone14 tc tq tO tB tX tY _ (hT.ext x8) r9_8 hps14 ([97,98]) rfl (by decide)) fun W9 e9=>?_
  have x9:Ext w W9:=Ext.tr x8 e9
  refine Qaj (ints .u8 (List.replicate 64 0)) 30 2 rfl kj kj fun g15 W10 l15 e10 r15_10=>?_
  have x10:Ext w W10:=Ext.tr x9 e10
  have b15:w.heap.size≤g15:=qT x9.size l15
  refine Qal g15 _ (ints .u8 (sigV k7 ([97,98]))) 30 r15_10 rfl kj (Qai 30 _ _ g15 30 _ _ r15_10 rfl kj kj (isz (n:=64) kj ((Qaf _ _).trans (Qbm k7 ([97,98])))) (eqsz (n:=64) ((Qaf _ _).trans (qZ (n:=64))) ((Qaf _ _).trans (Qbm k7 ([97,98])))) (ints_one _ _)) fun W11 p11 r15_11=>?_
  have x11:Ext w W11:=Puts.ext p11 x10 b15
  refine Qag ?_
  refine hK4 _ _ ?_
  refine wp_seq_k fun K16 hK16=>?_
  refine Qad ?_
  have r3_4:=(Qaa r3_3 e4)
  have r3_5:=(Puts.row p5 r3_4 (Qac r3_3 l5))
  have r3_6:=(Qaa r3_5 e6)
  have r3_7:=(Puts.row p7 r3_6 (Qac r3_5 l7))
  have r3_8:=(Qaa r3_7 e8)
  have r3_9:=(Qaa r3_8 e9)
  have r3_10:=(Qaa r3_9 e10)
  have r3_11:=(Puts.row p11 r3_10 (Qac r3_9 l15))
  refine Qab (.agg (ints .u8 (pubV k7))) 12 rfl kj (Qae 23 _ g3 23 _ _ r3_11 rfl kj kj (isz (n:=32) kj ((Qaf _ _).trans (Qco k7)))) ?_
  refine Qab (.agg (ints .u8 (sigV k7 ([97,98])))) 13 rfl kj (Qae 30 _ g15 30 _ _ r15_11 rfl kj kj (isz (n:=64) kj ((Qaf _ _).trans (Qbm k7 ([97,98]))))) ?_
  refine Qbd (ints .u8 ([97,98])) 5 2 14 rfl kj kj fun g17 W12 l17 e12 r17_12=>?_
  have x12:Ext w W12:=Ext.tr x11 e12
  have b17:w.heap.size≤g17:=qT x11.size l17
  refine QdX (xs:=[97,98]) 27 5 (.tmp 14) 15 rfl rfl kj kj kj kj rfl (show 2≤maxLen by decide) r17_12 fun W13 p13 r17_13 rd18=>?_
  have x13:Ext w W13:=Puts.ext p13 x12 b17
  refine Qbd (#[.slice (some ⟨g17,0,none⟩) 2 2]) 27 1 16 rfl kj kj fun g19 W14 l19 e14 r19_14=>?_
  have x14:Ext w W14:=Ext.tr x13 e14
  have b19:w.heap.size≤g19:=qT x13.size l19
  have f20_14:=(rd18.ext e14)
  have hps21:∀ p∈([(.slice (some ⟨g17,0,none⟩) 2 2,[97,98])]:List (Value×List Int)),RdK .u8 W14.heap.size p.2 p.1 W14∧Qak p.2:=by
    intro p hp
    simp only [List.mem_cons,List.not_mem_nil,or_false] at hp
    rcases hp with rfl
    · exact ⟨RdK.here f20_14,Qln⟩
  have hone21:∀ u∈([(.slice (some ⟨g17,0,none⟩) 2 2,[97,98])]:List (Value×List Int)).map Prod.fst,u.oneCell'=true:=by
    intro u hu
    simp only [List.map_cons,List.map_nil,List.mem_cons,List.not_mem_nil,or_false] at hu
    rcases hu with rfl <;> rfl
  refine Qar (.bool true) 16 #[.agg (ints .u8 (pubV k7)),.agg (ints .u8 (sigV k7 ([97,98]))),.slice (some ⟨g19,0,none⟩) 1 1] 17 rfl kj kj (verE (QiR k7 [97,98]) (QgW (pubV k7) (sigV k7 ([97,98])) (Qco k7) (Qdv k7) (Qbm k7 ([97,98])) (Qen k7 ([97,98])) g19 1 _ ([(.slice (some ⟨g17,0,none⟩) 2 2,[97,98])]:List (Value×List Int)) rfl (by decide) hone21 tc tq tO tB tX tY _ (hT.ext x14) r19_14 hps21 ([97,98]) rfl (by decide))) fun W15 e15=>?_
  have x15:Ext w W15:=Ext.tr x14 e15
  refine Qab (.bool true) 18 rfl kj kj ?_
  have r3_12:=(Qaa r3_11 e12)
  have r3_13:=(Puts.row p13 r3_12 (Qac r3_11 l17))
  have r3_14:=(Qaa r3_13 e14)
  have r3_15:=(Qaa r3_14 e15)
  refine Qab (.agg (ints .u8 (pubV k7))) 19 rfl kj (Qae 23 _ g3 23 _ _ r3_15 rfl kj kj (isz (n:=32) kj ((Qaf _ _).trans (Qco k7)))) ?_
  have r15_12:=(Qaa r15_11 e12)
  have r15_13:=(Puts.row p13 r15_12 (Qac r15_11 l17))
  have r15_14:=(Qaa r15_13 e14)
  have r15_15:=(Qaa r15_14 e15)
  refine Qab (.agg (ints .u8 (sigV k7 ([97,98])))) 20 rfl kj (Qae 30 _ g15 30 _ _ r15_15 rfl kj kj (isz (n:=64) kj ((Qaf _ _).trans (Qbm k7 ([97,98]))))) ?_
  refine Qbd (ints .u8 ([98])) 5 1 21 rfl kj kj fun g22 W16 l22 e16 r22_16=>?_
  have x16:Ext w W16:=Ext.tr x15 e16
  have b22:w.heap.size≤g22:=qT x15.size l22
  refine QdX (xs:=[98]) 27 5 (.tmp 21) 22 rfl rfl kj kj kj kj rfl (show 1≤maxLen by decide) r22_16 fun W17 p17 r22_17 rd23=>?_
  have x17:Ext w W17:=Puts.ext p17 x16 b22
  refine Qbd (#[.slice (some ⟨g22,0,none⟩) 1 1]) 27 1 23 rfl kj kj fun g24 W18 l24 e18 r24_18=>?_
  have x18:Ext w W18:=Ext.tr x17 e18
  have b24:w.heap.size≤g24:=qT x17.size l24
  have f25_18:=(rd23.ext e18)
  have hps26:∀ p∈([(.slice (some ⟨g22,0,none⟩) 1 1,[98])]:List (Value×List Int)),RdK .u8 W18.heap.size p.2 p.1 W18∧Qak p.2:=by
    intro p hp
    simp only [List.mem_cons,List.not_mem_nil,or_false] at hp
    rcases hp with rfl
    · exact ⟨RdK.here f25_18,QjU⟩
  have hone26:∀ u∈([(.slice (some ⟨g22,0,none⟩) 1 1,[98])]:List (Value×List Int)).map Prod.fst,u.oneCell'=true:=by
    intro u hu
    simp only [List.map_cons,List.map_nil,List.mem_cons,List.not_mem_nil,or_false] at hu
    rcases hu with rfl <;> rfl
  refine Qar (.bool false) 16 #[.agg (ints .u8 (pubV k7)),.agg (ints .u8 (sigV k7 ([97,98]))),.slice (some ⟨g24,0,none⟩) 1 1] 24 rfl kj kj (verE ver7 (QgW (pubV k7) (sigV k7 ([97,98])) (Qco k7) (Qdv k7) (Qbm k7 ([97,98])) (Qen k7 ([97,98])) g24 1 _ ([(.slice (some ⟨g22,0,none⟩) 1 1,[98])]:List (Value×List Int)) rfl (by decide) hone26 tc tq tO tB tX tY _ (hT.ext x18) r24_18 hps26 ([98]) rfl (by decide))) fun W19 e19=>?_
  have x19:Ext w W19:=Ext.tr x18 e19
  refine Qab (.bool true) 25 rfl kj kj ?_
  refine Qab (.bool true) 26 rfl kj kj ?_
  refine Qab (.bool true) 0 rfl kj kj ?_
  refine Qag ?_
  refine hK16 _ _ ?_
  refine wp_ret ?_
  repeat (first | with_reducible refine goR1 ?_ | with_reducible refine goR2 ?_)
  exact (show bodyPost _ _ _ .ret _ _ from ret1 (.bool true) rfl (Qb6 kj) ⟨rfl,x19⟩)
end Go.Proofs.YtdoadngmgmdlbaaDoor.Sgn
end
section
namespace Go.Proofs.YtdoadngmgmdlbaaDoor.Sgn
open Go Go.RowKit
open Rely Auto Own Sha5
def Qd1 (a : Option Addr) (l cap:Nat):Option Addr:=if cap=l then a else a.map (·.add l)
theorem Qlu {P : Program} {ρ:Operand→Value} {o:Oper} (t:TypeId) (x z:Operand) (h n cap:Nat) (a:Option Addr) (e:TypeId) (ho:o.op=.slice t x none (some z) none) (hx:ρ x=.slice a n cap)
    (hu:P.underlying t=some (.slice e)) (hs:(P.info? e).map (·.size)=some 1) (kz:IntKind) (hz:ρ z=.int kz (h:Int)) (h1:h≤cap) (w:World):(execOp ρ o).run P w=.ok (.value (.slice a h cap)) w:=by
  cases hq:P.info? e with
  | none=>simp [hq] at hs
  | some i =>
    have hs':i.size=1:=by simpa [hq] using hs
    unfold execOp
    have hadd:∀ a:Option Addr,Option.map (fun x=>x.add 0) a=a:=fun a=>by
      cases a with
      | none=>rfl
      | some a=>obtain ⟨b,o,s⟩:=a; cases s <;> simp [Addr.add]
    simp [ho,hx,hz,Instr.sliceAt,Instr.slice,Instr.sliceBounds,run_sliceBound,run_underlying hu,sizeOf,typeInfo,hq,hs',h1,hadd]
theorem Qh9 {P : Program} {ρ:Operand→Value} {o:Oper} (t:TypeId) (x z:Operand) (l n cap:Nat) (a:Option Addr) (e:TypeId) (ho:o.op=.slice t x (some z) none none) (hx:ρ x=.slice a n cap)
    (hu:P.underlying t=some (.slice e)) (hs:(P.info? e).map (·.size)=some 1) (kz:IntKind) (hz:ρ z=.int kz (l:Int)) (h1:l≤n) (h2:n≤cap) (w:World):(execOp ρ o).run P w=.ok (.value (.slice (Qd1 a l cap) (n-l) (cap-l))) w:=by
  cases hq:P.info? e with
  | none=>simp [hq] at hs
  | some i =>
    have hs':i.size=1:=by simpa [hq] using hs
    unfold execOp Qd1
    simp [ho,hx,hz,Instr.sliceAt,Instr.slice,Instr.sliceBounds,run_sliceBound,run_underlying hu,sizeOf,typeInfo,hq,hs',h1,h2]
theorem Qlw {k : IntKind} {B n cap:Nat} {ys:List Int} {a:Option Addr} {w:World} (hv:RdK k B ys (.slice a n cap) w) {h:Nat} (h1:h≤ys.length):RdK k B (ys.take h) (.slice a h cap) w:=by
  obtain ⟨a',cap',e,y2,y3,y4,y5⟩:=hv
  simp only [Value.slice.injEq] at e
  obtain ⟨rfl,rfl,rfl⟩:=e
  have hlen:(ys.take h).length=h:=by rw [List.length_take]; omega
  refine ⟨_,_,by rw [hlen],by omega,y3,y4,?_⟩
  rcases y5 with rfl | ⟨g,off,rfl,q2,q3,q4⟩
  · exact .inl (by simp)
  · refine .inr ⟨g,off,rfl,q2,q3,fun i hi=>?_⟩
    rw [hlen] at hi
    rw [q4 i (by omega)]
    simp [nth,List.getElem?_take,hi]
theorem Qgq {k : IntKind} {B n cap:Nat} {ys:List Int} {a:Option Addr} {w:World} (hv:RdK k B ys (.slice a n cap) w) {l:Nat} (h1:l≤ys.length):RdK k B (ys.drop l) (.slice (Qd1 a l cap) (n-l) (cap-l)) w:=by
  obtain ⟨a',cap',e,y2,y3,y4,y5⟩:=hv
  simp only [Value.slice.injEq] at e
  obtain ⟨rfl,rfl,rfl⟩:=e
  unfold Qd1
  refine ⟨_,_,by rw [List.length_drop],by rw [List.length_drop]; omega,by omega,fun h=>?_,?_⟩
  · cases a with
    | none=>have:=y4 rfl; omega
    | some a=>split at h <;> simp at h
  · rcases y5 with rfl | ⟨g,off,rfl,q2,q3,q4⟩
    · exact .inl (by simp)
    · by_cases hl:l=ys.length
      · exact .inl (by rw [hl]; simp)
      · refine .inr ⟨g,off+l,?_,q2,q3,fun i hi=>?_⟩
        · rw [if_neg (by omega),Option.map_some,WideShapes.add_plain]
        · rw [List.length_drop] at hi
          rw [Nat.add_assoc,q4 (l+i) (by omega)]
          simp [nth]
theorem QfF {k : IntKind} {B n cap:Nat} {ys:List Int} {a:Option Addr} {w:World} (hv:RdK k B ys (.slice a n cap) w):n≤cap:=by
  obtain ⟨a',cap',e,y2,_⟩:=hv
  simp only [Value.slice.injEq] at e
  obtain ⟨rfl,rfl,rfl⟩:=e
  exact y2
theorem Qok {P : Program} {w:World} (t:TypeId) (k:IntKind) (a b:Int) (hb:b≠0):(binOp .rem t (.int k a) (.int k b)).run P w=.ok (.int k (a.tmod b)) w:=by
  unfold binOp Op.intDiv
  simp [hb]
theorem QlP (at_ : Int) (n:Nat) (hn:0<n):∃ k:Nat,k<n∧Int.tmod (IntKind.u64.wrap at_) ((n:Nat):Int)=(k:Int):=by
  have h0:0≤IntKind.u64.wrap at_:=Int.emod_nonneg _ (by decide)
  have h1:=Int.emod_nonneg (IntKind.u64.wrap at_) (show ((n:Nat):Int)≠0 by omega)
  have h2:=Int.emod_lt_of_pos (IntKind.u64.wrap at_) (show (0:Int)<((n:Nat):Int) by omega)
  refine ⟨(IntKind.u64.wrap at_%(n:Int)).toNat,by omega,?_⟩
  rw [Int.tmod_eq_emod_of_nonneg h0,Int.toNat_of_nonneg h1]
theorem QlG (n : Nat) (h:n≤65536):IntKind.u64.wrap ((n:Nat):Int)=((n:Nat):Int):=Int.emod_eq_of_lt (by omega) (by show ((n:Nat):Int)<18446744073709551616; omega)
theorem Qkg (xs ys:List Int) (r:Bool) (hx:xs.length=64) (hy:ys.length=64) (h:decide (xs=ys)=r) (W:World):(binOp .eql 30 (.agg (ints .u8 xs)) (.agg (ints .u8 ys))).run Tryd.prog W=.ok (.bool r) W:=by
  rw [QhZ W Tryd.underlying30 Tryd.underlying5 kj xs ys hx hy,h]
end Go.Proofs.YtdoadngmgmdlbaaDoor.Sgn
end
section
namespace Go.Proofs.YtdoadngmgmdlbaaDoor.Sgn
open Go Go.RowKit
open Rely Auto Own Sha5
open Ladder (clamp)
open Field (Qao resN numA num lims QbQ ordL Qbq QbS QbR QaP encP Qbo pa QcT pAdd pNeg mulP QcG okK xK zK lK mulR BP QbU numB nmul OnP Qc0)
theorem tkb {xs : List Int} (h:Qak xs) {n:Nat}:Qak (xs.take n):=fun x hx=>h x (List.mem_of_mem_take hx)
theorem QkL (xs : List Int) (hx:xs.length=32) (hb:Qak xs) (t:List Int) (a_t:Option Addr) (c_t B_t:Nat) (hbt:Qak t) (cut:Int) (tc tq tO tB tX tY:TypeId) (w:World) (hT:Tabs tc tq tO tB tX tY w) (hr:RdK .u8 B_t t (.slice a_t t.length c_t) w) (hl:1000<t.length):Calls Tryd.prog 6 #[.agg (ints .u8 xs),.slice a_t t.length c_t,.int .i64 cut] w (Ret w (.bool true)):=by
  refine enter 50 [(0,.agg (ints .u8 (xs))),(1,.slice a_t t.length c_t),(2,.int .i64 cut)] Tryd.func6 rfl rfl kj rfl ?_
  refine wp_seq_k fun K1 hK1=>?_
  refine Qad ?_
  refine Qaj (ints .u8 (xs)) 23 3 rfl kj kj fun g2 W1 l2 e1 r2_1=>?_
  have x1:Ext w W1:=Ext.tr (Rely.Ext.refl w) e1
  have b2:w.heap.size≤g2:=qT (Rely.Ext.refl w).size l2
  refine Qab (.bool false) 6 rfl kj kj ?_
  refine Qag ?_
  refine hK1 _ _ ?_
  refine wp_seq_k fun K3 hK3=>?_
  refine wp_seq_k fun K4 hK4=>?_
  refine Qad ?_
  refine Qar (.bool true) 9 #[] 9 rfl kj kj (QjX tc tq tO tB tX tY _ (hT.ext x1)) fun W2 e2=>?_
  have x2:Ext w W2:=Ext.tr x1 e2
  refine Qab (.bool false) 10 rfl kj kj ?_
  refine Qag ?_
  refine hK4 _ _ ?_
  refine cond_false kj ?_
  refine wp_skip ?_
  refine hK3 _ _ ?_
  refine wp_seq_k fun K5 hK5=>?_
  refine wp_seq_k fun K6 hK6=>?_
  refine Qad ?_
  refine Qab (.slice a_t t.length c_t) 11 rfl kj kj ?_
  refine Qab (.int .i64 ((t.length:Nat):Int)) 12 rfl kj kj ?_
  refine Qab (.bool true) 13 rfl kj (Qax (u:=.bool (decide (((t.length:Nat):Int)>1000))) kj (congrArg Value.bool (decide_eq_true (by omega)))) ?_
  refine Qag ?_
  refine hK6 _ _ ?_
  refine cond_true kj ?_
  refine wp_seq_k fun K7 hK7=>?_
  refine Qad ?_
  refine Qab (.bool true) 6 rfl kj kj ?_
  refine Qag ?_
  refine hK7 _ _ ?_
  refine wp_ret ?_
  repeat (first | with_reducible refine goR1 ?_ | with_reducible refine goR2 ?_)
  exact (show bodyPost _ _ _ .ret _ _ from ret1 (.bool true) rfl (Qb6 kj) ⟨rfl,x2⟩)
theorem QkK (xs : List Int) (hx:xs.length=32) (hb:Qak xs) (t:List Int) (a_t:Option Addr) (c_t B_t:Nat) (hbt:Qak t) (cut:Int) (tc tq tO tB tX tY:TypeId) (w:World) (hT:Tabs tc tq tO tB tX tY w) (hr:RdK .u8 B_t t (.slice a_t t.length c_t) w) (hl:t.length≤1000):Calls Tryd.prog 6 #[.agg (ints .u8 xs),.slice a_t t.length c_t,.int .i64 cut] w (Ret w (.bool true)):=by
 obtain ⟨kk,hkk,hkk2⟩:=QlP cut (t.length+1) (by omega)
 refine enter 50 [(0,.agg (ints .u8 (xs))),(1,.slice a_t t.length c_t),(2,.int .i64 cut)] Tryd.func6 rfl rfl kj rfl ?_
 refine wp_seq_k fun K1 hK1=>?_
 refine Qad ?_
 refine Qaj (ints .u8 (xs)) 23 3 rfl kj kj fun g2 W1 l2 e1 r2_1=>?_
 have x1:Ext w W1:=Ext.tr (Rely.Ext.refl w) e1
 have b2:w.heap.size≤g2:=qT (Rely.Ext.refl w).size l2
 refine Qab (.bool false) 6 rfl kj kj ?_
 refine Qag ?_
 refine hK1 _ _ ?_
 refine wp_seq_k fun K3 hK3=>?_
 refine wp_seq_k fun K4 hK4=>?_
 refine Qad ?_
 refine Qar (.bool true) 9 #[] 9 rfl kj kj (QjX tc tq tO tB tX tY _ (hT.ext x1)) fun W2 e2=>?_
 have x2:Ext w W2:=Ext.tr x1 e2
 refine Qab (.bool false) 10 rfl kj kj ?_
 refine Qag ?_
 refine hK4 _ _ ?_
 refine cond_false kj ?_
 refine wp_skip ?_
 refine hK3 _ _ ?_
 refine wp_seq_k fun K5 hK5=>?_
 refine wp_seq_k fun K6 hK6=>?_
 refine Qad ?_
 refine Qab (.slice a_t t.length c_t) 11 rfl kj kj ?_
 refine Qab (.int .i64 ((t.length:Nat):Int)) 12 rfl kj kj ?_
 refine Qab (.bool false) 13 rfl kj (Qax (u:=.bool (decide (((t.length:Nat):Int)>1000))) kj (congrArg Value.bool (decide_eq_false (by omega)))) ?_
 refine Qag ?_
 refine hK6 _ _ ?_
 refine cond_false kj ?_
 refine wp_skip ?_
 refine hK5 _ _ ?_
 refine wp_seq_k fun K7 hK7=>?_
 refine Qad ?_
 refine Qab (.int .i64 cut) 14 rfl kj kj ?_
 refine Qab (.int .u64 (IntKind.u64.wrap cut)) 15 rfl kj (Qax (u:=.int .u64 (IntKind.u64.wrap (cut))) kj (congrArg (Value.int .u64) rfl)) ?_
 refine Qab (.slice a_t t.length c_t) 16 rfl kj kj ?_
 refine Qab (.int .i64 ((t.length:Nat):Int)) 17 rfl kj kj ?_
 refine Qab (.int .i64 ((t.length+1:Nat):Int)) 18 rfl kj (Qax (u:=.int .i64 (IntKind.i64.wrap (((t.length:Nat):Int)+1))) kj (congrArg (Value.int .i64) (i64n _ _ (by omega) (by omega)))) ?_
 refine Qab (.int .u64 (((t.length+1:Nat):Int))) 19 rfl kj (Qax (u:=.int .u64 (IntKind.u64.wrap ((t.length+1:Nat):Int))) kj (congrArg (Value.int .u64) (QlG _ (by omega)))) ?_
 refine Qab (.int .u64 ((kk:Nat):Int)) 20 rfl kj (Qbv .rem _ _ _ _ .u64 .u64 _ _ _ rfl kj kj ((Qok _ .u64 _ ((t.length+1:Nat):Int) (by omega)).trans (by rw [hkk2]))) ?_
 refine Qab (.int .i64 (((kk:Nat):Int))) 21 rfl kj (Qax (u:=.int .i64 (IntKind.i64.wrap ((kk:Nat):Int))) kj (congrArg (Value.int .i64) (Qhq kk (by omega)))) ?_
 refine Qab (.int .i64 (((kk:Nat):Int))) 7 rfl kj kj ?_
 refine Qag ?_
 refine hK7 _ _ ?_
 refine wp_seq_k fun K8 hK8=>?_
 refine Qad ?_
 have r2_2:=(Qaa r2_1 e2)
 refine Qab (.agg (ints .u8 (xs))) 22 rfl kj (Qae 23 _ g2 23 _ _ r2_2 rfl kj kj (isz (n:=32) kj ((Qaf _ _).trans hx))) ?_
 refine Qab (.slice a_t t.length c_t) 23 rfl kj kj ?_
 refine Qbd (#[.slice a_t t.length c_t]) 27 1 24 rfl kj kj fun g9 W3 l9 e3 r9_3=>?_
 have x3:Ext w W3:=Ext.tr x2 e3
 have b9:w.heap.size≤g9:=qT x2.size l9
 have hps10:∀ p∈([(.slice a_t t.length c_t,t)]:List (Value×List Int)),RdK .u8 W3.heap.size p.2 p.1 W3∧Qak p.2:=by
  intro p hp
  simp only [List.mem_cons,List.not_mem_nil,or_false] at hp
  rcases hp with rfl
  ·exact ⟨RdK.here (RdK.ext hr x3),hbt⟩
 have hone10:∀ u∈([(.slice a_t t.length c_t,t)]:List (Value×List Int)).map Prod.fst,u.oneCell'=true:=by
  intro u hu
  simp only [List.map_cons,List.map_nil,List.mem_cons,List.not_mem_nil,or_false] at hu
  rcases hu with rfl <;> rfl
 refine Qar (.agg (ints .u8 (sigV xs t))) 13 #[.agg (ints .u8 (xs)),.slice (some ⟨g9,0,none⟩) 1 1] 25 rfl kj kj (QlL xs hx hb g9 1 _ ([(.slice a_t t.length c_t,t)]:List (Value×List Int)) rfl (by decide) hone10 tc tq tO tB tX tY _ (hT.ext x3) r9_3 hps10 t (by simp) (by omega)) fun W4 e4=>?_
 have x4:Ext w W4:=Ext.tr x3 e4
 refine Qaj (ints .u8 (List.replicate 64 0)) 30 8 rfl kj kj fun g11 W5 l11 e5 r11_5=>?_
 have x5:Ext w W5:=Ext.tr x4 e5
 have b11:w.heap.size≤g11:=qT x4.size l11
 refine Qal g11 _ (ints .u8 (sigV xs t)) 30 r11_5 rfl kj (Qai 30 _ _ g11 30 _ _ r11_5 rfl kj kj (isz (n:=64) kj ((Qaf _ _).trans (Qbm xs t))) (eqsz (n:=64) ((Qaf _ _).trans (qZ (n:=64))) ((Qaf _ _).trans (Qbm xs t))) (ints_one _ _)) fun W6 p6 r11_6=>?_
 have x6:Ext w W6:=Puts.ext p6 x5 b11
 refine Qag ?_
 refine hK8 _ _ ?_
 refine wp_seq_k fun K12 hK12=>?_
 refine Qbb 22 [⟨none,[(3,none)]⟩,⟨none,[(26,some 0)]⟩,⟨none,[(8,none)]⟩,⟨none,[(1,none)]⟩,⟨none,[(7,none)]⟩,⟨none,[(29,some 3),(30,some 4)]⟩,⟨none,[(1,none)]⟩,⟨none,[(7,none)]⟩,⟨none,[(32,some 6),(33,some 7)]⟩,⟨none,[(31,some 5),(34,some 8)]⟩,⟨none,[(27,some 1),(28,some 2),(35,some 9)]⟩,⟨none,[(36,some 10)]⟩,⟨some (37,true),[(8,none),(37,some 11)]⟩,⟨some (37,true),[(3,none),(37,some 11)]⟩,⟨some (37,true),[(1,none),(37,some 11)]⟩,⟨some (37,true),[(7,none),(37,some 11)]⟩,⟨some (37,true),[(40,some 14),(41,some 15),(37,some 11)]⟩,⟨some (37,true),[(1,none),(37,some 11)]⟩,⟨some (37,true),[(7,none),(37,some 11)]⟩,⟨some (37,true),[(43,some 17),(44,some 18),(37,some 11)]⟩,⟨some (37,true),[(42,some 16),(45,some 19),(37,some 11)]⟩,⟨some (37,true),[(39,some 13),(46,some 20),(37,some 11)]⟩] kj kj fun F hF=>?_
 have r2_3:=(Qaa r2_2 e3)
 have r2_4:=(Qaa r2_3 e4)
 have r2_5:=(Qaa r2_4 e5)
 have r2_6:=(Puts.row p6 r2_5 (Qac r2_4 l11))
 refine QgI (QaG _) (.agg (ints .u8 (xs))) kj kj (fun W hR=>(Qae 23 _ g2 23 _ _ (Qaa (Qaa r2_6 (Qah _)) hR) rfl kj kj (isz (n:=32) kj ((Qaf _ _).trans hx)))) ?_
 refine QnD (QaG _) (.agg (ints .u8 (pubV xs))) 10 #[.agg (ints .u8 (xs))] kj kj (fun W=>kj) (fun W hR=>Qjk xs hx hb tc tq tO tB tX tY W (hT.ext (Rely.Ext.trans (Rely.Ext.trans x6 (Qah _)) hR))) ?_
 refine QgI (QaG _) (.agg (ints .u8 (sigV xs t))) kj kj (fun W hR=>(Qae 30 _ g11 30 _ _ (Qaa (Qaa r11_6 (Qah _)) hR) rfl kj kj (isz (n:=64) kj ((Qaf _ _).trans (Qbm xs t))))) ?_
 refine Qbr (QaG _) (.slice a_t t.length c_t) kj kj (fun W=>kj) ?_
 refine Qbr (QaG _) (.int .i64 (((kk:Nat):Int))) kj kj (fun W=>kj) ?_
 refine Qbr (QaG _) (.slice a_t kk c_t) kj kj (fun W=>Qlu 27 (.tmp 29) (.tmp 30) kk t.length c_t a_t 5 rfl kj kj kj .i64 kj (qT (show kk≤t.length by omega) (QfF hr)) W) ?_
 refine Qbr (QaG _) (.slice a_t t.length c_t) kj kj (fun W=>kj) ?_
 refine Qbr (QaG _) (.int .i64 (((kk:Nat):Int))) kj kj (fun W=>kj) ?_
 refine Qbr (QaG _) (.slice (Qd1 a_t kk c_t) (t.length-kk) (c_t-kk)) kj kj (fun W=>Qh9 27 (.tmp 32) (.tmp 33) kk t.length c_t a_t 5 rfl kj kj kj .i64 kj (show kk≤t.length by omega) (QfF hr) W) ?_
 refine Ql3 (QaG _) (#[.slice a_t kk c_t,.slice (Qd1 a_t kk c_t) (t.length-kk) (c_t-kk)]) 27 2 (NewS.stable _ _ _ _) kj kj (fun W=>kj) ?_
 refine QmG (QaG _) (.bool true) 16 (fun ρ W hR hh=>?_) ?_
 ·skip
  have e27:ρ 27=.agg (ints .u8 (pubV xs)):=(QfU hh 0 27 1 rfl kj)
  have e28:ρ 28=.agg (ints .u8 (sigV xs t)):=(QfU hh 1 28 2 rfl kj)
  obtain ⟨gs35,e35,lo35,rr35⟩:NewS W6.drew.heap.size (#[.slice a_t kk c_t,.slice (Qd1 a_t kk c_t) (t.length-kk) (c_t-kk)]) 27 2 (ρ 35) W:=(QhT hh 2 35 9 rfl kj)
  refine ⟨#[.agg (ints .u8 (pubV xs)),.agg (ints .u8 (sigV xs t)),.slice (some ⟨gs35,0,none⟩) 2 2],Eq.trans (b:=Result.ok (Next.enter 16 #[ρ 27,ρ 28,ρ 35]) W) kj (by rw [e27,e28,e35]),?_⟩
  have hps14:∀ p∈([(.slice a_t kk c_t,t.take kk),(.slice (Qd1 a_t kk c_t) (t.length-kk) (c_t-kk),t.drop kk)]:List (Value×List Int)),RdK .u8 W.heap.size p.2 p.1 W∧Qak p.2:=by
   intro p hp
   simp only [List.mem_cons,List.not_mem_nil,or_false] at hp
   rcases hp with rfl | rfl
   ·exact ⟨RdK.here (RdK.ext (Qlw (RdK.ext hr x6) (show kk≤t.length by omega)) (Rely.Ext.trans (Qah _) hR)),(tkb hbt)⟩
   ·exact ⟨RdK.here (RdK.ext (Qgq (RdK.ext hr x6) (show kk≤t.length by omega)) (Rely.Ext.trans (Qah _) hR)),(QcY hbt kk)⟩
  have hone14:∀ u∈([(.slice a_t kk c_t,t.take kk),(.slice (Qd1 a_t kk c_t) (t.length-kk) (c_t-kk),t.drop kk)]:List (Value×List Int)).map Prod.fst,u.oneCell'=true:=by
   intro u hu
   simp only [List.map_cons,List.map_nil,List.mem_cons,List.not_mem_nil,or_false] at hu
   rcases hu with rfl | rfl <;> rfl
  exact verE (QiR xs t) (QgW (pubV xs) (sigV xs t) (Qco xs) (Qdv xs) (Qbm xs t) (Qen xs t) gs35 2 _ ([(.slice a_t kk c_t,t.take kk),(.slice (Qd1 a_t kk c_t) (t.length-kk) (c_t-kk),t.drop kk)]:List (Value×List Int)) rfl (by decide) hone14 tc tq tO tB tX tY _ (hT.ext (Rely.Ext.trans (Rely.Ext.trans x6 (Qah _)) hR)) rr35 hps14 t (by simp) (by omega))
 refine Qbr (QaG _) (.bool true) kj kj (fun W=>kj) ?_
 refine QgI (QaG _) (.agg (ints .u8 (sigV xs t))) kj kj (fun W hR=>(Qae 30 _ g11 30 _ _ (Qaa (Qaa r11_6 (Qah _)) hR) rfl kj kj (isz (n:=64) kj ((Qaf _ _).trans (Qbm xs t))))) ?_
 refine QgI (QaG _) (.agg (ints .u8 (xs))) kj kj (fun W hR=>(Qae 23 _ g2 23 _ _ (Qaa (Qaa r2_6 (Qah _)) hR) rfl kj kj (isz (n:=32) kj ((Qaf _ _).trans hx)))) ?_
 refine Qbr (QaG _) (.slice a_t t.length c_t) kj kj (fun W=>kj) ?_
 refine Qbr (QaG _) (.int .i64 (((kk:Nat):Int))) kj kj (fun W=>kj) ?_
 refine Qbr (QaG _) (.slice a_t kk c_t) kj kj (fun W=>Qlu 27 (.tmp 40) (.tmp 41) kk t.length c_t a_t 5 rfl kj kj kj .i64 kj (qT (show kk≤t.length by omega) (QfF hr)) W) ?_
 refine Qbr (QaG _) (.slice a_t t.length c_t) kj kj (fun W=>kj) ?_
 refine Qbr (QaG _) (.int .i64 (((kk:Nat):Int))) kj kj (fun W=>kj) ?_
 refine Qbr (QaG _) (.slice (Qd1 a_t kk c_t) (t.length-kk) (c_t-kk)) kj kj (fun W=>Qh9 27 (.tmp 43) (.tmp 44) kk t.length c_t a_t 5 rfl kj kj kj .i64 kj (show kk≤t.length by omega) (QfF hr) W) ?_
 refine Ql3 (QaG _) (#[.slice a_t kk c_t,.slice (Qd1 a_t kk c_t) (t.length-kk) (c_t-kk)]) 27 2 (NewS.stable _ _ _ _) kj kj (fun W=>kj) ?_
 refine Qlb (QaG _) (.agg (ints .u8 (sigV xs t))) 13 11 rfl kj (fun ρ W hR hh=>?_) ?_
 ·skip
  have e39:ρ 39=.agg (ints .u8 (xs)):=(QfU hh 0 39 13 rfl kj)
  obtain ⟨gs46,e46,lo46,rr46⟩:NewS W6.drew.heap.size (#[.slice a_t kk c_t,.slice (Qd1 a_t kk c_t) (t.length-kk) (c_t-kk)]) 27 2 (ρ 46) W:=(QhT hh 1 46 20 rfl kj)
  refine ⟨#[.agg (ints .u8 (xs)),.slice (some ⟨gs46,0,none⟩) 2 2],Eq.trans (b:=Result.ok (Next.enter 13 #[ρ 39,ρ 46]) W) kj (by rw [e39,e46]),?_⟩
  have hps16:∀ p∈([(.slice a_t kk c_t,t.take kk),(.slice (Qd1 a_t kk c_t) (t.length-kk) (c_t-kk),t.drop kk)]:List (Value×List Int)),RdK .u8 W.heap.size p.2 p.1 W∧Qak p.2:=by
   intro p hp
   simp only [List.mem_cons,List.not_mem_nil,or_false] at hp
   rcases hp with rfl | rfl
   ·exact ⟨RdK.here (RdK.ext (Qlw (RdK.ext hr x6) (show kk≤t.length by omega)) (Rely.Ext.trans (Qah _) hR)),(tkb hbt)⟩
   ·exact ⟨RdK.here (RdK.ext (Qgq (RdK.ext hr x6) (show kk≤t.length by omega)) (Rely.Ext.trans (Qah _) hR)),(QcY hbt kk)⟩
  have hone16:∀ u∈([(.slice a_t kk c_t,t.take kk),(.slice (Qd1 a_t kk c_t) (t.length-kk) (c_t-kk),t.drop kk)]:List (Value×List Int)).map Prod.fst,u.oneCell'=true:=by
   intro u hu
   simp only [List.map_cons,List.map_nil,List.mem_cons,List.not_mem_nil,or_false] at hu
   rcases hu with rfl | rfl <;> rfl
  exact QlL xs hx hb gs46 2 _ ([(.slice a_t kk c_t,t.take kk),(.slice (Qd1 a_t kk c_t) (t.length-kk) (c_t-kk),t.drop kk)]:List (Value×List Int)) rfl (by decide) hone16 tc tq tO tB tX tY _ (hT.ext (Rely.Ext.trans (Rely.Ext.trans x6 (Qah _)) hR)) rr46 hps16 t (by simp) (by omega)
 refine Qe7 (hF _ fun W7 e7=>?_)
 simp only [List.nil_append,List.cons_append,List.take_succ_cons,List.take_zero,List.drop_succ_cons,List.drop_zero,finE,up]
 intro vv13 hv13 vv15 hv15
 clear hF
 have x7:Ext w W7:=Ext.tr x6 e7
 obtain ⟨g13,rfl,l13,r13_7⟩:=hv13
 have b13:w.heap.size≤g13:=qT x6.size l13
 obtain ⟨g15,rfl,l15,r15_7⟩:=hv15
 have b15:w.heap.size≤g15:=qT x6.size l15
 refine Qab (.bool true) 48 rfl kj (Qcz 30 _ _ _ _ _ (.bool true) rfl kj kj kj (Qkg (sigV xs t) (sigV xs t) true (Qbm xs t) (Qbm xs t) (decide_eq_true rfl) _)) ?_
 refine Qab (.bool true) 49 rfl kj kj ?_
 refine Qab (.bool true) 6 rfl kj kj ?_
 refine Qag ?_
 refine hK12 _ _ ?_
 refine wp_ret ?_
 repeat (first | with_reducible refine goR1 ?_ | with_reducible refine goR2 ?_)
 exact (show bodyPost _ _ _ .ret _ _ from ret1 (.bool true) rfl (Qb6 kj) ⟨rfl,x7⟩)
theorem lawBack (xs : List Int) (hx:xs.length=32) (hb:Qak xs) (t:List Int) (a_t:Option Addr) (c_t B_t:Nat) (hbt:Qak t) (cut:Int) (tc tq tO tB tX tY:TypeId) (w:World) (hT:Tabs tc tq tO tB tX tY w) (hr:RdK .u8 B_t t (.slice a_t t.length c_t) w):Calls Tryd.prog 6 #[.agg (ints .u8 xs),.slice a_t t.length c_t,.int .i64 cut] w (Ret w (.bool true)):=by
  rcases Nat.lt_or_ge 1000 t.length with hl | hl
  · exact QkL xs hx hb t a_t c_t B_t hbt cut tc tq tO tB tX tY w hT hr hl
  · exact QkK xs hx hb t a_t c_t B_t hbt cut tc tq tO tB tX tY w hT hr hl
end Go.Proofs.YtdoadngmgmdlbaaDoor.Sgn
end
section
namespace Go.Proofs.YtdoadngmgmdlbaaDoor.Auto
open Go Go.RowKit
open Rely
theorem laidVars_at {P : Program} {w:World}:∀ (laid:List (String×DataW Unit)) (ps:List MemPlace) (n:String) (d:DataW Unit),DataW.LaidVars P w laid ps→(n,d)∈laid →
    ∃ g t cs fuel p,P.globalNamed n=some g∧(P.globals[g]?).map (·.type)=some t∧w.var? P n=some cs∧DataW.trod (fun _=>()) P w 0 (fun _=>true) false fuel t cs.toList=some (d,p)∧∀ x∈MemPlace.row ⟨g,0,none⟩ cs.size,x∈ps
  | [],_,_,_,_,h=>by cases h
  | (n0,d0)::r,ps,n,d,⟨g,t,cs,fuel,p,q,h1,h2,h3,h4,h5,h6⟩,h=>by
    subst h6
    rcases List.mem_cons.1 h with h | h
    · cases h
      exact ⟨g,t,cs,fuel,p,h1,h2,h3,h4,fun x hx=>List.mem_append_left _ (List.mem_append_left _ hx)⟩
    · obtain ⟨g',t',cs',fuel',p',a,b,c,e,f⟩:=laidVars_at r q n d h5 h
      exact ⟨g',t',cs',fuel',p',a,b,c,e,fun x hx=>List.mem_append_right _ (f x hx)⟩
theorem laid_row {P : Program} {w:World} {laid:List (String×DataW Unit)} {n:String} {k:IntKind} {zs:List Int} {g:Nat} {t e:TypeId} {m:Nat} (h:laidMet P laid w) (hm:(n,Lib.tabData k zs)∈laid)
    (hg:P.globalNamed n=some g) (hty:(P.globals[g]?).map (·.type)=some t) (ht:P.underlying t=some (.array m e)) (he:P.underlying e=some (.int k)) (hce:P.cellsOf e=1) (hct:P.cellsOf t=m) (h0:0<zs.length) :
    ∃ t,w.heap[g]? = some (.cells (ints k zs) t):=by
  obtain ⟨ps,hL,-,hC⟩:=h
  obtain ⟨g',t',cs,fuel,p,hg',ht',hvar,hd,hin⟩:=laidVars_at _ _ _ _ hL hm
  obtain rfl:=Option.some.inj (hg.symm.trans hg')
  obtain rfl:=Option.some.inj (hty.symm.trans ht')
  have hcs:=Lib.cells_of_tab ht he hce hct hd
  have hsz:0<cs.size:=by rw [←Array.length_toList,hcs,List.length_map]; exact h0
  obtain ⟨⟨c,t2,hc⟩,-⟩:=hC g 0 (hin _ (List.mem_map.2 ⟨0,List.mem_range.2 hsz,rfl⟩))
  unfold World.var? at hvar
  rw [hg] at hvar
  simp only [Option.bind_some,hc,Option.some.injEq] at hvar
  subst hvar
  refine ⟨t2,hc.trans ?_⟩
  rw [show c=ints k zs from by rw [ints,←hcs]]
theorem bytes_wf {bs : List Int} (h:∀ n∈bs,(Lit.int .u8 n).wf=true):Qak bs:=fun n hn=>by
  have:=h n hn
  simpa [Lit.wf,IntKind.min,IntKind.max,IntKind.signed,IntKind.bits] using this
end Go.Proofs.YtdoadngmgmdlbaaDoor.Auto
end
