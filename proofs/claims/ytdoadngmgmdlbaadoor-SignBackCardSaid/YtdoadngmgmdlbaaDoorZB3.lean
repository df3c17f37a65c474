/- Texts of this claim, joined (B3). -/
import Derived.Test.YtdoadngmgmdlbaaDoorZB2
import Derived.WalkKit
import Derived.Great.BuildSlice

set_option linter.unusedVariables false
set_option linter.unusedSimpArgs false
set_option maxHeartbeats 4000000
section
namespace Go.Proofs.YtdoadngmgmdlbaaDoor.Field
open Go Go.RowKit
open Rely Auto
def patF (x y:Int):Int×Int :=
  let s0:=(y-1)%p
  (x,s0)
theorem Qkx (x y:Int) (h_x:isN x) (h_y:isN y) (s0:Int)
    (c0:∀ W,Calls Tryd.prog 69 #[.agg (numA (y)),.agg (numA (1))] W (Ret W (.agg (numA (s0))))) (w:World) :
    Calls Tryd.prog 43 #[.agg (numA (x)),.agg (numA (y))] w (Ret w (.agg (cat [numA (x),numA (s0)]))):=by
  refine enter 10 [(0,.agg (numA (x))),(1,.agg (numA (y)))] Tryd.func43 rfl rfl kj rfl ?_
  refine wp_seq_k fun K1 hK1=>?_
  refine Qad ?_
  refine Qaj (numA (x)) 49 2 rfl kj kj fun g2 W1 l2 e1 r2_1=>?_
  have x1:Ext w W1:=Ext.tr (Rely.Ext.refl w) e1
  have b2:w.heap.size≤g2:=qT (Rely.Ext.refl w).size l2
  refine Qaj (numA (y)) 49 3 rfl kj kj fun g3 W2 l3 e2 r3_2=>?_
  have x2:Ext w W2:=Ext.tr x1 e2
  have b3:w.heap.size≤g3:=qT x1.size l3
  refine Qaj (cat [numA (0),numA (0)]) 51 4 rfl kj kj fun g4 W3 l4 e3 r4_3=>?_
  have x3:Ext w W3:=Ext.tr x2 e3
  have b4:w.heap.size≤g4:=qT x2.size l4
  refine Qag ?_
  refine hK1 _ _ ?_
  refine wp_seq_k fun K5 hK5=>?_
  refine QaB 5 [⟨none,[(2,none)]⟩,⟨none,[(3,none)]⟩,⟨none,[]⟩,⟨none,[(6,some 1),(7,some 2)]⟩,⟨none,[(5,some 0),(8,some 3)]⟩] kj kj fun F hF=>?_
  have r2_3:=(Qaa (Qaa r2_1 e2) e3)
  refine Qam (.agg (numA (x))) kj kj (fun W hR=>(Qae 49 _ g2 49 _ _ (Qaa (Qaa r2_3 (Qah _)) hR) rfl kj kj (isz (n:=4) kj kj))) ?_
  have r3_3:=(Qaa r3_2 e3)
  refine Qam (.agg (numA (y))) kj kj (fun W hR=>(Qae 49 _ g3 49 _ _ (Qaa (Qaa r3_3 (Qah _)) hR) rfl kj kj (isz (n:=4) kj kj))) ?_
  refine Qaq (.agg (numA (1))) 67 #[.int .i64 1] kj kj (fun W=>kj) (fun W hR=>(Qdf 1 (by decide)) W) ?_
  refine Qaq (.agg (numA (s0))) 69 #[.agg (numA (y)),.agg (numA (1))] kj kj (fun W=>kj) (fun W hR=>c0 W) ?_
  refine Qav (.agg (cat [numA (x),numA (s0)])) kj kj (fun W=>kj) ?_
  refine Qa3 (hF _ kj fun W4 e4=>?_)
  simp only [ups,up,Kn.val,List.take_succ_cons,List.take_zero,List.drop_succ_cons,List.drop_zero,List.nil_append,List.cons_append]
  clear hF
  have x4:Ext w W4:=Ext.tr x3 e4
  have r4_4:=(Qaa r4_3 e4)
  refine Qal g4 _ (cat [numA (x),numA (s0)]) 51 r4_4 rfl kj (Qai 51 _ _ g4 51 _ _ r4_4 rfl kj kj (isz (n:=8) kj kj) (eqsz (n:=8) kj kj) kj) fun W5 p5 r4_5=>?_
  have x5:Ext w W5:=Puts.ext p5 x4 b4
  refine Qag ?_
  refine hK5 _ _ ?_
  refine wp_ret ?_
  exact (show bodyPost _ _ _ .ret _ _ from ret1 (.agg (cat [numA (x),numA (s0)])) rfl (Qa9 g4 51 _ r4_5 kj kj (isz (n:=8) kj kj)) ⟨rfl,x5⟩)
theorem patC (x y:Int) (h_x:isN x) (h_y:isN y) (w:World):Calls Tryd.prog 43 #[.agg (numA (x)),.agg (numA (y))] w (Ret w (.agg (cat [numA ((patF x y).1),numA ((patF x y).2)]))) :=
  Qkx x y h_x h_y _ (sub _ _ h_y (Qb7 1)) w
def QfI (x : Int):Int :=
  let s0:=(0-x)%p
  (s0)
theorem Qjm (x : Int) (h_x:isN x) (s0:Int)
    (c0:∀ W,Calls Tryd.prog 69 #[.agg (numA (0)),.agg (numA (x))] W (Ret W (.agg (numA (s0))))) (w:World) :
    Calls Tryd.prog 72 #[.agg (numA (x))] w (Ret w (.agg (numA (s0)))):=by
  refine enter 6 [(0,.agg (numA (x)))] Tryd.func72 rfl rfl kj rfl ?_
  refine wp_seq_k fun K1 hK1=>?_
  refine Qad ?_
  refine Qaj (numA (x)) 49 1 rfl kj kj fun g2 W1 l2 e1 r2_1=>?_
  have x1:Ext w W1:=Ext.tr (Rely.Ext.refl w) e1
  have b2:w.heap.size≤g2:=qT (Rely.Ext.refl w).size l2
  refine Qaj (numA (0)) 49 2 rfl kj kj fun g3 W2 l3 e2 r3_2=>?_
  have x2:Ext w W2:=Ext.tr x1 e2
  have b3:w.heap.size≤g3:=qT x1.size l3
  refine Qag ?_
  refine hK1 _ _ ?_
  refine wp_seq_k fun K4 hK4=>?_
  refine Qad ?_
  refine Qab (.agg (numA (0))) 3 rfl kj kj ?_
  have r2_2:=(Qaa r2_1 e2)
  refine Qab (.agg (numA (x))) 4 rfl kj (Qae 49 _ g2 49 _ _ r2_2 rfl kj kj (isz (n:=4) kj kj)) ?_
  refine Qar (.agg (numA (s0))) 69 #[.agg (numA (0)),.agg (numA (x))] 5 rfl kj kj (c0 _) fun W3 e3=>?_
  have x3:Ext w W3:=Ext.tr x2 e3
  have r3_3:=(Qaa r3_2 e3)
  refine Qal g3 _ (numA (s0)) 49 r3_3 rfl kj (Qai 49 _ _ g3 49 _ _ r3_3 rfl kj kj (isz (n:=4) kj kj) (eqsz (n:=4) kj kj) kj) fun W4 p4 r3_4=>?_
  have x4:Ext w W4:=Puts.ext p4 x3 b3
  refine Qag ?_
  refine hK4 _ _ ?_
  refine wp_ret ?_
  exact (show bodyPost _ _ _ .ret _ _ from ret1 (.agg (numA (s0))) rfl (Qa9 g3 49 _ r3_4 kj kj (isz (n:=4) kj kj)) ⟨rfl,x4⟩)
theorem Qnq (x : Int) (h_x:isN x) (w:World):Calls Tryd.prog 72 #[.agg (numA (x))] w (Ret w (.agg (numA ((QfI x))))) :=
  Qjm x h_x _ (sub _ _ (Qb7 0) h_x) w
theorem QhH (x : Int) (h_x:isN x):isN (QfI x):=(Qa0 _)
def pyF (x l:Int):Int :=
  let s0:=(l+1)%p
  (s0)
theorem QlQ (x l:Int) (h_x:isN x) (h_l:isN l) (s0:Int)
    (c0:∀ W,Calls Tryd.prog 68 #[.agg (numA (l)),.agg (numA (1))] W (Ret W (.agg (numA (s0))))) (w:World) :
    Calls Tryd.prog 49 #[.agg (cat [numA (x),numA (l)])] w (Ret w (.agg (numA (s0)))):=by
  refine enter 7 [(0,.agg (cat [numA (x),numA (l)]))] Tryd.func49 rfl rfl kj rfl ?_
  refine wp_seq_k fun K1 hK1=>?_
  refine Qad ?_
  refine Qaj (cat [numA (x),numA (l)]) 51 1 rfl kj kj fun g2 W1 l2 e1 r2_1=>?_
  have x1:Ext w W1:=Ext.tr (Rely.Ext.refl w) e1
  have b2:w.heap.size≤g2:=qT (Rely.Ext.refl w).size l2
  refine Qaj (numA (0)) 49 2 rfl kj kj fun g3 W2 l3 e2 r3_2=>?_
  have x2:Ext w W2:=Ext.tr x1 e2
  have b3:w.heap.size≤g3:=qT x1.size l3
  refine Qag ?_
  refine hK1 _ _ ?_
  refine wp_seq_k fun K4 hK4=>?_
  refine QaB 4 [⟨none,[(1,none)]⟩,⟨none,[(3,some 0)]⟩,⟨none,[]⟩,⟨none,[(4,some 1),(5,some 2)]⟩] kj kj fun F hF=>?_
  refine Qav (.pointer (some ⟨g2,4,none⟩)) kj kj (fun W=>kj) ?_
  have r2_2:=(Qaa r2_1 e2)
  refine Qam (.agg (numA (l))) kj kj (fun W hR=>(Qaz 49 _ g2 4 51 _ _ _ (Qaa (Qaa r2_2 (Qah _)) hR) rfl kj (QaF [numA (x)] [numA (l)] [] 4 kj) kj (isz (n:=4) kj kj))) ?_
  refine Qaq (.agg (numA (1))) 67 #[.int .i64 1] kj kj (fun W=>kj) (fun W hR=>(Qdf 1 (by decide)) W) ?_
  refine Qaq (.agg (numA (s0))) 68 #[.agg (numA (l)),.agg (numA (1))] kj kj (fun W=>kj) (fun W hR=>c0 W) ?_
  refine Qa3 (hF _ kj fun W3 e3=>?_)
  simp only [ups,up,Kn.val,List.take_succ_cons,List.take_zero,List.drop_succ_cons,List.drop_zero,List.nil_append,List.cons_append]
  clear hF
  have x3:Ext w W3:=Ext.tr x2 e3
  have r3_3:=(Qaa r3_2 e3)
  refine Qal g3 _ (numA (s0)) 49 r3_3 rfl kj (Qai 49 _ _ g3 49 _ _ r3_3 rfl kj kj (isz (n:=4) kj kj) (eqsz (n:=4) kj kj) kj) fun W4 p4 r3_4=>?_
  have x4:Ext w W4:=Puts.ext p4 x3 b3
  refine Qag ?_
  refine hK4 _ _ ?_
  refine wp_ret ?_
  exact (show bodyPost _ _ _ .ret _ _ from ret1 (.agg (numA (s0))) rfl (Qa9 g3 49 _ r3_4 kj kj (isz (n:=4) kj kj)) ⟨rfl,x4⟩)
theorem pyC (x l:Int) (h_x:isN x) (h_l:isN l) (w:World):Calls Tryd.prog 49 #[.agg (cat [numA (x),numA (l)])] w (Ret w (.agg (numA ((pyF x l))))) :=
  QlQ x l h_x h_l _ (add _ _ h_l (Qb7 1)) w
theorem Qgr (x l:Int) (h_x:isN x) (h_l:isN l):isN (pyF x l):=(Qa0 _)
def Qcp (x l:Int):Int×Int×Int×Int :=
  let s0:=(pyF x l)
  let s1:=x*s0%p
  (x,s0,1,s1)
theorem Qiv (x l:Int) (h_x:isN x) (h_l:isN l) (s0 s1:Int)
    (c0:∀ W,Calls Tryd.prog 49 #[.agg (cat [numA (x),numA (l)])] W (Ret W (.agg (numA (s0)))))
    (c1:∀ W,Calls Tryd.prog 66 #[.agg (numA (x)),.agg (numA (s0))] W (Ret W (.agg (numA (s1))))) (w:World) :
    Calls Tryd.prog 45 #[.agg (cat [numA (x),numA (l)])] w (Ret w (.agg (cat [numA (x),numA (s0),numA (1),numA (s1)]))):=by
  refine enter 14 [(0,.agg (cat [numA (x),numA (l)]))] Tryd.func45 rfl rfl kj rfl ?_
  refine wp_seq_k fun K1 hK1=>?_
  refine Qad ?_
  refine Qaj (cat [numA (x),numA (l)]) 51 1 rfl kj kj fun g2 W1 l2 e1 r2_1=>?_
  have x1:Ext w W1:=Ext.tr (Rely.Ext.refl w) e1
  have b2:w.heap.size≤g2:=qT (Rely.Ext.refl w).size l2
  refine Qaj (cat [numA (0),numA (0),numA (0),numA (0)]) 78 2 rfl kj kj fun g3 W2 l3 e2 r3_2=>?_
  have x2:Ext w W2:=Ext.tr x1 e2
  have b3:w.heap.size≤g3:=qT x1.size l3
  refine Qag ?_
  refine hK1 _ _ ?_
  refine wp_seq_k fun K4 hK4=>?_
  refine QaB 11 [⟨none,[(1,none)]⟩,⟨none,[(3,some 0)]⟩,⟨none,[(1,none)]⟩,⟨none,[(5,some 2)]⟩,⟨none,[]⟩,⟨none,[(1,none)]⟩,⟨none,[(8,some 5)]⟩,⟨none,[(1,none)]⟩,⟨none,[(10,some 7)]⟩,⟨none,[(9,some 6),(11,some 8)]⟩,⟨none,[(4,some 1),(6,some 3),(7,some 4),(12,some 9)]⟩] kj kj fun F hF=>?_
  refine Qav (.pointer (some ⟨g2,0,none⟩)) kj kj (fun W=>kj) ?_
  have r2_2:=(Qaa r2_1 e2)
  refine Qam (.agg (numA (x))) kj kj (fun W hR=>(Qaz 49 _ g2 0 51 _ _ _ (Qaa (Qaa r2_2 (Qah _)) hR) rfl kj (QaF [] [numA (x)] [numA (l)] 0 kj) kj (isz (n:=4) kj kj))) ?_
  refine Qam (.agg (cat [numA (x),numA (l)])) kj kj (fun W hR=>(Qae 51 _ g2 51 _ _ (Qaa (Qaa r2_2 (Qah _)) hR) rfl kj kj (isz (n:=8) kj kj))) ?_
  refine Qaq (.agg (numA (s0))) 49 #[.agg (cat [numA (x),numA (l)])] kj kj (fun W=>kj) (fun W hR=>c0 W) ?_
  refine Qaq (.agg (numA (1))) 67 #[.int .i64 1] kj kj (fun W=>kj) (fun W hR=>(Qdf 1 (by decide)) W) ?_
  refine Qav (.pointer (some ⟨g2,0,none⟩)) kj kj (fun W=>kj) ?_
  refine Qam (.agg (numA (x))) kj kj (fun W hR=>(Qaz 49 _ g2 0 51 _ _ _ (Qaa (Qaa r2_2 (Qah _)) hR) rfl kj (QaF [] [numA (x)] [numA (l)] 0 kj) kj (isz (n:=4) kj kj))) ?_
  refine Qam (.agg (cat [numA (x),numA (l)])) kj kj (fun W hR=>(Qae 51 _ g2 51 _ _ (Qaa (Qaa r2_2 (Qah _)) hR) rfl kj kj (isz (n:=8) kj kj))) ?_
  refine Qaq (.agg (numA (s0))) 49 #[.agg (cat [numA (x),numA (l)])] kj kj (fun W=>kj) (fun W hR=>c0 W) ?_
  refine Qaq (.agg (numA (s1))) 66 #[.agg (numA (x)),.agg (numA (s0))] kj kj (fun W=>kj) (fun W hR=>c1 W) ?_
  refine Qav (.agg (cat [numA (x),numA (s0),numA (1),numA (s1)])) kj kj (fun W=>kj) ?_
  refine Qa3 (hF _ kj fun W3 e3=>?_)
  simp only [ups,up,Kn.val,List.take_succ_cons,List.take_zero,List.drop_succ_cons,List.drop_zero,List.nil_append,List.cons_append]
  clear hF
  have x3:Ext w W3:=Ext.tr x2 e3
  have r3_3:=(Qaa r3_2 e3)
  refine Qal g3 _ (cat [numA (x),numA (s0),numA (1),numA (s1)]) 78 r3_3 rfl kj (Qai 78 _ _ g3 78 _ _ r3_3 rfl kj kj (isz (n:=16) kj kj) (eqsz (n:=16) kj kj) kj) fun W4 p4 r3_4=>?_
  have x4:Ext w W4:=Puts.ext p4 x3 b3
  refine Qag ?_
  refine hK4 _ _ ?_
  refine wp_ret ?_
  exact (show bodyPost _ _ _ .ret _ _ from ret1 (.agg (cat [numA (x),numA (s0),numA (1),numA (s1)])) rfl (Qa9 g3 78 _ r3_4 kj kj (isz (n:=16) kj kj)) ⟨rfl,x4⟩)
theorem QhC (x l:Int) (h_x:isN x) (h_l:isN l) (w:World):Calls Tryd.prog 45 #[.agg (cat [numA (x),numA (l)])] w (Ret w (.agg (cat [numA ((Qcp x l).1),numA ((Qcp x l).2.1),numA ((Qcp x l).2.2.1),numA ((Qcp x l).2.2.2)]))) :=
  Qiv x l h_x h_l _ _ (pyC _ _ h_x h_l) (mul _ _ h_x (Qgr _ _ h_x h_l)) w
theorem Qa2 (x l:Int) (h_x:isN x) (h_l:isN l):isN (Qcp x l).1∧isN (Qcp x l).2.1∧isN (Qcp x l).2.2.1∧isN (Qcp x l).2.2.2:=⟨h_x,(Qgr _ _ h_x h_l),(Qb7 1),(Qa0 _)⟩
def Qcq (a b c d e f g h k:Int):Int×Int×Int×Int :=
  let s0:=(b-a)%p
  let s1:=(f-e)%p
  let s2:=s0*s1%p
  let s3:=(b+a)%p
  let s4:=(f+e)%p
  let s5:=s3*s4%p
  let s6:=d*h%p
  let s7:=s6*k%p
  let s8:=(s7+s7)%p
  let s9:=c*g%p
  let s10:=(s9+s9)%p
  let s11:=(s5-s2)%p
  let s12:=(s10-s8)%p
  let s13:=(s10+s8)%p
  let s14:=(s5+s2)%p
  let s15:=s11*s12%p
  let s16:=s13*s14%p
  let s17:=s12*s13%p
  let s18:=s11*s14%p
  (s15,s16,s17,s18)
theorem QiP (a b c d e f g h k:Int) (h_a:isN a) (h_b:isN b) (h_c:isN c) (h_d:isN d) (h_e:isN e) (h_f:isN f) (h_g:isN g) (h_h:isN h) (h_k:isN k) (s0 s1 s2 s3 s4 s5 s6 s7 s8 s9 s10 s11 s12 s13 s14 s15 s16 s17 s18:Int)
    (c0:∀ W,Calls Tryd.prog 69 #[.agg (numA (b)),.agg (numA (a))] W (Ret W (.agg (numA (s0)))))
    (c1:∀ W,Calls Tryd.prog 69 #[.agg (numA (f)),.agg (numA (e))] W (Ret W (.agg (numA (s1)))))
    (c2:∀ W,Calls Tryd.prog 66 #[.agg (numA (s0)),.agg (numA (s1))] W (Ret W (.agg (numA (s2)))))
    (c3:∀ W,Calls Tryd.prog 68 #[.agg (numA (b)),.agg (numA (a))] W (Ret W (.agg (numA (s3)))))
    (c4:∀ W,Calls Tryd.prog 68 #[.agg (numA (f)),.agg (numA (e))] W (Ret W (.agg (numA (s4)))))
    (c5:∀ W,Calls Tryd.prog 66 #[.agg (numA (s3)),.agg (numA (s4))] W (Ret W (.agg (numA (s5)))))
    (c6:∀ W,Calls Tryd.prog 66 #[.agg (numA (d)),.agg (numA (h))] W (Ret W (.agg (numA (s6)))))
    (c7:∀ W,Calls Tryd.prog 66 #[.agg (numA (s6)),.agg (numA (k))] W (Ret W (.agg (numA (s7)))))
    (c8:∀ W,Calls Tryd.prog 68 #[.agg (numA (s7)),.agg (numA (s7))] W (Ret W (.agg (numA (s8)))))
    (c9:∀ W,Calls Tryd.prog 66 #[.agg (numA (c)),.agg (numA (g))] W (Ret W (.agg (numA (s9)))))
    (c10:∀ W,Calls Tryd.prog 68 #[.agg (numA (s9)),.agg (numA (s9))] W (Ret W (.agg (numA (s10)))))
    (c11:∀ W,Calls Tryd.prog 69 #[.agg (numA (s5)),.agg (numA (s2))] W (Ret W (.agg (numA (s11)))))
    (c12:∀ W,Calls Tryd.prog 69 #[.agg (numA (s10)),.agg (numA (s8))] W (Ret W (.agg (numA (s12)))))
    (c13:∀ W,Calls Tryd.prog 68 #[.agg (numA (s10)),.agg (numA (s8))] W (Ret W (.agg (numA (s13)))))
    (c14:∀ W,Calls Tryd.prog 68 #[.agg (numA (s5)),.agg (numA (s2))] W (Ret W (.agg (numA (s14)))))
    (c15:∀ W,Calls Tryd.prog 66 #[.agg (numA (s11)),.agg (numA (s12))] W (Ret W (.agg (numA (s15)))))
    (c16:∀ W,Calls Tryd.prog 66 #[.agg (numA (s13)),.agg (numA (s14))] W (Ret W (.agg (numA (s16)))))
    (c17:∀ W,Calls Tryd.prog 66 #[.agg (numA (s12)),.agg (numA (s13))] W (Ret W (.agg (numA (s17)))))
    (c18:∀ W,Calls Tryd.prog 66 #[.agg (numA (s11)),.agg (numA (s14))] W (Ret W (.agg (numA (s18))))) (w:World) :
    Calls Tryd.prog 47 #[.agg (cat [numA (a),numA (b),numA (c),numA (d)]),.agg (cat [numA (e),numA (f),numA (g),numA (h)]),.agg (numA (k))] w (Ret w (.agg (cat [numA (s15),numA (s16),numA (s17),numA (s18)]))):=by
  refine enter 80 [(0,.agg (cat [numA (a),numA (b),numA (c),numA (d)])),(1,.agg (cat [numA (e),numA (f),numA (g),numA (h)])),(2,.agg (numA (k)))] Tryd.func47 rfl rfl kj rfl ?_
  refine wp_seq_k fun K1 hK1=>?_
  refine Qad ?_
  refine Qaj (cat [numA (a),numA (b),numA (c),numA (d)]) 78 3 rfl kj kj fun g2 W1 l2 e1 r2_1=>?_
  have x1:Ext w W1:=Ext.tr (Rely.Ext.refl w) e1
  have b2:w.heap.size≤g2:=qT (Rely.Ext.refl w).size l2
  refine Qaj (cat [numA (e),numA (f),numA (g),numA (h)]) 78 4 rfl kj kj fun g3 W2 l3 e2 r3_2=>?_
  have x2:Ext w W2:=Ext.tr x1 e2
  have b3:w.heap.size≤g3:=qT x1.size l3
  refine Qaj (numA (k)) 49 5 rfl kj kj fun g4 W3 l4 e3 r4_3=>?_
  have x3:Ext w W3:=Ext.tr x2 e3
  have b4:w.heap.size≤g4:=qT x2.size l4
  refine Qaj (cat [numA (0),numA (0),numA (0),numA (0)]) 78 6 rfl kj kj fun g5 W4 l5 e4 r5_4=>?_
  have x4:Ext w W4:=Ext.tr x3 e4
  have b5:w.heap.size≤g5:=qT x3.size l5
  refine Qag ?_
  refine hK1 _ _ ?_
  refine wp_seq_k fun K6 hK6=>?_
  refine Qbc 12 [⟨none,[(3,none)]⟩,⟨none,[(15,some 0)]⟩,⟨none,[(3,none)]⟩,⟨none,[(17,some 2)]⟩,⟨none,[(16,some 1),(18,some 3)]⟩,⟨none,[(4,none)]⟩,⟨none,[(20,some 5)]⟩,⟨none,[(4,none)]⟩,⟨none,[(22,some 7)]⟩,⟨none,[(21,some 6),(23,some 8)]⟩,⟨none,[(19,some 4),(24,some 9)]⟩,⟨none,[]⟩] [11] kj kj kj fun F hF=>?_
  refine Qav (.pointer (some ⟨g2,4,none⟩)) kj kj (fun W=>kj) ?_
  have r2_4:=(Qaa (Qaa (Qaa r2_1 e2) e3) e4)
  refine Qam (.agg (numA (b))) kj kj (fun W hR=>(Qaz 49 _ g2 4 78 _ _ _ (Qaa (Qaa r2_4 (Qah _)) hR) rfl kj (QaF [numA (a)] [numA (b)] [numA (c),numA (d)] 4 kj) kj (isz (n:=4) kj kj))) ?_
  refine Qav (.pointer (some ⟨g2,0,none⟩)) kj kj (fun W=>kj) ?_
  refine Qam (.agg (numA (a))) kj kj (fun W hR=>(Qaz 49 _ g2 0 78 _ _ _ (Qaa (Qaa r2_4 (Qah _)) hR) rfl kj (QaF [] [numA (a)] [numA (b),numA (c),numA (d)] 0 kj) kj (isz (n:=4) kj kj))) ?_
  refine Qaq (.agg (numA (s0))) 69 #[.agg (numA (b)),.agg (numA (a))] kj kj (fun W=>kj) (fun W hR=>c0 W) ?_
  refine Qav (.pointer (some ⟨g3,4,none⟩)) kj kj (fun W=>kj) ?_
  have r3_4:=(Qaa (Qaa r3_2 e3) e4)
  refine Qam (.agg (numA (f))) kj kj (fun W hR=>(Qaz 49 _ g3 4 78 _ _ _ (Qaa (Qaa r3_4 (Qah _)) hR) rfl kj (QaF [numA (e)] [numA (f)] [numA (g),numA (h)] 4 kj) kj (isz (n:=4) kj kj))) ?_
  refine Qav (.pointer (some ⟨g3,0,none⟩)) kj kj (fun W=>kj) ?_
  refine Qam (.agg (numA (e))) kj kj (fun W hR=>(Qaz 49 _ g3 0 78 _ _ _ (Qaa (Qaa r3_4 (Qah _)) hR) rfl kj (QaF [] [numA (e)] [numA (f),numA (g),numA (h)] 0 kj) kj (isz (n:=4) kj kj))) ?_
  refine Qaq (.agg (numA (s1))) 69 #[.agg (numA (f)),.agg (numA (e))] kj kj (fun W=>kj) (fun W hR=>c1 W) ?_
  refine Qaq (.agg (numA (s2))) 66 #[.agg (numA (s0)),.agg (numA (s1))] kj kj (fun W=>kj) (fun W hR=>c2 W) ?_
  refine QbI (numA (0)) 49 kj (qR _) kj (fun W=>kj) ?_
  refine Qa3 (hF _ kj fun W5 e5=>?_)
  simp only [fins,up,List.take_succ_cons,List.take_zero,List.drop_succ_cons,List.drop_zero,List.nil_append,List.cons_append]
  intro g7 l7 r7_5 n7
  have b7:w.heap.size≤g7:=qT x4.size l7
  clear hF
  have x5:Ext w W5:=Ext.tr x4 e5
  refine Qal g7 _ (numA (s2)) 49 r7_5 rfl kj (Qai 49 _ _ g7 49 _ _ r7_5 rfl kj kj (isz (n:=4) kj kj) (eqsz (n:=4) kj kj) kj) fun W6 p6 r7_6=>?_
  have x6:Ext w W6:=Puts.ext p6 x5 b7
  refine Qag ?_
  refine hK6 _ _ ?_
  refine wp_seq_k fun K8 hK8=>?_
  refine Qbc 12 [⟨none,[(3,none)]⟩,⟨none,[(26,some 0)]⟩,⟨none,[(3,none)]⟩,⟨none,[(28,some 2)]⟩,⟨none,[(27,some 1),(29,some 3)]⟩,⟨none,[(4,none)]⟩,⟨none,[(31,some 5)]⟩,⟨none,[(4,none)]⟩,⟨none,[(33,some 7)]⟩,⟨none,[(32,some 6),(34,some 8)]⟩,⟨none,[(30,some 4),(35,some 9)]⟩,⟨none,[]⟩] [11] kj kj kj fun F hF=>?_
  refine Qav (.pointer (some ⟨g2,4,none⟩)) kj kj (fun W=>kj) ?_
  have r2_6:=(Puts.row p6 (Qaa r2_4 e5) (Qac r2_4 l7))
  refine Qam (.agg (numA (b))) kj kj (fun W hR=>(Qaz 49 _ g2 4 78 _ _ _ (Qaa (Qaa r2_6 (Qah _)) hR) rfl kj (QaF [numA (a)] [numA (b)] [numA (c),numA (d)] 4 kj) kj (isz (n:=4) kj kj))) ?_
  refine Qav (.pointer (some ⟨g2,0,none⟩)) kj kj (fun W=>kj) ?_
  refine Qam (.agg (numA (a))) kj kj (fun W hR=>(Qaz 49 _ g2 0 78 _ _ _ (Qaa (Qaa r2_6 (Qah _)) hR) rfl kj (QaF [] [numA (a)] [numA (b),numA (c),numA (d)] 0 kj) kj (isz (n:=4) kj kj))) ?_
  refine Qaq (.agg (numA (s3))) 68 #[.agg (numA (b)),.agg (numA (a))] kj kj (fun W=>kj) (fun W hR=>c3 W) ?_
  refine Qav (.pointer (some ⟨g3,4,none⟩)) kj kj (fun W=>kj) ?_
  have r3_6:=(Puts.row p6 (Qaa r3_4 e5) (Qac r3_4 l7))
  refine Qam (.agg (numA (f))) kj kj (fun W hR=>(Qaz 49 _ g3 4 78 _ _ _ (Qaa (Qaa r3_6 (Qah _)) hR) rfl kj (QaF [numA (e)] [numA (f)] [numA (g),numA (h)] 4 kj) kj (isz (n:=4) kj kj))) ?_
  refine Qav (.pointer (some ⟨g3,0,none⟩)) kj kj (fun W=>kj) ?_
  refine Qam (.agg (numA (e))) kj kj (fun W hR=>(Qaz 49 _ g3 0 78 _ _ _ (Qaa (Qaa r3_6 (Qah _)) hR) rfl kj (QaF [] [numA (e)] [numA (f),numA (g),numA (h)] 0 kj) kj (isz (n:=4) kj kj))) ?_
  refine Qaq (.agg (numA (s4))) 68 #[.agg (numA (f)),.agg (numA (e))] kj kj (fun W=>kj) (fun W hR=>c4 W) ?_
  refine Qaq (.agg (numA (s5))) 66 #[.agg (numA (s3)),.agg (numA (s4))] kj kj (fun W=>kj) (fun W hR=>c5 W) ?_
  refine QbI (numA (0)) 49 kj (qR _) kj (fun W=>kj) ?_
  refine Qa3 (hF _ kj fun W7 e7=>?_)
  simp only [fins,up,List.take_succ_cons,List.take_zero,List.drop_succ_cons,List.drop_zero,List.nil_append,List.cons_append]
  intro g9 l9 r9_7 n9
  have b9:w.heap.size≤g9:=qT x6.size l9
  clear hF
  have x7:Ext w W7:=Ext.tr x6 e7
  refine Qal g9 _ (numA (s5)) 49 r9_7 rfl kj (Qai 49 _ _ g9 49 _ _ r9_7 rfl kj kj (isz (n:=4) kj kj) (eqsz (n:=4) kj kj) kj) fun W8 p8 r9_8=>?_
  have x8:Ext w W8:=Puts.ext p8 x7 b9
  refine Qag ?_
  refine hK8 _ _ ?_
  refine wp_seq_k fun K10 hK10=>?_
  refine Qbc 8 [⟨none,[(3,none)]⟩,⟨none,[(37,some 0)]⟩,⟨none,[(4,none)]⟩,⟨none,[(39,some 2)]⟩,⟨none,[(38,some 1),(40,some 3)]⟩,⟨none,[(5,none)]⟩,⟨none,[(41,some 4),(42,some 5)]⟩,⟨none,[]⟩] [7] kj kj kj fun F hF=>?_
  refine Qav (.pointer (some ⟨g2,12,none⟩)) kj kj (fun W=>kj) ?_
  have r2_8:=(Puts.row p8 (Qaa r2_6 e7) (Qac r2_6 l9))
  refine Qam (.agg (numA (d))) kj kj (fun W hR=>(Qaz 49 _ g2 12 78 _ _ _ (Qaa (Qaa r2_8 (Qah _)) hR) rfl kj (QaF [numA (a),numA (b),numA (c)] [numA (d)] [] 12 kj) kj (isz (n:=4) kj kj))) ?_
  refine Qav (.pointer (some ⟨g3,12,none⟩)) kj kj (fun W=>kj) ?_
  have r3_8:=(Puts.row p8 (Qaa r3_6 e7) (Qac r3_6 l9))
  refine Qam (.agg (numA (h))) kj kj (fun W hR=>(Qaz 49 _ g3 12 78 _ _ _ (Qaa (Qaa r3_8 (Qah _)) hR) rfl kj (QaF [numA (e),numA (f),numA (g)] [numA (h)] [] 12 kj) kj (isz (n:=4) kj kj))) ?_
  refine Qaq (.agg (numA (s6))) 66 #[.agg (numA (d)),.agg (numA (h))] kj kj (fun W=>kj) (fun W hR=>c6 W) ?_
  have r4_4:=(Qaa r4_3 e4)
  have r4_6:=(Puts.row p6 (Qaa r4_4 e5) (Qac r4_4 l7))
  have r4_8:=(Puts.row p8 (Qaa (Puts.row p6 (Qaa (Qaa r4_3 e4) e5) (Qac r4_4 l7)) e7) (Qac r4_6 l9))
  refine Qam (.agg (numA (k))) kj kj (fun W hR=>(Qae 49 _ g4 49 _ _ (Qaa (Qaa r4_8 (Qah _)) hR) rfl kj kj (isz (n:=4) kj kj))) ?_
  refine Qaq (.agg (numA (s7))) 66 #[.agg (numA (s6)),.agg (numA (k))] kj kj (fun W=>kj) (fun W hR=>c7 W) ?_
  refine QbI (numA (0)) 49 kj (qR _) kj (fun W=>kj) ?_
  refine Qa3 (hF _ kj fun W9 e9=>?_)
  simp only [fins,up,List.take_succ_cons,List.take_zero,List.drop_succ_cons,List.drop_zero,List.nil_append,List.cons_append]
  intro g11 l11 r11_9 n11
  have b11:w.heap.size≤g11:=qT x8.size l11
  clear hF
  have x9:Ext w W9:=Ext.tr x8 e9
  refine Qal g11 _ (numA (s7)) 49 r11_9 rfl kj (Qai 49 _ _ g11 49 _ _ r11_9 rfl kj kj (isz (n:=4) kj kj) (eqsz (n:=4) kj kj) kj) fun W10 p10 r11_10=>?_
  have x10:Ext w W10:=Puts.ext p10 x9 b11
  refine Qag ?_
  refine hK10 _ _ ?_
  refine wp_seq_k fun K12 hK12=>?_
  refine Qad ?_
  refine Qab (.agg (numA (s7))) 44 rfl kj (Qae 49 _ g11 49 _ _ r11_10 rfl kj kj (isz (n:=4) kj kj)) ?_
  refine Qab (.agg (numA (s7))) 45 rfl kj (Qae 49 _ g11 49 _ _ r11_10 rfl kj kj (isz (n:=4) kj kj)) ?_
  refine Qar (.agg (numA (s8))) 68 #[.agg (numA (s7)),.agg (numA (s7))] 46 rfl kj kj (c8 _) fun W11 e11=>?_
  have x11:Ext w W11:=Ext.tr x10 e11
  have r11_11:=(Qaa r11_10 e11)
  refine Qal g11 _ (numA (s8)) 49 r11_11 rfl kj (Qai 49 _ _ g11 49 _ _ r11_11 rfl kj kj (isz (n:=4) kj kj) (eqsz (n:=4) kj kj) kj) fun W12 p12 r11_12=>?_
  have x12:Ext w W12:=Puts.ext p12 x11 b11
  refine Qag ?_
  refine hK12 _ _ ?_
  refine wp_seq_k fun K13 hK13=>?_
  refine Qad ?_
  refine Qab (.pointer (some ⟨g2,8,none⟩)) 47 rfl kj kj ?_
  have r2_12:=(Puts.row p12 (Qaa (Puts.row p10 (Qaa r2_8 e9) (Qac r2_8 l11)) e11) (Qac r2_8 l11))
  refine Qab (.agg (numA (c))) 48 rfl kj (Qaz 49 _ g2 8 78 _ _ _ r2_12 rfl kj (QaF [numA (a),numA (b)] [numA (c)] [numA (d)] 8 kj) kj (isz (n:=4) kj kj)) ?_
  refine Qab (.pointer (some ⟨g3,8,none⟩)) 49 rfl kj kj ?_
  have r3_12:=(Puts.row p12 (Qaa (Puts.row p10 (Qaa r3_8 e9) (Qac r3_8 l11)) e11) (Qac r3_8 l11))
  refine Qab (.agg (numA (g))) 50 rfl kj (Qaz 49 _ g3 8 78 _ _ _ r3_12 rfl kj (QaF [numA (e),numA (f)] [numA (g)] [numA (h)] 8 kj) kj (isz (n:=4) kj kj)) ?_
  refine Qar (.agg (numA (s9))) 66 #[.agg (numA (c)),.agg (numA (g))] 51 rfl kj kj (c9 _) fun W13 e13=>?_
  have x13:Ext w W13:=Ext.tr x12 e13
  refine Qaj (numA (0)) 49 10 rfl kj kj fun g14 W14 l14 e14 r14_14=>?_
  have x14:Ext w W14:=Ext.tr x13 e14
  have b14:w.heap.size≤g14:=qT x13.size l14
  refine Qal g14 _ (numA (s9)) 49 r14_14 rfl kj (Qai 49 _ _ g14 49 _ _ r14_14 rfl kj kj (isz (n:=4) kj kj) (eqsz (n:=4) kj kj) kj) fun W15 p15 r14_15=>?_
  have x15:Ext w W15:=Puts.ext p15 x14 b14
  refine Qag ?_
  refine hK13 _ _ ?_
  refine wp_seq_k fun K15 hK15=>?_
  refine Qad ?_
  refine Qab (.agg (numA (s9))) 52 rfl kj (Qae 49 _ g14 49 _ _ r14_15 rfl kj kj (isz (n:=4) kj kj)) ?_
  refine Qab (.agg (numA (s9))) 53 rfl kj (Qae 49 _ g14 49 _ _ r14_15 rfl kj kj (isz (n:=4) kj kj)) ?_
  refine Qar (.agg (numA (s10))) 68 #[.agg (numA (s9)),.agg (numA (s9))] 54 rfl kj kj (c10 _) fun W16 e16=>?_
  have x16:Ext w W16:=Ext.tr x15 e16
  have r14_16:=(Qaa r14_15 e16)
  refine Qal g14 _ (numA (s10)) 49 r14_16 rfl kj (Qai 49 _ _ g14 49 _ _ r14_16 rfl kj kj (isz (n:=4) kj kj) (eqsz (n:=4) kj kj) kj) fun W17 p17 r14_17=>?_
  have x17:Ext w W17:=Puts.ext p17 x16 b14
  refine Qag ?_
  refine hK15 _ _ ?_
  refine wp_seq_k fun K16 hK16=>?_
  refine Qbc 16 [⟨none,[(8,none)]⟩,⟨none,[(7,none)]⟩,⟨none,[(55,some 0),(56,some 1)]⟩,⟨none,[(10,none)]⟩,⟨none,[(9,none)]⟩,⟨none,[(58,some 3),(59,some 4)]⟩,⟨none,[(10,none)]⟩,⟨none,[(9,none)]⟩,⟨none,[(61,some 6),(62,some 7)]⟩,⟨none,[(8,none)]⟩,⟨none,[(7,none)]⟩,⟨none,[(64,some 9),(65,some 10)]⟩,⟨none,[]⟩,⟨none,[]⟩,⟨none,[]⟩,⟨none,[]⟩] [12,13,14,15] kj kj kj fun F hF=>?_
  have r9_13:=(Qaa (Puts.row p12 (Qaa (Puts.row p10 (Qaa r9_8 e9) (Qac r9_8 l11)) e11) (Qac r9_8 l11)) e13)
  have r9_17:=(Puts.row p17 (Qaa (Puts.row p15 (Qaa (Qaa (Puts.row p12 (Qaa (Puts.row p10 (Qaa r9_8 e9) (Qac r9_8 l11)) e11) (Qac r9_8 l11)) e13) e14) (Qac r9_13 l14)) e16) (Qac r9_13 l14))
  refine Qam (.agg (numA (s5))) kj kj (fun W hR=>(Qae 49 _ g9 49 _ _ (Qaa (Qaa r9_17 (Qah _)) hR) rfl kj kj (isz (n:=4) kj kj))) ?_
  have r7_8:=(Puts.row p8 (Qaa r7_6 e7) (Qac r7_6 l9))
  have r7_13:=(Qaa (Puts.row p12 (Qaa (Puts.row p10 (Qaa r7_8 e9) (Qac r7_8 l11)) e11) (Qac r7_8 l11)) e13)
  have r7_17:=(Puts.row p17 (Qaa (Puts.row p15 (Qaa (Qaa (Puts.row p12 (Qaa (Puts.row p10 (Qaa (Puts.row p8 (Qaa r7_6 e7) (Qac r7_6 l9)) e9) (Qac r7_8 l11)) e11) (Qac r7_8 l11)) e13) e14) (Qac r7_13 l14)) e16) (Qac r7_13 l14))
  refine Qam (.agg (numA (s2))) kj kj (fun W hR=>(Qae 49 _ g7 49 _ _ (Qaa (Qaa r7_17 (Qah _)) hR) rfl kj kj (isz (n:=4) kj kj))) ?_
  refine Qaq (.agg (numA (s11))) 69 #[.agg (numA (s5)),.agg (numA (s2))] kj kj (fun W=>kj) (fun W hR=>c11 W) ?_
  refine Qam (.agg (numA (s10))) kj kj (fun W hR=>(Qae 49 _ g14 49 _ _ (Qaa (Qaa r14_17 (Qah _)) hR) rfl kj kj (isz (n:=4) kj kj))) ?_
  have r11_13:=(Qaa r11_12 e13)
  have r11_17:=(Puts.row p17 (Qaa (Puts.row p15 (Qaa (Qaa r11_12 e13) e14) (Qac r11_13 l14)) e16) (Qac r11_13 l14))
  refine Qam (.agg (numA (s8))) kj kj (fun W hR=>(Qae 49 _ g11 49 _ _ (Qaa (Qaa r11_17 (Qah _)) hR) rfl kj kj (isz (n:=4) kj kj))) ?_
  refine Qaq (.agg (numA (s12))) 69 #[.agg (numA (s10)),.agg (numA (s8))] kj kj (fun W=>kj) (fun W hR=>c12 W) ?_
  refine Qam (.agg (numA (s10))) kj kj (fun W hR=>(Qae 49 _ g14 49 _ _ (Qaa (Qaa r14_17 (Qah _)) hR) rfl kj kj (isz (n:=4) kj kj))) ?_
  refine Qam (.agg (numA (s8))) kj kj (fun W hR=>(Qae 49 _ g11 49 _ _ (Qaa (Qaa r11_17 (Qah _)) hR) rfl kj kj (isz (n:=4) kj kj))) ?_
  refine Qaq (.agg (numA (s13))) 68 #[.agg (numA (s10)),.agg (numA (s8))] kj kj (fun W=>kj) (fun W hR=>c13 W) ?_
  refine Qam (.agg (numA (s5))) kj kj (fun W hR=>(Qae 49 _ g9 49 _ _ (Qaa (Qaa r9_17 (Qah _)) hR) rfl kj kj (isz (n:=4) kj kj))) ?_
  refine Qam (.agg (numA (s2))) kj kj (fun W hR=>(Qae 49 _ g7 49 _ _ (Qaa (Qaa r7_17 (Qah _)) hR) rfl kj kj (isz (n:=4) kj kj))) ?_
  refine Qaq (.agg (numA (s14))) 68 #[.agg (numA (s5)),.agg (numA (s2))] kj kj (fun W=>kj) (fun W hR=>c14 W) ?_
  refine QbI (numA (0)) 49 kj (qR _) kj (fun W=>kj) ?_
  refine QbI (numA (0)) 49 kj (qR _) kj (fun W=>kj) ?_
  refine QbI (numA (0)) 49 kj (qR _) kj (fun W=>kj) ?_
  refine QbI (numA (0)) 49 kj (qR _) kj (fun W=>kj) ?_
  refine Qa3 (hF _ kj fun W18 e18=>?_)
  simp only [fins,up,List.take_succ_cons,List.take_zero,List.drop_succ_cons,List.drop_zero,List.nil_append,List.cons_append]
  intro g17 l17 r17_18 n17 g18 l18 r18_18 n18 g19 l19 r19_18 n19 g20 l20 r20_18 n20
  have b17:w.heap.size≤g17:=qT x17.size l17
  have b18:w.heap.size≤g18:=qT x17.size l18
  have n18_17:g18≠g17:=n18 _ (by simp)
  have b19:w.heap.size≤g19:=qT x17.size l19
  have n19_17:g19≠g17:=n19 _ (by simp)
  have n19_18:g19≠g18:=n19 _ (by simp)
  have b20:w.heap.size≤g20:=qT x17.size l20
  have n20_17:g20≠g17:=n20 _ (by simp)
  have n20_18:g20≠g18:=n20 _ (by simp)
  have n20_19:g20≠g19:=n20 _ (by simp)
  clear hF
  have x18:Ext w W18:=Ext.tr x17 e18
  refine Qal g17 _ (numA (s11)) 49 r17_18 rfl kj (Qai 49 _ _ g17 49 _ _ r17_18 rfl kj kj (isz (n:=4) kj kj) (eqsz (n:=4) kj kj) kj) fun W19 p19 r17_19=>?_
  have x19:Ext w W19:=Puts.ext p19 x18 b17
  have r18_19:=(Puts.row p19 r18_18 n18_17)
  refine Qal g18 _ (numA (s12)) 49 r18_19 rfl kj (Qai 49 _ _ g18 49 _ _ r18_19 rfl kj kj (isz (n:=4) kj kj) (eqsz (n:=4) kj kj) kj) fun W20 p20 r18_20=>?_
  have x20:Ext w W20:=Puts.ext p20 x19 b18
  have r19_20:=(Puts.row p20 (Puts.row p19 r19_18 n19_17) n19_18)
  refine Qal g19 _ (numA (s13)) 49 r19_20 rfl kj (Qai 49 _ _ g19 49 _ _ r19_20 rfl kj kj (isz (n:=4) kj kj) (eqsz (n:=4) kj kj) kj) fun W21 p21 r19_21=>?_
  have x21:Ext w W21:=Puts.ext p21 x20 b19
  have r20_21:=(Puts.row p21 (Puts.row p20 (Puts.row p19 r20_18 n20_17) n20_18) n20_19)
  refine Qal g20 _ (numA (s14)) 49 r20_21 rfl kj (Qai 49 _ _ g20 49 _ _ r20_21 rfl kj kj (isz (n:=4) kj kj) (eqsz (n:=4) kj kj) kj) fun W22 p22 r20_22=>?_
  have x22:Ext w W22:=Puts.ext p22 x21 b20
  refine Qag ?_
  refine hK16 _ _ ?_
  refine wp_seq_k fun K21 hK21=>?_
  refine QaB 13 [⟨none,[(11,none)]⟩,⟨none,[(12,none)]⟩,⟨none,[(67,some 0),(68,some 1)]⟩,⟨none,[(13,none)]⟩,⟨none,[(14,none)]⟩,⟨none,[(70,some 3),(71,some 4)]⟩,⟨none,[(12,none)]⟩,⟨none,[(13,none)]⟩,⟨none,[(73,some 6),(74,some 7)]⟩,⟨none,[(11,none)]⟩,⟨none,[(14,none)]⟩,⟨none,[(76,some 9),(77,some 10)]⟩,⟨none,[(69,some 2),(72,some 5),(75,some 8),(78,some 11)]⟩] kj kj fun F hF=>?_
  have r17_22:=(Puts.row p22 (Puts.row p21 (Puts.row p20 r17_19 (Ne.symm n18_17)) (Ne.symm n19_17)) (Ne.symm n20_17))
  refine Qam (.agg (numA (s11))) kj kj (fun W hR=>(Qae 49 _ g17 49 _ _ (Qaa (Qaa r17_22 (Qah _)) hR) rfl kj kj (isz (n:=4) kj kj))) ?_
  have r18_22:=(Puts.row p22 (Puts.row p21 r18_20 (Ne.symm n19_18)) (Ne.symm n20_18))
  refine Qam (.agg (numA (s12))) kj kj (fun W hR=>(Qae 49 _ g18 49 _ _ (Qaa (Qaa r18_22 (Qah _)) hR) rfl kj kj (isz (n:=4) kj kj))) ?_
  refine Qaq (.agg (numA (s15))) 66 #[.agg (numA (s11)),.agg (numA (s12))] kj kj (fun W=>kj) (fun W hR=>c15 W) ?_
  have r19_22:=(Puts.row p22 r19_21 (Ne.symm n20_19))
  refine Qam (.agg (numA (s13))) kj kj (fun W hR=>(Qae 49 _ g19 49 _ _ (Qaa (Qaa r19_22 (Qah _)) hR) rfl kj kj (isz (n:=4) kj kj))) ?_
  refine Qam (.agg (numA (s14))) kj kj (fun W hR=>(Qae 49 _ g20 49 _ _ (Qaa (Qaa r20_22 (Qah _)) hR) rfl kj kj (isz (n:=4) kj kj))) ?_
  refine Qaq (.agg (numA (s16))) 66 #[.agg (numA (s13)),.agg (numA (s14))] kj kj (fun W=>kj) (fun W hR=>c16 W) ?_
  refine Qam (.agg (numA (s12))) kj kj (fun W hR=>(Qae 49 _ g18 49 _ _ (Qaa (Qaa r18_22 (Qah _)) hR) rfl kj kj (isz (n:=4) kj kj))) ?_
  refine Qam (.agg (numA (s13))) kj kj (fun W hR=>(Qae 49 _ g19 49 _ _ (Qaa (Qaa r19_22 (Qah _)) hR) rfl kj kj (isz (n:=4) kj kj))) ?_
  refine Qaq (.agg (numA (s17))) 66 #[.agg (numA (s12)),.agg (numA (s13))] kj kj (fun W=>kj) (fun W hR=>c17 W) ?_
  refine Qam (.agg (numA (s11))) kj kj (fun W hR=>(Qae 49 _ g17 49 _ _ (Qaa (Qaa r17_22 (Qah _)) hR) rfl kj kj (isz (n:=4) kj kj))) ?_
  refine Qam (.agg (numA (s14))) kj kj (fun W hR=>(Qae 49 _ g20 49 _ _ (Qaa (Qaa r20_22 (Qah _)) hR) rfl kj kj (isz (n:=4) kj kj))) ?_
  refine Qaq (.agg (numA (s18))) 66 #[.agg (numA (s11)),.agg (numA (s14))] kj kj (fun W=>kj) (fun W hR=>c18 W) ?_
  refine Qav (.agg (cat [numA (s15),numA (s16),numA (s17),numA (s18)])) kj kj (fun W=>kj) ?_
  refine Qa3 (hF _ kj fun W23 e23=>?_)
  simp only [ups,up,Kn.val,List.take_succ_cons,List.take_zero,List.drop_succ_cons,List.drop_zero,List.nil_append,List.cons_append]
  clear hF
  have x23:Ext w W23:=Ext.tr x22 e23
  have r5_6:=(Puts.row p6 (Qaa r5_4 e5) (Qac r5_4 l7))
  have r5_8:=(Puts.row p8 (Qaa r5_6 e7) (Qac r5_6 l9))
  have r5_13:=(Qaa (Puts.row p12 (Qaa (Puts.row p10 (Qaa r5_8 e9) (Qac r5_8 l11)) e11) (Qac r5_8 l11)) e13)
  have r5_17:=(Puts.row p17 (Qaa (Puts.row p15 (Qaa r5_13 e14) (Qac r5_13 l14)) e16) (Qac r5_13 l14))
  have r5_23:=(Qaa (Puts.row p22 (Puts.row p21 (Puts.row p20 (Puts.row p19 (Qaa (Puts.row p17 (Qaa (Puts.row p15 (Qaa (Qaa (Puts.row p12 (Qaa (Puts.row p10 (Qaa (Puts.row p8 (Qaa (Puts.row p6 (Qaa r5_4 e5) (Qac r5_4 l7)) e7) (Qac r5_6 l9)) e9) (Qac r5_8 l11)) e11) (Qac r5_8 l11)) e13) e14) (Qac r5_13 l14)) e16) (Qac r5_13 l14)) e18) (Qac r5_17 l17)) (Qac r5_17 l18)) (Qac r5_17 l19)) (Qac r5_17 l20)) e23)
  refine Qal g5 _ (cat [numA (s15),numA (s16),numA (s17),numA (s18)]) 78 r5_23 rfl kj (Qai 78 _ _ g5 78 _ _ r5_23 rfl kj kj (isz (n:=16) kj kj) (eqsz (n:=16) kj kj) kj) fun W24 p24 r5_24=>?_
  have x24:Ext w W24:=Puts.ext p24 x23 b5
  refine Qag ?_
  refine hK21 _ _ ?_
  refine wp_ret ?_
  exact (show bodyPost _ _ _ .ret _ _ from ret1 (.agg (cat [numA (s15),numA (s16),numA (s17),numA (s18)])) rfl (Qa9 g5 78 _ r5_24 kj kj (isz (n:=16) kj kj)) ⟨rfl,x24⟩)
theorem QmX (a b c d e f g h k:Int) (h_a:isN a) (h_b:isN b) (h_c:isN c) (h_d:isN d) (h_e:isN e) (h_f:isN f) (h_g:isN g) (h_h:isN h) (h_k:isN k) (w:World):Calls Tryd.prog 47 #[.agg (cat [numA (a),numA (b),numA (c),numA (d)]),.agg (cat [numA (e),numA (f),numA (g),numA (h)]),.agg (numA (k))] w (Ret w (.agg (cat [numA ((Qcq a b c d e f g h k).1),numA ((Qcq a b c d e f g h k).2.1),numA ((Qcq a b c d e f g h k).2.2.1),numA ((Qcq a b c d e f g h k).2.2.2)]))) :=
  QiP a b c d e f g h k h_a h_b h_c h_d h_e h_f h_g h_h h_k _ _ _ _ _ _ _ _ _ _ _ _ _ _ _ _ _ _ _ (sub _ _ h_b h_a) (sub _ _ h_f h_e) (mul _ _ (Qa0 _) (Qa0 _)) (add _ _ h_b h_a) (add _ _ h_f h_e) (mul _ _ (Qa0 _) (Qa0 _)) (mul _ _ h_d h_h) (mul _ _ (Qa0 _) h_k) (add _ _ (Qa0 _) (Qa0 _)) (mul _ _ h_c h_g) (add _ _ (Qa0 _) (Qa0 _)) (sub _ _ (Qa0 _) (Qa0 _)) (sub _ _ (Qa0 _) (Qa0 _)) (add _ _ (Qa0 _) (Qa0 _)) (add _ _ (Qa0 _) (Qa0 _)) (mul _ _ (Qa0 _) (Qa0 _)) (mul _ _ (Qa0 _) (Qa0 _)) (mul _ _ (Qa0 _) (Qa0 _)) (mul _ _ (Qa0 _) (Qa0 _)) w
theorem QdS (a b c d e f g h k:Int) (h_a:isN a) (h_b:isN b) (h_c:isN c) (h_d:isN d) (h_e:isN e) (h_f:isN f) (h_g:isN g) (h_h:isN h) (h_k:isN k):isN (Qcq a b c d e f g h k).1∧isN (Qcq a b c d e f g h k).2.1∧isN (Qcq a b c d e f g h k).2.2.1∧isN (Qcq a b c d e f g h k).2.2.2:=⟨(Qa0 _),(Qa0 _),(Qa0 _),(Qa0 _)⟩
def QdZ (a b c d:Int):Int×Int :=
  let s0:=invN c
  let s1:=a*s0%p
  let s2:=b*s0%p
  let s3:=(patF s1 s2).1
  let s4:=(patF s1 s2).2
  (s3,s4)
theorem Qjn (a b c d:Int) (h_a:isN a) (h_b:isN b) (h_c:isN c) (h_d:isN d) (s0 s1 s2 s3 s4:Int)
    (c0:∀ W,Calls Tryd.prog 70 #[.agg (numA (c))] W (Ret W (.agg (numA (s0)))))
    (c1:∀ W,Calls Tryd.prog 66 #[.agg (numA (a)),.agg (numA (s0))] W (Ret W (.agg (numA (s1)))))
    (c2:∀ W,Calls Tryd.prog 66 #[.agg (numA (b)),.agg (numA (s0))] W (Ret W (.agg (numA (s2)))))
    (c3:∀ W,Calls Tryd.prog 43 #[.agg (numA (s1)),.agg (numA (s2))] W (Ret W (.agg (cat [numA (s3),numA (s4)])))) (w:World) :
    Calls Tryd.prog 48 #[.agg (cat [numA (a),numA (b),numA (c),numA (d)])] w (Ret w (.agg (cat [numA (s3),numA (s4)]))):=by
  refine enter 16 [(0,.agg (cat [numA (a),numA (b),numA (c),numA (d)]))] Tryd.func48 rfl rfl kj rfl ?_
  refine wp_seq_k fun K1 hK1=>?_
  refine Qad ?_
  refine Qaj (cat [numA (a),numA (b),numA (c),numA (d)]) 78 1 rfl kj kj fun g2 W1 l2 e1 r2_1=>?_
  have x1:Ext w W1:=Ext.tr (Rely.Ext.refl w) e1
  have b2:w.heap.size≤g2:=qT (Rely.Ext.refl w).size l2
  refine Qaj (cat [numA (0),numA (0)]) 51 2 rfl kj kj fun g3 W2 l3 e2 r3_2=>?_
  have x2:Ext w W2:=Ext.tr x1 e2
  have b3:w.heap.size≤g3:=qT x1.size l3
  refine Qag ?_
  refine hK1 _ _ ?_
  refine wp_seq_k fun K4 hK4=>?_
  refine Qad ?_
  refine Qab (.pointer (some ⟨g2,8,none⟩)) 4 rfl kj kj ?_
  have r2_2:=(Qaa r2_1 e2)
  refine Qab (.agg (numA (c))) 5 rfl kj (Qaz 49 _ g2 8 78 _ _ _ r2_2 rfl kj (QaF [numA (a),numA (b)] [numA (c)] [numA (d)] 8 kj) kj (isz (n:=4) kj kj)) ?_
  refine Qar (.agg (numA (s0))) 70 #[.agg (numA (c))] 6 rfl kj kj (c0 _) fun W3 e3=>?_
  have x3:Ext w W3:=Ext.tr x2 e3
  refine Qaj (numA (0)) 49 3 rfl kj kj fun g5 W4 l5 e4 r5_4=>?_
  have x4:Ext w W4:=Ext.tr x3 e4
  have b5:w.heap.size≤g5:=qT x3.size l5
  refine Qal g5 _ (numA (s0)) 49 r5_4 rfl kj (Qai 49 _ _ g5 49 _ _ r5_4 rfl kj kj (isz (n:=4) kj kj) (eqsz (n:=4) kj kj) kj) fun W5 p5 r5_5=>?_
  have x5:Ext w W5:=Puts.ext p5 x4 b5
  refine Qag ?_
  refine hK4 _ _ ?_
  refine wp_seq_k fun K6 hK6=>?_
  refine QaB 9 [⟨none,[(1,none)]⟩,⟨none,[(7,some 0)]⟩,⟨none,[(3,none)]⟩,⟨none,[(8,some 1),(9,some 2)]⟩,⟨none,[(1,none)]⟩,⟨none,[(11,some 4)]⟩,⟨none,[(3,none)]⟩,⟨none,[(12,some 5),(13,some 6)]⟩,⟨none,[(10,some 3),(14,some 7)]⟩] kj kj fun F hF=>?_
  refine Qav (.pointer (some ⟨g2,0,none⟩)) kj kj (fun W=>kj) ?_
  have r2_3:=(Qaa r2_2 e3)
  have r2_5:=(Puts.row p5 (Qaa (Qaa r2_2 e3) e4) (Qac r2_3 l5))
  refine Qam (.agg (numA (a))) kj kj (fun W hR=>(Qaz 49 _ g2 0 78 _ _ _ (Qaa (Qaa r2_5 (Qah _)) hR) rfl kj (QaF [] [numA (a)] [numA (b),numA (c),numA (d)] 0 kj) kj (isz (n:=4) kj kj))) ?_
  refine Qam (.agg (numA (s0))) kj kj (fun W hR=>(Qae 49 _ g5 49 _ _ (Qaa (Qaa r5_5 (Qah _)) hR) rfl kj kj (isz (n:=4) kj kj))) ?_
  refine Qaq (.agg (numA (s1))) 66 #[.agg (numA (a)),.agg (numA (s0))] kj kj (fun W=>kj) (fun W hR=>c1 W) ?_
  refine Qav (.pointer (some ⟨g2,4,none⟩)) kj kj (fun W=>kj) ?_
  refine Qam (.agg (numA (b))) kj kj (fun W hR=>(Qaz 49 _ g2 4 78 _ _ _ (Qaa (Qaa r2_5 (Qah _)) hR) rfl kj (QaF [numA (a)] [numA (b)] [numA (c),numA (d)] 4 kj) kj (isz (n:=4) kj kj))) ?_
  refine Qam (.agg (numA (s0))) kj kj (fun W hR=>(Qae 49 _ g5 49 _ _ (Qaa (Qaa r5_5 (Qah _)) hR) rfl kj kj (isz (n:=4) kj kj))) ?_
  refine Qaq (.agg (numA (s2))) 66 #[.agg (numA (b)),.agg (numA (s0))] kj kj (fun W=>kj) (fun W hR=>c2 W) ?_
  refine Qaq (.agg (cat [numA (s3),numA (s4)])) 43 #[.agg (numA (s1)),.agg (numA (s2))] kj kj (fun W=>kj) (fun W hR=>c3 W) ?_
  refine Qa3 (hF _ kj fun W6 e6=>?_)
  simp only [ups,up,Kn.val,List.take_succ_cons,List.take_zero,List.drop_succ_cons,List.drop_zero,List.nil_append,List.cons_append]
  clear hF
  have x6:Ext w W6:=Ext.tr x5 e6
  have r3_3:=(Qaa r3_2 e3)
  have r3_6:=(Qaa (Puts.row p5 (Qaa (Qaa r3_2 e3) e4) (Qac r3_3 l5)) e6)
  refine Qal g3 _ (cat [numA (s3),numA (s4)]) 51 r3_6 rfl kj (Qai 51 _ _ g3 51 _ _ r3_6 rfl kj kj (isz (n:=8) kj kj) (eqsz (n:=8) kj kj) kj) fun W7 p7 r3_7=>?_
  have x7:Ext w W7:=Puts.ext p7 x6 b3
  refine Qag ?_
  refine hK6 _ _ ?_
  refine wp_ret ?_
  exact (show bodyPost _ _ _ .ret _ _ from ret1 (.agg (cat [numA (s3),numA (s4)])) rfl (Qa9 g3 51 _ r3_7 kj kj (isz (n:=8) kj kj)) ⟨rfl,x7⟩)
theorem Qnr (a b c d:Int) (h_a:isN a) (h_b:isN b) (h_c:isN c) (h_d:isN d) (w:World):Calls Tryd.prog 48 #[.agg (cat [numA (a),numA (b),numA (c),numA (d)])] w (Ret w (.agg (cat [numA ((QdZ a b c d).1),numA ((QdZ a b c d).2)]))) :=
  Qjn a b c d h_a h_b h_c h_d _ _ _ _ _ (inv _ h_c) (mul _ _ h_a (QeE _)) (mul _ _ h_b (QeE _)) (patC _ _ (Qa0 _) (Qa0 _)) w
def Qmh (x l y m:Int):Int×Int :=
  let s0:=(Qcp x l).1
  let s1:=(Qcp x l).2.1
  let s2:=(Qcp x l).2.2.1
  let s3:=(Qcp x l).2.2.2
  let s4:=(Qcp y m).1
  let s5:=(Qcp y m).2.1
  let s6:=(Qcp y m).2.2.1
  let s7:=(Qcp y m).2.2.2
  let s8:=(Qcq s0 s1 s2 s3 s4 s5 s6 s7 dN).1
  let s9:=(Qcq s0 s1 s2 s3 s4 s5 s6 s7 dN).2.1
  let s10:=(Qcq s0 s1 s2 s3 s4 s5 s6 s7 dN).2.2.1
  let s11:=(Qcq s0 s1 s2 s3 s4 s5 s6 s7 dN).2.2.2
  let s12:=(QdZ s8 s9 s10 s11).1
  let s13:=(QdZ s8 s9 s10 s11).2
  (s12,s13)
theorem Qjs (x l y m:Int) (h_x:isN x) (h_l:isN l) (h_y:isN y) (h_m:isN m) (s0 s1 s2 s3 s4 s5 s6 s7 s8 s9 s10 s11 s12 s13:Int)
    (c0:∀ W,Calls Tryd.prog 45 #[.agg (cat [numA (x),numA (l)])] W (Ret W (.agg (cat [numA (s0),numA (s1),numA (s2),numA (s3)]))))
    (c1:∀ W,Calls Tryd.prog 45 #[.agg (cat [numA (y),numA (m)])] W (Ret W (.agg (cat [numA (s4),numA (s5),numA (s6),numA (s7)]))))
    (c2:∀ W,Calls Tryd.prog 47 #[.agg (cat [numA (s0),numA (s1),numA (s2),numA (s3)]),.agg (cat [numA (s4),numA (s5),numA (s6),numA (s7)]),.agg (numA (dN))] W (Ret W (.agg (cat [numA (s8),numA (s9),numA (s10),numA (s11)]))))
    (c3:∀ W,Calls Tryd.prog 48 #[.agg (cat [numA (s8),numA (s9),numA (s10),numA (s11)])] W (Ret W (.agg (cat [numA (s12),numA (s13)])))) (w:World) (tB:TypeId) (hB:w.heap[2]? = some (.cells (ints .u8 Qbq) tB)) :
    Calls Tryd.prog 35 #[.agg (cat [numA (x),numA (l)]),.agg (cat [numA (y),numA (m)])] w (Ret w (.agg (cat [numA (s12),numA (s13)]))):=by
  refine enter 13 [(0,.agg (cat [numA (x),numA (l)])),(1,.agg (cat [numA (y),numA (m)]))] Tryd.func35 rfl rfl kj rfl ?_
  refine wp_seq_k fun K2 hK2=>?_
  refine Qad ?_
  refine Qaj (cat [numA (x),numA (l)]) 51 2 rfl kj kj fun g3 W1 l3 e1 r3_1=>?_
  have x1:Ext w W1:=Ext.tr (Rely.Ext.refl w) e1
  have b3:w.heap.size≤g3:=qT (Rely.Ext.refl w).size l3
  refine Qaj (cat [numA (y),numA (m)]) 51 3 rfl kj kj fun g4 W2 l4 e2 r4_2=>?_
  have x2:Ext w W2:=Ext.tr x1 e2
  have b4:w.heap.size≤g4:=qT x1.size l4
  refine Qaj (cat [numA (0),numA (0)]) 51 4 rfl kj kj fun g5 W3 l5 e3 r5_3=>?_
  have x3:Ext w W3:=Ext.tr x2 e3
  have b5:w.heap.size≤g5:=qT x2.size l5
  refine Qag ?_
  refine hK2 _ _ ?_
  refine wp_seq_k fun K6 hK6=>?_
  refine QaB 8 [⟨none,[(2,none)]⟩,⟨none,[(5,some 0)]⟩,⟨none,[(3,none)]⟩,⟨none,[(7,some 2)]⟩,⟨none,[]⟩,⟨none,[(9,some 4)]⟩,⟨none,[(6,some 1),(8,some 3),(10,some 5)]⟩,⟨none,[(11,some 6)]⟩] kj kj fun F hF=>?_
  have r3_3:=(Qaa (Qaa r3_1 e2) e3)
  refine Qam (.agg (cat [numA (x),numA (l)])) kj kj (fun W hR=>(Qae 51 _ g3 51 _ _ (Qaa (Qaa r3_3 (Qah _)) hR) rfl kj kj (isz (n:=8) kj kj))) ?_
  refine Qaq (.agg (cat [numA (s0),numA (s1),numA (s2),numA (s3)])) 45 #[.agg (cat [numA (x),numA (l)])] kj kj (fun W=>kj) (fun W hR=>c0 W) ?_
  have r4_3:=(Qaa r4_2 e3)
  refine Qam (.agg (cat [numA (y),numA (m)])) kj kj (fun W hR=>(Qae 51 _ g4 51 _ _ (Qaa (Qaa r4_3 (Qah _)) hR) rfl kj kj (isz (n:=8) kj kj))) ?_
  refine Qaq (.agg (cat [numA (s4),numA (s5),numA (s6),numA (s7)])) 45 #[.agg (cat [numA (y),numA (m)])] kj kj (fun W=>kj) (fun W hR=>c1 W) ?_
  have r1_3:=(Qaa (Qaa (Qaa hB e1) e2) e3)
  refine Qam (.agg (ints .u8 (Qbq))) kj kj (fun W hR=>(Qae 23 _ 2 tB _ _ (Qaa (Qaa r1_3 (Qah _)) hR) rfl kj kj (isz (n:=32) kj ((Qaf _ _).trans (by decide))))) ?_
  refine Qaq (.agg (numA (dN))) 44 #[.agg (ints .u8 (Qbq))] kj kj (fun W=>kj) (fun W hR=>QeZ W) ?_
  refine Qaq (.agg (cat [numA (s8),numA (s9),numA (s10),numA (s11)])) 47 #[.agg (cat [numA (s0),numA (s1),numA (s2),numA (s3)]),.agg (cat [numA (s4),numA (s5),numA (s6),numA (s7)]),.agg (numA (dN))] kj kj (fun W=>kj) (fun W hR=>c2 W) ?_
  refine Qaq (.agg (cat [numA (s12),numA (s13)])) 48 #[.agg (cat [numA (s8),numA (s9),numA (s10),numA (s11)])] kj kj (fun W=>kj) (fun W hR=>c3 W) ?_
  refine Qa3 (hF _ kj fun W4 e4=>?_)
  simp only [ups,up,Kn.val,List.take_succ_cons,List.take_zero,List.drop_succ_cons,List.drop_zero,List.nil_append,List.cons_append]
  clear hF
  have x4:Ext w W4:=Ext.tr x3 e4
  have r5_4:=(Qaa r5_3 e4)
  refine Qal g5 _ (cat [numA (s12),numA (s13)]) 51 r5_4 rfl kj (Qai 51 _ _ g5 51 _ _ r5_4 rfl kj kj (isz (n:=8) kj kj) (eqsz (n:=8) kj kj) kj) fun W5 p5 r5_5=>?_
  have x5:Ext w W5:=Puts.ext p5 x4 b5
  refine Qag ?_
  refine hK6 _ _ ?_
  refine wp_ret ?_
  exact (show bodyPost _ _ _ .ret _ _ from ret1 (.agg (cat [numA (s12),numA (s13)])) rfl (Qa9 g5 51 _ r5_5 kj kj (isz (n:=8) kj kj)) ⟨rfl,x5⟩)
theorem QnX (x l y m:Int) (h_x:isN x) (h_l:isN l) (h_y:isN y) (h_m:isN m) (w:World) (tB:TypeId) (hB:w.heap[2]? = some (.cells (ints .u8 Qbq) tB)):Calls Tryd.prog 35 #[.agg (cat [numA (x),numA (l)]),.agg (cat [numA (y),numA (m)])] w (Ret w (.agg (cat [numA ((Qmh x l y m).1),numA ((Qmh x l y m).2)]))) :=
  Qjs x l y m h_x h_l h_y h_m _ _ _ _ _ _ _ _ _ _ _ _ _ _ (QhC _ _ h_x h_l) (QhC _ _ h_y h_m) (QmX _ _ _ _ _ _ _ _ _ (Qa2 _ _ h_x h_l).1 (Qa2 _ _ h_x h_l).2.1 (Qa2 _ _ h_x h_l).2.2.1 (Qa2 _ _ h_x h_l).2.2.2 (Qa2 _ _ h_y h_m).1 (Qa2 _ _ h_y h_m).2.1 (Qa2 _ _ h_y h_m).2.2.1 (Qa2 _ _ h_y h_m).2.2.2 Qe4) (Qnr _ _ _ _ (QdS _ _ _ _ _ _ _ _ _ (Qa2 _ _ h_x h_l).1 (Qa2 _ _ h_x h_l).2.1 (Qa2 _ _ h_x h_l).2.2.1 (Qa2 _ _ h_x h_l).2.2.2 (Qa2 _ _ h_y h_m).1 (Qa2 _ _ h_y h_m).2.1 (Qa2 _ _ h_y h_m).2.2.1 (Qa2 _ _ h_y h_m).2.2.2 Qe4).1 (QdS _ _ _ _ _ _ _ _ _ (Qa2 _ _ h_x h_l).1 (Qa2 _ _ h_x h_l).2.1 (Qa2 _ _ h_x h_l).2.2.1 (Qa2 _ _ h_x h_l).2.2.2 (Qa2 _ _ h_y h_m).1 (Qa2 _ _ h_y h_m).2.1 (Qa2 _ _ h_y h_m).2.2.1 (Qa2 _ _ h_y h_m).2.2.2 Qe4).2.1 (QdS _ _ _ _ _ _ _ _ _ (Qa2 _ _ h_x h_l).1 (Qa2 _ _ h_x h_l).2.1 (Qa2 _ _ h_x h_l).2.2.1 (Qa2 _ _ h_x h_l).2.2.2 (Qa2 _ _ h_y h_m).1 (Qa2 _ _ h_y h_m).2.1 (Qa2 _ _ h_y h_m).2.2.1 (Qa2 _ _ h_y h_m).2.2.2 Qe4).2.2.1 (QdS _ _ _ _ _ _ _ _ _ (Qa2 _ _ h_x h_l).1 (Qa2 _ _ h_x h_l).2.1 (Qa2 _ _ h_x h_l).2.2.1 (Qa2 _ _ h_x h_l).2.2.2 (Qa2 _ _ h_y h_m).1 (Qa2 _ _ h_y h_m).2.1 (Qa2 _ _ h_y h_m).2.2.1 (Qa2 _ _ h_y h_m).2.2.2 Qe4).2.2.2) w tB hB
def Qnp (x l:Int):Int×Int :=
  let s0:=(QfI x)
  (s0,l)
theorem Qjl (x l:Int) (h_x:isN x) (h_l:isN l) (s0:Int)
    (c0:∀ W,Calls Tryd.prog 72 #[.agg (numA (x))] W (Ret W (.agg (numA (s0))))) (w:World) :
    Calls Tryd.prog 36 #[.agg (cat [numA (x),numA (l)])] w (Ret w (.agg (cat [numA (s0),numA (l)]))):=by
  refine enter 9 [(0,.agg (cat [numA (x),numA (l)]))] Tryd.func36 rfl rfl kj rfl ?_
  refine wp_seq_k fun K1 hK1=>?_
  refine Qad ?_
  refine Qaj (cat [numA (x),numA (l)]) 51 1 rfl kj kj fun g2 W1 l2 e1 r2_1=>?_
  have x1:Ext w W1:=Ext.tr (Rely.Ext.refl w) e1
  have b2:w.heap.size≤g2:=qT (Rely.Ext.refl w).size l2
  refine Qaj (cat [numA (0),numA (0)]) 51 2 rfl kj kj fun g3 W2 l3 e2 r3_2=>?_
  have x2:Ext w W2:=Ext.tr x1 e2
  have b3:w.heap.size≤g3:=qT x1.size l3
  refine Qag ?_
  refine hK1 _ _ ?_
  refine wp_seq_k fun K4 hK4=>?_
  refine QaB 6 [⟨none,[(1,none)]⟩,⟨none,[(3,some 0)]⟩,⟨none,[(4,some 1)]⟩,⟨none,[(1,none)]⟩,⟨none,[(6,some 3)]⟩,⟨none,[(5,some 2),(7,some 4)]⟩] kj kj fun F hF=>?_
  refine Qav (.pointer (some ⟨g2,0,none⟩)) kj kj (fun W=>kj) ?_
  have r2_2:=(Qaa r2_1 e2)
  refine Qam (.agg (numA (x))) kj kj (fun W hR=>(Qaz 49 _ g2 0 51 _ _ _ (Qaa (Qaa r2_2 (Qah _)) hR) rfl kj (QaF [] [numA (x)] [numA (l)] 0 kj) kj (isz (n:=4) kj kj))) ?_
  refine Qaq (.agg (numA (s0))) 72 #[.agg (numA (x))] kj kj (fun W=>kj) (fun W hR=>c0 W) ?_
  refine Qav (.pointer (some ⟨g2,4,none⟩)) kj kj (fun W=>kj) ?_
  refine Qam (.agg (numA (l))) kj kj (fun W hR=>(Qaz 49 _ g2 4 51 _ _ _ (Qaa (Qaa r2_2 (Qah _)) hR) rfl kj (QaF [numA (x)] [numA (l)] [] 4 kj) kj (isz (n:=4) kj kj))) ?_
  refine Qav (.agg (cat [numA (s0),numA (l)])) kj kj (fun W=>kj) ?_
  refine Qa3 (hF _ kj fun W3 e3=>?_)
  simp only [ups,up,Kn.val,List.take_succ_cons,List.take_zero,List.drop_succ_cons,List.drop_zero,List.nil_append,List.cons_append]
  clear hF
  have x3:Ext w W3:=Ext.tr x2 e3
  have r3_3:=(Qaa r3_2 e3)
  refine Qal g3 _ (cat [numA (s0),numA (l)]) 51 r3_3 rfl kj (Qai 51 _ _ g3 51 _ _ r3_3 rfl kj kj (isz (n:=8) kj kj) (eqsz (n:=8) kj kj) kj) fun W4 p4 r3_4=>?_
  have x4:Ext w W4:=Puts.ext p4 x3 b3
  refine Qag ?_
  refine hK4 _ _ ?_
  refine wp_ret ?_
  exact (show bodyPost _ _ _ .ret _ _ from ret1 (.agg (cat [numA (s0),numA (l)])) rfl (Qa9 g3 51 _ r3_4 kj kj (isz (n:=8) kj kj)) ⟨rfl,x4⟩)
theorem QnW (x l:Int) (h_x:isN x) (h_l:isN l) (w:World):Calls Tryd.prog 36 #[.agg (cat [numA (x),numA (l)])] w (Ret w (.agg (cat [numA ((Qnp x l).1),numA ((Qnp x l).2)]))) :=
  Qjl x l h_x h_l _ (Qnq _ h_x) w
end Go.Proofs.YtdoadngmgmdlbaaDoor.Field
end
section
namespace Go.Proofs.YtdoadngmgmdlbaaDoor.Field
open Go Go.RowKit
open Rely Auto
theorem nothing  (w : World):Calls Tryd.prog 59 #[] w (Ret w (.agg (cat [ints .i64 (lims (0)),ints .i64 (lims (1)),ints .i64 (lims (1))]))):=by
  refine enter 4 [] Tryd.func59 rfl rfl kj rfl ?_
  refine wp_seq_k fun K1 hK1=>?_
  refine Qad ?_
  refine Qaj (cat [ints .i64 (lims (0)),ints .i64 (lims (0)),ints .i64 (lims (0))]) 60 0 rfl kj kj fun g2 W1 l2 e1 r2_1=>?_
  have x1:Ext w W1:=Ext.tr (Rely.Ext.refl w) e1
  have b2:w.heap.size≤g2:=qT (Rely.Ext.refl w).size l2
  refine Qag ?_
  refine hK1 _ _ ?_
  refine wp_seq_k fun K3 hK3=>?_
  refine Qad ?_
  refine Qab (.agg (ints .i64 (lims (1)))) 1 rfl kj kj ?_
  refine Qab (.agg (ints .i64 (lims (1)))) 2 rfl kj kj ?_
  refine Qab (.agg (cat [ints .i64 (lims (0)),ints .i64 (lims (1)),ints .i64 (lims (1))])) 3 rfl kj kj ?_
  refine Qal g2 _ (cat [ints .i64 (lims (0)),ints .i64 (lims (1)),ints .i64 (lims (1))]) 60 r2_1 rfl kj (Qai 60 _ _ g2 60 _ _ r2_1 rfl kj kj (isz (n:=48) kj kj) (eqsz (n:=48) kj kj) kj) fun W2 p2 r2_2=>?_
  have x2:Ext w W2:=Puts.ext p2 x1 b2
  refine Qag ?_
  refine hK3 _ _ ?_
  refine wp_ret ?_
  exact (show bodyPost _ _ _ .ret _ _ from ret1 (.agg (cat [ints .i64 (lims (0)),ints .i64 (lims (1)),ints .i64 (lims (1))])) rfl (Qa9 g2 60 _ r2_2 kj kj (isz (n:=48) kj kj)) ⟨rfl,x2⟩)
def Qjo  : Int×Int :=
  let s0:=(patF bxN byN).1
  let s1:=(patF bxN byN).2
  (s0,s1)
theorem Qiy   (s0 s1:Int)
    (c0:∀ W,Calls Tryd.prog 43 #[.agg (numA (bxN)),.agg (numA (byN))] W (Ret W (.agg (cat [numA (s0),numA (s1)])))) (w:World) (tX:TypeId) (hX:w.heap[0]? = some (.cells (ints .u8 QbS) tX)) (tY:TypeId) (hY:w.heap[1]? = some (.cells (ints .u8 QbR) tY)) :
    Calls Tryd.prog 20 #[] w (Ret w (.agg (cat [numA (s0),numA (s1)]))):=by
  refine enter 6 [] Tryd.func20 rfl rfl kj rfl ?_
  refine wp_seq_k fun K3 hK3=>?_
  refine Qad ?_
  refine Qaj (cat [numA (0),numA (0)]) 51 0 rfl kj kj fun g4 W1 l4 e1 r4_1=>?_
  have x1:Ext w W1:=Ext.tr (Rely.Ext.refl w) e1
  have b4:w.heap.size≤g4:=qT (Rely.Ext.refl w).size l4
  refine Qag ?_
  refine hK3 _ _ ?_
  refine wp_seq_k fun K5 hK5=>?_
  refine QaB 5 [⟨none,[]⟩,⟨none,[(1,some 0)]⟩,⟨none,[]⟩,⟨none,[(3,some 2)]⟩,⟨none,[(2,some 1),(4,some 3)]⟩] kj kj fun F hF=>?_
  have r1_1:=(Qaa hX e1)
  refine Qam (.agg (ints .u8 (QbS))) kj kj (fun W hR=>(Qae 23 _ 0 tX _ _ (Qaa (Qaa r1_1 (Qah _)) hR) rfl kj kj (isz (n:=32) kj ((Qaf _ _).trans (by decide))))) ?_
  refine Qaq (.agg (numA (bxN))) 44 #[.agg (ints .u8 (QbS))] kj kj (fun W=>kj) (fun W hR=>QmA W) ?_
  have r2_1:=(Qaa hY e1)
  refine Qam (.agg (ints .u8 (QbR))) kj kj (fun W hR=>(Qae 23 _ 1 tY _ _ (Qaa (Qaa r2_1 (Qah _)) hR) rfl kj kj (isz (n:=32) kj ((Qaf _ _).trans (by decide))))) ?_
  refine Qaq (.agg (numA (byN))) 44 #[.agg (ints .u8 (QbR))] kj kj (fun W=>kj) (fun W hR=>Qm9 W) ?_
  refine Qaq (.agg (cat [numA (s0),numA (s1)])) 43 #[.agg (numA (bxN)),.agg (numA (byN))] kj kj (fun W=>kj) (fun W hR=>c0 W) ?_
  refine Qa3 (hF _ kj fun W2 e2=>?_)
  simp only [ups,up,Kn.val,List.take_succ_cons,List.take_zero,List.drop_succ_cons,List.drop_zero,List.nil_append,List.cons_append]
  clear hF
  have x2:Ext w W2:=Ext.tr x1 e2
  have r4_2:=(Qaa r4_1 e2)
  refine Qal g4 _ (cat [numA (s0),numA (s1)]) 51 r4_2 rfl kj (Qai 51 _ _ g4 51 _ _ r4_2 rfl kj kj (isz (n:=8) kj kj) (eqsz (n:=8) kj kj) kj) fun W3 p3 r4_3=>?_
  have x3:Ext w W3:=Puts.ext p3 x2 b4
  refine Qag ?_
  refine hK5 _ _ ?_
  refine wp_ret ?_
  exact (show bodyPost _ _ _ .ret _ _ from ret1 (.agg (cat [numA (s0),numA (s1)])) rfl (Qa9 g4 51 _ r4_3 kj kj (isz (n:=8) kj kj)) ⟨rfl,x3⟩)
theorem Qnu   (w : World) (tX:TypeId) (hX:w.heap[0]? = some (.cells (ints .u8 QbS) tX)) (tY:TypeId) (hY:w.heap[1]? = some (.cells (ints .u8 QbR) tY)):Calls Tryd.prog 20 #[] w (Ret w (.agg (cat [numA ((Qjo ).1),numA ((Qjo ).2)]))) :=
  Qiy   _ _ (patC _ _ QjS QjR) w tX hX tY hY
end Go.Proofs.YtdoadngmgmdlbaaDoor.Field
end
section
namespace Go.Proofs.YtdoadngmgmdlbaaDoor.Field
open Go Go.RowKit
open Rely Auto
def enc (x y:Int):List Int:=if (x%2==1)=true then (Qao y).set 31 (nth (Qao y) 31+128) else Qao y
theorem Qhi (x l:Int) (h_x:isN x) (h_l:isN l) (ho:(x%2==1)=true) (w:World):Calls Tryd.prog 22 #[.agg (cat [numA (x),numA (l)])] w (Ret w (.agg (ints .u8 ((Qao (pyF x l)).set 31 (nth (Qao (pyF x l)) 31+128))))):=by
  refine enter 15 [(0,.agg (cat [numA (x),numA (l)]))] Tryd.func22 rfl rfl kj rfl ?_
  refine wp_seq_k fun K1 hK1=>?_
  refine Qad ?_
  refine Qaj (cat [numA (x),numA (l)]) 51 1 rfl kj kj fun g2 W1 l2 e1 r2_1=>?_
  have x1:Ext w W1:=Ext.tr (Rely.Ext.refl w) e1
  have b2:w.heap.size≤g2:=qT (Rely.Ext.refl w).size l2
  refine Qaj (ints .u8 (List.replicate 32 0)) 23 2 rfl kj kj fun g3 W2 l3 e2 r3_2=>?_
  have x2:Ext w W2:=Ext.tr x1 e2
  have b3:w.heap.size≤g3:=qT x1.size l3
  refine Qag ?_
  refine hK1 _ _ ?_
  refine wp_seq_k fun K4 hK4=>?_
  refine Qad ?_
  have r2_2:=(Qaa r2_1 e2)
  refine Qab (.agg (cat [numA (x),numA (l)])) 4 rfl kj (Qae 51 _ g2 51 _ _ r2_2 rfl kj kj (isz (n:=8) kj kj)) ?_
  refine Qar (.agg (numA (pyF x l))) 49 #[.agg (cat [numA (x),numA (l)])] 5 rfl kj kj ((pyC x l h_x h_l) _) fun W3 e3=>?_
  have x3:Ext w W3:=Ext.tr x2 e3
  refine Qar (.agg (ints .u8 (Qao (pyF x l)))) 50 #[.agg (numA (pyF x l))] 6 rfl kj kj ((bytes _ (Qgr x l h_x h_l)) _) fun W4 e4=>?_
  have x4:Ext w W4:=Ext.tr x3 e4
  refine Qaj (ints .u8 (List.replicate 32 0)) 23 3 rfl kj kj fun g5 W5 l5 e5 r5_5=>?_
  have x5:Ext w W5:=Ext.tr x4 e5
  have b5:w.heap.size≤g5:=qT x4.size l5
  refine Qal g5 _ (ints .u8 (Qao (pyF x l))) 23 r5_5 rfl kj (Qai 23 _ _ g5 23 _ _ r5_5 rfl kj kj (isz (n:=32) kj ((Qaf _ _).trans (bytes_len _))) (eqsz (n:=32) ((Qaf _ _).trans zlen) ((Qaf _ _).trans (bytes_len _))) (ints_one _ _)) fun W6 p6 r5_6=>?_
  have x6:Ext w W6:=Puts.ext p6 x5 b5
  refine Qag ?_
  refine hK4 _ _ ?_
  refine wp_seq_k fun K6 hK6=>?_
  refine wp_seq_k fun K7 hK7=>?_
  refine Qad ?_
  refine Qab (.pointer (some ⟨g2,0,none⟩)) 7 rfl kj kj ?_
  have r2_4:=(Qaa (Qaa r2_2 e3) e4)
  have r2_6:=(Puts.row p6 (Qaa (Qaa (Qaa r2_2 e3) e4) e5) (Qac r2_4 l5))
  refine Qab (.agg (numA (x))) 8 rfl kj (Qaz 49 _ g2 0 51 _ _ _ r2_6 rfl kj (QaF [] [numA (x)] [numA (l)] 0 kj) kj (isz (n:=4) kj kj)) ?_
  refine Qar (.bool true) 51 #[.agg (numA (x))] 9 rfl kj kj ((Qly x true h_x ho) _) fun W7 e7=>?_
  have x7:Ext w W7:=Ext.tr x6 e7
  refine Qag ?_
  refine hK7 _ _ ?_
  refine cond_true kj ?_
  refine Qad ?_
  refine Qab (.pointer (some ⟨g5,31,none⟩)) 10 rfl kj kj ?_
  have r5_7:=(Qaa r5_6 e7)
  refine Qab (.int .u8 (nth (Qao (pyF x l)) 31)) 11 rfl kj (Qan 5 _ g5 31 23 _ (.int .u8 (nth (Qao (pyF x l)) 31)) _ r5_7 rfl kj (Qaw _ _ _ (Nat.lt_of_lt_of_eq (by decide) (bytes_len _).symm)) kj) ?_
  refine Qab (.int .u8 (nth (Qao (pyF x l)) 31+128)) 12 rfl kj (Qax (u:=.int .u8 (bits .or .u8 ((nth (Qao (pyF x l)) 31)) (128))) kj (congrArg (Value.int .u8) (Qoc _ (Qee (Qgr x l h_x h_l))))) ?_
  refine Qab (.pointer (some ⟨g5,31,none⟩)) 13 rfl kj kj ?_
  refine Qal g5 _ (ints .u8 ((Qao (pyF x l)).set 31 (nth (Qao (pyF x l)) 31+128))) 23 r5_7 rfl kj (Qa5 5 _ _ g5 31 23 _ _ r5_7 rfl kj kj kj (Nat.lt_of_lt_of_eq (show 31<32 by decide) (bytes_len _).symm)) fun W8 p8 r5_8=>?_
  have x8:Ext w W8:=Puts.ext p8 x7 b5
  refine Qag ?_
  refine hK6 _ _ ?_
  refine wp_seq_k fun K8 hK8=>?_
  refine Qad ?_
  refine Qab (.agg (ints .u8 ((Qao (pyF x l)).set 31 (nth (Qao (pyF x l)) 31+128)))) 14 rfl kj (Qae 23 _ g5 23 _ _ r5_8 rfl kj kj (isz (n:=32) kj ((Qaf _ _).trans ((List.length_set ..).trans (bytes_len _))))) ?_
  have r3_4:=(Qaa (Qaa r3_2 e3) e4)
  have r3_8:=(Puts.row p8 (Qaa (Puts.row p6 (Qaa (Qaa (Qaa r3_2 e3) e4) e5) (Qac r3_4 l5)) e7) (Qac r3_4 l5))
  refine Qal g3 _ (ints .u8 ((Qao (pyF x l)).set 31 (nth (Qao (pyF x l)) 31+128))) 23 r3_8 rfl kj (Qai 23 _ _ g3 23 _ _ r3_8 rfl kj kj (isz (n:=32) kj ((Qaf _ _).trans ((List.length_set ..).trans (bytes_len _)))) (eqsz (n:=32) ((Qaf _ _).trans zlen) ((Qaf _ _).trans ((List.length_set ..).trans (bytes_len _)))) (ints_one _ _)) fun W9 p9 r3_9=>?_
  have x9:Ext w W9:=Puts.ext p9 x8 b3
  refine Qag ?_
  refine hK8 _ _ ?_
  refine wp_ret ?_
  exact (show bodyPost _ _ _ .ret _ _ from ret1 (.agg (ints .u8 ((Qao (pyF x l)).set 31 (nth (Qao (pyF x l)) 31+128)))) rfl (Qa9 g3 23 _ r3_9 kj kj (isz (n:=32) kj ((Qaf _ _).trans ((List.length_set ..).trans (bytes_len _))))) ⟨rfl,x9⟩)
theorem Qgx (x l:Int) (h_x:isN x) (h_l:isN l) (ho:(x%2==1)=false) (w:World):Calls Tryd.prog 22 #[.agg (cat [numA (x),numA (l)])] w (Ret w (.agg (ints .u8 (Qao (pyF x l))))):=by
  refine enter 15 [(0,.agg (cat [numA (x),numA (l)]))] Tryd.func22 rfl rfl kj rfl ?_
  refine wp_seq_k fun K1 hK1=>?_
  refine Qad ?_
  refine Qaj (cat [numA (x),numA (l)]) 51 1 rfl kj kj fun g2 W1 l2 e1 r2_1=>?_
  have x1:Ext w W1:=Ext.tr (Rely.Ext.refl w) e1
  have b2:w.heap.size≤g2:=qT (Rely.Ext.refl w).size l2
  refine Qaj (ints .u8 (List.replicate 32 0)) 23 2 rfl kj kj fun g3 W2 l3 e2 r3_2=>?_
  have x2:Ext w W2:=Ext.tr x1 e2
  have b3:w.heap.size≤g3:=qT x1.size l3
  refine Qag ?_
  refine hK1 _ _ ?_
  refine wp_seq_k fun K4 hK4=>?_
  refine Qad ?_
  have r2_2:=(Qaa r2_1 e2)
  refine Qab (.agg (cat [numA (x),numA (l)])) 4 rfl kj (Qae 51 _ g2 51 _ _ r2_2 rfl kj kj (isz (n:=8) kj kj)) ?_
  refine Qar (.agg (numA (pyF x l))) 49 #[.agg (cat [numA (x),numA (l)])] 5 rfl kj kj ((pyC x l h_x h_l) _) fun W3 e3=>?_
  have x3:Ext w W3:=Ext.tr x2 e3
  refine Qar (.agg (ints .u8 (Qao (pyF x l)))) 50 #[.agg (numA (pyF x l))] 6 rfl kj kj ((bytes _ (Qgr x l h_x h_l)) _) fun W4 e4=>?_
  have x4:Ext w W4:=Ext.tr x3 e4
  refine Qaj (ints .u8 (List.replicate 32 0)) 23 3 rfl kj kj fun g5 W5 l5 e5 r5_5=>?_
  have x5:Ext w W5:=Ext.tr x4 e5
  have b5:w.heap.size≤g5:=qT x4.size l5
  refine Qal g5 _ (ints .u8 (Qao (pyF x l))) 23 r5_5 rfl kj (Qai 23 _ _ g5 23 _ _ r5_5 rfl kj kj (isz (n:=32) kj ((Qaf _ _).trans (bytes_len _))) (eqsz (n:=32) ((Qaf _ _).trans zlen) ((Qaf _ _).trans (bytes_len _))) (ints_one _ _)) fun W6 p6 r5_6=>?_
  have x6:Ext w W6:=Puts.ext p6 x5 b5
  refine Qag ?_
  refine hK4 _ _ ?_
  refine wp_seq_k fun K6 hK6=>?_
  refine wp_seq_k fun K7 hK7=>?_
  refine Qad ?_
  refine Qab (.pointer (some ⟨g2,0,none⟩)) 7 rfl kj kj ?_
  have r2_4:=(Qaa (Qaa r2_2 e3) e4)
  have r2_6:=(Puts.row p6 (Qaa (Qaa (Qaa r2_2 e3) e4) e5) (Qac r2_4 l5))
  refine Qab (.agg (numA (x))) 8 rfl kj (Qaz 49 _ g2 0 51 _ _ _ r2_6 rfl kj (QaF [] [numA (x)] [numA (l)] 0 kj) kj (isz (n:=4) kj kj)) ?_
  refine Qar (.bool false) 51 #[.agg (numA (x))] 9 rfl kj kj ((Qly x false h_x ho) _) fun W7 e7=>?_
  have x7:Ext w W7:=Ext.tr x6 e7
  refine Qag ?_
  refine hK7 _ _ ?_
  refine cond_false kj ?_
  refine wp_skip ?_
  refine hK6 _ _ ?_
  refine wp_seq_k fun K8 hK8=>?_
  refine Qad ?_
  have r5_7:=(Qaa r5_6 e7)
  refine Qab (.agg (ints .u8 (Qao (pyF x l)))) 14 rfl kj (Qae 23 _ g5 23 _ _ r5_7 rfl kj kj (isz (n:=32) kj ((Qaf _ _).trans (bytes_len _)))) ?_
  have r3_4:=(Qaa (Qaa r3_2 e3) e4)
  have r3_7:=(Qaa (Puts.row p6 (Qaa (Qaa (Qaa r3_2 e3) e4) e5) (Qac r3_4 l5)) e7)
  refine Qal g3 _ (ints .u8 (Qao (pyF x l))) 23 r3_7 rfl kj (Qai 23 _ _ g3 23 _ _ r3_7 rfl kj kj (isz (n:=32) kj ((Qaf _ _).trans (bytes_len _))) (eqsz (n:=32) ((Qaf _ _).trans zlen) ((Qaf _ _).trans (bytes_len _))) (ints_one _ _)) fun W8 p8 r3_8=>?_
  have x8:Ext w W8:=Puts.ext p8 x7 b3
  refine Qag ?_
  refine hK8 _ _ ?_
  refine wp_ret ?_
  exact (show bodyPost _ _ _ .ret _ _ from ret1 (.agg (ints .u8 (Qao (pyF x l)))) rfl (Qa9 g3 23 _ r3_8 kj kj (isz (n:=32) kj ((Qaf _ _).trans (bytes_len _)))) ⟨rfl,x8⟩)
theorem Qmg (x l:Int) (h_x:isN x) (h_l:isN l) (w:World):Calls Tryd.prog 22 #[.agg (cat [numA x,numA l])] w (Ret w (.agg (ints .u8 (enc x (pyF x l))))):=by
  unfold enc
  cases ho:(x%2==1)
  · simp only [Bool.false_eq_true,if_false]; exact Qgx x l h_x h_l ho w
  · simp only [if_true]; exact Qhi x l h_x h_l ho w
end Go.Proofs.YtdoadngmgmdlbaaDoor.Field
end
section
namespace Go.Proofs.YtdoadngmgmdlbaaDoor.Field
open Go Go.RowKit
open Rely Auto
theorem shr7 (v : Int):v.fdiv (2^min (7:Int).toNat IntKind.u8.bits)=v/128:=by
  show Int.fdiv v 128=v/128
  exact Int.fdiv_eq_ediv_of_nonneg v (by decide)
theorem Qmf (xs ys:List Int) (hx:xs.length=32) (hb:Qak xs) (ys_len:ys.length=32) (s0:Int) (ho:(nth xs 31/128==1)=false) (hc:decide (ys=(xs).set 31 (nth xs 31%128))=false)
    (c0:∀ W,Calls Tryd.prog 44 #[.agg (ints .u8 ((xs).set 31 (nth xs 31%128)))] W (Ret W (.agg (numA (s0)))))
    (cb:∀ W,Calls Tryd.prog 50 #[.agg (numA (s0))] W (Ret W (.agg (ints .u8 ys))))
    (w:World) (tB:TypeId) (hB:w.heap[2]? = some (.cells (ints .u8 Qbq) tB)):Calls Tryd.prog 34 #[.agg (ints .u8 (xs))] w (Ret w (.tuple #[.agg (cat [numA (0),numA (0)]),.bool false])):=by
  refine enter 63 [(0,.agg (ints .u8 (xs)))] Tryd.func34 rfl rfl kj rfl ?_
  refine wp_seq_k fun K2 hK2=>?_
  refine Qad ?_
  refine Qaj (ints .u8 (xs)) 23 1 rfl kj kj fun g3 W1 l3 e1 r3_1=>?_
  have x1:Ext w W1:=Ext.tr (Rely.Ext.refl w) e1
  have b3:w.heap.size≤g3:=qT (Rely.Ext.refl w).size l3
  refine Qaj (cat [numA (0),numA (0)]) 51 2 rfl kj kj fun g4 W2 l4 e2 r4_2=>?_
  have x2:Ext w W2:=Ext.tr x1 e2
  have b4:w.heap.size≤g4:=qT x1.size l4
  refine Qab (.bool false) 3 rfl kj kj ?_
  refine Qag ?_
  refine hK2 _ _ ?_
  refine wp_seq_k fun K5 hK5=>?_
  refine Qad ?_
  refine Qab (.pointer (some ⟨g3,31,none⟩)) 11 rfl kj kj ?_
  have r3_2:=(Qaa r3_1 e2)
  refine Qab (.int .u8 (nth (xs) 31)) 12 rfl kj (Qan 5 _ g3 31 23 _ (.int .u8 (nth (xs) 31)) _ r3_2 rfl kj (Qaw _ _ _ (Nat.lt_of_lt_of_eq (by decide) hx.symm)) kj) ?_
  refine Qab (.int .u8 (nth xs 31/128)) 13 rfl kj (Qbv .shr _ _ _ _ .u8 .u64 _ _ _ rfl kj kj (QdL _ _ _ _ _ _ (show (0:Int)≤7 by decide) (shr7 _))) ?_
  refine Qab (.bool false) 14 rfl kj (Qax (u:=.bool (((nth xs 31/128)==1))) kj (congrArg Value.bool ho)) ?_
  refine Qab (.bool false) 4 rfl kj kj ?_
  refine Qag ?_
  refine hK5 _ _ ?_
  refine wp_seq_k fun K6 hK6=>?_
  refine Qad ?_
  refine Qab (.pointer (some ⟨g3,31,none⟩)) 15 rfl kj kj ?_
  refine Qab (.int .u8 (nth (xs) 31)) 16 rfl kj (Qan 5 _ g3 31 23 _ (.int .u8 (nth (xs) 31)) _ r3_2 rfl kj (Qaw _ _ _ (Nat.lt_of_lt_of_eq (by decide) hx.symm)) kj) ?_
  refine Qab (.int .u8 (nth xs 31%128)) 17 rfl kj (Qax (u:=.int .u8 (bits .and .u8 ((nth (xs) 31)) (127))) kj (congrArg (Value.int .u8) (Qfl _ (hb.nth 31)))) ?_
  refine Qab (.pointer (some ⟨g3,31,none⟩)) 18 rfl kj kj ?_
  refine Qal g3 _ (ints .u8 ((xs).set 31 (nth xs 31%128))) 23 r3_2 rfl kj (Qa5 5 _ _ g3 31 23 _ _ r3_2 rfl kj kj kj (Nat.lt_of_lt_of_eq (show 31<32 by decide) hx.symm)) fun W3 p3 r3_3=>?_
  have x3:Ext w W3:=Puts.ext p3 x2 b3
  refine Qag ?_
  refine hK6 _ _ ?_
  refine wp_seq_k fun K7 hK7=>?_
  refine Qad ?_
  refine Qab (.agg (ints .u8 ((xs).set 31 (nth xs 31%128)))) 19 rfl kj (Qae 23 _ g3 23 _ _ r3_3 rfl kj kj (isz (n:=32) kj ((Qaf _ _).trans ((List.length_set ..).trans hx)))) ?_
  refine Qar (.agg (numA (s0))) 44 #[.agg (ints .u8 ((xs).set 31 (nth xs 31%128)))] 20 rfl kj kj (c0 _) fun W4 e4=>?_
  have x4:Ext w W4:=Ext.tr x3 e4
  refine Qaj (numA (0)) 49 5 rfl kj kj fun g8 W5 l8 e5 r8_5=>?_
  have x5:Ext w W5:=Ext.tr x4 e5
  have b8:w.heap.size≤g8:=qT x4.size l8
  refine Qal g8 _ (numA (s0)) 49 r8_5 rfl kj (Qai 49 _ _ g8 49 _ _ r8_5 rfl kj kj (isz (n:=4) kj kj) (eqsz (n:=4) kj kj) kj) fun W6 p6 r8_6=>?_
  have x6:Ext w W6:=Puts.ext p6 x5 b8
  refine Qag ?_
  refine hK7 _ _ ?_
  refine wp_seq_k fun K9 hK9=>?_
  refine wp_seq_k fun K10 hK10=>?_
  refine QaB 4 [⟨none,[(5,none)]⟩,⟨none,[(21,some 0)]⟩,⟨none,[(1,none)]⟩,⟨none,[(22,some 1),(23,some 2)]⟩] kj kj fun F hF=>?_
  refine Qam (.agg (numA (s0))) kj kj (fun W hR=>(Qae 49 _ g8 49 _ _ (Qaa (Qaa r8_6 (Qah _)) hR) rfl kj kj (isz (n:=4) kj kj))) ?_
  refine Qaq (.agg (ints .u8 (ys))) 50 #[.agg (numA (s0))] kj kj (fun W=>kj) (fun W hR=>cb W) ?_
  have r3_4:=(Qaa r3_3 e4)
  have r3_6:=(Puts.row p6 (Qaa (Qaa r3_3 e4) e5) (Qac r3_4 l8))
  refine Qam (.agg (ints .u8 ((xs).set 31 (nth xs 31%128)))) kj kj (fun W hR=>(Qae 23 _ g3 23 _ _ (Qaa (Qaa r3_6 (Qah _)) hR) rfl kj kj (isz (n:=32) kj ((Qaf _ _).trans ((List.length_set ..).trans hx))))) ?_
  refine Qav (.bool true) kj kj (fun W=>(QbY 23 _ _ _ _ _ (.bool true) rfl kj kj kj (QdG _ _ false ys_len (by rw [List.length_set]; exact hx) hc _))) ?_
  refine Qa3 (hF _ kj fun W7 e7=>?_)
  simp only [ups,up,Kn.val,List.take_succ_cons,List.take_zero,List.drop_succ_cons,List.drop_zero,List.nil_append,List.cons_append]
  clear hF
  have x7:Ext w W7:=Ext.tr x6 e7
  refine Qag ?_
  refine hK10 _ _ ?_
  refine cond_true kj ?_
  refine wp_seq_k fun K11 hK11=>?_
  refine Qad ?_
  refine Qab (.agg (cat [numA (0),numA (0)])) 25 rfl kj kj ?_
  have r4_4:=(Qaa (Puts.row p3 r4_2 (Qat r3_1 l4)) e4)
  have r4_7:=(Qaa (Puts.row p6 (Qaa (Qaa (Puts.row p3 r4_2 (Qat r3_1 l4)) e4) e5) (Qac r4_4 l8)) e7)
  refine Qal g4 _ (cat [numA (0),numA (0)]) 51 r4_7 rfl kj (Qai 51 _ _ g4 51 _ _ r4_7 rfl kj kj (isz (n:=8) kj kj) (eqsz (n:=8) kj kj) kj) fun W8 p8 r4_8=>?_
  have x8:Ext w W8:=Puts.ext p8 x7 b4
  refine Qab (.bool false) 3 rfl kj kj ?_
  refine Qag ?_
  refine hK11 _ _ ?_
  refine wp_ret ?_
  exact (show bodyPost _ _ _ .ret _ _ from ret2 (.agg (cat [numA (0),numA (0)])) (.bool false) rfl (Qa9 g4 51 _ r4_8 kj kj (isz (n:=8) kj kj)) (Qb6 kj) ⟨rfl,x8⟩)
theorem Qme (xs ys:List Int) (hx:xs.length=32) (hb:Qak xs) (ys_len:ys.length=32) (s0 s1 s2 s3 s4 s5 s6 r:Int) (ho:(nth xs 31/128==1)=false) (hc:decide (ys=(xs).set 31 (nth xs 31%128))=true)
    (c0:∀ W,Calls Tryd.prog 44 #[.agg (ints .u8 ((xs).set 31 (nth xs 31%128)))] W (Ret W (.agg (numA (s0)))))
    (c1:∀ W,Calls Tryd.prog 66 #[.agg (numA (s0)),.agg (numA (s0))] W (Ret W (.agg (numA (s1)))))
    (c2:∀ W,Calls Tryd.prog 66 #[.agg (numA (s1)),.agg (numA (dN))] W (Ret W (.agg (numA (s2)))))
    (c3:∀ W,Calls Tryd.prog 68 #[.agg (numA (s2)),.agg (numA (1))] W (Ret W (.agg (numA (s3)))))
    (c4:∀ W,Calls Tryd.prog 69 #[.agg (numA (s1)),.agg (numA (1))] W (Ret W (.agg (numA (s4)))))
    (c5:∀ W,Calls Tryd.prog 70 #[.agg (numA (s3))] W (Ret W (.agg (numA (s5)))))
    (c6:∀ W,Calls Tryd.prog 66 #[.agg (numA (s4)),.agg (numA (s5))] W (Ret W (.agg (numA (s6)))))
    (cb:∀ W,Calls Tryd.prog 50 #[.agg (numA (s0))] W (Ret W (.agg (ints .u8 ys))))
    (cr:∀ W,Calls Tryd.prog 71 #[.agg (numA (s6))] W (Ret W (.tuple #[.agg (numA (r)),.bool false])))
    (w:World) (tB:TypeId) (hB:w.heap[2]? = some (.cells (ints .u8 Qbq) tB)):Calls Tryd.prog 34 #[.agg (ints .u8 (xs))] w (Ret w (.tuple #[.agg (cat [numA (0),numA (0)]),.bool false])):=by
  refine enter 63 [(0,.agg (ints .u8 (xs)))] Tryd.func34 rfl rfl kj rfl ?_
  refine wp_seq_k fun K2 hK2=>?_
  refine Qad ?_
  refine Qaj (ints .u8 (xs)) 23 1 rfl kj kj fun g3 W1 l3 e1 r3_1=>?_
  have x1:Ext w W1:=Ext.tr (Rely.Ext.refl w) e1
  have b3:w.heap.size≤g3:=qT (Rely.Ext.refl w).size l3
  refine Qaj (cat [numA (0),numA (0)]) 51 2 rfl kj kj fun g4 W2 l4 e2 r4_2=>?_
  have x2:Ext w W2:=Ext.tr x1 e2
  have b4:w.heap.size≤g4:=qT x1.size l4
  refine Qab (.bool false) 3 rfl kj kj ?_
  refine Qag ?_
  refine hK2 _ _ ?_
  refine wp_seq_k fun K5 hK5=>?_
  refine Qad ?_
  refine Qab (.pointer (some ⟨g3,31,none⟩)) 11 rfl kj kj ?_
  have r3_2:=(Qaa r3_1 e2)
  refine Qab (.int .u8 (nth (xs) 31)) 12 rfl kj (Qan 5 _ g3 31 23 _ (.int .u8 (nth (xs) 31)) _ r3_2 rfl kj (Qaw _ _ _ (Nat.lt_of_lt_of_eq (by decide) hx.symm)) kj) ?_
  refine Qab (.int .u8 (nth xs 31/128)) 13 rfl kj (Qbv .shr _ _ _ _ .u8 .u64 _ _ _ rfl kj kj (QdL _ _ _ _ _ _ (show (0:Int)≤7 by decide) (shr7 _))) ?_
  refine Qab (.bool false) 14 rfl kj (Qax (u:=.bool (((nth xs 31/128)==1))) kj (congrArg Value.bool ho)) ?_
  refine Qab (.bool false) 4 rfl kj kj ?_
  refine Qag ?_
  refine hK5 _ _ ?_
  refine wp_seq_k fun K6 hK6=>?_
  refine Qad ?_
  refine Qab (.pointer (some ⟨g3,31,none⟩)) 15 rfl kj kj ?_
  refine Qab (.int .u8 (nth (xs) 31)) 16 rfl kj (Qan 5 _ g3 31 23 _ (.int .u8 (nth (xs) 31)) _ r3_2 rfl kj (Qaw _ _ _ (Nat.lt_of_lt_of_eq (by decide) hx.symm)) kj) ?_
  refine Qab (.int .u8 (nth xs 31%128)) 17 rfl kj (Qax (u:=.int .u8 (bits .and .u8 ((nth (xs) 31)) (127))) kj (congrArg (Value.int .u8) (Qfl _ (hb.nth 31)))) ?_
  refine Qab (.pointer (some ⟨g3,31,none⟩)) 18 rfl kj kj ?_
  refine Qal g3 _ (ints .u8 ((xs).set 31 (nth xs 31%128))) 23 r3_2 rfl kj (Qa5 5 _ _ g3 31 23 _ _ r3_2 rfl kj kj kj (Nat.lt_of_lt_of_eq (show 31<32 by decide) hx.symm)) fun W3 p3 r3_3=>?_
  have x3:Ext w W3:=Puts.ext p3 x2 b3
  refine Qag ?_
  refine hK6 _ _ ?_
  refine wp_seq_k fun K7 hK7=>?_
  refine Qad ?_
  refine Qab (.agg (ints .u8 ((xs).set 31 (nth xs 31%128)))) 19 rfl kj (Qae 23 _ g3 23 _ _ r3_3 rfl kj kj (isz (n:=32) kj ((Qaf _ _).trans ((List.length_set ..).trans hx)))) ?_
  refine Qar (.agg (numA (s0))) 44 #[.agg (ints .u8 ((xs).set 31 (nth xs 31%128)))] 20 rfl kj kj (c0 _) fun W4 e4=>?_
  have x4:Ext w W4:=Ext.tr x3 e4
  refine Qaj (numA (0)) 49 5 rfl kj kj fun g8 W5 l8 e5 r8_5=>?_
  have x5:Ext w W5:=Ext.tr x4 e5
  have b8:w.heap.size≤g8:=qT x4.size l8
  refine Qal g8 _ (numA (s0)) 49 r8_5 rfl kj (Qai 49 _ _ g8 49 _ _ r8_5 rfl kj kj (isz (n:=4) kj kj) (eqsz (n:=4) kj kj) kj) fun W6 p6 r8_6=>?_
  have x6:Ext w W6:=Puts.ext p6 x5 b8
  refine Qag ?_
  refine hK7 _ _ ?_
  refine wp_seq_k fun K9 hK9=>?_
  refine wp_seq_k fun K10 hK10=>?_
  refine QaB 4 [⟨none,[(5,none)]⟩,⟨none,[(21,some 0)]⟩,⟨none,[(1,none)]⟩,⟨none,[(22,some 1),(23,some 2)]⟩] kj kj fun F hF=>?_
  refine Qam (.agg (numA (s0))) kj kj (fun W hR=>(Qae 49 _ g8 49 _ _ (Qaa (Qaa r8_6 (Qah _)) hR) rfl kj kj (isz (n:=4) kj kj))) ?_
  refine Qaq (.agg (ints .u8 (ys))) 50 #[.agg (numA (s0))] kj kj (fun W=>kj) (fun W hR=>cb W) ?_
  have r3_4:=(Qaa r3_3 e4)
  have r3_6:=(Puts.row p6 (Qaa (Qaa r3_3 e4) e5) (Qac r3_4 l8))
  refine Qam (.agg (ints .u8 ((xs).set 31 (nth xs 31%128)))) kj kj (fun W hR=>(Qae 23 _ g3 23 _ _ (Qaa (Qaa r3_6 (Qah _)) hR) rfl kj kj (isz (n:=32) kj ((Qaf _ _).trans ((List.length_set ..).trans hx))))) ?_
  refine Qav (.bool false) kj kj (fun W=>(QbY 23 _ _ _ _ _ (.bool false) rfl kj kj kj (QdG _ _ true ys_len (by rw [List.length_set]; exact hx) hc _))) ?_
  refine Qa3 (hF _ kj fun W7 e7=>?_)
  simp only [ups,up,Kn.val,List.take_succ_cons,List.take_zero,List.drop_succ_cons,List.drop_zero,List.nil_append,List.cons_append]
  clear hF
  have x7:Ext w W7:=Ext.tr x6 e7
  refine Qag ?_
  refine hK10 _ _ ?_
  refine cond_false kj ?_
  refine wp_skip ?_
  refine hK9 _ _ ?_
  refine wp_seq_k fun K11 hK11=>?_
  refine Qad ?_
  have r8_7:=(Qaa r8_6 e7)
  refine Qab (.agg (numA (s0))) 26 rfl kj (Qae 49 _ g8 49 _ _ r8_7 rfl kj kj (isz (n:=4) kj kj)) ?_
  refine Qab (.agg (numA (s0))) 27 rfl kj (Qae 49 _ g8 49 _ _ r8_7 rfl kj kj (isz (n:=4) kj kj)) ?_
  refine Qar (.agg (numA (s1))) 66 #[.agg (numA (s0)),.agg (numA (s0))] 28 rfl kj kj (c1 _) fun W8 e8=>?_
  have x8:Ext w W8:=Ext.tr x7 e8
  refine Qar (.agg (numA (1))) 67 #[.int .i64 1] 29 rfl kj kj ((Qdf 1 (by decide)) _) fun W9 e9=>?_
  have x9:Ext w W9:=Ext.tr x8 e9
  refine Qaj (numA (0)) 49 6 rfl kj kj fun g12 W10 l12 e10 r12_10=>?_
  have x10:Ext w W10:=Ext.tr x9 e10
  have b12:w.heap.size≤g12:=qT x9.size l12
  refine Qaj (numA (0)) 49 7 rfl kj kj fun g13 W11 l13 e11 r13_11=>?_
  have x11:Ext w W11:=Ext.tr x10 e11
  have b13:w.heap.size≤g13:=qT x10.size l13
  have r12_11:=(Qaa r12_10 e11)
  refine Qal g12 _ (numA (s1)) 49 r12_11 rfl kj (Qai 49 _ _ g12 49 _ _ r12_11 rfl kj kj (isz (n:=4) kj kj) (eqsz (n:=4) kj kj) kj) fun W12 p12 r12_12=>?_
  have x12:Ext w W12:=Puts.ext p12 x11 b12
  have r13_12:=(Puts.row p12 r13_11 (Qat r12_10 l13))
  refine Qal g13 _ (numA (1)) 49 r13_12 rfl kj (Qai 49 _ _ g13 49 _ _ r13_12 rfl kj kj (isz (n:=4) kj kj) (eqsz (n:=4) kj kj) kj) fun W13 p13 r13_13=>?_
  have x13:Ext w W13:=Puts.ext p13 x12 b13
  refine Qag ?_
  refine hK11 _ _ ?_
  refine wp_seq_k fun K14 hK14=>?_
  refine Qbc 7 [⟨none,[(6,none)]⟩,⟨none,[]⟩,⟨none,[(31,some 1)]⟩,⟨none,[(30,some 0),(32,some 2)]⟩,⟨none,[(7,none)]⟩,⟨none,[(33,some 3),(34,some 4)]⟩,⟨none,[]⟩] [6] kj kj kj fun F hF=>?_
  have r12_13:=(Puts.row p13 r12_12 (Qac r12_10 l13))
  refine Qam (.agg (numA (s1))) kj kj (fun W hR=>(Qae 49 _ g12 49 _ _ (Qaa (Qaa r12_13 (Qah _)) hR) rfl kj kj (isz (n:=4) kj kj))) ?_
  have r1_4:=(Qaa (Puts.row p3 (Qaa (Qaa hB e1) e2) (Qac hB l3)) e4)
  have r1_9:=(Qaa (Qaa (Qaa (Puts.row p6 (Qaa r1_4 e5) (Qac r1_4 l8)) e7) e8) e9)
  have r1_10:=(Qaa r1_9 e10)
  have r1_13:=(Puts.row p13 (Puts.row p12 (Qaa (Qaa (Qaa (Qaa (Qaa (Puts.row p6 (Qaa (Qaa (Puts.row p3 (Qaa (Qaa hB e1) e2) (Qac hB l3)) e4) e5) (Qac r1_4 l8)) e7) e8) e9) e10) e11) (Qac r1_9 l12)) (Qac r1_10 l13))
  refine Qam (.agg (ints .u8 (Qbq))) kj kj (fun W hR=>(Qae 23 _ 2 tB _ _ (Qaa (Qaa r1_13 (Qah _)) hR) rfl kj kj (isz (n:=32) kj ((Qaf _ _).trans (by decide))))) ?_
  refine Qaq (.agg (numA (dN))) 44 #[.agg (ints .u8 (Qbq))] kj kj (fun W=>kj) (fun W hR=>QeZ W) ?_
  refine Qaq (.agg (numA (s2))) 66 #[.agg (numA (s1)),.agg (numA (dN))] kj kj (fun W=>kj) (fun W hR=>c2 W) ?_
  refine Qam (.agg (numA (1))) kj kj (fun W hR=>(Qae 49 _ g13 49 _ _ (Qaa (Qaa r13_13 (Qah _)) hR) rfl kj kj (isz (n:=4) kj kj))) ?_
  refine Qaq (.agg (numA (s3))) 68 #[.agg (numA (s2)),.agg (numA (1))] kj kj (fun W=>kj) (fun W hR=>c3 W) ?_
  refine QbI (numA (0)) 49 kj (qR _) kj (fun W=>kj) ?_
  refine Qa3 (hF _ kj fun W14 e14=>?_)
  simp only [fins,up,List.take_succ_cons,List.take_zero,List.drop_succ_cons,List.drop_zero,List.nil_append,List.cons_append]
  intro g15 l15 r15_14 n15
  have b15:w.heap.size≤g15:=qT x13.size l15
  clear hF
  have x14:Ext w W14:=Ext.tr x13 e14
  refine Qal g15 _ (numA (s3)) 49 r15_14 rfl kj (Qai 49 _ _ g15 49 _ _ r15_14 rfl kj kj (isz (n:=4) kj kj) (eqsz (n:=4) kj kj) kj) fun W15 p15 r15_15=>?_
  have x15:Ext w W15:=Puts.ext p15 x14 b15
  refine Qag ?_
  refine hK14 _ _ ?_
  refine wp_seq_k fun K16 hK16=>?_
  refine QaA (fun W=>True) [⟨none,[(6,none)]⟩,⟨none,[(7,none)]⟩,⟨none,[(37,some 0),(38,some 1)]⟩,⟨none,[(8,none)]⟩,⟨none,[(40,some 3)]⟩,⟨none,[(39,some 2),(41,some 4)]⟩,⟨none,[(42,some 5)]⟩,⟨none,[(43,some 6)]⟩,⟨none,[(36,some 7)]⟩,⟨none,[(36,some 7)]⟩,⟨none,[]⟩,⟨none,[(9,some 10),(44,some 8)]⟩,⟨none,[(45,some 9)]⟩] [10] [9,12] kj kj kj (fun W hR=>trivial) fun F hF=>?_
  have r12_15:=(Puts.row p15 (Qaa r12_13 e14) (Qac r12_13 l15))
  refine QaM (.agg (numA (s1))) kj kj kj rfl (fun W hR=>(Qae 49 _ g12 49 _ _ (Qaa (Qaa r12_15 (Qah _)) hR) rfl kj kj (isz (n:=4) kj kj))) ?_
  have r13_15:=(Puts.row p15 (Qaa r13_13 e14) (Qac r13_13 l15))
  refine QaM (.agg (numA (1))) kj kj kj rfl (fun W hR=>(Qae 49 _ g13 49 _ _ (Qaa (Qaa r13_15 (Qah _)) hR) rfl kj kj (isz (n:=4) kj kj))) ?_
  refine Qcb (.agg (numA (s4))) 69 #[.agg (numA (s1)),.agg (numA (1))] kj kj kj rfl (fun W=>kj) (fun W hR=>c4 W) ?_
  refine QaM (.agg (numA (s3))) kj kj kj rfl (fun W hR=>(Qae 49 _ g15 49 _ _ (Qaa (Qaa r15_15 (Qah _)) hR) rfl kj kj (isz (n:=4) kj kj))) ?_
  refine Qcb (.agg (numA (s5))) 70 #[.agg (numA (s3))] kj kj kj rfl (fun W=>kj) (fun W hR=>c5 W) ?_
  refine Qcb (.agg (numA (s6))) 66 #[.agg (numA (s4)),.agg (numA (s5))] kj kj kj rfl (fun W=>kj) (fun W hR=>c6 W) ?_
  refine Qcb (.tuple #[.agg (numA (r)),.bool false]) 71 #[.agg (numA (s6))] kj kj kj rfl (fun W=>kj) (fun W hR=>cr W) ?_
  refine Qap (.tuple #[.agg (numA (r)),.bool false]) kj kj rfl (fun W=>kj) ?_
  refine Qap (.agg (numA (r))) kj kj rfl (fun W=>kj) ?_
  refine Qap (.bool false) kj kj rfl (fun W=>kj) ?_
  refine QiS (numA (0)) 49 kj kj (qR _) kj rfl (fun W=>kj) ?_
  refine Qbp rfl ?_
  refine Qap (.bool false) kj kj rfl (fun W=>kj) ?_
  refine QcE (hF _ kj fun W16 e16=>?_)
  simp only [List.nil_append,List.cons_append,fins,up]
  intro g17 l17 r17_16 n17
  have b17:w.heap.size≤g17:=qT x15.size l17
  clear hF
  have x16:Ext w W16:=Ext.tr x15 e16
  refine QaX _ g17 _ (numA (r)) 49 r17_16 rfl (Qai 49 _ _ g17 49 _ _ r17_16 rfl kj kj (isz (n:=4) kj kj) (eqsz (n:=4) kj kj) kj) (fun W hp=>trivial) fun W17 p17 r17_17=>?_
  have x17:Ext w W17:=Puts.ext p17 x16 b17
  refine QbL ?_
  refine hK16 _ _ ?_
  refine wp_seq_k fun K18 hK18=>?_
  refine wp_seq_k fun K19 hK19=>?_
  refine Qad ?_
  refine Qab (.bool false) 46 rfl kj kj ?_
  refine Qab (.bool true) 47 rfl kj kj ?_
  refine Qab (.bool true) 48 rfl kj kj ?_
  refine Qbz 49 rfl kj ?_
  refine Qbz 50 rfl kj ?_
  refine Qbz 51 rfl kj ?_
  refine Qbz 52 rfl kj ?_
  refine Qbz 53 rfl kj ?_
  refine Qbz 54 rfl kj ?_
  refine Qab (.bool true) 55 rfl kj kj ?_
  refine Qag ?_
  refine hK19 _ _ ?_
  refine cond_true kj ?_
  refine wp_seq_k fun K20 hK20=>?_
  refine Qad ?_
  refine Qab (.agg (cat [numA (0),numA (0)])) 56 rfl kj kj ?_
  have r4_4:=(Qaa (Puts.row p3 r4_2 (Qat r3_1 l4)) e4)
  have r4_9:=(Qaa (Qaa (Qaa (Puts.row p6 (Qaa r4_4 e5) (Qac r4_4 l8)) e7) e8) e9)
  have r4_10:=(Qaa r4_9 e10)
  have r4_13:=(Puts.row p13 (Puts.row p12 (Qaa r4_10 e11) (Qac r4_9 l12)) (Qac r4_10 l13))
  have r4_15:=(Puts.row p15 (Qaa r4_13 e14) (Qac r4_13 l15))
  have r4_17:=(Puts.row p17 (Qaa (Puts.row p15 (Qaa (Puts.row p13 (Puts.row p12 (Qaa (Qaa (Qaa (Qaa (Qaa (Puts.row p6 (Qaa (Qaa (Puts.row p3 r4_2 (Qat r3_1 l4)) e4) e5) (Qac r4_4 l8)) e7) e8) e9) e10) e11) (Qac r4_9 l12)) (Qac r4_10 l13)) e14) (Qac r4_13 l15)) e16) (Qac r4_15 l17))
  refine Qal g4 _ (cat [numA (0),numA (0)]) 51 r4_17 rfl kj (Qai 51 _ _ g4 51 _ _ r4_17 rfl kj kj (isz (n:=8) kj kj) (eqsz (n:=8) kj kj) kj) fun W18 p18 r4_18=>?_
  have x18:Ext w W18:=Puts.ext p18 x17 b4
  refine Qab (.bool false) 3 rfl kj kj ?_
  refine Qag ?_
  refine hK20 _ _ ?_
  refine wp_ret ?_
  exact (show bodyPost _ _ _ .ret _ _ from ret2 (.agg (cat [numA (0),numA (0)])) (.bool false) rfl (Qa9 g4 51 _ r4_18 kj kj (isz (n:=8) kj kj)) (Qb6 kj) ⟨rfl,x18⟩)
theorem Qmd (xs ys:List Int) (hx:xs.length=32) (hb:Qak xs) (ys_len:ys.length=32) (s0 s1 s2 s3 s4 s5 s6 r:Int) (ho:(nth xs 31/128==1)=true) (hc:decide (ys=(xs).set 31 (nth xs 31%128))=true)
    (c0:∀ W,Calls Tryd.prog 44 #[.agg (ints .u8 ((xs).set 31 (nth xs 31%128)))] W (Ret W (.agg (numA (s0)))))
    (c1:∀ W,Calls Tryd.prog 66 #[.agg (numA (s0)),.agg (numA (s0))] W (Ret W (.agg (numA (s1)))))
    (c2:∀ W,Calls Tryd.prog 66 #[.agg (numA (s1)),.agg (numA (dN))] W (Ret W (.agg (numA (s2)))))
    (c3:∀ W,Calls Tryd.prog 68 #[.agg (numA (s2)),.agg (numA (1))] W (Ret W (.agg (numA (s3)))))
    (c4:∀ W,Calls Tryd.prog 69 #[.agg (numA (s1)),.agg (numA (1))] W (Ret W (.agg (numA (s4)))))
    (c5:∀ W,Calls Tryd.prog 70 #[.agg (numA (s3))] W (Ret W (.agg (numA (s5)))))
    (c6:∀ W,Calls Tryd.prog 66 #[.agg (numA (s4)),.agg (numA (s5))] W (Ret W (.agg (numA (s6)))))
    (cb:∀ W,Calls Tryd.prog 50 #[.agg (numA (s0))] W (Ret W (.agg (ints .u8 ys))))
    (cr:∀ W,Calls Tryd.prog 71 #[.agg (numA (s6))] W (Ret W (.tuple #[.agg (numA (r)),.bool false])))
    (w:World) (tB:TypeId) (hB:w.heap[2]? = some (.cells (ints .u8 Qbq) tB)):Calls Tryd.prog 34 #[.agg (ints .u8 (xs))] w (Ret w (.tuple #[.agg (cat [numA (0),numA (0)]),.bool false])):=by
  refine enter 63 [(0,.agg (ints .u8 (xs)))] Tryd.func34 rfl rfl kj rfl ?_
  refine wp_seq_k fun K2 hK2=>?_
  refine Qad ?_
  refine Qaj (ints .u8 (xs)) 23 1 rfl kj kj fun g3 W1 l3 e1 r3_1=>?_
  have x1:Ext w W1:=Ext.tr (Rely.Ext.refl w) e1
  have b3:w.heap.size≤g3:=qT (Rely.Ext.refl w).size l3
  refine Qaj (cat [numA (0),numA (0)]) 51 2 rfl kj kj fun g4 W2 l4 e2 r4_2=>?_
  have x2:Ext w W2:=Ext.tr x1 e2
  have b4:w.heap.size≤g4:=qT x1.size l4
  refine Qab (.bool false) 3 rfl kj kj ?_
  refine Qag ?_
  refine hK2 _ _ ?_
  refine wp_seq_k fun K5 hK5=>?_
  refine Qad ?_
  refine Qab (.pointer (some ⟨g3,31,none⟩)) 11 rfl kj kj ?_
  have r3_2:=(Qaa r3_1 e2)
  refine Qab (.int .u8 (nth (xs) 31)) 12 rfl kj (Qan 5 _ g3 31 23 _ (.int .u8 (nth (xs) 31)) _ r3_2 rfl kj (Qaw _ _ _ (Nat.lt_of_lt_of_eq (by decide) hx.symm)) kj) ?_
  refine Qab (.int .u8 (nth xs 31/128)) 13 rfl kj (Qbv .shr _ _ _ _ .u8 .u64 _ _ _ rfl kj kj (QdL _ _ _ _ _ _ (show (0:Int)≤7 by decide) (shr7 _))) ?_
  refine Qab (.bool true) 14 rfl kj (Qax (u:=.bool (((nth xs 31/128)==1))) kj (congrArg Value.bool ho)) ?_
  refine Qab (.bool true) 4 rfl kj kj ?_
  refine Qag ?_
  refine hK5 _ _ ?_
  refine wp_seq_k fun K6 hK6=>?_
  refine Qad ?_
  refine Qab (.pointer (some ⟨g3,31,none⟩)) 15 rfl kj kj ?_
  refine Qab (.int .u8 (nth (xs) 31)) 16 rfl kj (Qan 5 _ g3 31 23 _ (.int .u8 (nth (xs) 31)) _ r3_2 rfl kj (Qaw _ _ _ (Nat.lt_of_lt_of_eq (by decide) hx.symm)) kj) ?_
  refine Qab (.int .u8 (nth xs 31%128)) 17 rfl kj (Qax (u:=.int .u8 (bits .and .u8 ((nth (xs) 31)) (127))) kj (congrArg (Value.int .u8) (Qfl _ (hb.nth 31)))) ?_
  refine Qab (.pointer (some ⟨g3,31,none⟩)) 18 rfl kj kj ?_
  refine Qal g3 _ (ints .u8 ((xs).set 31 (nth xs 31%128))) 23 r3_2 rfl kj (Qa5 5 _ _ g3 31 23 _ _ r3_2 rfl kj kj kj (Nat.lt_of_lt_of_eq (show 31<32 by decide) hx.symm)) fun W3 p3 r3_3=>?_
  have x3:Ext w W3:=Puts.ext p3 x2 b3
  refine Qag ?_
  refine hK6 _ _ ?_
  refine wp_seq_k fun K7 hK7=>?_
  refine Qad ?_
  refine Qab (.agg (ints .u8 ((xs).set 31 (nth xs 31%128)))) 19 rfl kj (Qae 23 _ g3 23 _ _ r3_3 rfl kj kj (isz (n:=32) kj ((Qaf _ _).trans ((List.length_set ..).trans hx)))) ?_
  refine Qar (.agg (numA (s0))) 44 #[.agg (ints .u8 ((xs).set 31 (nth xs 31%128)))] 20 rfl kj kj (c0 _) fun W4 e4=>?_
  have x4:Ext w W4:=Ext.tr x3 e4
  refine Qaj (numA (0)) 49 5 rfl kj kj fun g8 W5 l8 e5 r8_5=>?_
  have x5:Ext w W5:=Ext.tr x4 e5
  have b8:w.heap.size≤g8:=qT x4.size l8
  refine Qal g8 _ (numA (s0)) 49 r8_5 rfl kj (Qai 49 _ _ g8 49 _ _ r8_5 rfl kj kj (isz (n:=4) kj kj) (eqsz (n:=4) kj kj) kj) fun W6 p6 r8_6=>?_
  have x6:Ext w W6:=Puts.ext p6 x5 b8
  refine Qag ?_
  refine hK7 _ _ ?_
  refine wp_seq_k fun K9 hK9=>?_
  refine wp_seq_k fun K10 hK10=>?_
  refine QaB 4 [⟨none,[(5,none)]⟩,⟨none,[(21,some 0)]⟩,⟨none,[(1,none)]⟩,⟨none,[(22,some 1),(23,some 2)]⟩] kj kj fun F hF=>?_
  refine Qam (.agg (numA (s0))) kj kj (fun W hR=>(Qae 49 _ g8 49 _ _ (Qaa (Qaa r8_6 (Qah _)) hR) rfl kj kj (isz (n:=4) kj kj))) ?_
  refine Qaq (.agg (ints .u8 (ys))) 50 #[.agg (numA (s0))] kj kj (fun W=>kj) (fun W hR=>cb W) ?_
  have r3_4:=(Qaa r3_3 e4)
  have r3_6:=(Puts.row p6 (Qaa (Qaa r3_3 e4) e5) (Qac r3_4 l8))
  refine Qam (.agg (ints .u8 ((xs).set 31 (nth xs 31%128)))) kj kj (fun W hR=>(Qae 23 _ g3 23 _ _ (Qaa (Qaa r3_6 (Qah _)) hR) rfl kj kj (isz (n:=32) kj ((Qaf _ _).trans ((List.length_set ..).trans hx))))) ?_
  refine Qav (.bool false) kj kj (fun W=>(QbY 23 _ _ _ _ _ (.bool false) rfl kj kj kj (QdG _ _ true ys_len (by rw [List.length_set]; exact hx) hc _))) ?_
  refine Qa3 (hF _ kj fun W7 e7=>?_)
  simp only [ups,up,Kn.val,List.take_succ_cons,List.take_zero,List.drop_succ_cons,List.drop_zero,List.nil_append,List.cons_append]
  clear hF
  have x7:Ext w W7:=Ext.tr x6 e7
  refine Qag ?_
  refine hK10 _ _ ?_
  refine cond_false kj ?_
  refine wp_skip ?_
  refine hK9 _ _ ?_
  refine wp_seq_k fun K11 hK11=>?_
  refine Qad ?_
  have r8_7:=(Qaa r8_6 e7)
  refine Qab (.agg (numA (s0))) 26 rfl kj (Qae 49 _ g8 49 _ _ r8_7 rfl kj kj (isz (n:=4) kj kj)) ?_
  refine Qab (.agg (numA (s0))) 27 rfl kj (Qae 49 _ g8 49 _ _ r8_7 rfl kj kj (isz (n:=4) kj kj)) ?_
  refine Qar (.agg (numA (s1))) 66 #[.agg (numA (s0)),.agg (numA (s0))] 28 rfl kj kj (c1 _) fun W8 e8=>?_
  have x8:Ext w W8:=Ext.tr x7 e8
  refine Qar (.agg (numA (1))) 67 #[.int .i64 1] 29 rfl kj kj ((Qdf 1 (by decide)) _) fun W9 e9=>?_
  have x9:Ext w W9:=Ext.tr x8 e9
  refine Qaj (numA (0)) 49 6 rfl kj kj fun g12 W10 l12 e10 r12_10=>?_
  have x10:Ext w W10:=Ext.tr x9 e10
  have b12:w.heap.size≤g12:=qT x9.size l12
  refine Qaj (numA (0)) 49 7 rfl kj kj fun g13 W11 l13 e11 r13_11=>?_
  have x11:Ext w W11:=Ext.tr x10 e11
  have b13:w.heap.size≤g13:=qT x10.size l13
  have r12_11:=(Qaa r12_10 e11)
  refine Qal g12 _ (numA (s1)) 49 r12_11 rfl kj (Qai 49 _ _ g12 49 _ _ r12_11 rfl kj kj (isz (n:=4) kj kj) (eqsz (n:=4) kj kj) kj) fun W12 p12 r12_12=>?_
  have x12:Ext w W12:=Puts.ext p12 x11 b12
  have r13_12:=(Puts.row p12 r13_11 (Qat r12_10 l13))
  refine Qal g13 _ (numA (1)) 49 r13_12 rfl kj (Qai 49 _ _ g13 49 _ _ r13_12 rfl kj kj (isz (n:=4) kj kj) (eqsz (n:=4) kj kj) kj) fun W13 p13 r13_13=>?_
  have x13:Ext w W13:=Puts.ext p13 x12 b13
  refine Qag ?_
  refine hK11 _ _ ?_
  refine wp_seq_k fun K14 hK14=>?_
  refine Qbc 7 [⟨none,[(6,none)]⟩,⟨none,[]⟩,⟨none,[(31,some 1)]⟩,⟨none,[(30,some 0),(32,some 2)]⟩,⟨none,[(7,none)]⟩,⟨none,[(33,some 3),(34,some 4)]⟩,⟨none,[]⟩] [6] kj kj kj fun F hF=>?_
  have r12_13:=(Puts.row p13 r12_12 (Qac r12_10 l13))
  refine Qam (.agg (numA (s1))) kj kj (fun W hR=>(Qae 49 _ g12 49 _ _ (Qaa (Qaa r12_13 (Qah _)) hR) rfl kj kj (isz (n:=4) kj kj))) ?_
  have r1_4:=(Qaa (Puts.row p3 (Qaa (Qaa hB e1) e2) (Qac hB l3)) e4)
  have r1_9:=(Qaa (Qaa (Qaa (Puts.row p6 (Qaa r1_4 e5) (Qac r1_4 l8)) e7) e8) e9)
  have r1_10:=(Qaa r1_9 e10)
  have r1_13:=(Puts.row p13 (Puts.row p12 (Qaa (Qaa (Qaa (Qaa (Qaa (Puts.row p6 (Qaa (Qaa (Puts.row p3 (Qaa (Qaa hB e1) e2) (Qac hB l3)) e4) e5) (Qac r1_4 l8)) e7) e8) e9) e10) e11) (Qac r1_9 l12)) (Qac r1_10 l13))
  refine Qam (.agg (ints .u8 (Qbq))) kj kj (fun W hR=>(Qae 23 _ 2 tB _ _ (Qaa (Qaa r1_13 (Qah _)) hR) rfl kj kj (isz (n:=32) kj ((Qaf _ _).trans (by decide))))) ?_
  refine Qaq (.agg (numA (dN))) 44 #[.agg (ints .u8 (Qbq))] kj kj (fun W=>kj) (fun W hR=>QeZ W) ?_
  refine Qaq (.agg (numA (s2))) 66 #[.agg (numA (s1)),.agg (numA (dN))] kj kj (fun W=>kj) (fun W hR=>c2 W) ?_
  refine Qam (.agg (numA (1))) kj kj (fun W hR=>(Qae 49 _ g13 49 _ _ (Qaa (Qaa r13_13 (Qah _)) hR) rfl kj kj (isz (n:=4) kj kj))) ?_
  refine Qaq (.agg (numA (s3))) 68 #[.agg (numA (s2)),.agg (numA (1))] kj kj (fun W=>kj) (fun W hR=>c3 W) ?_
  refine QbI (numA (0)) 49 kj (qR _) kj (fun W=>kj) ?_
  refine Qa3 (hF _ kj fun W14 e14=>?_)
  simp only [fins,up,List.take_succ_cons,List.take_zero,List.drop_succ_cons,List.drop_zero,List.nil_append,List.cons_append]
  intro g15 l15 r15_14 n15
  have b15:w.heap.size≤g15:=qT x13.size l15
  clear hF
  have x14:Ext w W14:=Ext.tr x13 e14
  refine Qal g15 _ (numA (s3)) 49 r15_14 rfl kj (Qai 49 _ _ g15 49 _ _ r15_14 rfl kj kj (isz (n:=4) kj kj) (eqsz (n:=4) kj kj) kj) fun W15 p15 r15_15=>?_
  have x15:Ext w W15:=Puts.ext p15 x14 b15
  refine Qag ?_
  refine hK14 _ _ ?_
  refine wp_seq_k fun K16 hK16=>?_
  refine QaA (fun W=>True) [⟨none,[(6,none)]⟩,⟨none,[(7,none)]⟩,⟨none,[(37,some 0),(38,some 1)]⟩,⟨none,[(8,none)]⟩,⟨none,[(40,some 3)]⟩,⟨none,[(39,some 2),(41,some 4)]⟩,⟨none,[(42,some 5)]⟩,⟨none,[(43,some 6)]⟩,⟨none,[(36,some 7)]⟩,⟨none,[(36,some 7)]⟩,⟨none,[]⟩,⟨none,[(9,some 10),(44,some 8)]⟩,⟨none,[(45,some 9)]⟩] [10] [9,12] kj kj kj (fun W hR=>trivial) fun F hF=>?_
  have r12_15:=(Puts.row p15 (Qaa r12_13 e14) (Qac r12_13 l15))
  refine QaM (.agg (numA (s1))) kj kj kj rfl (fun W hR=>(Qae 49 _ g12 49 _ _ (Qaa (Qaa r12_15 (Qah _)) hR) rfl kj kj (isz (n:=4) kj kj))) ?_
  have r13_15:=(Puts.row p15 (Qaa r13_13 e14) (Qac r13_13 l15))
  refine QaM (.agg (numA (1))) kj kj kj rfl (fun W hR=>(Qae 49 _ g13 49 _ _ (Qaa (Qaa r13_15 (Qah _)) hR) rfl kj kj (isz (n:=4) kj kj))) ?_
  refine Qcb (.agg (numA (s4))) 69 #[.agg (numA (s1)),.agg (numA (1))] kj kj kj rfl (fun W=>kj) (fun W hR=>c4 W) ?_
  refine QaM (.agg (numA (s3))) kj kj kj rfl (fun W hR=>(Qae 49 _ g15 49 _ _ (Qaa (Qaa r15_15 (Qah _)) hR) rfl kj kj (isz (n:=4) kj kj))) ?_
  refine Qcb (.agg (numA (s5))) 70 #[.agg (numA (s3))] kj kj kj rfl (fun W=>kj) (fun W hR=>c5 W) ?_
  refine Qcb (.agg (numA (s6))) 66 #[.agg (numA (s4)),.agg (numA (s5))] kj kj kj rfl (fun W=>kj) (fun W hR=>c6 W) ?_
  refine Qcb (.tuple #[.agg (numA (r)),.bool false]) 71 #[.agg (numA (s6))] kj kj kj rfl (fun W=>kj) (fun W hR=>cr W) ?_
  refine Qap (.tuple #[.agg (numA (r)),.bool false]) kj kj rfl (fun W=>kj) ?_
  refine Qap (.agg (numA (r))) kj kj rfl (fun W=>kj) ?_
  refine Qap (.bool false) kj kj rfl (fun W=>kj) ?_
  refine QiS (numA (0)) 49 kj kj (qR _) kj rfl (fun W=>kj) ?_
  refine Qbp rfl ?_
  refine Qap (.bool false) kj kj rfl (fun W=>kj) ?_
  refine QcE (hF _ kj fun W16 e16=>?_)
  simp only [List.nil_append,List.cons_append,fins,up]
  intro g17 l17 r17_16 n17
  have b17:w.heap.size≤g17:=qT x15.size l17
  clear hF
  have x16:Ext w W16:=Ext.tr x15 e16
  refine QaX _ g17 _ (numA (r)) 49 r17_16 rfl (Qai 49 _ _ g17 49 _ _ r17_16 rfl kj kj (isz (n:=4) kj kj) (eqsz (n:=4) kj kj) kj) (fun W hp=>trivial) fun W17 p17 r17_17=>?_
  have x17:Ext w W17:=Puts.ext p17 x16 b17
  refine QbL ?_
  refine hK16 _ _ ?_
  refine wp_seq_k fun K18 hK18=>?_
  refine wp_seq_k fun K19 hK19=>?_
  refine Qad ?_
  refine Qab (.bool false) 46 rfl kj kj ?_
  refine Qab (.bool true) 47 rfl kj kj ?_
  refine Qab (.bool true) 48 rfl kj kj ?_
  refine Qbz 49 rfl kj ?_
  refine Qbz 50 rfl kj ?_
  refine Qbz 51 rfl kj ?_
  refine Qbz 52 rfl kj ?_
  refine Qbz 53 rfl kj ?_
  refine Qbz 54 rfl kj ?_
  refine Qab (.bool true) 55 rfl kj kj ?_
  refine Qag ?_
  refine hK19 _ _ ?_
  refine cond_true kj ?_
  refine wp_seq_k fun K20 hK20=>?_
  refine Qad ?_
  refine Qab (.agg (cat [numA (0),numA (0)])) 56 rfl kj kj ?_
  have r4_4:=(Qaa (Puts.row p3 r4_2 (Qat r3_1 l4)) e4)
  have r4_9:=(Qaa (Qaa (Qaa (Puts.row p6 (Qaa r4_4 e5) (Qac r4_4 l8)) e7) e8) e9)
  have r4_10:=(Qaa r4_9 e10)
  have r4_13:=(Puts.row p13 (Puts.row p12 (Qaa r4_10 e11) (Qac r4_9 l12)) (Qac r4_10 l13))
  have r4_15:=(Puts.row p15 (Qaa r4_13 e14) (Qac r4_13 l15))
  have r4_17:=(Puts.row p17 (Qaa (Puts.row p15 (Qaa (Puts.row p13 (Puts.row p12 (Qaa (Qaa (Qaa (Qaa (Qaa (Puts.row p6 (Qaa (Qaa (Puts.row p3 r4_2 (Qat r3_1 l4)) e4) e5) (Qac r4_4 l8)) e7) e8) e9) e10) e11) (Qac r4_9 l12)) (Qac r4_10 l13)) e14) (Qac r4_13 l15)) e16) (Qac r4_15 l17))
  refine Qal g4 _ (cat [numA (0),numA (0)]) 51 r4_17 rfl kj (Qai 51 _ _ g4 51 _ _ r4_17 rfl kj kj (isz (n:=8) kj kj) (eqsz (n:=8) kj kj) kj) fun W18 p18 r4_18=>?_
  have x18:Ext w W18:=Puts.ext p18 x17 b4
  refine Qab (.bool false) 3 rfl kj kj ?_
  refine Qag ?_
  refine hK20 _ _ ?_
  refine wp_ret ?_
  exact (show bodyPost _ _ _ .ret _ _ from ret2 (.agg (cat [numA (0),numA (0)])) (.bool false) rfl (Qa9 g4 51 _ r4_18 kj kj (isz (n:=8) kj kj)) (Qb6 kj) ⟨rfl,x18⟩)
theorem Qmc (xs ys:List Int) (hx:xs.length=32) (hb:Qak xs) (ys_len:ys.length=32) (s0 s1 s2 s3 s4 s5 s6 r:Int) (ho:(nth xs 31/128==1)=true) (hc:decide (ys=(xs).set 31 (nth xs 31%128))=true) (h_r:isN r) (hz:(r==0)=true)
    (c0:∀ W,Calls Tryd.prog 44 #[.agg (ints .u8 ((xs).set 31 (nth xs 31%128)))] W (Ret W (.agg (numA (s0)))))
    (c1:∀ W,Calls Tryd.prog 66 #[.agg (numA (s0)),.agg (numA (s0))] W (Ret W (.agg (numA (s1)))))
    (c2:∀ W,Calls Tryd.prog 66 #[.agg (numA (s1)),.agg (numA (dN))] W (Ret W (.agg (numA (s2)))))
    (c3:∀ W,Calls Tryd.prog 68 #[.agg (numA (s2)),.agg (numA (1))] W (Ret W (.agg (numA (s3)))))
    (c4:∀ W,Calls Tryd.prog 69 #[.agg (numA (s1)),.agg (numA (1))] W (Ret W (.agg (numA (s4)))))
    (c5:∀ W,Calls Tryd.prog 70 #[.agg (numA (s3))] W (Ret W (.agg (numA (s5)))))
    (c6:∀ W,Calls Tryd.prog 66 #[.agg (numA (s4)),.agg (numA (s5))] W (Ret W (.agg (numA (s6)))))
    (cb:∀ W,Calls Tryd.prog 50 #[.agg (numA (s0))] W (Ret W (.agg (ints .u8 ys))))
    (cr:∀ W,Calls Tryd.prog 71 #[.agg (numA (s6))] W (Ret W (.tuple #[.agg (numA (r)),.bool true])))
    (w:World) (tB:TypeId) (hB:w.heap[2]? = some (.cells (ints .u8 Qbq) tB)):Calls Tryd.prog 34 #[.agg (ints .u8 (xs))] w (Ret w (.tuple #[.agg (cat [numA (0),numA (0)]),.bool false])):=by
  refine enter 63 [(0,.agg (ints .u8 (xs)))] Tryd.func34 rfl rfl kj rfl ?_
  refine wp_seq_k fun K2 hK2=>?_
  refine Qad ?_
  refine Qaj (ints .u8 (xs)) 23 1 rfl kj kj fun g3 W1 l3 e1 r3_1=>?_
  have x1:Ext w W1:=Ext.tr (Rely.Ext.refl w) e1
  have b3:w.heap.size≤g3:=qT (Rely.Ext.refl w).size l3
  refine Qaj (cat [numA (0),numA (0)]) 51 2 rfl kj kj fun g4 W2 l4 e2 r4_2=>?_
  have x2:Ext w W2:=Ext.tr x1 e2
  have b4:w.heap.size≤g4:=qT x1.size l4
  refine Qab (.bool false) 3 rfl kj kj ?_
  refine Qag ?_
  refine hK2 _ _ ?_
  refine wp_seq_k fun K5 hK5=>?_
  refine Qad ?_
  refine Qab (.pointer (some ⟨g3,31,none⟩)) 11 rfl kj kj ?_
  have r3_2:=(Qaa r3_1 e2)
  refine Qab (.int .u8 (nth (xs) 31)) 12 rfl kj (Qan 5 _ g3 31 23 _ (.int .u8 (nth (xs) 31)) _ r3_2 rfl kj (Qaw _ _ _ (Nat.lt_of_lt_of_eq (by decide) hx.symm)) kj) ?_
  refine Qab (.int .u8 (nth xs 31/128)) 13 rfl kj (Qbv .shr _ _ _ _ .u8 .u64 _ _ _ rfl kj kj (QdL _ _ _ _ _ _ (show (0:Int)≤7 by decide) (shr7 _))) ?_
  refine Qab (.bool true) 14 rfl kj (Qax (u:=.bool (((nth xs 31/128)==1))) kj (congrArg Value.bool ho)) ?_
  refine Qab (.bool true) 4 rfl kj kj ?_
  refine Qag ?_
  refine hK5 _ _ ?_
  refine wp_seq_k fun K6 hK6=>?_
  refine Qad ?_
  refine Qab (.pointer (some ⟨g3,31,none⟩)) 15 rfl kj kj ?_
  refine Qab (.int .u8 (nth (xs) 31)) 16 rfl kj (Qan 5 _ g3 31 23 _ (.int .u8 (nth (xs) 31)) _ r3_2 rfl kj (Qaw _ _ _ (Nat.lt_of_lt_of_eq (by decide) hx.symm)) kj) ?_
  refine Qab (.int .u8 (nth xs 31%128)) 17 rfl kj (Qax (u:=.int .u8 (bits .and .u8 ((nth (xs) 31)) (127))) kj (congrArg (Value.int .u8) (Qfl _ (hb.nth 31)))) ?_
  refine Qab (.pointer (some ⟨g3,31,none⟩)) 18 rfl kj kj ?_
  refine Qal g3 _ (ints .u8 ((xs).set 31 (nth xs 31%128))) 23 r3_2 rfl kj (Qa5 5 _ _ g3 31 23 _ _ r3_2 rfl kj kj kj (Nat.lt_of_lt_of_eq (show 31<32 by decide) hx.symm)) fun W3 p3 r3_3=>?_
  have x3:Ext w W3:=Puts.ext p3 x2 b3
  refine Qag ?_
  refine hK6 _ _ ?_
  refine wp_seq_k fun K7 hK7=>?_
  refine Qad ?_
  refine Qab (.agg (ints .u8 ((xs).set 31 (nth xs 31%128)))) 19 rfl kj (Qae 23 _ g3 23 _ _ r3_3 rfl kj kj (isz (n:=32) kj ((Qaf _ _).trans ((List.length_set ..).trans hx)))) ?_
  refine Qar (.agg (numA (s0))) 44 #[.agg (ints .u8 ((xs).set 31 (nth xs 31%128)))] 20 rfl kj kj (c0 _) fun W4 e4=>?_
  have x4:Ext w W4:=Ext.tr x3 e4
  refine Qaj (numA (0)) 49 5 rfl kj kj fun g8 W5 l8 e5 r8_5=>?_
  have x5:Ext w W5:=Ext.tr x4 e5
  have b8:w.heap.size≤g8:=qT x4.size l8
  refine Qal g8 _ (numA (s0)) 49 r8_5 rfl kj (Qai 49 _ _ g8 49 _ _ r8_5 rfl kj kj (isz (n:=4) kj kj) (eqsz (n:=4) kj kj) kj) fun W6 p6 r8_6=>?_
  have x6:Ext w W6:=Puts.ext p6 x5 b8
  refine Qag ?_
  refine hK7 _ _ ?_
  refine wp_seq_k fun K9 hK9=>?_
  refine wp_seq_k fun K10 hK10=>?_
  refine QaB 4 [⟨none,[(5,none)]⟩,⟨none,[(21,some 0)]⟩,⟨none,[(1,none)]⟩,⟨none,[(22,some 1),(23,some 2)]⟩] kj kj fun F hF=>?_
  refine Qam (.agg (numA (s0))) kj kj (fun W hR=>(Qae 49 _ g8 49 _ _ (Qaa (Qaa r8_6 (Qah _)) hR) rfl kj kj (isz (n:=4) kj kj))) ?_
  refine Qaq (.agg (ints .u8 (ys))) 50 #[.agg (numA (s0))] kj kj (fun W=>kj) (fun W hR=>cb W) ?_
  have r3_4:=(Qaa r3_3 e4)
  have r3_6:=(Puts.row p6 (Qaa (Qaa r3_3 e4) e5) (Qac r3_4 l8))
  refine Qam (.agg (ints .u8 ((xs).set 31 (nth xs 31%128)))) kj kj (fun W hR=>(Qae 23 _ g3 23 _ _ (Qaa (Qaa r3_6 (Qah _)) hR) rfl kj kj (isz (n:=32) kj ((Qaf _ _).trans ((List.length_set ..).trans hx))))) ?_
  refine Qav (.bool false) kj kj (fun W=>(QbY 23 _ _ _ _ _ (.bool false) rfl kj kj kj (QdG _ _ true ys_len (by rw [List.length_set]; exact hx) hc _))) ?_
  refine Qa3 (hF _ kj fun W7 e7=>?_)
  simp only [ups,up,Kn.val,List.take_succ_cons,List.take_zero,List.drop_succ_cons,List.drop_zero,List.nil_append,List.cons_append]
  clear hF
  have x7:Ext w W7:=Ext.tr x6 e7
  refine Qag ?_
  refine hK10 _ _ ?_
  refine cond_false kj ?_
  refine wp_skip ?_
  refine hK9 _ _ ?_
  refine wp_seq_k fun K11 hK11=>?_
  refine Qad ?_
  have r8_7:=(Qaa r8_6 e7)
  refine Qab (.agg (numA (s0))) 26 rfl kj (Qae 49 _ g8 49 _ _ r8_7 rfl kj kj (isz (n:=4) kj kj)) ?_
  refine Qab (.agg (numA (s0))) 27 rfl kj (Qae 49 _ g8 49 _ _ r8_7 rfl kj kj (isz (n:=4) kj kj)) ?_
  refine Qar (.agg (numA (s1))) 66 #[.agg (numA (s0)),.agg (numA (s0))] 28 rfl kj kj (c1 _) fun W8 e8=>?_
  have x8:Ext w W8:=Ext.tr x7 e8
  refine Qar (.agg (numA (1))) 67 #[.int .i64 1] 29 rfl kj kj ((Qdf 1 (by decide)) _) fun W9 e9=>?_
  have x9:Ext w W9:=Ext.tr x8 e9
  refine Qaj (numA (0)) 49 6 rfl kj kj fun g12 W10 l12 e10 r12_10=>?_
  have x10:Ext w W10:=Ext.tr x9 e10
  have b12:w.heap.size≤g12:=qT x9.size l12
  refine Qaj (numA (0)) 49 7 rfl kj kj fun g13 W11 l13 e11 r13_11=>?_
  have x11:Ext w W11:=Ext.tr x10 e11
  have b13:w.heap.size≤g13:=qT x10.size l13
  have r12_11:=(Qaa r12_10 e11)
  refine Qal g12 _ (numA (s1)) 49 r12_11 rfl kj (Qai 49 _ _ g12 49 _ _ r12_11 rfl kj kj (isz (n:=4) kj kj) (eqsz (n:=4) kj kj) kj) fun W12 p12 r12_12=>?_
  have x12:Ext w W12:=Puts.ext p12 x11 b12
  have r13_12:=(Puts.row p12 r13_11 (Qat r12_10 l13))
  refine Qal g13 _ (numA (1)) 49 r13_12 rfl kj (Qai 49 _ _ g13 49 _ _ r13_12 rfl kj kj (isz (n:=4) kj kj) (eqsz (n:=4) kj kj) kj) fun W13 p13 r13_13=>?_
  have x13:Ext w W13:=Puts.ext p13 x12 b13
  refine Qag ?_
  refine hK11 _ _ ?_
  refine wp_seq_k fun K14 hK14=>?_
  refine Qbc 7 [⟨none,[(6,none)]⟩,⟨none,[]⟩,⟨none,[(31,some 1)]⟩,⟨none,[(30,some 0),(32,some 2)]⟩,⟨none,[(7,none)]⟩,⟨none,[(33,some 3),(34,some 4)]⟩,⟨none,[]⟩] [6] kj kj kj fun F hF=>?_
  have r12_13:=(Puts.row p13 r12_12 (Qac r12_10 l13))
  refine Qam (.agg (numA (s1))) kj kj (fun W hR=>(Qae 49 _ g12 49 _ _ (Qaa (Qaa r12_13 (Qah _)) hR) rfl kj kj (isz (n:=4) kj kj))) ?_
  have r1_4:=(Qaa (Puts.row p3 (Qaa (Qaa hB e1) e2) (Qac hB l3)) e4)
  have r1_9:=(Qaa (Qaa (Qaa (Puts.row p6 (Qaa r1_4 e5) (Qac r1_4 l8)) e7) e8) e9)
  have r1_10:=(Qaa r1_9 e10)
  have r1_13:=(Puts.row p13 (Puts.row p12 (Qaa (Qaa (Qaa (Qaa (Qaa (Puts.row p6 (Qaa (Qaa (Puts.row p3 (Qaa (Qaa hB e1) e2) (Qac hB l3)) e4) e5) (Qac r1_4 l8)) e7) e8) e9) e10) e11) (Qac r1_9 l12)) (Qac r1_10 l13))
  refine Qam (.agg (ints .u8 (Qbq))) kj kj (fun W hR=>(Qae 23 _ 2 tB _ _ (Qaa (Qaa r1_13 (Qah _)) hR) rfl kj kj (isz (n:=32) kj ((Qaf _ _).trans (by decide))))) ?_
  refine Qaq (.agg (numA (dN))) 44 #[.agg (ints .u8 (Qbq))] kj kj (fun W=>kj) (fun W hR=>QeZ W) ?_
  refine Qaq (.agg (numA (s2))) 66 #[.agg (numA (s1)),.agg (numA (dN))] kj kj (fun W=>kj) (fun W hR=>c2 W) ?_
  refine Qam (.agg (numA (1))) kj kj (fun W hR=>(Qae 49 _ g13 49 _ _ (Qaa (Qaa r13_13 (Qah _)) hR) rfl kj kj (isz (n:=4) kj kj))) ?_
  refine Qaq (.agg (numA (s3))) 68 #[.agg (numA (s2)),.agg (numA (1))] kj kj (fun W=>kj) (fun W hR=>c3 W) ?_
  refine QbI (numA (0)) 49 kj (qR _) kj (fun W=>kj) ?_
  refine Qa3 (hF _ kj fun W14 e14=>?_)
  simp only [fins,up,List.take_succ_cons,List.take_zero,List.drop_succ_cons,List.drop_zero,List.nil_append,List.cons_append]
  intro g15 l15 r15_14 n15
  have b15:w.heap.size≤g15:=qT x13.size l15
  clear hF
  have x14:Ext w W14:=Ext.tr x13 e14
  refine Qal g15 _ (numA (s3)) 49 r15_14 rfl kj (Qai 49 _ _ g15 49 _ _ r15_14 rfl kj kj (isz (n:=4) kj kj) (eqsz (n:=4) kj kj) kj) fun W15 p15 r15_15=>?_
  have x15:Ext w W15:=Puts.ext p15 x14 b15
  refine Qag ?_
  refine hK14 _ _ ?_
  refine wp_seq_k fun K16 hK16=>?_
  refine QaA (fun W=>True) [⟨none,[(6,none)]⟩,⟨none,[(7,none)]⟩,⟨none,[(37,some 0),(38,some 1)]⟩,⟨none,[(8,none)]⟩,⟨none,[(40,some 3)]⟩,⟨none,[(39,some 2),(41,some 4)]⟩,⟨none,[(42,some 5)]⟩,⟨none,[(43,some 6)]⟩,⟨none,[(36,some 7)]⟩,⟨none,[(36,some 7)]⟩,⟨none,[]⟩,⟨none,[(9,some 10),(44,some 8)]⟩,⟨none,[(45,some 9)]⟩] [10] [9,12] kj kj kj (fun W hR=>trivial) fun F hF=>?_
  have r12_15:=(Puts.row p15 (Qaa r12_13 e14) (Qac r12_13 l15))
  refine QaM (.agg (numA (s1))) kj kj kj rfl (fun W hR=>(Qae 49 _ g12 49 _ _ (Qaa (Qaa r12_15 (Qah _)) hR) rfl kj kj (isz (n:=4) kj kj))) ?_
  have r13_15:=(Puts.row p15 (Qaa r13_13 e14) (Qac r13_13 l15))
  refine QaM (.agg (numA (1))) kj kj kj rfl (fun W hR=>(Qae 49 _ g13 49 _ _ (Qaa (Qaa r13_15 (Qah _)) hR) rfl kj kj (isz (n:=4) kj kj))) ?_
  refine Qcb (.agg (numA (s4))) 69 #[.agg (numA (s1)),.agg (numA (1))] kj kj kj rfl (fun W=>kj) (fun W hR=>c4 W) ?_
  refine QaM (.agg (numA (s3))) kj kj kj rfl (fun W hR=>(Qae 49 _ g15 49 _ _ (Qaa (Qaa r15_15 (Qah _)) hR) rfl kj kj (isz (n:=4) kj kj))) ?_
  refine Qcb (.agg (numA (s5))) 70 #[.agg (numA (s3))] kj kj kj rfl (fun W=>kj) (fun W hR=>c5 W) ?_
  refine Qcb (.agg (numA (s6))) 66 #[.agg (numA (s4)),.agg (numA (s5))] kj kj kj rfl (fun W=>kj) (fun W hR=>c6 W) ?_
  refine Qcb (.tuple #[.agg (numA (r)),.bool true]) 71 #[.agg (numA (s6))] kj kj kj rfl (fun W=>kj) (fun W hR=>cr W) ?_
  refine Qap (.tuple #[.agg (numA (r)),.bool true]) kj kj rfl (fun W=>kj) ?_
  refine Qap (.agg (numA (r))) kj kj rfl (fun W=>kj) ?_
  refine Qap (.bool true) kj kj rfl (fun W=>kj) ?_
  refine QiS (numA (0)) 49 kj kj (qR _) kj rfl (fun W=>kj) ?_
  refine Qbp rfl ?_
  refine Qap (.bool true) kj kj rfl (fun W=>kj) ?_
  refine QcE (hF _ kj fun W16 e16=>?_)
  simp only [List.nil_append,List.cons_append,fins,up]
  intro g17 l17 r17_16 n17
  have b17:w.heap.size≤g17:=qT x15.size l17
  clear hF
  have x16:Ext w W16:=Ext.tr x15 e16
  refine QaX _ g17 _ (numA (r)) 49 r17_16 rfl (Qai 49 _ _ g17 49 _ _ r17_16 rfl kj kj (isz (n:=4) kj kj) (eqsz (n:=4) kj kj) kj) (fun W hp=>trivial) fun W17 p17 r17_17=>?_
  have x17:Ext w W17:=Puts.ext p17 x16 b17
  refine QbL ?_
  refine hK16 _ _ ?_
  refine wp_seq_k fun K18 hK18=>?_
  refine wp_seq_k fun K19 hK19=>?_
  refine Qad ?_
  refine Qab (.bool true) 46 rfl kj kj ?_
  refine Qab (.bool false) 47 rfl kj kj ?_
  refine Qab (.bool false) 48 rfl kj kj ?_
  refine Qab (.bool true) 49 rfl kj kj ?_
  refine Qab (.bool true) 50 rfl kj kj ?_
  refine Qab (.agg (numA (r))) 51 rfl kj (Qae 49 _ g17 49 _ _ r17_17 rfl kj kj (isz (n:=4) kj kj)) ?_
  refine Qab (.agg (numA (0))) 52 rfl kj kj ?_
  refine Qab (.bool true) 53 rfl kj (Qcz 49 _ _ _ _ _ (.bool true) rfl kj kj kj (Qj0 _ _ true h_r (Qb7 0) hz _)) ?_
  refine Qab (.bool true) 54 rfl kj kj ?_
  refine Qab (.bool true) 55 rfl kj kj ?_
  refine Qag ?_
  refine hK19 _ _ ?_
  refine cond_true kj ?_
  refine wp_seq_k fun K20 hK20=>?_
  refine Qad ?_
  refine Qab (.agg (cat [numA (0),numA (0)])) 56 rfl kj kj ?_
  have r4_4:=(Qaa (Puts.row p3 r4_2 (Qat r3_1 l4)) e4)
  have r4_9:=(Qaa (Qaa (Qaa (Puts.row p6 (Qaa r4_4 e5) (Qac r4_4 l8)) e7) e8) e9)
  have r4_10:=(Qaa r4_9 e10)
  have r4_13:=(Puts.row p13 (Puts.row p12 (Qaa r4_10 e11) (Qac r4_9 l12)) (Qac r4_10 l13))
  have r4_15:=(Puts.row p15 (Qaa r4_13 e14) (Qac r4_13 l15))
  have r4_17:=(Puts.row p17 (Qaa (Puts.row p15 (Qaa (Puts.row p13 (Puts.row p12 (Qaa (Qaa (Qaa (Qaa (Qaa (Puts.row p6 (Qaa (Qaa (Puts.row p3 r4_2 (Qat r3_1 l4)) e4) e5) (Qac r4_4 l8)) e7) e8) e9) e10) e11) (Qac r4_9 l12)) (Qac r4_10 l13)) e14) (Qac r4_13 l15)) e16) (Qac r4_15 l17))
  refine Qal g4 _ (cat [numA (0),numA (0)]) 51 r4_17 rfl kj (Qai 51 _ _ g4 51 _ _ r4_17 rfl kj kj (isz (n:=8) kj kj) (eqsz (n:=8) kj kj) kj) fun W18 p18 r4_18=>?_
  have x18:Ext w W18:=Puts.ext p18 x17 b4
  refine Qab (.bool false) 3 rfl kj kj ?_
  refine Qag ?_
  refine hK20 _ _ ?_
  refine wp_ret ?_
  exact (show bodyPost _ _ _ .ret _ _ from ret2 (.agg (cat [numA (0),numA (0)])) (.bool false) rfl (Qa9 g4 51 _ r4_18 kj kj (isz (n:=8) kj kj)) (Qb6 kj) ⟨rfl,x18⟩)
theorem Qmb (xs ys:List Int) (hx:xs.length=32) (hb:Qak xs) (ys_len:ys.length=32) (s0 s1 s2 s3 s4 s5 s6 r ng px pl:Int) (ho:(nth xs 31/128==1)=true) (hc:decide (ys=(xs).set 31 (nth xs 31%128))=true) (h_r:isN r) (hz:(r==0)=false)
    (c0:∀ W,Calls Tryd.prog 44 #[.agg (ints .u8 ((xs).set 31 (nth xs 31%128)))] W (Ret W (.agg (numA (s0)))))
    (c1:∀ W,Calls Tryd.prog 66 #[.agg (numA (s0)),.agg (numA (s0))] W (Ret W (.agg (numA (s1)))))
    (c2:∀ W,Calls Tryd.prog 66 #[.agg (numA (s1)),.agg (numA (dN))] W (Ret W (.agg (numA (s2)))))
    (c3:∀ W,Calls Tryd.prog 68 #[.agg (numA (s2)),.agg (numA (1))] W (Ret W (.agg (numA (s3)))))
    (c4:∀ W,Calls Tryd.prog 69 #[.agg (numA (s1)),.agg (numA (1))] W (Ret W (.agg (numA (s4)))))
    (c5:∀ W,Calls Tryd.prog 70 #[.agg (numA (s3))] W (Ret W (.agg (numA (s5)))))
    (c6:∀ W,Calls Tryd.prog 66 #[.agg (numA (s4)),.agg (numA (s5))] W (Ret W (.agg (numA (s6)))))
    (cb:∀ W,Calls Tryd.prog 50 #[.agg (numA (s0))] W (Ret W (.agg (ints .u8 ys))))
    (cr:∀ W,Calls Tryd.prog 71 #[.agg (numA (s6))] W (Ret W (.tuple #[.agg (numA (r)),.bool true])))
    (cn:∀ W,Calls Tryd.prog 72 #[num r] W (Ret W (num ng)))
    (cp:∀ W,Calls Tryd.prog 43 #[num ng,num s0] W (Ret W (.agg (cat [numA px,numA pl]))))
    (w:World) (tB:TypeId) (hB:w.heap[2]? = some (.cells (ints .u8 Qbq) tB)):Calls Tryd.prog 34 #[.agg (ints .u8 (xs))] w (Ret w (.tuple #[.agg (cat [numA (px),numA (pl)]),.bool true])):=by
  refine enter 63 [(0,.agg (ints .u8 (xs)))] Tryd.func34 rfl rfl kj rfl ?_
  refine wp_seq_k fun K2 hK2=>?_
  refine Qad ?_
  refine Qaj (ints .u8 (xs)) 23 1 rfl kj kj fun g3 W1 l3 e1 r3_1=>?_
  have x1:Ext w W1:=Ext.tr (Rely.Ext.refl w) e1
  have b3:w.heap.size≤g3:=qT (Rely.Ext.refl w).size l3
  refine Qaj (cat [numA (0),numA (0)]) 51 2 rfl kj kj fun g4 W2 l4 e2 r4_2=>?_
  have x2:Ext w W2:=Ext.tr x1 e2
  have b4:w.heap.size≤g4:=qT x1.size l4
  refine Qab (.bool false) 3 rfl kj kj ?_
  refine Qag ?_
  refine hK2 _ _ ?_
  refine wp_seq_k fun K5 hK5=>?_
  refine Qad ?_
  refine Qab (.pointer (some ⟨g3,31,none⟩)) 11 rfl kj kj ?_
  have r3_2:=(Qaa r3_1 e2)
  refine Qab (.int .u8 (nth (xs) 31)) 12 rfl kj (Qan 5 _ g3 31 23 _ (.int .u8 (nth (xs) 31)) _ r3_2 rfl kj (Qaw _ _ _ (Nat.lt_of_lt_of_eq (by decide) hx.symm)) kj) ?_
  refine Qab (.int .u8 (nth xs 31/128)) 13 rfl kj (Qbv .shr _ _ _ _ .u8 .u64 _ _ _ rfl kj kj (QdL _ _ _ _ _ _ (show (0:Int)≤7 by decide) (shr7 _))) ?_
  refine Qab (.bool true) 14 rfl kj (Qax (u:=.bool (((nth xs 31/128)==1))) kj (congrArg Value.bool ho)) ?_
  refine Qab (.bool true) 4 rfl kj kj ?_
  refine Qag ?_
  refine hK5 _ _ ?_
  refine wp_seq_k fun K6 hK6=>?_
  refine Qad ?_
  refine Qab (.pointer (some ⟨g3,31,none⟩)) 15 rfl kj kj ?_
  refine Qab (.int .u8 (nth (xs) 31)) 16 rfl kj (Qan 5 _ g3 31 23 _ (.int .u8 (nth (xs) 31)) _ r3_2 rfl kj (Qaw _ _ _ (Nat.lt_of_lt_of_eq (by decide) hx.symm)) kj) ?_
  refine Qab (.int .u8 (nth xs 31%128)) 17 rfl kj (Qax (u:=.int .u8 (bits .and .u8 ((nth (xs) 31)) (127))) kj (congrArg (Value.int .u8) (Qfl _ (hb.nth 31)))) ?_
  refine Qab (.pointer (some ⟨g3,31,none⟩)) 18 rfl kj kj ?_
  refine Qal g3 _ (ints .u8 ((xs).set 31 (nth xs 31%128))) 23 r3_2 rfl kj (Qa5 5 _ _ g3 31 23 _ _ r3_2 rfl kj kj kj (Nat.lt_of_lt_of_eq (show 31<32 by decide) hx.symm)) fun W3 p3 r3_3=>?_
  have x3:Ext w W3:=Puts.ext p3 x2 b3
  refine Qag ?_
  refine hK6 _ _ ?_
  refine wp_seq_k fun K7 hK7=>?_
  refine Qad ?_
  refine Qab (.agg (ints .u8 ((xs).set 31 (nth xs 31%128)))) 19 rfl kj (Qae 23 _ g3 23 _ _ r3_3 rfl kj kj (isz (n:=32) kj ((Qaf _ _).trans ((List.length_set ..).trans hx)))) ?_
  refine Qar (.agg (numA (s0))) 44 #[.agg (ints .u8 ((xs).set 31 (nth xs 31%128)))] 20 rfl kj kj (c0 _) fun W4 e4=>?_
  have x4:Ext w W4:=Ext.tr x3 e4
  refine Qaj (numA (0)) 49 5 rfl kj kj fun g8 W5 l8 e5 r8_5=>?_
  have x5:Ext w W5:=Ext.tr x4 e5
  have b8:w.heap.size≤g8:=qT x4.size l8
  refine Qal g8 _ (numA (s0)) 49 r8_5 rfl kj (Qai 49 _ _ g8 49 _ _ r8_5 rfl kj kj (isz (n:=4) kj kj) (eqsz (n:=4) kj kj) kj) fun W6 p6 r8_6=>?_
  have x6:Ext w W6:=Puts.ext p6 x5 b8
  refine Qag ?_
  refine hK7 _ _ ?_
  refine wp_seq_k fun K9 hK9=>?_
  refine wp_seq_k fun K10 hK10=>?_
  refine QaB 4 [⟨none,[(5,none)]⟩,⟨none,[(21,some 0)]⟩,⟨none,[(1,none)]⟩,⟨none,[(22,some 1),(23,some 2)]⟩] kj kj fun F hF=>?_
  refine Qam (.agg (numA (s0))) kj kj (fun W hR=>(Qae 49 _ g8 49 _ _ (Qaa (Qaa r8_6 (Qah _)) hR) rfl kj kj (isz (n:=4) kj kj))) ?_
  refine Qaq (.agg (ints .u8 (ys))) 50 #[.agg (numA (s0))] kj kj (fun W=>kj) (fun W hR=>cb W) ?_
  have r3_4:=(Qaa r3_3 e4)
  have r3_6:=(Puts.row p6 (Qaa (Qaa r3_3 e4) e5) (Qac r3_4 l8))
  refine Qam (.agg (ints .u8 ((xs).set 31 (nth xs 31%128)))) kj kj (fun W hR=>(Qae 23 _ g3 23 _ _ (Qaa (Qaa r3_6 (Qah _)) hR) rfl kj kj (isz (n:=32) kj ((Qaf _ _).trans ((List.length_set ..).trans hx))))) ?_
  refine Qav (.bool false) kj kj (fun W=>(QbY 23 _ _ _ _ _ (.bool false) rfl kj kj kj (QdG _ _ true ys_len (by rw [List.length_set]; exact hx) hc _))) ?_
  refine Qa3 (hF _ kj fun W7 e7=>?_)
  simp only [ups,up,Kn.val,List.take_succ_cons,List.take_zero,List.drop_succ_cons,List.drop_zero,List.nil_append,List.cons_append]
  clear hF
  have x7:Ext w W7:=Ext.tr x6 e7
  refine Qag ?_
  refine hK10 _ _ ?_
  refine cond_false kj ?_
  refine wp_skip ?_
  refine hK9 _ _ ?_
  refine wp_seq_k fun K11 hK11=>?_
  refine Qad ?_
  have r8_7:=(Qaa r8_6 e7)
  refine Qab (.agg (numA (s0))) 26 rfl kj (Qae 49 _ g8 49 _ _ r8_7 rfl kj kj (isz (n:=4) kj kj)) ?_
  refine Qab (.agg (numA (s0))) 27 rfl kj (Qae 49 _ g8 49 _ _ r8_7 rfl kj kj (isz (n:=4) kj kj)) ?_
  refine Qar (.agg (numA (s1))) 66 #[.agg (numA (s0)),.agg (numA (s0))] 28 rfl kj kj (c1 _) fun W8 e8=>?_
  have x8:Ext w W8:=Ext.tr x7 e8
  refine Qar (.agg (numA (1))) 67 #[.int .i64 1] 29 rfl kj kj ((Qdf 1 (by decide)) _) fun W9 e9=>?_
  have x9:Ext w W9:=Ext.tr x8 e9
  refine Qaj (numA (0)) 49 6 rfl kj kj fun g12 W10 l12 e10 r12_10=>?_
  have x10:Ext w W10:=Ext.tr x9 e10
  have b12:w.heap.size≤g12:=qT x9.size l12
  refine Qaj (numA (0)) 49 7 rfl kj kj fun g13 W11 l13 e11 r13_11=>?_
  have x11:Ext w W11:=Ext.tr x10 e11
  have b13:w.heap.size≤g13:=qT x10.size l13
  have r12_11:=(Qaa r12_10 e11)
  refine Qal g12 _ (numA (s1)) 49 r12_11 rfl kj (Qai 49 _ _ g12 49 _ _ r12_11 rfl kj kj (isz (n:=4) kj kj) (eqsz (n:=4) kj kj) kj) fun W12 p12 r12_12=>?_
  have x12:Ext w W12:=Puts.ext p12 x11 b12
  have r13_12:=(Puts.row p12 r13_11 (Qat r12_10 l13))
  refine Qal g13 _ (numA (1)) 49 r13_12 rfl kj (Qai 49 _ _ g13 49 _ _ r13_12 rfl kj kj (isz (n:=4) kj kj) (eqsz (n:=4) kj kj) kj) fun W13 p13 r13_13=>?_
  have x13:Ext w W13:=Puts.ext p13 x12 b13
  refine Qag ?_
  refine hK11 _ _ ?_
  refine wp_seq_k fun K14 hK14=>?_
  refine Qbc 7 [⟨none,[(6,none)]⟩,⟨none,[]⟩,⟨none,[(31,some 1)]⟩,⟨none,[(30,some 0),(32,some 2)]⟩,⟨none,[(7,none)]⟩,⟨none,[(33,some 3),(34,some 4)]⟩,⟨none,[]⟩] [6] kj kj kj fun F hF=>?_
  have r12_13:=(Puts.row p13 r12_12 (Qac r12_10 l13))
  refine Qam (.agg (numA (s1))) kj kj (fun W hR=>(Qae 49 _ g12 49 _ _ (Qaa (Qaa r12_13 (Qah _)) hR) rfl kj kj (isz (n:=4) kj kj))) ?_
  have r1_4:=(Qaa (Puts.row p3 (Qaa (Qaa hB e1) e2) (Qac hB l3)) e4)
  have r1_9:=(Qaa (Qaa (Qaa (Puts.row p6 (Qaa r1_4 e5) (Qac r1_4 l8)) e7) e8) e9)
  have r1_10:=(Qaa r1_9 e10)
  have r1_13:=(Puts.row p13 (Puts.row p12 (Qaa (Qaa (Qaa (Qaa (Qaa (Puts.row p6 (Qaa (Qaa (Puts.row p3 (Qaa (Qaa hB e1) e2) (Qac hB l3)) e4) e5) (Qac r1_4 l8)) e7) e8) e9) e10) e11) (Qac r1_9 l12)) (Qac r1_10 l13))
  refine Qam (.agg (ints .u8 (Qbq))) kj kj (fun W hR=>(Qae 23 _ 2 tB _ _ (Qaa (Qaa r1_13 (Qah _)) hR) rfl kj kj (isz (n:=32) kj ((Qaf _ _).trans (by decide))))) ?_
  refine Qaq (.agg (numA (dN))) 44 #[.agg (ints .u8 (Qbq))] kj kj (fun W=>kj) (fun W hR=>QeZ W) ?_
  refine Qaq (.agg (numA (s2))) 66 #[.agg (numA (s1)),.agg (numA (dN))] kj kj (fun W=>kj) (fun W hR=>c2 W) ?_
  refine Qam (.agg (numA (1))) kj kj (fun W hR=>(Qae 49 _ g13 49 _ _ (Qaa (Qaa r13_13 (Qah _)) hR) rfl kj kj (isz (n:=4) kj kj))) ?_
  refine Qaq (.agg (numA (s3))) 68 #[.agg (numA (s2)),.agg (numA (1))] kj kj (fun W=>kj) (fun W hR=>c3 W) ?_
  refine QbI (numA (0)) 49 kj (qR _) kj (fun W=>kj) ?_
  refine Qa3 (hF _ kj fun W14 e14=>?_)
  simp only [fins,up,List.take_succ_cons,List.take_zero,List.drop_succ_cons,List.drop_zero,List.nil_append,List.cons_append]
  intro g15 l15 r15_14 n15
  have b15:w.heap.size≤g15:=qT x13.size l15
  clear hF
  have x14:Ext w W14:=Ext.tr x13 e14
  refine Qal g15 _ (numA (s3)) 49 r15_14 rfl kj (Qai 49 _ _ g15 49 _ _ r15_14 rfl kj kj (isz (n:=4) kj kj) (eqsz (n:=4) kj kj) kj) fun W15 p15 r15_15=>?_
  have x15:Ext w W15:=Puts.ext p15 x14 b15
  refine Qag ?_
  refine hK14 _ _ ?_
  refine wp_seq_k fun K16 hK16=>?_
  refine QaA (fun W=>True) [⟨none,[(6,none)]⟩,⟨none,[(7,none)]⟩,⟨none,[(37,some 0),(38,some 1)]⟩,⟨none,[(8,none)]⟩,⟨none,[(40,some 3)]⟩,⟨none,[(39,some 2),(41,some 4)]⟩,⟨none,[(42,some 5)]⟩,⟨none,[(43,some 6)]⟩,⟨none,[(36,some 7)]⟩,⟨none,[(36,some 7)]⟩,⟨none,[]⟩,⟨none,[(9,some 10),(44,some 8)]⟩,⟨none,[(45,some 9)]⟩] [10] [9,12] kj kj kj (fun W hR=>trivial) fun F hF=>?_
  have r12_15:=(Puts.row p15 (Qaa r12_13 e14) (Qac r12_13 l15))
  refine QaM (.agg (numA (s1))) kj kj kj rfl (fun W hR=>(Qae 49 _ g12 49 _ _ (Qaa (Qaa r12_15 (Qah _)) hR) rfl kj kj (isz (n:=4) kj kj))) ?_
  have r13_15:=(Puts.row p15 (Qaa r13_13 e14) (Qac r13_13 l15))
  refine QaM (.agg (numA (1))) kj kj kj rfl (fun W hR=>(Qae 49 _ g13 49 _ _ (Qaa (Qaa r13_15 (Qah _)) hR) rfl kj kj (isz (n:=4) kj kj))) ?_
  refine Qcb (.agg (numA (s4))) 69 #[.agg (numA (s1)),.agg (numA (1))] kj kj kj rfl (fun W=>kj) (fun W hR=>c4 W) ?_
  refine QaM (.agg (numA (s3))) kj kj kj rfl (fun W hR=>(Qae 49 _ g15 49 _ _ (Qaa (Qaa r15_15 (Qah _)) hR) rfl kj kj (isz (n:=4) kj kj))) ?_
  refine Qcb (.agg (numA (s5))) 70 #[.agg (numA (s3))] kj kj kj rfl (fun W=>kj) (fun W hR=>c5 W) ?_
  refine Qcb (.agg (numA (s6))) 66 #[.agg (numA (s4)),.agg (numA (s5))] kj kj kj rfl (fun W=>kj) (fun W hR=>c6 W) ?_
  refine Qcb (.tuple #[.agg (numA (r)),.bool true]) 71 #[.agg (numA (s6))] kj kj kj rfl (fun W=>kj) (fun W hR=>cr W) ?_
  refine Qap (.tuple #[.agg (numA (r)),.bool true]) kj kj rfl (fun W=>kj) ?_
  refine Qap (.agg (numA (r))) kj kj rfl (fun W=>kj) ?_
  refine Qap (.bool true) kj kj rfl (fun W=>kj) ?_
  refine QiS (numA (0)) 49 kj kj (qR _) kj rfl (fun W=>kj) ?_
  refine Qbp rfl ?_
  refine Qap (.bool true) kj kj rfl (fun W=>kj) ?_
  refine QcE (hF _ kj fun W16 e16=>?_)
  simp only [List.nil_append,List.cons_append,fins,up]
  intro g17 l17 r17_16 n17
  have b17:w.heap.size≤g17:=qT x15.size l17
  clear hF
  have x16:Ext w W16:=Ext.tr x15 e16
  refine QaX _ g17 _ (numA (r)) 49 r17_16 rfl (Qai 49 _ _ g17 49 _ _ r17_16 rfl kj kj (isz (n:=4) kj kj) (eqsz (n:=4) kj kj) kj) (fun W hp=>trivial) fun W17 p17 r17_17=>?_
  have x17:Ext w W17:=Puts.ext p17 x16 b17
  refine QbL ?_
  refine hK16 _ _ ?_
  refine wp_seq_k fun K18 hK18=>?_
  refine wp_seq_k fun K19 hK19=>?_
  refine Qad ?_
  refine Qab (.bool true) 46 rfl kj kj ?_
  refine Qab (.bool false) 47 rfl kj kj ?_
  refine Qab (.bool false) 48 rfl kj kj ?_
  refine Qab (.bool true) 49 rfl kj kj ?_
  refine Qab (.bool true) 50 rfl kj kj ?_
  refine Qab (.agg (numA (r))) 51 rfl kj (Qae 49 _ g17 49 _ _ r17_17 rfl kj kj (isz (n:=4) kj kj)) ?_
  refine Qab (.agg (numA (0))) 52 rfl kj kj ?_
  refine Qab (.bool false) 53 rfl kj (Qcz 49 _ _ _ _ _ (.bool false) rfl kj kj kj (Qj0 _ _ false h_r (Qb7 0) hz _)) ?_
  refine Qab (.bool false) 54 rfl kj kj ?_
  refine Qab (.bool false) 55 rfl kj kj ?_
  refine Qag ?_
  refine hK19 _ _ ?_
  refine cond_false kj ?_
  refine wp_skip ?_
  refine hK18 _ _ ?_
  refine wp_seq_k fun K20 hK20=>?_
  refine wp_seq_k fun K21 hK21=>?_
  refine Qad ?_
  refine Qab (.bool true) 57 rfl kj kj ?_
  refine Qag ?_
  refine hK21 _ _ ?_
  refine cond_true kj ?_
  refine Qad ?_
  refine Qab (.agg (numA (r))) 58 rfl kj (Qae 49 _ g17 49 _ _ r17_17 rfl kj kj (isz (n:=4) kj kj)) ?_
  refine Qar (.agg (numA (ng))) 72 #[.agg (numA (r))] 59 rfl kj kj (cn _) fun W18 e18=>?_
  have x18:Ext w W18:=Ext.tr x17 e18
  have r17_18:=(Qaa r17_17 e18)
  refine Qal g17 _ (numA (ng)) 49 r17_18 rfl kj (Qai 49 _ _ g17 49 _ _ r17_18 rfl kj kj (isz (n:=4) kj kj) (eqsz (n:=4) kj kj) kj) fun W19 p19 r17_19=>?_
  have x19:Ext w W19:=Puts.ext p19 x18 b17
  refine Qag ?_
  refine hK20 _ _ ?_
  refine wp_seq_k fun K22 hK22=>?_
  refine Qad ?_
  refine Qab (.agg (numA (ng))) 60 rfl kj (Qae 49 _ g17 49 _ _ r17_19 rfl kj kj (isz (n:=4) kj kj)) ?_
  have r8_9:=(Qaa (Qaa r8_7 e8) e9)
  have r8_10:=(Qaa r8_9 e10)
  have r8_13:=(Puts.row p13 (Puts.row p12 (Qaa r8_10 e11) (Qac r8_9 l12)) (Qac r8_10 l13))
  have r8_15:=(Puts.row p15 (Qaa r8_13 e14) (Qac r8_13 l15))
  have r8_19:=(Puts.row p19 (Qaa (Puts.row p17 (Qaa (Puts.row p15 (Qaa (Puts.row p13 (Puts.row p12 (Qaa (Qaa (Qaa (Qaa r8_7 e8) e9) e10) e11) (Qac r8_9 l12)) (Qac r8_10 l13)) e14) (Qac r8_13 l15)) e16) (Qac r8_15 l17)) e18) (Qac r8_15 l17))
  refine Qab (.agg (numA (s0))) 61 rfl kj (Qae 49 _ g8 49 _ _ r8_19 rfl kj kj (isz (n:=4) kj kj)) ?_
  refine Qar (.agg (cat [numA (px),numA (pl)])) 43 #[.agg (numA (ng)),.agg (numA (s0))] 62 rfl kj kj (cp _) fun W20 e20=>?_
  have x20:Ext w W20:=Ext.tr x19 e20
  have r4_4:=(Qaa (Puts.row p3 r4_2 (Qat r3_1 l4)) e4)
  have r4_9:=(Qaa (Qaa (Qaa (Puts.row p6 (Qaa r4_4 e5) (Qac r4_4 l8)) e7) e8) e9)
  have r4_10:=(Qaa r4_9 e10)
  have r4_13:=(Puts.row p13 (Puts.row p12 (Qaa r4_10 e11) (Qac r4_9 l12)) (Qac r4_10 l13))
  have r4_15:=(Puts.row p15 (Qaa r4_13 e14) (Qac r4_13 l15))
  have r4_20:=(Qaa (Puts.row p19 (Qaa (Puts.row p17 (Qaa (Puts.row p15 (Qaa (Puts.row p13 (Puts.row p12 (Qaa (Qaa (Qaa (Qaa (Qaa (Puts.row p6 (Qaa (Qaa (Puts.row p3 r4_2 (Qat r3_1 l4)) e4) e5) (Qac r4_4 l8)) e7) e8) e9) e10) e11) (Qac r4_9 l12)) (Qac r4_10 l13)) e14) (Qac r4_13 l15)) e16) (Qac r4_15 l17)) e18) (Qac r4_15 l17)) e20)
  refine Qal g4 _ (cat [numA (px),numA (pl)]) 51 r4_20 rfl kj (Qai 51 _ _ g4 51 _ _ r4_20 rfl kj kj (isz (n:=8) kj kj) (eqsz (n:=8) kj kj) kj) fun W21 p21 r4_21=>?_
  have x21:Ext w W21:=Puts.ext p21 x20 b4
  refine Qab (.bool true) 3 rfl kj kj ?_
  refine Qag ?_
  refine hK22 _ _ ?_
  refine wp_ret ?_
  exact (show bodyPost _ _ _ .ret _ _ from ret2 (.agg (cat [numA (px),numA (pl)])) (.bool true) rfl (Qa9 g4 51 _ r4_21 kj kj (isz (n:=8) kj kj)) (Qb6 kj) ⟨rfl,x21⟩)
theorem Qma (xs ys:List Int) (hx:xs.length=32) (hb:Qak xs) (ys_len:ys.length=32) (s0 s1 s2 s3 s4 s5 s6 r px pl:Int) (ho:(nth xs 31/128==1)=false) (hc:decide (ys=(xs).set 31 (nth xs 31%128))=true)
    (c0:∀ W,Calls Tryd.prog 44 #[.agg (ints .u8 ((xs).set 31 (nth xs 31%128)))] W (Ret W (.agg (numA (s0)))))
    (c1:∀ W,Calls Tryd.prog 66 #[.agg (numA (s0)),.agg (numA (s0))] W (Ret W (.agg (numA (s1)))))
    (c2:∀ W,Calls Tryd.prog 66 #[.agg (numA (s1)),.agg (numA (dN))] W (Ret W (.agg (numA (s2)))))
    (c3:∀ W,Calls Tryd.prog 68 #[.agg (numA (s2)),.agg (numA (1))] W (Ret W (.agg (numA (s3)))))
    (c4:∀ W,Calls Tryd.prog 69 #[.agg (numA (s1)),.agg (numA (1))] W (Ret W (.agg (numA (s4)))))
    (c5:∀ W,Calls Tryd.prog 70 #[.agg (numA (s3))] W (Ret W (.agg (numA (s5)))))
    (c6:∀ W,Calls Tryd.prog 66 #[.agg (numA (s4)),.agg (numA (s5))] W (Ret W (.agg (numA (s6)))))
    (cb:∀ W,Calls Tryd.prog 50 #[.agg (numA (s0))] W (Ret W (.agg (ints .u8 ys))))
    (cr:∀ W,Calls Tryd.prog 71 #[.agg (numA (s6))] W (Ret W (.tuple #[.agg (numA (r)),.bool true])))
    (cp:∀ W,Calls Tryd.prog 43 #[num r,num s0] W (Ret W (.agg (cat [numA px,numA pl]))))
    (w:World) (tB:TypeId) (hB:w.heap[2]? = some (.cells (ints .u8 Qbq) tB)):Calls Tryd.prog 34 #[.agg (ints .u8 (xs))] w (Ret w (.tuple #[.agg (cat [numA (px),numA (pl)]),.bool true])):=by
  refine enter 63 [(0,.agg (ints .u8 (xs)))] Tryd.func34 rfl rfl kj rfl ?_
  refine wp_seq_k fun K2 hK2=>?_
  refine Qad ?_
  refine Qaj (ints .u8 (xs)) 23 1 rfl kj kj fun g3 W1 l3 e1 r3_1=>?_
  have x1:Ext w W1:=Ext.tr (Rely.Ext.refl w) e1
  have b3:w.heap.size≤g3:=qT (Rely.Ext.refl w).size l3
  refine Qaj (cat [numA (0),numA (0)]) 51 2 rfl kj kj fun g4 W2 l4 e2 r4_2=>?_
  have x2:Ext w W2:=Ext.tr x1 e2
  have b4:w.heap.size≤g4:=qT x1.size l4
  refine Qab (.bool false) 3 rfl kj kj ?_
  refine Qag ?_
  refine hK2 _ _ ?_
  refine wp_seq_k fun K5 hK5=>?_
  refine Qad ?_
  refine Qab (.pointer (some ⟨g3,31,none⟩)) 11 rfl kj kj ?_
  have r3_2:=(Qaa r3_1 e2)
  refine Qab (.int .u8 (nth (xs) 31)) 12 rfl kj (Qan 5 _ g3 31 23 _ (.int .u8 (nth (xs) 31)) _ r3_2 rfl kj (Qaw _ _ _ (Nat.lt_of_lt_of_eq (by decide) hx.symm)) kj) ?_
  refine Qab (.int .u8 (nth xs 31/128)) 13 rfl kj (Qbv .shr _ _ _ _ .u8 .u64 _ _ _ rfl kj kj (QdL _ _ _ _ _ _ (show (0:Int)≤7 by decide) (shr7 _))) ?_
  refine Qab (.bool false) 14 rfl kj (Qax (u:=.bool (((nth xs 31/128)==1))) kj (congrArg Value.bool ho)) ?_
  refine Qab (.bool false) 4 rfl kj kj ?_
  refine Qag ?_
  refine hK5 _ _ ?_
  refine wp_seq_k fun K6 hK6=>?_
  refine Qad ?_
  refine Qab (.pointer (some ⟨g3,31,none⟩)) 15 rfl kj kj ?_
  refine Qab (.int .u8 (nth (xs) 31)) 16 rfl kj (Qan 5 _ g3 31 23 _ (.int .u8 (nth (xs) 31)) _ r3_2 rfl kj (Qaw _ _ _ (Nat.lt_of_lt_of_eq (by decide) hx.symm)) kj) ?_
  refine Qab (.int .u8 (nth xs 31%128)) 17 rfl kj (Qax (u:=.int .u8 (bits .and .u8 ((nth (xs) 31)) (127))) kj (congrArg (Value.int .u8) (Qfl _ (hb.nth 31)))) ?_
  refine Qab (.pointer (some ⟨g3,31,none⟩)) 18 rfl kj kj ?_
  refine Qal g3 _ (ints .u8 ((xs).set 31 (nth xs 31%128))) 23 r3_2 rfl kj (Qa5 5 _ _ g3 31 23 _ _ r3_2 rfl kj kj kj (Nat.lt_of_lt_of_eq (show 31<32 by decide) hx.symm)) fun W3 p3 r3_3=>?_
  have x3:Ext w W3:=Puts.ext p3 x2 b3
  refine Qag ?_
  refine hK6 _ _ ?_
  refine wp_seq_k fun K7 hK7=>?_
  refine Qad ?_
  refine Qab (.agg (ints .u8 ((xs).set 31 (nth xs 31%128)))) 19 rfl kj (Qae 23 _ g3 23 _ _ r3_3 rfl kj kj (isz (n:=32) kj ((Qaf _ _).trans ((List.length_set ..).trans hx)))) ?_
  refine Qar (.agg (numA (s0))) 44 #[.agg (ints .u8 ((xs).set 31 (nth xs 31%128)))] 20 rfl kj kj (c0 _) fun W4 e4=>?_
  have x4:Ext w W4:=Ext.tr x3 e4
  refine Qaj (numA (0)) 49 5 rfl kj kj fun g8 W5 l8 e5 r8_5=>?_
  have x5:Ext w W5:=Ext.tr x4 e5
  have b8:w.heap.size≤g8:=qT x4.size l8
  refine Qal g8 _ (numA (s0)) 49 r8_5 rfl kj (Qai 49 _ _ g8 49 _ _ r8_5 rfl kj kj (isz (n:=4) kj kj) (eqsz (n:=4) kj kj) kj) fun W6 p6 r8_6=>?_
  have x6:Ext w W6:=Puts.ext p6 x5 b8
  refine Qag ?_
  refine hK7 _ _ ?_
  refine wp_seq_k fun K9 hK9=>?_
  refine wp_seq_k fun K10 hK10=>?_
  refine QaB 4 [⟨none,[(5,none)]⟩,⟨none,[(21,some 0)]⟩,⟨none,[(1,none)]⟩,⟨none,[(22,some 1),(23,some 2)]⟩] kj kj fun F hF=>?_
  refine Qam (.agg (numA (s0))) kj kj (fun W hR=>(Qae 49 _ g8 49 _ _ (Qaa (Qaa r8_6 (Qah _)) hR) rfl kj kj (isz (n:=4) kj kj))) ?_
  refine Qaq (.agg (ints .u8 (ys))) 50 #[.agg (numA (s0))] kj kj (fun W=>kj) (fun W hR=>cb W) ?_
  have r3_4:=(Qaa r3_3 e4)
  have r3_6:=(Puts.row p6 (Qaa (Qaa r3_3 e4) e5) (Qac r3_4 l8))
  refine Qam (.agg (ints .u8 ((xs).set 31 (nth xs 31%128)))) kj kj (fun W hR=>(Qae 23 _ g3 23 _ _ (Qaa (Qaa r3_6 (Qah _)) hR) rfl kj kj (isz (n:=32) kj ((Qaf _ _).trans ((List.length_set ..).trans hx))))) ?_
  refine Qav (.bool false) kj kj (fun W=>(QbY 23 _ _ _ _ _ (.bool false) rfl kj kj kj (QdG _ _ true ys_len (by rw [List.length_set]; exact hx) hc _))) ?_
  refine Qa3 (hF _ kj fun W7 e7=>?_)
  simp only [ups,up,Kn.val,List.take_succ_cons,List.take_zero,List.drop_succ_cons,List.drop_zero,List.nil_append,List.cons_append]
  clear hF
  have x7:Ext w W7:=Ext.tr x6 e7
  refine Qag ?_
  refine hK10 _ _ ?_
  refine cond_false kj ?_
  refine wp_skip ?_
  refine hK9 _ _ ?_
  refine wp_seq_k fun K11 hK11=>?_
  refine Qad ?_
  have r8_7:=(Qaa r8_6 e7)
  refine Qab (.agg (numA (s0))) 26 rfl kj (Qae 49 _ g8 49 _ _ r8_7 rfl kj kj (isz (n:=4) kj kj)) ?_
  refine Qab (.agg (numA (s0))) 27 rfl kj (Qae 49 _ g8 49 _ _ r8_7 rfl kj kj (isz (n:=4) kj kj)) ?_
  refine Qar (.agg (numA (s1))) 66 #[.agg (numA (s0)),.agg (numA (s0))] 28 rfl kj kj (c1 _) fun W8 e8=>?_
  have x8:Ext w W8:=Ext.tr x7 e8
  refine Qar (.agg (numA (1))) 67 #[.int .i64 1] 29 rfl kj kj ((Qdf 1 (by decide)) _) fun W9 e9=>?_
  have x9:Ext w W9:=Ext.tr x8 e9
  refine Qaj (numA (0)) 49 6 rfl kj kj fun g12 W10 l12 e10 r12_10=>?_
  have x10:Ext w W10:=Ext.tr x9 e10
  have b12:w.heap.size≤g12:=qT x9.size l12
  refine Qaj (numA (0)) 49 7 rfl kj kj fun g13 W11 l13 e11 r13_11=>?_
  have x11:Ext w W11:=Ext.tr x10 e11
  have b13:w.heap.size≤g13:=qT x10.size l13
  have r12_11:=(Qaa r12_10 e11)
  refine Qal g12 _ (numA (s1)) 49 r12_11 rfl kj (Qai 49 _ _ g12 49 _ _ r12_11 rfl kj kj (isz (n:=4) kj kj) (eqsz (n:=4) kj kj) kj) fun W12 p12 r12_12=>?_
  have x12:Ext w W12:=Puts.ext p12 x11 b12
  have r13_12:=(Puts.row p12 r13_11 (Qat r12_10 l13))
  refine Qal g13 _ (numA (1)) 49 r13_12 rfl kj (Qai 49 _ _ g13 49 _ _ r13_12 rfl kj kj (isz (n:=4) kj kj) (eqsz (n:=4) kj kj) kj) fun W13 p13 r13_13=>?_
  have x13:Ext w W13:=Puts.ext p13 x12 b13
  refine Qag ?_
  refine hK11 _ _ ?_
  refine wp_seq_k fun K14 hK14=>?_
  refine Qbc 7 [⟨none,[(6,none)]⟩,⟨none,[]⟩,⟨none,[(31,some 1)]⟩,⟨none,[(30,some 0),(32,some 2)]⟩,⟨none,[(7,none)]⟩,⟨none,[(33,some 3),(34,some 4)]⟩,⟨none,[]⟩] [6] kj kj kj fun F hF=>?_
  have r12_13:=(Puts.row p13 r12_12 (Qac r12_10 l13))
  refine Qam (.agg (numA (s1))) kj kj (fun W hR=>(Qae 49 _ g12 49 _ _ (Qaa (Qaa r12_13 (Qah _)) hR) rfl kj kj (isz (n:=4) kj kj))) ?_
  have r1_4:=(Qaa (Puts.row p3 (Qaa (Qaa hB e1) e2) (Qac hB l3)) e4)
  have r1_9:=(Qaa (Qaa (Qaa (Puts.row p6 (Qaa r1_4 e5) (Qac r1_4 l8)) e7) e8) e9)
  have r1_10:=(Qaa r1_9 e10)
  have r1_13:=(Puts.row p13 (Puts.row p12 (Qaa (Qaa (Qaa (Qaa (Qaa (Puts.row p6 (Qaa (Qaa (Puts.row p3 (Qaa (Qaa hB e1) e2) (Qac hB l3)) e4) e5) (Qac r1_4 l8)) e7) e8) e9) e10) e11) (Qac r1_9 l12)) (Qac r1_10 l13))
  refine Qam (.agg (ints .u8 (Qbq))) kj kj (fun W hR=>(Qae 23 _ 2 tB _ _ (Qaa (Qaa r1_13 (Qah _)) hR) rfl kj kj (isz (n:=32) kj ((Qaf _ _).trans (by decide))))) ?_
  refine Qaq (.agg (numA (dN))) 44 #[.agg (ints .u8 (Qbq))] kj kj (fun W=>kj) (fun W hR=>QeZ W) ?_
  refine Qaq (.agg (numA (s2))) 66 #[.agg (numA (s1)),.agg (numA (dN))] kj kj (fun W=>kj) (fun W hR=>c2 W) ?_
  refine Qam (.agg (numA (1))) kj kj (fun W hR=>(Qae 49 _ g13 49 _ _ (Qaa (Qaa r13_13 (Qah _)) hR) rfl kj kj (isz (n:=4) kj kj))) ?_
  refine Qaq (.agg (numA (s3))) 68 #[.agg (numA (s2)),.agg (numA (1))] kj kj (fun W=>kj) (fun W hR=>c3 W) ?_
  refine QbI (numA (0)) 49 kj (qR _) kj (fun W=>kj) ?_
  refine Qa3 (hF _ kj fun W14 e14=>?_)
  simp only [fins,up,List.take_succ_cons,List.take_zero,List.drop_succ_cons,List.drop_zero,List.nil_append,List.cons_append]
  intro g15 l15 r15_14 n15
  have b15:w.heap.size≤g15:=qT x13.size l15
  clear hF
  have x14:Ext w W14:=Ext.tr x13 e14
  refine Qal g15 _ (numA (s3)) 49 r15_14 rfl kj (Qai 49 _ _ g15 49 _ _ r15_14 rfl kj kj (isz (n:=4) kj kj) (eqsz (n:=4) kj kj) kj) fun W15 p15 r15_15=>?_
  have x15:Ext w W15:=Puts.ext p15 x14 b15
  refine Qag ?_
  refine hK14 _ _ ?_
  refine wp_seq_k fun K16 hK16=>?_
  refine QaA (fun W=>True) [⟨none,[(6,none)]⟩,⟨none,[(7,none)]⟩,⟨none,[(37,some 0),(38,some 1)]⟩,⟨none,[(8,none)]⟩,⟨none,[(40,some 3)]⟩,⟨none,[(39,some 2),(41,some 4)]⟩,⟨none,[(42,some 5)]⟩,⟨none,[(43,some 6)]⟩,⟨none,[(36,some 7)]⟩,⟨none,[(36,some 7)]⟩,⟨none,[]⟩,⟨none,[(9,some 10),(44,some 8)]⟩,⟨none,[(45,some 9)]⟩] [10] [9,12] kj kj kj (fun W hR=>trivial) fun F hF=>?_
  have r12_15:=(Puts.row p15 (Qaa r12_13 e14) (Qac r12_13 l15))
  refine QaM (.agg (numA (s1))) kj kj kj rfl (fun W hR=>(Qae 49 _ g12 49 _ _ (Qaa (Qaa r12_15 (Qah _)) hR) rfl kj kj (isz (n:=4) kj kj))) ?_
  have r13_15:=(Puts.row p15 (Qaa r13_13 e14) (Qac r13_13 l15))
  refine QaM (.agg (numA (1))) kj kj kj rfl (fun W hR=>(Qae 49 _ g13 49 _ _ (Qaa (Qaa r13_15 (Qah _)) hR) rfl kj kj (isz (n:=4) kj kj))) ?_
  refine Qcb (.agg (numA (s4))) 69 #[.agg (numA (s1)),.agg (numA (1))] kj kj kj rfl (fun W=>kj) (fun W hR=>c4 W) ?_
  refine QaM (.agg (numA (s3))) kj kj kj rfl (fun W hR=>(Qae 49 _ g15 49 _ _ (Qaa (Qaa r15_15 (Qah _)) hR) rfl kj kj (isz (n:=4) kj kj))) ?_
  refine Qcb (.agg (numA (s5))) 70 #[.agg (numA (s3))] kj kj kj rfl (fun W=>kj) (fun W hR=>c5 W) ?_
  refine Qcb (.agg (numA (s6))) 66 #[.agg (numA (s4)),.agg (numA (s5))] kj kj kj rfl (fun W=>kj) (fun W hR=>c6 W) ?_
  refine Qcb (.tuple #[.agg (numA (r)),.bool true]) 71 #[.agg (numA (s6))] kj kj kj rfl (fun W=>kj) (fun W hR=>cr W) ?_
  refine Qap (.tuple #[.agg (numA (r)),.bool true]) kj kj rfl (fun W=>kj) ?_
  refine Qap (.agg (numA (r))) kj kj rfl (fun W=>kj) ?_
  refine Qap (.bool true) kj kj rfl (fun W=>kj) ?_
  refine QiS (numA (0)) 49 kj kj (qR _) kj rfl (fun W=>kj) ?_
  refine Qbp rfl ?_
  refine Qap (.bool true) kj kj rfl (fun W=>kj) ?_
  refine QcE (hF _ kj fun W16 e16=>?_)
  simp only [List.nil_append,List.cons_append,fins,up]
  intro g17 l17 r17_16 n17
  have b17:w.heap.size≤g17:=qT x15.size l17
  clear hF
  have x16:Ext w W16:=Ext.tr x15 e16
  refine QaX _ g17 _ (numA (r)) 49 r17_16 rfl (Qai 49 _ _ g17 49 _ _ r17_16 rfl kj kj (isz (n:=4) kj kj) (eqsz (n:=4) kj kj) kj) (fun W hp=>trivial) fun W17 p17 r17_17=>?_
  have x17:Ext w W17:=Puts.ext p17 x16 b17
  refine QbL ?_
  refine hK16 _ _ ?_
  refine wp_seq_k fun K18 hK18=>?_
  refine wp_seq_k fun K19 hK19=>?_
  refine Qad ?_
  refine Qab (.bool true) 46 rfl kj kj ?_
  refine Qab (.bool false) 47 rfl kj kj ?_
  refine Qab (.bool false) 48 rfl kj kj ?_
  refine Qab (.bool false) 49 rfl kj kj ?_
  refine Qab (.bool false) 50 rfl kj kj ?_
  refine Qbz 51 rfl kj ?_
  refine Qbz 52 rfl kj ?_
  refine Qbz 53 rfl kj ?_
  refine Qab (.bool false) 54 rfl kj kj ?_
  refine Qab (.bool false) 55 rfl kj kj ?_
  refine Qag ?_
  refine hK19 _ _ ?_
  refine cond_false kj ?_
  refine wp_skip ?_
  refine hK18 _ _ ?_
  refine wp_seq_k fun K20 hK20=>?_
  refine wp_seq_k fun K21 hK21=>?_
  refine Qad ?_
  refine Qab (.bool false) 57 rfl kj kj ?_
  refine Qag ?_
  refine hK21 _ _ ?_
  refine cond_false kj ?_
  refine wp_skip ?_
  refine hK20 _ _ ?_
  refine wp_seq_k fun K22 hK22=>?_
  refine Qad ?_
  refine Qab (.agg (numA (r))) 60 rfl kj (Qae 49 _ g17 49 _ _ r17_17 rfl kj kj (isz (n:=4) kj kj)) ?_
  have r8_9:=(Qaa (Qaa r8_7 e8) e9)
  have r8_10:=(Qaa r8_9 e10)
  have r8_13:=(Puts.row p13 (Puts.row p12 (Qaa r8_10 e11) (Qac r8_9 l12)) (Qac r8_10 l13))
  have r8_15:=(Puts.row p15 (Qaa r8_13 e14) (Qac r8_13 l15))
  have r8_17:=(Puts.row p17 (Qaa (Puts.row p15 (Qaa (Puts.row p13 (Puts.row p12 (Qaa (Qaa (Qaa (Qaa r8_7 e8) e9) e10) e11) (Qac r8_9 l12)) (Qac r8_10 l13)) e14) (Qac r8_13 l15)) e16) (Qac r8_15 l17))
  refine Qab (.agg (numA (s0))) 61 rfl kj (Qae 49 _ g8 49 _ _ r8_17 rfl kj kj (isz (n:=4) kj kj)) ?_
  refine Qar (.agg (cat [numA (px),numA (pl)])) 43 #[.agg (numA (r)),.agg (numA (s0))] 62 rfl kj kj (cp _) fun W18 e18=>?_
  have x18:Ext w W18:=Ext.tr x17 e18
  have r4_4:=(Qaa (Puts.row p3 r4_2 (Qat r3_1 l4)) e4)
  have r4_9:=(Qaa (Qaa (Qaa (Puts.row p6 (Qaa r4_4 e5) (Qac r4_4 l8)) e7) e8) e9)
  have r4_10:=(Qaa r4_9 e10)
  have r4_13:=(Puts.row p13 (Puts.row p12 (Qaa r4_10 e11) (Qac r4_9 l12)) (Qac r4_10 l13))
  have r4_15:=(Puts.row p15 (Qaa r4_13 e14) (Qac r4_13 l15))
  have r4_18:=(Qaa (Puts.row p17 (Qaa (Puts.row p15 (Qaa (Puts.row p13 (Puts.row p12 (Qaa (Qaa (Qaa (Qaa (Qaa (Puts.row p6 (Qaa (Qaa (Puts.row p3 r4_2 (Qat r3_1 l4)) e4) e5) (Qac r4_4 l8)) e7) e8) e9) e10) e11) (Qac r4_9 l12)) (Qac r4_10 l13)) e14) (Qac r4_13 l15)) e16) (Qac r4_15 l17)) e18)
  refine Qal g4 _ (cat [numA (px),numA (pl)]) 51 r4_18 rfl kj (Qai 51 _ _ g4 51 _ _ r4_18 rfl kj kj (isz (n:=8) kj kj) (eqsz (n:=8) kj kj) kj) fun W19 p19 r4_19=>?_
  have x19:Ext w W19:=Puts.ext p19 x18 b4
  refine Qab (.bool true) 3 rfl kj kj ?_
  refine Qag ?_
  refine hK22 _ _ ?_
  refine wp_ret ?_
  exact (show bodyPost _ _ _ .ret _ _ from ret2 (.agg (cat [numA (px),numA (pl)])) (.bool true) rfl (Qa9 g4 51 _ r4_19 kj kj (isz (n:=8) kj kj)) (Qb6 kj) ⟨rfl,x19⟩)
theorem QlZ (xs ys:List Int) (hx:xs.length=32) (hb:Qak xs) (ys_len:ys.length=32) (s0:Int) (ho:(nth xs 31/128==1)=true) (hc:decide (ys=(xs).set 31 (nth xs 31%128))=false)
    (c0:∀ W,Calls Tryd.prog 44 #[.agg (ints .u8 ((xs).set 31 (nth xs 31%128)))] W (Ret W (.agg (numA (s0)))))
    (cb:∀ W,Calls Tryd.prog 50 #[.agg (numA (s0))] W (Ret W (.agg (ints .u8 ys))))
    (w:World) (tB:TypeId) (hB:w.heap[2]? = some (.cells (ints .u8 Qbq) tB)):Calls Tryd.prog 34 #[.agg (ints .u8 (xs))] w (Ret w (.tuple #[.agg (cat [numA (0),numA (0)]),.bool false])):=by
  refine enter 63 [(0,.agg (ints .u8 (xs)))] Tryd.func34 rfl rfl kj rfl ?_
  refine wp_seq_k fun K2 hK2=>?_
  refine Qad ?_
  refine Qaj (ints .u8 (xs)) 23 1 rfl kj kj fun g3 W1 l3 e1 r3_1=>?_
  have x1:Ext w W1:=Ext.tr (Rely.Ext.refl w) e1
  have b3:w.heap.size≤g3:=qT (Rely.Ext.refl w).size l3
  refine Qaj (cat [numA (0),numA (0)]) 51 2 rfl kj kj fun g4 W2 l4 e2 r4_2=>?_
  have x2:Ext w W2:=Ext.tr x1 e2
  have b4:w.heap.size≤g4:=qT x1.size l4
  refine Qab (.bool false) 3 rfl kj kj ?_
  refine Qag ?_
  refine hK2 _ _ ?_
  refine wp_seq_k fun K5 hK5=>?_
  refine Qad ?_
  refine Qab (.pointer (some ⟨g3,31,none⟩)) 11 rfl kj kj ?_
  have r3_2:=(Qaa r3_1 e2)
  refine Qab (.int .u8 (nth (xs) 31)) 12 rfl kj (Qan 5 _ g3 31 23 _ (.int .u8 (nth (xs) 31)) _ r3_2 rfl kj (Qaw _ _ _ (Nat.lt_of_lt_of_eq (by decide) hx.symm)) kj) ?_
  refine Qab (.int .u8 (nth xs 31/128)) 13 rfl kj (Qbv .shr _ _ _ _ .u8 .u64 _ _ _ rfl kj kj (QdL _ _ _ _ _ _ (show (0:Int)≤7 by decide) (shr7 _))) ?_
  refine Qab (.bool true) 14 rfl kj (Qax (u:=.bool (((nth xs 31/128)==1))) kj (congrArg Value.bool ho)) ?_
  refine Qab (.bool true) 4 rfl kj kj ?_
  refine Qag ?_
  refine hK5 _ _ ?_
  refine wp_seq_k fun K6 hK6=>?_
  refine Qad ?_
  refine Qab (.pointer (some ⟨g3,31,none⟩)) 15 rfl kj kj ?_
  refine Qab (.int .u8 (nth (xs) 31)) 16 rfl kj (Qan 5 _ g3 31 23 _ (.int .u8 (nth (xs) 31)) _ r3_2 rfl kj (Qaw _ _ _ (Nat.lt_of_lt_of_eq (by decide) hx.symm)) kj) ?_
  refine Qab (.int .u8 (nth xs 31%128)) 17 rfl kj (Qax (u:=.int .u8 (bits .and .u8 ((nth (xs) 31)) (127))) kj (congrArg (Value.int .u8) (Qfl _ (hb.nth 31)))) ?_
  refine Qab (.pointer (some ⟨g3,31,none⟩)) 18 rfl kj kj ?_
  refine Qal g3 _ (ints .u8 ((xs).set 31 (nth xs 31%128))) 23 r3_2 rfl kj (Qa5 5 _ _ g3 31 23 _ _ r3_2 rfl kj kj kj (Nat.lt_of_lt_of_eq (show 31<32 by decide) hx.symm)) fun W3 p3 r3_3=>?_
  have x3:Ext w W3:=Puts.ext p3 x2 b3
  refine Qag ?_
  refine hK6 _ _ ?_
  refine wp_seq_k fun K7 hK7=>?_
  refine Qad ?_
  refine Qab (.agg (ints .u8 ((xs).set 31 (nth xs 31%128)))) 19 rfl kj (Qae 23 _ g3 23 _ _ r3_3 rfl kj kj (isz (n:=32) kj ((Qaf _ _).trans ((List.length_set ..).trans hx)))) ?_
  refine Qar (.agg (numA (s0))) 44 #[.agg (ints .u8 ((xs).set 31 (nth xs 31%128)))] 20 rfl kj kj (c0 _) fun W4 e4=>?_
  have x4:Ext w W4:=Ext.tr x3 e4
  refine Qaj (numA (0)) 49 5 rfl kj kj fun g8 W5 l8 e5 r8_5=>?_
  have x5:Ext w W5:=Ext.tr x4 e5
  have b8:w.heap.size≤g8:=qT x4.size l8
  refine Qal g8 _ (numA (s0)) 49 r8_5 rfl kj (Qai 49 _ _ g8 49 _ _ r8_5 rfl kj kj (isz (n:=4) kj kj) (eqsz (n:=4) kj kj) kj) fun W6 p6 r8_6=>?_
  have x6:Ext w W6:=Puts.ext p6 x5 b8
  refine Qag ?_
  refine hK7 _ _ ?_
  refine wp_seq_k fun K9 hK9=>?_
  refine wp_seq_k fun K10 hK10=>?_
  refine QaB 4 [⟨none,[(5,none)]⟩,⟨none,[(21,some 0)]⟩,⟨none,[(1,none)]⟩,⟨none,[(22,some 1),(23,some 2)]⟩] kj kj fun F hF=>?_
  refine Qam (.agg (numA (s0))) kj kj (fun W hR=>(Qae 49 _ g8 49 _ _ (Qaa (Qaa r8_6 (Qah _)) hR) rfl kj kj (isz (n:=4) kj kj))) ?_
  refine Qaq (.agg (ints .u8 (ys))) 50 #[.agg (numA (s0))] kj kj (fun W=>kj) (fun W hR=>cb W) ?_
  have r3_4:=(Qaa r3_3 e4)
  have r3_6:=(Puts.row p6 (Qaa (Qaa r3_3 e4) e5) (Qac r3_4 l8))
  refine Qam (.agg (ints .u8 ((xs).set 31 (nth xs 31%128)))) kj kj (fun W hR=>(Qae 23 _ g3 23 _ _ (Qaa (Qaa r3_6 (Qah _)) hR) rfl kj kj (isz (n:=32) kj ((Qaf _ _).trans ((List.length_set ..).trans hx))))) ?_
  refine Qav (.bool true) kj kj (fun W=>(QbY 23 _ _ _ _ _ (.bool true) rfl kj kj kj (QdG _ _ false ys_len (by rw [List.length_set]; exact hx) hc _))) ?_
  refine Qa3 (hF _ kj fun W7 e7=>?_)
  simp only [ups,up,Kn.val,List.take_succ_cons,List.take_zero,List.drop_succ_cons,List.drop_zero,List.nil_append,List.cons_append]
  clear hF
  have x7:Ext w W7:=Ext.tr x6 e7
  refine Qag ?_
  refine hK10 _ _ ?_
  refine cond_true kj ?_
  refine wp_seq_k fun K11 hK11=>?_
  refine Qad ?_
  refine Qab (.agg (cat [numA (0),numA (0)])) 25 rfl kj kj ?_
  have r4_4:=(Qaa (Puts.row p3 r4_2 (Qat r3_1 l4)) e4)
  have r4_7:=(Qaa (Puts.row p6 (Qaa (Qaa (Puts.row p3 r4_2 (Qat r3_1 l4)) e4) e5) (Qac r4_4 l8)) e7)
  refine Qal g4 _ (cat [numA (0),numA (0)]) 51 r4_7 rfl kj (Qai 51 _ _ g4 51 _ _ r4_7 rfl kj kj (isz (n:=8) kj kj) (eqsz (n:=8) kj kj) kj) fun W8 p8 r4_8=>?_
  have x8:Ext w W8:=Puts.ext p8 x7 b4
  refine Qab (.bool false) 3 rfl kj kj ?_
  refine Qag ?_
  refine hK11 _ _ ?_
  refine wp_ret ?_
  exact (show bodyPost _ _ _ .ret _ _ from ret2 (.agg (cat [numA (0),numA (0)])) (.bool false) rfl (Qa9 g4 51 _ r4_8 kj kj (isz (n:=8) kj kj)) (Qb6 kj) ⟨rfl,x8⟩)
end Go.Proofs.YtdoadngmgmdlbaaDoor.Field
end
section
namespace Go.Proofs.YtdoadngmgmdlbaaDoor.Field
open Go Go.RowKit
open Rely Auto
def cutK (xs : List Int):List Int:=xs.set 31 (nth xs 31%128)
def yK (xs : List Int):Int:=QeX (cutK xs)
def uK (y : Int):Int:=(y*y%p-1)%p*invN ((y*y%p*dN%p+1)%p)%p
def rK (xs : List Int):Int:=Qda (uK (yK xs))
def oddK (xs : List Int):Bool:=nth xs 31/128==1
def canK (xs : List Int):Bool:=decide (Qao (yK xs)=cutK xs)
def okK (xs : List Int):Bool:=canK xs&&(Qb8 (uK (yK xs))&&!(oddK xs&&rK xs==0))
def xK (xs : List Int):Int:=if okK xs=true then (if oddK xs=true then QfI (rK xs) else rK xs) else 0
def lK (xs : List Int):Int:=if okK xs=true then (yK xs-1)%p else 0
def zK (xs : List Int):Int:=if okK xs=true then yK xs else 1
theorem Qld {xs : List Int} (hx:xs.length=32):(cutK xs).length=32:=by unfold cutK; rw [List.length_set]; exact hx
theorem QiB {xs : List Int} (hb:Qak xs):Qak (cutK xs):=by
  intro x hx
  rcases List.mem_or_eq_of_mem_set hx with h | h
  · exact hb x h
  · have:=hb.nth 31; omega
theorem QeQ (xs : List Int):isN (rK xs):=Qjc _
theorem Qlp (xs : List Int):isN (yK xs):=Qi7 _
theorem QmU (xs : List Int):isN (xK xs):=by
  unfold xK
  split
  · split
    · exact QhH _ (QeQ xs)
    · exact QeQ xs
  · exact Qb7 0
theorem QmT (xs : List Int):isN (zK xs):=by unfold zK; split; exact Qlp xs; exact Qb7 1
set_option maxRecDepth 100000 in
theorem pfromC (xs : List Int) (hx:xs.length=32) (hb:Qak xs) (w:World) (tB:TypeId) (hB:w.heap[2]? = some (.cells (ints .u8 Qbq) tB)) :
    Calls Tryd.prog 34 #[.agg (ints .u8 xs)] w (Ret w (.tuple #[.agg (cat [numA (xK xs),numA (lK xs)]),.bool (okK xs)])):=by
  have c0:∀ W,Calls Tryd.prog 44 #[.agg (ints .u8 (cutK xs))] W (Ret W (num (yK xs))):=fun W=>QkU (cutK xs) (Qld hx) (QiB hb) W
  have hy:=Qlp xs
  have cb:∀ W,Calls Tryd.prog 50 #[num (yK xs)] W (Ret W (.agg (ints .u8 (Qao (yK xs))))):=fun W=>bytes _ hy W
  have cr:∀ b,Qb8 (uK (yK xs))=b→∀ W,Calls Tryd.prog 71 #[num (uK (yK xs))] W (Ret W (.tuple #[num (rK xs),.bool b])):=fun b e W=>by
    have:=root (uK (yK xs)) (Qa0 _) W
    rw [e] at this
    exact this
  have c1:=fun W=>mul _ _ hy hy W
  have c2:=fun W=>mul _ _ (Qa0 (yK xs*yK xs)) Qe4 W
  have c3:=fun W=>add _ _ (Qa0 (yK xs*yK xs%p*dN)) (Qb7 1) W
  have c4:=fun W=>sub _ _ (Qa0 (yK xs*yK xs)) (Qb7 1) W
  have c5:=fun W=>inv _ (Qa0 (yK xs*yK xs%p*dN%p+1)) W
  have c6:=fun W=>mul _ _ (Qa0 (yK xs*yK xs%p-1)) (QeE ((yK xs*yK xs%p*dN%p+1)%p)) W
  cases hc:canK xs
  · have e:okK xs=false:=by unfold okK; rw [hc]; rfl
    unfold xK lK
    rw [e]
    cases ho:oddK xs
    · exact Qmf xs _ hx hb (bytes_len _) _ ho hc c0 cb w tB hB
    · exact QlZ xs _ hx hb (bytes_len _) _ ho hc c0 cb w tB hB
  · cases hr:Qb8 (uK (yK xs))
    · have e:okK xs=false:=by unfold okK; rw [hc,hr]; rfl
      unfold xK lK
      rw [e]
      cases ho:oddK xs
      · exact Qme xs _ hx hb (bytes_len _) _ _ _ _ _ _ _ _ ho hc c0 c1 c2 c3 c4 c5 c6 cb (cr _ hr) w tB hB
      · exact Qmd xs _ hx hb (bytes_len _) _ _ _ _ _ _ _ _ ho hc c0 c1 c2 c3 c4 c5 c6 cb (cr _ hr) w tB hB
    · cases ho:oddK xs
      · have e:okK xs=true:=by unfold okK; rw [hc,hr,ho]; rfl
        unfold xK lK
        rw [e,ho]
        exact Qma xs _ hx hb (bytes_len _) _ _ _ _ _ _ _ _ _ _ ho hc c0 c1 c2 c3 c4 c5 c6 cb (cr _ hr) (fun W=>patC _ _ (QeQ xs) hy W) w tB hB
      · cases hz:(rK xs==0)
        · have e:okK xs=true:=by unfold okK; rw [hc,hr,ho,hz]; rfl
          unfold xK lK
          rw [e,ho]
          exact Qmb xs _ hx hb (bytes_len _) _ _ _ _ _ _ _ _ _ _ _ ho hc (QeQ xs) hz c0 c1 c2 c3 c4 c5 c6 cb (cr _ hr) (fun W=>Qnq _ (QeQ xs) W) (fun W=>patC _ _ (QhH _ (QeQ xs)) hy W) w tB hB
        · have e:okK xs=false:=by unfold okK; rw [hc,hr,ho,hz]; rfl
          unfold xK lK
          rw [e]
          exact Qmc xs _ hx hb (bytes_len _) _ _ _ _ _ _ _ _ ho hc (QeQ xs) hz c0 c1 c2 c3 c4 c5 c6 cb (cr _ hr) w tB hB
end Go.Proofs.YtdoadngmgmdlbaaDoor.Field
end
section
namespace Go.Proofs.YtdoadngmgmdlbaaDoor.Field
open Go Go.RowKit
open Rely Auto
theorem addL (a b:Int):(a%p+b)%p=(a+b)%p:=Int.emod_add_emod ..
theorem addR (a b:Int):(a+b%p)%p=(a+b)%p:=Int.add_emod_emod ..
theorem subL (a b:Int):(a%p-b)%p=(a-b)%p:=Int.emod_sub_emod ..
theorem subR (a b:Int):(a-b%p)%p=(a-b)%p:=Int.sub_emod_emod ..
theorem QdF {a b:Int} (h:a=b):a%p=b%p:=by rw [h]
theorem QaR {a : Int} (h:isN a):a%p=a:=Int.emod_eq_of_lt h.1 h.2
theorem QlR {y : Int} (h:isN y) (x:Int):pyF x ((y-1)%p)=y:=by
  unfold pyF
  show ((y-1)%p+1)%p=y
  rw [addL,show y-1+1=y by omega,QaR h]
theorem Qm4 : invN 1=1:=by
  have h:=QfT 1 (Qb7 1) (by decide)
  rw [Int.one_mul,QaR (QeE 1)] at h
  exact h
theorem QeV {x : Int} (h:isN x):x*invN 1%p=x:=by rw [Qm4,Int.mul_one,QaR h]
theorem QhG (r : Int):QfI r=(0-r)%p:=by unfold QfI; rfl
theorem QlN (xs : List Int) (i:Nat):xs.set i (nth xs i)=xs:=by
  by_cases h:i<xs.length
  · have e:nth xs i=xs[i]:=by simp [nth,h]
    rw [e]
    exact List.set_getElem_self h
  · exact List.set_eq_of_length_le (by omega)
theorem QmE (x y:Int):(enc x y).length=32:=by unfold enc; split; simp [bytes_len]; exact bytes_len y
end Go.Proofs.YtdoadngmgmdlbaaDoor.Field
end
section
namespace Go.Proofs.YtdoadngmgmdlbaaDoor.Field
open Go Go.RowKit
open Rely Auto
def blN : Int:=46316835694926478169428394003475163141307993866256225615783033603165251855959
theorem QmO : Qjo=(bxN,blN):=by decide +kernel
theorem QnH (w : World) (tX:TypeId) (hX:w.heap[0]? = some (.cells (ints .u8 QbS) tX)) (tY:TypeId) (hY:w.heap[1]? = some (.cells (ints .u8 QbR) tY)) :
    Calls Tryd.prog 20 #[] w (Ret w (.agg (cat [numA bxN,numA blN]))):=by
  have:=Qnu w tX hX tY hY
  rw [QmO] at this
  exact this
end Go.Proofs.YtdoadngmgmdlbaaDoor.Field
end
section
namespace Go.Proofs.YtdoadngmgmdlbaaDoor.Field
open Go Go.RowKit
open Rely Auto
theorem QcN {a b:Int} (ha:a%p≠0) (hb:b%p≠0):a*b%p≠0:=fun h=>by
  have hA:=QfT (a%p) (Qa0 _) ha
  apply hb
  have e:(a%p*invN (a%p)%p)*b%p=invN (a%p)*(a*b%p)%p:=by
    rw [modL,modR,Int.mul_assoc,modL,←Int.mul_assoc,←Int.mul_assoc,Int.mul_comm a]
  rw [hA,h,Int.one_mul,Int.mul_zero] at e
  rw [e]
  rfl
theorem QiO (a b c d e f g h k:Int):Qcq a b c d e f g h k =
    (((b+a)*(f+e)-(b-a)*(f-e))*(c*g+c*g-(d*h*k+d*h*k))%p,(c*g+c*g+(d*h*k+d*h*k))*((b+a)*(f+e)+(b-a)*(f-e))%p,
     (c*g+c*g-(d*h*k+d*h*k))*(c*g+c*g+(d*h*k+d*h*k))%p,((b+a)*(f+e)-(b-a)*(f-e))*((b+a)*(f+e)+(b-a)*(f-e))%p):=by
  simp only [Qcq,modL,modR,addL,addR,subL,subR]
theorem QlX (a b c d:Int):QdZ a b c d=(a*invN c%p,(b*invN c%p-1)%p):=rfl
end Go.Proofs.YtdoadngmgmdlbaaDoor.Field
end
section
namespace Go.Proofs.YtdoadngmgmdlbaaDoor.Field
open Go Go.RowKit
open Rely Auto
set_option maxHeartbeats 4000000
theorem zc1 {e a c:Int} (ha:a%p=0) (he:e=c*a):e%p=0:=by
  rw [he,Int.mul_emod,ha,Int.mul_zero]; rfl
theorem zc2 {e a b c d:Int} (ha:a%p=0) (hb:b%p=0) (he:e=c*a+d*b):e%p=0:=by
  rw [he,Int.add_emod,zc1 ha rfl,zc1 hb rfl]; rfl
theorem zc4 {e a b c d k l m n:Int} (ha:a%p=0) (hb:b%p=0) (hc:c%p=0) (hd:d%p=0) (he:e=k*a+l*b+m*c+n*d):e%p=0:=by
  rw [he,Int.add_emod,Int.add_emod (k*a+l*b),zc2 ha hb rfl,zc1 hc rfl,zc1 hd rfl]; rfl
theorem Qf5 {a b:Int} (h:a*b%p=0):a%p=0∨b%p=0:=by
  by_cases ha:a%p=0
  · exact .inl ha
  · by_cases hb:b%p=0
    · exact .inr hb
    · exact absurd h (QcN ha hb)
theorem Qf4 {a b:Int} (h:(a-b)%p=0):a%p=b%p:=Int.emod_eq_emod_iff_emod_sub_eq_zero.2 h
theorem QiT {a b:Int} (h:a%p=b%p):(a-b)%p=0:=Int.emod_eq_emod_iff_emod_sub_eq_zero.1 h
theorem QnQ {a : Int} (h:2*a%p=0):a%p=0:=(Qf5 h).resolve_left (by decide)
theorem Qg8 {a : Int} (h:a%p≠0):(a*invN (a%p)-1)%p=0:=by
  have:=QfT (a%p) (Qa0 _) h
  rw [modL] at this
  exact QiT (by rw [this]; rfl)
def hN : Nat:=28948022309329048855892746252171976963317496166410141009864396001978282409974
theorem QjJ : Prime.pm 57896044618658097711785492504343953926634992332820282019728792003956564819949 256 ((p-dN).toNat) hN=57896044618658097711785492504343953926634992332820282019728792003956564819948:=by decide +kernel
theorem Qlc : ((p-dN).toNat:Int)^hN%p=p-1:=by
  have h:=Prime.pm_eq 57896044618658097711785492504343953926634992332820282019728792003956564819949 256 ((p-dN).toNat) hN (by decide)
  rw [QjJ] at h
  have h2:=Qdm ((p-dN).toNat) hN 57896044618658097711785492504343953926634992332820282019728792003956564819949
  rw [←h] at h2
  exact h2
theorem QnA (h : Nat) (e:h=hN):2*h=57896044618658097711785492504343953926634992332820282019728792003956564819949-1:=by rw [e]; decide
theorem QlV (h : Nat) (D a:Int) (hh:2*h=57896044618658097711785492504343953926634992332820282019728792003956564819949-1) (hD:D^h%p=p-1) (b:Int) (ha:a%p≠0)
    (hs:D*(a*a)%p=b*b%p):False:=by
  have ha1:=Qdz (a%p) (Qa0 _) ha (2*h) hh
  rw [QcS] at ha1
  have e:(D*(a*a))^h%p=(b*b)^h%p:=by rw [←QcS (D*(a*a)),hs,QcS]
  have sq:∀ c:Int,(c*c)^h=c^(2*h):=fun c=>by rw [Int.pow_mul,show c^2=c*c from by rw [Int.pow_succ,Int.pow_succ,Int.pow_zero,Int.one_mul]]
  rw [Int.mul_pow,sq,sq,Int.mul_emod,hD,ha1,Int.mul_one] at e
  rw [show (p-1)%p=p-1 by decide] at e
  by_cases hb:b%p=0
  · rw [←QcS b,hb] at e
    have h0:0<2*h:=by omega
    rw [Int.zero_pow (by omega)] at e
    exact absurd e (by decide)
  · have hb1:=Qdz (b%p) (Qa0 _) hb (2*h) hh
    rw [QcS] at hb1
    rw [hb1] at e
    exact absurd e (by decide)
theorem nonsq {a b:Int} (ha:a%p≠0) (h:(-dN*(a*a)-b*b)%p=0):False:=by
  refine QlV hN ((p-dN).toNat:Int) a (QnA _ rfl) Qlc b ha ?_
  rw [←Qf4 h]
  have e:((p-dN).toNat:Int)=p-dN:=by decide +kernel
  rw [e]
  refine Int.emod_eq_emod_iff_emod_sub_eq_zero.2 ?_
  rw [show (p-dN)*(a*a) - -dN*(a*a)=p*(a*a) by grind]
  exact Int.mul_emod_right ..
def cv (x y:Int):Int:=-(x*x)+y*y-1-dN*(x*x*(y*y))
def onC (x y:Int):Prop:=cv x y%p=0
def eps (x y u v:Int):Int:=dN*(x*u*(y*v))
theorem Qhu (d i s x y u v:Int) (hs:s*s=1):-d*((i*x*y)*(i*u+s*v)*((i*x*y)*(i*u+s*v)))-(i*x+s*(d*(x*u*(y*v)))*y)*(i*x+s*(d*(x*u*(y*v)))*y) =
    (-(x*x)*(d*(i*i)*(u*u)*(y*y)+2*d*i*u*s*v*(y*y)-d*(u*u)*(y*y)+d*(v*v)*(y*y)+1))*(i*i+1) + -1*(-(x*x)+y*y-1-d*(x*x*(y*y)))
      + (d*(x*x)*(y*y))*(-(u*u)+v*v-1-d*(u*u*(v*v)))+(1-y*y)*(d*(x*u*(y*v))*(d*(x*u*(y*v)))-1):=by grind
theorem complete {x y u v:Int} (h1:onC x y) (h2:onC u v):(eps x y u v*eps x y u v-1)%p≠0:=fun he=>by
  have hi:(Qb0*Qb0+1)%p=0:=by rw [←addL,QfE]; rfl
  have hi0:Qb0%p≠0:=fun e=>by
    have:=QfE
    rw [←modL,e,Int.zero_mul] at this
    exact absurd this (by decide)
  have hx:eps x y u v%p≠0:=fun e=>by
    rw [←subL,←modL,e,Int.zero_mul] at he
    exact absurd he (by decide)
  have hx':∀ a b:Int,eps x y u v=a*b→a%p≠0:=fun a b e h=>by
    apply hx; rw [e,←modL,h,Int.zero_mul]; rfl
  have hX:=hx' x (dN*(u*(y*v))) (by unfold eps; grind)
  have hY:=hx' y (dN*(u*(x*v))) (by unfold eps; grind)
  have hU:=hx' u (dN*(x*(y*v))) (by unfold eps; grind)
  have hb:(Qb0*x*y)%p≠0:=QcN (QcN hi0 hX) hY
  have key:∀ s:Int,s*s=1→(Qb0*u+s*v)%p=0:=fun s hs=>by
    apply Decidable.byContradiction
    intro hne
    exact nonsq (QcN hb hne) (zc4 hi h1 h2 he (Qhu dN Qb0 s x y u v hs))
  have k1:=key 1 rfl
  have k2:=key (-1) rfl
  have k3:Qb0*(2*u)%p=0:=zc2 k1 k2 (c:=1) (d:=1) (by grind)
  exact hU (QnQ ((Qf5 k3).resolve_left hi0))
theorem Qfh {x y u v:Int} (h1:onC x y) (h2:onC u v):(1+eps x y u v)%p≠0:=fun h=>complete h1 h2 (zc1 h (c:=eps x y u v-1) (by grind))
theorem Qfg {x y u v:Int} (h1:onC x y) (h2:onC u v):(1-eps x y u v)%p≠0:=fun h=>complete h1 h2 (zc1 h (c:=-1-eps x y u v) (by grind))
def aX (x y u v:Int):Int:=(x*v+y*u)*invN ((1+eps x y u v)%p)%p
def aY (x y u v:Int):Int:=(y*v+x*u)*invN ((1-eps x y u v)%p)%p
theorem QjL (d x y u v:Int):-((x*v+y*u)*(x*v+y*u)*((1-d*(x*u*(y*v)))*(1-d*(x*u*(y*v)))))+(y*v+x*u)*(y*v+x*u)*((1+d*(x*u*(y*v)))*(1+d*(x*u*(y*v))))
      - (1+d*(x*u*(y*v)))*(1+d*(x*u*(y*v)))*((1-d*(x*u*(y*v)))*(1-d*(x*u*(y*v))))-d*((x*v+y*u)*(x*v+y*u)*((y*v+x*u)*(y*v+x*u))) =
    (d^3*u^4*v^4*x^2*y^2-d^2*u^4*v^4*x^2+d^2*u^4*v^4*y^2-d^2*u^4*v^4-2*d*u^4*v^4-d*u^4*v^2*x^2+d*u^4*v^2*y^2+d*u^2*v^4*x^2-d*u^2*v^4*y^2-2*d*u^2*v^2-2*u^4*v^2+u^4+2*u^2*v^4-4*u^2*v^2+v^4)*(-(x*x)+y*y-1-d*(x*x*(y*y)))
      + (d*u^2*v^2*x^4+2*d*u^2*v^2*x^2+d*u^2*v^2*y^4-2*d*u^2*v^2*y^2+d*u^2*v^2+2*u^2*v^2*x^2-2*u^2*v^2*y^2+2*u^2*v^2-u^2*x^2+u^2*y^2-u^2+v^2*x^2-v^2*y^2+v^2+1)*(-(u*u)+v*v-1-d*(u*u*(v*v))):=by grind
theorem Qhv (d n m a b i j X Y:Int) (hi:(a*i-1)%p=0) (hj:(b*j-1)%p=0) (hX:(X-n*i)%p=0) (hY:(Y-m*j)%p=0)
    (h:(-(n*n*(b*b))+m*m*(a*a)-a*a*(b*b)-d*(n*n*(m*m)))%p=0):(-(X*X)+Y*Y-1-d*(X*X*(Y*Y)))%p=0:=by
  have e1:(-(n*i*(n*i))+m*j*(m*j)-1-d*(n*i*(n*i)*(m*j*(m*j))))%p=0:=by
    refine zc4 h hi hj (d:=0) rfl (k:=i*i*(j*j)) (l:=-((m*m*(j*j))*(a*i+1))+(a*i+1)*(b*j)*(b*j)) (m:=n*n*(i*i)*(b*j+1)+(b*j+1)) (n:=0) ?_
    grind
  refine zc4 e1 hX hY (d:=0) rfl (k:=1) (l:=-(X+n*i)-d*(Y*Y)*(X+n*i)) (m:=(Y+m*j)-d*(n*i*(n*i))*(Y+m*j)) (n:=0) ?_
  grind
theorem closed {x y u v:Int} (h1:onC x y) (h2:onC u v):onC (aX x y u v) (aY x y u v):=by
  unfold onC cv
  refine Qhv dN (x*v+y*u) (y*v+x*u) (1+eps x y u v) (1-eps x y u v) _ _ _ _ (Qg8 (Qfh h1 h2)) (Qg8 (Qfg h1 h2)) (QiT (Int.emod_emod ..)) (QiT (Int.emod_emod ..)) ?_
  exact zc2 h1 h2 (QjL dN x y u v)
theorem QhL : onC 0 1:=rfl
structure RepW (X Y Z T x y : Int) : Prop where
  n:isN Z
  z:Z≠0
  hx:X=Z*x%p
  hy:Y=Z*y%p
  ht:T=Z*(x*y)%p
structure RepR (X Y Z x y : Int) : Prop where
  n:isN Z
  z:Z≠0
  hx:X=Z*x%p
  hy:Y=Z*y%p
theorem Qjg (k a i n z:Int) (hi:(a*i-1)%p=0) (hz:(z-k*a)%p=0):(k*n)%p=z*(n*i%p)%p:=by
  rw [modR]
  refine (Qf4 (zc2 hi hz (c:=k*n) (d:=n*i) ?_)).symm
  grind
theorem Qkt (k a b i j n m z:Int) (hi:(a*i-1)%p=0) (hj:(b*j-1)%p=0) (hz:(z-k*(b*a))%p=0):(k*(n*m))%p=z*(n*i%p*(m*j%p))%p:=by
  have e:(n*i%p*(m*j%p))%p=n*i*(m*j)%p:=by rw [modL,modR]
  rw [←modR z,e,modR]
  refine (Qf4 (zc4 hi hj hz (d:=0) rfl (k:=k*b*j*(n*m)) (l:=k*(n*m)) (m:=n*i*(m*j)) (n:=0) ?_)).symm
  grind
theorem Qkh {X Y Z T x y U V S R u v:Int} (h1:onC x y) (h2:onC u v) (p1:RepW X Y Z T x y) (p2:RepW U V S R u v) :
    RepW (Qcq X Y Z T U V S R dN).1 (Qcq X Y Z T U V S R dN).2.1 (Qcq X Y Z T U V S R dN).2.2.1 (Qcq X Y Z T U V S R dN).2.2.2 (aX x y u v) (aY x y u v):=by
  have e:Qcq X Y Z T U V S R dN=(4*(Z*S*(Z*S))*(1-eps x y u v)*(x*v+y*u)%p,4*(Z*S*(Z*S))*(1+eps x y u v)*(y*v+x*u)%p,
      4*(Z*S*(Z*S))*((1-eps x y u v)*(1+eps x y u v))%p,4*(Z*S*(Z*S))*((x*v+y*u)*(y*v+x*u))%p):=by
    rw [p1.hx,p1.hy,p1.ht,p2.hx,p2.hy,p2.ht]
    have e0:Qcq (Z*x%p) (Z*y%p) Z (Z*(x*y)%p) (S*u%p) (S*v%p) S (S*(u*v)%p) dN=Qcq (Z*x) (Z*y) Z (Z*(x*y)) (S*u) (S*v) S (S*(u*v)) dN:=by
      simp only [Qcq,modL,modR,addL,addR,subL,subR]
    rw [e0,QiO]
    refine Prod.ext ?_ (Prod.ext ?_ (Prod.ext ?_ ?_)) <;> refine QdF ?_ <;> ((try unfold eps); grind)
  have hz:(4*(Z*S*(Z*S))*((1-eps x y u v)*(1+eps x y u v)))%p≠0:=by
    have a1:Z%p≠0:=by rw [QaR p1.n]; exact p1.z
    have a2:S%p≠0:=by rw [QaR p2.n]; exact p2.z
    exact QcN (QcN (by decide) (QcN (QcN a1 a2) (QcN a1 a2))) (QcN (Qfg h1 h2) (Qfh h1 h2))
  have i1:=Qg8 (Qfh h1 h2)
  have i2:=Qg8 (Qfg h1 h2)
  rw [e]
  refine ⟨Qa0 _,hz,?_,?_,?_⟩
  · exact Qjg _ _ _ _ _ i1 (by rw [show ∀ a b:Int,a%p-b=a%p-b from fun _ _=>rfl,subL]; exact zc1 (a:=0) rfl (c:=0) (by grind))
  · exact Qjg _ _ _ _ _ i2 (by rw [subL]; exact zc1 (a:=0) rfl (c:=0) (by grind))
  · exact Qkt _ _ _ _ _ _ _ _ i1 i2 (by rw [subL]; exact zc1 (a:=0) rfl (c:=0) (by grind))
theorem QgH (r : Int) (h:isN r):QaT r*QaT r%p=r*r%p:=by
  unfold QaT
  split
  · rw [modL,modR]; exact QdF (by grind)
  · rfl
theorem Qi8 {a : Int} (h:Qb8 a=true):Qda a*Qda a%p=a:=by
  unfold Qb8 at h
  unfold Qda Qkp
  by_cases h1:QaQ a*QaQ a%p=a
  · rw [if_pos h1,QgH _ (QdY a)]; exact h1
  · rw [if_neg h1]
    have h2:QaQ a*Qb0%p*(QaQ a*Qb0%p)%p=a:=by simpa [h1] using h
    rw [if_pos h2,QgH _ (Qa0 _)]; exact h2
theorem Qlq {x y:Int} (hx:x*x%p=uK y):onC x y:=by
  unfold uK at hx
  have hw:(y*y*dN+1)%p≠0:=fun h=>by
    by_cases hy:y%p=0
    · rw [←addL,Int.mul_assoc,←modL,hy,Int.zero_mul] at h
      exact absurd h (by decide)
    · exact nonsq (a:=y) (b:=1) hy (zc1 h (c:=-1) (by grind))
  have i1:=Qg8 hw
  have e:(y*y%p*dN%p+1)%p=(y*y*dN+1)%p:=by rw [modL,addL]
  rw [e] at hx
  have h2:(x*x-(y*y-1)*invN ((y*y*dN+1)%p))%p=0:=by
    refine QiT ?_
    rw [hx,modL,←modL (y*y%p-1),subL,modL]
  unfold onC cv
  refine zc2 h2 i1 (c:=-(y*y*dN+1)) (d:=-(y*y-1)) ?_
  grind
theorem Qon (xs : List Int):onC (xK xs) (zK xs):=by
  unfold xK zK
  by_cases h:okK xs=true
  · rw [if_pos h,if_pos h]
    have hr:Qb8 (uK (yK xs))=true:=by
      unfold okK at h
      simp only [Bool.and_eq_true] at h
      exact h.2.1
    have hs:=Qi8 hr
    have hn:QfI (rK xs)*QfI (rK xs)%p=rK xs*rK xs%p:=by
      rw [QhG,modL,modR]; exact QdF (by grind)
    split
    · exact Qlq (hn.trans hs)
    · exact Qlq hs
  · rw [if_neg h,if_neg h]; exact QhL
end Go.Proofs.YtdoadngmgmdlbaaDoor.Field
end
section
namespace Go.Proofs.YtdoadngmgmdlbaaDoor.Field
set_option maxHeartbeats 4000000
theorem QjW (d x y u v r s:Int):((x*v+y*u)*(1-(d*(x*u*(y*v))))*s+(y*v+x*u)*(1+(d*(x*u*(y*v))))*r)*((1+(d*(u*r*(v*s))))*(1-(d*(u*r*(v*s))))+d*((u*s+v*r)*x*((v*s+u*r)*y)))-((u*s+v*r)*(1-(d*(u*r*(v*s))))*y+(v*s+u*r)*(1+(d*(u*r*(v*s))))*x)*((1+(d*(x*u*(y*v))))*(1-(d*(x*u*(y*v))))+d*((x*v+y*u)*r*((y*v+x*u)*s))) =
    (-d^2*r^2*s*u^4*v^3*x+d^2*r^2*s*u^3*v^4*y+d^2*r*s^2*u^4*v^3*y-d^2*r*s^2*u^3*v^4*x-d*r^3*u^3*v^2*x-d*r^3*u^2*v^3*y-d*r^2*s*u^4*v*x-d*r^2*s*u*v^4*y+d*r*s^2*u^4*v*y+d*r*s^2*u*v^4*x-d*r*u^3*v^2*x-d*r*u^2*v^3*y+d*s^3*u^3*v^2*y+d*s^3*u^2*v^3*x-d*s*u^3*v^2*y-d*s*u^2*v^3*x)*(-(x*x)+y*y-1-d*(x*x*(y*y)))
    + (d^2*r^3*s^2*u^2*v*x^2*y+d^2*r^3*s^2*u*v^2*x*y^2-d^2*r^2*s^3*u^2*v*x*y^2-d^2*r^2*s^3*u*v^2*x^2*y+d*r^3*s^2*u*x^3-d*r^3*s^2*u*x*y^2+d*r^3*s^2*u*x+d*r^3*s^2*v*x^2*y-d*r^3*s^2*v*y^3+d*r^3*s^2*v*y+d*r^2*s^3*u*x^2*y-d*r^2*s^3*u*y^3+d*r^2*s^3*u*y+d*r^2*s^3*v*x^3-d*r^2*s^3*v*x*y^2+d*r^2*s^3*v*x+d*r^2*s*u^2*v*x^3-d*r^2*s*u^2*v*x*y^2+d*r^2*s*u^2*v*x-d*r^2*s*u*v^2*x^2*y+d*r^2*s*u*v^2*y^3-d*r^2*s*u*v^2*y-d*r*s^2*u^2*v*x^2*y+d*r*s^2*u^2*v*y^3-d*r*s^2*u^2*v*y+d*r*s^2*u*v^2*x^3-d*r*s^2*u*v^2*x*y^2+d*r*s^2*u*v^2*x+r^3*u*x^3-r^3*u*x*y^2+r^3*u*x+r^3*v*x^2*y-r^3*v*y^3+r^3*v*y+r^2*s*u*x^2*y-r^2*s*u*y^3+r^2*s*u*y+r^2*s*v*x^3-r^2*s*v*x*y^2+r^2*s*v*x-r*s^2*u*x^3+r*s^2*u*x*y^2-r*s^2*u*x-r*s^2*v*x^2*y+r*s^2*v*y^3-r*s^2*v*y+r*u*x^3-r*u*x*y^2+r*u*x+r*v*x^2*y-r*v*y^3+r*v*y-s^3*u*x^2*y+s^3*u*y^3-s^3*u*y-s^3*v*x^3+s^3*v*x*y^2-s^3*v*x+s*u*x^2*y-s*u*y^3+s*u*y+s*v*x^3-s*v*x*y^2+s*v*x)*(-(u*u)+v*v-1-d*(u*u*(v*v)))
    + (-d*r*u^2*v*x^2*y-d*r*u*v^2*x*y^2+d*s*u^2*v*x*y^2+d*s*u*v^2*x^2*y-r*u^3*x^3+r*u^3*x*y^2-r*u^3*x-r*u^2*v*x^2*y+r*u^2*v*y^3-r*u^2*v*y+r*u*v^2*x^3-r*u*v^2*x*y^2+r*u*v^2*x-r*u*x^3+r*u*x*y^2-r*u*x+r*v^3*x^2*y-r*v^3*y^3+r*v^3*y-r*v*x^2*y+r*v*y^3-r*v*y-s*u^3*x^2*y+s*u^3*y^3-s*u^3*y-s*u^2*v*x^3+s*u^2*v*x*y^2-s*u^2*v*x+s*u*v^2*x^2*y-s*u*v^2*y^3+s*u*v^2*y-s*u*x^2*y+s*u*y^3-s*u*y+s*v^3*x^3-s*v^3*x*y^2+s*v^3*x-s*v*x^3+s*v*x*y^2-s*v*x)*(-(r*r)+s*s-1-d*(r*r*(s*s))):=by grind
theorem QjV (d x y u v r s:Int):((y*v+x*u)*(1+(d*(x*u*(y*v))))*s+(x*v+y*u)*(1-(d*(x*u*(y*v))))*r)*((1+(d*(u*r*(v*s))))*(1-(d*(u*r*(v*s))))-d*((u*s+v*r)*x*((v*s+u*r)*y)))-((v*s+u*r)*(1+(d*(u*r*(v*s))))*y+(u*s+v*r)*(1-(d*(u*r*(v*s))))*x)*((1+(d*(x*u*(y*v))))*(1-(d*(x*u*(y*v))))-d*((x*v+y*u)*r*((y*v+x*u)*s))) =
    (-d^2*r^2*s*u^4*v^3*y+d^2*r^2*s*u^3*v^4*x+d^2*r*s^2*u^4*v^3*x-d^2*r*s^2*u^3*v^4*y-d*r^3*u^3*v^2*y-d*r^3*u^2*v^3*x-d*r^2*s*u^4*v*y-d*r^2*s*u*v^4*x+d*r*s^2*u^4*v*x+d*r*s^2*u*v^4*y-d*r*u^3*v^2*y-d*r*u^2*v^3*x+d*s^3*u^3*v^2*x+d*s^3*u^2*v^3*y-d*s*u^3*v^2*x-d*s*u^2*v^3*y)*(-(x*x)+y*y-1-d*(x*x*(y*y)))
    + (-d^2*r^3*s^2*u^2*v*x*y^2-d^2*r^3*s^2*u*v^2*x^2*y+d^2*r^2*s^3*u^2*v*x^2*y+d^2*r^2*s^3*u*v^2*x*y^2+d*r^3*s^2*u*x^2*y-d*r^3*s^2*u*y^3+d*r^3*s^2*u*y+d*r^3*s^2*v*x^3-d*r^3*s^2*v*x*y^2+d*r^3*s^2*v*x+d*r^2*s^3*u*x^3-d*r^2*s^3*u*x*y^2+d*r^2*s^3*u*x+d*r^2*s^3*v*x^2*y-d*r^2*s^3*v*y^3+d*r^2*s^3*v*y+d*r^2*s*u^2*v*x^2*y-d*r^2*s*u^2*v*y^3+d*r^2*s*u^2*v*y-d*r^2*s*u*v^2*x^3+d*r^2*s*u*v^2*x*y^2-d*r^2*s*u*v^2*x-d*r*s^2*u^2*v*x^3+d*r*s^2*u^2*v*x*y^2-d*r*s^2*u^2*v*x+d*r*s^2*u*v^2*x^2*y-d*r*s^2*u*v^2*y^3+d*r*s^2*u*v^2*y+r^3*u*x^2*y-r^3*u*y^3+r^3*u*y+r^3*v*x^3-r^3*v*x*y^2+r^3*v*x+r^2*s*u*x^3-r^2*s*u*x*y^2+r^2*s*u*x+r^2*s*v*x^2*y-r^2*s*v*y^3+r^2*s*v*y-r*s^2*u*x^2*y+r*s^2*u*y^3-r*s^2*u*y-r*s^2*v*x^3+r*s^2*v*x*y^2-r*s^2*v*x+r*u*x^2*y-r*u*y^3+r*u*y+r*v*x^3-r*v*x*y^2+r*v*x-s^3*u*x^3+s^3*u*x*y^2-s^3*u*x-s^3*v*x^2*y+s^3*v*y^3-s^3*v*y+s*u*x^3-s*u*x*y^2+s*u*x+s*v*x^2*y-s*v*y^3+s*v*y)*(-(u*u)+v*v-1-d*(u*u*(v*v)))
    + (d*r*u^2*v*x*y^2+d*r*u*v^2*x^2*y-d*s*u^2*v*x^2*y-d*s*u*v^2*x*y^2-r*u^3*x^2*y+r*u^3*y^3-r*u^3*y-r*u^2*v*x^3+r*u^2*v*x*y^2-r*u^2*v*x+r*u*v^2*x^2*y-r*u*v^2*y^3+r*u*v^2*y-r*u*x^2*y+r*u*y^3-r*u*y+r*v^3*x^3-r*v^3*x*y^2+r*v^3*x-r*v*x^3+r*v*x*y^2-r*v*x-s*u^3*x^3+s*u^3*x*y^2-s*u^3*x-s*u^2*v*x^2*y+s*u^2*v*y^3-s*u^2*v*y+s*u*v^2*x^3-s*u*v^2*x*y^2+s*u*v^2*x-s*u*x^3+s*u*x*y^2-s*u*x+s*v^3*x^2*y-s*v^3*y^3+s*v^3*y-s*v*x^2*y+s*v*y^3-s*v*y)*(-(r*r)+s*s-1-d*(r*r*(s*s))):=by grind
end Go.Proofs.YtdoadngmgmdlbaaDoor.Field
end
section
namespace Go.Proofs.YtdoadngmgmdlbaaDoor.Field
open Go Go.RowKit
open Rely Auto
set_option maxHeartbeats 4000000
theorem Qia (x y u v:Int):eps u v x y=eps x y u v:=by unfold eps; grind
theorem Qkb (x y u v:Int):aX u v x y=aX x y u v:=by
  unfold aX; rw [Qia,show u*y+v*x=x*v+y*u by grind]
theorem QjZ (x y u v:Int):aY u v x y=aY x y u v:=by
  unfold aY; rw [Qia,show v*y+u*x=y*v+x*u by grind]
theorem Qka (x y u v:Int):isN (aX x y u v):=Qa0 _
theorem QjY (x y u v:Int):isN (aY x y u v):=Qa0 _
theorem Ql2 {D i n X:Int} (hi:(D*i-1)%p=0) (hX:X=n*i%p):(D*X-n)%p=0:=by
  have h1:(X-n*i)%p=0:=QiT (by rw [hX,Int.emod_emod])
  exact zc2 hi h1 (c:=n) (d:=D) (by grind)
theorem Qc2 {x y u v:Int} (h1:onC x y) (h2:onC u v):((1+eps x y u v)*aX x y u v-(x*v+y*u))%p=0:=Ql2 (Qg8 (Qfh h1 h2)) rfl
theorem Qc1 {x y u v:Int} (h1:onC x y) (h2:onC u v):((1-eps x y u v)*aY x y u v-(y*v+x*u))%p=0:=Ql2 (Qg8 (Qfg h1 h2)) rfl
theorem Ql6 (d D1 D2 N1 N2 X Y r s Z:Int) (h1:(D1*X-N1)%p=0) (h2:(D2*Y-N2)%p=0) (h3:((1+d*(X*r*(Y*s)))*Z-(X*s+Y*r))%p=0) :
    ((D1*D2+d*(N1*r*(N2*s)))*Z-(N1*D2*s+N2*D1*r))%p=0:=by
  refine zc4 h1 h2 h3 (d:=0) rfl (k:=D2*s-d*r*s*Z*N2) (l:=D1*r-d*r*s*Z*(D1*X)) (m:=D1*D2) (n:=0) ?_
  grind
theorem Ql5 (d D1 D2 N1 N2 X Y r s Z:Int) (h1:(D1*X-N1)%p=0) (h2:(D2*Y-N2)%p=0) (h3:((1-d*(X*r*(Y*s)))*Z-(Y*s+X*r))%p=0) :
    ((D1*D2-d*(N1*r*(N2*s)))*Z-(N2*D1*s+N1*D2*r))%p=0:=by
  refine zc4 h1 h2 h3 (d:=0) rfl (k:=D2*r+d*r*s*Z*N2) (l:=D1*s+d*r*s*Z*(D1*X)) (m:=D1*D2) (n:=0) ?_
  grind
theorem QjN (d D1 D2 N1 N2 X Y r s:Int) (h1:(D1*X-N1)%p=0) (h2:(D2*Y-N2)%p=0) (hd1:D1%p≠0) (hd2:D2%p≠0) (h3:(1+d*(X*r*(Y*s)))%p≠0) :
    (D1*D2+d*(N1*r*(N2*s)))%p≠0:=fun h=>by
  have e:(D1*D2*(1+d*(X*r*(Y*s))))%p=0:=by
    refine zc4 h h1 h2 (d:=0) rfl (k:=1) (l:=d*r*s*(D2*Y)) (m:=d*r*s*N1) (n:=0) ?_
    grind
  exact QcN (QcN hd1 hd2) h3 e
theorem cross {DL NL DM NM X Y:Int} (h1:(DL*X-NL)%p=0) (h2:(DM*Y-NM)%p=0) (hG:(NL*DM-NM*DL)%p=0) (hd1:DL%p≠0) (hd2:DM%p≠0):X%p=Y%p:=by
  have e:(DL*DM*(X-Y))%p=0:=by
    refine zc4 h1 h2 hG (d:=0) rfl (k:=DM) (l:=-DL) (m:=1) (n:=0) ?_
    grind
  exact Qf4 ((Qf5 e).resolve_left (QcN hd1 hd2))
theorem QnJ {x y u v r s:Int} (h1:onC x y) (h2:onC u v) (h3:onC r s):aX (aX x y u v) (aY x y u v) r s=aX x y (aX u v r s) (aY u v r s):=by
  rw [←Qkb x y (aX u v r s)]
  have a:=Qc2 (closed h1 h2) h3
  have b:=Qc2 (closed h2 h3) h1
  have cl:=Ql6 dN _ _ _ _ _ _ r s _ (Qc2 h1 h2) (Qc1 h1 h2) a
  have cm:=Ql6 dN _ _ _ _ _ _ x y _ (Qc2 h2 h3) (Qc1 h2 h3) b
  have dl:=QjN dN _ _ _ _ _ _ r s (Qc2 h1 h2) (Qc1 h1 h2) (Qfh h1 h2) (Qfg h1 h2) (Qfh (closed h1 h2) h3)
  have dm:=QjN dN _ _ _ _ _ _ x y (Qc2 h2 h3) (Qc1 h2 h3) (Qfh h2 h3) (Qfg h2 h3) (Qfh (closed h2 h3) h1)
  have:=cross cl cm (zc4 h1 h2 h3 (d:=0) rfl (n:=0) ((QjW dN x y u v r s).trans (by rw [Int.mul_zero,Int.add_zero]; rfl))) dl dm
  rwa [QaR (Qka ..),QaR (Qka ..)] at this
theorem QjM (d D1 D2 N1 N2 X Y r s:Int) (h1:(D1*X-N1)%p=0) (h2:(D2*Y-N2)%p=0) (hd1:D1%p≠0) (hd2:D2%p≠0) (h3:(1-d*(X*r*(Y*s)))%p≠0) :
    (D1*D2-d*(N1*r*(N2*s)))%p≠0:=fun h=>by
  refine QjN (-d) D1 D2 N1 N2 X Y r s h1 h2 hd1 hd2 (fun h'=>h3 ?_) ?_
  · rw [←h']; exact QdF (by grind)
  · rw [←h]; exact QdF (by grind)
theorem QnI {x y u v r s:Int} (h1:onC x y) (h2:onC u v) (h3:onC r s):aY (aX x y u v) (aY x y u v) r s=aY x y (aX u v r s) (aY u v r s):=by
  rw [←QjZ x y (aX u v r s)]
  have a:=Qc1 (closed h1 h2) h3
  have b:=Qc1 (closed h2 h3) h1
  have cl:=Ql5 dN _ _ _ _ _ _ r s _ (Qc2 h1 h2) (Qc1 h1 h2) a
  have cm:=Ql5 dN _ _ _ _ _ _ x y _ (Qc2 h2 h3) (Qc1 h2 h3) b
  have dl:=QjM dN _ _ _ _ _ _ r s (Qc2 h1 h2) (Qc1 h1 h2) (Qfh h1 h2) (Qfg h1 h2) (Qfg (closed h1 h2) h3)
  have dm:=QjM dN _ _ _ _ _ _ x y (Qc2 h2 h3) (Qc1 h2 h3) (Qfh h2 h3) (Qfg h2 h3) (Qfg (closed h2 h3) h1)
  have:=cross cl cm (zc4 h1 h2 h3 (d:=0) rfl (n:=0) ((QjV dN x y u v r s).trans (by rw [Int.mul_zero,Int.add_zero]; rfl))) dl dm
  rwa [QaR (QjY ..),QaR (QjY ..)] at this
structure OnP (P : Int × Int) : Prop where
  x:isN P.1
  y:isN P.2
  c:onC P.1 P.2
def pAdd (P Q:Int×Int):Int×Int:=(aX P.1 P.2 Q.1 Q.2,aY P.1 P.2 Q.1 Q.2)
def pNeg (P : Int×Int):Int×Int:=((0-P.1)%p,P.2)
def Qc0 : Int×Int:=(0,1)
theorem Qdw : OnP Qc0:=⟨Qb7 0,Qb7 1,QhL⟩
theorem pAdd_on {P Q:Int×Int} (h:OnP P) (k:OnP Q):OnP (pAdd P Q):=⟨Qa0 _,Qa0 _,closed h.c k.c⟩
theorem pAdd_comm (P Q:Int×Int):pAdd P Q=pAdd Q P:=Prod.ext (Qkb ..) (QjZ ..)
theorem pAdd_assoc {P Q R:Int×Int} (h:OnP P) (k:OnP Q) (l:OnP R):pAdd (pAdd P Q) R=pAdd P (pAdd Q R):=Prod.ext (QnJ h.c k.c l.c) (QnI h.c k.c l.c)
theorem pAdd_zero {P : Int×Int} (h:OnP P):pAdd P Qc0=P:=by
  have e:eps P.1 P.2 0 1=0:=by unfold eps; grind
  refine Prod.ext ?_ ?_
  · show (P.1*1+P.2*0)*invN ((1+eps P.1 P.2 0 1)%p)%p=P.1
    rw [e,show (1+0:Int)%p=1 from rfl,Int.mul_zero,Int.add_zero,Int.mul_one,QeV h.x]
  · show (P.2*1+P.1*0)*invN ((1-eps P.1 P.2 0 1)%p)%p=P.2
    rw [e,show (1-0:Int)%p=1 from rfl,Int.mul_zero,Int.add_zero,Int.mul_one,QeV h.y]
theorem pNeg_on {P : Int×Int} (h:OnP P):OnP (pNeg P):=by
  refine ⟨Qa0 _,h.y,?_⟩
  have e:((0-P.1)%p-(0-P.1))%p=0:=by rw [subL,Int.sub_self]; rfl
  refine zc2 h.c e (c:=1) (d:=-((0-P.1)%p+(0-P.1))-dN*(P.2*P.2)*((0-P.1)%p+(0-P.1))) ?_
  show cv ((0-P.1)%p) P.2=_
  unfold cv
  generalize (0-P.1)%p=q
  grind
theorem QkB {D X n:Int} (hD:D%p≠0) (h:(D*X-n)%p=0) (e:(n-D*1)%p=0):X%p=1%p:=by
  have:(D*(X-1))%p=0:=zc2 h e (c:=1) (d:=1) (by grind)
  exact Qf4 ((Qf5 this).resolve_left hD)
theorem Qmt {x y q:Int} (h:onC x y) (hn:onC q y) (e:(q-(0-x))%p=0):aX x y q y=0∧aY x y q y=1:=by
  have fx:=Qc2 h hn
  have fy:=Qc1 h hn
  have hX:=QaR (Qka x y q y)
  have hY:=QaR (QjY x y q y)
  have hc:=h
  unfold onC cv at hc
  have d1:=Qfh h hn
  have d2:=Qfg h hn
  generalize aX x y q y=X at *
  generalize aY x y q y=Y at *
  constructor
  · have:X%p=0:=by
      refine (Qf5 (a:=1+eps x y q y) ?_).resolve_left d1
      exact zc2 fx e (c:=1) (d:=y) (by grind)
    rwa [hX] at this
  · have:=QkB d2 fy (by
      refine zc2 hc e (c:=1) (d:=x+dN*(x*(y*y))) ?_
      unfold eps
      grind)
    rwa [hY] at this
theorem pAdd_neg {P : Int×Int} (h:OnP P):pAdd P (pNeg P)=Qc0:=by
  have e:((0-P.1)%p-(0-P.1))%p=0:=by rw [subL,Int.sub_self]; rfl
  have r:=Qmt h.c (pNeg_on h).c e
  exact Prod.ext r.1 r.2
def nmul : Nat→Int×Int→Int×Int
  | 0,_=>Qc0
  | n+1,P=>pAdd (nmul n P) P
theorem nmul_on {P : Int×Int} (h:OnP P):∀ n,OnP (nmul n P)
  | 0=>Qdw
  | n+1=>pAdd_on (nmul_on h n) h
theorem nmul_add {P : Int×Int} (h:OnP P) (m:Nat):∀ n,nmul (m+n) P=pAdd (nmul m P) (nmul n P)
  | 0=>(pAdd_zero (nmul_on h m)).symm
  | n+1=>by
    show pAdd (nmul (m+n) P) P=pAdd (nmul m P) (pAdd (nmul n P) P)
    rw [nmul_add h m n,pAdd_assoc (nmul_on h m) (nmul_on h n) h]
theorem Qg3 : ∀ n,nmul n Qc0=Qc0
  | 0=>rfl
  | n+1=>by
    show pAdd (nmul n Qc0) Qc0=Qc0
    rw [Qg3 n,pAdd_zero Qdw]
theorem nmul_mul {P : Int×Int} (h:OnP P) (m:Nat):∀ n,nmul (n*m) P=nmul n (nmul m P)
  | 0=>by rw [Nat.zero_mul]; rfl
  | n+1=>by
    rw [Nat.succ_mul,nmul_add h,nmul_mul h m n]
    rfl
theorem nmul_mod {P : Int×Int} (h:OnP P) (L:Nat) (hL:nmul L P=Qc0) (n:Nat):nmul (n%L) P=nmul n P:=by
  have e:=Nat.div_add_mod n L
  have:nmul n P=pAdd (nmul (L*(n/L)) P) (nmul (n%L) P):=by rw [←nmul_add h,e]
  rw [this,Nat.mul_comm,nmul_mul h,hL,Qg3,pAdd_comm,pAdd_zero (nmul_on h _)]
def Qd6 (P : Int×Int) (bs:List Bool):Int×Int:=bs.foldl (fun A b=>if b then pAdd (pAdd A A) P else pAdd A A) Qc0
theorem Qfy {P : Int×Int} (h:OnP P):∀ (bs:List Bool) (n:Nat),bs.foldl (fun A b=>if b then pAdd (pAdd A A) P else pAdd A A) (nmul n P)=nmul (bs.foldl (fun n b=>2*n+if b then 1 else 0) n) P
  | [],n=>rfl
  | b::bs,n=>by
    have e:(if b then pAdd (pAdd (nmul n P) (nmul n P)) P else pAdd (nmul n P) (nmul n P))=nmul (2*n+if b then 1 else 0) P:=by
      rw [←nmul_add h,Nat.two_mul]
      cases b
      · simp
      · simp only [if_true]; rfl
    rw [List.foldl_cons,e,Qfy h bs,List.foldl_cons]
theorem QgK {P : Int×Int} (h:OnP P) (bs:List Bool):Qd6 P bs=nmul (bval bs) P:=Qfy h bs 0
theorem Qej {P : Int×Int} (h:OnP P) (bs:List Bool):OnP (Qd6 P bs):=by rw [QgK h]; exact nmul_on h _
end Go.Proofs.YtdoadngmgmdlbaaDoor.Field
end
section
namespace Go.Proofs.YtdoadngmgmdlbaaDoor.Field
open Go Go.RowKit
open Rely Auto
abbrev W4 := Int × Int × Int × Int
abbrev W3 := Int × Int × Int
def wad (A B:W4):W4:=Qcq A.1 A.2.1 A.2.2.1 A.2.2.2 B.1 B.2.1 B.2.2.1 B.2.2.2 dN
def isW4 (A : W4):Prop:=isN A.1∧isN A.2.1∧isN A.2.2.1∧isN A.2.2.2
theorem Qgf {A B:W4} (h:isW4 A) (k:isW4 B):isW4 (wad A B):=QdS _ _ _ _ _ _ _ _ _ h.1 h.2.1 h.2.2.1 h.2.2.2 k.1 k.2.1 k.2.2.1 k.2.2.2 Qe4
abbrev w4 (A : W4) : Value := .agg (cat [numA A.1, numA A.2.1, numA A.2.2.1, numA A.2.2.2])
abbrev w3 (A : W3) : Value := .agg (cat [ints .i64 (lims A.1), ints .i64 (lims A.2.1), ints .i64 (lims A.2.2)])
theorem wadC {A B:W4} (h:isW4 A) (k:isW4 B) (w:World):Calls Tryd.prog 47 #[w4 A,w4 B,.agg (numA dN)] w (Ret w (w4 (wad A B))) :=
  QmX _ _ _ _ _ _ _ _ _ h.1 h.2.1 h.2.2.1 h.2.2.2 k.1 k.2.1 k.2.2.1 k.2.2.2 Qe4 w
def wrung (E A:W4) (b:Bool):W4:=if b then wad (wad A A) E else wad A A
def wrun (E Z:W4) (bs:List Bool):W4:=bs.foldl (wrung E) Z
theorem QiK (E Z:W4) (bs:List Bool) (b:Bool):wrun E Z (bs++[b])=wrung E (wrun E Z bs) b:=by simp [wrun]
theorem Qf6 {E : W4} (hE:isW4 E):∀ (bs:List Bool) {Z:W4},isW4 Z→isW4 (wrun E Z bs)
  | [],_,h=>h
  | true::bs,_,h=>Qf6 hE bs (Qgf (Qgf h h) hE)
  | false::bs,_,h=>Qf6 hE bs (Qgf h h)
abbrev wE (x l : Int) : W4 := Qcp x l
theorem QmZ {x l:Int} (h:isN x) (k:isN l):isW4 (wE x l):=Qa2 x l h k
theorem QlU (x lx:Int) (h_x:isN x) (h_lx:isN lx) (ks:List Int) (hk:ks.length=32) (hkb:Qak ks) (w:World) (tB:TypeId) (hB:w.heap[2]? = some (.cells (ints .u8 Qbq) tB)) :
    Calls Tryd.prog 21 #[.agg (cat [numA x,numA lx]),.agg (ints .u8 ks)] w (Ret w (.agg (cat [numA ((QdZ (wrun (wE x lx) (wE 0 0) (QaH ks)).1 (wrun (wE x lx) (wE 0 0) (QaH ks)).2.1 (wrun (wE x lx) (wE 0 0) (QaH ks)).2.2.1 (wrun (wE x lx) (wE 0 0) (QaH ks)).2.2.2).1),numA ((QdZ (wrun (wE x lx) (wE 0 0) (QaH ks)).1 (wrun (wE x lx) (wE 0 0) (QaH ks)).2.1 (wrun (wE x lx) (wE 0 0) (QaH ks)).2.2.1 (wrun (wE x lx) (wE 0 0) (QaH ks)).2.2.2).2)]))):=by
  have hE:=QmZ h_x h_lx
  have hZ:=QmZ (Qb7 0) (Qb7 0)
  refine QjI 30 [(0,.agg (cat [numA (x),numA (lx)])),(1,.agg (ints .u8 (ks)))] Tryd.func21 rfl rfl kj rfl ?_
  refine wp_seq_k fun K2 hK2=>?_
  refine Qad ?_
  refine Qaj (cat [numA (x),numA (lx)]) 51 2 rfl kj kj fun g3 W1 l3 e1 r3_1=>?_
  have x1:Ext w W1:=Ext.tr (Rely.Ext.refl w) e1
  have b3:w.heap.size≤g3:=qT (Rely.Ext.refl w).size l3
  refine Qaj (ints .u8 (ks)) 23 3 rfl kj kj fun g4 W2 l4 e2 r4_2=>?_
  have x2:Ext w W2:=Ext.tr x1 e2
  have b4:w.heap.size≤g4:=qT x1.size l4
  refine Qaj (cat [numA (0),numA (0)]) 51 4 rfl kj kj fun g5 W3 l5 e3 r5_3=>?_
  have x3:Ext w W3:=Ext.tr x2 e3
  have b5:w.heap.size≤g5:=qT x2.size l5
  refine Qag ?_
  refine hK2 _ _ ?_
  refine wp_seq_k fun K6 hK6=>?_
  refine Qad ?_
  have r1_3:=(Qaa (Qaa (Qaa hB e1) e2) e3)
  refine Qab (.agg (ints .u8 (Qbq))) 9 rfl kj (Qae 23 _ 2 tB _ _ r1_3 rfl kj kj (isz (n:=32) kj ((Qaf _ _).trans (by decide)))) ?_
  refine Qar (.agg (numA (dN))) 44 #[.agg (ints .u8 (Qbq))] 10 rfl kj kj (QeZ _) fun W4 e4=>?_
  have x4:Ext w W4:=Ext.tr x3 e4
  refine Qaj (numA (0)) 49 5 rfl kj kj fun g7 W5 l7 e5 r7_5=>?_
  have x5:Ext w W5:=Ext.tr x4 e5
  have b7:w.heap.size≤g7:=qT x4.size l7
  refine Qal g7 _ (numA (dN)) 49 r7_5 rfl kj (Qai 49 _ _ g7 49 _ _ r7_5 rfl kj kj (isz (n:=4) kj kj) (eqsz (n:=4) kj kj) kj) fun W6 p6 r7_6=>?_
  have x6:Ext w W6:=Puts.ext p6 x5 b7
  refine Qag ?_
  refine hK6 _ _ ?_
  refine wp_seq_k fun K8 hK8=>?_
  refine Qbc 6 [⟨none,[]⟩,⟨none,[(11,some 0)]⟩,⟨none,[(2,none)]⟩,⟨none,[(13,some 2)]⟩,⟨none,[]⟩,⟨none,[]⟩] [4,5] kj kj kj fun F hF=>?_
  refine Qav (.agg (cat [numA (0),numA (0)])) kj kj (fun W=>kj) ?_
  refine Qaq (.agg (cat [numA ((wE 0 0).1),numA ((wE 0 0).2.1),numA ((wE 0 0).2.2.1),numA ((wE 0 0).2.2.2)])) 45 #[.agg (cat [numA (0),numA (0)])] kj kj (fun W=>kj) (fun W hR=>(QhC 0 0 (Qb7 0) (Qb7 0)) W) ?_
  have r3_4:=(Qaa (Qaa (Qaa r3_1 e2) e3) e4)
  have r3_6:=(Puts.row p6 (Qaa (Qaa (Qaa (Qaa r3_1 e2) e3) e4) e5) (Qac r3_4 l7))
  refine Qam (.agg (cat [numA (x),numA (lx)])) kj kj (fun W hR=>(Qae 51 _ g3 51 _ _ (Qaa (Qaa r3_6 (Qah _)) hR) rfl kj kj (isz (n:=8) kj kj))) ?_
  refine Qaq (.agg (cat [numA ((wE x lx).1),numA ((wE x lx).2.1),numA ((wE x lx).2.2.1),numA ((wE x lx).2.2.2)])) 45 #[.agg (cat [numA (x),numA (lx)])] kj kj (fun W=>kj) (fun W hR=>(QhC x lx h_x h_lx) W) ?_
  refine QbI (cat [numA (0),numA (0),numA (0),numA (0)]) 78 kj (qR _) kj (fun W=>kj) ?_
  refine QbI (cat [numA (0),numA (0),numA (0),numA (0)]) 78 kj (qR _) kj (fun W=>kj) ?_
  refine Qa3 (hF _ kj fun W7 e7=>?_)
  simp only [fins,up,List.take_succ_cons,List.take_zero,List.drop_succ_cons,List.drop_zero,List.nil_append,List.cons_append]
  intro g9 l9 r9_7 n9 g10 l10 r10_7 n10
  have b9:w.heap.size≤g9:=qT x6.size l9
  have b10:w.heap.size≤g10:=qT x6.size l10
  have n10_9:g10≠g9:=n10 _ (by simp)
  clear hF
  have x7:Ext w W7:=Ext.tr x6 e7
  refine Qal g9 _ (cat [numA ((wE 0 0).1),numA ((wE 0 0).2.1),numA ((wE 0 0).2.2.1),numA ((wE 0 0).2.2.2)]) 78 r9_7 rfl kj (Qai 78 _ _ g9 78 _ _ r9_7 rfl kj kj (isz (n:=16) kj kj) (eqsz (n:=16) kj kj) kj) fun W8 p8 r9_8=>?_
  have x8:Ext w W8:=Puts.ext p8 x7 b9
  have r10_8:=(Puts.row p8 r10_7 n10_9)
  refine Qal g10 _ (cat [numA ((wE x lx).1),numA ((wE x lx).2.1),numA ((wE x lx).2.2.1),numA ((wE x lx).2.2.2)]) 78 r10_8 rfl kj (Qai 78 _ _ g10 78 _ _ r10_8 rfl kj kj (isz (n:=16) kj kj) (eqsz (n:=16) kj kj) kj) fun W9 p9 r10_9=>?_
  have x9:Ext w W9:=Puts.ext p9 x8 b10
  refine Qag ?_
  refine hK8 _ _ ?_
  refine wp_seq_k fun K11 hK11=>?_
  refine wp_seq_k fun K12 hK12=>?_
  refine Qad ?_
  have r4_4:=(Qaa (Qaa r4_2 e3) e4)
  have r4_6:=(Puts.row p6 (Qaa r4_4 e5) (Qac r4_4 l7))
  have r4_9:=(Puts.row p9 (Puts.row p8 (Qaa (Puts.row p6 (Qaa (Qaa (Qaa r4_2 e3) e4) e5) (Qac r4_4 l7)) e7) (Qac r4_6 l9)) (Qac r4_6 l10))
  refine Qab (.agg (ints .u8 (ks))) 15 rfl kj (Qae 23 _ g4 23 _ _ r4_9 rfl kj kj (isz (n:=32) kj ((Qaf _ _).trans hk))) ?_
  refine Qcd (fun v W'=>Ext W9 W'∧∃ kb,W9.heap.size≤kb∧v=.func (.func 82) #[] #[.pointer (some ⟨kb,0,none⟩)]∧W'.heap[kb]? = some (.cells (ints .u8 ks) 23)) 46 #[.agg (ints .u8 ks)] 16 rfl kj kj (Qfz _ _) fun v W10 h=>?_
  obtain ⟨e10,kb,lk,rfl,r13_10⟩:=h
  have x10:Ext w W10:=Ext.tr x9 e10
  refine Qag ?_
  refine hK12 _ _ ?_
  refine wp_block ?_
  have r9_10:=(Qaa (Puts.row p9 r9_8 (Ne.symm n10_9)) e10)
  have r10_10:=(Qaa r10_9 e10)
  have r7_10:=(Qaa (Puts.row p9 (Puts.row p8 (Qaa r7_6 e7) (Qac r7_6 l9)) (Qac r7_6 l10)) e10)
  have r5_4:=(Qaa r5_3 e4)
  have r5_6:=(Puts.row p6 (Qaa r5_4 e5) (Qac r5_4 l7))
  have r5_10:=(Qaa (Puts.row p9 (Puts.row p8 (Qaa (Puts.row p6 (Qaa (Qaa r5_3 e4) e5) (Qac r5_4 l7)) e7) (Qac r5_6 l9)) (Qac r5_6 l10)) e10)
  have n_ge_gs:g10≠g9:=n10_9
  have n_gd_gs:g7≠g9:=(Qac r7_6 l9)
  have n_gr_gs:g5≠g9:=(Qac r5_6 l9)
  have r9_9:=(Puts.row p9 r9_8 (Ne.symm n10_9))
  have n_kb_gs:kb≠g9:=(Qat r9_9 lk)
  refine Qeq (gf:=82) (lb:=#[.pointer (some ⟨kb,0,none⟩)]) (enc:=encB) kj (enters_of Tryd.func82 kj rfl) (Qe5 _ (by omega) kb ks hk hkb W10 r13_10) (fun h k=>Same.trans' h k) (Qgl (Qa6 r13_10)) (Below.refl _ _)
      (fun pre W=>(W.heap[g9]? = some (.cells (cat [numA ((wrun (wE x lx) (wE 0 0) pre).1),numA ((wrun (wE x lx) (wE 0 0) pre).2.1),numA ((wrun (wE x lx) (wE 0 0) pre).2.2.1),numA ((wrun (wE x lx) (wE 0 0) pre).2.2.2)]) 78)∧W.heap[g10]? = some (.cells (cat [numA ((wE x lx).1),numA ((wE x lx).2.1),numA ((wE x lx).2.2.1),numA ((wE x lx).2.2.2)]) 78)∧W.heap[g7]? = some (.cells (numA dN) 49)∧W.heap[g5]? = some (.cells (cat [numA (0),numA (0)]) 51)∧W.heap[kb]? = some (.cells (ints .u8 ks) 23))∧Ext w W)
      (fun _ _ _=>False) (OwnFrom.and (Own.from (fun s A B row hs hg hr=>⟨Qbg hs.1 hg hr,Qbg hs.2.1 hg hr,Qbg hs.2.2.1 hg hr,Qbg hs.2.2.2.1 hg hr,Qbg hs.2.2.2.2 hg hr⟩) _) (ownFrom_below (qR _) x10.size)) (fun _ _ _ _ _ h _ _=>h) ⟨⟨r9_10,r10_10,r7_10,r5_10,r13_10⟩,x10⟩ (fun x=>[(8,encB x),(17,encB x)]) (fun l x W K hK=>?_) (fun l pre bt W hI hp=>?_) (fun D ys W lD hS hI rD=>?_) (fun _ _ _ _ _ _ h _=>h.elim)
  · refine QaD ?_
    refine QaW (encB x) 8 rfl (Qau l 1 _) rfl kj kj ?_
    refine Qcj ?_
    exact hK
  · obtain ⟨⟨rs,re,rd,rr,rk⟩,xx⟩:=hI
    have hS0:=QiK (wE x lx) (wE 0 0) pre bt
    have hL:=Qf6 hE pre (Z:=wE 0 0) hZ
    generalize wrun (wE x lx) (wE 0 0) pre=s at hS0 hL rs
    cases bt
    · have hn2:=Qgf hL hL
      have cs:=fun W=>wadC hL hL W
      generalize hn:wad s s=n at cs hn2
      have hS:wrun (wE x lx) (wE 0 0) (pre++[false])=n:=by
        rw [hS0]
        simp only [wrung,hn,Bool.false_eq_true,if_false]
      clear hS0 hn
      have ls:=b9
      refine wpIn_block ?_
      refine wpIn_seq_k fun K106 hK106=>?_
      refine QaD ?_
      refine QaW (.agg (cat [numA (s.1),numA (s.2.1),numA (s.2.2.1),numA (s.2.2.2)])) 18 rfl (Qau l 1 _) rfl kj (Qae 78 _ g9 78 _ _ rs rfl kj kj (isz (n:=16) kj kj)) ?_
      refine QaW (.agg (cat [numA (s.1),numA (s.2.1),numA (s.2.2.1),numA (s.2.2.2)])) 19 rfl (Qau l 1 _) rfl kj (Qae 78 _ g9 78 _ _ rs rfl kj kj (isz (n:=16) kj kj)) ?_
      refine QaW (.agg (numA (dN))) 20 rfl (Qau l 1 _) rfl kj (Qae 49 _ g7 49 _ _ rd rfl kj kj (isz (n:=4) kj kj)) ?_
      refine QcW (.agg (cat [numA ((n).1),numA ((n).2.1),numA ((n).2.2.1),numA ((n).2.2.2)])) 47 #[.agg (cat [numA (s.1),numA (s.2.1),numA (s.2.2.1),numA (s.2.2.2)]),.agg (cat [numA (s.1),numA (s.2.1),numA (s.2.2.1),numA (s.2.2.2)]),.agg (numA (dN))] 21 rfl (Qau l 1 _) rfl kj kj (cs _) fun W1 e1=>?_
      have x1:Ext w W1:=Ext.tr xx e1
      have r102_1:=(Qaa rs e1)
      refine Qcw g9 _ (cat [numA ((n).1),numA ((n).2.1),numA ((n).2.2.1),numA ((n).2.2.2)]) 78 r102_1 rfl (Qau l 1 _) rfl kj (Qai 78 _ _ g9 78 _ _ r102_1 rfl kj kj (isz (n:=16) kj kj) (eqsz (n:=16) kj kj) kj) fun W2 p2 r102_2=>?_
      have x2:Ext w W2:=Puts.ext p2 x1 ls
      refine Qcj ?_
      refine hK106 _ _ ?_
      refine wpIn_seq_k fun K107 hK107=>?_
      refine QaD ?_
      refine QaW (.int .i64 0) 22 rfl (Qau l 1 _) rfl kj kj ?_
      refine QaW (.bool false) 23 rfl (Qau l 1 _) rfl kj kj ?_
      refine Qcj ?_
      refine hK107 _ _ ?_
      refine QcV kj ?_
      refine wpIn_skip ?_
      have r101_2:=(Puts.row p2 (Qaa re e1) n_ge_gs)
      have r103_2:=(Puts.row p2 (Qaa rd e1) n_gd_gs)
      have r104_2:=(Puts.row p2 (Qaa rr e1) n_gr_gs)
      have r105_2:=(Puts.row p2 (Qaa rk e1) n_kb_gs)
      exact ⟨((Qb2 e1).trans (QbF p2 r102_1)),r105_2.trans rk.symm,⟨by rw [hS]; exact r102_2,r101_2,r103_2,r104_2,r105_2⟩,x2⟩
    · have hn2:=Qgf hL hL
      have cs:=fun W=>wadC hL hL W
      generalize hn:wad s s=n at cs hn2
      have ct:=fun W=>wadC (A:=n) (B:=wE x lx) hn2 hE W
      generalize hm:wad n (wE x lx)=m at ct
      have hS:wrun (wE x lx) (wE 0 0) (pre++[true])=m:=by
        rw [hS0]
        simp only [wrung,hn,if_true,hm]
      clear hS0 hn hm
      have ls:=b9
      refine wpIn_block ?_
      refine wpIn_seq_k fun K106 hK106=>?_
      refine QaD ?_
      refine QaW (.agg (cat [numA (s.1),numA (s.2.1),numA (s.2.2.1),numA (s.2.2.2)])) 18 rfl (Qau l 1 _) rfl kj (Qae 78 _ g9 78 _ _ rs rfl kj kj (isz (n:=16) kj kj)) ?_
      refine QaW (.agg (cat [numA (s.1),numA (s.2.1),numA (s.2.2.1),numA (s.2.2.2)])) 19 rfl (Qau l 1 _) rfl kj (Qae 78 _ g9 78 _ _ rs rfl kj kj (isz (n:=16) kj kj)) ?_
      refine QaW (.agg (numA (dN))) 20 rfl (Qau l 1 _) rfl kj (Qae 49 _ g7 49 _ _ rd rfl kj kj (isz (n:=4) kj kj)) ?_
      refine QcW (.agg (cat [numA ((n).1),numA ((n).2.1),numA ((n).2.2.1),numA ((n).2.2.2)])) 47 #[.agg (cat [numA (s.1),numA (s.2.1),numA (s.2.2.1),numA (s.2.2.2)]),.agg (cat [numA (s.1),numA (s.2.1),numA (s.2.2.1),numA (s.2.2.2)]),.agg (numA (dN))] 21 rfl (Qau l 1 _) rfl kj kj (cs _) fun W1 e1=>?_
      have x1:Ext w W1:=Ext.tr xx e1
      have r102_1:=(Qaa rs e1)
      refine Qcw g9 _ (cat [numA ((n).1),numA ((n).2.1),numA ((n).2.2.1),numA ((n).2.2.2)]) 78 r102_1 rfl (Qau l 1 _) rfl kj (Qai 78 _ _ g9 78 _ _ r102_1 rfl kj kj (isz (n:=16) kj kj) (eqsz (n:=16) kj kj) kj) fun W2 p2 r102_2=>?_
      have x2:Ext w W2:=Puts.ext p2 x1 ls
      refine Qcj ?_
      refine hK106 _ _ ?_
      refine wpIn_seq_k fun K107 hK107=>?_
      refine QaD ?_
      refine QaW (.int .i64 1) 22 rfl (Qau l 1 _) rfl kj kj ?_
      refine QaW (.bool true) 23 rfl (Qau l 1 _) rfl kj kj ?_
      refine Qcj ?_
      refine hK107 _ _ ?_
      refine Qdl kj ?_
      refine QaD ?_
      refine QaW (.agg (cat [numA ((n).1),numA ((n).2.1),numA ((n).2.2.1),numA ((n).2.2.2)])) 24 rfl (Qau l 1 _) rfl kj (Qae 78 _ g9 78 _ _ r102_2 rfl kj kj (isz (n:=16) kj kj)) ?_
      have r101_2:=(Puts.row p2 (Qaa re e1) n_ge_gs)
      refine QaW (.agg (cat [numA ((wE x lx).1),numA ((wE x lx).2.1),numA ((wE x lx).2.2.1),numA ((wE x lx).2.2.2)])) 25 rfl (Qau l 1 _) rfl kj (Qae 78 _ g10 78 _ _ r101_2 rfl kj kj (isz (n:=16) kj kj)) ?_
      have r103_2:=(Puts.row p2 (Qaa rd e1) n_gd_gs)
      refine QaW (.agg (numA (dN))) 26 rfl (Qau l 1 _) rfl kj (Qae 49 _ g7 49 _ _ r103_2 rfl kj kj (isz (n:=4) kj kj)) ?_
      refine QcW (.agg (cat [numA ((m).1),numA ((m).2.1),numA ((m).2.2.1),numA ((m).2.2.2)])) 47 #[.agg (cat [numA ((n).1),numA ((n).2.1),numA ((n).2.2.1),numA ((n).2.2.2)]),.agg (cat [numA ((wE x lx).1),numA ((wE x lx).2.1),numA ((wE x lx).2.2.1),numA ((wE x lx).2.2.2)]),.agg (numA (dN))] 27 rfl (Qau l 1 _) rfl kj kj (ct _) fun W3 e3=>?_
      have x3:Ext w W3:=Ext.tr x2 e3
      have r102_3:=(Qaa r102_2 e3)
      refine Qcw g9 _ (cat [numA ((m).1),numA ((m).2.1),numA ((m).2.2.1),numA ((m).2.2.2)]) 78 r102_3 rfl (Qau l 1 _) rfl kj (Qai 78 _ _ g9 78 _ _ r102_3 rfl kj kj (isz (n:=16) kj kj) (eqsz (n:=16) kj kj) kj) fun W4 p4 r102_4=>?_
      have x4:Ext w W4:=Puts.ext p4 x3 ls
      refine Qcj ?_
      have r101_4:=(Puts.row p4 (Qaa r101_2 e3) n_ge_gs)
      have r103_4:=(Puts.row p4 (Qaa r103_2 e3) n_gd_gs)
      have r104_4:=(Puts.row p4 (Qaa (Puts.row p2 (Qaa rr e1) n_gr_gs) e3) n_gr_gs)
      have r105_4:=(Puts.row p4 (Qaa (Puts.row p2 (Qaa rk e1) n_kb_gs) e3) n_kb_gs)
      exact ⟨((((Qb2 e1).trans (QbF p2 r102_1)).trans (Qb2 e3)).trans (QbF p4 r102_3)),r105_4.trans rk.symm,⟨by rw [hS]; exact r102_4,r101_4,r103_4,r104_4,r105_4⟩,x4⟩
  obtain ⟨⟨rs,re,rd,rr,rk⟩,xx⟩:=hI
  subst hS
  have hR:=Qf6 hE (QaH ks) (Z:=wE 0 0) hZ
  have bD:w.heap.size≤D:=qT x10.size lD
  refine hK11 _ _ ?_
  refine wp_seq_k fun K15 hK15=>?_
  refine Qad ?_
  refine Qab (.agg (cat [numA ((wrun (wE x lx) (wE 0 0) (QaH ks)).1),numA ((wrun (wE x lx) (wE 0 0) (QaH ks)).2.1),numA ((wrun (wE x lx) (wE 0 0) (QaH ks)).2.2.1),numA ((wrun (wE x lx) (wE 0 0) (QaH ks)).2.2.2)])) 28 rfl kj (Qae 78 _ g9 78 _ _ rs rfl kj kj (isz (n:=16) kj kj)) ?_
  refine Qar (.agg (cat [numA ((QdZ (wrun (wE x lx) (wE 0 0) (QaH ks)).1 (wrun (wE x lx) (wE 0 0) (QaH ks)).2.1 (wrun (wE x lx) (wE 0 0) (QaH ks)).2.2.1 (wrun (wE x lx) (wE 0 0) (QaH ks)).2.2.2).1),numA ((QdZ (wrun (wE x lx) (wE 0 0) (QaH ks)).1 (wrun (wE x lx) (wE 0 0) (QaH ks)).2.1 (wrun (wE x lx) (wE 0 0) (QaH ks)).2.2.1 (wrun (wE x lx) (wE 0 0) (QaH ks)).2.2.2).2)])) 48 #[.agg (cat [numA ((wrun (wE x lx) (wE 0 0) (QaH ks)).1),numA ((wrun (wE x lx) (wE 0 0) (QaH ks)).2.1),numA ((wrun (wE x lx) (wE 0 0) (QaH ks)).2.2.1),numA ((wrun (wE x lx) (wE 0 0) (QaH ks)).2.2.2)])] 29 rfl kj kj ((Qnr _ _ _ _ hR.1 hR.2.1 hR.2.2.1 hR.2.2.2) _) fun W12 e12=>?_
  have x12:Ext w W12:=Ext.tr xx e12
  have r5_12:=(Qaa rr e12)
  refine Qal g5 _ (cat [numA ((QdZ (wrun (wE x lx) (wE 0 0) (QaH ks)).1 (wrun (wE x lx) (wE 0 0) (QaH ks)).2.1 (wrun (wE x lx) (wE 0 0) (QaH ks)).2.2.1 (wrun (wE x lx) (wE 0 0) (QaH ks)).2.2.2).1),numA ((QdZ (wrun (wE x lx) (wE 0 0) (QaH ks)).1 (wrun (wE x lx) (wE 0 0) (QaH ks)).2.1 (wrun (wE x lx) (wE 0 0) (QaH ks)).2.2.1 (wrun (wE x lx) (wE 0 0) (QaH ks)).2.2.2).2)]) 51 r5_12 rfl kj (Qai 51 _ _ g5 51 _ _ r5_12 rfl kj kj (isz (n:=8) kj kj) (eqsz (n:=8) kj kj) kj) fun W13 p13 r5_13=>?_
  have x13:Ext w W13:=Puts.ext p13 x12 b5
  refine Qag ?_
  refine hK15 _ _ ?_
  refine wp_ret ?_
  have r14_13:=(Puts.row p13 (Qaa rD e12) (Qhn rr rD))
  exact (show bodyPostM _ _ _ _ _ .ret _ _ from QlO (.agg (cat [numA ((QdZ (wrun (wE x lx) (wE 0 0) (QaH ks)).1 (wrun (wE x lx) (wE 0 0) (QaH ks)).2.1 (wrun (wE x lx) (wE 0 0) (QaH ks)).2.2.1 (wrun (wE x lx) (wE 0 0) (QaH ks)).2.2.2).1),numA ((QdZ (wrun (wE x lx) (wE 0 0) (QaH ks)).1 (wrun (wE x lx) (wE 0 0) (QaH ks)).2.1 (wrun (wE x lx) (wE 0 0) (QaH ks)).2.2.1 (wrun (wE x lx) (wE 0 0) (QaH ks)).2.2.2).2)])) rfl r14_13 (Qa9 g5 51 _ (QfG r5_13 r14_13 _) kj kj (isz (n:=8) kj kj)) ⟨rfl,QfH x13 bD r14_13 _⟩)
end Go.Proofs.YtdoadngmgmdlbaaDoor.Field
end
section
namespace Go.Proofs.YtdoadngmgmdlbaaDoor.Field
open Go Go.RowKit
open Rely Auto
theorem w_ne (y : Int):(y*y*dN+1)%p≠0:=fun h=>by
  by_cases hy:y%p=0
  · rw [←addL,Int.mul_assoc,←modL,hy,Int.zero_mul] at h
    exact absurd h (by decide)
  · exact nonsq (a:=y) (b:=1) hy (zc1 h (c:=-1) (by grind))
theorem Qle {x u y:Int} (h1:onC x y) (h2:onC u y):x*x%p=u*u%p:=by
  have e:((x*x-u*u)*(y*y*dN+1))%p=0:=by
    unfold onC cv at h1 h2
    exact zc2 h1 h2 (c:=-1) (d:=1) (by grind)
  exact Qf4 ((Qf5 e).resolve_right (w_ne y))
theorem QkC (u P:Int) (hP:P%2=1) (h:(P-u)%2=u%2):False:=by omega
theorem QnY : p%2=1:=by decide
theorem QmH {x u y:Int} (hx:isN x) (hu:isN u) (h1:onC x y) (h2:onC u y) (hp:x%2=u%2):x=u:=by
  rcases Qkl x u hx hu (Qle h1 h2) with h | h
  · exact h
  · by_cases h0:u=0
    · rw [h,h0]; rfl
    · rw [QeT u hu h0] at h
      rw [h] at hp
      exact absurd (QkC u p QnY hp) id
theorem QgL {a b:Int} (h:Qao a=Qao b):∀ k,k≤32→a%256^k=b%256^k
  | 0,_=>by simp [Int.emod_one]
  | k+1,hk=>by
    rw [QfL,QfL b,QgL h k (by omega)]
    have e:Qa1 a k=Qa1 b k:=by
      have q:∀ n,nth (Qao n) k=Qa1 n k:=fun n=>by unfold nth Qao part; simp [show k<32 by omega]
      rw [←q,←q,h]
    unfold Qa1 at e
    rw [e]
theorem QjQ {a b:Int} (ha:isN a) (hb:isN b) (h:Qao a=Qao b):a=b:=by
  have e:=QgL h 32 (qR _)
  have l:p<256^32:=by decide
  have a1:=ha.2
  have b1:=hb.2
  rw [Int.emod_eq_of_lt ha.1 (Int.lt_trans a1 l),Int.emod_eq_of_lt hb.1 (Int.lt_trans b1 l)] at e
  exact e
theorem Qht {x y:Int} (hy:isN y):(x%2==1)=decide (128≤nth (enc x y) 31):=by
  have hl:=Qee hy
  unfold enc
  by_cases h:(x%2==1)=true
  · rw [if_pos h,h,nth_set_self _ _ _ (by rw [bytes_len]; decide)]
    exact (decide_eq_true (by omega)).symm
  · rw [if_neg h]
    rw [Bool.not_eq_true] at h
    rw [h]
    exact (decide_eq_false (by omega)).symm
theorem QfY {x y:Int} (hy:isN y):(enc x y).set 31 (nth (enc x y) 31%128)=Qao y:=by
  have hl:=Qee hy
  have hs:(Qao y).set 31 (nth (Qao y) 31)=Qao y:=QlN _ _
  unfold enc
  split
  · rw [nth_set_self _ _ _ (by rw [bytes_len]; decide),List.set_set,show (nth (Qao y) 31+128)%128=nth (Qao y) 31 by omega,hs]
  · rw [Int.emod_eq_of_lt hl.1 hl.2,hs]
theorem QmF {x y u v:Int} (hy:isN y) (hv:isN v) (h:enc x y=enc u v):y=v∧x%2=u%2:=by
  refine ⟨QjQ hy hv ?_,?_⟩
  · rw [←QfY (x:=x) hy,←QfY (x:=u) hv,h]
  · have e:=Qht (x:=x) hy
    rw [h,←Qht hv] at e
    have q:∀ a:Int,a%2=0∨a%2=1:=fun a=>by omega
    rcases q x with h1 | h1 <;> rcases q u with h2 | h2 <;> rw [h1,h2] at e ⊢ <;> cases e
theorem lK_eq (xs : List Int):lK xs=(zK xs-1)%p:=by
  unfold lK zK
  split
  · rfl
  · rfl
end Go.Proofs.YtdoadngmgmdlbaaDoor.Field
end
section
namespace Go.Proofs.YtdoadngmgmdlbaaDoor.Field
open Go Go.RowKit
open Rely Auto
set_option maxHeartbeats 4000000
def ptA (P : Int×Int):Array Value:=cat [numA P.1,numA ((P.2-1)%p)]
def ptV (P : Int×Int):Value:=.agg (ptA P)
theorem Qnn {P : Int×Int} (h:OnP P):pyF P.1 ((P.2-1)%p)=P.2:=QlR h.y P.1
def encP (P : Int×Int):List Int:=enc P.1 P.2
theorem Qbo (P : Int×Int):(encP P).length=32:=QmE _ _
theorem enc_bytes {x y:Int} (hy:isN y):Qak (enc x y):=by
  have hb:Qak (Qao y):=fun v hv=>by
    unfold Qao part at hv
    simp only [List.mem_map,List.mem_range] at hv
    obtain ⟨i,hi,rfl⟩:=hv
    rw [if_pos hi]
    unfold Qa1
    omega
  have hl:=Qee hy
  unfold enc
  split
  · intro v hv
    rcases List.mem_or_eq_of_mem_set hv with h | h
    · exact hb v h
    · omega
  · exact hb
theorem ptBytes {P : Int×Int} (h:OnP P) (w:World):Calls Tryd.prog 22 #[ptV P] w (Ret w (.agg (ints .u8 (encP P)))):=by
  have:=Qmg P.1 ((P.2-1)%p) h.x (Qa0 _) w
  rw [Qnn h] at this
  exact this
theorem Qjf {Z x:Int} (hz:isN Z) (h0:Z≠0) (hx:isN x):(Z*x%p)*invN Z%p=x:=by
  have h1:=QfT Z hz h0
  have e:(Z*x%p)*invN Z%p=(Z*invN Z%p)*x%p:=by
    rw [modL,modL]; exact QdF (by grind)
  rw [e,h1,Int.one_mul,QaR hx]
def Qe9 (A : W4) (P:Int×Int):Prop:=RepW A.1 A.2.1 A.2.2.1 A.2.2.2 P.1 P.2
theorem Qfu {A : W4} {P:Int×Int} (h:OnP P) (k:Qe9 A P):QdZ A.1 A.2.1 A.2.2.1 A.2.2.2=(P.1,(P.2-1)%p):=by
  rw [QlX,k.hx,k.hy,Qjf k.n k.z h.x,Qjf k.n k.z h.y]
theorem Qfr {P : Int×Int} (h:OnP P):Qe9 (wE P.1 ((P.2-1)%p)) P:=by
  have e:wE P.1 ((P.2-1)%p)=(P.1,P.2,1,P.1*P.2%p):=by
    show (P.1,pyF P.1 ((P.2-1)%p),1,P.1*pyF P.1 ((P.2-1)%p)%p)=_
    rw [Qnn h]
  rw [e]
  exact ⟨Qb7 1,(by show (1:Int)≠0; decide),(by show P.1=1*P.1%p; rw [Int.one_mul,QaR h.x]),(by show P.2=1*P.2%p; rw [Int.one_mul,QaR h.y]),(by show P.1*P.2%p=1*(P.1*P.2)%p; rw [Int.one_mul])⟩
theorem Qf9 {A B:W4} {P Q:Int×Int} (h:OnP P) (k:OnP Q) (a:Qe9 A P) (b:Qe9 B Q):Qe9 (wad A B) (pAdd P Q):=Qkh h.c k.c a b
theorem QdR {E : W4} {P:Int×Int} (hP:OnP P) (hE:Qe9 E P):∀ (bs:List Bool) {Z:W4} {Q:Int×Int},OnP Q→Qe9 Z Q→Qe9 (wrun E Z bs) (bs.foldl (fun A b=>if b then pAdd (pAdd A A) P else pAdd A A) Q)
  | [],_,_,_,h=>h
  | true::bs,_,_,hQ,h=>QdR hP hE bs (pAdd_on (pAdd_on hQ hQ) hP) (Qf9 (pAdd_on hQ hQ) hP (Qf9 hQ hQ h h) hE)
  | false::bs,_,_,hQ,h=>QdR hP hE bs (pAdd_on hQ hQ) (Qf9 hQ hQ h h)
theorem QgU : Qe9 (wE 0 0) Qc0:=Qfr Qdw
theorem ptTimes {P : Int×Int} (h:OnP P) (ks:List Int) (hk:ks.length=32) (hkb:Qak ks) (w:World) (tB:TypeId) (hB:w.heap[2]? = some (.cells (ints .u8 Qbq) tB)) :
    Calls Tryd.prog 21 #[ptV P,.agg (ints .u8 ks)] w (Ret w (ptV (Qd6 P (QaH ks)))):=by
  have c:=QlU P.1 ((P.2-1)%p) h.x (Qa0 _) ks hk hkb w tB hB
  have e:=Qfu (Qej h (QaH ks)) (QdR h (Qfr h) (QaH ks) Qdw QgU)
  rw [e] at c
  exact c
theorem ptAdd {P Q:Int×Int} (h:OnP P) (k:OnP Q) (w:World) (tB:TypeId) (hB:w.heap[2]? = some (.cells (ints .u8 Qbq) tB)) :
    Calls Tryd.prog 35 #[ptV P,ptV Q] w (Ret w (ptV (pAdd P Q))):=by
  have c:=QnX P.1 ((P.2-1)%p) Q.1 ((Q.2-1)%p) h.x (Qa0 _) k.x (Qa0 _) w tB hB
  have e:Qmh P.1 ((P.2-1)%p) Q.1 ((Q.2-1)%p)=((pAdd P Q).1,((pAdd P Q).2-1)%p):=Qfu (pAdd_on h k) (Qf9 h k (Qfr h) (Qfr k))
  rw [e] at c
  exact c
theorem ptNeg {P : Int×Int} (h:OnP P) (w:World):Calls Tryd.prog 36 #[ptV P] w (Ret w (ptV (pNeg P))):=QnW P.1 ((P.2-1)%p) h.x (Qa0 _) w
theorem Qg7 {n : Int} (h:isN n):QeX (Qao n)=n:=by
  have e:=QfS n 32 (qR _)
  have l:p<256^32:=by decide
  have l2:p<57896044618658097711785492504343953926634992332820282019728792003956564819968:=by decide
  have h1:=h.1
  have h2:=h.2
  rw [Int.emod_eq_of_lt h1 (Int.lt_trans h2 l)] at e
  unfold QeX
  rw [e,Int.emod_eq_of_lt h1 (Int.lt_trans h2 l2),QaR h]
theorem Qn2 {x y:Int} (h:onC x y):x*x%p=uK y:=by
  unfold uK
  have hw:=w_ne y
  have i1:=Qg8 hw
  have e:(y*y%p*dN%p+1)%p=(y*y*dN+1)%p:=by rw [modL,addL]
  have e2:(y*y%p-1)%p*invN ((y*y*dN+1)%p)%p=(y*y-1)*invN ((y*y*dN+1)%p)%p:=by
    rw [modL,←modL (y*y%p-1),subL,modL]
  rw [e,e2]
  refine Qf4 ?_
  unfold onC cv at h
  refine zc2 h i1 (c:=-invN ((y*y*dN+1)%p)) (d:=-(x*x)) ?_
  grind
theorem Qhs {x : Int} (hx:isN x):(if (x%2==1)=true then QfI (QaT x) else QaT x)=x:=by
  unfold QaT
  by_cases h:x%2=1
  · rw [if_pos (by simp [h]),if_pos h,QhG]
    have e:(0-(0-x)%p)%p=x%p:=by rw [subR]; exact QdF (by omega)
    rw [e,QaR hx]
  · rw [if_neg (by simp [h]),if_neg h]
theorem from_enc {P : Int×Int} (h:OnP P):okK (encP P)=true∧xK (encP P)=P.1∧zK (encP P)=P.2:=by
  have hy:yK (encP P)=P.2:=by
    unfold yK cutK encP
    rw [QfY h.y,Qg7 h.y]
  have ho:oddK (encP P)=(P.1%2==1):=by
    have hl:=enc_bytes (x:=P.1) h.y
    have hb:0≤nth (enc P.1 P.2) 31∧nth (enc P.1 P.2) 31≤255:=hl.nth 31
    rw [Qht h.y]
    unfold oddK encP
    by_cases hh:128≤nth (enc P.1 P.2) 31
    · rw [decide_eq_true hh,show nth (enc P.1 P.2) 31/128=1 by omega]; rfl
    · rw [decide_eq_false hh,show nth (enc P.1 P.2) 31/128=0 by omega]; rfl
  have hc:canK (encP P)=true:=by
    unfold canK
    rw [hy]
    unfold cutK encP
    rw [QfY h.y]
    exact decide_eq_true rfl
  have hs:=Qhe P.1 h.x
  rw [Qn2 h.c,←hy] at hs
  have hr:rK (encP P)=QaT P.1:=hs.2
  have h0:(oddK (encP P)&&rK (encP P)==0)=false:=by
    rw [ho,hr]
    by_cases hp:P.1%2=1
    · have e:=Qi9 P.1 h.x hp
      have hlt:=h.x.2
      rw [e]
      have:¬ (p-P.1=0):=by omega
      simp [this]
    · simp [hp]
  have hk:okK (encP P)=true:=by
    unfold okK
    rw [hc,hs.1,h0]
    rfl
  refine ⟨hk,?_,?_⟩
  · unfold xK
    rw [if_pos hk,ho,hr]
    exact Qhs h.x
  · unfold zK
    rw [if_pos hk,hy]
theorem QmN : OnP (bxN,byN):=⟨QjS,QjR,by unfold onC; decide +kernel⟩
theorem QnG : blN=((bxN,byN).2-1)%p:=by decide +kernel
theorem ptBase (w : World) (tX:TypeId) (hX:w.heap[0]? = some (.cells (ints .u8 QbS) tX)) (tY:TypeId) (hY:w.heap[1]? = some (.cells (ints .u8 QbR) tY)) :
    Calls Tryd.prog 20 #[] w (Ret w (ptV (bxN,byN))):=by
  have c:=QnH w tX hX tY hY
  rw [QnG] at c
  exact c
theorem K_onP (xs : List Int):OnP (xK xs,zK xs):=⟨QmU xs,QmT xs,Qon xs⟩
def mulP (a ks:List Int):Int×Int:=Qd6 (xK a,zK a) (QaH ks)
theorem QcG (a ks:List Int):OnP (mulP a ks):=Qej (K_onP a) _
end Go.Proofs.YtdoadngmgmdlbaaDoor.Field
end
section
namespace Go.Proofs.YtdoadngmgmdlbaaDoor.Field
open Go Go.RowKit
open Rely Auto
theorem climb_num {P : Int×Int} (h:OnP P) (ks:List Int) (hb:Qak ks):Qd6 P (QaH ks)=nmul (numB ks) P:=by rw [QgK h,Qfi ks hb]
def BP : Int×Int:=(bxN,byN)
theorem QbU : OnP BP:=QmN
def pa (a : List Int):Int×Int:=Qd6 BP (QaH a)
theorem QcT (a : List Int):OnP (pa a):=Qej QbU _
end Go.Proofs.YtdoadngmgmdlbaaDoor.Field
end
section
namespace Go.Proofs.YtdoadngmgmdlbaaDoor.Field
open Go Go.RowKit
open Rely Auto
def PN : Nat:=57896044618658097711785492504343953926634992332820282019728792003956564819949
theorem QfJ : ((PN:Nat):Int)=p:=rfl
def dNat : Nat:=37095705934669439343138083508754565189542113879843219016388785533085940283555
theorem QnE : ((dNat:Nat):Int)=dN:=by decide +kernel
def sbN (a b:Nat):Nat:=(a+(PN-b))%PN
def wadT (a b c d e f g h:Nat):Nat×Nat×Nat×Nat :=
  let s0:=sbN b a*sbN f e%PN
  let s1:=(b+a)%PN*((f+e)%PN)%PN
  let s2:=d*h%PN*dNat%PN
  let s3:=(s2+s2)%PN
  let s4:=c*g%PN
  let s5:=(s4+s4)%PN
  let s6:=sbN s1 s0
  let s7:=sbN s5 s3
  let s8:=(s5+s3)%PN
  let s9:=(s1+s0)%PN
  (s6*s7%PN,s8*s9%PN,s7*s8%PN,s6*s9%PN)
def wadN (k : Nat→Nat→Nat→Nat→Nat) (a b c d e f g h:Nat):Nat :=
  let s0:=sbN b a*sbN f e%PN
  let s1:=(b+a)%PN*((f+e)%PN)%PN
  let s2:=d*h%PN*dNat%PN
  let s3:=(s2+s2)%PN
  let s4:=c*g%PN
  let s5:=(s4+s4)%PN
  let s6:=sbN s1 s0
  let s7:=sbN s5 s3
  let s8:=(s5+s3)%PN
  let s9:=(s1+s0)%PN
  let r0:=s6*s7%PN
  let r1:=s8*s9%PN
  let r2:=s7*s8%PN
  let r3:=s6*s9%PN
  bif Nat.ble r0 PN&&Nat.ble r1 PN&&Nat.ble r2 PN&&Nat.ble r3 PN then k r0 r1 r2 r3 else 0
def ordS (E1 E2 E3 E4:Nat) (bt:Bool) (k:Nat→Nat→Nat→Nat→Nat) (a b c d:Nat):Nat:=wadN (fun a b c d=>bif bt then wadN k a b c d E1 E2 E3 E4 else k a b c d) a b c d a b c d
def ordN (E1 E2 E3 E4 e:Nat):Nat→Nat→Nat→Nat→Nat→Nat
  | 0,a,b,c,_=>bif Nat.beq a 0&&Nat.beq b c then 1 else 2
  | f+1,a,b,c,d=>ordS E1 E2 E3 E4 (Nat.beq (e/2^f%2) 1) (ordN E1 E2 E3 E4 e f) a b c d
def Qci (e : Nat):Nat→List Bool
  | 0=>[]
  | f+1=>Nat.beq (e/2^f%2) 1::Qci e f
theorem Qhb (a b:Nat) (ha:a<PN) (hb:b<PN):((sbN a b:Nat):Int)=((a:Int)-b)%p:=by
  unfold sbN
  rw [←QfJ,Int.natCast_emod,Int.natCast_add,Int.natCast_sub (Nat.le_of_lt hb),show (a:Int)+((PN:Int)-b)=(a-b)+PN by omega,Int.add_emod_right]
theorem QmQ (a b:Nat):(((a+b)%PN:Nat):Int)=((a:Int)+b)%p:=by
  rw [←QfJ,Int.natCast_emod,Int.natCast_add]
theorem Qj2 (a b:Nat):((a*b%PN:Nat):Int)=((a:Int)*b)%p:=by
  rw [←QfJ,Int.natCast_emod,Int.natCast_mul]
theorem mod_lt (a : Nat):a%PN<PN:=Nat.mod_lt _ (by decide)
def Qd2 (t : Nat×Nat×Nat×Nat):W4:=((t.1:Int),(t.2.1:Int),(t.2.2.1:Int),(t.2.2.2:Int))
theorem Qh6 (k : Nat→Nat→Nat→Nat→Nat) (a b c d e f g h:Nat) (ha:a<PN) (hb:b<PN) (hc:c<PN) (hd:d<PN) (he:e<PN) (hf:f<PN) (hg:g<PN) (hh:h<PN) :
    ∃ r0 r1 r2 r3:Nat,r0<PN∧r1<PN∧r2<PN∧r3<PN∧wadN k a b c d e f g h=k r0 r1 r2 r3∧wad (Qd2 (a,b,c,d)) (Qd2 (e,f,g,h))=Qd2 (r0,r1,r2,r3):=by
  refine ⟨(wadT a b c d e f g h).1,(wadT a b c d e f g h).2.1,(wadT a b c d e f g h).2.2.1,(wadT a b c d e f g h).2.2.2,mod_lt _,mod_lt _,mod_lt _,mod_lt _,?_,?_⟩
  · have hb:∀ a:Nat,Nat.ble (a%PN) PN=true:=fun a=>by
      rw [Nat.ble_eq]
      exact Nat.le_of_lt (mod_lt _)
    unfold wadN wadT
    simp only [hb,Bool.and_true,_root_.cond_true]
  · show Qcq (a:Int) b c d e f g h dN=_
    unfold Qcq wadT Qd2
    simp only [QmQ,Qj2,Qhb _ _ hb ha,Qhb _ _ hf he,Qhb _ _ (mod_lt _) (mod_lt _),QnE]
theorem Qge (E Z:W4) (b:Bool) (bs:List Bool):wrun E Z (b::bs)=wrun E (wrung E Z b) bs:=rfl
theorem Qh5 (E Z:W4):wrun E Z []=Z:=rfl
theorem Qhk (E1 E2 E3 E4 e a b c d:Nat):ordN E1 E2 E3 E4 e 0 a b c d=(bif Nat.beq a 0&&Nat.beq b c then 1 else 2):=by rw [ordN]
theorem Qii (E A:W4):wrung E A true=wad (wad A A) E:=rfl
theorem QgT (E A:W4):wrung E A false=wad A A:=rfl
theorem Qjt (E1 E2 E3 E4:Nat) (bt:Bool) (k:Nat→Nat→Nat→Nat→Nat) (a b c d:Nat):ordS E1 E2 E3 E4 bt k a b c d=wadN (fun a b c d=>bif bt then wadN k a b c d E1 E2 E3 E4 else k a b c d) a b c d a b c d:=by rw [ordS]
theorem Qg1 (E1 E2 E3 E4:Nat) (h1:E1<PN) (h2:E2<PN) (h3:E3<PN) (h4:E4<PN) (E:W4) (hE:E=Qd2 (E1,E2,E3,E4)) (bt:Bool) (k:Nat→Nat→Nat→Nat→Nat) (a b c d:Nat) (ha:a<PN) (hb:b<PN) (hc:c<PN) (hd:d<PN) :
    ∃ r0 r1 r2 r3:Nat,r0<PN∧r1<PN∧r2<PN∧r3<PN∧ordS E1 E2 E3 E4 bt k a b c d=k r0 r1 r2 r3∧wrung E (Qd2 (a,b,c,d)) bt=Qd2 (r0,r1,r2,r3):=by
  obtain ⟨q0,q1,q2,q3,l0,l1,l2,l3,e1,e2⟩:=Qh6 (fun a b c d=>bif bt then wadN k a b c d E1 E2 E3 E4 else k a b c d) a b c d a b c d ha hb hc hd ha hb hc hd
  cases bt with
  | true =>
    obtain ⟨t0,t1,t2,t3,m0,m1,m2,m3,e3,e4⟩:=Qh6 k q0 q1 q2 q3 E1 E2 E3 E4 l0 l1 l2 l3 h1 h2 h3 h4
    refine ⟨t0,t1,t2,t3,m0,m1,m2,m3,(Qjt ..).trans (e1.trans ((_root_.cond_true _ _).trans e3)),?_⟩
    rw [Qii,e2]
    exact (congrArg (wad _) hE).trans e4
  | false=>exact ⟨q0,q1,q2,q3,l0,l1,l2,l3,(Qjt ..).trans (e1.trans (_root_.cond_false _ _)),by rw [QgT,e2]⟩
theorem Qju (E1 E2 E3 E4 e f a b c d:Nat):ordN E1 E2 E3 E4 e (f+1) a b c d=ordS E1 E2 E3 E4 (Nat.beq (e/2^f%2) 1) (ordN E1 E2 E3 E4 e f) a b c d:=by rw [ordN]
theorem Qk8 (E1 E2 E3 E4 e:Nat) (h1:E1<PN) (h2:E2<PN) (h3:E3<PN) (h4:E4<PN) (E:W4) (hE:E=Qd2 (E1,E2,E3,E4)):∀ (f a b c d:Nat),a<PN→b<PN→c<PN→d<PN →
    ∃ r0 r1 r2 r3:Nat,ordN E1 E2 E3 E4 e f a b c d=(bif Nat.beq r0 0&&Nat.beq r1 r2 then 1 else 2)∧wrun E (Qd2 (a,b,c,d)) (Qci e f)=Qd2 (r0,r1,r2,r3):=by
  intro f
  induction f with
  | zero=>intro a b c d _ _ _ _; exact ⟨a,b,c,d,Qhk ..,by rw [Qci,Qh5]⟩
  | succ f ih =>
    intro a b c d ha hb hc hd
    obtain ⟨q0,q1,q2,q3,l0,l1,l2,l3,e1,e2⟩:=Qg1 E1 E2 E3 E4 h1 h2 h3 h4 E hE (Nat.beq (e/2^f%2) 1) (ordN E1 E2 E3 E4 e f) a b c d ha hb hc hd
    obtain ⟨r0,r1,r2,r3,e3,e4⟩:=ih q0 q1 q2 q3 l0 l1 l2 l3
    exact ⟨r0,r1,r2,r3,(Qju ..).trans (e1.trans e3),by rw [Qci,Qge,e2,e4]⟩
def Qg2 : List Int:=[237,211,245,92,26,99,18,88,214,156,247,162,222,249,222,20,0,0,0,0,0,0,0,0,0,0,0,0,0,0,0,16]
theorem Qhl : Qak Qg2:=by unfold Qak; decide
theorem QhK : QaH Qg2=Qci 7237005577332262213973186563042994240857116359379907606001950938285454250989 256:=by decide +kernel
theorem Qmn : numB Qg2=ordL.toNat:=by decide +kernel
theorem Qmm : ordN 15112221349535400772501151409588531511454012693041857206046113283949847762202 46316835694926478169428394003475163141307993866256225615783033603165251855960 1 46827403850823179245072216630277197565144205554125654976674165829533817101731 7237005577332262213973186563042994240857116359379907606001950938285454250989 256 0 1 1 0=1:=by decide +kernel
theorem QiQ : wE BP.1 ((BP.2-1)%p)=Qd2 (15112221349535400772501151409588531511454012693041857206046113283949847762202,46316835694926478169428394003475163141307993866256225615783033603165251855960,1,46827403850823179245072216630277197565144205554125654976674165829533817101731):=by decide +kernel
theorem Qh7 : wE 0 0=Qd2 (0,1,1,0):=by decide +kernel
theorem Qk7 : Qd6 BP (QaH Qg2)=Qc0:=by
  have r:=QdR QbU (Qfr QbU) (QaH Qg2) Qdw QgU
  have on:=Qej QbU (QaH Qg2)
  change Qe9 _ (Qd6 BP (QaH Qg2)) at r
  rw [QiQ,Qh7,QhK] at r
  obtain ⟨r0,r1,r2,r3,h1,h2⟩:=Qk8 15112221349535400772501151409588531511454012693041857206046113283949847762202 46316835694926478169428394003475163141307993866256225615783033603165251855960 1 46827403850823179245072216630277197565144205554125654976674165829533817101731 7237005577332262213973186563042994240857116359379907606001950938285454250989 (by decide) (by decide) (by decide) (by decide) _ rfl 256 0 1 1 0 (by decide) (by decide) (by decide) (by decide)
  rw [Qmm] at h1
  rw [h2] at r
  rw [←QhK] at r
  generalize Qd6 BP (QaH Qg2)=P at r on
  have hq:r0=0∧r1=r2:=by
    cases ha:Nat.beq r0 0 with
    | false=>rw [ha] at h1; simp at h1
    | true =>
      cases hb:Nat.beq r1 r2 with
      | false=>rw [ha,hb] at h1; simp at h1
      | true=>exact ⟨Nat.eq_of_beq_eq_true ha,Nat.eq_of_beq_eq_true hb⟩
  obtain ⟨rfl,rfl⟩:=hq
  have hz:(r1:Int)%p≠0:=by
    have:=r.z
    have n:=r.n
    change isN (r1:Int) at n
    rw [QaR n]; exact this
  have hX:(0:Int)=r1*P.1%p:=r.hx
  have hY:(r1:Int)=r1*P.2%p:=r.hy
  have x0:P.1=0:=by
    have:=(Qf5 hX.symm).resolve_left hz
    rwa [QaR on.x] at this
  have y1:P.2=1:=by
    have n:=r.n
    change isN (r1:Int) at n
    have e:((r1:Int)*(P.2-1))%p=0:=by
      rw [show (r1:Int)*(P.2-1)=r1*P.2-r1 by grind,←subL,←hY]
      simp
    have:=Qf4 ((Qf5 e).resolve_left hz)
    rwa [QaR on.y] at this
  exact Prod.ext x0 y1
theorem order_mul : nmul ordL.toNat BP=Qc0:=by
  rw [←Qmn,←climb_num QbU _ Qhl]
  exact Qk7
end Go.Proofs.YtdoadngmgmdlbaaDoor.Field
end
section
namespace Go.Proofs.YtdoadngmgmdlbaaDoor.Field
open Go Go.RowKit
open Rely Auto
def dig (V : Int):List Int:=(List.range 34).map (Qa1 V)
theorem dig_len (V : Int):(dig V).length=34:=by simp [dig]
theorem QgM (V : Int) (i:Nat):0≤Qa1 V i∧Qa1 V i≤255:=by unfold Qa1; omega
theorem dig_bytes (V : Int):Qak (dig V):=fun x hx=>by
  simp only [dig,List.mem_map] at hx
  obtain ⟨i,_,rfl⟩:=hx
  exact QgM V i
def sb (V : Int) (k:Nat):List Int:=mix 34 (Qa1 (V-ordL)) (Qa1 V) k
def fill (bs : List Int) (n k:Nat):List Int:=mix n (nth bs) (fun _=>0) k
theorem fill_len (bs : List Int) (n k:Nat):(fill bs n k).length=n:=mix_len ..
end Go.Proofs.YtdoadngmgmdlbaaDoor.Field
end
section
namespace Go.Proofs.YtdoadngmgmdlbaaDoor.Field
open Go Go.RowKit
open Rely Auto
end Go.Proofs.YtdoadngmgmdlbaaDoor.Field
end
section
namespace Go.Proofs.YtdoadngmgmdlbaaDoor.Field
open Go Go.RowKit
open Rely Auto
end Go.Proofs.YtdoadngmgmdlbaaDoor.Field
end
section
namespace Go.Proofs.YtdoadngmgmdlbaaDoor.Field
open Go Go.RowKit
open Rely Auto
theorem nth_set_ne (xs : List Int) (i j:Nat) (v:Int) (h:i≠j):nth (xs.set i v) j=nth xs j:=by
  unfold nth
  rw [List.getD_eq_getElem?_getD,List.getD_eq_getElem?_getD,List.getElem?_set_ne h]
def Rows (za zb zc:List Int) (i:Nat) (ls:List Int):Prop :=
  leAt ls 0 66=leAt zc 0 32+leAt za 0 i*leAt zb 0 32∧∀ q,0≤nth ls q∧nth ls q≤255+65025*i
def mulR (za zb zc:List Int):Int:=(mulB (resN zb) (QaH za)+resN zc)%ordL
end Go.Proofs.YtdoadngmgmdlbaaDoor.Field
end
section
namespace Go.Proofs.YtdoadngmgmdlbaaDoor.Field
open Go Go.RowKit
open Rely Auto
end Go.Proofs.YtdoadngmgmdlbaaDoor.Field
end
section
namespace Go.Proofs.YtdoadngmgmdlbaaDoor.Sgn
open Go Go.RowKit
open Rely Auto Own Sha5
open Ladder (clamp)
open Field (Qao resN numA num lims QbQ ordL Qbq QbS QbR QaP encP Qbo pa QcT pAdd pNeg mulP QcG okK xK zK mulR BP QbU numB nmul OnP Qc0)
@[irreducible] def secV (xs : List Int) : List Int := clamp ((dig xs).take 32)
@[irreducible] def preV (xs : List Int) : List Int := (dig xs).drop 32
@[irreducible] def pubV (xs : List Int) : List Int := encP (pa (secV xs))
@[irreducible] def resV (t : List Int) : List Int := Qao (resN (dig t))
@[irreducible] def sgR (xs t : List Int) : List Int := resV (preV xs ++ t)
@[irreducible] def sgF (xs t : List Int) : List Int := encP (pa (sgR xs t))
@[irreducible] def sgK (xs t : List Int) : List Int := resV (sgF xs t ++ pubV xs ++ t)
@[irreducible] def sgS (xs t : List Int) : List Int := Qao (mulR (sgK xs t) (secV xs) (sgR xs t))
@[irreducible] def sigV (xs t : List Int) : List Int := sgF xs t ++ sgS xs t
@[irreducible] def eqV (p f s k : List Int) : List Int := encP (pAdd (pa s) (pNeg (mulP p k)))
def canV (s : List Int):Bool:=decide (Qao (resN s)=s)
@[irreducible] def verV (p s t : List Int) : Bool := canV (s.drop 32) && (okK p && decide (eqV p (s.take 32) (s.drop 32) (resV (s.take 32 ++ p ++ t)) = s.take 32))
theorem Qhw {xs : List Int} (h:Qak xs):Qak (clamp xs):=by
  have a0:=h.nth 0
  have a31:=h.nth 31
  intro x hx
  unfold clamp at hx
  rcases List.mem_or_eq_of_mem_set hx with hx | hx
  · rcases List.mem_or_eq_of_mem_set hx with hx | hx
    · exact h x hx
    · omega
  · omega
theorem Qce (xs : List Int):(secV xs).length=32:=by unfold secV; exact Qek (Qca (dig_len xs))
theorem QcK (xs : List Int):Qak (secV xs):=by unfold secV; exact Qhw (QfA (dig_bytes xs))
theorem QcR (xs : List Int):(preV xs).length=32:=by unfold preV; exact QbH (dig_len xs)
theorem QcY {xs : List Int} (h:Qak xs) (n:Nat):Qak (xs.drop n):=fun x hx=>h x (List.mem_of_mem_drop hx)
theorem Qix (xs : List Int):Qak (preV xs):=by unfold preV; exact QcY (dig_bytes xs) 32
theorem Qfx {P : Int×Int} (h:OnP P):Qak (encP P):=Field.enc_bytes h.y
theorem Qco (xs : List Int):(pubV xs).length=32:=by unfold pubV; exact Qbo _
theorem Qdv (xs : List Int):Qak (pubV xs):=by unfold pubV; exact Qfx (QcT _)
theorem Qcn (t : List Int):(resV t).length=32:=by unfold resV; exact bytesOf_len _
theorem Qds (t : List Int):Qak (resV t):=by unfold resV; exact QaP _
theorem QeM (xs t:List Int):(sgR xs t).length=32:=by unfold sgR; exact Qcn _
theorem QdW (xs t:List Int):Qak (sgR xs t):=by unfold sgR; exact Qds _
theorem Qcr (xs t:List Int):(sgF xs t).length=32:=by unfold sgF; exact Qbo _
theorem Qgj (xs t:List Int):Qak (sgF xs t):=by unfold sgF; exact Qfx (QcT _)
theorem QiV (xs t:List Int):(sgK xs t).length=32:=by unfold sgK; exact Qcn _
theorem QeN (xs t:List Int):Qak (sgK xs t):=by unfold sgK; exact Qds _
theorem QeL (xs t:List Int):(sgS xs t).length=32:=by unfold sgS; exact bytesOf_len _
theorem QiU (xs t:List Int):Qak (sgS xs t):=by unfold sgS; exact QaP _
theorem Qbm (xs t:List Int):(sigV xs t).length=64:=by unfold sigV; rw [List.length_append,Qcr,QeL]
theorem Qen (xs t:List Int):Qak (sigV xs t):=by
  unfold sigV
  intro x hx
  rcases List.mem_append.1 hx with h | h
  · exact Qgj xs t x h
  · exact QiU xs t x h
theorem Qgh (xs t:List Int):(sigV xs t).take 32=sgF xs t:=by unfold sigV; exact List.take_left' (Qcr xs t)
theorem Qgi (xs t:List Int):(sigV xs t).drop 32=sgS xs t:=by unfold sigV; exact List.drop_left' (Qcr xs t)
theorem QhR (a b c:List Int):Field.isS (mulR a b c):=Field.isS_mod _
theorem Qid (xs t:List Int):canV (sgS xs t)=true:=by
  unfold canV sgS
  refine decide_eq_true ?_
  have h:=QhR (sgK xs t) (secV xs) (sgR xs t)
  rw [Field.resN_32 _ (bytesOf_len _) (QaP _),Field.numB_bytes h,Int.toNat_of_nonneg h.1,Field.isS_self h]
theorem Qlx (xs t:List Int):pa (sgS xs t)=pAdd (nmul (numB (sgK xs t)*numB (secV xs)) BP) (pa (sgR xs t)):=by
  unfold sgS pa
  rw [Field.climb_num QbU _ (QaP _),Field.numB_bytes (QhR _ _ _)]
  unfold mulR
  rw [Field.mulAdd_val _ _ _ (QeN xs t) (Qce xs) (QcK xs) (QeM xs t) (QdW xs t),Field.climb_num QbU _ (QdW xs t),←Field.nmul_add QbU]
  have e2:((((numB (sgK xs t):Int)*numB (secV xs)+numB (sgR xs t))%ordL)).toNat=(numB (sgK xs t)*numB (secV xs)+numB (sgR xs t))%ordL.toNat:=by
    have hL:((ordL.toNat:Nat):Int)=ordL:=by decide
    rw [←hL,←Int.natCast_mul,←Int.natCast_add,←Int.natCast_emod,Int.toNat_natCast]
    rfl
  rw [e2,Field.nmul_mod QbU _ Field.order_mul]
theorem QfV (xs : List Int):okK (pubV xs)=true∧(xK (pubV xs),zK (pubV xs))=pa (secV xs):=by
  unfold pubV
  obtain ⟨h1,h2,h3⟩:=Field.from_enc (QcT (secV xs))
  exact ⟨h1,by rw [h2,h3]⟩
theorem QhN (xs k:List Int) (hk:Qak k):mulP (pubV xs) k=nmul (numB k*numB (secV xs)) BP:=by
  unfold mulP
  rw [(QfV xs).2,Field.climb_num (QcT _) _ hk]
  unfold pa
  rw [Field.climb_num QbU _ (QcK xs),←Field.nmul_mul QbU]
theorem QkZ (xs t:List Int):eqV (pubV xs) (sgF xs t) (sgS xs t) (sgK xs t)=sgF xs t:=by
  unfold eqV
  rw [QhN xs _ (QeN xs t),Qlx]
  have hA:OnP (nmul (numB (sgK xs t)*numB (secV xs)) BP):=Field.nmul_on QbU _
  have hR:=QcT (sgR xs t)
  rw [Field.pAdd_comm (nmul _ BP) (pa _),Field.pAdd_assoc hR hA (Field.pNeg_on hA),Field.pAdd_neg hA,Field.pAdd_zero hR]
  unfold sgF
  rfl
theorem QiR (xs t:List Int):verV (pubV xs) (sigV xs t) t=true:=by
  unfold verV
  rw [Qgh,Qgi,Qid,(QfV xs).1]
  have e:resV (sgF xs t++pubV xs++t)=sgK xs t:=by unfold sgK; rfl
  rw [e,QkZ,decide_eq_true rfl]
  rfl
end Go.Proofs.YtdoadngmgmdlbaaDoor.Sgn
end
section
namespace Go.Proofs.YtdoadngmgmdlbaaDoor.Field
open Go Go.RowKit
open Rely Auto
def ordG (fin : Nat→Nat→Nat→Nat→Nat) (E1 E2 E3 E4 e:Nat):Nat→Nat→Nat→Nat→Nat→Nat
  | 0,a,b,c,d=>fin a b c d
  | f+1,a,b,c,d=>ordS E1 E2 E3 E4 (Nat.beq (e/2^f%2) 1) (ordG fin E1 E2 E3 E4 e f) a b c d
theorem Qjv (fin : Nat→Nat→Nat→Nat→Nat) (E1 E2 E3 E4 e a b c d:Nat):ordG fin E1 E2 E3 E4 e 0 a b c d=fin a b c d:=by rw [ordG]
theorem Qjw (fin : Nat→Nat→Nat→Nat→Nat) (E1 E2 E3 E4 e f a b c d:Nat):ordG fin E1 E2 E3 E4 e (f+1) a b c d=ordS E1 E2 E3 E4 (Nat.beq (e/2^f%2) 1) (ordG fin E1 E2 E3 E4 e f) a b c d:=by rw [ordG]
theorem Qjx (fin : Nat→Nat→Nat→Nat→Nat) (E1 E2 E3 E4 e:Nat) (h1:E1<PN) (h2:E2<PN) (h3:E3<PN) (h4:E4<PN) (E:W4) (hE:E=Qd2 (E1,E2,E3,E4)):∀ (f a b c d:Nat),a<PN→b<PN→c<PN→d<PN →
    ∃ r0 r1 r2 r3:Nat,ordG fin E1 E2 E3 E4 e f a b c d=fin r0 r1 r2 r3∧wrun E (Qd2 (a,b,c,d)) (Qci e f)=Qd2 (r0,r1,r2,r3):=by
  intro f
  induction f with
  | zero=>intro a b c d _ _ _ _; exact ⟨a,b,c,d,Qjv ..,by rw [Qci,Qh5]⟩
  | succ f ih =>
    intro a b c d ha hb hc hd
    obtain ⟨q0,q1,q2,q3,l0,l1,l2,l3,e1,e2⟩:=Qg1 E1 E2 E3 E4 h1 h2 h3 h4 E hE (Nat.beq (e/2^f%2) 1) (ordG fin E1 E2 E3 E4 e f) a b c d ha hb hc hd
    obtain ⟨r0,r1,r2,r3,e3,e4⟩:=ih q0 q1 q2 q3 l0 l1 l2 l3
    exact ⟨r0,r1,r2,r3,(Qjw ..).trans (e1.trans e3),by rw [Qci,Qge,e2,e4]⟩
theorem Qie (fin : Nat→Nat→Nat→Nat→Nat) (ks:List Int) (n:Nat) (hbits:QaH ks=Qci n 256) :
    ∃ a b c d:Nat,ordG fin 15112221349535400772501151409588531511454012693041857206046113283949847762202 46316835694926478169428394003475163141307993866256225615783033603165251855960 1 46827403850823179245072216630277197565144205554125654976674165829533817101731 n 256 0 1 1 0=fin a b c d∧Qe9 (Qd2 (a,b,c,d)) (pa ks):=by
  have r:=QdR QbU (Qfr QbU) (QaH ks) Qdw QgU
  change Qe9 _ (Qd6 BP (QaH ks)) at r
  rw [QiQ,Qh7] at r
  obtain ⟨r0,r1,r2,r3,h1,h2⟩:=Qjx fin 15112221349535400772501151409588531511454012693041857206046113283949847762202 46316835694926478169428394003475163141307993866256225615783033603165251855960 1 46827403850823179245072216630277197565144205554125654976674165829533817101731 n (by decide) (by decide) (by decide) (by decide) _ rfl 256 0 1 1 0 (by decide) (by decide) (by decide) (by decide)
  rw [←hbits] at h2
  rw [h2] at r
  exact ⟨r0,r1,r2,r3,h1,r⟩
def atN (x y a b c d:Nat):Nat:=bif Nat.beq a (c*x%PN)&&Nat.beq b (c*y%PN) then 1 else 2
theorem base_at (ks : List Int) (n x y:Nat) (hbits:QaH ks=Qci n 256) (hx:x<PN) (hy:y<PN) (hrun:ordG (atN x y) 15112221349535400772501151409588531511454012693041857206046113283949847762202 46316835694926478169428394003475163141307993866256225615783033603165251855960 1 46827403850823179245072216630277197565144205554125654976674165829533817101731 n 256 0 1 1 0=1):pa ks=((x:Int),(y:Int)):=by
  obtain ⟨a,b,c,d,h1,r⟩:=Qie (atN x y) ks n hbits
  have on:=QcT ks
  rw [hrun] at h1
  generalize pa ks=P at r on
  have hq:a=c*x%PN∧b=c*y%PN:=by
    unfold atN at h1
    cases ha:Nat.beq a (c*x%PN) with
    | false=>rw [ha] at h1; simp at h1
    | true =>
      cases hb:Nat.beq b (c*y%PN) with
      | false=>rw [ha,hb] at h1; simp at h1
      | true=>exact ⟨Nat.eq_of_beq_eq_true ha,Nat.eq_of_beq_eq_true hb⟩
  have n:=r.n
  change isN (c:Int) at n
  have hz:(c:Int)%p≠0:=by rw [QaR n]; exact r.z
  have go:∀ (u:Int) (v t:Nat),isN u→v<PN→(t:Int)=(c:Int)*u%p→t=c*v%PN→u=(v:Int):=fun u v t hu hv e1 e2=>by
    have e3:((c*v%PN:Nat):Int)=(c:Int)*v%p:=Qj2 c v
    rw [e2,e3] at e1
    have e4:((c:Int)*(u-v))%p=0:=by
      rw [show (c:Int)*(u-v)=c*u-c*v by grind,Int.sub_emod,e1]
      simp
    have e5:=Qf4 ((Qf5 e4).resolve_left hz)
    have hvN:isN (v:Int):=⟨Int.natCast_nonneg v,by rw [←QfJ]; exact Int.ofNat_lt.2 hv⟩
    rwa [QaR hu,QaR hvN] at e5
  exact Prod.ext (go P.1 x a on.x hx r.hx hq.1) (go P.2 y b on.y hy r.hy hq.2)
def neN (a b c d:Nat):Nat:=bif Nat.beq a 0&&Nat.beq b c then 1 else 2
theorem base_ne (ks : List Int) (n:Nat) (hbits:QaH ks=Qci n 256) (hrun:ordG neN 15112221349535400772501151409588531511454012693041857206046113283949847762202 46316835694926478169428394003475163141307993866256225615783033603165251855960 1 46827403850823179245072216630277197565144205554125654976674165829533817101731 n 256 0 1 1 0=2):pa ks≠Qc0:=by
  obtain ⟨a,b,c,d,h1,r⟩:=Qie neN ks n hbits
  rw [hrun] at h1
  intro e
  rw [e] at r
  have hX:(a:Int)=(c:Int)*0%p:=r.hx
  have hY:(b:Int)=(c:Int)*1%p:=r.hy
  have n:=r.n
  change isN (c:Int) at n
  have ha:a=0:=by simp at hX; omega
  have hb:b=c:=by rw [Int.mul_one,QaR n] at hY; exact Int.ofNat_inj.1 hY
  rw [ha,hb] at h1
  unfold neN at h1
  rw [show Nat.beq 0 0=true from rfl,show Nat.beq c c=true from Nat.beq_refl c] at h1
  exact absurd h1 (by decide)
theorem encP_inj {P Q:Int×Int} (h:OnP P) (k:OnP Q) (e:encP P=encP Q):P=Q:=by
  obtain ⟨h1,h2⟩:=QmF h.y k.y e
  refine Prod.ext ?_ h1
  have hc:=k.c
  rw [←h1] at hc
  exact QmH h.x k.x h.c hc h2
end Go.Proofs.YtdoadngmgmdlbaaDoor.Field
namespace Go.Proofs.YtdoadngmgmdlbaaDoor.Sgn
open Go Go.RowKit
open Rely Auto Own Sha5
open Ladder (clamp)
open Field (Qao resN numA num lims QbQ ordL Qbq QbS QbR QaP encP Qbo pa QcT pAdd pNeg mulP QcG okK xK zK mulR BP QbU numB nmul OnP Qc0)
def k7 : List Int:=[7,0,0,0,0,0,0,0,0,0,0,0,0,0,0,0,0,0,0,0,0,0,0,0,0,0,0,0,0,0,0,0]
theorem dig7 : dig k7=[30,99,235,65,17,182,247,76,178,83,156,158,43,100,56,169,221,155,58,236,127,8,57,33,240,97,130,41,171,190,109,223,133,0,0,169,105,225,93,50,128,27,49,80,119,34,43,201,50,214,165,55,186,99,169,213,1,248,60,63,148,211,115,144]:=by decide +kernel
theorem sec7 : secV k7=[24,99,235,65,17,182,247,76,178,83,156,158,43,100,56,169,221,155,58,236,127,8,57,33,240,97,130,41,171,190,109,95]:=by
  unfold secV
  rw [dig7]
  decide +kernel
theorem pre7 : preV k7=[133,0,0,169,105,225,93,50,128,27,49,80,119,34,43,201,50,214,165,55,186,99,169,213,1,248,60,63,148,211,115,144]:=by
  unfold preV
  rw [dig7]
  rfl
theorem pub7 : pubV k7=[162,250,47,74,53,91,162,233,7,165,48,9,233,227,124,173,223,122,199,230,106,8,186,7,99,31,85,48,114,179,242,76]:=by
  unfold pubV
  rw [sec7,Field.base_at [24,99,235,65,17,182,247,76,178,83,156,158,43,100,56,169,221,155,58,236,127,8,57,33,240,97,130,41,171,190,109,95] 43163622891799361314102505944223169546670986980999473268784120504132559397656 20187714700615140322123252784420260477325471643504923403589101600785086395188 34804591973124617498858403915480461027353086822251904420926902256832544242338 (by decide +kernel) (by decide) (by decide) (by decide +kernel)]
  decide +kernel
theorem r7 : sgR k7 [97,98]=[9,117,211,145,147,172,215,196,69,239,17,36,109,136,27,231,19,205,5,176,149,254,130,237,102,181,124,249,83,223,131,1]:=by
  unfold sgR resV
  rw [pre7]
  decide +kernel
theorem f7 : sgF k7 [97,98]=[88,220,12,51,109,77,26,43,33,238,75,152,247,173,26,48,67,116,127,246,2,8,1,74,205,1,113,229,229,248,66,68]:=by
  unfold sgF
  rw [r7,Field.base_at [9,117,211,145,147,172,215,196,69,239,17,36,109,136,27,231,19,205,5,176,149,254,130,237,102,181,124,249,83,223,131,1] 685311167454205173398291671160860818199994811073560760809443716574227952905 31334764600522950466539810408690655280232693241631767212220445267832540044198 30875603441022281803856730662798123229495602649832929132319990546114122931288 (by decide +kernel) (by decide) (by decide) (by decide +kernel)]
  decide +kernel
theorem k7a : sgK k7 [97,98]=[191,137,176,14,22,59,105,160,233,99,53,31,119,199,77,222,195,188,247,51,69,83,49,71,172,4,25,73,106,85,10,14]:=by
  unfold sgK resV
  rw [f7,pub7]
  decide +kernel
theorem k7b : resV (sgF k7 [97,98]++pubV k7++[98])=[11,213,220,147,118,118,129,91,60,181,33,253,36,225,179,172,154,80,193,99,192,147,214,240,152,74,160,78,233,133,128,5]:=by
  unfold resV
  rw [f7,pub7]
  decide +kernel
theorem m7 : pa [159,76,174,155,231,162,47,11,50,143,67,236,20,191,92,21,248,176,168,203,116,171,168,233,60,214,249,162,108,243,142,8]≠Qc0:=Field.base_ne _ 3871075125064540017153249593565511684186084678562295577143101991501704350879 (by decide +kernel) (by decide +kernel)
theorem ver7 : verV (pubV k7) (sigV k7 [97,98]) [98]=false:=by
  unfold verV
  rw [Qgh,Qgi,Qid,(QfV k7).1]
  have hne:eqV (pubV k7) (sgF k7 [97,98]) (sgS k7 [97,98]) (resV (sgF k7 [97,98]++pubV k7++[98]))≠sgF k7 [97,98]:=fun e=>by
    unfold eqV at e
    have hkb:=Qds (sgF k7 [97,98]++pubV k7++[98])
    rw [k7b] at e hkb
    rw [QhN k7 _ hkb,Qlx,k7a,sec7] at e
    generalize hu:numB [191,137,176,14,22,59,105,160,233,99,53,31,119,199,77,222,195,188,247,51,69,83,49,71,172,4,25,73,106,85,10,14]*numB [24,99,235,65,17,182,247,76,178,83,156,158,43,100,56,169,221,155,58,236,127,8,57,33,240,97,130,41,171,190,109,95]=u at e
    generalize hv:numB [11,213,220,147,118,118,129,91,60,181,33,253,36,225,179,172,154,80,193,99,192,147,214,240,152,74,160,78,233,133,128,5]*numB [24,99,235,65,17,182,247,76,178,83,156,158,43,100,56,169,221,155,58,236,127,8,57,33,240,97,130,41,171,190,109,95]=v at e
    have hR:=QcT (sgR k7 [97,98])
    have hA:OnP (nmul u BP):=Field.nmul_on QbU _
    have hB:OnP (nmul v BP):=Field.nmul_on QbU _
    unfold sgF at e
    have e1:=Field.encP_inj (Field.pAdd_on (Field.pAdd_on hA hR) (Field.pNeg_on hB)) hR e
    generalize pa (sgR k7 [97,98])=R at e1 hR
    -- u B + R - v B = R
    have e2:nmul u BP=nmul v BP:=by
      have h1:=congrArg (fun z=>pAdd z (nmul v BP)) e1
      try simp only at h1
      rw [Field.pAdd_assoc (Field.pAdd_on hA hR) (Field.pNeg_on hB) hB,Field.pAdd_comm (pNeg _) (nmul v BP),Field.pAdd_neg hB,Field.pAdd_zero (Field.pAdd_on hA hR)] at h1
      have h2:=congrArg (fun z=>pAdd z (pNeg R)) h1
      try simp only at h2
      rw [Field.pAdd_assoc hA hR (Field.pNeg_on hR),Field.pAdd_neg hR,Field.pAdd_zero hA,Field.pAdd_comm R (nmul v BP),Field.pAdd_assoc hB hR (Field.pNeg_on hR),Field.pAdd_neg hR,Field.pAdd_zero hB] at h2
      exact h2
    have e3:nmul (u+204956450087291587675963500455654338431229587365018877447990055043383073448384096868951621298659618195474085489996022217861629608554041961735234344930096) BP=nmul (v+204956450087291587675963500455654338431229587365018877447990055043383073448384096868951621298659618195474085489996022217861629608554041961735234344930096) BP:=by
      rw [Field.nmul_add QbU,Field.nmul_add QbU,e2]
    have e4:(v+204956450087291587675963500455654338431229587365018877447990055043383073448384096868951621298659618195474085489996022217861629608554041961735234344930096)%ordL.toNat=0:=by
      rw [←hv]
      decide +kernel
    have e5:(u+204956450087291587675963500455654338431229587365018877447990055043383073448384096868951621298659618195474085489996022217861629608554041961735234344930096)%ordL.toNat=3871075125064540017153249593565511684186084678562295577143101991501704350879:=by
      rw [←hu]
      decide +kernel
    rw [←Field.nmul_mod QbU _ Field.order_mul (v+_),e4,←Field.nmul_mod QbU _ Field.order_mul (u+_),e5] at e3
    refine m7 ?_
    have hmb:Qak [159,76,174,155,231,162,47,11,50,143,67,236,20,191,92,21,248,176,168,203,116,171,168,233,60,214,249,162,108,243,142,8]:=by unfold Qak; decide
    unfold pa
    rw [Field.climb_num QbU _ hmb,show numB [159,76,174,155,231,162,47,11,50,143,67,236,20,191,92,21,248,176,168,203,116,171,168,233,60,214,249,162,108,243,142,8]=3871075125064540017153249593565511684186084678562295577143101991501704350879 by decide +kernel,e3]
    rfl
  rw [decide_eq_false hne]
  rfl
end Go.Proofs.YtdoadngmgmdlbaaDoor.Sgn
end
section
namespace Go.Proofs.YtdoadngmgmdlbaaDoor.Own
open Go Go.RowKit
open Rely Auto
theorem QhY (pl : Nat→Option (Nat×Nat)):∀ (ps:List (Nat×Nat×Value×Array Value)) (pre:List (Array Value)) (rest:Array Value) (off:Nat),(cat pre).size=off→okPl pl off ps→tot ps=rest.size →
    Instr.fill pl (cat pre++rest) (ps.map fun x=>(x.1,x.2.2.1))=some (cat (pre++ps.map fun x=>x.2.2.2))
  | [],pre,rest,off,_,_,ht=>by
    have:rest=#[]:=Array.eq_empty_of_size_eq_zero ht.symm
    subst this
    simp [Instr.fill]
  | (i,n,v,p)::r,pre,rest,off,hoff,⟨h1,h2,h3,h4⟩,ht=>by
    subst h2
    have hn:n≤rest.size:=by rw [←ht,tot]; omega
    simp only [List.map_cons,Instr.fill,h1,h3]
    rw [if_neg (by simp; omega)]
    have hz:(v.cells.zipIdx.foldl (fun cs (x:Value×Nat)=>cs.setIfInBounds (off+x.2) x.1) (cat pre++rest))=cat (pre++[v.cells])++rest.extract n rest.size:=by
      have e1:v.cells.zipIdx=(v.cells.toList.zipIdx 0).toArray:=by
        apply Array.ext'
        simp
      rw [e1,List.foldl_toArray',Qe2]
      · have e2:rest=rest.extract 0 n++rest.extract n rest.size:=by
          rw [Array.extract_append_extract,Nat.max_eq_right hn]
          simp
        have e3:(cat pre++rest)=cat (pre++([rest.extract 0 n]++[rest.extract n rest.size])):=by
          rw [QaJ]
          congr 1
        rw [Nat.add_zero,e3]
        have:=QiC pre [rest.extract 0 n] [v.cells] [rest.extract n rest.size] off hoff (by show v.cells.size=(rest.extract 0 n).size; simp; omega)
        rw [show (cat [v.cells]).toList=v.cells.toList from rfl] at this
        rw [this,←List.append_assoc,QaJ (pre++[v.cells])]
        rfl
      · rfl
    have key:=QhY pl r (pre++[v.cells]) (rest.extract n rest.size) (off+n) (by rw [QaJ]; show (cat pre++v.cells).size=_; simp; omega) h4 (by simp; rw [←ht,tot]; omega)
    rw [←hz] at key
    rw [List.append_assoc] at key
    exact key
theorem Qhc {P : Program} {ρ:Operand→Value} {o:Oper} {w:World} (t e:TypeId) (len:Nat) (parts:Array (Nat×Operand)) (z:Value) (ps:List (Nat×Nat×Value×Array Value))
    (ho:o.op=.buildSlice t len parts) (hv:(parts.map fun (i,x)=>(i,ρ x)).toList=ps.map fun x=>(x.1,x.2.2.1)) (hu:P.underlying t=some (.slice e))
    (hi:(P.info? e).map (fun i=>(i.zero,i.size))=some (some z,32)) (hp:okPl (fun i=>some (i*32,32)) 0 ps) (ht:tot ps=len*32) (h0:0<len) (hl:len≤1000) :
    (execOp ρ o).run P w=.ok (.value (.slice (some ⟨w.heap.size,0,none⟩) len len)) (w.alloc (.cells (cat (ps.map fun x=>x.2.2.2)) e)):=by
  cases hq:P.info? e with
  | none=>rw [hq] at hi; cases hi
  | some i =>
    rw [hq] at hi
    simp only [Option.map_some,Option.some.injEq,Prod.mk.injEq] at hi
    obtain ⟨hz,hs⟩:=hi
    have hf:=QhY (fun i=>some (i*32,32)) ps [] ((Array.range (len*32)).map (z.cells[·%z.cells.size]!)) 0 rfl hp (by rw [ht,Array.size_map,Array.size_range])
    rw [show cat []++(Array.range (len*32)).map (z.cells[·%z.cells.size]!)=(Array.range (len*32)).map (z.cells[·%z.cells.size]!) by simp [cat],List.nil_append,←hv] at hf
    have:=run_buildSlice (P:=P) w t e len (parts.map fun (i,x)=>(i,ρ x)) (cat (ps.map fun x=>x.2.2.2)) i z hu hq hz (by rw [hs]; omega) (by rw [hs]; omega) (by rw [hs]; exact hf)
    unfold execOp
    simp only [ho,Sem.run_bind,this,Result.andThen_ok,Sem.run_pure]
end Go.Proofs.YtdoadngmgmdlbaaDoor.Own
end
section
namespace Go.Proofs.YtdoadngmgmdlbaaDoor.Sgn
open Go Go.RowKit
open Rely Auto Own Sha5
open Ladder (clamp)
open Field (Qao resN numA num lims QbQ ordL Qbq QbS QbR QaP encP Qbo pa QcT pAdd pNeg mulP QcG okK xK zK lK mulR BP QbU numB nmul OnP Qc0)
structure Tabs (tc tq tO tB tX tY : TypeId) (w : World) : Prop where
  c:w.heap[5]? = some (.cells (ints .u64 QcB) tc)
  q:w.heap[4]? = some (.cells (ints .u64 Qb9) tq)
  o:w.heap[3]? = some (.cells QbQ tO)
  b:w.heap[2]? = some (.cells (ints .u8 Qbq) tB)
  x:w.heap[0]? = some (.cells (ints .u8 QbS) tX)
  y:w.heap[1]? = some (.cells (ints .u8 QbR) tY)
theorem Tabs.ext {tc tq tO tB tX tY:TypeId} {w W:World} (h:Tabs tc tq tO tB tX tY w) (e:Ext w W):Tabs tc tq tO tB tX tY W:=⟨Qaa h.c e,Qaa h.q e,Qaa h.o e,Qaa h.b e,Qaa h.x e,Qaa h.y e⟩
theorem Qlt (xs : List Int) (hx:xs.length=32) (hb:Qak xs) (tc tq tO tB tX tY:TypeId) (w:World) (hT:Tabs tc tq tO tB tX tY w):Calls Tryd.prog 19 #[.agg (ints .u8 xs)] w (Ret w (.tuple #[.agg (ints .u8 (secV xs)),.agg (ints .u8 (preV xs))])):=by
  unfold secV preV
  exact Qng xs hx hb tc tq w hT.c hT.q
theorem QnV (xs : List Int) (hxs:xs.length=32) (hbxs:Qak xs) (gh:Nat) (Th:TypeId) (gp n:Nat) (Tp:TypeId) (ps:List (Value×List Int)) (hn:ps.length=n) (hn9:n≤1000) (hone:∀ u∈ps.map Prod.fst,u.oneCell'=true) (tc tq tO tB tX tY:TypeId) (w:World) (hT:Tabs tc tq tO tB tX tY w) (hheads:w.heap[gh]? = some (.cells (ints .u8 (xs)) Th)) (hrow:w.heap[gp]? = some (.cells (ps.map Prod.fst).toArray Tp)) (hps:∀ p∈ps,RdK .u8 w.heap.size p.2 p.1 w∧Qak p.2) (t:List Int) (ht:(ps.map Prod.snd).flatten=t) (hlen:t.length≤100000):Calls Tryd.prog 29 #[.slice (some ⟨gp,0,none⟩) n n,.slice (some ⟨gh,0,none⟩) 1 1] w (Ret w (.agg (ints .u8 (resV (xs++t))))):=by
  subst ht
  unfold resV
  exact Qkr xs hxs hbxs gh Th gp n Tp ps hn hn9 hone tc tq tO w hT.c hT.q hT.o hheads hrow hps hlen
theorem Qnl (xs ys:List Int) (hxs:xs.length=32) (hbxs:Qak xs) (hys:ys.length=32) (hbys:Qak ys) (gh:Nat) (Th:TypeId) (gp n:Nat) (Tp:TypeId) (ps:List (Value×List Int)) (hn:ps.length=n) (hn9:n≤1000) (hone:∀ u∈ps.map Prod.fst,u.oneCell'=true) (tc tq tO tB tX tY:TypeId) (w:World) (hT:Tabs tc tq tO tB tX tY w) (hheads:w.heap[gh]? = some (.cells (cat [ints .u8 (xs),ints .u8 (ys)]) Th)) (hrow:w.heap[gp]? = some (.cells (ps.map Prod.fst).toArray Tp)) (hps:∀ p∈ps,RdK .u8 w.heap.size p.2 p.1 w∧Qak p.2) (t:List Int) (ht:(ps.map Prod.snd).flatten=t) (hlen:t.length≤100000):Calls Tryd.prog 29 #[.slice (some ⟨gp,0,none⟩) n n,.slice (some ⟨gh,0,none⟩) 2 2] w (Ret w (.agg (ints .u8 (resV (xs++ys++t))))):=by
  subst ht
  unfold resV
  exact Qkq xs ys hxs hbxs hys hbys gh Th gp n Tp ps hn hn9 hone tc tq tO w hT.c hT.q hT.o hheads hrow hps hlen
theorem QlS (xs : List Int) (hx:xs.length=32) (hb:Qak xs) (tc tq tO tB tX tY:TypeId) (w:World) (hT:Tabs tc tq tO tB tX tY w):Calls Tryd.prog 10 #[.agg (ints .u8 xs)] w (Ret w (.agg (ints .u8 (encP (pa (secV xs)))))):=by
  refine enter 14 [(0,.agg (ints .u8 (xs)))] Tryd.func10 rfl rfl kj rfl ?_
  refine wp_seq_k fun K1 hK1=>?_
  refine Qad ?_
  refine Qaj (ints .u8 (xs)) 23 1 rfl kj kj fun g2 W1 l2 e1 r2_1=>?_
  have x1:Ext w W1:=Ext.tr (Rely.Ext.refl w) e1
  have b2:w.heap.size≤g2:=qT (Rely.Ext.refl w).size l2
  refine Qaj (ints .u8 (List.replicate 32 0)) 23 2 rfl kj kj fun g3 W2 l3 e2 r3_2=>?_
  have x2:Ext w W2:=Ext.tr x1 e2
  have b3:w.heap.size≤g3:=qT x1.size l3
  refine Qag ?_
  refine hK1 _ _ ?_
  refine wp_seq_k fun K4 hK4=>?_
  refine Qad ?_
  have r2_2:=(Qaa r2_1 e2)
  refine Qab (.agg (ints .u8 (xs))) 6 rfl kj (Qae 23 _ g2 23 _ _ r2_2 rfl kj kj (isz (n:=32) kj ((Qaf _ _).trans hx))) ?_
  refine Qar (.tuple #[.agg (ints .u8 (secV xs)),.agg (ints .u8 (preV xs))]) 19 #[.agg (ints .u8 (xs))] 7 rfl kj kj (Qlt xs hx hb tc tq tO tB tX tY _ (hT.ext x2)) fun W3 e3=>?_
  have x3:Ext w W3:=Ext.tr x2 e3
  refine Qab (.tuple #[.agg (ints .u8 (secV xs)),.agg (ints .u8 (preV xs))]) 5 rfl kj kj ?_
  refine Qab (.agg (ints .u8 (secV xs))) 8 rfl kj kj ?_
  refine Qab (.agg (ints .u8 (preV xs))) 9 rfl kj kj ?_
  refine Qaj (ints .u8 (List.replicate 32 0)) 23 3 rfl kj kj fun g5 W4 l5 e4 r5_4=>?_
  have x4:Ext w W4:=Ext.tr x3 e4
  have b5:w.heap.size≤g5:=qT x3.size l5
  refine Qaj (ints .u8 (List.replicate 32 0)) 23 4 rfl kj kj fun g6 W5 l6 e5 r6_5=>?_
  have x5:Ext w W5:=Ext.tr x4 e5
  have b6:w.heap.size≤g6:=qT x4.size l6
  have r5_5:=(Qaa r5_4 e5)
  refine Qal g5 _ (ints .u8 (secV xs)) 23 r5_5 rfl kj (Qai 23 _ _ g5 23 _ _ r5_5 rfl kj kj (isz (n:=32) kj ((Qaf _ _).trans (Qce xs))) (eqsz (n:=32) ((Qaf _ _).trans (qZ (n:=32))) ((Qaf _ _).trans (Qce xs))) (ints_one _ _)) fun W6 p6 r5_6=>?_
  have x6:Ext w W6:=Puts.ext p6 x5 b5
  have r6_6:=(Puts.row p6 r6_5 (Qat r5_4 l6))
  refine Qal g6 _ (ints .u8 (preV xs)) 23 r6_6 rfl kj (Qai 23 _ _ g6 23 _ _ r6_6 rfl kj kj (isz (n:=32) kj ((Qaf _ _).trans (QcR xs))) (eqsz (n:=32) ((Qaf _ _).trans (qZ (n:=32))) ((Qaf _ _).trans (QcR xs))) (ints_one _ _)) fun W7 p7 r6_7=>?_
  have x7:Ext w W7:=Puts.ext p7 x6 b6
  refine Qag ?_
  refine hK4 _ _ ?_
  refine wp_seq_k fun K7 hK7=>?_
  refine QaB 4 [⟨none,[]⟩,⟨none,[(3,none)]⟩,⟨none,[(10,some 0),(11,some 1)]⟩,⟨none,[(12,some 2)]⟩] kj kj fun F hF=>?_
  refine Qaq (.agg (Field.ptA (BP))) 20 #[] kj kj (fun W=>kj) (fun W hR=>Field.ptBase W tX (hT.ext (Rely.Ext.trans (Rely.Ext.trans x7 (Qah _)) hR)).x tY (hT.ext (Rely.Ext.trans (Rely.Ext.trans x7 (Qah _)) hR)).y) ?_
  have r5_7:=(Puts.row p7 r5_6 (Qac r5_4 l6))
  refine Qam (.agg (ints .u8 (secV xs))) kj kj (fun W hR=>(Qae 23 _ g5 23 _ _ (Qaa (Qaa r5_7 (Qah _)) hR) rfl kj kj (isz (n:=32) kj ((Qaf _ _).trans (Qce xs))))) ?_
  refine Qaq (.agg (Field.ptA (pa (secV xs)))) 21 #[.agg (Field.ptA (BP)),.agg (ints .u8 (secV xs))] kj kj (fun W=>kj) (fun W hR=>Field.ptTimes QbU (secV xs) (Qce xs) (QcK xs) W tB (hT.ext (Rely.Ext.trans (Rely.Ext.trans x7 (Qah _)) hR)).b) ?_
  refine Qaq (.agg (ints .u8 (encP (pa (secV xs))))) 22 #[.agg (Field.ptA (pa (secV xs)))] kj kj (fun W=>kj) (fun W hR=>Field.ptBytes (QcT (secV xs)) W) ?_
  refine Qa3 (hF _ kj fun W8 e8=>?_)
  simp only [ups,up,Kn.val,List.take_succ_cons,List.take_zero,List.drop_succ_cons,List.drop_zero,List.nil_append,List.cons_append]
  clear hF
  have x8:Ext w W8:=Ext.tr x7 e8
  have r3_3:=(Qaa r3_2 e3)
  have r3_4:=(Qaa r3_3 e4)
  have r3_5:=(Qaa r3_4 e5)
  have r3_6:=(Puts.row p6 r3_5 (Qac r3_3 l5))
  have r3_7:=(Puts.row p7 r3_6 (Qac r3_4 l6))
  have r3_8:=(Qaa r3_7 e8)
  refine Qal g3 _ (ints .u8 (encP (pa (secV xs)))) 23 r3_8 rfl kj (Qai 23 _ _ g3 23 _ _ r3_8 rfl kj kj (isz (n:=32) kj ((Qaf _ _).trans (Qbo _))) (eqsz (n:=32) ((Qaf _ _).trans (qZ (n:=32))) ((Qaf _ _).trans (Qbo _))) (ints_one _ _)) fun W9 p9 r3_9=>?_
  have x9:Ext w W9:=Puts.ext p9 x8 b3
  refine Qag ?_
  refine hK7 _ _ ?_
  refine wp_ret ?_
  repeat (first | with_reducible refine goR1 ?_ | with_reducible refine goR2 ?_)
  exact (show bodyPost _ _ _ .ret _ _ from ret1 (.agg (ints .u8 (encP (pa (secV xs))))) rfl (Qa9 g3 23 _ r3_9 kj kj (isz (n:=32) kj ((Qaf _ _).trans (Qbo _)))) ⟨rfl,x9⟩)
theorem Qjk (xs : List Int) (hx:xs.length=32) (hb:Qak xs) (tc tq tO tB tX tY:TypeId) (w:World) (hT:Tabs tc tq tO tB tX tY w):Calls Tryd.prog 10 #[.agg (ints .u8 xs)] w (Ret w (.agg (ints .u8 (pubV xs)))):=by
  unfold pubV
  exact QlS xs hx hb tc tq tO tB tX tY w hT
end Go.Proofs.YtdoadngmgmdlbaaDoor.Sgn
end
section
namespace Go.Proofs.YtdoadngmgmdlbaaDoor.Sgn
open Go Go.RowKit
open Rely Auto Own Sha5
open Ladder (clamp)
open Field (Qao resN numA num lims QbQ ordL Qbq QbS QbR QaP encP Qbo pa QcT pAdd pNeg mulP QcG okK xK zK lK mulR BP QbU numB nmul OnP Qc0)
theorem QlT (xs : List Int):encP (pa (secV xs))=pubV xs:=by unfold pubV; rfl
theorem Qni (xs t:List Int):resV (preV xs++t)=sgR xs t:=by unfold sgR; rfl
theorem Qnk (xs t:List Int):encP (pa (sgR xs t))=sgF xs t:=by unfold sgF; rfl
theorem Qnj (xs t:List Int):resV (sgF xs t++pubV xs++t)=sgK xs t:=by unfold sgK; rfl
theorem Qnh (xs t:List Int):Qao (mulR (sgK xs t) (secV xs) (sgR xs t))=sgS xs t:=by unfold sgS; rfl
theorem QlM (xs t:List Int):sgF xs t++sgS xs t=sigV xs t:=by unfold sigV; rfl
theorem QmJ {z : List Int} (h:z.length=32):(List.replicate 64 (0:Int)).take (0+0)++z.take 32++(List.replicate 64 (0:Int)).drop ((0+0)+32)=z++List.replicate 32 0:=by
  rw [List.take_of_length_le (qE h)]
  rfl
theorem QmK {a z:List Int} (ha:a.length=32) (h:z.length=32):(a++List.replicate 32 (0:Int)).take (0+32)++z.take 32++(a++List.replicate 32 (0:Int)).drop ((0+32)+32)=a++z:=by
  rw [List.take_of_length_le (qE h),List.take_left' ha,List.drop_of_length_le (by rw [List.length_append,ha,qZ]; decide),List.append_nil]
theorem Qof {a z:List Int} (ha:a.length=32) (h:z.length=32):(a++z).length=64:=by rw [List.length_append,ha,h]
theorem QlL (xs : List Int) (hx:xs.length=32) (hb:Qak xs) (gp n:Nat) (Tp:TypeId) (ps:List (Value×List Int)) (hn:ps.length=n) (hn9:n≤1000) (hone:∀ u∈ps.map Prod.fst,u.oneCell'=true) (tc tq tO tB tX tY:TypeId) (w:World) (hT:Tabs tc tq tO tB tX tY w) (hrow:w.heap[gp]? = some (.cells (ps.map Prod.fst).toArray Tp)) (hps:∀ p∈ps,RdK .u8 w.heap.size p.2 p.1 w∧Qak p.2) (t:List Int) (ht:(ps.map Prod.snd).flatten=t) (hlen:t.length≤100000):Calls Tryd.prog 13 #[.agg (ints .u8 xs),.slice (some ⟨gp,0,none⟩) n n] w (Ret w (.agg (ints .u8 (sigV xs t)))):=by
  refine enter 46 [(0,.agg (ints .u8 (xs))),(1,.slice (some ⟨gp,0,none⟩) n n)] Tryd.func13 rfl rfl kj rfl ?_
  refine wp_seq_k fun K2 hK2=>?_
  refine Qad ?_
  refine Qaj (ints .u8 (xs)) 23 2 rfl kj kj fun g3 W1 l3 e1 r3_1=>?_
  have x1:Ext w W1:=Ext.tr (Rely.Ext.refl w) e1
  have b3:w.heap.size≤g3:=qT (Rely.Ext.refl w).size l3
  refine Qaj (ints .u8 (List.replicate 64 0)) 30 4 rfl kj kj fun g4 W2 l4 e2 r4_2=>?_
  have x2:Ext w W2:=Ext.tr x1 e2
  have b4:w.heap.size≤g4:=qT x1.size l4
  refine Qag ?_
  refine hK2 _ _ ?_
  refine wp_seq_k fun K5 hK5=>?_
  refine Qad ?_
  have r3_2:=(Qaa r3_1 e2)
  refine Qab (.agg (ints .u8 (xs))) 14 rfl kj (Qae 23 _ g3 23 _ _ r3_2 rfl kj kj (isz (n:=32) kj ((Qaf _ _).trans hx))) ?_
  refine Qar (.tuple #[.agg (ints .u8 (secV xs)),.agg (ints .u8 (preV xs))]) 19 #[.agg (ints .u8 (xs))] 15 rfl kj kj (Qlt xs hx hb tc tq tO tB tX tY _ (hT.ext x2)) fun W3 e3=>?_
  have x3:Ext w W3:=Ext.tr x2 e3
  refine Qab (.tuple #[.agg (ints .u8 (secV xs)),.agg (ints .u8 (preV xs))]) 13 rfl kj kj ?_
  refine Qab (.agg (ints .u8 (secV xs))) 16 rfl kj kj ?_
  refine Qab (.agg (ints .u8 (preV xs))) 17 rfl kj kj ?_
  refine Qaj (ints .u8 (List.replicate 32 0)) 23 5 rfl kj kj fun g6 W4 l6 e4 r6_4=>?_
  have x4:Ext w W4:=Ext.tr x3 e4
  have b6:w.heap.size≤g6:=qT x3.size l6
  refine Qaj (ints .u8 (List.replicate 32 0)) 23 6 rfl kj kj fun g7 W5 l7 e5 r7_5=>?_
  have x5:Ext w W5:=Ext.tr x4 e5
  have b7:w.heap.size≤g7:=qT x4.size l7
  have r6_5:=(Qaa r6_4 e5)
  refine Qal g6 _ (ints .u8 (secV xs)) 23 r6_5 rfl kj (Qai 23 _ _ g6 23 _ _ r6_5 rfl kj kj (isz (n:=32) kj ((Qaf _ _).trans (Qce xs))) (eqsz (n:=32) ((Qaf _ _).trans (qZ (n:=32))) ((Qaf _ _).trans (Qce xs))) (ints_one _ _)) fun W6 p6 r6_6=>?_
  have x6:Ext w W6:=Puts.ext p6 x5 b6
  have r7_6:=(Puts.row p6 r7_5 (Qat r6_4 l7))
  refine Qal g7 _ (ints .u8 (preV xs)) 23 r7_6 rfl kj (Qai 23 _ _ g7 23 _ _ r7_6 rfl kj kj (isz (n:=32) kj ((Qaf _ _).trans (QcR xs))) (eqsz (n:=32) ((Qaf _ _).trans (qZ (n:=32))) ((Qaf _ _).trans (QcR xs))) (ints_one _ _)) fun W7 p7 r7_7=>?_
  have x7:Ext w W7:=Puts.ext p7 x6 b7
  refine Qag ?_
  refine hK5 _ _ ?_
  refine wp_seq_k fun K8 hK8=>?_
  refine Qbc 5 [⟨none,[]⟩,⟨none,[(5,none)]⟩,⟨none,[(18,some 0),(19,some 1)]⟩,⟨none,[(20,some 2)]⟩,⟨none,[]⟩] [4] kj kj kj fun F hF=>?_
  refine Qaq (.agg (Field.ptA (BP))) 20 #[] kj kj (fun W=>kj) (fun W hR=>Field.ptBase W tX (hT.ext (Rely.Ext.trans (Rely.Ext.trans x7 (Qah _)) hR)).x tY (hT.ext (Rely.Ext.trans (Rely.Ext.trans x7 (Qah _)) hR)).y) ?_
  have r6_7:=(Puts.row p7 r6_6 (Qac r6_4 l7))
  refine Qam (.agg (ints .u8 (secV xs))) kj kj (fun W hR=>(Qae 23 _ g6 23 _ _ (Qaa (Qaa r6_7 (Qah _)) hR) rfl kj kj (isz (n:=32) kj ((Qaf _ _).trans (Qce xs))))) ?_
  refine Qaq (.agg (Field.ptA (pa (secV xs)))) 21 #[.agg (Field.ptA (BP)),.agg (ints .u8 (secV xs))] kj kj (fun W=>kj) (fun W hR=>Field.ptTimes QbU (secV xs) (Qce xs) (QcK xs) W tB (hT.ext (Rely.Ext.trans (Rely.Ext.trans x7 (Qah _)) hR)).b) ?_
  refine Qaq (.agg (ints .u8 (encP (pa (secV xs))))) 22 #[.agg (Field.ptA (pa (secV xs)))] kj kj (fun W=>kj) (fun W hR=>Field.ptBytes (QcT (secV xs)) W) ?_
  refine QbI (ints .u8 (List.replicate 32 0)) 23 kj (qR _) kj (fun W=>kj) ?_
  refine Qa3 (hF _ kj fun W8 e8=>?_)
  simp only [fins,up,List.take_succ_cons,List.take_zero,List.drop_succ_cons,List.drop_zero,List.nil_append,List.cons_append]
  intro g9 l9 r9_8 n9
  have b9:w.heap.size≤g9:=qT x7.size l9
  clear hF
  have x8:Ext w W8:=Ext.tr x7 e8
  refine Qal g9 _ (ints .u8 (encP (pa (secV xs)))) 23 r9_8 rfl kj (Qai 23 _ _ g9 23 _ _ r9_8 rfl kj kj (isz (n:=32) kj ((Qaf _ _).trans (Qbo _))) (eqsz (n:=32) ((Qaf _ _).trans (qZ (n:=32))) ((Qaf _ _).trans (Qbo _))) (ints_one _ _)) fun W9 p9 r9_9=>?_
  have x9:Ext w W9:=Puts.ext p9 x8 b9
  refine Qag ?_
  refine hK8 _ _ ?_
  refine wp_seq_k fun K10 hK10=>?_
  have r9_9_11:W9.heap[g9]? = some (.cells (ints .u8 (pubV xs)) 23):=QaY r9_9 (QlT xs)
  refine Qad ?_
  refine Qab (.slice (some ⟨gp,0,none⟩) n n) 22 rfl kj kj ?_
  have r7_8:=(Qaa r7_7 e8)
  have r7_9:=(Puts.row p9 r7_8 (Qac r7_7 l9))
  refine Qab (.agg (ints .u8 (preV xs))) 23 rfl kj (Qae 23 _ g7 23 _ _ r7_9 rfl kj kj (isz (n:=32) kj ((Qaf _ _).trans (QcR xs)))) ?_
  refine Qbd (ints .u8 (preV xs)) 23 1 24 rfl kj (Qhc (P:=Tryd.prog) 94 23 1 _ (.agg (ints .u8 (List.replicate 32 0))) ([(0,32,.agg (ints .u8 (preV xs)),ints .u8 (preV xs))]:List (Nat×Nat×Value×Array Value)) rfl kj kj kj ⟨rfl,rfl,(Qaf _ _).trans (QcR xs),trivial⟩ rfl (by decide) (by decide)) fun g12 W10 l12 e10 r12_10=>?_
  have x10:Ext w W10:=Ext.tr x9 e10
  have b12:w.heap.size≤g12:=qT x9.size l12
  have r1_1:=(Qaa hrow e1)
  have r1_2:=(Qaa r1_1 e2)
  have r1_3:=(Qaa r1_2 e3)
  have r1_4:=(Qaa r1_3 e4)
  have r1_5:=(Qaa r1_4 e5)
  have r1_6:=(Puts.row p6 r1_5 (Qac r1_3 l6))
  have r1_7:=(Puts.row p7 r1_6 (Qac r1_4 l7))
  have r1_8:=(Qaa r1_7 e8)
  have r1_9:=(Puts.row p9 r1_8 (Qac r1_7 l9))
  have r1_10:=(Qaa r1_9 e10)
  refine Qar (.agg (ints .u8 (resV ((preV xs)++t)))) 29 #[.slice (some ⟨gp,0,none⟩) n n,.slice (some ⟨g12,0,none⟩) 1 1] 25 rfl kj kj (QnV (preV xs) (QcR xs) (Qix xs) g12 _ gp n Tp ps hn hn9 hone tc tq tO tB tX tY _ (hT.ext x10) r12_10 r1_10 (fun p hp=>⟨RdK.here ((hps p hp).1.ext x10),(hps p hp).2⟩) t ht hlen) fun W11 e11=>?_
  have x11:Ext w W11:=Ext.tr x10 e11
  refine Qaj (ints .u8 (List.replicate 32 0)) 23 8 rfl kj kj fun g13 W12 l13 e12 r13_12=>?_
  have x12:Ext w W12:=Ext.tr x11 e12
  have b13:w.heap.size≤g13:=qT x11.size l13
  refine Qal g13 _ (ints .u8 (resV ((preV xs)++t))) 23 r13_12 rfl kj (Qai 23 _ _ g13 23 _ _ r13_12 rfl kj kj (isz (n:=32) kj ((Qaf _ _).trans (Qcn _))) (eqsz (n:=32) ((Qaf _ _).trans (qZ (n:=32))) ((Qaf _ _).trans (Qcn _))) (ints_one _ _)) fun W13 p13 r13_13=>?_
  have x13:Ext w W13:=Puts.ext p13 x12 b13
  refine Qag ?_
  refine hK10 _ _ ?_
  refine wp_seq_k fun K14 hK14=>?_
  have r13_13_15:W13.heap[g13]? = some (.cells (ints .u8 (sgR xs t)) 23):=QaY r13_13 (Qni xs t)
  refine Qbc 5 [⟨none,[]⟩,⟨none,[(8,none)]⟩,⟨none,[(26,some 0),(27,some 1)]⟩,⟨none,[(28,some 2)]⟩,⟨none,[]⟩] [4] kj kj kj fun F hF=>?_
  refine Qaq (.agg (Field.ptA (BP))) 20 #[] kj kj (fun W=>kj) (fun W hR=>Field.ptBase W tX (hT.ext (Rely.Ext.trans (Rely.Ext.trans x13 (Qah _)) hR)).x tY (hT.ext (Rely.Ext.trans (Rely.Ext.trans x13 (Qah _)) hR)).y) ?_
  refine Qam (.agg (ints .u8 (sgR xs t))) kj kj (fun W hR=>(Qae 23 _ g13 23 _ _ (Qaa (Qaa r13_13_15 (Qah _)) hR) rfl kj kj (isz (n:=32) kj ((Qaf _ _).trans (QeM xs t))))) ?_
  refine Qaq (.agg (Field.ptA (pa (sgR xs t)))) 21 #[.agg (Field.ptA (BP)),.agg (ints .u8 (sgR xs t))] kj kj (fun W=>kj) (fun W hR=>Field.ptTimes QbU (sgR xs t) (QeM xs t) (QdW xs t) W tB (hT.ext (Rely.Ext.trans (Rely.Ext.trans x13 (Qah _)) hR)).b) ?_
  refine Qaq (.agg (ints .u8 (encP (pa (sgR xs t))))) 22 #[.agg (Field.ptA (pa (sgR xs t)))] kj kj (fun W=>kj) (fun W hR=>Field.ptBytes (QcT (sgR xs t)) W) ?_
  refine QbI (ints .u8 (List.replicate 32 0)) 23 kj (qR _) kj (fun W=>kj) ?_
  refine Qa3 (hF _ kj fun W14 e14=>?_)
  simp only [fins,up,List.take_succ_cons,List.take_zero,List.drop_succ_cons,List.drop_zero,List.nil_append,List.cons_append]
  intro g16 l16 r16_14 n16
  have b16:w.heap.size≤g16:=qT x13.size l16
  clear hF
  have x14:Ext w W14:=Ext.tr x13 e14
  refine Qal g16 _ (ints .u8 (encP (pa (sgR xs t)))) 23 r16_14 rfl kj (Qai 23 _ _ g16 23 _ _ r16_14 rfl kj kj (isz (n:=32) kj ((Qaf _ _).trans (Qbo _))) (eqsz (n:=32) ((Qaf _ _).trans (qZ (n:=32))) ((Qaf _ _).trans (Qbo _))) (ints_one _ _)) fun W15 p15 r16_15=>?_
  have x15:Ext w W15:=Puts.ext p15 x14 b16
  refine Qag ?_
  refine hK14 _ _ ?_
  refine wp_seq_k fun K17 hK17=>?_
  have r16_15_18:W15.heap[g16]? = some (.cells (ints .u8 (sgF xs t)) 23):=QaY r16_15 (Qnk xs t)
  refine Qad ?_
  refine Qab (.slice (some ⟨gp,0,none⟩) n n) 30 rfl kj kj ?_
  refine Qab (.agg (ints .u8 (sgF xs t))) 31 rfl kj (Qae 23 _ g16 23 _ _ r16_15_18 rfl kj kj (isz (n:=32) kj ((Qaf _ _).trans (Qcr xs t)))) ?_
  have r9_10:=(Qaa r9_9_11 e10)
  have r9_11:=(Qaa r9_10 e11)
  have r9_12:=(Qaa r9_11 e12)
  have r9_13:=(Puts.row p13 r9_12 (Qac r9_11 l13))
  have r9_14:=(Qaa r9_13 e14)
  have r9_15:=(Puts.row p15 r9_14 (Qac r9_13 l16))
  refine Qab (.agg (ints .u8 (pubV xs))) 32 rfl kj (Qae 23 _ g9 23 _ _ r9_15 rfl kj kj (isz (n:=32) kj ((Qaf _ _).trans (Qco xs)))) ?_
  refine Qbd (cat [ints .u8 (sgF xs t),ints .u8 (pubV xs)]) 23 2 33 rfl kj (Qhc (P:=Tryd.prog) 94 23 2 _ (.agg (ints .u8 (List.replicate 32 0))) ([(0,32,.agg (ints .u8 (sgF xs t)),ints .u8 (sgF xs t)),(1,32,.agg (ints .u8 (pubV xs)),ints .u8 (pubV xs))]:List (Nat×Nat×Value×Array Value)) rfl kj kj kj ⟨rfl,rfl,(Qaf _ _).trans (Qcr xs t),rfl,rfl,(Qaf _ _).trans (Qco xs),trivial⟩ rfl (by decide) (by decide)) fun g19 W16 l19 e16 r19_16=>?_
  have x16:Ext w W16:=Ext.tr x15 e16
  have b19:w.heap.size≤g19:=qT x15.size l19
  have r1_11:=(Qaa r1_10 e11)
  have r1_12:=(Qaa r1_11 e12)
  have r1_13:=(Puts.row p13 r1_12 (Qac r1_11 l13))
  have r1_14:=(Qaa r1_13 e14)
  have r1_15:=(Puts.row p15 r1_14 (Qac r1_13 l16))
  have r1_16:=(Qaa r1_15 e16)
  refine Qar (.agg (ints .u8 (resV ((sgF xs t)++(pubV xs)++t)))) 29 #[.slice (some ⟨gp,0,none⟩) n n,.slice (some ⟨g19,0,none⟩) 2 2] 34 rfl kj kj (Qnl (sgF xs t) (pubV xs) (Qcr xs t) (Qgj xs t) (Qco xs) (Qdv xs) g19 _ gp n Tp ps hn hn9 hone tc tq tO tB tX tY _ (hT.ext x16) r19_16 r1_16 (fun p hp=>⟨RdK.here ((hps p hp).1.ext x16),(hps p hp).2⟩) t ht hlen) fun W17 e17=>?_
  have x17:Ext w W17:=Ext.tr x16 e17
  refine Qaj (ints .u8 (List.replicate 32 0)) 23 10 rfl kj kj fun g20 W18 l20 e18 r20_18=>?_
  have x18:Ext w W18:=Ext.tr x17 e18
  have b20:w.heap.size≤g20:=qT x17.size l20
  refine Qal g20 _ (ints .u8 (resV ((sgF xs t)++(pubV xs)++t))) 23 r20_18 rfl kj (Qai 23 _ _ g20 23 _ _ r20_18 rfl kj kj (isz (n:=32) kj ((Qaf _ _).trans (Qcn _))) (eqsz (n:=32) ((Qaf _ _).trans (qZ (n:=32))) ((Qaf _ _).trans (Qcn _))) (ints_one _ _)) fun W19 p19 r20_19=>?_
  have x19:Ext w W19:=Puts.ext p19 x18 b20
  refine Qag ?_
  refine hK17 _ _ ?_
  refine wp_seq_k fun K21 hK21=>?_
  have r20_19_22:W19.heap[g20]? = some (.cells (ints .u8 (sgK xs t)) 23):=QaY r20_19 (Qnj xs t)
  refine Qad ?_
  refine Qab (.agg (ints .u8 (sgK xs t))) 35 rfl kj (Qae 23 _ g20 23 _ _ r20_19_22 rfl kj kj (isz (n:=32) kj ((Qaf _ _).trans (QiV xs t)))) ?_
  have r6_8:=(Qaa r6_7 e8)
  have r6_9:=(Puts.row p9 r6_8 (Qac r6_7 l9))
  have r6_10:=(Qaa r6_9 e10)
  have r6_11:=(Qaa r6_10 e11)
  have r6_12:=(Qaa r6_11 e12)
  have r6_13:=(Puts.row p13 r6_12 (Qac r6_11 l13))
  have r6_14:=(Qaa r6_13 e14)
  have r6_15:=(Puts.row p15 r6_14 (Qac r6_13 l16))
  have r6_16:=(Qaa r6_15 e16)
  have r6_17:=(Qaa r6_16 e17)
  have r6_18:=(Qaa r6_17 e18)
  have r6_19:=(Puts.row p19 r6_18 (Qac r6_17 l20))
  refine Qab (.agg (ints .u8 (secV xs))) 36 rfl kj (Qae 23 _ g6 23 _ _ r6_19 rfl kj kj (isz (n:=32) kj ((Qaf _ _).trans (Qce xs)))) ?_
  have r13_14:=(Qaa r13_13_15 e14)
  have r13_15:=(Puts.row p15 r13_14 (Qac r13_13_15 l16))
  have r13_16:=(Qaa r13_15 e16)
  have r13_17:=(Qaa r13_16 e17)
  have r13_18:=(Qaa r13_17 e18)
  have r13_19:=(Puts.row p19 r13_18 (Qac r13_17 l20))
  refine Qab (.agg (ints .u8 (sgR xs t))) 37 rfl kj (Qae 23 _ g13 23 _ _ r13_19 rfl kj kj (isz (n:=32) kj ((Qaf _ _).trans (QeM xs t)))) ?_
  refine Qar (.agg (ints .u8 (Qao (mulR (sgK xs t) (secV xs) (sgR xs t))))) 30 #[.agg (ints .u8 (sgK xs t)),.agg (ints .u8 (secV xs)),.agg (ints .u8 (sgR xs t))] 38 rfl kj kj (Field.mulAddC (sgK xs t) (secV xs) (sgR xs t) (QiV xs t) (QeN xs t) (Qce xs) (QcK xs) (QeM xs t) (QdW xs t) _ tO (hT.ext x19).o) fun W20 e20=>?_
  have x20:Ext w W20:=Ext.tr x19 e20
  refine Qaj (ints .u8 (List.replicate 32 0)) 23 11 rfl kj kj fun g23 W21 l23 e21 r23_21=>?_
  have x21:Ext w W21:=Ext.tr x20 e21
  have b23:w.heap.size≤g23:=qT x20.size l23
  refine Qal g23 _ (ints .u8 (Qao (mulR (sgK xs t) (secV xs) (sgR xs t)))) 23 r23_21 rfl kj (Qai 23 _ _ g23 23 _ _ r23_21 rfl kj kj (isz (n:=32) kj ((Qaf _ _).trans (bytesOf_len _))) (eqsz (n:=32) ((Qaf _ _).trans (qZ (n:=32))) ((Qaf _ _).trans (bytesOf_len _))) (ints_one _ _)) fun W22 p22 r23_22=>?_
  have x22:Ext w W22:=Puts.ext p22 x21 b23
  refine Qag ?_
  refine hK21 _ _ ?_
  refine wp_seq_k fun K24 hK24=>?_
  have r23_22_25:W22.heap[g23]? = some (.cells (ints .u8 (sgS xs t)) 23):=QaY r23_22 (Qnh xs t)
  refine Qad ?_
  refine Qaj (ints .u8 (List.replicate 64 0)) 30 12 rfl kj kj fun g26 W23 l26 e23 r26_23=>?_
  have x23:Ext w W23:=Ext.tr x22 e23
  have b26:w.heap.size≤g26:=qT x22.size l26
  refine Qag ?_
  refine hK24 _ _ ?_
  refine wp_seq_k fun K27 hK27=>?_
  refine Qbb 2 [⟨none,[(12,none)]⟩,⟨none,[(9,none)]⟩] kj kj fun F hF=>?_
  refine Qbr (QaG _) (.slice (some ⟨g26,0+0,none⟩) (32-0) (64-0)) kj kj (fun W=>(Qbj 30 _ _ _ 0 32 64 g26 0 5 rfl kj kj kj rfl ⟨.i64,kj⟩ (by omega) (by omega) (by omega))) ?_
  refine Qbr (QaG _) (.slice (some ⟨g16,0,none⟩) 32 32) kj kj (fun W=>kj) ?_
  refine Qe7 (hF _ fun W24 e24=>?_)
  simp only [List.nil_append,List.cons_append,List.take_succ_cons,List.take_zero,List.drop_succ_cons,List.drop_zero,finE,up]
  clear hF
  have x24:Ext w W24:=Ext.tr x23 e24
  have r16_16:=(Qaa r16_15_18 e16)
  have r16_17:=(Qaa r16_16 e17)
  have r16_18:=(Qaa r16_17 e18)
  have r16_19:=(Puts.row p19 r16_18 (Qac r16_17 l20))
  have r16_20:=(Qaa r16_19 e20)
  have r16_21:=(Qaa r16_20 e21)
  have r16_22:=(Puts.row p22 r16_21 (Qac r16_20 l23))
  have r16_23:=(Qaa r16_22 e23)
  have r16_24:=(Qaa r16_23 e24)
  have hrd28:RdK .u8 W24.heap.size (sgF xs t) (.slice (some ⟨g16,0,none⟩) 32 32) W24:=QdA 0 (Qcr xs t) r16_24 (fun i hi=>by rw [Nat.zero_add]; exact Qaw .u8 _ i (by rw [Qcr xs t]; exact hi)) (Qa6 r16_24) (by decide) (by decide)
  have r26_24:=(Qaa r26_23 e24)
  refine QbN (k:=.u8) (e:=5) (z:=sgF xs t) (.tmp 39) (.tmp 40) 27 27 41 rfl kj kj rfl kj (off:=0+0) (dl:=32-0) (dc:=64-0) (n:=32) (xs:=List.replicate 64 0) kj kj hrd28 r26_24 (qT (show 0+0+(32-0)≤64 from (by decide)) (qE (qZ (n:=64)).symm)) (by rw [(Qcr xs t)]; rfl) fun W25 p25 r26_25=>?_
  have x25:Ext w W25:=Puts.ext p25 x24 b26
  have r26_25_29:W25.heap[g26]? = some (.cells (ints .u8 (sgF xs t++List.replicate 32 0)) 30):=QaY r26_25 (QmJ (Qcr xs t))
  refine Qag ?_
  refine hK27 _ _ ?_
  refine wp_seq_k fun K30 hK30=>?_
  refine Qbb 2 [⟨none,[(12,none)]⟩,⟨none,[(11,none)]⟩] kj kj fun F hF=>?_
  refine Qbr (QaG _) (.slice (some ⟨g26,0+32,none⟩) (64-32) (64-32)) kj kj (fun W=>(Qbj 30 _ _ _ 32 64 64 g26 0 5 rfl kj kj kj ⟨.i64,kj⟩ rfl (by omega) (by omega) (by omega))) ?_
  refine Qbr (QaG _) (.slice (some ⟨g23,0,none⟩) 32 32) kj kj (fun W=>kj) ?_
  refine Qe7 (hF _ fun W26 e26=>?_)
  simp only [List.nil_append,List.cons_append,List.take_succ_cons,List.take_zero,List.drop_succ_cons,List.drop_zero,finE,up]
  clear hF
  have x26:Ext w W26:=Ext.tr x25 e26
  have r23_23:=(Qaa r23_22_25 e23)
  have r23_24:=(Qaa r23_23 e24)
  have r23_25:=(Puts.row p25 r23_24 (Qac r23_22_25 l26))
  have r23_26:=(Qaa r23_25 e26)
  have hrd31:RdK .u8 W26.heap.size (sgS xs t) (.slice (some ⟨g23,0,none⟩) 32 32) W26:=QdA 0 (QeL xs t) r23_26 (fun i hi=>by rw [Nat.zero_add]; exact Qaw .u8 _ i (by rw [QeL xs t]; exact hi)) (Qa6 r23_26) (by decide) (by decide)
  have r26_26:=(Qaa r26_25_29 e26)
  refine QbN (k:=.u8) (e:=5) (z:=sgS xs t) (.tmp 42) (.tmp 43) 27 27 44 rfl kj kj rfl kj (off:=0+32) (dl:=64-32) (dc:=64-32) (n:=32) (xs:=sgF xs t++List.replicate 32 0) kj kj hrd31 r26_26 (qT (show 0+32+(64-32)≤64 from (by decide)) (qE (Qof (Qcr xs t) qZ).symm)) (by rw [(QeL xs t)]; rfl) fun W27 p27 r26_27=>?_
  have x27:Ext w W27:=Puts.ext p27 x26 b26
  have r26_27_32:W27.heap[g26]? = some (.cells (ints .u8 (sgF xs t++sgS xs t)) 30):=QaY r26_27 (QmK (Qcr xs t) (QeL xs t))
  refine Qag ?_
  refine hK30 _ _ ?_
  refine wp_seq_k fun K33 hK33=>?_
  have r26_27_34:W27.heap[g26]? = some (.cells (ints .u8 (sigV xs t)) 30):=QaY r26_27_32 (QlM xs t)
  refine Qad ?_
  refine Qab (.agg (ints .u8 (sigV xs t))) 45 rfl kj (Qae 30 _ g26 30 _ _ r26_27_34 rfl kj kj (isz (n:=64) kj ((Qaf _ _).trans (Qbm xs t)))) ?_
  have r4_3:=(Qaa r4_2 e3)
  have r4_4:=(Qaa r4_3 e4)
  have r4_5:=(Qaa r4_4 e5)
  have r4_6:=(Puts.row p6 r4_5 (Qac r4_3 l6))
  have r4_7:=(Puts.row p7 r4_6 (Qac r4_4 l7))
  have r4_8:=(Qaa r4_7 e8)
  have r4_9:=(Puts.row p9 r4_8 (Qac r4_7 l9))
  have r4_10:=(Qaa r4_9 e10)
  have r4_11:=(Qaa r4_10 e11)
  have r4_12:=(Qaa r4_11 e12)
  have r4_13:=(Puts.row p13 r4_12 (Qac r4_11 l13))
  have r4_14:=(Qaa r4_13 e14)
  have r4_15:=(Puts.row p15 r4_14 (Qac r4_13 l16))
  have r4_16:=(Qaa r4_15 e16)
  have r4_17:=(Qaa r4_16 e17)
  have r4_18:=(Qaa r4_17 e18)
  have r4_19:=(Puts.row p19 r4_18 (Qac r4_17 l20))
  have r4_20:=(Qaa r4_19 e20)
  have r4_21:=(Qaa r4_20 e21)
  have r4_22:=(Puts.row p22 r4_21 (Qac r4_20 l23))
  have r4_23:=(Qaa r4_22 e23)
  have r4_24:=(Qaa r4_23 e24)
  have r4_25:=(Puts.row p25 r4_24 (Qac r4_22 l26))
  have r4_26:=(Qaa r4_25 e26)
  have r4_27:=(Puts.row p27 r4_26 (Qac r4_22 l26))
  refine Qal g4 _ (ints .u8 (sigV xs t)) 30 r4_27 rfl kj (Qai 30 _ _ g4 30 _ _ r4_27 rfl kj kj (isz (n:=64) kj ((Qaf _ _).trans (Qbm xs t))) (eqsz (n:=64) ((Qaf _ _).trans (qZ (n:=64))) ((Qaf _ _).trans (Qbm xs t))) (ints_one _ _)) fun W28 p28 r4_28=>?_
  have x28:Ext w W28:=Puts.ext p28 x27 b4
  refine Qag ?_
  refine hK33 _ _ ?_
  refine wp_ret ?_
  repeat (first | with_reducible refine goR1 ?_ | with_reducible refine goR2 ?_)
  exact (show bodyPost _ _ _ .ret _ _ from ret1 (.agg (ints .u8 (sigV xs t))) rfl (Qa9 g4 30 _ r4_28 kj kj (isz (n:=64) kj ((Qaf _ _).trans (Qbm xs t)))) ⟨rfl,x28⟩)
end Go.Proofs.YtdoadngmgmdlbaaDoor.Sgn
end
