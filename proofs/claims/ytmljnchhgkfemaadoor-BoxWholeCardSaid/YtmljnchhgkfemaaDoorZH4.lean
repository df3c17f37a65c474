/- Texts of this claim, joined (H4). -/
import Derived.Test.YtmljnchhgkfemaaDoorZH3
import Derived.WalkKit

set_option linter.unusedVariables false
set_option linter.unusedSimpArgs false
set_option maxHeartbeats 4000000
section
namespace Go.Proofs.YtmljnchhgkfemaaDoor.Field
open Go Go.RowKit
open Rely Auto Ladder
theorem QkV (u x z y v s0 s1 s2 s3 s4 s5 s6 s7 s8 s9 s10 s11 s12 s13 s14 s15 s16 s17:Int) (ck:∀ W,Calls Tryd.prog 25 #[.int .i64 121665] W (Ret W (num 121665)))
    (c0:∀ W,Calls Tryd.prog 63 #[.agg (numA (x)),.agg (numA (z))] W (Ret W (.agg (numA (s0)))))
    (c1:∀ W,Calls Tryd.prog 47 #[.agg (numA (x)),.agg (numA (z))] W (Ret W (.agg (numA (s1)))))
    (c2:∀ W,Calls Tryd.prog 63 #[.agg (numA (y)),.agg (numA (v))] W (Ret W (.agg (numA (s2)))))
    (c3:∀ W,Calls Tryd.prog 47 #[.agg (numA (y)),.agg (numA (v))] W (Ret W (.agg (numA (s3)))))
    (c4:∀ W,Calls Tryd.prog 44 #[.agg (numA (s0)),.agg (numA (s0))] W (Ret W (.agg (numA (s4)))))
    (c5:∀ W,Calls Tryd.prog 44 #[.agg (numA (s1)),.agg (numA (s1))] W (Ret W (.agg (numA (s5)))))
    (c6:∀ W,Calls Tryd.prog 47 #[.agg (numA (s4)),.agg (numA (s5))] W (Ret W (.agg (numA (s6)))))
    (c7:∀ W,Calls Tryd.prog 44 #[.agg (numA (s3)),.agg (numA (s0))] W (Ret W (.agg (numA (s7)))))
    (c8:∀ W,Calls Tryd.prog 44 #[.agg (numA (s2)),.agg (numA (s1))] W (Ret W (.agg (numA (s8)))))
    (c9:∀ W,Calls Tryd.prog 63 #[.agg (numA (s7)),.agg (numA (s8))] W (Ret W (.agg (numA (s9)))))
    (c10:∀ W,Calls Tryd.prog 47 #[.agg (numA (s7)),.agg (numA (s8))] W (Ret W (.agg (numA (s10)))))
    (c11:∀ W,Calls Tryd.prog 44 #[.agg (numA (s4)),.agg (numA (s5))] W (Ret W (.agg (numA (s11)))))
    (c12:∀ W,Calls Tryd.prog 44 #[.agg (numA (s6)),.agg (numA (121665))] W (Ret W (.agg (numA (s12)))))
    (c13:∀ W,Calls Tryd.prog 63 #[.agg (numA (s4)),.agg (numA (s12))] W (Ret W (.agg (numA (s13)))))
    (c14:∀ W,Calls Tryd.prog 44 #[.agg (numA (s6)),.agg (numA (s13))] W (Ret W (.agg (numA (s14)))))
    (c15:∀ W,Calls Tryd.prog 44 #[.agg (numA (s9)),.agg (numA (s9))] W (Ret W (.agg (numA (s15)))))
    (c16:∀ W,Calls Tryd.prog 44 #[.agg (numA (s10)),.agg (numA (s10))] W (Ret W (.agg (numA (s16)))))
    (c17:∀ W,Calls Tryd.prog 44 #[.agg (numA (u)),.agg (numA (s16))] W (Ret W (.agg (numA (s17))))) (w:World) :
    Calls Tryd.prog 43 #[num u,.agg (cat [numA x,numA z]),.agg (cat [numA y,numA v])] w (Ret w (.tuple #[.agg (cat [numA (s11),numA (s14)]),.agg (cat [numA (s15),numA (s17)])])):=by
  refine enter 80 [(0,.agg (numA (u))),(1,.agg (cat [numA (x),numA (z)])),(2,.agg (cat [numA (y),numA (v)]))] Tryd.func43 rfl rfl kj rfl <| sgC fun K1 hK1=>Qaj (numA (u)) 55 3 rfl kj kj fun g2 W1 l2 e1 r2_1=>?_
  have x1:=Ext.tr (Rely.Ext.refl w) e1
  have b2:=qT (Rely.Ext.refl w).size l2
  refine Qaj (cat [numA (x),numA (z)]) 77 4 rfl kj kj fun g3 W2 l3 e2 r3_2=>?_
  have x2:=Ext.tr x1 e2
  have b3:=qT x1.size l3
  refine Qaj (cat [numA (y),numA (v)]) 77 5 rfl kj kj fun g4 W3 l4 e3 r4_3=>?_
  have x3:=Ext.tr x2 e3
  have b4:=qT x2.size l4
  refine Qaj (cat [numA (0),numA (0)]) 77 6 rfl kj kj fun g5 W4 l5 e4 r5_4=>?_
  have x4:=Ext.tr x3 e4
  refine Qaj (cat [numA (0),numA (0)]) 77 7 rfl kj kj fun g6 W5 l6 e5 r6_5=>?_
  have x5:=Ext.tr x4 e5
  refine sgN hK1 <| wp_seq_k fun K7 hK7=>Qcw 12 [⟨none,[(4,none)]⟩,⟨none,[(19,some 0)]⟩,⟨none,[(4,none)]⟩,⟨none,[(21,some 2)]⟩,⟨none,[(20,some 1),(22,some 3)]⟩,⟨none,[(4,none)]⟩,⟨none,[(24,some 5)]⟩,⟨none,[(4,none)]⟩,⟨none,[(26,some 7)]⟩,⟨none,[(25,some 6),(27,some 8)]⟩,⟨none,[]⟩,⟨none,[]⟩] [10,11] kj kj kj fun F hF=>Qas (.pointer (some ⟨g3,0,none⟩)) kj kj (fun W=>by kernel_rfl) ?_
  have r3_5:=(Qaa (Qaa (Qaa r3_2 e3) e4) e5)
  refine Qax (.agg (numA (x))) kj kj (fun W hR=>(Qat 55 _ g3 0 77 _ _ _ (Qaa (Qaa r3_5 (Qai _)) hR) rfl kj (Qa8 [] [numA (x)] [numA (z)] 0 kj) kj (isz (n:=4) kj kj))) <| Qas (.pointer (some ⟨g3,4,none⟩)) kj kj (fun W=>by kernel_rfl) <| Qax (.agg (numA (z))) kj kj (fun W hR=>(Qat 55 _ g3 4 77 _ _ _ (Qaa (Qaa r3_5 (Qai _)) hR) rfl kj (Qa8 [numA (x)] [numA (z)] [] 4 kj) kj (isz (n:=4) kj kj))) <| QaD (.agg (numA (s0))) 63 #[.agg (numA (x)),.agg (numA (z))] kj kj (fun W=>by kernel_rfl) (fun W hR=>c0 W) <| Qas (.pointer (some ⟨g3,0,none⟩)) kj kj (fun W=>by kernel_rfl) <| Qax (.agg (numA (x))) kj kj (fun W hR=>(Qat 55 _ g3 0 77 _ _ _ (Qaa (Qaa r3_5 (Qai _)) hR) rfl kj (Qa8 [] [numA (x)] [numA (z)] 0 kj) kj (isz (n:=4) kj kj))) <| Qas (.pointer (some ⟨g3,4,none⟩)) kj kj (fun W=>by kernel_rfl) <| Qax (.agg (numA (z))) kj kj (fun W hR=>(Qat 55 _ g3 4 77 _ _ _ (Qaa (Qaa r3_5 (Qai _)) hR) rfl kj (Qa8 [numA (x)] [numA (z)] [] 4 kj) kj (isz (n:=4) kj kj))) <| QaD (.agg (numA (s1))) 47 #[.agg (numA (x)),.agg (numA (z))] kj kj (fun W=>by kernel_rfl) (fun W hR=>c1 W) <| QcX (numA (0)) 55 kj (qR _) kj (fun W=>by kernel_rfl) ?_
  refine QcX (numA (0)) 55 kj (qR _) kj (fun W=>by kernel_rfl) <| QaT (hF _ kj fun W6 e6=>?_)
  simp only [fins,up,List.take_succ_cons,List.take_zero,List.drop_succ_cons,List.drop_zero,List.nil_append,List.cons_append]
  intro g8 l8 r8_6 n8 g9 l9 r9_6 n9
  have n9_8:g9≠g8:=n9 _ (by simp)
  clear hF
  refine Qah g8 _ (numA (s0)) 55 r8_6 rfl kj (Qaf 55 _ _ g8 55 _ _ r8_6 rfl kj kj (isz (n:=4) kj kj) (eqsz (n:=4) kj kj) kj) fun W7 p7 r8_7=>?_
  have r9_7:=(Puts.row p7 r9_6 n9_8)
  refine Qah g9 _ (numA (s1)) 55 r9_7 rfl kj (Qaf 55 _ _ g9 55 _ _ r9_7 rfl kj kj (isz (n:=4) kj kj) (eqsz (n:=4) kj kj) kj) fun W8 p8 r9_8=>?_
  have x8:=Puts.ext p8 (Puts.ext p7 (Ext.tr x5 e6) (qT x5.size l8)) (qT x5.size l9)
  refine sgN hK7 <| wp_seq_k fun K10 hK10=>Qcw 12 [⟨none,[(5,none)]⟩,⟨none,[(29,some 0)]⟩,⟨none,[(5,none)]⟩,⟨none,[(31,some 2)]⟩,⟨none,[(30,some 1),(32,some 3)]⟩,⟨none,[(5,none)]⟩,⟨none,[(34,some 5)]⟩,⟨none,[(5,none)]⟩,⟨none,[(36,some 7)]⟩,⟨none,[(35,some 6),(37,some 8)]⟩,⟨none,[]⟩,⟨none,[]⟩] [10,11] kj kj kj fun F hF=>Qas (.pointer (some ⟨g4,0,none⟩)) kj kj (fun W=>by kernel_rfl) ?_
  have r4_5:=(Qaa (Qaa r4_3 e4) e5)
  have r4_8:=(Puts.row p8 (Puts.row p7 (Qaa (Qaa (Qaa r4_3 e4) e5) e6) (Qab r4_5 l8)) (Qab r4_5 l9))
  refine Qax (.agg (numA (y))) kj kj (fun W hR=>(Qat 55 _ g4 0 77 _ _ _ (Qaa (Qaa r4_8 (Qai _)) hR) rfl kj (Qa8 [] [numA (y)] [numA (v)] 0 kj) kj (isz (n:=4) kj kj))) <| Qas (.pointer (some ⟨g4,4,none⟩)) kj kj (fun W=>by kernel_rfl) <| Qax (.agg (numA (v))) kj kj (fun W hR=>(Qat 55 _ g4 4 77 _ _ _ (Qaa (Qaa r4_8 (Qai _)) hR) rfl kj (Qa8 [numA (y)] [numA (v)] [] 4 kj) kj (isz (n:=4) kj kj))) <| QaD (.agg (numA (s2))) 63 #[.agg (numA (y)),.agg (numA (v))] kj kj (fun W=>by kernel_rfl) (fun W hR=>c2 W) <| Qas (.pointer (some ⟨g4,0,none⟩)) kj kj (fun W=>by kernel_rfl) <| Qax (.agg (numA (y))) kj kj (fun W hR=>(Qat 55 _ g4 0 77 _ _ _ (Qaa (Qaa r4_8 (Qai _)) hR) rfl kj (Qa8 [] [numA (y)] [numA (v)] 0 kj) kj (isz (n:=4) kj kj))) <| Qas (.pointer (some ⟨g4,4,none⟩)) kj kj (fun W=>by kernel_rfl) <| Qax (.agg (numA (v))) kj kj (fun W hR=>(Qat 55 _ g4 4 77 _ _ _ (Qaa (Qaa r4_8 (Qai _)) hR) rfl kj (Qa8 [numA (y)] [numA (v)] [] 4 kj) kj (isz (n:=4) kj kj))) <| QaD (.agg (numA (s3))) 47 #[.agg (numA (y)),.agg (numA (v))] kj kj (fun W=>by kernel_rfl) (fun W hR=>c3 W) <| QcX (numA (0)) 55 kj (qR _) kj (fun W=>by kernel_rfl) ?_
  refine QcX (numA (0)) 55 kj (qR _) kj (fun W=>by kernel_rfl) <| QaT (hF _ kj fun W9 e9=>?_)
  simp only [fins,up,List.take_succ_cons,List.take_zero,List.drop_succ_cons,List.drop_zero,List.nil_append,List.cons_append]
  intro g11 l11 r11_9 n11 g12 l12 r12_9 n12
  have n12_11:g12≠g11:=n12 _ (by simp)
  clear hF
  refine Qah g11 _ (numA (s2)) 55 r11_9 rfl kj (Qaf 55 _ _ g11 55 _ _ r11_9 rfl kj kj (isz (n:=4) kj kj) (eqsz (n:=4) kj kj) kj) fun W10 p10 r11_10=>?_
  have r12_10:=(Puts.row p10 r12_9 n12_11)
  refine Qah g12 _ (numA (s3)) 55 r12_10 rfl kj (Qaf 55 _ _ g12 55 _ _ r12_10 rfl kj kj (isz (n:=4) kj kj) (eqsz (n:=4) kj kj) kj) fun W11 p11 r12_11=>?_
  have x11:=Puts.ext p11 (Puts.ext p10 (Ext.tr x8 e9) (qT x8.size l11)) (qT x8.size l12)
  refine sgN hK10 <| wp_seq_k fun K13 hK13=>Qcw 8 [⟨none,[(8,none)]⟩,⟨none,[(8,none)]⟩,⟨none,[(39,some 0),(40,some 1)]⟩,⟨none,[(9,none)]⟩,⟨none,[(9,none)]⟩,⟨none,[(42,some 3),(43,some 4)]⟩,⟨none,[]⟩,⟨none,[]⟩] [6,7] kj kj kj fun F hF=>?_
  have r8_8:=(Puts.row p8 r8_7 (Ne.symm n9_8))
  have r8_11:=(Puts.row p11 (Puts.row p10 (Qaa (Puts.row p8 r8_7 (Ne.symm n9_8)) e9) (Qab r8_8 l11)) (Qab r8_8 l12))
  refine Qax (.agg (numA (s0))) kj kj (fun W hR=>(Qae 55 _ g8 55 _ _ (Qaa (Qaa r8_11 (Qai _)) hR) rfl kj kj (isz (n:=4) kj kj))) <| Qax (.agg (numA (s0))) kj kj (fun W hR=>(Qae 55 _ g8 55 _ _ (Qaa (Qaa r8_11 (Qai _)) hR) rfl kj kj (isz (n:=4) kj kj))) <| QaD (.agg (numA (s4))) 44 #[.agg (numA (s0)),.agg (numA (s0))] kj kj (fun W=>by kernel_rfl) (fun W hR=>c4 W) ?_
  have r9_11:=(Puts.row p11 (Puts.row p10 (Qaa r9_8 e9) (Qab r9_8 l11)) (Qab r9_8 l12))
  refine Qax (.agg (numA (s1))) kj kj (fun W hR=>(Qae 55 _ g9 55 _ _ (Qaa (Qaa r9_11 (Qai _)) hR) rfl kj kj (isz (n:=4) kj kj))) <| Qax (.agg (numA (s1))) kj kj (fun W hR=>(Qae 55 _ g9 55 _ _ (Qaa (Qaa r9_11 (Qai _)) hR) rfl kj kj (isz (n:=4) kj kj))) <| QaD (.agg (numA (s5))) 44 #[.agg (numA (s1)),.agg (numA (s1))] kj kj (fun W=>by kernel_rfl) (fun W hR=>c5 W) <| QcX (numA (0)) 55 kj (qR _) kj (fun W=>by kernel_rfl) <| QcX (numA (0)) 55 kj (qR _) kj (fun W=>by kernel_rfl) <| QaT (hF _ kj fun W12 e12=>?_)
  simp only [fins,up,List.take_succ_cons,List.take_zero,List.drop_succ_cons,List.drop_zero,List.nil_append,List.cons_append]
  intro g14 l14 r14_12 n14 g15 l15 r15_12 n15
  have n15_14:g15≠g14:=n15 _ (by simp)
  clear hF
  refine Qah g14 _ (numA (s4)) 55 r14_12 rfl kj (Qaf 55 _ _ g14 55 _ _ r14_12 rfl kj kj (isz (n:=4) kj kj) (eqsz (n:=4) kj kj) kj) fun W13 p13 r14_13=>?_
  have r15_13:=(Puts.row p13 r15_12 n15_14)
  refine Qah g15 _ (numA (s5)) 55 r15_13 rfl kj (Qaf 55 _ _ g15 55 _ _ r15_13 rfl kj kj (isz (n:=4) kj kj) (eqsz (n:=4) kj kj) kj) fun W14 p14 r15_14=>sgN hK13 <| sgC fun K16 hK16=>?_
  have r14_14:=(Puts.row p14 r14_13 (Ne.symm n15_14))
  refine Qad (.agg (numA (s4))) 45 rfl kj (Qae 55 _ g14 55 _ _ r14_14 rfl kj kj (isz (n:=4) kj kj)) <| Qad (.agg (numA (s5))) 46 rfl kj (Qae 55 _ g15 55 _ _ r15_14 rfl kj kj (isz (n:=4) kj kj)) <| Qao (.agg (numA (s6))) 47 #[.agg (numA (s4)),.agg (numA (s5))] 47 rfl kj kj (c6 _) fun W15 e15=>?_
  have x15:=Ext.tr (Puts.ext p14 (Puts.ext p13 (Ext.tr x11 e12) (qT x11.size l14)) (qT x11.size l15)) e15
  refine Qaj (numA (0)) 55 14 rfl kj kj fun g17 W16 l17 e16 r17_16=>Qah g17 _ (numA (s6)) 55 r17_16 rfl kj (Qaf 55 _ _ g17 55 _ _ r17_16 rfl kj kj (isz (n:=4) kj kj) (eqsz (n:=4) kj kj) kj) fun W17 p17 r17_17=>?_
  have x17:=Puts.ext p17 (Ext.tr x15 e16) (qT x15.size l17)
  refine sgN hK16 <| wp_seq_k fun K18 hK18=>Qcw 8 [⟨none,[(11,none)]⟩,⟨none,[(8,none)]⟩,⟨none,[(48,some 0),(49,some 1)]⟩,⟨none,[(10,none)]⟩,⟨none,[(9,none)]⟩,⟨none,[(51,some 3),(52,some 4)]⟩,⟨none,[]⟩,⟨none,[]⟩] [6,7] kj kj kj fun F hF=>Qax (.agg (numA (s3))) kj kj (fun W hR=>(Qae 55 _ g12 55 _ _ (Qaa (Qaa (Puts.row p17 (Qaa (Qaa (Puts.row p14 (Puts.row p13 (Qaa r12_11 e12) (Qab r12_11 l14)) (Qab r12_11 l15)) e15) e16) (Qab (Qaa (Puts.row p14 (Puts.row p13 (Qaa r12_11 e12) (Qab r12_11 l14)) (Qab r12_11 l15)) e15) l17)) (Qai _)) hR) rfl kj kj (isz (n:=4) kj kj))) <| Qax (.agg (numA (s0))) kj kj (fun W hR=>(Qae 55 _ g8 55 _ _ (Qaa (Qaa (Puts.row p17 (Qaa (Qaa (Puts.row p14 (Puts.row p13 (Qaa r8_11 e12) (Qab r8_11 l14)) (Qab r8_11 l15)) e15) e16) (Qab (Qaa (Puts.row p14 (Puts.row p13 (Qaa r8_11 e12) (Qab r8_11 l14)) (Qab r8_11 l15)) e15) l17)) (Qai _)) hR) rfl kj kj (isz (n:=4) kj kj))) <| QaD (.agg (numA (s7))) 44 #[.agg (numA (s3)),.agg (numA (s0))] kj kj (fun W=>by kernel_rfl) (fun W hR=>c7 W) ?_
  have r11_11:=(Puts.row p11 r11_10 (Ne.symm n12_11))
  refine Qax (.agg (numA (s2))) kj kj (fun W hR=>(Qae 55 _ g11 55 _ _ (Qaa (Qaa (Puts.row p17 (Qaa (Qaa (Puts.row p14 (Puts.row p13 (Qaa (Puts.row p11 r11_10 (Ne.symm n12_11)) e12) (Qab r11_11 l14)) (Qab r11_11 l15)) e15) e16) (Qab (Qaa (Puts.row p14 (Puts.row p13 (Qaa r11_11 e12) (Qab r11_11 l14)) (Qab r11_11 l15)) e15) l17)) (Qai _)) hR) rfl kj kj (isz (n:=4) kj kj))) <| Qax (.agg (numA (s1))) kj kj (fun W hR=>(Qae 55 _ g9 55 _ _ (Qaa (Qaa (Puts.row p17 (Qaa (Qaa (Puts.row p14 (Puts.row p13 (Qaa r9_11 e12) (Qab r9_11 l14)) (Qab r9_11 l15)) e15) e16) (Qab (Qaa (Puts.row p14 (Puts.row p13 (Qaa r9_11 e12) (Qab r9_11 l14)) (Qab r9_11 l15)) e15) l17)) (Qai _)) hR) rfl kj kj (isz (n:=4) kj kj))) <| QaD (.agg (numA (s8))) 44 #[.agg (numA (s2)),.agg (numA (s1))] kj kj (fun W=>by kernel_rfl) (fun W hR=>c8 W) <| QcX (numA (0)) 55 kj (qR _) kj (fun W=>by kernel_rfl) <| QcX (numA (0)) 55 kj (qR _) kj (fun W=>by kernel_rfl) <| QaT (hF _ kj fun W18 e18=>?_)
  simp only [fins,up,List.take_succ_cons,List.take_zero,List.drop_succ_cons,List.drop_zero,List.nil_append,List.cons_append]
  intro g19 l19 r19_18 n19 g20 l20 r20_18 n20
  have n20_19:g20≠g19:=n20 _ (by simp)
  clear hF
  refine Qah g19 _ (numA (s7)) 55 r19_18 rfl kj (Qaf 55 _ _ g19 55 _ _ r19_18 rfl kj kj (isz (n:=4) kj kj) (eqsz (n:=4) kj kj) kj) fun W19 p19 r19_19=>?_
  have r20_19:=(Puts.row p19 r20_18 n20_19)
  refine Qah g20 _ (numA (s8)) 55 r20_19 rfl kj (Qaf 55 _ _ g20 55 _ _ r20_19 rfl kj kj (isz (n:=4) kj kj) (eqsz (n:=4) kj kj) kj) fun W20 p20 r20_20=>?_
  have x20:=Puts.ext p20 (Puts.ext p19 (Ext.tr x17 e18) (qT x17.size l19)) (qT x17.size l20)
  refine sgN hK18 <| wp_seq_k fun K21 hK21=>Qcw 8 [⟨none,[(15,none)]⟩,⟨none,[(16,none)]⟩,⟨none,[(54,some 0),(55,some 1)]⟩,⟨none,[(15,none)]⟩,⟨none,[(16,none)]⟩,⟨none,[(57,some 3),(58,some 4)]⟩,⟨none,[]⟩,⟨none,[]⟩] [6,7] kj kj kj fun F hF=>?_
  have r19_20:=(Puts.row p20 r19_19 (Ne.symm n20_19))
  refine Qax (.agg (numA (s7))) kj kj (fun W hR=>(Qae 55 _ g19 55 _ _ (Qaa (Qaa r19_20 (Qai _)) hR) rfl kj kj (isz (n:=4) kj kj))) <| Qax (.agg (numA (s8))) kj kj (fun W hR=>(Qae 55 _ g20 55 _ _ (Qaa (Qaa r20_20 (Qai _)) hR) rfl kj kj (isz (n:=4) kj kj))) <| QaD (.agg (numA (s9))) 63 #[.agg (numA (s7)),.agg (numA (s8))] kj kj (fun W=>by kernel_rfl) (fun W hR=>c9 W) <| Qax (.agg (numA (s7))) kj kj (fun W hR=>(Qae 55 _ g19 55 _ _ (Qaa (Qaa r19_20 (Qai _)) hR) rfl kj kj (isz (n:=4) kj kj))) <| Qax (.agg (numA (s8))) kj kj (fun W hR=>(Qae 55 _ g20 55 _ _ (Qaa (Qaa r20_20 (Qai _)) hR) rfl kj kj (isz (n:=4) kj kj))) <| QaD (.agg (numA (s10))) 47 #[.agg (numA (s7)),.agg (numA (s8))] kj kj (fun W=>by kernel_rfl) (fun W hR=>c10 W) <| QcX (numA (0)) 55 kj (qR _) kj (fun W=>by kernel_rfl) <| QcX (numA (0)) 55 kj (qR _) kj (fun W=>by kernel_rfl) <| QaT (hF _ kj fun W21 e21=>?_)
  simp only [fins,up,List.take_succ_cons,List.take_zero,List.drop_succ_cons,List.drop_zero,List.nil_append,List.cons_append]
  intro g22 l22 r22_21 n22 g23 l23 r23_21 n23
  have n23_22:g23≠g22:=n23 _ (by simp)
  clear hF
  refine Qah g22 _ (numA (s9)) 55 r22_21 rfl kj (Qaf 55 _ _ g22 55 _ _ r22_21 rfl kj kj (isz (n:=4) kj kj) (eqsz (n:=4) kj kj) kj) fun W22 p22 r22_22=>?_
  have r23_22:=(Puts.row p22 r23_21 n23_22)
  refine Qah g23 _ (numA (s10)) 55 r23_22 rfl kj (Qaf 55 _ _ g23 55 _ _ r23_22 rfl kj kj (isz (n:=4) kj kj) (eqsz (n:=4) kj kj) kj) fun W23 p23 r23_23=>sgN hK21 <| wp_seq_k fun K24 hK24=>Qcv (fun W=>True) [⟨none,[(12,none)]⟩,⟨none,[(13,none)]⟩,⟨none,[(60,some 0),(61,some 1)]⟩,⟨none,[(14,none)]⟩,⟨none,[(12,none)]⟩,⟨none,[(14,none)]⟩,⟨none,[]⟩,⟨none,[(65,some 5),(66,some 6)]⟩,⟨none,[(64,some 4),(67,some 7)]⟩,⟨none,[(63,some 3),(68,some 8)]⟩,⟨none,[(62,some 2),(69,some 9)]⟩,⟨none,[(17,none)]⟩,⟨none,[(17,none)]⟩,⟨none,[(71,some 11),(72,some 12)]⟩,⟨none,[(3,none)]⟩,⟨none,[(18,none)]⟩,⟨none,[(18,none)]⟩,⟨none,[(75,some 15),(76,some 16)]⟩,⟨none,[(74,some 14),(77,some 17)]⟩,⟨none,[(73,some 13),(78,some 18)]⟩,⟨none,[(6,none),(70,some 10)]⟩,⟨none,[(7,none),(79,some 19)]⟩] [] [19] kj kj kj (fun W hR=>trivial) fun F hF=>?_
  have r14_15:=(Qaa r14_14 e15)
  have r14_17:=(Puts.row p17 (Qaa r14_15 e16) (Qab r14_15 l17))
  have r14_20:=(Puts.row p20 (Puts.row p19 (Qaa r14_17 e18) (Qab r14_17 l19)) (Qab r14_17 l20))
  have r14_23:=(Puts.row p23 (Puts.row p22 (Qaa (Puts.row p20 (Puts.row p19 (Qaa (Puts.row p17 (Qaa (Qaa r14_14 e15) e16) (Qab r14_15 l17)) e18) (Qab r14_17 l19)) (Qab r14_17 l20)) e21) (Qab r14_20 l22)) (Qab r14_20 l23))
  refine Qbv (.agg (numA (s4))) kj kj kj rfl (fun W hR=>(Qae 55 _ g14 55 _ _ (Qaa (Qaa r14_23 (Qai _)) hR) rfl kj kj (isz (n:=4) kj kj))) ?_
  have r15_15:=(Qaa r15_14 e15)
  have r15_17:=(Puts.row p17 (Qaa r15_15 e16) (Qab r15_15 l17))
  have r15_20:=(Puts.row p20 (Puts.row p19 (Qaa r15_17 e18) (Qab r15_17 l19)) (Qab r15_17 l20))
  refine Qbv (.agg (numA (s5))) kj kj kj rfl (fun W hR=>(Qae 55 _ g15 55 _ _ (Qaa (Qaa (Puts.row p23 (Puts.row p22 (Qaa (Puts.row p20 (Puts.row p19 (Qaa (Puts.row p17 (Qaa (Qaa r15_14 e15) e16) (Qab r15_15 l17)) e18) (Qab r15_17 l19)) (Qab r15_17 l20)) e21) (Qab r15_20 l22)) (Qab r15_20 l23)) (Qai _)) hR) rfl kj kj (isz (n:=4) kj kj))) <| QdQ (.agg (numA (s11))) 44 #[.agg (numA (s4)),.agg (numA (s5))] kj kj kj rfl (fun W=>by kernel_rfl) (fun W hR=>c11 W) ?_
  have r17_20:=(Puts.row p20 (Puts.row p19 (Qaa r17_17 e18) (Qab r17_17 l19)) (Qab r17_17 l20))
  have r17_23:=(Puts.row p23 (Puts.row p22 (Qaa (Puts.row p20 (Puts.row p19 (Qaa r17_17 e18) (Qab r17_17 l19)) (Qab r17_17 l20)) e21) (Qab r17_20 l22)) (Qab r17_20 l23))
  refine Qbv (.agg (numA (s6))) kj kj kj rfl (fun W hR=>(Qae 55 _ g17 55 _ _ (Qaa (Qaa r17_23 (Qai _)) hR) rfl kj kj (isz (n:=4) kj kj))) <| Qbv (.agg (numA (s4))) kj kj kj rfl (fun W hR=>(Qae 55 _ g14 55 _ _ (Qaa (Qaa r14_23 (Qai _)) hR) rfl kj kj (isz (n:=4) kj kj))) <| Qbv (.agg (numA (s6))) kj kj kj rfl (fun W hR=>(Qae 55 _ g17 55 _ _ (Qaa (Qaa r17_23 (Qai _)) hR) rfl kj kj (isz (n:=4) kj kj))) <| QdQ (.agg (numA (121665))) 25 #[.int .i64 121665] kj kj kj rfl (fun W=>by kernel_rfl) (fun W hR=>ck W) <| QdQ (.agg (numA (s12))) 44 #[.agg (numA (s6)),.agg (numA (121665))] kj kj kj rfl (fun W=>by kernel_rfl) (fun W hR=>c12 W) <| QdQ (.agg (numA (s13))) 63 #[.agg (numA (s4)),.agg (numA (s12))] kj kj kj rfl (fun W=>by kernel_rfl) (fun W hR=>c13 W) <| QdQ (.agg (numA (s14))) 44 #[.agg (numA (s6)),.agg (numA (s13))] kj kj kj rfl (fun W=>by kernel_rfl) (fun W hR=>c14 W) <| QaV (.agg (cat [numA (s11),numA (s14)])) kj kj rfl (fun W=>by kernel_rfl) ?_
  have r22_23:=(Puts.row p23 r22_22 (Ne.symm n23_22))
  refine Qbv (.agg (numA (s9))) kj kj kj rfl (fun W hR=>(Qae 55 _ g22 55 _ _ (Qaa (Qaa r22_23 (Qai _)) hR) rfl kj kj (isz (n:=4) kj kj))) <| Qbv (.agg (numA (s9))) kj kj kj rfl (fun W hR=>(Qae 55 _ g22 55 _ _ (Qaa (Qaa r22_23 (Qai _)) hR) rfl kj kj (isz (n:=4) kj kj))) <| QdQ (.agg (numA (s15))) 44 #[.agg (numA (s9)),.agg (numA (s9))] kj kj kj rfl (fun W=>by kernel_rfl) (fun W hR=>c15 W) ?_
  have r2_5:=(Qaa (Qaa (Qaa (Qaa r2_1 e2) e3) e4) e5)
  have r2_8:=(Puts.row p8 (Puts.row p7 (Qaa r2_5 e6) (Qab r2_5 l8)) (Qab r2_5 l9))
  have r2_11:=(Puts.row p11 (Puts.row p10 (Qaa r2_8 e9) (Qab r2_8 l11)) (Qab r2_8 l12))
  have r2_15:=(Qaa (Puts.row p14 (Puts.row p13 (Qaa r2_11 e12) (Qab r2_11 l14)) (Qab r2_11 l15)) e15)
  have r2_17:=(Puts.row p17 (Qaa r2_15 e16) (Qab r2_15 l17))
  have r2_20:=(Puts.row p20 (Puts.row p19 (Qaa r2_17 e18) (Qab r2_17 l19)) (Qab r2_17 l20))
  refine Qbv (.agg (numA (u))) kj kj kj rfl (fun W hR=>(Qae 55 _ g2 55 _ _ (Qaa (Qaa (Puts.row p23 (Puts.row p22 (Qaa (Puts.row p20 (Puts.row p19 (Qaa (Puts.row p17 (Qaa (Qaa (Puts.row p14 (Puts.row p13 (Qaa (Puts.row p11 (Puts.row p10 (Qaa (Puts.row p8 (Puts.row p7 (Qaa (Qaa (Qaa (Qaa (Qaa r2_1 e2) e3) e4) e5) e6) (Qab r2_5 l8)) (Qab r2_5 l9)) e9) (Qab r2_8 l11)) (Qab r2_8 l12)) e12) (Qab r2_11 l14)) (Qab r2_11 l15)) e15) e16) (Qab r2_15 l17)) e18) (Qab r2_17 l19)) (Qab r2_17 l20)) e21) (Qab r2_20 l22)) (Qab r2_20 l23)) (Qai _)) hR) rfl kj kj (isz (n:=4) kj kj))) <| Qbv (.agg (numA (s10))) kj kj kj rfl (fun W hR=>(Qae 55 _ g23 55 _ _ (Qaa (Qaa r23_23 (Qai _)) hR) rfl kj kj (isz (n:=4) kj kj))) <| Qbv (.agg (numA (s10))) kj kj kj rfl (fun W hR=>(Qae 55 _ g23 55 _ _ (Qaa (Qaa r23_23 (Qai _)) hR) rfl kj kj (isz (n:=4) kj kj))) <| QdQ (.agg (numA (s16))) 44 #[.agg (numA (s10)),.agg (numA (s10))] kj kj kj rfl (fun W=>by kernel_rfl) (fun W hR=>c16 W) <| QdQ (.agg (numA (s17))) 44 #[.agg (numA (u)),.agg (numA (s16))] kj kj kj rfl (fun W=>by kernel_rfl) (fun W hR=>c17 W) <| QaV (.agg (cat [numA (s15),numA (s17)])) kj kj rfl (fun W=>by kernel_rfl) <| QbY rfl <| QbY rfl <| QgV (hF _ kj fun W24 e24=>?_)
  simp only [List.nil_append,List.cons_append,fins,up]
  clear hF
  have r5_5:=(Qaa r5_4 e5)
  have r5_8:=(Puts.row p8 (Puts.row p7 (Qaa r5_5 e6) (Qab r5_5 l8)) (Qab r5_5 l9))
  have r5_11:=(Puts.row p11 (Puts.row p10 (Qaa r5_8 e9) (Qab r5_8 l11)) (Qab r5_8 l12))
  have r5_15:=(Qaa (Puts.row p14 (Puts.row p13 (Qaa r5_11 e12) (Qab r5_11 l14)) (Qab r5_11 l15)) e15)
  have r5_17:=(Puts.row p17 (Qaa r5_15 e16) (Qab r5_15 l17))
  have r5_20:=(Puts.row p20 (Puts.row p19 (Qaa r5_17 e18) (Qab r5_17 l19)) (Qab r5_17 l20))
  have r5_24:=(Qaa (Puts.row p23 (Puts.row p22 (Qaa (Puts.row p20 (Puts.row p19 (Qaa (Puts.row p17 (Qaa (Qaa (Puts.row p14 (Puts.row p13 (Qaa (Puts.row p11 (Puts.row p10 (Qaa (Puts.row p8 (Puts.row p7 (Qaa (Qaa r5_4 e5) e6) (Qab r5_5 l8)) (Qab r5_5 l9)) e9) (Qab r5_8 l11)) (Qab r5_8 l12)) e12) (Qab r5_11 l14)) (Qab r5_11 l15)) e15) e16) (Qab r5_15 l17)) e18) (Qab r5_17 l19)) (Qab r5_17 l20)) e21) (Qab r5_20 l22)) (Qab r5_20 l23)) e24)
  refine QbL _ g5 _ (cat [numA (s11),numA (s14)]) 77 r5_24 rfl (Qaf 77 _ _ g5 77 _ _ r5_24 rfl kj kj (isz (n:=8) kj kj) (eqsz (n:=8) kj kj) kj) (fun W hp=>trivial) fun W25 p25 r5_25=>?_
  have r6_8:=(Puts.row p8 (Puts.row p7 (Qaa r6_5 e6) (Qab r6_5 l8)) (Qab r6_5 l9))
  have r6_11:=(Puts.row p11 (Puts.row p10 (Qaa r6_8 e9) (Qab r6_8 l11)) (Qab r6_8 l12))
  have r6_15:=(Qaa (Puts.row p14 (Puts.row p13 (Qaa r6_11 e12) (Qab r6_11 l14)) (Qab r6_11 l15)) e15)
  have r6_17:=(Puts.row p17 (Qaa r6_15 e16) (Qab r6_15 l17))
  have r6_20:=(Puts.row p20 (Puts.row p19 (Qaa r6_17 e18) (Qab r6_17 l19)) (Qab r6_17 l20))
  have r6_25:=(Puts.row p25 (Qaa (Puts.row p23 (Puts.row p22 (Qaa (Puts.row p20 (Puts.row p19 (Qaa (Puts.row p17 (Qaa (Qaa (Puts.row p14 (Puts.row p13 (Qaa (Puts.row p11 (Puts.row p10 (Qaa (Puts.row p8 (Puts.row p7 (Qaa r6_5 e6) (Qab r6_5 l8)) (Qab r6_5 l9)) e9) (Qab r6_8 l11)) (Qab r6_8 l12)) e12) (Qab r6_11 l14)) (Qab r6_11 l15)) e15) e16) (Qab r6_15 l17)) e18) (Qab r6_17 l19)) (Qab r6_17 l20)) e21) (Qab r6_20 l22)) (Qab r6_20 l23)) e24) (Qav r5_4 l6))
  refine QbL _ g6 _ (cat [numA (s15),numA (s17)]) 77 r6_25 rfl (Qaf 77 _ _ g6 77 _ _ r6_25 rfl kj kj (isz (n:=8) kj kj) (eqsz (n:=8) kj kj) kj) (fun W hp=>trivial) fun W26 p26 r6_26=>QeC <| hK24 _ _ <| wp_ret ?_
  exact (show bodyPost _ _ _ .ret _ _ from ret2 (.agg (cat [numA (s11),numA (s14)])) (.agg (cat [numA (s15),numA (s17)])) rfl (QaZ g5 77 _ (Puts.row p26 r5_25 (Qab r5_4 l6)) kj kj (isz (n:=8) kj kj)) (QaZ g6 77 _ r6_26 kj kj (isz (n:=8) kj kj)) ⟨rfl,(Puts.ext p26 (Puts.ext p25 (Ext.tr (Puts.ext p23 (Puts.ext p22 (Ext.tr x20 e21) (qT x20.size l22)) (qT x20.size l23)) e24) (qT x3.size l5)) (qT x4.size l6))⟩)
end Go.Proofs.YtmljnchhgkfemaaDoor.Field
end
section
namespace Go.Proofs.YtmljnchhgkfemaaDoor.Field
open Go Go.RowKit
open Rely Auto Ladder
def lstep (u x z y v:Int):Int×Int×Int×Int :=
  let s0:=(x+z)%p
  let s1:=(x-z)%p
  let s2:=(y+v)%p
  let s3:=(y-v)%p
  let s4:=s0*s0%p
  let s5:=s1*s1%p
  let s6:=(s4-s5)%p
  let s7:=s3*s0%p
  let s8:=s2*s1%p
  let s9:=(s7+s8)%p
  let s10:=(s7-s8)%p
  let s11:=s4*s5%p
  let s12:=s6*121665%p
  let s13:=(s4+s12)%p
  let s14:=s6*s13%p
  let s15:=s9*s9%p
  let s16:=s10*s10%p
  let s17:=u*s16%p
  (s11,s14,s15,s17)
abbrev LSt := Int × Int × Int × Int
def rung (u : Int) (s:LSt) (b:Bool):LSt :=
  if b then let r:=lstep u s.2.2.1 s.2.2.2 s.1 s.2.1; (r.2.2.1,r.2.2.2,r.1,r.2.1) else lstep u s.1 s.2.1 s.2.2.1 s.2.2.2
def rungs (u : Int) (bs:List Bool):LSt:=bs.foldl (rung u) (1,0,u,1)
theorem QeU (u : Int) (bs:List Bool) (b:Bool):rungs u (bs++[b])=rung u (rungs u bs) b:=by simp [rungs]
def isL (s : LSt):Prop:=isN s.1∧isN s.2.1∧isN s.2.2.1∧isN s.2.2.2
theorem Qik (u x z y v:Int):isL (lstep u x z y v):=⟨QaB _,QaB _,QaB _,QaB _⟩
theorem QmD (u : Int) (s:LSt) (b:Bool):isL (rung u s b):=by
  have h:=Qik u s.2.2.1 s.2.2.2 s.1 s.2.1
  cases b
  · exact Qik _ _ _ _ _
  · exact ⟨h.2.2.1,h.2.2.2,h.1,h.2.1⟩
theorem Qjr : isN 0:=by unfold isN p; decide
theorem QdV (u : Int) (hu:isN u) (bs:List Bool):isL (rungs u bs):=by
  rcases List.eq_nil_or_concat bs with h | ⟨l,b,h⟩
  · subst h; exact ⟨QiO,Qjr,hu,QiO⟩
  · subst h; rw [List.concat_eq_append,QeU]; exact QmD _ _ _
def QgD (u : Int) (bs:List Bool):Int:=(rungs u bs).1*invN (rungs u bs).2.1%p
theorem QeT (n : Int) (h:0≤n∧n<1000000) (w:World):Calls Tryd.prog 25 #[.int .i64 n] w (Ret w (num n)):=by
  have:=QhJ n (by omega) w
  rw [show n%p=n from Int.emod_eq_of_lt h.1 (by unfold p; omega)] at this
  exact this
theorem step (u x z y v:Int) (hu:isN u) (hx:isN x) (hz:isN z) (hy:isN y) (hv:isN v) (w:World) :
    Calls Tryd.prog 43 #[num u,.agg (cat [numA x,numA z]),.agg (cat [numA y,numA v])] w
      (Ret w (.tuple #[.agg (cat [numA (lstep u x z y v).1,numA (lstep u x z y v).2.1]),.agg (cat [numA (lstep u x z y v).2.2.1,numA (lstep u x z y v).2.2.2])])):=by
  have m:∀ n:Int,isN (n%p):=QaB
  have k:isN 121665:=by unfold isN p; decide
  exact QkV u x z y v _ _ _ _ _ _ _ _ _ _ _ _ _ _ _ _ _ _ (QeT 121665 (by decide)) (add x z hx hz) (sub x z hx hz) (add y v hy hv) (sub y v hy hv) (mul _ _ (m _) (m _)) (mul _ _ (m _) (m _)) (sub _ _ (m _) (m _)) (mul _ _ (m _) (m _)) (mul _ _ (m _) (m _)) (add _ _ (m _) (m _)) (sub _ _ (m _) (m _)) (mul _ _ (m _) (m _)) (mul _ _ (m _) k) (add _ _ (m _) (m _)) (mul _ _ (m _) (m _)) (mul _ _ (m _) (m _)) (mul _ _ (m _) (m _)) (mul _ _ hu (m _)) w
theorem QkD (es : List Int) (w:World):Calls Tryd.prog 41 #[.agg (ints .u8 es)] w fun e w'=>∃ v,e=.returned v∧Ext w w'∧∃ kb,w.heap.size≤kb∧v=.func (.func 62) #[] #[.pointer (some ⟨kb,0,none⟩)]∧w'.heap[kb]? = some (.cells (ints .u8 es) 23):=by
  have hmf:∀ (fn:Fn) (first cap:Array Value) (w:World),(Instr.makeFunc fn first cap).run Tryd.prog w=.ok (.func fn first cap) w:=fun _ _ _ _=>rfl
  go_enter Tryd.func41,Tryd.ntmps41
  go_wp2_with fail
  exact bodyPost_ret (results_tmp rfl _ _ _) rfl ⟨_,rfl,QaH _ _,w.heap.size,qR _,rfl,heap_alloc_new _ _⟩
theorem hcs_ (xs : List Int) (hx:xs.length=32):(ints .u8 (clamp xs)).size=32:=by rw [Qac]; simp [clamp,hx]
theorem Qgo (xs : List Int) (hx:xs.length=32) (hb:Qag xs):Qag (clamp xs):=by
  intro z hz
  unfold clamp at hz
  rcases List.mem_or_eq_of_mem_set hz with h | h
  · rcases List.mem_or_eq_of_mem_set h with h | h
    · exact hb z h
    · have:=hb.nth 0; omega
  · have:=hb.nth 31; omega
end Go.Proofs.YtmljnchhgkfemaaDoor.Field
end
section
namespace Go.Proofs.YtmljnchhgkfemaaDoor.Auto
open Go Go.RowKit
open Rely
variable {ds : List Deferred} {Fe : Fence} {nf : Nat}
section
variable {P : Program} {Rd : World → Prop} {w0 : World} {base N : Nat} {L : Env}
theorem QhD {l : List Oper} {S:List Src} {C:List Kn} {U D:List Nat} {Q:Exit→Act→World→Prop} (hFr:Free Fe nf P) (hdf:(l.all Qcr)=true) (hD:QcR l D=true) (hDC:∀ j∈D,∃ cs T,C[j]? = some (.new cs T)) (hok:okT l N S U=true)
    (hC:C.length=l.length) (hRd:∀ W,Ext w0 W→Rd W)
    (hop:∀ j o s,l[j]? = some o→S[j]? = some s→∃ k,C[j]? = some k∧(o.dst.isNone=true→k=.is undef)∧(o.dst.isNone=false→if U.contains j=true then Qjz P Rd N L (C.take j) o s k else opOk P Ext w0 (envN N L) ((C.take j).map (Kn.fact base)) o s (k.fact base)))
    (hfin:∀ W,Ext w0 W→finP (fun af W=>QcM P Rd l af (fun W'=>Q .normal af W') (QcF l) W) D l (C.map (Kn.fact base)) 0 [] (Qap ds N L) W) :
    ∀ (fuel:Nat) (listed:Array Bool) (a:Act) (W:World) (vs:Nat→Value),InvT l (Qap ds N L) listed a vs C U→Qqg P Rd l w0 base (Qap ds N L) listed W vs C U D Q→fuel=left l.toArray listed→wpAnyIn Fe nf P .any l.toArray Q fuel listed a W:=by
  simp only [okT,Bool.and_eq_true] at hok
  obtain ⟨⟨⟨⟨⟨hsrc,hdst⟩,hedge⟩,htail⟩,hst⟩,hUT⟩:=hok
  have hN:(Qap ds N L).tmps.size=N:=Qdg N L
  have hanc:∀ j i,((masks l #[]).getD j 0).testBit i=true→Anc l.toArray i j:=QcU l.toArray l #[] (fun j=>by simp) (fun j i h=>by simp at h)
  have hsl:S.length=l.length:=QeD l S 0 hsrc
  have frame:∀ (listed:Array Bool) (a:Act) (vs:Nat→Value),InvT l (Qap ds N L) listed a vs C U→(∀ i,i<l.length→listed.getD i true=true)→QaJ l vs 0 (Qap ds N L)=a:=by
    intro listed a vs inv hall
    have hall':∀ i,i<l.length→listed.getD i false=true:=fun i hi=>by
      cases hx:listed.getD i false with
      | true=>rfl
      | false=>have:=getD_in (by have:=inv.size; omega) hx; rw [hall i hi] at this; cases this
    have hsz:=Qcf l vs 0 (Qap ds N L)
    have ht:(QaJ l vs 0 (Qap ds N L)).tmps=a.tmps:=by
      refine Array.ext_getElem? fun t=>?_
      by_cases hw:∃ (i:Nat) (o:Oper),l[i]? = some o∧o.dst=some t
      · obtain ⟨i,o,hi,ho⟩:=hw
        have hin:i<l.length:=(List.getElem?_eq_some_iff.1 hi).1
        rw [QbC l vs 0 (Qap ds N L) t i o hdst hN hi ho,Nat.zero_add]
        exact (inv.vals i o t (hall' i hin) hi ho).symm
      · rw [Qby l vs 0 (Qap ds N L) t (fun o ho he=>by
          obtain ⟨i,hi⟩:=List.mem_iff_getElem?.1 ho
          exact hw ⟨i,o,hi,he⟩)]
        refine (inv.rest t fun i o _ hi he=>hw ⟨i,o,hi,he⟩).symm
    have hd:=hsz.2.trans inv.defers.symm
    generalize QaJ l vs 0 (Qap ds N L)=b at *
    cases a; cases b
    simp_all
  -- the stores begin
  have begin_:∀ (listed:Array Bool) (a:Act) (W:World) (vs:Nat→Value),InvT l (Qap ds N L) listed a vs C U→(∀ i,isT l i=true→listed.getD i false=false)→Ext w0 W→(∀ i k,C[i]? = some k→listed.getD i false=true→k.fact base (vs i) W)→Qi4 D l.length listed vs →
      (∀ i,i<l.length→isT l i=false→U.contains i=false→listed.getD i false=true)→QcM P Rd l (QaJ l vs 0 (Qap ds N L)) (fun W'=>Q .normal (QaJ l vs 0 (Qap ds N L)) W') (rem l listed) W:=by
    intro listed a W vs inv hT hR hf hp hall
    have hrem:rem l listed=QcF l:=by
      unfold rem
      rw [List.filter_eq_self]
      intro i hi
      have h1:=Qgc.1 hi
      have h2:=hT i h1
      have hil:i<l.length:=by
        cases hx:l[i]? with
        | none=>simp [isT,hx] at h1
        | some o=>exact (List.getElem?_eq_some_iff.1 hx).1
      rw [getD_in (by have:=inv.size; omega) h2]
      rfl
    rw [hrem]
    have hDl:∀ i,i∈D→listed.getD i false=true:=fun i hi=>by
      obtain ⟨cs,T,hc⟩:=hDC i hi
      have hil:i<l.length:=by rw [←hC]; exact (List.getElem?_eq_some_iff.1 hc).1
      obtain ⟨o,ho⟩:∃ o,l[i]? = some o:=⟨l[i],by simp [hil]⟩
      obtain ⟨s,hs⟩:∃ s,S[i]? = some s:=⟨S[i]'(by omega),by simp [show i<S.length by omega]⟩
      obtain ⟨k,hk,hk1,hk2⟩:=hop i o s ho hs
      obtain rfl:k=.new cs T:=Option.some.inj (hk.symm.trans hc)
      refine hall i hil ?_ ?_
      · rw [QcQ ho]
        cases hx:o.dst.isNone with
        | false=>rfl
        | true=>exact absurd (hk1 hx) (fun e=>by cases e)
      · cases hx:U.contains i with
        | false=>rfl
        | true =>
          have hdn:o.dst.isNone=false:=by
            cases hy:o.dst.isNone with
            | false=>rfl
            | true=>exact absurd (hk1 hy) (fun e=>by cases e)
          have:=hk2 hdn
          rw [if_pos hx] at this
          obtain ⟨_,c,hc',_⟩:=this
          cases hc'
    refine QfD (D:=D) l (C.map (Kn.fact base)) (Qap ds N L) vs 0 [] (hfin W hR) (by simp [hC]) (fun i hi=>?_) (fun u hu=>by cases hu) (fun i k hi hk hin hkn hne=>hp i k hi hk (hDl i hi) (hDl k hk) (by omega) (by omega) hne)
    rw [Nat.zero_add]
    obtain ⟨k,hk⟩:∃ k,C[i]? = some k:=⟨C[i]'(by omega),by simp [show i<C.length by omega]⟩
    have e1:(C.map (Kn.fact base)).getD i (fun _ _=>True)=k.fact base:=by simp [hk]
    rw [e1]
    by_cases hli:listed.getD i false=true
    · exact hf i k hk hli
    · obtain ⟨o,ho⟩:∃ o,l[i]? = some o:=⟨l[i],by simp [hi]⟩
      obtain ⟨s,hs⟩:∃ s,S[i]? = some s:=⟨S[i]'(by omega),by simp [show i<S.length by omega]⟩
      obtain ⟨k',hk',hk1,hk2⟩:=hop i o s ho hs
      obtain rfl:k'=k:=Option.some.inj (hk'.symm.trans hk)
      cases hx:o.dst.isNone with
      | true =>
        have hkk:=hk1 hx
        rw [hkk]
        exact inv.cst i undef (hkk▸hk) (.inr (.inr (by rw [QcQ ho]; exact hx)))
      | false =>
        have hiU:U.contains i=true:=by
          cases hy:U.contains i with
          | true=>rfl
          | false=>exact absurd (hall i hi (by rw [QcQ ho]; exact hx) hy) hli
        have:=hk2 hx
        rw [if_pos hiU] at this
        obtain ⟨_,c,hc',_⟩:=this
        rw [hc']
        exact inv.cst i c (hc'▸hk) (.inr (.inl hiU))
  intro fuel
  induction fuel with
  | zero =>
    intro listed a W vs inv ph hf
    have hall:∀ i,i<l.length→listed.getD i true=true:=fun i hi=>by
      cases hx:listed.getD i true with
      | true=>rfl
      | false =>
        have:=QeL (ops:=l.toArray) (by simpa using hi) hx
        omega
    refine ⟨?_,?_⟩
    · cases hr:Region.ready .any l.toArray listed with
      | nil=>rfl
      | cons x xs =>
        obtain ⟨hu,o,ho,_⟩:=mem_ready.1 (show x∈Region.ready .any l.toArray listed by rw [hr]; exact List.mem_cons_self)
        have hxl:x<l.length:=by have:=(Array.getElem?_eq_some_iff.1 ho).1; simpa using this
        rw [hall x hxl] at hu
        cases hu
    · have hrem:rem l listed=[]:=by
        rw [List.eq_nil_iff_forall_not_mem]
        intro j hj
        obtain ⟨h1,h2⟩:=QdX.1 hj
        have hjl:j<l.length:=by
          cases hx:l[j]? with
          | none=>simp [isT,hx] at h1
          | some o=>exact (List.getElem?_eq_some_iff.1 hx).1
        rw [hall j hjl] at h2
        cases h2
      have ht:QcM P Rd l (QaJ l vs 0 (Qap ds N L)) (fun W'=>Q .normal (QaJ l vs 0 (Qap ds N L)) W') (rem l listed) W:=by
        rcases ph with ⟨h1,h2,h3,h4⟩ | ⟨_,_,h2⟩
        · refine begin_ listed a W vs inv h1 h2 h3 h4 fun i hi _ _=>?_
          cases hx:listed.getD i false with
          | true=>rfl
          | false=>have:=getD_in (by have:=inv.size; omega) hx; rw [hall i hi] at this; cases this
        · exact h2
      rw [hrem,frame listed a vs inv hall] at ht
      exact ht
  | succ fuel ih =>
    intro listed a W vs inv ph hf
    have hs:listed.size=l.length:=inv.size
    refine ⟨fun hr=>?_,fun j hj=>?_⟩
    · exfalso
      by_cases hA:∀ i,i<l.length→listed.getD i true=true
      · have:left l.toArray listed=0:=by
          unfold left
          rw [List.countP_eq_zero]
          intro i hi
          have:=hA i (by simpa using List.mem_range.1 hi)
          simp only [this,Bool.not_true,Bool.false_eq_true,not_false_iff]
        omega
      · obtain ⟨i0,hi0,hu0⟩:∃ i,i<l.length∧listed.getD i true=false:=by
          refine Classical.byContradiction fun hc=>hA fun i hi=>?_
          cases hx:listed.getD i true with
          | true=>rfl
          | false=>exact absurd ⟨i,hi,hx⟩ hc
        obtain ⟨j,hj⟩:=QbQ hedge (listed:=listed) i0 hi0 hu0
        rw [hr] at hj; cases hj
    · obtain ⟨hju,oj,hoj,_⟩:=mem_ready.1 hj
      have hoj':l[j]? = some oj:=by simpa using hoj
      have hjl:j<l.length:=(List.getElem?_eq_some_iff.1 hoj').1
      have hjs:j<listed.size:=by omega
      have hnl:¬ listed.getD j false=true:=fun h=>by rw [QaP h] at hju; cases hju
      obtain ⟨s,hsj,hso⟩:=Qel l S 0 hsrc j oj hoj'
      rw [Nat.zero_add] at hso
      simp only [QhI,Bool.and_eq_true] at hso
      obtain ⟨hg,hrd⟩:=hso
      have hg':Qdq l.toArray oj=some s.guard:=by simpa using hg
      have readS:∀ t i,(t,some i)∈s.reads→i<j∧listed.getD i false=true∧∃ oi,l[i]? = some oi∧oi.dst=some t:=fun t i hti=>by
        have h1:=List.all_eq_true.1 hrd (t,some i) hti
        simp only [Qdl,Bool.and_eq_true,decide_eq_true_eq,beq_iff_eq] at h1
        obtain ⟨⟨hij,hbit⟩,hdi⟩:=h1
        refine ⟨hij,Qbg inv.closed hj (hanc j i hbit),?_⟩
        cases hx:l[i]? with
        | none=>rw [hx] at hdi; cases hdi
        | some oi=>rw [hx] at hdi; exact ⟨oi,rfl,hdi⟩
      have readN:∀ t,(t,none)∈s.reads→a.tmps[t]? = (Qap ds N L).tmps[t]?:=fun t htn=>inv.rest t fun i o hli hio hd=>by
        have h1:=List.all_eq_true.1 hrd (t,none) htn
        simp only [Qdl] at h1
        have h3:=List.all_eq_true.1 h1 (o,i) (by
          rw [List.mem_iff_getElem?]
          refine ⟨i,?_⟩
          rw [List.getElem?_zipIdx]
          simp [hio])
        simp only [hd,bne_self_eq_false,Bool.false_or,Bool.or_eq_true,beq_iff_eq] at h3
        have hlj:listed.getD j false=true:=by
          rcases h3 with h3 | h3
          · exact inv.closed.anc (hanc i j h3) hli
          · rw [←h3]; exact hli
        exact hnl hlj
      have slotS:∀ t i,(t,some i)∈s.reads→slots a t=vs i:=fun t i hti=>by
        obtain ⟨_,hli,oi,hoi,hdi⟩:=readS t i hti
        have hv:=inv.vals i oi t hli hoi hdi
        simp only [slots,Array.getD_eq_getD_getElem?,hv,Option.getD_some]
      have slotN:∀ t,(t,none)∈s.reads→slots a t=envN N L t:=fun t htn=>by
        rw [←QbM (ds:=ds)]
        simp only [slots,Array.getD_eq_getD_getElem?,readN t htn]
      have hlist:∀ i,(listed.setIfInBounds j true).getD i false=true→i=j∨listed.getD i false=true:=fun i hi=>by
        by_cases hij:j=i
        · exact .inl hij.symm
        · rw [getD_set_ne false hij] at hi; exact .inr hi
      obtain ⟨k,hk,hk1,hk2⟩:=hop j oj s hoj' hsj
      cases hdn:oj.dst.isNone with
      | true =>
        have hTj:isT l j=true:=by rw [QcQ hoj']; exact hdn
        have hdnone:oj.dst=none:=by simpa using hdn
        have htj:=List.all_eq_true.1 htail j (List.mem_range.2 hjl)
        simp only [hTj,Bool.not_true,Bool.false_or] at htj
        have hall:∀ i,i<l.length→isT l i=false→U.contains i=false→listed.getD i false=true:=fun i hi h1 h2=>by
          have h3:=List.all_eq_true.1 htj i (List.mem_range.2 hi)
          simp only [Bool.or_eq_true,beq_iff_eq] at h3
          rcases h3 with h3 | h3
          · rw [h3,hTj] at h1; cases h1
          · rw [h1] at h3
            simp only [Bool.false_eq_true,if_false,h2,Bool.false_or] at h3
            exact Qbg inv.closed hj (hanc j i h3)
        have hrun:QcM P Rd l (QaJ l vs 0 (Qap ds N L)) (fun W'=>Q .normal (QaJ l vs 0 (Qap ds N L)) W') (rem l listed) W:=by
          rcases ph with ⟨h1,h2,h3,h4⟩ | ⟨_,_,h2⟩
          · exact begin_ listed a W vs inv h1 h2 h3 h4 hall
          · exact h2
        have hjr:j∈rem l listed:=QdX.2 ⟨hTj,hju⟩
        have hsorted:=Qg3 l listed
        have hset:=Qha (l:=l) (listed:=listed) hjs
        cases hr:rem l listed with
        | nil=>rw [hr] at hjr; cases hjr
        | cons h r =>
          rw [hr] at hrun hjr hsorted hset
          have hhj:h=j:=by
            rcases List.mem_cons.1 hjr with e | e
            · exact e.symm
            · exfalso
              have hlt:=(List.pairwise_cons.1 hsorted).1 j e
              obtain ⟨hTh,hlh⟩:=QdX.1 (show h∈rem l listed by rw [hr]; exact List.mem_cons_self)
              have h3:=List.all_eq_true.1 htj h (List.mem_range.2 (by omega))
              simp only [Bool.or_eq_true,beq_iff_eq,hTh,if_true,decide_eq_true_eq] at h3
              rcases h3 with h3 | h3 | h3
              · omega
              · omega
              · have:=Qbg inv.closed hj (hanc j h h3)
                rw [QaP this] at hlh
                cases hlh
          subst hhj
          rw [Qiu hsorted] at hset
          obtain ⟨o',W',ho',hrunj,hrdj,hrest⟩:=hrun
          obtain rfl:o'=oj:=Option.some.inj (ho'.symm.trans hoj')
          have hstj:=List.all_eq_true.1 hst h (List.mem_range.2 hjl)
          simp only [hTj,Bool.not_true,Bool.false_or,hoj',hsj,Bool.and_eq_true] at hstj
          obtain ⟨⟨⟨hs1,hs2⟩,hs3⟩,hs4⟩:=hstj
          have hcong:execOp a.eval o'=execOp (QaJ l vs 0 (Qap ds N L)).eval o':=by
            refine execOp_congr o' (fun cs b hc=>by rw [hc] at hs3; cases hs3) fun x hx=>?_
            cases x with
            | tmp t =>
              have h5:=List.all_eq_true.1 hs4 (.tmp t) (Array.mem_toList_iff.2 hx)
              obtain ⟨⟨t',si⟩,hm,hb⟩:=List.any_eq_true.1 h5
              have ht':t'=t:=Nat.eq_of_beq_eq_true hb
              subst ht'
              show a.tmps.getD t' undef=(QaJ l vs 0 (Qap ds N L)).tmps.getD t' undef
              cases si with
              | none =>
                have h6:=List.all_eq_true.1 hs1 (t',none) hm
                rw [Array.getD_eq_getD_getElem?,Array.getD_eq_getD_getElem?,readN t' hm,Qby l vs 0 (Qap ds N L) t' fun o ho he=>by
                  have:=List.all_eq_true.1 h6 o ho
                  rw [he] at this
                  simp at this]
              | some i =>
                obtain ⟨_,hli,oi,hoi,hdi⟩:=readS t' i hm
                rw [Array.getD_eq_getD_getElem?,Array.getD_eq_getD_getElem?,inv.vals i oi t' hli hoi hdi,QbC l vs 0 (Qap ds N L) t' i oi hdst hN hoi hdi,Nat.zero_add]
            | const v=>rfl
            | global g=>rfl
            | func f=>rfl
          refine Qcl hoj hFr.fn ?_
          have hgn:s.guard=none:=by simpa using hs2
          rw [Qb0 hg',hgn]
          simp only [gOk,if_true]
          unfold Oper.wpIn
          rw [Oper.semAt_plain Fe _ _ (Qes (List.all_eq_true.1 hdf _ (List.mem_of_getElem? hoj'))),hcong,hrunj]
          refine ⟨fun f _=>hFr.fn f,?_⟩
          show wpAnyIn Fe nf P .any l.toArray Q fuel (listed.setIfInBounds h true) (a.put o'.dst undef) W'
          rw [hdnone]
          refine ih _ a W' vs ⟨by simp [inv.size],inv.closed.set hj,inv.defers,inv.asize,fun i o d hi hio hd=>?_,fun t ht=>?_,fun i c hc hi=>?_⟩ (.inr ⟨fun i hi h1 h2=>getD_set_true (hall i hi h1 h2),hrdj,?_⟩) ?_
          · rcases hlist i hi with e | e
            · subst e
              obtain rfl:o=o':=Option.some.inj (hio.symm.trans hoj')
              rw [hdnone] at hd; cases hd
            · exact inv.vals i o d e hio hd
          · exact inv.rest t fun i o hi hio=>ht i o (getD_set_true hi) hio
          · refine inv.cst i c hc ?_
            rcases hi with hi | hi
            · rcases hlist i hi with e | e
              · exact .inr (.inr (e▸hTj))
              · exact .inl e
            · exact .inr hi
          · rw [hset]; exact hrest
          · have:=Qdd (ops:=l.toArray) hju (by rw [List.size_toArray]; exact inv.size)
            omega
      | false =>
        have hTj:isT l j=false:=by rw [QcQ hoj']; exact hdn
        have hkk:=hk2 hdn
        have hrem':rem l (listed.setIfInBounds j true)=rem l listed:=by
          rw [Qha hjs,List.filter_eq_self]
          intro i hi
          have:=(QdX.1 hi).1
          simp only [bne_iff_ne,ne_eq]
          intro e
          rw [e,hTj] at this
          cases this
        have htl:∀ {P:Nat→Prop},(∀ i,isT l i=true→listed.getD i false=false)→∀ i,isT l i=true→(listed.setIfInBounds j true).getD i false=false:=fun h i hi=>by
          have hij:j≠i:=fun e=>by rw [e,hi] at hTj; cases hTj
          rw [getD_set_ne false hij]
          exact h i hi
        cases hU:U.contains j with
        | true =>
          rw [if_pos hU] at hkk
          obtain ⟨hseen,c,rfl,hrun⟩:=hkk
          have hseen':=hseen
          simp only [seen,Bool.and_eq_true] at hseen'
          have htk:∀ i,i<j→(C.take j)[i]? = C[i]?:=fun i hi=>by rw [List.getElem?_take,if_pos hi]
          have hh:Qcc (envN N L) ((C.take j).map (Kn.fact base)) (slots a) W s.reads:=QjG s.reads hseen'.1.1.2 slotN fun t i c hti hc=>by
            obtain ⟨hij,hli,_⟩:=readS t i hti
            rw [htk i hij] at hc
            rw [slotS t i hti]
            exact inv.cst i c hc (.inl hli)
          have hvj:vs j=c:=inv.cst j c hk (.inr (.inl hU))
          have hrdW:Rd W:=by
            rcases ph with ⟨_,h2,_,_⟩ | ⟨_,h2,_⟩
            · exact hRd W h2
            · exact h2
          have hr:=hrun W hrdW
          rw [←QcG hseen hh,←Qdj hseen hh,←Qeb] at hr
          have next:wpAnyIn Fe nf P .any l.toArray Q fuel (listed.setIfInBounds j true) (a.put oj.dst c) W:=by
            refine ih _ _ W vs ⟨by simp [inv.size],inv.closed.set hj,(Qc0 _ _ _).trans inv.defers,(QcZ _ _ _).trans inv.asize,fun i o d hi hio hd=>?_,fun t ht=>?_,fun i c' hc hi=>?_⟩ ?_ ?_
            · by_cases hij:i=j
              · subst hij
                obtain rfl:o=oj:=Option.some.inj (hio.symm.trans hoj')
                rw [hd,Qcz _ _ _ (by rw [inv.asize,hN]; exact Qee l hdst i o d hoj' hd),hvj]
              · rcases hlist i hi with e | e
                · exact absurd e hij
                · rw [Qbp _ _ _ _ (Qed l hdst i j o oj d hio hoj' hij hd)]
                  exact inv.vals i o d e hio hd
            · rw [Qbp _ _ _ _ (ht j oj (by simp [Array.getElem?_setIfInBounds_self_of_lt hjs]) hoj')]
              exact inv.rest t fun i o hi hio=>ht i o (getD_set_true hi) hio
            · refine inv.cst i c' hc ?_
              rcases hi with hi | hi
              · rcases hlist i hi with e | e
                · exact .inr (.inl (e▸hU))
                · exact .inl e
              · exact .inr hi
            · rcases ph with ⟨h1,h2,h3,h4⟩ | ⟨h1,h1r,h2⟩
              · refine .inl ⟨htl (P:=fun _=>True) h1,h2,fun i k' hk' hi=>?_,fun i k' hi hk' hli hlk hin hkn hne=>?_⟩
                · rcases hlist i hi with e | e
                  · subst e
                    obtain rfl:k'=.is c:=Option.some.inj (hk'.symm.trans hk)
                    exact hvj
                  · exact h3 i k' hk' e
                · have nj:∀ i,i∈D→i≠j:=fun i hi e=>by
                    obtain ⟨cs,T,hc⟩:=hDC i hi
                    rw [e,hk] at hc
                    cases hc
                  exact h4 i k' hi hk' ((hlist i hli).resolve_left (nj i hi)) ((hlist k' hlk).resolve_left (nj k' hk')) hin hkn hne
              · refine .inr ⟨fun i hi e1 e2=>getD_set_true (h1 i hi e1 e2),h1r,?_⟩
                rw [hrem']
                exact h2
            · have:=Qdd (ops:=l.toArray) hju (by rw [List.size_toArray]; exact inv.size)
              omega
          refine Qcl hoj hFr.fn ?_
          rw [Qb0 hg']
          by_cases hb:gOk s.guard (slots a)=true
          · rw [if_pos hb]
            have hr':(execOp a.eval oj).run P W=.ok (.value c) W:=by
              cases hgd':s.guard with
              | none=>rw [hgd'] at hr; exact hr
              | some db =>
                rw [hgd'] at hr hb
                exact (if_pos hb).mp hr
            unfold Oper.wpIn
            rw [Oper.semAt_plain Fe _ _ (Qes (List.all_eq_true.1 hdf _ (List.mem_of_getElem? hoj'))),hr']
            exact ⟨fun f _=>hFr.fn f,next⟩
          · rw [if_neg hb]
            have hc':undef=c:=by
              cases hgd':s.guard with
              | none=>rw [hgd'] at hb; exact absurd rfl hb
              | some db =>
                rw [hgd'] at hr hb
                exact (if_neg hb).mp hr
            rw [hc']
            exact next
        | false =>
          rw [if_neg (by rw [hU]; decide)] at hkk
          obtain ⟨h1,h2,h3,h4⟩:(∀ i,isT l i=true→listed.getD i false=false)∧Ext w0 W∧(∀ i k,C[i]? = some k→listed.getD i false=true→k.fact base (vs i) W)∧Qi4 D l.length listed vs:=by
            rcases ph with h | ⟨h1,_⟩
            · exact h
            · exact absurd (h1 j hjl hTj hU) hnl
          have holds:∀ (r:List (Tmp×Option Nat)),(∀ x∈r,x∈s.reads)→Qcc (envN N L) ((C.take j).map (Kn.fact base)) (slots a) W r:=by
            intro r
            induction r with
            | nil=>intro _; trivial
            | cons x r ihr =>
              intro hr
              obtain ⟨t,si⟩:=x
              have hm:=hr _ List.mem_cons_self
              cases si with
              | none=>exact ⟨slotN t hm,ihr fun x hx=>hr x (List.mem_cons_of_mem _ hx)⟩
              | some i =>
                refine ⟨?_,ihr fun x hx=>hr x (List.mem_cons_of_mem _ hx)⟩
                obtain ⟨hij,hli,_⟩:=readS t i hm
                rw [slotS t i hm]
                obtain ⟨ki,hki⟩:∃ ki,C[i]? = some ki:=⟨C[i]'(by omega),by simp [show i<C.length by omega]⟩
                have e1:((C.take j).map (Kn.fact base)).getD i (fun _ _=>True)=ki.fact base:=by
                  simp [hij,hki]
                rw [e1]
                exact h3 i ki hki hli
          have hopj:=hkk (slots a) W h2 (holds s.reads fun _ h=>h)
          have next:∀ v W',Ext W W'→(k.fact base v W'∧(j∈D→v=.pointer (some ⟨W.heap.size,0,none⟩)))→wpAnyIn Fe nf P .any l.toArray Q fuel (listed.setIfInBounds j true) (a.put oj.dst v) W':=by
            intro v W' hR ⟨hφ,hfresh⟩
            refine ih _ _ W' (fun i=>if i=j then v else vs i) ⟨by simp [inv.size],inv.closed.set hj,(Qc0 _ _ _).trans inv.defers,(QcZ _ _ _).trans inv.asize,fun i o d hi hio hd=>?_,fun t ht=>?_,fun i c' hc hi=>?_⟩ (.inl ⟨htl (P:=fun _=>True) h1,Rely.Ext.trans h2 hR,fun i k' hk' hi=>?_,fun i k' hi hk' hli hlk hin hkn hne=>?_⟩) ?_
            · by_cases hij:i=j
              · subst hij
                obtain rfl:o=oj:=Option.some.inj (hio.symm.trans hoj')
                rw [hd,Qcz _ _ _ (by rw [inv.asize,hN]; exact Qee l hdst i o d hoj' hd)]
                simp
              · simp only [hij,if_false]
                rcases hlist i hi with e | e
                · exact absurd e hij
                · rw [Qbp _ _ _ _ (Qed l hdst i j o oj d hio hoj' hij hd)]
                  exact inv.vals i o d e hio hd
            · rw [Qbp _ _ _ _ (ht j oj (by simp [Array.getElem?_setIfInBounds_self_of_lt hjs]) hoj')]
              exact inv.rest t fun i o hi hio=>ht i o (getD_set_true hi) hio
            · by_cases hij:i=j
              · subst hij
                obtain rfl:k=.is c':=Option.some.inj (hk.symm.trans hc)
                have hv:v=c':=hφ
                simpa using hv
              · simp only [hij,if_false]
                refine inv.cst i c' hc ?_
                rcases hi with hi | hi
                · exact .inl ((hlist i hi).resolve_left hij)
                · exact .inr hi
            · by_cases hij:i=j
              · subst hij
                obtain rfl:k'=k:=Option.some.inj (hk'.symm.trans hk)
                simpa using hφ
              · simp only [hij,if_false]
                exact Kn.stable base k' _ _ _ hR (h3 i k' hk' ((hlist i hi).resolve_left hij))
            · have old:∀ m,m∈D→listed.getD m false=true→j∈D→vs m≠v:=fun m hm hl hjD he=>by
                obtain ⟨cs,T,hc⟩:=hDC m hm
                obtain ⟨g,hg1,_,hg2⟩:=h3 m _ hc hl
                rw [hg1,hfresh hjD] at he
                simp only [Value.pointer.injEq,Option.some.injEq,Addr.mk.injEq,and_true] at he
                have:=Qa4 hg2
                omega
              by_cases hij:i=j
              · by_cases hkj:k'=j
                · exact absurd (hij.trans hkj.symm) hne
                · simp only [hij,hkj,if_true,if_false]
                  exact (old k' hk' ((hlist k' hlk).resolve_left hkj) (hij▸hi)).symm
              · by_cases hkj:k'=j
                · simp only [hij,hkj,if_true,if_false]
                  exact old i hi ((hlist i hli).resolve_left hij) (hkj▸hk')
                · simp only [hij,hkj,if_false]
                  exact h4 i k' hi hk' ((hlist i hli).resolve_left hij) ((hlist k' hlk).resolve_left hkj) hin hkn hne
            · have:=Qdd (ops:=l.toArray) hju (by rw [List.size_toArray]; exact inv.size)
              omega
          refine Qcl hoj hFr.fn ?_
          rw [Qb0 hg']
          by_cases hb:gOk s.guard (slots a)=true
          · rw [if_pos hb]
            refine QfU (R:=Ext) (W:=W) (φ:=fun v W'=>k.fact base v W'∧(j∈D→v=.pointer (some ⟨W.heap.size,0,none⟩))) (Qes (List.all_eq_true.1 hdf _ (List.mem_of_getElem? hoj'))) hFr.fn hFr.dp hFr.calls (fun {_ _ _} h1 h2=>Rely.Ext.trans h1 h2) ?_ next
            cases hgd':s.guard with
            | none=>rw [hgd'] at hopj; exact Qcy hD hoj' hopj
            | some db =>
              rw [hgd'] at hopj hb
              exact Qcy hD hoj' ((if_pos hb).mp hopj)
          · rw [if_neg hb]
            refine next undef W (Ext.refl W) ⟨?_,fun hjD=>absurd (noguard hD hjD hoj' hg') (fun e=>hb (by rw [e]; rfl))⟩
            cases hgd':s.guard with
            | none=>rw [hgd'] at hb; exact absurd rfl hb
            | some db =>
              rw [hgd'] at hopj hb
              exact (if_neg hb).mp hopj
end
theorem QgG {P : Program} {id:Nat} {Q:Exit→Act→World→Prop} {N:Nat} {L:Env} {w:World} {l:List Oper} (Rd:World→Prop) (S:List Src) (D U:List Nat) (hFr:Free Fe nf P) (hdf:(l.all Qcr)=true) (hD:QcR l D=true) (hm:P.follows .mixedOrders=true) (hok:okT l N S U=true) (hRd:∀ W,Ext w W→Rd W)
    (h:∀ F:List Kn→Prop,(∀ C,QdL C 0=D→(∀ W,Ext w W→fins w.heap.size (fun L W=>Qdu P Rd l N L (fun W'=>Q .normal (Qap ds N L) W') (QcF l) W) l C [] L W)→F C)→QcT P Rd w.drew w.heap.size N L U F l S []) :
    (Code.region id l.toArray true).wpIn Fe nf P Q (Qap ds N L) w:=by
  have hok':=hok
  simp only [okT,Bool.and_eq_true] at hok'
  obtain ⟨⟨⟨⟨⟨hsrc,hdst⟩,hedge⟩,htail⟩,hst⟩,hUT⟩:=hok'
  obtain ⟨C,hlen,_,hF,hO⟩:=QdS l S [] (QeD l S 0 hsrc) (h (fun C=>QdL C 0=D∧∀ W,Ext w W→fins w.heap.size (fun L W=>Qdu P Rd l N L (fun W'=>Q .normal (Qap ds N L) W') (QcF l) W) l C [] L W) (fun C h1 h2=>⟨h1,h2⟩))
  have hCl:C.length=l.length:=by simpa using hlen
  refine wpIn_region_any hm ?_
  have hcount:l.toArray.size=left l.toArray (Array.replicate l.toArray.size false):=by
    unfold left
    have:∀ m,m≤l.toArray.size→(List.range m).countP (fun i=>!(Array.replicate l.toArray.size false).getD i true)=m:=by
      intro m
      induction m with
      | zero=>intro _; simp
      | succ m ih =>
        intro hm
        rw [List.range_succ,List.countP_append,ih (by omega),List.countP_singleton]
        have:(Array.replicate l.toArray.size false).getD m true=false:=by simp at hm ⊢; simp [show m<l.length by omega]
        simp only [this,Bool.not_false,if_true]
    exact (this _ (qR _)).symm
  refine QhD (P:=P) (Fe:=Fe) (nf:=nf) (w0:=w.drew) (base:=w.heap.size) (N:=N) (L:=L) (S:=S) (C:=C) (U:=U) (D:=D) (Rd:=Rd) hFr hdf hD (fun j hj=>Qd6 C C 0 (fun j=>by rw [Nat.zero_add]) j (by rw [hF.1]; exact hj)) hok hCl (fun W hW=>hRd W (Rely.Ext.trans (Qai w) hW)) (fun j o s hj hs=>by simpa using hO j o s hj hs) (fun W hR=>?_) _ _ _ _ (fun i=>match C[i]? with | some (.is c)=>c | _=>undef) ⟨by simp,?_,rfl,rfl,?_,fun t _=>rfl,fun i c hc _=>by simp [hc]⟩ (.inl ⟨fun i _=>getD_replicate_false _ _,Ext.refl _,?_,?_⟩) hcount
  · have:=hF.2 W (Rely.Ext.trans (Qai w) hR)
    have key:=QdZ (ds:=ds) (Q:=fun af W=>QcM P Rd l af (fun W'=>Q .normal af W') (QcF l) W) (N:=N) (base:=w.heap.size) (W:=W) (D:=D) l C 0 [] L (fun i _=>by rw [hF.1]; simp)
    refine key ?_
    have mono:∀ (os:List Oper) (C:List Kn) (acc:List Nat) (L:Env) (A B:Env→World→Prop),(∀ L W,A L W→B L W)→fins w.heap.size A os C acc L W→fins w.heap.size B os C acc L W:=by
      intro os
      induction os with
      | nil=>intro C acc L A B h hh; cases C <;> exact h _ _ hh
      | cons o os ih =>
        intro C acc L A B h hh
        cases C with
        | nil=>exact h _ _ hh
        | cons k C =>
          cases k with
          | is c=>exact ih C acc _ A B h hh
          | new cs T=>exact fun g h1 h2 h3=>ih C _ _ A B h (hh g h1 h2 h3)
    exact mono l C [] L _ _ (fun L W h=>QgU _ _ h) this
  · intro j o ho hl
    rw [getD_replicate_false] at hl; cases hl
  · intro i o d hi; rw [getD_replicate_false] at hi; cases hi
  · intro i k _ hi; rw [getD_replicate_false] at hi; cases hi
  · intro i k _ _ hi; rw [getD_replicate_false] at hi; cases hi
end Go.Proofs.YtmljnchhgkfemaaDoor.Auto
end
section
namespace Go.Proofs.YtmljnchhgkfemaaDoor.Field
open Go Go.RowKit
open Rely Auto Ladder
theorem climb (xs : List Int) (hx:xs.length=32) (hb:Qag xs) (u:Int) (hu:isN u) (w:World) :
    Calls Tryd.prog 22 #[.agg (ints .u8 xs),num u] w (Ret w (num (QgD u (Qbt (clamp xs))))):=by
  have hcs:=hcs_ xs hx
  have hxs:(ints .u8 xs).size=32:=by rw [Qac,hx]
  have hcl:(clamp xs).length=32:=by simp [clamp,hx]
  have hcb:=Qgo xs hx hb
  refine Qme 43 [(0,.agg (ints .u8 xs)),(1,.agg (numA (u)))] Tryd.func22 rfl rfl kj rfl <| sgC fun K1 hK1=>Qaj (ints .u8 xs) 23 2 rfl kj kj fun g2 W1 l2 e1 r2_1=>?_
  have x1:=Ext.tr (Rely.Ext.refl w) e1
  have b2:=qT (Rely.Ext.refl w).size l2
  refine Qaj (numA (u)) 55 3 rfl kj kj fun g3 W2 l3 e2 r3_2=>?_
  have x2:=Ext.tr x1 e2
  have b3:=qT x1.size l3
  refine Qaj (numA (0)) 55 4 rfl kj kj fun g4 W3 l4 e3 r4_3=>?_
  have x3:=Ext.tr x2 e3
  refine sgN hK1 <| wp_seq_k fun K5 hK5=>Qcw 8 [⟨none,[]⟩,⟨none,[]⟩,⟨none,[(7,some 0),(8,some 1)]⟩,⟨none,[(3,none)]⟩,⟨none,[]⟩,⟨none,[(10,some 3),(11,some 4)]⟩,⟨none,[(9,some 2),(12,some 5)]⟩,⟨none,[]⟩] [7] kj kj kj fun F hF=>QaD (.agg (numA (1))) 25 #[.int .i64 1] kj kj (fun W=>by kernel_rfl) (fun W hR=>(QeT 1 (by decide)) W) <| QaD (.agg (numA (0))) 25 #[.int .i64 0] kj kj (fun W=>by kernel_rfl) (fun W hR=>(QeT 0 (by decide)) W) <| Qas (.agg (cat [numA (1),numA (0)])) kj kj (fun W=>by kernel_rfl) ?_
  have r3_3:=(Qaa r3_2 e3)
  refine Qax (.agg (numA (u))) kj kj (fun W hR=>(Qae 55 _ g3 55 _ _ (Qaa (Qaa r3_3 (Qai _)) hR) rfl kj kj (isz (n:=4) kj kj))) <| QaD (.agg (numA (1))) 25 #[.int .i64 1] kj kj (fun W=>by kernel_rfl) (fun W hR=>(QeT 1 (by decide)) W) <| Qas (.agg (cat [numA (u),numA (1)])) kj kj (fun W=>by kernel_rfl) <| Qas (.agg (cat [numA (1),numA (0),numA (u),numA (1)])) kj kj (fun W=>by kernel_rfl) <| QcX (cat [numA (0),numA (0),numA (0),numA (0)]) 78 kj (qR _) kj (fun W=>by kernel_rfl) <| QaT (hF _ kj fun W4 e4=>?_)
  simp only [fins,up,List.take_succ_cons,List.take_zero,List.drop_succ_cons,List.drop_zero,List.nil_append,List.cons_append]
  intro g6 l6 r6_4 n6
  have b6:=qT x3.size l6
  clear hF
  refine Qah g6 _ (cat [numA (1),numA (0),numA (u),numA (1)]) 78 r6_4 rfl kj (Qaf 78 _ _ g6 78 _ _ r6_4 rfl kj kj (isz (n:=16) kj kj) (eqsz (n:=16) kj kj) kj) fun W5 p5 r6_5=>sgN hK5 <| wp_seq_k fun K7 hK7=>sgC fun K8 hK8=>Qad (.agg (ints .u8 xs)) 14 rfl kj (Qae 23 _ g2 23 _ _ (Puts.row p5 (Qaa (Qaa (Qaa r2_1 e2) e3) e4) (Qab (Qaa (Qaa r2_1 e2) e3) l6)) rfl kj kj (isz (n:=32) kj hxs)) <| Qao (.agg (ints .u8 (clamp xs))) 42 #[.agg (ints .u8 xs)] 15 rfl kj kj ((QpS xs hx hb) _) fun W6 e6=>QaA (fun v W'=>Ext W6 W'∧∃ kb,W6.heap.size≤kb∧v=.func (.func 62) #[] #[.pointer (some ⟨kb,0,none⟩)]∧W'.heap[kb]? = some (.cells (ints .u8 (clamp xs)) 23)) 41 #[.agg (ints .u8 (clamp xs))] 16 rfl kj kj (QkD _ _) fun v W7 h=>?_
  obtain ⟨e7,kb,lk,rfl,r9_7⟩:=h
  have x7:=Ext.tr (Ext.tr (Puts.ext p5 (Ext.tr x3 e4) b6) e6) e7
  refine sgN hK8 <| wp_block ?_
  have n_gu_gs:g3≠g6:=(Qab r3_3 l6)
  have n_gr_gs:g4≠g6:=(Qab r4_3 l6)
  have n_kb_gs:kb≠g6:=(Qav (Qaa r6_5 e6) lk)
  refine Qko (gf:=62) (lb:=#[.pointer (some ⟨kb,0,none⟩)]) (enc:=encB) kj (enters_of Tryd.func62 kj rfl) (Qi1 _ (by omega) kb (clamp xs) hcl hcb W7 r9_7) (fun h k=>Same.trans' h k) (Qlc (Qa4 r9_7)) (Below.refl _ _)
      (fun pre W=>(W.heap[g6]? = some (.cells (cat [numA (rungs u pre).1,numA (rungs u pre).2.1,numA (rungs u pre).2.2.1,numA (rungs u pre).2.2.2]) 78)∧W.heap[g3]? = some (.cells (numA u) 55)∧W.heap[g4]? = some (.cells (numA 0) 55)∧W.heap[kb]? = some (.cells (ints .u8 (clamp xs)) 23))∧Ext w W)
      (fun _ _ _=>False) (OwnFrom.and (Own.from (fun s A B row hs hg hr=>⟨Qbl hs.1 hg hr,Qbl hs.2.1 hg hr,Qbl hs.2.2.1 hg hr,Qbl hs.2.2.2 hg hr⟩) _) (ownFrom_below (qR _) x7.size)) (fun _ _ _ _ _ h _ _=>h) ⟨⟨(Qaa (Qaa r6_5 e6) e7),(Qaa (Qaa (Puts.row p5 (Qaa r3_3 e4) (Qab r3_3 l6)) e6) e7),(Qaa (Qaa (Puts.row p5 (Qaa r4_3 e4) (Qab r4_3 l6)) e6) e7),r9_7⟩,x7⟩ (fun x=>[(6,encB x),(17,encB x)]) (fun l x W K hK=>?_) (fun l pre x W hI hp=>?_) (fun D ys W lD hS hI rD=>?_) (fun _ _ _ _ _ _ h _=>h.elim)
  · refine Qbs ?_
    refine QbJ (encB x) 6 rfl (QaU l 1 _) rfl kj kj <| Qdp ?_
    exact hK
  · obtain ⟨⟨rs,ru,rr,rk⟩,xx⟩:=hI
    have hS0:=QeU u pre x
    have hL:=QdV u hu pre
    generalize rungs u pre=st at hS0 hL rs
    obtain ⟨a,b,c,d⟩:=st
    cases x
    · have cs:=step u a b c d hu hL.1 hL.2.1 hL.2.2.1 hL.2.2.2
      generalize hn:lstep u a b c d=r at cs
      obtain ⟨n1,n2,n3,n4⟩:=r
      have hS:rungs u (pre++[false])=(n1,n2,n3,n4):=by
        rw [hS0]
        simp only [rung,hn,Bool.false_eq_true,if_false]
      clear hS0 hn
      have ls:=b6
      refine wpIn_block <| QgG (fun W=>True) [⟨none,[(6,none)]⟩,⟨none,[(6,none)]⟩,⟨none,[(20,some 1)]⟩,⟨none,[(3,none)]⟩,⟨none,[(6,none)]⟩,⟨none,[(5,none),(23,some 4)]⟩,⟨none,[(24,some 5)]⟩,⟨none,[(6,none)]⟩,⟨none,[(26,some 7)]⟩,⟨none,[(5,none),(27,some 8)]⟩,⟨none,[(28,some 9)]⟩,⟨none,[(22,some 3),(25,some 6),(29,some 10)]⟩,⟨none,[(30,some 11)]⟩,⟨none,[(18,some 12)]⟩,⟨none,[(18,some 12)]⟩,⟨none,[(5,none),(19,some 0)]⟩,⟨none,[(33,some 15),(31,some 13)]⟩,⟨none,[(5,none),(21,some 2)]⟩,⟨none,[(34,some 17),(32,some 14)]⟩] [] [1,2,14,17] (QaU l 1 _) rfl kj kj kj (fun W hR=>trivial) fun F hF=>QaV (.int .i64 0) kj kj rfl (fun W=>by kernel_rfl) <| QaV (.int .i64 0) kj kj rfl (fun W=>by kernel_rfl) <| QaV (.int .i64 1) kj kj rfl (fun W=>by kernel_rfl) <| Qbv (.agg (numA (u))) kj kj kj rfl (fun W hR=>(Qae 55 _ g3 55 _ _ (Qaa (Qaa ru (Qai _)) hR) rfl kj kj (isz (n:=4) kj kj))) <| QaV (.int .i64 0) kj kj rfl (fun W=>by kernel_rfl) <| QaV (.pointer (some ⟨g6,0,none⟩)) kj kj rfl (fun W=>by kernel_rfl) <| Qbv (.agg (cat [numA (a),numA (b)])) kj kj kj rfl (fun W hR=>(Qat 77 _ g6 0 78 _ _ _ (Qaa (Qaa rs (Qai _)) hR) rfl kj (Qa8 [] [numA (a),numA (b)] [numA (c),numA (d)] 0 kj) kj (isz (n:=8) kj kj))) <| QaV (.int .i64 0) kj kj rfl (fun W=>by kernel_rfl) ?_
      refine QaV (.int .i64 1) kj kj rfl (fun W=>by kernel_rfl) <| QaV (.pointer (some ⟨g6,8,none⟩)) kj kj rfl (fun W=>by kernel_rfl) <| Qbv (.agg (cat [numA (c),numA (d)])) kj kj kj rfl (fun W hR=>(Qat 77 _ g6 8 78 _ _ _ (Qaa (Qaa rs (Qai _)) hR) rfl kj (Qa8 [numA (a),numA (b)] [numA (c),numA (d)] [] 8 kj) kj (isz (n:=8) kj kj))) <| QdQ (.tuple #[.agg (cat [numA (n1),numA (n2)]),.agg (cat [numA (n3),numA (n4)])]) 43 #[.agg (numA (u)),.agg (cat [numA (a),numA (b)]),.agg (cat [numA (c),numA (d)])] kj kj kj rfl (fun W=>by kernel_rfl) (fun W hR=>cs W) <| QaV (.tuple #[.agg (cat [numA (n1),numA (n2)]),.agg (cat [numA (n3),numA (n4)])]) kj kj rfl (fun W=>by kernel_rfl) <| QaV (.agg (cat [numA (n1),numA (n2)])) kj kj rfl (fun W=>by kernel_rfl) <| QaV (.agg (cat [numA (n3),numA (n4)])) kj kj rfl (fun W=>by kernel_rfl) <| QaV (.pointer (some ⟨g6,0,none⟩)) kj kj rfl (fun W=>by kernel_rfl) <| QbY rfl <| QaV (.pointer (some ⟨g6,8,none⟩)) kj kj rfl (fun W=>by kernel_rfl) ?_
      refine QbY rfl <| QgV (hF _ kj fun W1 e1=>?_)
      simp only [List.nil_append,List.cons_append,fins,up]
      clear hF
      have x1:=Ext.tr xx e1
      have r102_1:=(Qaa rs e1)
      refine QbL _ g6 _ (cat [numA (n1),numA (n2),numA (c),numA (d)]) 78 r102_1 rfl (Qc5 77 _ _ g6 0 78 [] [numA (a),numA (b)] [numA (n1),numA (n2)] [numA (c),numA (d)] r102_1 rfl kj kj (isz (n:=8) kj kj) kj (eqsz (n:=8) kj kj) kj) (fun W hp=>trivial) fun W2 p2 r102_2=>?_
      have x2:=Puts.ext p2 x1 ls
      refine QbL _ g6 _ (cat [numA (n1),numA (n2),numA (n3),numA (n4)]) 78 r102_2 rfl (Qc5 77 _ _ g6 8 78 [numA (n1),numA (n2)] [numA (c),numA (d)] [numA (n3),numA (n4)] [] r102_2 rfl kj kj (isz (n:=8) kj kj) kj (eqsz (n:=8) kj kj) kj) (fun W hp=>trivial) fun W3 p3 r102_3=>?_
      have x3:=Puts.ext p3 x2 ls
      refine QeC ?_
      have r101_3:=(Puts.row p3 (Puts.row p2 (Qaa ru e1) n_gu_gs) n_gu_gs)
      have r103_3:=(Puts.row p3 (Puts.row p2 (Qaa rr e1) n_gr_gs) n_gr_gs)
      have r104_3:=(Puts.row p3 (Puts.row p2 (Qaa rk e1) n_kb_gs) n_kb_gs)
      exact ⟨(((Qdo e1).trans (Qdh p2 r102_1)).trans (Qdh p3 r102_2)),r104_3.trans rk.symm,⟨by rw [hS]; exact r102_3,r101_3,r103_3,r104_3⟩,x3⟩
    · have cs:=step u c d a b hu hL.2.2.1 hL.2.2.2 hL.1 hL.2.1
      generalize hn:lstep u c d a b=r at cs
      obtain ⟨n1,n2,n3,n4⟩:=r
      have hS:rungs u (pre++[true])=(n3,n4,n1,n2):=by
        rw [hS0]
        simp only [rung,hn,if_true]
      clear hS0 hn
      have ls:=b6
      refine wpIn_block <| QgG (fun W=>True) [⟨none,[(6,none)]⟩,⟨none,[(6,none)]⟩,⟨none,[(20,some 1)]⟩,⟨none,[(3,none)]⟩,⟨none,[(6,none)]⟩,⟨none,[(5,none),(23,some 4)]⟩,⟨none,[(24,some 5)]⟩,⟨none,[(6,none)]⟩,⟨none,[(26,some 7)]⟩,⟨none,[(5,none),(27,some 8)]⟩,⟨none,[(28,some 9)]⟩,⟨none,[(22,some 3),(25,some 6),(29,some 10)]⟩,⟨none,[(30,some 11)]⟩,⟨none,[(18,some 12)]⟩,⟨none,[(18,some 12)]⟩,⟨none,[(5,none),(19,some 0)]⟩,⟨none,[(33,some 15),(31,some 13)]⟩,⟨none,[(5,none),(21,some 2)]⟩,⟨none,[(34,some 17),(32,some 14)]⟩] [] [1,2,14,17] (QaU l 1 _) rfl kj kj kj (fun W hR=>trivial) fun F hF=>QaV (.int .i64 1) kj kj rfl (fun W=>by kernel_rfl) <| QaV (.int .i64 1) kj kj rfl (fun W=>by kernel_rfl) <| QaV (.int .i64 0) kj kj rfl (fun W=>by kernel_rfl) <| Qbv (.agg (numA (u))) kj kj kj rfl (fun W hR=>(Qae 55 _ g3 55 _ _ (Qaa (Qaa ru (Qai _)) hR) rfl kj kj (isz (n:=4) kj kj))) <| QaV (.int .i64 1) kj kj rfl (fun W=>by kernel_rfl) <| QaV (.pointer (some ⟨g6,8,none⟩)) kj kj rfl (fun W=>by kernel_rfl) <| Qbv (.agg (cat [numA (c),numA (d)])) kj kj kj rfl (fun W hR=>(Qat 77 _ g6 8 78 _ _ _ (Qaa (Qaa rs (Qai _)) hR) rfl kj (Qa8 [numA (a),numA (b)] [numA (c),numA (d)] [] 8 kj) kj (isz (n:=8) kj kj))) <| QaV (.int .i64 1) kj kj rfl (fun W=>by kernel_rfl) ?_
      refine QaV (.int .i64 0) kj kj rfl (fun W=>by kernel_rfl) <| QaV (.pointer (some ⟨g6,0,none⟩)) kj kj rfl (fun W=>by kernel_rfl) <| Qbv (.agg (cat [numA (a),numA (b)])) kj kj kj rfl (fun W hR=>(Qat 77 _ g6 0 78 _ _ _ (Qaa (Qaa rs (Qai _)) hR) rfl kj (Qa8 [] [numA (a),numA (b)] [numA (c),numA (d)] 0 kj) kj (isz (n:=8) kj kj))) <| QdQ (.tuple #[.agg (cat [numA (n1),numA (n2)]),.agg (cat [numA (n3),numA (n4)])]) 43 #[.agg (numA (u)),.agg (cat [numA (c),numA (d)]),.agg (cat [numA (a),numA (b)])] kj kj kj rfl (fun W=>by kernel_rfl) (fun W hR=>cs W) <| QaV (.tuple #[.agg (cat [numA (n1),numA (n2)]),.agg (cat [numA (n3),numA (n4)])]) kj kj rfl (fun W=>by kernel_rfl) <| QaV (.agg (cat [numA (n1),numA (n2)])) kj kj rfl (fun W=>by kernel_rfl) <| QaV (.agg (cat [numA (n3),numA (n4)])) kj kj rfl (fun W=>by kernel_rfl) <| QaV (.pointer (some ⟨g6,8,none⟩)) kj kj rfl (fun W=>by kernel_rfl) <| QbY rfl <| QaV (.pointer (some ⟨g6,0,none⟩)) kj kj rfl (fun W=>by kernel_rfl) ?_
      refine QbY rfl <| QgV (hF _ kj fun W1 e1=>?_)
      simp only [List.nil_append,List.cons_append,fins,up]
      clear hF
      have x1:=Ext.tr xx e1
      have r102_1:=(Qaa rs e1)
      refine QbL _ g6 _ (cat [numA (a),numA (b),numA (n1),numA (n2)]) 78 r102_1 rfl (Qc5 77 _ _ g6 8 78 [numA (a),numA (b)] [numA (c),numA (d)] [numA (n1),numA (n2)] [] r102_1 rfl kj kj (isz (n:=8) kj kj) kj (eqsz (n:=8) kj kj) kj) (fun W hp=>trivial) fun W2 p2 r102_2=>?_
      have x2:=Puts.ext p2 x1 ls
      refine QbL _ g6 _ (cat [numA (n3),numA (n4),numA (n1),numA (n2)]) 78 r102_2 rfl (Qc5 77 _ _ g6 0 78 [] [numA (a),numA (b)] [numA (n3),numA (n4)] [numA (n1),numA (n2)] r102_2 rfl kj kj (isz (n:=8) kj kj) kj (eqsz (n:=8) kj kj) kj) (fun W hp=>trivial) fun W3 p3 r102_3=>?_
      have x3:=Puts.ext p3 x2 ls
      refine QeC ?_
      have r101_3:=(Puts.row p3 (Puts.row p2 (Qaa ru e1) n_gu_gs) n_gu_gs)
      have r103_3:=(Puts.row p3 (Puts.row p2 (Qaa rr e1) n_gr_gs) n_gr_gs)
      have r104_3:=(Puts.row p3 (Puts.row p2 (Qaa rk e1) n_kb_gs) n_kb_gs)
      exact ⟨(((Qdo e1).trans (Qdh p2 r102_1)).trans (Qdh p3 r102_2)),r104_3.trans rk.symm,⟨by rw [hS]; exact r102_3,r101_3,r103_3,r104_3⟩,x3⟩
  obtain ⟨⟨rs,ru,rr,rk⟩,xx⟩:=hI
  subst hS
  have hL:=QdV u hu (Qbt (clamp xs))
  have bD:w.heap.size≤D:=qT x7.size lD
  refine hK7 _ _ <| wp_seq_k fun K11 hK11=>QaY 8 [⟨none,[(5,none)]⟩,⟨none,[(35,some 0)]⟩,⟨none,[(36,some 1)]⟩,⟨none,[(5,none)]⟩,⟨none,[(38,some 3)]⟩,⟨none,[(39,some 4)]⟩,⟨none,[(40,some 5)]⟩,⟨none,[(37,some 2),(41,some 6)]⟩] kj kj fun F hF=>Qas (.pointer (some ⟨g6,0,none⟩)) kj kj (fun W=>by kernel_rfl) <| Qas (.pointer (some ⟨g6,0,none⟩)) kj kj (fun W=>by kernel_rfl) <| Qax (.agg (numA ((rungs u (Qbt (clamp xs))).1))) kj kj (fun W hR=>(Qat 55 _ g6 0 78 _ _ _ (Qaa (Qaa rs (Qai _)) hR) rfl kj (Qa8 [] [numA ((rungs u (Qbt (clamp xs))).1)] [numA ((rungs u (Qbt (clamp xs))).2.1),numA ((rungs u (Qbt (clamp xs))).2.2.1),numA ((rungs u (Qbt (clamp xs))).2.2.2)] 0 kj) kj (isz (n:=4) kj kj))) <| Qas (.pointer (some ⟨g6,0,none⟩)) kj kj (fun W=>by kernel_rfl) <| Qas (.pointer (some ⟨g6,4,none⟩)) kj kj (fun W=>by kernel_rfl) <| Qax (.agg (numA ((rungs u (Qbt (clamp xs))).2.1))) kj kj (fun W hR=>(Qat 55 _ g6 4 78 _ _ _ (Qaa (Qaa rs (Qai _)) hR) rfl kj (Qa8 [numA ((rungs u (Qbt (clamp xs))).1)] [numA ((rungs u (Qbt (clamp xs))).2.1)] [numA ((rungs u (Qbt (clamp xs))).2.2.1),numA ((rungs u (Qbt (clamp xs))).2.2.2)] 4 kj) kj (isz (n:=4) kj kj))) <| QaD (.agg (numA (invN (rungs u (Qbt (clamp xs))).2.1))) 45 #[.agg (numA ((rungs u (Qbt (clamp xs))).2.1))] kj kj (fun W=>by kernel_rfl) (fun W hR=>(inv _ hL.2.1) W) ?_
  refine QaD (.agg (numA (QgD u (Qbt (clamp xs))))) 44 #[.agg (numA ((rungs u (Qbt (clamp xs))).1)),.agg (numA (invN (rungs u (Qbt (clamp xs))).2.1))] kj kj (fun W=>by kernel_rfl) (fun W hR=>(mul _ _ hL.1 (Qhz _)) W) <| QaT (hF _ kj fun W9 e9=>?_)
  simp only [ups,up,Kn.val,List.take_succ_cons,List.take_zero,List.drop_succ_cons,List.drop_zero,List.nil_append,List.cons_append]
  clear hF
  have r4_9:=(Qaa rr e9)
  refine Qah g4 _ (numA (QgD u (Qbt (clamp xs)))) 55 r4_9 rfl kj (Qaf 55 _ _ g4 55 _ _ r4_9 rfl kj kj (isz (n:=4) kj kj) (eqsz (n:=4) kj kj) kj) fun W10 p10 r4_10=>sgN hK11 <| wp_ret ?_
  have r10_10:=(Puts.row p10 (Qaa rD e9) (QoC rr rD))
  exact (show bodyPostM _ _ _ _ _ .ret _ _ from Qq2 (.agg (numA (QgD u (Qbt (clamp xs))))) rfl r10_10 (QaZ g4 55 _ (Qf8 r4_10 r10_10 _) kj kj (isz (n:=4) kj kj)) ⟨rfl,Qf9 (Puts.ext p10 (Ext.tr xx e9) (qT x2.size l4)) bD r10_10 _⟩)
end Go.Proofs.YtmljnchhgkfemaaDoor.Field
end
section
namespace Go.Proofs.YtmljnchhgkfemaaDoor.Field
open Go Go.RowKit
open Rely Auto Ladder
def crungs (u : Int) (es:List Int) (k:Nat):LSt:=rungs u (((Qbt es).drop 1).take (255-k))
def outN (u : Int) (s:LSt):Int:=s.1*invN s.2.1%p
theorem QgK (u : Int) (hu:isN u) (es:List Int) (k:Nat):isL (crungs u es k):=QdV u hu _
theorem Qjf (u : Int) (es:List Int) (j:Nat) (hj:j<255):crungs u es j=rung u (crungs u es (j+1)) (bitB es j):=by
  unfold crungs
  rw [←QeU]
  congr 1
  have e:255-j=(255-(j+1))+1:=by omega
  rw [e,List.take_add_one]
  congr 1
  have h:1+(255-(j+1))<256:=by omega
  simp only [Qbt,List.getElem?_drop,List.getElem?_map,List.getElem?_range h,Option.map_some,Option.toList_some]
  rw [show 255-(1+(255-(j+1)))=j by omega]
theorem Qfv {n : Int} (h:isN n):0≤n∧n≤p:=⟨h.1,Int.le_of_lt h.2⟩
theorem mulc (q : Int) (h:isN q) (w:World):Calls Tryd.prog 37 #[lnum 121665,lnum q] w (Ret w (lnum (q*121665%p))):=by
  have:=lMul 121665 q (by unfold big; decide) (Qa5 h) w
  rw [Int.mul_comm] at this
  exact this
theorem QkQ (n : Nat) (h:n<9223372036854775808):IntKind.u64.wrap (n:Int)=(n:Int):=wrap64 _ (by unfold isW; omega)
theorem shr8 (v : Int) (n:Nat) (h:n<8):v.fdiv (2^min (n:Int).toNat IntKind.u8.bits)=v/2^n:=by
  rw [show min ((n:Int).toNat) IntKind.u8.bits=n by show min ((n:Int).toNat) 8=n; omega]
  exact Int.fdiv_eq_ediv_of_nonneg _ (Int.le_of_lt (Int.pow_pos (by decide)))
theorem QjQ (es : List Int) (j:Nat) (hb:Qag es) {v:Int} (h:QdO es j=v):Int.tmod (nth es (j/8)/2^(j%8)) 2=v:=by
  rw [←h]
  unfold QdO
  exact Int.tmod_eq_emod_of_nonneg (Int.ediv_nonneg (hb.nth _).1 (Int.le_of_lt (Int.pow_pos (by decide))))
end Go.Proofs.YtmljnchhgkfemaaDoor.Field
end
section
namespace Go.Proofs.YtmljnchhgkfemaaDoor.Field
open Go Go.RowKit
open Rely
theorem QgE (n : Int) (hn:0≤n∧n<9223372036854775808) (w:World):Calls Tryd.prog 20 #[.int .i64 n] w (Ret w (lnum (n%p))):=by
  have hv:pvf (nth (mix 32 (limb n) (fun _=>0) 4)) 32=n:=by
    rw [Qlt _ _ (by decide),QcP,show (65536:Int)^4=18446744073709551616 by decide,Int.emod_eq_of_lt hn.1 (by omega)]
  have HC:Hid (∀ w,Calls Tryd.prog 40 #[.agg (ints .i64 (mix 32 (limb n) (fun _=>0) 4))] w (Ret w (lnum (n%p)))):=Lib.hid fun w=>by
    have:=small (mix 32 (limb n) (fun _=>0) 4) (mix_len _ _ _ _) (Qij _ 4 fun i _=>by
      have:=QaW n i
      unfold M
      omega) (by
        rw [hv,show (65536:Int)^32=big*big by decide]; have:(9223372036854775808:Int)<big*big:=by decide
        omega) w
    rw [hv] at this
    exact this
  unfold lnum at HC ⊢
  have hrl:=QaO (n%p)
  generalize lims (n%p)=res at *
  clear hv
  have hneg:¬ n<0:=by omega
  go_enter Tryd.func20,Tryd.ntmps20
  go_wp2_with fail
  go_loopw [0,5] (fun c i wr=>∃ k:Nat,k≤4∧i=.int .i64 k∧c=.int .i64 (n/65536^k)∧Ext w wr∧(∃ b,b.size=16∧wr.heap[w.heap.size]? = some (.cells b 50)) ∧
    wr.heap[w.heap.size+1]? = some (.cells (ints .i64 (mix 32 (limb n) (fun _=>0) k)) 74)) (fun _ i _=>4-(intOf i).toNat)
  case atStart =>
    exact ⟨0,by omega,rfl,by simp,Ext.trans (QaH _ _) (QaH _ _),⟨_,rfl,QfH _ _ _⟩,QfG _ _ _⟩
  case round =>
    obtain ⟨k,hk,rfl,rfl,he,⟨b,hbs,hB⟩,hC⟩:=hrel
    by_cases hlt:k<4
    · have hZ:(ints .i64 (mix 32 (limb n) (fun _=>0) k))[k]? = some (.int .i64 0):=by rw [Qar _ _ _ (by rw [mix_len]; omega),Qcs _ _ _ _ _ (by omega),if_neg (by omega)]
      have hS:(ints .i64 (mix 32 (limb n) (fun _=>0) k)).setIfInBounds k (.int .i64 (limb n k))=ints .i64 (mix 32 (limb n) (fun _=>0) (k+1)):=by rw [Qb8,mix_set _ _ _ _ (by omega)]
      have hd:=Qmg n hn k
      have e1:limb n k=n/65536^k%65536:=rfl
      have e2:=QlC n k
      rw [e1] at hS
      clear e1
      generalize hq:n/65536^k=q at *
      generalize hq':n/65536^(k+1)=q' at *
      have w2:q.tmod 65536=q%65536:=Int.tmod_eq_emod_of_nonneg hd.1
      have w3:IntKind.i64.wrap (q%65536)=q%65536:=IntWalk.i64_in _ (by omega)
      have w4:q.tdiv 65536=q/65536:=Int.tdiv_eq_ediv_of_nonneg hd.1
      have w5:IntKind.i64.wrap (q/65536)=q/65536:=IntWalk.i64_in _ (by omega)
      have hcx:=QaI hC hZ
      have hfx:=Qbo hC k
      have q5:(k:Int)<32:=by omega
      go_wp2
      exact ⟨⟨k+1,by omega,by go_num,by rw [hq'],Qcu he (by omega) _ _,⟨b,hbs,(Qa6 _ _ (by omega)).trans hB⟩,(Qcp _ _ hC).trans (by rw [hS])⟩,by simp [intOf]; omega⟩
    · obtain rfl:k=4:=by omega
      go_wp2_with first
        | (go_at_call 40
           (with_reducible refine (HC.out _).mono ?_)
           rintro e w' ⟨rfl,hw⟩
           have hB':=Qaa hB hw)
        | (with_reducible show wpList _ _ _ ((⟨_,.load 74 _,_,_,_,_⟩:Oper)::_) _ _
           refine wpList_load_row rfl 74 _ rfl (w.heap.size+1) rfl 74 _ (0,0) _ hC Tryd.underlying74 rfl (QlN _ (mix_len _ _ _ _)) ?_)
        | (with_reducible show wpList _ _ _ ((⟨_,.store 50 _ _,_,_,_,_⟩:Oper)::_) _ _
           refine wpList_store_row rfl 50 _ _ rfl w.heap.size _ rfl rfl 50 _ hB' (infoL _ hrl) (by rw [hbs,Qac,hrl]) (ints_one _ _) ?_)
      exact bodyPost_ret (results_cell_row (p:=2) rfl _ _ w.heap.size 50 _ (0,0) _ rfl (setRow_heap _ _ _ _ _ _ hB') Tryd.underlying50 rfl (infoL _ hrl)) rfl ⟨rfl,Qbh (Ext.trans he hw) (qR _) _⟩
end Go.Proofs.YtmljnchhgkfemaaDoor.Field
end
section
namespace Go.Proofs.YtmljnchhgkfemaaDoor.Field
open Go Go.RowKit
open Rely Auto Ladder
set_option maxHeartbeats 8000000 in
theorem come (xs : List Int) (hx:xs.length=32) (hb:Qag xs) (u:Int) (hu:isN u) (w:World) :
  Calls Tryd.prog 19 #[.agg (ints .u8 xs),lnum u] w (Ret w (.agg (ints .u8 (Qay (outN u (crungs u (clamp xs) 0)))))):=by
 have hcs:=hcs_ xs hx
 have hxs:(ints .u8 xs).size=32:=by rw [Qac,hx]
 have hcl:(clamp xs).length=32:=by simp [clamp,hx]
 have hcb:=Qgo xs hx hb
 have lsk:∀ W,Calls Tryd.prog 20 #[.int .i64 121665] W (Ret W (lnum 121665)):=fun W=>by
  have:=QgE 121665 (by decide) W
  rw [show (121665:Int)%p=121665 by decide] at this
  exact this
 refine enter 112 [(0,.agg (ints .u8 xs)),(1,.agg (ints .i64 (lims (u))))] Tryd.func19 rfl rfl kj rfl <| sgC fun K1 hK1=>Qaj (ints .u8 xs) 23 2 rfl kj kj fun g2 W1 l2 e1 r2_1=>?_
 have x1:=Ext.tr (Rely.Ext.refl w) e1
 have b2:=qT (Rely.Ext.refl w).size l2
 refine Qaj (ints .i64 (lims (u))) 50 3 rfl kj kj fun g3 W2 l3 e2 r3_2=>?_
 have x2:=Ext.tr x1 e2
 have b3:=qT x1.size l3
 refine Qaj ((Array.replicate 32 (.int .u8 0))) 23 4 rfl kj kj fun g4 W3 l4 e3 r4_3=>sgN hK1 <| sgC fun K5 hK5=>?_
 have r2_3:=(Qaa (Qaa r2_1 e2) e3)
 refine Qad (.agg (ints .u8 xs)) 24 rfl kj (Qae 23 _ g2 23 _ _ r2_3 rfl kj kj (isz (n:=32) kj hxs)) <| Qao (.agg (ints .u8 (clamp xs))) 34 #[.agg (ints .u8 xs)] 25 rfl kj kj ((Qlh xs hx hb) _) fun W4 e4=>?_
 have x4:=Ext.tr (Ext.tr x2 e3) e4
 refine Qaj ((Array.replicate 32 (.int .u8 0))) 23 5 rfl kj kj fun g6 W5 l6 e5 r6_5=>Qah g6 _ (ints .u8 (clamp xs)) 23 r6_5 rfl kj (Qaf 23 _ _ g6 23 _ _ r6_5 rfl kj kj (isz (n:=32) kj hcs) (eqsz (n:=32) kj hcs) (ints_one _ _)) fun W6 p6 r6_6=>?_
 have x6:=Puts.ext p6 (Ext.tr x4 e5) (qT x4.size l6)
 refine sgN hK5 <| sgC fun K7 hK7=>sg 1 kj <| Qaj (ints .i64 (lims (0))) 50 6 rfl kj kj fun g8 W7 l8 e7 r8_7=>?_
 have b8:=qT x6.size l8
 refine Qah g8 _ (ints .i64 (lims (1))) 50 r8_7 rfl kj (Qaf 50 _ _ g8 50 _ _ r8_7 rfl kj kj (isz (n:=16) kj kj) (eqsz (n:=16) kj kj) kj) fun W8 p8 r8_8=>?_
 have x8:=Puts.ext p8 (Ext.tr x6 e7) b8
 refine sgN hK7 <| sgC fun K9 hK9=>sg 1 kj <| Qaj (ints .i64 (lims (0))) 50 7 rfl kj kj fun g10 W9 l10 e9 r10_9=>?_
 have b10:=qT x8.size l10
 refine Qah g10 _ (ints .i64 (lims (0))) 50 r10_9 rfl kj (Qaf 50 _ _ g10 50 _ _ r10_9 rfl kj kj (isz (n:=16) kj kj) (eqsz (n:=16) kj kj) kj) fun W10 p10 r10_10=>?_
 have x10:=Puts.ext p10 (Ext.tr x8 e9) b10
 refine sgN hK9 <| sgC fun K11 hK11=>?_
 have r3_4:=(Qaa (Qaa r3_2 e3) e4)
 have r3_6:=(Puts.row p6 (Qaa r3_4 e5) (Qab r3_4 l6))
 have r3_8:=(Puts.row p8 (Qaa r3_6 e7) (Qab r3_6 l8))
 have r3_10:=(Puts.row p10 (Qaa (Puts.row p8 (Qaa (Puts.row p6 (Qaa (Qaa (Qaa r3_2 e3) e4) e5) (Qab r3_4 l6)) e7) (Qab r3_6 l8)) e9) (Qab r3_8 l10))
 refine Qad (.agg (ints .i64 (lims (u)))) 28 rfl kj (Qae 50 _ g3 50 _ _ r3_10 rfl kj kj (isz (n:=16) kj kj)) <| Qaj (ints .i64 (lims (0))) 50 8 rfl kj kj fun g12 W11 l12 e11 r12_11=>?_
 have b12:=qT x10.size l12
 refine Qah g12 _ (ints .i64 (lims (u))) 50 r12_11 rfl kj (Qaf 50 _ _ g12 50 _ _ r12_11 rfl kj kj (isz (n:=16) kj kj) (eqsz (n:=16) kj kj) kj) fun W12 p12 r12_12=>?_
 have x12:=Puts.ext p12 (Ext.tr x10 e11) b12
 refine sgN hK11 <| sgC fun K13 hK13=>sg 1 kj <| Qaj (ints .i64 (lims (0))) 50 9 rfl kj kj fun g14 W13 l14 e13 r14_13=>?_
 have b14:=qT x12.size l14
 refine Qah g14 _ (ints .i64 (lims (1))) 50 r14_13 rfl kj (Qaf 50 _ _ g14 50 _ _ r14_13 rfl kj kj (isz (n:=16) kj kj) (eqsz (n:=16) kj kj) kj) fun W14 p14 r14_14=>sgN hK13 <| sgC fun K15 hK15=>Qao (.agg (ints .i64 (lims (121665)))) 20 #[.int .i64 121665] 30 rfl kj kj (lsk _) fun W15 e15=>?_
 have x15:=Ext.tr (Puts.ext p14 (Ext.tr x12 e13) b14) e15
 refine Qaj (ints .i64 (lims (0))) 50 10 rfl kj kj fun g16 W16 l16 e16 r16_16=>Qah g16 _ (ints .i64 (lims (121665))) 50 r16_16 rfl kj (Qaf 50 _ _ g16 50 _ _ r16_16 rfl kj kj (isz (n:=16) kj kj) (eqsz (n:=16) kj kj) kj) fun W17 p17 r16_17=>sgN hK15 <| wp_seq_k fun K17 hK17=>sgB kj <| wp_block ?_
 obtain ⟨es,hes⟩:∃ es,es=clamp xs:=⟨_,rfl⟩
 rw [←hes] at hcs hcl hcb
 have r2_4:=(Qaa r2_3 e4)
 have r2_6:=(Puts.row p6 (Qaa r2_4 e5) (Qab r2_4 l6))
 have r2_8:=(Puts.row p8 (Qaa r2_6 e7) (Qab r2_6 l8))
 have r2_10:=(Puts.row p10 (Qaa r2_8 e9) (Qab r2_8 l10))
 have r2_12:=(Puts.row p12 (Qaa r2_10 e11) (Qab r2_10 l12))
 have r3_12:=(Puts.row p12 (Qaa r3_10 e11) (Qab r3_10 l12))
 have r4_4:=(Qaa r4_3 e4)
 have r4_6:=(Puts.row p6 (Qaa r4_4 e5) (Qab r4_4 l6))
 have r4_8:=(Puts.row p8 (Qaa r4_6 e7) (Qab r4_6 l8))
 have r4_10:=(Puts.row p10 (Qaa r4_8 e9) (Qab r4_8 l10))
 have r4_12:=(Puts.row p12 (Qaa r4_10 e11) (Qab r4_10 l12))
 have r6_8:=(Puts.row p8 (Qaa r6_6 e7) (Qab r6_6 l8))
 have r6_10:=(Puts.row p10 (Qaa r6_8 e9) (Qab r6_8 l10))
 have r6_12:=(Puts.row p12 (Qaa r6_10 e11) (Qab r6_10 l12))
 have r6_17:=(Puts.row p17 (Qaa (Qaa (Puts.row p14 (Qaa (Puts.row p12 (Qaa (Puts.row p10 (Qaa (Puts.row p8 (Qaa r6_6 e7) (Qab r6_6 l8)) e9) (Qab r6_8 l10)) e11) (Qab r6_10 l12)) e13) (Qab r6_12 l14)) e15) e16) (Qab (Qaa (Puts.row p14 (Qaa r6_12 e13) (Qab r6_12 l14)) e15) l16))
 have r8_10:=(Puts.row p10 (Qaa r8_8 e9) (Qab r8_8 l10))
 have r8_12:=(Puts.row p12 (Qaa r8_10 e11) (Qab r8_10 l12))
 have r8_15:=(Qaa (Puts.row p14 (Qaa r8_12 e13) (Qab r8_12 l14)) e15)
 have r10_12:=(Puts.row p12 (Qaa r10_10 e11) (Qab r10_10 l12))
 have r10_15:=(Qaa (Puts.row p14 (Qaa r10_12 e13) (Qab r10_12 l14)) e15)
 have r12_15:=(Qaa (Puts.row p14 (Qaa r12_12 e13) (Qab r12_12 l14)) e15)
 have r14_15:=(Qaa r14_14 e15)
 rw [←hes] at r6_17
 have n_2_6:g2≠g8:=(Qab r2_6 l8)
 have n_2_7:g2≠g10:=(Qab r2_8 l10)
 have n_2_8:g2≠g12:=(Qab r2_10 l12)
 have n_2_9:g2≠g14:=(Qab r2_12 l14)
 have n_3_6:g3≠g8:=(Qab r3_6 l8)
 have n_3_7:g3≠g10:=(Qab r3_8 l10)
 have n_3_8:g3≠g12:=(Qab r3_10 l12)
 have n_3_9:g3≠g14:=(Qab r3_12 l14)
 have n_4_6:g4≠g8:=(Qab r4_6 l8)
 have n_4_7:g4≠g10:=(Qab r4_8 l10)
 have n_4_8:g4≠g12:=(Qab r4_10 l12)
 have n_4_9:g4≠g14:=(Qab r4_12 l14)
 have n_5_6:g6≠g8:=(Qab r6_6 l8)
 have n_5_7:g6≠g10:=(Qab r6_8 l10)
 have n_5_8:g6≠g12:=(Qab r6_10 l12)
 have n_5_9:g6≠g14:=(Qab r6_12 l14)
 have n_6_7:g8≠g10:=(Qab r8_8 l10)
 have n_6_8:g8≠g12:=(Qab r8_10 l12)
 have n_6_9:g8≠g14:=(Qab r8_12 l14)
 have n_7_6:g10≠g8:=(Qav r8_8 l10)
 have n_7_8:g10≠g12:=(Qab r10_10 l12)
 have n_7_9:g10≠g14:=(Qab r10_12 l14)
 have n_8_6:g12≠g8:=(Qav r8_10 l12)
 have n_8_7:g12≠g10:=(Qav r10_10 l12)
 have n_8_9:g12≠g14:=(Qab r12_12 l14)
 have n_9_6:g14≠g8:=(Qav r8_12 l14)
 have n_9_7:g14≠g10:=(Qav r10_12 l14)
 have n_9_8:g14≠g12:=(Qav r12_12 l14)
 have n_10_6:g16≠g8:=(Qav r8_15 l16)
 have n_10_7:g16≠g10:=(Qav r10_15 l16)
 have n_10_8:g16≠g12:=(Qav r12_15 l16)
 have n_10_9:g16≠g14:=(Qav r14_15 l16)
 refine QaN (fun (k:Nat)=>[(11,.int .i64 ((k:Int)-1)),(2,.pointer (some ⟨g2,0,none⟩)),(3,.pointer (some ⟨g3,0,none⟩)),(4,.pointer (some ⟨g4,0,none⟩)),(5,.pointer (some ⟨g6,0,none⟩)),(6,.pointer (some ⟨g8,0,none⟩)),(7,.pointer (some ⟨g10,0,none⟩)),(8,.pointer (some ⟨g12,0,none⟩)),(9,.pointer (some ⟨g14,0,none⟩)),(10,.pointer (some ⟨g16,0,none⟩))]) (fun (k:Nat) W=>k≤255∧W.heap[g2]? = some (.cells (ints .u8 xs) 23)∧W.heap[g3]? = some (.cells (ints .i64 (lims u)) 50)∧W.heap[g4]? = some (.cells ((Array.replicate 32 (.int .u8 0))) 23)∧W.heap[g6]? = some (.cells (ints .u8 es) 23)∧W.heap[g8]? = some (.cells (ints .i64 (lims (crungs u es k).1)) 50)∧W.heap[g10]? = some (.cells (ints .i64 (lims (crungs u es k).2.1)) 50)∧W.heap[g12]? = some (.cells (ints .i64 (lims (crungs u es k).2.2.1)) 50)∧W.heap[g14]? = some (.cells (ints .i64 (lims (crungs u es k).2.2.2)) 50)∧W.heap[g16]? = some (.cells (ints .i64 (lims 121665)) 50)∧Ext w W) (fun k=>k) 255 ⟨kj,kj,kj,kj,kj,kj,kj,kj,kj,kj,trivial⟩ ⟨by omega,(Puts.row p17 (Qaa (Qaa (Puts.row p14 (Qaa (Puts.row p12 (Qaa (Puts.row p10 (Qaa (Puts.row p8 (Qaa (Puts.row p6 (Qaa (Qaa r2_3 e4) e5) (Qab r2_4 l6)) e7) (Qab r2_6 l8)) e9) (Qab r2_8 l10)) e11) (Qab r2_10 l12)) e13) (Qab r2_12 l14)) e15) e16) (Qab (Qaa (Puts.row p14 (Qaa r2_12 e13) (Qab r2_12 l14)) e15) l16)),(Puts.row p17 (Qaa (Qaa (Puts.row p14 (Qaa (Puts.row p12 (Qaa r3_10 e11) (Qab r3_10 l12)) e13) (Qab r3_12 l14)) e15) e16) (Qab (Qaa (Puts.row p14 (Qaa r3_12 e13) (Qab r3_12 l14)) e15) l16)),(Puts.row p17 (Qaa (Qaa (Puts.row p14 (Qaa (Puts.row p12 (Qaa (Puts.row p10 (Qaa (Puts.row p8 (Qaa (Puts.row p6 (Qaa (Qaa r4_3 e4) e5) (Qab r4_4 l6)) e7) (Qab r4_6 l8)) e9) (Qab r4_8 l10)) e11) (Qab r4_10 l12)) e13) (Qab r4_12 l14)) e15) e16) (Qab (Qaa (Puts.row p14 (Qaa r4_12 e13) (Qab r4_12 l14)) e15) l16)),r6_17,(Puts.row p17 (Qaa (Qaa (Puts.row p14 (Qaa (Puts.row p12 (Qaa (Puts.row p10 (Qaa r8_8 e9) (Qab r8_8 l10)) e11) (Qab r8_10 l12)) e13) (Qab r8_12 l14)) e15) e16) (Qab r8_15 l16)),(Puts.row p17 (Qaa (Qaa (Puts.row p14 (Qaa (Puts.row p12 (Qaa r10_10 e11) (Qab r10_10 l12)) e13) (Qab r10_12 l14)) e15) e16) (Qab r10_15 l16)),(Puts.row p17 (Qaa (Qaa (Puts.row p14 (Qaa r12_12 e13) (Qab r12_12 l14)) e15) e16) (Qab r12_15 l16)),(Puts.row p17 (Qaa (Qaa r14_14 e15) e16) (Qab r14_15 l16)),r16_17,(Puts.ext p17 (Ext.tr x15 e16) (qT x15.size l16))⟩ fun k X W hI=>?_
 obtain ⟨hk,q2,q3,q4,q5,q6,q7,q8,q9,q10,xx⟩:=hI
 rcases k with _ | j
 ·skip
  have hL:=QgK u hu es 0
  refine wp_seq_k fun K19 hK19=>sgB kj <| cond_false kj <| wp_exit <| hK17 _ _ <| wp_seq_k fun K21 hK21=>QaY 5 [⟨none,[(6,none)]⟩,⟨none,[(7,none)]⟩,⟨none,[(108,some 1)]⟩,⟨none,[(107,some 0),(109,some 2)]⟩,⟨none,[(110,some 3)]⟩] kj kj fun F hF=>Qax (.agg (ints .i64 (lims ((crungs u es 0).1)))) kj kj (fun W hR=>(Qae 50 _ g8 50 _ _ (Qaa (Qaa q6 (Qai _)) hR) rfl kj kj (isz (n:=16) kj kj))) <| Qax (.agg (ints .i64 (lims ((crungs u es 0).2.1)))) kj kj (fun W hR=>(Qae 50 _ g10 50 _ _ (Qaa (Qaa q7 (Qai _)) hR) rfl kj kj (isz (n:=16) kj kj))) <| QaD (.agg (ints .i64 (lims (invN (crungs u es 0).2.1)))) 39 #[.agg (ints .i64 (lims ((crungs u es 0).2.1)))] kj kj (fun W=>by kernel_rfl) (fun W hR=>(lInv _ hL.2.1) W) ?_
  refine QaD (.agg (ints .i64 (lims (outN u (crungs u es 0))))) 37 #[.agg (ints .i64 (lims ((crungs u es 0).1))),.agg (ints .i64 (lims (invN (crungs u es 0).2.1)))] kj kj (fun W=>by kernel_rfl) (fun W hR=>(lMul _ _ (Qa5 hL.1) (Qa5 (Qhz _))) W) <| QaD (.agg (ints .u8 (Qay (outN u (crungs u es 0))))) 38 #[.agg (ints .i64 (lims (outN u (crungs u es 0))))] kj kj (fun W=>by kernel_rfl) (fun W hR=>(QpM _) W) <| QaT (hF _ kj fun W19 e19=>?_)
  simp only [ups,up,Kn.val,List.take_succ_cons,List.take_zero,List.drop_succ_cons,List.drop_zero,List.nil_append,List.cons_append]
  clear hF
  have x19:=Ext.tr xx e19
  have r4_19:=(Qaa q4 e19)
  refine Qah g4 _ (ints .u8 (Qay (outN u (crungs u es 0)))) 23 r4_19 rfl kj (Qaf 23 _ _ g4 23 _ _ r4_19 rfl kj kj (isz (n:=32) kj kj) (eqsz (n:=32) kj kj) (ints_one _ _)) fun W20 p20 r4_20=>?_
  have x20:=Puts.ext p20 x19 (qT x2.size l4)
  refine sgN hK21 <| wp_ret ?_
  exact (show bodyPost _ _ _ .ret _ _ from ret1 (.agg (ints .u8 (Qay (outN u (crungs u es 0))))) rfl (QaZ g4 23 _ r4_20 kj kj (isz (n:=32) kj kj)) ⟨by rw [hes],x20⟩)
 ·rw [show (((j+1:Nat):Int)-1)=(j:Int) by omega]
  have hS0:=Qjf u es j (by omega)
  have hL:=QgK u hu es (j+1)
  generalize crungs u es (j+1)=st at hS0 hL q6 q7 q8 q9
  obtain ⟨a,b,c,d⟩:=st
  obtain ⟨ia,ib,ic,id⟩:=hL
  have iu:=hu
  have hbr:=Qgq es j
  by_cases hb1:QdO es j=1
  ·have hbit:Int.tmod (nth es (j/8)/2^(j%8)) 2=1:=QjQ es j hcb hb1
   rw [show bitB es j=true by simp [bitB,hb1]] at hS0
   obtain ⟨s0,e_s0⟩:∃ s,s=(c+d)%p:=⟨_,rfl⟩
   have is0:isN s0:=e_s0▸QaB _
   have c_s0:∀ W,Calls Tryd.prog 35 #[lnum c,lnum d] W (Ret W (lnum s0)):=by rw [e_s0]; exact (lAdd c d (Qa5 ic) (Qa5 id))
   obtain ⟨s1,e_s1⟩:∃ s,s=(c-d)%p:=⟨_,rfl⟩
   have is1:isN s1:=e_s1▸QaB _
   have c_s1:∀ W,Calls Tryd.prog 36 #[lnum c,lnum d] W (Ret W (lnum s1)):=by rw [e_s1]; exact (lSub c d (Qa5 ic) (Qfv id))
   obtain ⟨s2,e_s2⟩:∃ s,s=(a+b)%p:=⟨_,rfl⟩
   have is2:isN s2:=e_s2▸QaB _
   have c_s2:∀ W,Calls Tryd.prog 35 #[lnum a,lnum b] W (Ret W (lnum s2)):=by rw [e_s2]; exact (lAdd a b (Qa5 ia) (Qa5 ib))
   obtain ⟨s3,e_s3⟩:∃ s,s=(a-b)%p:=⟨_,rfl⟩
   have is3:isN s3:=e_s3▸QaB _
   have c_s3:∀ W,Calls Tryd.prog 36 #[lnum a,lnum b] W (Ret W (lnum s3)):=by rw [e_s3]; exact (lSub a b (Qa5 ia) (Qfv ib))
   obtain ⟨s4,e_s4⟩:∃ s,s=s0*s0%p:=⟨_,rfl⟩
   have is4:isN s4:=e_s4▸QaB _
   have c_s4:∀ W,Calls Tryd.prog 37 #[lnum s0,lnum s0] W (Ret W (lnum s4)):=by rw [e_s4]; exact (lMul s0 s0 (Qa5 is0) (Qa5 is0))
   obtain ⟨s5,e_s5⟩:∃ s,s=s1*s1%p:=⟨_,rfl⟩
   have is5:isN s5:=e_s5▸QaB _
   have c_s5:∀ W,Calls Tryd.prog 37 #[lnum s1,lnum s1] W (Ret W (lnum s5)):=by rw [e_s5]; exact (lMul s1 s1 (Qa5 is1) (Qa5 is1))
   obtain ⟨s6,e_s6⟩:∃ s,s=(s4-s5)%p:=⟨_,rfl⟩
   have is6:isN s6:=e_s6▸QaB _
   have c_s6:∀ W,Calls Tryd.prog 36 #[lnum s4,lnum s5] W (Ret W (lnum s6)):=by rw [e_s6]; exact (lSub s4 s5 (Qa5 is4) (Qfv is5))
   obtain ⟨s7,e_s7⟩:∃ s,s=s3*s0%p:=⟨_,rfl⟩
   have is7:isN s7:=e_s7▸QaB _
   have c_s7:∀ W,Calls Tryd.prog 37 #[lnum s3,lnum s0] W (Ret W (lnum s7)):=by rw [e_s7]; exact (lMul s3 s0 (Qa5 is3) (Qa5 is0))
   obtain ⟨s8,e_s8⟩:∃ s,s=s2*s1%p:=⟨_,rfl⟩
   have is8:isN s8:=e_s8▸QaB _
   have c_s8:∀ W,Calls Tryd.prog 37 #[lnum s2,lnum s1] W (Ret W (lnum s8)):=by rw [e_s8]; exact (lMul s2 s1 (Qa5 is2) (Qa5 is1))
   obtain ⟨s9,e_s9⟩:∃ s,s=(s7+s8)%p:=⟨_,rfl⟩
   have is9:isN s9:=e_s9▸QaB _
   have c_s9:∀ W,Calls Tryd.prog 35 #[lnum s7,lnum s8] W (Ret W (lnum s9)):=by rw [e_s9]; exact (lAdd s7 s8 (Qa5 is7) (Qa5 is8))
   obtain ⟨s10,e_s10⟩:∃ s,s=(s7-s8)%p:=⟨_,rfl⟩
   have is10:isN s10:=e_s10▸QaB _
   have c_s10:∀ W,Calls Tryd.prog 36 #[lnum s7,lnum s8] W (Ret W (lnum s10)):=by rw [e_s10]; exact (lSub s7 s8 (Qa5 is7) (Qfv is8))
   obtain ⟨s11,e_s11⟩:∃ s,s=s9*s9%p:=⟨_,rfl⟩
   have is11:isN s11:=e_s11▸QaB _
   have c_s11:∀ W,Calls Tryd.prog 37 #[lnum s9,lnum s9] W (Ret W (lnum s11)):=by rw [e_s11]; exact (lMul s9 s9 (Qa5 is9) (Qa5 is9))
   obtain ⟨s12,e_s12⟩:∃ s,s=s10*s10%p:=⟨_,rfl⟩
   have is12:isN s12:=e_s12▸QaB _
   have c_s12:∀ W,Calls Tryd.prog 37 #[lnum s10,lnum s10] W (Ret W (lnum s12)):=by rw [e_s12]; exact (lMul s10 s10 (Qa5 is10) (Qa5 is10))
   obtain ⟨s13,e_s13⟩:∃ s,s=u*s12%p:=⟨_,rfl⟩
   have is13:isN s13:=e_s13▸QaB _
   have c_s13:∀ W,Calls Tryd.prog 37 #[lnum u,lnum s12] W (Ret W (lnum s13)):=by rw [e_s13]; exact (lMul u s12 (Qa5 iu) (Qa5 is12))
   obtain ⟨s14,e_s14⟩:∃ s,s=s4*s5%p:=⟨_,rfl⟩
   have is14:isN s14:=e_s14▸QaB _
   have c_s14:∀ W,Calls Tryd.prog 37 #[lnum s4,lnum s5] W (Ret W (lnum s14)):=by rw [e_s14]; exact (lMul s4 s5 (Qa5 is4) (Qa5 is5))
   obtain ⟨s15,e_s15⟩:∃ s,s=s6*121665%p:=⟨_,rfl⟩
   have is15:isN s15:=e_s15▸QaB _
   have c_s15:∀ W,Calls Tryd.prog 37 #[lnum 121665,lnum s6] W (Ret W (lnum s15)):=by rw [e_s15]; exact (mulc s6 is6)
   obtain ⟨s16,e_s16⟩:∃ s,s=(s4+s15)%p:=⟨_,rfl⟩
   have is16:isN s16:=e_s16▸QaB _
   have c_s16:∀ W,Calls Tryd.prog 35 #[lnum s4,lnum s15] W (Ret W (lnum s16)):=by rw [e_s16]; exact (lAdd s4 s15 (Qa5 is4) (Qa5 is15))
   obtain ⟨s17,e_s17⟩:∃ s,s=s6*s16%p:=⟨_,rfl⟩
   have is17:isN s17:=e_s17▸QaB _
   have c_s17:∀ W,Calls Tryd.prog 37 #[lnum s6,lnum s16] W (Ret W (lnum s17)):=by rw [e_s17]; exact (lMul s6 s16 (Qa5 is6) (Qa5 is16))
   refine wp_seq_k fun K55 hK55=>sgC fun K56 hK56=>sg 1 kj <| Qad (.bool true) 32 rfl kj (Qal (u:=.bool (decide ((j:Int)≥0))) kj (congrArg Value.bool (decide_eq_true (by omega)))) <| sgN hK56 <| cond_true kj <| wp_skip <| hK55 _ _ <| wp_seq_k fun K57 hK57=>wp_block ?_
   refine sgC fun K58 hK58=>sg 1 kj <| Qad (.int .i64 (((j/8:Nat):Int))) 36 rfl kj (Qal (u:=.int .i64 (IntKind.i64.wrap (Int.tdiv ((j:Int)) (8)))) kj (congrArg (Value.int .i64) (QdY j 8 (by omega)))) <| Qad (.pointer (some ⟨g6,j/8,none⟩)) 37 rfl kj (Qa3 _ _ _ .i64 (j/8) _ 32 5 rfl kj kj kj kj (by omega)) <| Qad (.int .u8 (nth es (j/8))) 38 rfl kj (Qak 5 _ g6 (j/8) 23 _ (.int .u8 (nth es (j/8))) _ q5 rfl kj (Qar _ _ _ (by omega)) kj) <| sg 1 kj <| Qad (.int .i64 (((j%8:Nat):Int))) 40 rfl kj (Qal (u:=.int .i64 (Int.tmod ((j:Int)) (8))) kj (congrArg (Value.int .i64) (QcJ j 8))) <| Qad (.int .u64 (((j%8:Nat):Int))) 41 rfl kj (Qal (u:=.int .u64 (IntKind.u64.wrap (((j%8:Nat):Int)))) kj (congrArg (Value.int .u64) (QkQ _ (by omega)))) <| Qad (.int .u8 (nth es (j/8)/2^(j%8))) 42 rfl kj (Qbc .shr _ _ _ _ .u8 .u64 _ _ _ rfl kj kj (Qdf _ _ _ _ _ _ (by omega) (shr8 _ _ (by omega)))) <| Qad (.int .u8 (1)) 43 rfl kj (Qal (u:=.int .u8 (Int.tmod ((nth es (j/8)/2^(j%8))) (2))) kj (congrArg (Value.int .u8) hbit)) ?_
   refine sg 1 kj <| sgN hK58 <| wp_seq_k fun K59 hK59=>sgB kj <| cond_true kj <| sgC fun K61 hK61=>Qad (.agg (ints .i64 (lims (c)))) 46 rfl kj (Qae 50 _ g12 50 _ _ q8 rfl kj kj (isz (n:=16) kj kj)) <| Qad (.agg (ints .i64 (lims (a)))) 47 rfl kj (Qae 50 _ g8 50 _ _ q6 rfl kj kj (isz (n:=16) kj kj)) <| Qah g8 _ (ints .i64 (lims (c))) 50 q6 rfl kj (Qaf 50 _ _ g8 50 _ _ q6 rfl kj kj (isz (n:=16) kj kj) (eqsz (n:=16) kj kj) kj) fun W19 p19 r8_19=>?_
   have x19:=Puts.ext p19 xx b8
   have r12_19:=(Puts.row p19 q8 n_8_6)
   refine Qah g12 _ (ints .i64 (lims (a))) 50 r12_19 rfl kj (Qaf 50 _ _ g12 50 _ _ r12_19 rfl kj kj (isz (n:=16) kj kj) (eqsz (n:=16) kj kj) kj) fun W20 p20 r12_20=>?_
   have x20:=Puts.ext p20 x19 b12
   refine sgN hK61 <| Qan ?_
   have r14_20:=(Puts.row p20 (Puts.row p19 q9 n_9_6) n_9_8)
   refine Qad (.agg (ints .i64 (lims (d)))) 48 rfl kj (Qae 50 _ g14 50 _ _ r14_20 rfl kj kj (isz (n:=16) kj kj)) ?_
   have r10_20:=(Puts.row p20 (Puts.row p19 q7 n_7_6) n_7_8)
   refine Qad (.agg (ints .i64 (lims (b)))) 49 rfl kj (Qae 50 _ g10 50 _ _ r10_20 rfl kj kj (isz (n:=16) kj kj)) <| Qah g10 _ (ints .i64 (lims (d))) 50 r10_20 rfl kj (Qaf 50 _ _ g10 50 _ _ r10_20 rfl kj kj (isz (n:=16) kj kj) (eqsz (n:=16) kj kj) kj) fun W21 p21 r10_21=>?_
   have x21:=Puts.ext p21 x20 b10
   have r14_21:=(Puts.row p21 r14_20 n_9_7)
   refine Qah g14 _ (ints .i64 (lims (b))) 50 r14_21 rfl kj (Qaf 50 _ _ g14 50 _ _ r14_21 rfl kj kj (isz (n:=16) kj kj) (eqsz (n:=16) kj kj) kj) fun W22 p22 r14_22=>?_
   have x22:=Puts.ext p22 x21 b14
   refine Qaz <| hK59 _ _ <| sgC fun K62 hK62=>?_
   have r8_22:=(Puts.row p22 (Puts.row p21 (Puts.row p20 r8_19 n_6_8) n_6_7) n_6_9)
   refine Qad (.agg (ints .i64 (lims (c)))) 50 rfl kj (Qae 50 _ g8 50 _ _ r8_22 rfl kj kj (isz (n:=16) kj kj)) ?_
   have r10_22:=(Puts.row p22 r10_21 n_7_9)
   refine Qad (.agg (ints .i64 (lims (d)))) 51 rfl kj (Qae 50 _ g10 50 _ _ r10_22 rfl kj kj (isz (n:=16) kj kj)) <| Qao (.agg (ints .i64 (lims (s0)))) 35 #[.agg (ints .i64 (lims (c))),.agg (ints .i64 (lims (d)))] 52 rfl kj kj (c_s0 _) fun W23 e23=>?_
   have x23:=Ext.tr x22 e23
   refine Qaj (ints .i64 (lims (0))) 50 13 rfl kj kj fun g63 W24 l63 e24 r63_24=>?_
   have x24:=Ext.tr x23 e24
   refine Qah g63 _ (ints .i64 (lims (s0))) 50 r63_24 rfl kj (Qaf 50 _ _ g63 50 _ _ r63_24 rfl kj kj (isz (n:=16) kj kj) (eqsz (n:=16) kj kj) kj) fun W25 p25 r63_25=>?_
   have x25:=Puts.ext p25 x24 (qT x23.size l63)
   refine sgN hK62 <| sgC fun K64 hK64=>?_
   have r8_25:=(Puts.row p25 (Qaa (Qaa r8_22 e23) e24) (Qab (Qaa r8_22 e23) l63))
   refine Qad (.agg (ints .i64 (lims (c)))) 53 rfl kj (Qae 50 _ g8 50 _ _ r8_25 rfl kj kj (isz (n:=16) kj kj)) ?_
   have r10_25:=(Puts.row p25 (Qaa (Qaa r10_22 e23) e24) (Qab (Qaa r10_22 e23) l63))
   refine Qad (.agg (ints .i64 (lims (d)))) 54 rfl kj (Qae 50 _ g10 50 _ _ r10_25 rfl kj kj (isz (n:=16) kj kj)) <| Qao (.agg (ints .i64 (lims (s1)))) 36 #[.agg (ints .i64 (lims (c))),.agg (ints .i64 (lims (d)))] 55 rfl kj kj (c_s1 _) fun W26 e26=>?_
   have x26:=Ext.tr x25 e26
   refine Qaj (ints .i64 (lims (0))) 50 14 rfl kj kj fun g65 W27 l65 e27 r65_27=>?_
   have x27:=Ext.tr x26 e27
   refine Qah g65 _ (ints .i64 (lims (s1))) 50 r65_27 rfl kj (Qaf 50 _ _ g65 50 _ _ r65_27 rfl kj kj (isz (n:=16) kj kj) (eqsz (n:=16) kj kj) kj) fun W28 p28 r65_28=>?_
   have x28:=Puts.ext p28 x27 (qT x26.size l65)
   refine sgN hK64 <| sgC fun K66 hK66=>?_
   have r12_23:=(Qaa (Puts.row p22 (Puts.row p21 r12_20 n_8_7) n_8_9) e23)
   have r12_28:=(Puts.row p28 (Qaa (Qaa (Puts.row p25 (Qaa (Qaa (Puts.row p22 (Puts.row p21 r12_20 n_8_7) n_8_9) e23) e24) (Qab r12_23 l63)) e26) e27) (Qab (Qaa (Puts.row p25 (Qaa r12_23 e24) (Qab r12_23 l63)) e26) l65))
   refine Qad (.agg (ints .i64 (lims (a)))) 56 rfl kj (Qae 50 _ g12 50 _ _ r12_28 rfl kj kj (isz (n:=16) kj kj)) ?_
   have r14_23:=(Qaa r14_22 e23)
   have r14_28:=(Puts.row p28 (Qaa (Qaa (Puts.row p25 (Qaa (Qaa r14_22 e23) e24) (Qab r14_23 l63)) e26) e27) (Qab (Qaa (Puts.row p25 (Qaa r14_23 e24) (Qab r14_23 l63)) e26) l65))
   refine Qad (.agg (ints .i64 (lims (b)))) 57 rfl kj (Qae 50 _ g14 50 _ _ r14_28 rfl kj kj (isz (n:=16) kj kj)) <| Qao (.agg (ints .i64 (lims (s2)))) 35 #[.agg (ints .i64 (lims (a))),.agg (ints .i64 (lims (b)))] 58 rfl kj kj (c_s2 _) fun W29 e29=>?_
   have x29:=Ext.tr x28 e29
   refine Qaj (ints .i64 (lims (0))) 50 15 rfl kj kj fun g67 W30 l67 e30 r67_30=>?_
   have x30:=Ext.tr x29 e30
   refine Qah g67 _ (ints .i64 (lims (s2))) 50 r67_30 rfl kj (Qaf 50 _ _ g67 50 _ _ r67_30 rfl kj kj (isz (n:=16) kj kj) (eqsz (n:=16) kj kj) kj) fun W31 p31 r67_31=>?_
   have x31:=Puts.ext p31 x30 (qT x29.size l67)
   refine sgN hK66 <| sgC fun K68 hK68=>?_
   have r12_31:=(Puts.row p31 (Qaa (Qaa r12_28 e29) e30) (Qab (Qaa r12_28 e29) l67))
   refine Qad (.agg (ints .i64 (lims (a)))) 59 rfl kj (Qae 50 _ g12 50 _ _ r12_31 rfl kj kj (isz (n:=16) kj kj)) ?_
   have r14_31:=(Puts.row p31 (Qaa (Qaa r14_28 e29) e30) (Qab (Qaa r14_28 e29) l67))
   refine Qad (.agg (ints .i64 (lims (b)))) 60 rfl kj (Qae 50 _ g14 50 _ _ r14_31 rfl kj kj (isz (n:=16) kj kj)) <| Qao (.agg (ints .i64 (lims (s3)))) 36 #[.agg (ints .i64 (lims (a))),.agg (ints .i64 (lims (b)))] 61 rfl kj kj (c_s3 _) fun W32 e32=>?_
   have x32:=Ext.tr x31 e32
   refine Qaj (ints .i64 (lims (0))) 50 16 rfl kj kj fun g69 W33 l69 e33 r69_33=>?_
   have x33:=Ext.tr x32 e33
   refine Qah g69 _ (ints .i64 (lims (s3))) 50 r69_33 rfl kj (Qaf 50 _ _ g69 50 _ _ r69_33 rfl kj kj (isz (n:=16) kj kj) (eqsz (n:=16) kj kj) kj) fun W34 p34 r69_34=>?_
   have x34:=Puts.ext p34 x33 (qT x32.size l69)
   refine sgN hK68 <| sgC fun K70 hK70=>?_
   have r63_26:=(Qaa r63_25 e26)
   have r63_29:=(Qaa (Puts.row p28 (Qaa r63_26 e27) (Qab r63_26 l65)) e29)
   have r63_34:=(Puts.row p34 (Qaa (Qaa (Puts.row p31 (Qaa (Qaa (Puts.row p28 (Qaa (Qaa r63_25 e26) e27) (Qab r63_26 l65)) e29) e30) (Qab r63_29 l67)) e32) e33) (Qab (Qaa (Puts.row p31 (Qaa r63_29 e30) (Qab r63_29 l67)) e32) l69))
   refine Qad (.agg (ints .i64 (lims (s0)))) 62 rfl kj (Qae 50 _ g63 50 _ _ r63_34 rfl kj kj (isz (n:=16) kj kj)) <| Qad (.agg (ints .i64 (lims (s0)))) 63 rfl kj (Qae 50 _ g63 50 _ _ r63_34 rfl kj kj (isz (n:=16) kj kj)) <| Qao (.agg (ints .i64 (lims (s4)))) 37 #[.agg (ints .i64 (lims (s0))),.agg (ints .i64 (lims (s0)))] 64 rfl kj kj (c_s4 _) fun W35 e35=>?_
   have x35:=Ext.tr x34 e35
   refine Qaj (ints .i64 (lims (0))) 50 17 rfl kj kj fun g71 W36 l71 e36 r71_36=>?_
   have x36:=Ext.tr x35 e36
   refine Qah g71 _ (ints .i64 (lims (s4))) 50 r71_36 rfl kj (Qaf 50 _ _ g71 50 _ _ r71_36 rfl kj kj (isz (n:=16) kj kj) (eqsz (n:=16) kj kj) kj) fun W37 p37 r71_37=>?_
   have x37:=Puts.ext p37 x36 (qT x35.size l71)
   refine sgN hK70 <| sgC fun K72 hK72=>?_
   have r65_29:=(Qaa r65_28 e29)
   have r65_32:=(Qaa (Puts.row p31 (Qaa r65_29 e30) (Qab r65_29 l67)) e32)
   have r65_37:=(Puts.row p37 (Qaa (Qaa (Puts.row p34 (Qaa (Qaa (Puts.row p31 (Qaa (Qaa r65_28 e29) e30) (Qab r65_29 l67)) e32) e33) (Qab r65_32 l69)) e35) e36) (Qab (Qaa (Puts.row p34 (Qaa r65_32 e33) (Qab r65_32 l69)) e35) l71))
   refine Qad (.agg (ints .i64 (lims (s1)))) 65 rfl kj (Qae 50 _ g65 50 _ _ r65_37 rfl kj kj (isz (n:=16) kj kj)) <| Qad (.agg (ints .i64 (lims (s1)))) 66 rfl kj (Qae 50 _ g65 50 _ _ r65_37 rfl kj kj (isz (n:=16) kj kj)) <| Qao (.agg (ints .i64 (lims (s5)))) 37 #[.agg (ints .i64 (lims (s1))),.agg (ints .i64 (lims (s1)))] 67 rfl kj kj (c_s5 _) fun W38 e38=>?_
   have x38:=Ext.tr x37 e38
   refine Qaj (ints .i64 (lims (0))) 50 18 rfl kj kj fun g73 W39 l73 e39 r73_39=>?_
   have x39:=Ext.tr x38 e39
   refine Qah g73 _ (ints .i64 (lims (s5))) 50 r73_39 rfl kj (Qaf 50 _ _ g73 50 _ _ r73_39 rfl kj kj (isz (n:=16) kj kj) (eqsz (n:=16) kj kj) kj) fun W40 p40 r73_40=>?_
   have x40:=Puts.ext p40 x39 (qT x38.size l73)
   refine sgN hK72 <| sgC fun K74 hK74=>?_
   have r71_40:=(Puts.row p40 (Qaa (Qaa r71_37 e38) e39) (Qab (Qaa r71_37 e38) l73))
   refine Qad (.agg (ints .i64 (lims (s4)))) 68 rfl kj (Qae 50 _ g71 50 _ _ r71_40 rfl kj kj (isz (n:=16) kj kj)) <| Qad (.agg (ints .i64 (lims (s5)))) 69 rfl kj (Qae 50 _ g73 50 _ _ r73_40 rfl kj kj (isz (n:=16) kj kj)) <| Qao (.agg (ints .i64 (lims (s6)))) 36 #[.agg (ints .i64 (lims (s4))),.agg (ints .i64 (lims (s5)))] 70 rfl kj kj (c_s6 _) fun W41 e41=>?_
   have x41:=Ext.tr x40 e41
   refine Qaj (ints .i64 (lims (0))) 50 19 rfl kj kj fun g75 W42 l75 e42 r75_42=>?_
   have x42:=Ext.tr x41 e42
   refine Qah g75 _ (ints .i64 (lims (s6))) 50 r75_42 rfl kj (Qaf 50 _ _ g75 50 _ _ r75_42 rfl kj kj (isz (n:=16) kj kj) (eqsz (n:=16) kj kj) kj) fun W43 p43 r75_43=>?_
   have x43:=Puts.ext p43 x42 (qT x41.size l75)
   refine sgN hK74 <| sgC fun K76 hK76=>?_
   have r69_35:=(Qaa r69_34 e35)
   have r69_38:=(Qaa (Puts.row p37 (Qaa r69_35 e36) (Qab r69_35 l71)) e38)
   refine Qad (.agg (ints .i64 (lims (s3)))) 71 rfl kj (Qae 50 _ g69 50 _ _ (Puts.row p43 (Qaa (Qaa (Puts.row p40 (Qaa (Qaa (Puts.row p37 (Qaa (Qaa r69_34 e35) e36) (Qab r69_35 l71)) e38) e39) (Qab r69_38 l73)) e41) e42) (Qab (Qaa (Puts.row p40 (Qaa r69_38 e39) (Qab r69_38 l73)) e41) l75)) rfl kj kj (isz (n:=16) kj kj)) ?_
   have r63_35:=(Qaa r63_34 e35)
   have r63_38:=(Qaa (Puts.row p37 (Qaa r63_35 e36) (Qab r63_35 l71)) e38)
   refine Qad (.agg (ints .i64 (lims (s0)))) 72 rfl kj (Qae 50 _ g63 50 _ _ (Puts.row p43 (Qaa (Qaa (Puts.row p40 (Qaa (Qaa (Puts.row p37 (Qaa (Qaa r63_34 e35) e36) (Qab r63_35 l71)) e38) e39) (Qab r63_38 l73)) e41) e42) (Qab (Qaa (Puts.row p40 (Qaa r63_38 e39) (Qab r63_38 l73)) e41) l75)) rfl kj kj (isz (n:=16) kj kj)) <| Qao (.agg (ints .i64 (lims (s7)))) 37 #[.agg (ints .i64 (lims (s3))),.agg (ints .i64 (lims (s0)))] 73 rfl kj kj (c_s7 _) fun W44 e44=>?_
   have x44:=Ext.tr x43 e44
   refine Qaj (ints .i64 (lims (0))) 50 20 rfl kj kj fun g77 W45 l77 e45 r77_45=>?_
   have x45:=Ext.tr x44 e45
   refine Qah g77 _ (ints .i64 (lims (s7))) 50 r77_45 rfl kj (Qaf 50 _ _ g77 50 _ _ r77_45 rfl kj kj (isz (n:=16) kj kj) (eqsz (n:=16) kj kj) kj) fun W46 p46 r77_46=>?_
   have x46:=Puts.ext p46 x45 (qT x44.size l77)
   refine sgN hK76 <| sgC fun K78 hK78=>?_
   have r67_32:=(Qaa r67_31 e32)
   have r67_35:=(Qaa (Puts.row p34 (Qaa r67_32 e33) (Qab r67_32 l69)) e35)
   have r67_38:=(Qaa (Puts.row p37 (Qaa r67_35 e36) (Qab r67_35 l71)) e38)
   have r67_41:=(Qaa (Puts.row p40 (Qaa r67_38 e39) (Qab r67_38 l73)) e41)
   refine Qad (.agg (ints .i64 (lims (s2)))) 74 rfl kj (Qae 50 _ g67 50 _ _ (Puts.row p46 (Qaa (Qaa (Puts.row p43 (Qaa (Qaa (Puts.row p40 (Qaa (Qaa (Puts.row p37 (Qaa (Qaa (Puts.row p34 (Qaa (Qaa r67_31 e32) e33) (Qab r67_32 l69)) e35) e36) (Qab r67_35 l71)) e38) e39) (Qab r67_38 l73)) e41) e42) (Qab r67_41 l75)) e44) e45) (Qab (Qaa (Puts.row p43 (Qaa r67_41 e42) (Qab r67_41 l75)) e44) l77)) rfl kj kj (isz (n:=16) kj kj)) ?_
   have r65_38:=(Qaa r65_37 e38)
   have r65_41:=(Qaa (Puts.row p40 (Qaa r65_38 e39) (Qab r65_38 l73)) e41)
   refine Qad (.agg (ints .i64 (lims (s1)))) 75 rfl kj (Qae 50 _ g65 50 _ _ (Puts.row p46 (Qaa (Qaa (Puts.row p43 (Qaa (Qaa (Puts.row p40 (Qaa (Qaa r65_37 e38) e39) (Qab r65_38 l73)) e41) e42) (Qab r65_41 l75)) e44) e45) (Qab (Qaa (Puts.row p43 (Qaa r65_41 e42) (Qab r65_41 l75)) e44) l77)) rfl kj kj (isz (n:=16) kj kj)) <| Qao (.agg (ints .i64 (lims (s8)))) 37 #[.agg (ints .i64 (lims (s2))),.agg (ints .i64 (lims (s1)))] 76 rfl kj kj (c_s8 _) fun W47 e47=>?_
   have x47:=Ext.tr x46 e47
   refine Qaj (ints .i64 (lims (0))) 50 21 rfl kj kj fun g79 W48 l79 e48 r79_48=>?_
   have x48:=Ext.tr x47 e48
   refine Qah g79 _ (ints .i64 (lims (s8))) 50 r79_48 rfl kj (Qaf 50 _ _ g79 50 _ _ r79_48 rfl kj kj (isz (n:=16) kj kj) (eqsz (n:=16) kj kj) kj) fun W49 p49 r79_49=>?_
   have x49:=Puts.ext p49 x48 (qT x47.size l79)
   refine sgN hK78 <| sgC fun K80 hK80=>?_
   have r77_49:=(Puts.row p49 (Qaa (Qaa r77_46 e47) e48) (Qab (Qaa r77_46 e47) l79))
   refine Qad (.agg (ints .i64 (lims (s7)))) 77 rfl kj (Qae 50 _ g77 50 _ _ r77_49 rfl kj kj (isz (n:=16) kj kj)) <| Qad (.agg (ints .i64 (lims (s8)))) 78 rfl kj (Qae 50 _ g79 50 _ _ r79_49 rfl kj kj (isz (n:=16) kj kj)) <| Qao (.agg (ints .i64 (lims (s9)))) 35 #[.agg (ints .i64 (lims (s7))),.agg (ints .i64 (lims (s8)))] 79 rfl kj kj (c_s9 _) fun W50 e50=>?_
   have x50:=Ext.tr x49 e50
   refine Qaj (ints .i64 (lims (0))) 50 22 rfl kj kj fun g81 W51 l81 e51 r81_51=>?_
   have x51:=Ext.tr x50 e51
   refine Qah g81 _ (ints .i64 (lims (s9))) 50 r81_51 rfl kj (Qaf 50 _ _ g81 50 _ _ r81_51 rfl kj kj (isz (n:=16) kj kj) (eqsz (n:=16) kj kj) kj) fun W52 p52 r81_52=>?_
   have x52:=Puts.ext p52 x51 (qT x50.size l81)
   refine sgN hK80 <| sgC fun K82 hK82=>Qad (.agg (ints .i64 (lims (s7)))) 80 rfl kj (Qae 50 _ g77 50 _ _ (Puts.row p52 (Qaa (Qaa r77_49 e50) e51) (Qab (Qaa r77_49 e50) l81)) rfl kj kj (isz (n:=16) kj kj)) <| Qad (.agg (ints .i64 (lims (s8)))) 81 rfl kj (Qae 50 _ g79 50 _ _ (Puts.row p52 (Qaa (Qaa r79_49 e50) e51) (Qab (Qaa r79_49 e50) l81)) rfl kj kj (isz (n:=16) kj kj)) <| Qao (.agg (ints .i64 (lims (s10)))) 36 #[.agg (ints .i64 (lims (s7))),.agg (ints .i64 (lims (s8)))] 82 rfl kj kj (c_s10 _) fun W53 e53=>?_
   have x53:=Ext.tr x52 e53
   refine Qaj (ints .i64 (lims (0))) 50 23 rfl kj kj fun g83 W54 l83 e54 r83_54=>?_
   have x54:=Ext.tr x53 e54
   refine Qah g83 _ (ints .i64 (lims (s10))) 50 r83_54 rfl kj (Qaf 50 _ _ g83 50 _ _ r83_54 rfl kj kj (isz (n:=16) kj kj) (eqsz (n:=16) kj kj) kj) fun W55 p55 r83_55=>?_
   have x55:=Puts.ext p55 x54 (qT x53.size l83)
   refine sgN hK82 <| sgC fun K84 hK84=>?_
   have r81_55:=(Puts.row p55 (Qaa (Qaa r81_52 e53) e54) (Qab (Qaa r81_52 e53) l83))
   refine Qad (.agg (ints .i64 (lims (s9)))) 83 rfl kj (Qae 50 _ g81 50 _ _ r81_55 rfl kj kj (isz (n:=16) kj kj)) <| Qad (.agg (ints .i64 (lims (s9)))) 84 rfl kj (Qae 50 _ g81 50 _ _ r81_55 rfl kj kj (isz (n:=16) kj kj)) <| Qao (.agg (ints .i64 (lims (s11)))) 37 #[.agg (ints .i64 (lims (s9))),.agg (ints .i64 (lims (s9)))] 85 rfl kj kj (c_s11 _) fun W56 e56=>?_
   have x56:=Ext.tr x55 e56
   have r12_32:=(Qaa r12_31 e32)
   have r12_35:=(Qaa (Puts.row p34 (Qaa r12_32 e33) (Qab r12_32 l69)) e35)
   have r12_38:=(Qaa (Puts.row p37 (Qaa r12_35 e36) (Qab r12_35 l71)) e38)
   have r12_41:=(Qaa (Puts.row p40 (Qaa r12_38 e39) (Qab r12_38 l73)) e41)
   have r12_44:=(Qaa (Puts.row p43 (Qaa r12_41 e42) (Qab r12_41 l75)) e44)
   have r12_47:=(Qaa (Puts.row p46 (Qaa r12_44 e45) (Qab r12_44 l77)) e47)
   have r12_50:=(Qaa (Puts.row p49 (Qaa r12_47 e48) (Qab r12_47 l79)) e50)
   have r12_53:=(Qaa (Puts.row p52 (Qaa r12_50 e51) (Qab r12_50 l81)) e53)
   have r12_56:=(Qaa (Puts.row p55 (Qaa (Qaa (Puts.row p52 (Qaa (Qaa (Puts.row p49 (Qaa (Qaa (Puts.row p46 (Qaa (Qaa (Puts.row p43 (Qaa (Qaa (Puts.row p40 (Qaa (Qaa (Puts.row p37 (Qaa (Qaa (Puts.row p34 (Qaa (Qaa r12_31 e32) e33) (Qab r12_32 l69)) e35) e36) (Qab r12_35 l71)) e38) e39) (Qab r12_38 l73)) e41) e42) (Qab r12_41 l75)) e44) e45) (Qab r12_44 l77)) e47) e48) (Qab r12_47 l79)) e50) e51) (Qab r12_50 l81)) e53) e54) (Qab r12_53 l83)) e56)
   refine Qah g12 _ (ints .i64 (lims (s11))) 50 r12_56 rfl kj (Qaf 50 _ _ g12 50 _ _ r12_56 rfl kj kj (isz (n:=16) kj kj) (eqsz (n:=16) kj kj) kj) fun W57 p57 r12_57=>?_
   have x57:=Puts.ext p57 x56 b12
   refine sgN hK84 <| wp_seq_k fun K85 hK85=>QaY 5 [⟨none,[(3,none)]⟩,⟨none,[(23,none)]⟩,⟨none,[(23,none)]⟩,⟨none,[(87,some 1),(88,some 2)]⟩,⟨none,[(86,some 0),(89,some 3)]⟩] kj kj fun F hF=>?_
   have r3_23:=(Qaa (Puts.row p22 (Puts.row p21 (Puts.row p20 (Puts.row p19 q3 n_3_6) n_3_8) n_3_7) n_3_9) e23)
   have r3_26:=(Qaa (Puts.row p25 (Qaa r3_23 e24) (Qab r3_23 l63)) e26)
   have r3_29:=(Qaa (Puts.row p28 (Qaa r3_26 e27) (Qab r3_26 l65)) e29)
   have r3_32:=(Qaa (Puts.row p31 (Qaa r3_29 e30) (Qab r3_29 l67)) e32)
   have r3_35:=(Qaa (Puts.row p34 (Qaa r3_32 e33) (Qab r3_32 l69)) e35)
   have r3_38:=(Qaa (Puts.row p37 (Qaa r3_35 e36) (Qab r3_35 l71)) e38)
   have r3_41:=(Qaa (Puts.row p40 (Qaa r3_38 e39) (Qab r3_38 l73)) e41)
   have r3_44:=(Qaa (Puts.row p43 (Qaa r3_41 e42) (Qab r3_41 l75)) e44)
   have r3_47:=(Qaa (Puts.row p46 (Qaa r3_44 e45) (Qab r3_44 l77)) e47)
   have r3_50:=(Qaa (Puts.row p49 (Qaa r3_47 e48) (Qab r3_47 l79)) e50)
   have r3_53:=(Qaa (Puts.row p52 (Qaa r3_50 e51) (Qab r3_50 l81)) e53)
   have r3_57:=(Puts.row p57 (Qaa (Puts.row p55 (Qaa (Qaa (Puts.row p52 (Qaa (Qaa (Puts.row p49 (Qaa (Qaa (Puts.row p46 (Qaa (Qaa (Puts.row p43 (Qaa (Qaa (Puts.row p40 (Qaa (Qaa (Puts.row p37 (Qaa (Qaa (Puts.row p34 (Qaa (Qaa (Puts.row p31 (Qaa (Qaa (Puts.row p28 (Qaa (Qaa (Puts.row p25 (Qaa (Qaa (Puts.row p22 (Puts.row p21 (Puts.row p20 (Puts.row p19 q3 n_3_6) n_3_8) n_3_7) n_3_9) e23) e24) (Qab r3_23 l63)) e26) e27) (Qab r3_26 l65)) e29) e30) (Qab r3_29 l67)) e32) e33) (Qab r3_32 l69)) e35) e36) (Qab r3_35 l71)) e38) e39) (Qab r3_38 l73)) e41) e42) (Qab r3_41 l75)) e44) e45) (Qab r3_44 l77)) e47) e48) (Qab r3_47 l79)) e50) e51) (Qab r3_50 l81)) e53) e54) (Qab r3_53 l83)) e56) n_3_8)
   refine Qax (.agg (ints .i64 (lims (u)))) kj kj (fun W hR=>(Qae 50 _ g3 50 _ _ (Qaa (Qaa r3_57 (Qai _)) hR) rfl kj kj (isz (n:=16) kj kj))) ?_
   have r83_57:=(Puts.row p57 (Qaa r83_55 e56) (Qav r12_53 l83))
   refine Qax (.agg (ints .i64 (lims (s10)))) kj kj (fun W hR=>(Qae 50 _ g83 50 _ _ (Qaa (Qaa r83_57 (Qai _)) hR) rfl kj kj (isz (n:=16) kj kj))) <| Qax (.agg (ints .i64 (lims (s10)))) kj kj (fun W hR=>(Qae 50 _ g83 50 _ _ (Qaa (Qaa r83_57 (Qai _)) hR) rfl kj kj (isz (n:=16) kj kj))) <| QaD (.agg (ints .i64 (lims (s12)))) 37 #[.agg (ints .i64 (lims (s10))),.agg (ints .i64 (lims (s10)))] kj kj (fun W=>by kernel_rfl) (fun W hR=>c_s12 W) <| QaD (.agg (ints .i64 (lims (s13)))) 37 #[.agg (ints .i64 (lims (u))),.agg (ints .i64 (lims (s12)))] kj kj (fun W=>by kernel_rfl) (fun W hR=>c_s13 W) <| QaT (hF _ kj fun W58 e58=>?_)
   simp only [ups,up,Kn.val,List.take_succ_cons,List.take_zero,List.drop_succ_cons,List.drop_zero,List.nil_append,List.cons_append]
   clear hF
   have x58:=Ext.tr x57 e58
   have r14_32:=(Qaa r14_31 e32)
   have r14_35:=(Qaa (Puts.row p34 (Qaa r14_32 e33) (Qab r14_32 l69)) e35)
   have r14_38:=(Qaa (Puts.row p37 (Qaa r14_35 e36) (Qab r14_35 l71)) e38)
   have r14_41:=(Qaa (Puts.row p40 (Qaa r14_38 e39) (Qab r14_38 l73)) e41)
   have r14_44:=(Qaa (Puts.row p43 (Qaa r14_41 e42) (Qab r14_41 l75)) e44)
   have r14_47:=(Qaa (Puts.row p46 (Qaa r14_44 e45) (Qab r14_44 l77)) e47)
   have r14_50:=(Qaa (Puts.row p49 (Qaa r14_47 e48) (Qab r14_47 l79)) e50)
   have r14_58:=(Qaa (Puts.row p57 (Qaa (Puts.row p55 (Qaa (Qaa (Puts.row p52 (Qaa (Qaa (Puts.row p49 (Qaa (Qaa (Puts.row p46 (Qaa (Qaa (Puts.row p43 (Qaa (Qaa (Puts.row p40 (Qaa (Qaa (Puts.row p37 (Qaa (Qaa (Puts.row p34 (Qaa (Qaa r14_31 e32) e33) (Qab r14_32 l69)) e35) e36) (Qab r14_35 l71)) e38) e39) (Qab r14_38 l73)) e41) e42) (Qab r14_41 l75)) e44) e45) (Qab r14_44 l77)) e47) e48) (Qab r14_47 l79)) e50) e51) (Qab r14_50 l81)) e53) e54) (Qab (Qaa (Puts.row p52 (Qaa r14_50 e51) (Qab r14_50 l81)) e53) l83)) e56) n_9_8) e58)
   refine Qah g14 _ (ints .i64 (lims (s13))) 50 r14_58 rfl kj (Qaf 50 _ _ g14 50 _ _ r14_58 rfl kj kj (isz (n:=16) kj kj) (eqsz (n:=16) kj kj) kj) fun W59 p59 r14_59=>?_
   have x59:=Puts.ext p59 x58 b14
   refine sgN hK85 <| sgC fun K86 hK86=>?_
   have r71_41:=(Qaa r71_40 e41)
   have r71_44:=(Qaa (Puts.row p43 (Qaa r71_41 e42) (Qab r71_41 l75)) e44)
   have r71_47:=(Qaa (Puts.row p46 (Qaa r71_44 e45) (Qab r71_44 l77)) e47)
   have r71_50:=(Qaa (Puts.row p49 (Qaa r71_47 e48) (Qab r71_47 l79)) e50)
   have r71_59:=(Puts.row p59 (Qaa (Puts.row p57 (Qaa (Puts.row p55 (Qaa (Qaa (Puts.row p52 (Qaa (Qaa (Puts.row p49 (Qaa (Qaa (Puts.row p46 (Qaa (Qaa (Puts.row p43 (Qaa (Qaa r71_40 e41) e42) (Qab r71_41 l75)) e44) e45) (Qab r71_44 l77)) e47) e48) (Qab r71_47 l79)) e50) e51) (Qab r71_50 l81)) e53) e54) (Qab (Qaa (Puts.row p52 (Qaa r71_50 e51) (Qab r71_50 l81)) e53) l83)) e56) (Qav r12_35 l71)) e58) (Qav r14_35 l71))
   refine Qad (.agg (ints .i64 (lims (s4)))) 91 rfl kj (Qae 50 _ g71 50 _ _ r71_59 rfl kj kj (isz (n:=16) kj kj)) ?_
   have r73_41:=(Qaa r73_40 e41)
   have r73_44:=(Qaa (Puts.row p43 (Qaa r73_41 e42) (Qab r73_41 l75)) e44)
   have r73_47:=(Qaa (Puts.row p46 (Qaa r73_44 e45) (Qab r73_44 l77)) e47)
   have r73_50:=(Qaa (Puts.row p49 (Qaa r73_47 e48) (Qab r73_47 l79)) e50)
   refine Qad (.agg (ints .i64 (lims (s5)))) 92 rfl kj (Qae 50 _ g73 50 _ _ (Puts.row p59 (Qaa (Puts.row p57 (Qaa (Puts.row p55 (Qaa (Qaa (Puts.row p52 (Qaa (Qaa (Puts.row p49 (Qaa (Qaa (Puts.row p46 (Qaa (Qaa (Puts.row p43 (Qaa (Qaa r73_40 e41) e42) (Qab r73_41 l75)) e44) e45) (Qab r73_44 l77)) e47) e48) (Qab r73_47 l79)) e50) e51) (Qab r73_50 l81)) e53) e54) (Qab (Qaa (Puts.row p52 (Qaa r73_50 e51) (Qab r73_50 l81)) e53) l83)) e56) (Qav r12_38 l73)) e58) (Qav r14_38 l73)) rfl kj kj (isz (n:=16) kj kj)) <| Qao (.agg (ints .i64 (lims (s14)))) 37 #[.agg (ints .i64 (lims (s4))),.agg (ints .i64 (lims (s5)))] 93 rfl kj kj (c_s14 _) fun W60 e60=>?_
   have r8_26:=(Qaa r8_25 e26)
   have r8_29:=(Qaa (Puts.row p28 (Qaa r8_26 e27) (Qab r8_26 l65)) e29)
   have r8_32:=(Qaa (Puts.row p31 (Qaa r8_29 e30) (Qab r8_29 l67)) e32)
   have r8_35:=(Qaa (Puts.row p34 (Qaa r8_32 e33) (Qab r8_32 l69)) e35)
   have r8_38:=(Qaa (Puts.row p37 (Qaa r8_35 e36) (Qab r8_35 l71)) e38)
   have r8_41:=(Qaa (Puts.row p40 (Qaa r8_38 e39) (Qab r8_38 l73)) e41)
   have r8_44:=(Qaa (Puts.row p43 (Qaa r8_41 e42) (Qab r8_41 l75)) e44)
   have r8_47:=(Qaa (Puts.row p46 (Qaa r8_44 e45) (Qab r8_44 l77)) e47)
   have r8_50:=(Qaa (Puts.row p49 (Qaa r8_47 e48) (Qab r8_47 l79)) e50)
   have r8_60:=(Qaa (Puts.row p59 (Qaa (Puts.row p57 (Qaa (Puts.row p55 (Qaa (Qaa (Puts.row p52 (Qaa (Qaa (Puts.row p49 (Qaa (Qaa (Puts.row p46 (Qaa (Qaa (Puts.row p43 (Qaa (Qaa (Puts.row p40 (Qaa (Qaa (Puts.row p37 (Qaa (Qaa (Puts.row p34 (Qaa (Qaa (Puts.row p31 (Qaa (Qaa (Puts.row p28 (Qaa (Qaa r8_25 e26) e27) (Qab r8_26 l65)) e29) e30) (Qab r8_29 l67)) e32) e33) (Qab r8_32 l69)) e35) e36) (Qab r8_35 l71)) e38) e39) (Qab r8_38 l73)) e41) e42) (Qab r8_41 l75)) e44) e45) (Qab r8_44 l77)) e47) e48) (Qab r8_47 l79)) e50) e51) (Qab r8_50 l81)) e53) e54) (Qab (Qaa (Puts.row p52 (Qaa r8_50 e51) (Qab r8_50 l81)) e53) l83)) e56) n_6_8) e58) n_6_9) e60)
   refine Qah g8 _ (ints .i64 (lims (s14))) 50 r8_60 rfl kj (Qaf 50 _ _ g8 50 _ _ r8_60 rfl kj kj (isz (n:=16) kj kj) (eqsz (n:=16) kj kj) kj) fun W61 p61 r8_61=>sgN hK86 <| wp_seq_k fun K87 hK87=>QaY 7 [⟨none,[(19,none)]⟩,⟨none,[(17,none)]⟩,⟨none,[(10,none)]⟩,⟨none,[(19,none)]⟩,⟨none,[(96,some 2),(97,some 3)]⟩,⟨none,[(95,some 1),(98,some 4)]⟩,⟨none,[(94,some 0),(99,some 5)]⟩] kj kj fun F hF=>?_
   have r75_44:=(Qaa r75_43 e44)
   have r75_47:=(Qaa (Puts.row p46 (Qaa r75_44 e45) (Qab r75_44 l77)) e47)
   have r75_50:=(Qaa (Puts.row p49 (Qaa r75_47 e48) (Qab r75_47 l79)) e50)
   have r75_61:=(Puts.row p61 (Qaa (Puts.row p59 (Qaa (Puts.row p57 (Qaa (Puts.row p55 (Qaa (Qaa (Puts.row p52 (Qaa (Qaa (Puts.row p49 (Qaa (Qaa (Puts.row p46 (Qaa (Qaa r75_43 e44) e45) (Qab r75_44 l77)) e47) e48) (Qab r75_47 l79)) e50) e51) (Qab r75_50 l81)) e53) e54) (Qab (Qaa (Puts.row p52 (Qaa r75_50 e51) (Qab r75_50 l81)) e53) l83)) e56) (Qav r12_41 l75)) e58) (Qav r14_41 l75)) e60) (Qav r8_41 l75))
   refine Qax (.agg (ints .i64 (lims (s6)))) kj kj (fun W hR=>(Qae 50 _ g75 50 _ _ (Qaa (Qaa r75_61 (Qai _)) hR) rfl kj kj (isz (n:=16) kj kj))) <| Qax (.agg (ints .i64 (lims (s4)))) kj kj (fun W hR=>(Qae 50 _ g71 50 _ _ (Qaa (Qaa (Puts.row p61 (Qaa r71_59 e60) (Qav r8_35 l71)) (Qai _)) hR) rfl kj kj (isz (n:=16) kj kj))) ?_
   have r16_23:=(Qaa (Puts.row p22 (Puts.row p21 (Puts.row p20 (Puts.row p19 q10 n_10_6) n_10_8) n_10_7) n_10_9) e23)
   have r16_26:=(Qaa (Puts.row p25 (Qaa r16_23 e24) (Qab r16_23 l63)) e26)
   have r16_29:=(Qaa (Puts.row p28 (Qaa r16_26 e27) (Qab r16_26 l65)) e29)
   have r16_32:=(Qaa (Puts.row p31 (Qaa r16_29 e30) (Qab r16_29 l67)) e32)
   have r16_35:=(Qaa (Puts.row p34 (Qaa r16_32 e33) (Qab r16_32 l69)) e35)
   have r16_38:=(Qaa (Puts.row p37 (Qaa r16_35 e36) (Qab r16_35 l71)) e38)
   have r16_41:=(Qaa (Puts.row p40 (Qaa r16_38 e39) (Qab r16_38 l73)) e41)
   have r16_44:=(Qaa (Puts.row p43 (Qaa r16_41 e42) (Qab r16_41 l75)) e44)
   have r16_47:=(Qaa (Puts.row p46 (Qaa r16_44 e45) (Qab r16_44 l77)) e47)
   have r16_50:=(Qaa (Puts.row p49 (Qaa r16_47 e48) (Qab r16_47 l79)) e50)
   have r16_61:=(Puts.row p61 (Qaa (Puts.row p59 (Qaa (Puts.row p57 (Qaa (Puts.row p55 (Qaa (Qaa (Puts.row p52 (Qaa (Qaa (Puts.row p49 (Qaa (Qaa (Puts.row p46 (Qaa (Qaa (Puts.row p43 (Qaa (Qaa (Puts.row p40 (Qaa (Qaa (Puts.row p37 (Qaa (Qaa (Puts.row p34 (Qaa (Qaa (Puts.row p31 (Qaa (Qaa (Puts.row p28 (Qaa (Qaa (Puts.row p25 (Qaa (Qaa (Puts.row p22 (Puts.row p21 (Puts.row p20 (Puts.row p19 q10 n_10_6) n_10_8) n_10_7) n_10_9) e23) e24) (Qab r16_23 l63)) e26) e27) (Qab r16_26 l65)) e29) e30) (Qab r16_29 l67)) e32) e33) (Qab r16_32 l69)) e35) e36) (Qab r16_35 l71)) e38) e39) (Qab r16_38 l73)) e41) e42) (Qab r16_41 l75)) e44) e45) (Qab r16_44 l77)) e47) e48) (Qab r16_47 l79)) e50) e51) (Qab r16_50 l81)) e53) e54) (Qab (Qaa (Puts.row p52 (Qaa r16_50 e51) (Qab r16_50 l81)) e53) l83)) e56) n_10_8) e58) n_10_9) e60) n_10_6)
   refine Qax (.agg (ints .i64 (lims (121665)))) kj kj (fun W hR=>(Qae 50 _ g16 50 _ _ (Qaa (Qaa r16_61 (Qai _)) hR) rfl kj kj (isz (n:=16) kj kj))) <| Qax (.agg (ints .i64 (lims (s6)))) kj kj (fun W hR=>(Qae 50 _ g75 50 _ _ (Qaa (Qaa r75_61 (Qai _)) hR) rfl kj kj (isz (n:=16) kj kj))) <| QaD (.agg (ints .i64 (lims (s15)))) 37 #[.agg (ints .i64 (lims (121665))),.agg (ints .i64 (lims (s6)))] kj kj (fun W=>by kernel_rfl) (fun W hR=>c_s15 W) <| QaD (.agg (ints .i64 (lims (s16)))) 35 #[.agg (ints .i64 (lims (s4))),.agg (ints .i64 (lims (s15)))] kj kj (fun W=>by kernel_rfl) (fun W hR=>c_s16 W) <| QaD (.agg (ints .i64 (lims (s17)))) 37 #[.agg (ints .i64 (lims (s6))),.agg (ints .i64 (lims (s16)))] kj kj (fun W=>by kernel_rfl) (fun W hR=>c_s17 W) <| QaT (hF _ kj fun W62 e62=>?_)
   simp only [ups,up,Kn.val,List.take_succ_cons,List.take_zero,List.drop_succ_cons,List.drop_zero,List.nil_append,List.cons_append]
   clear hF
   have r10_26:=(Qaa r10_25 e26)
   have r10_29:=(Qaa (Puts.row p28 (Qaa r10_26 e27) (Qab r10_26 l65)) e29)
   have r10_32:=(Qaa (Puts.row p31 (Qaa r10_29 e30) (Qab r10_29 l67)) e32)
   have r10_35:=(Qaa (Puts.row p34 (Qaa r10_32 e33) (Qab r10_32 l69)) e35)
   have r10_38:=(Qaa (Puts.row p37 (Qaa r10_35 e36) (Qab r10_35 l71)) e38)
   have r10_41:=(Qaa (Puts.row p40 (Qaa r10_38 e39) (Qab r10_38 l73)) e41)
   have r10_44:=(Qaa (Puts.row p43 (Qaa r10_41 e42) (Qab r10_41 l75)) e44)
   have r10_47:=(Qaa (Puts.row p46 (Qaa r10_44 e45) (Qab r10_44 l77)) e47)
   have r10_50:=(Qaa (Puts.row p49 (Qaa r10_47 e48) (Qab r10_47 l79)) e50)
   have r10_62:=(Qaa (Puts.row p61 (Qaa (Puts.row p59 (Qaa (Puts.row p57 (Qaa (Puts.row p55 (Qaa (Qaa (Puts.row p52 (Qaa (Qaa (Puts.row p49 (Qaa (Qaa (Puts.row p46 (Qaa (Qaa (Puts.row p43 (Qaa (Qaa (Puts.row p40 (Qaa (Qaa (Puts.row p37 (Qaa (Qaa (Puts.row p34 (Qaa (Qaa (Puts.row p31 (Qaa (Qaa (Puts.row p28 (Qaa (Qaa r10_25 e26) e27) (Qab r10_26 l65)) e29) e30) (Qab r10_29 l67)) e32) e33) (Qab r10_32 l69)) e35) e36) (Qab r10_35 l71)) e38) e39) (Qab r10_38 l73)) e41) e42) (Qab r10_41 l75)) e44) e45) (Qab r10_44 l77)) e47) e48) (Qab r10_47 l79)) e50) e51) (Qab r10_50 l81)) e53) e54) (Qab (Qaa (Puts.row p52 (Qaa r10_50 e51) (Qab r10_50 l81)) e53) l83)) e56) n_7_8) e58) n_7_9) e60) n_7_6) e62)
   refine Qah g10 _ (ints .i64 (lims (s17))) 50 r10_62 rfl kj (Qaf 50 _ _ g10 50 _ _ r10_62 rfl kj kj (isz (n:=16) kj kj) (eqsz (n:=16) kj kj) kj) fun W63 p63 r10_63=>sgN hK87 <| sgB kj <| cond_true kj <| sgC fun K89 hK89=>?_
   have r12_63:=(Puts.row p63 (Qaa (Puts.row p61 (Qaa (Puts.row p59 (Qaa r12_57 e58) n_8_9) e60) n_8_6) e62) n_8_7)
   refine Qad (.agg (ints .i64 (lims (s11)))) 103 rfl kj (Qae 50 _ g12 50 _ _ r12_63 rfl kj kj (isz (n:=16) kj kj)) ?_
   have r8_63:=(Puts.row p63 (Qaa r8_61 e62) n_6_7)
   refine Qad (.agg (ints .i64 (lims (s14)))) 104 rfl kj (Qae 50 _ g8 50 _ _ r8_63 rfl kj kj (isz (n:=16) kj kj)) <| Qah g8 _ (ints .i64 (lims (s11))) 50 r8_63 rfl kj (Qaf 50 _ _ g8 50 _ _ r8_63 rfl kj kj (isz (n:=16) kj kj) (eqsz (n:=16) kj kj) kj) fun W64 p64 r8_64=>?_
   have r12_64:=(Puts.row p64 r12_63 n_8_6)
   refine Qah g12 _ (ints .i64 (lims (s14))) 50 r12_64 rfl kj (Qaf 50 _ _ g12 50 _ _ r12_64 rfl kj kj (isz (n:=16) kj kj) (eqsz (n:=16) kj kj) kj) fun W65 p65 r12_65=>sgN hK89 <| Qan ?_
   have r14_65:=(Puts.row p65 (Puts.row p64 (Puts.row p63 (Qaa (Puts.row p61 (Qaa r14_59 e60) n_9_6) e62) n_9_7) n_9_6) n_9_8)
   refine Qad (.agg (ints .i64 (lims (s13)))) 105 rfl kj (Qae 50 _ g14 50 _ _ r14_65 rfl kj kj (isz (n:=16) kj kj)) ?_
   have r10_65:=(Puts.row p65 (Puts.row p64 r10_63 n_7_6) n_7_8)
   refine Qad (.agg (ints .i64 (lims (s17)))) 106 rfl kj (Qae 50 _ g10 50 _ _ r10_65 rfl kj kj (isz (n:=16) kj kj)) <| Qah g10 _ (ints .i64 (lims (s13))) 50 r10_65 rfl kj (Qaf 50 _ _ g10 50 _ _ r10_65 rfl kj kj (isz (n:=16) kj kj) (eqsz (n:=16) kj kj) kj) fun W66 p66 r10_66=>?_
   have r14_66:=(Puts.row p66 r14_65 n_9_7)
   refine Qah g14 _ (ints .i64 (lims (s17))) 50 r14_66 rfl kj (Qaf 50 _ _ g14 50 _ _ r14_66 rfl kj kj (isz (n:=16) kj kj) (eqsz (n:=16) kj kj) kj) fun W67 p67 r14_67=>Qaz <| hK57 _ _ <| Qan <| sg 1 kj <| Qad (.int .i64 ((j:Int)-1)) 34 rfl kj (Qal (u:=.int .i64 (IntKind.i64.wrap ((j:Int)-1))) kj (congrArg (Value.int .i64) (QjE j (by omega)))) <| sg 1 kj <| Qaz ?_
   have r2_23:=(Qaa (Puts.row p22 (Puts.row p21 (Puts.row p20 (Puts.row p19 q2 n_2_6) n_2_8) n_2_7) n_2_9) e23)
   have r2_26:=(Qaa (Puts.row p25 (Qaa r2_23 e24) (Qab r2_23 l63)) e26)
   have r2_29:=(Qaa (Puts.row p28 (Qaa r2_26 e27) (Qab r2_26 l65)) e29)
   have r2_32:=(Qaa (Puts.row p31 (Qaa r2_29 e30) (Qab r2_29 l67)) e32)
   have r2_35:=(Qaa (Puts.row p34 (Qaa r2_32 e33) (Qab r2_32 l69)) e35)
   have r2_38:=(Qaa (Puts.row p37 (Qaa r2_35 e36) (Qab r2_35 l71)) e38)
   have r2_41:=(Qaa (Puts.row p40 (Qaa r2_38 e39) (Qab r2_38 l73)) e41)
   have r2_44:=(Qaa (Puts.row p43 (Qaa r2_41 e42) (Qab r2_41 l75)) e44)
   have r2_47:=(Qaa (Puts.row p46 (Qaa r2_44 e45) (Qab r2_44 l77)) e47)
   have r2_50:=(Qaa (Puts.row p49 (Qaa r2_47 e48) (Qab r2_47 l79)) e50)
   have r4_23:=(Qaa (Puts.row p22 (Puts.row p21 (Puts.row p20 (Puts.row p19 q4 n_4_6) n_4_8) n_4_7) n_4_9) e23)
   have r4_26:=(Qaa (Puts.row p25 (Qaa r4_23 e24) (Qab r4_23 l63)) e26)
   have r4_29:=(Qaa (Puts.row p28 (Qaa r4_26 e27) (Qab r4_26 l65)) e29)
   have r4_32:=(Qaa (Puts.row p31 (Qaa r4_29 e30) (Qab r4_29 l67)) e32)
   have r4_35:=(Qaa (Puts.row p34 (Qaa r4_32 e33) (Qab r4_32 l69)) e35)
   have r4_38:=(Qaa (Puts.row p37 (Qaa r4_35 e36) (Qab r4_35 l71)) e38)
   have r4_41:=(Qaa (Puts.row p40 (Qaa r4_38 e39) (Qab r4_38 l73)) e41)
   have r4_44:=(Qaa (Puts.row p43 (Qaa r4_41 e42) (Qab r4_41 l75)) e44)
   have r4_47:=(Qaa (Puts.row p46 (Qaa r4_44 e45) (Qab r4_44 l77)) e47)
   have r4_50:=(Qaa (Puts.row p49 (Qaa r4_47 e48) (Qab r4_47 l79)) e50)
   have r6_23:=(Qaa (Puts.row p22 (Puts.row p21 (Puts.row p20 (Puts.row p19 q5 n_5_6) n_5_8) n_5_7) n_5_9) e23)
   have r6_26:=(Qaa (Puts.row p25 (Qaa r6_23 e24) (Qab r6_23 l63)) e26)
   have r6_29:=(Qaa (Puts.row p28 (Qaa r6_26 e27) (Qab r6_26 l65)) e29)
   have r6_32:=(Qaa (Puts.row p31 (Qaa r6_29 e30) (Qab r6_29 l67)) e32)
   have r6_35:=(Qaa (Puts.row p34 (Qaa r6_32 e33) (Qab r6_32 l69)) e35)
   have r6_38:=(Qaa (Puts.row p37 (Qaa r6_35 e36) (Qab r6_35 l71)) e38)
   have r6_41:=(Qaa (Puts.row p40 (Qaa r6_38 e39) (Qab r6_38 l73)) e41)
   have r6_44:=(Qaa (Puts.row p43 (Qaa r6_41 e42) (Qab r6_41 l75)) e44)
   have r6_47:=(Qaa (Puts.row p46 (Qaa r6_44 e45) (Qab r6_44 l77)) e47)
   have r6_50:=(Qaa (Puts.row p49 (Qaa r6_47 e48) (Qab r6_47 l79)) e50)
   have hl:lstep u c d a b=(s14,s17,s11,s13):=by subst_vars; rfl
   have hS:crungs u es j=(s11,s13,s14,s17):=by
    rw [hS0]
    simp only [rung,hl,if_true]
   exact QaG j ⟨kj,kj,kj,kj,kj,kj,kj,kj,kj,kj,trivial⟩ ⟨by omega,(Puts.row p67 (Puts.row p66 (Puts.row p65 (Puts.row p64 (Puts.row p63 (Qaa (Puts.row p61 (Qaa (Puts.row p59 (Qaa (Puts.row p57 (Qaa (Puts.row p55 (Qaa (Qaa (Puts.row p52 (Qaa (Qaa (Puts.row p49 (Qaa (Qaa (Puts.row p46 (Qaa (Qaa (Puts.row p43 (Qaa (Qaa (Puts.row p40 (Qaa (Qaa (Puts.row p37 (Qaa (Qaa (Puts.row p34 (Qaa (Qaa (Puts.row p31 (Qaa (Qaa (Puts.row p28 (Qaa (Qaa (Puts.row p25 (Qaa (Qaa (Puts.row p22 (Puts.row p21 (Puts.row p20 (Puts.row p19 q2 n_2_6) n_2_8) n_2_7) n_2_9) e23) e24) (Qab r2_23 l63)) e26) e27) (Qab r2_26 l65)) e29) e30) (Qab r2_29 l67)) e32) e33) (Qab r2_32 l69)) e35) e36) (Qab r2_35 l71)) e38) e39) (Qab r2_38 l73)) e41) e42) (Qab r2_41 l75)) e44) e45) (Qab r2_44 l77)) e47) e48) (Qab r2_47 l79)) e50) e51) (Qab r2_50 l81)) e53) e54) (Qab (Qaa (Puts.row p52 (Qaa r2_50 e51) (Qab r2_50 l81)) e53) l83)) e56) n_2_8) e58) n_2_9) e60) n_2_6) e62) n_2_7) n_2_6) n_2_8) n_2_7) n_2_9),(Puts.row p67 (Puts.row p66 (Puts.row p65 (Puts.row p64 (Puts.row p63 (Qaa (Puts.row p61 (Qaa (Puts.row p59 (Qaa r3_57 e58) n_3_9) e60) n_3_6) e62) n_3_7) n_3_6) n_3_8) n_3_7) n_3_9),(Puts.row p67 (Puts.row p66 (Puts.row p65 (Puts.row p64 (Puts.row p63 (Qaa (Puts.row p61 (Qaa (Puts.row p59 (Qaa (Puts.row p57 (Qaa (Puts.row p55 (Qaa (Qaa (Puts.row p52 (Qaa (Qaa (Puts.row p49 (Qaa (Qaa (Puts.row p46 (Qaa (Qaa (Puts.row p43 (Qaa (Qaa (Puts.row p40 (Qaa (Qaa (Puts.row p37 (Qaa (Qaa (Puts.row p34 (Qaa (Qaa (Puts.row p31 (Qaa (Qaa (Puts.row p28 (Qaa (Qaa (Puts.row p25 (Qaa (Qaa (Puts.row p22 (Puts.row p21 (Puts.row p20 (Puts.row p19 q4 n_4_6) n_4_8) n_4_7) n_4_9) e23) e24) (Qab r4_23 l63)) e26) e27) (Qab r4_26 l65)) e29) e30) (Qab r4_29 l67)) e32) e33) (Qab r4_32 l69)) e35) e36) (Qab r4_35 l71)) e38) e39) (Qab r4_38 l73)) e41) e42) (Qab r4_41 l75)) e44) e45) (Qab r4_44 l77)) e47) e48) (Qab r4_47 l79)) e50) e51) (Qab r4_50 l81)) e53) e54) (Qab (Qaa (Puts.row p52 (Qaa r4_50 e51) (Qab r4_50 l81)) e53) l83)) e56) n_4_8) e58) n_4_9) e60) n_4_6) e62) n_4_7) n_4_6) n_4_8) n_4_7) n_4_9),(Puts.row p67 (Puts.row p66 (Puts.row p65 (Puts.row p64 (Puts.row p63 (Qaa (Puts.row p61 (Qaa (Puts.row p59 (Qaa (Puts.row p57 (Qaa (Puts.row p55 (Qaa (Qaa (Puts.row p52 (Qaa (Qaa (Puts.row p49 (Qaa (Qaa (Puts.row p46 (Qaa (Qaa (Puts.row p43 (Qaa (Qaa (Puts.row p40 (Qaa (Qaa (Puts.row p37 (Qaa (Qaa (Puts.row p34 (Qaa (Qaa (Puts.row p31 (Qaa (Qaa (Puts.row p28 (Qaa (Qaa (Puts.row p25 (Qaa (Qaa (Puts.row p22 (Puts.row p21 (Puts.row p20 (Puts.row p19 q5 n_5_6) n_5_8) n_5_7) n_5_9) e23) e24) (Qab r6_23 l63)) e26) e27) (Qab r6_26 l65)) e29) e30) (Qab r6_29 l67)) e32) e33) (Qab r6_32 l69)) e35) e36) (Qab r6_35 l71)) e38) e39) (Qab r6_38 l73)) e41) e42) (Qab r6_41 l75)) e44) e45) (Qab r6_44 l77)) e47) e48) (Qab r6_47 l79)) e50) e51) (Qab r6_50 l81)) e53) e54) (Qab (Qaa (Puts.row p52 (Qaa r6_50 e51) (Qab r6_50 l81)) e53) l83)) e56) n_5_8) e58) n_5_9) e60) n_5_6) e62) n_5_7) n_5_6) n_5_8) n_5_7) n_5_9),by rw [hS]; exact (Puts.row p67 (Puts.row p66 (Puts.row p65 r8_64 n_6_8) n_6_7) n_6_9),by rw [hS]; exact (Puts.row p67 r10_66 n_7_9),by rw [hS]; exact (Puts.row p67 (Puts.row p66 r12_65 n_8_7) n_8_9),by rw [hS]; exact r14_67,(Puts.row p67 (Puts.row p66 (Puts.row p65 (Puts.row p64 (Puts.row p63 (Qaa r16_61 e62) n_10_7) n_10_6) n_10_8) n_10_7) n_10_9),(Puts.ext p67 (Puts.ext p66 (Puts.ext p65 (Puts.ext p64 (Puts.ext p63 (Ext.tr (Puts.ext p61 (Ext.tr x59 e60) b8) e62) b10) b8) b12) b10) b14)⟩ (Nat.lt_succ_self j)
  ·have hbit:Int.tmod (nth es (j/8)/2^(j%8)) 2=0:=QjQ es j hcb (by omega)
   rw [show bitB es j=false by simp [bitB,hb1]] at hS0
   obtain ⟨s0,e_s0⟩:∃ s,s=(a+b)%p:=⟨_,rfl⟩
   have is0:isN s0:=e_s0▸QaB _
   have c_s0:∀ W,Calls Tryd.prog 35 #[lnum a,lnum b] W (Ret W (lnum s0)):=by rw [e_s0]; exact (lAdd a b (Qa5 ia) (Qa5 ib))
   obtain ⟨s1,e_s1⟩:∃ s,s=(a-b)%p:=⟨_,rfl⟩
   have is1:isN s1:=e_s1▸QaB _
   have c_s1:∀ W,Calls Tryd.prog 36 #[lnum a,lnum b] W (Ret W (lnum s1)):=by rw [e_s1]; exact (lSub a b (Qa5 ia) (Qfv ib))
   obtain ⟨s2,e_s2⟩:∃ s,s=(c+d)%p:=⟨_,rfl⟩
   have is2:isN s2:=e_s2▸QaB _
   have c_s2:∀ W,Calls Tryd.prog 35 #[lnum c,lnum d] W (Ret W (lnum s2)):=by rw [e_s2]; exact (lAdd c d (Qa5 ic) (Qa5 id))
   obtain ⟨s3,e_s3⟩:∃ s,s=(c-d)%p:=⟨_,rfl⟩
   have is3:isN s3:=e_s3▸QaB _
   have c_s3:∀ W,Calls Tryd.prog 36 #[lnum c,lnum d] W (Ret W (lnum s3)):=by rw [e_s3]; exact (lSub c d (Qa5 ic) (Qfv id))
   obtain ⟨s4,e_s4⟩:∃ s,s=s0*s0%p:=⟨_,rfl⟩
   have is4:isN s4:=e_s4▸QaB _
   have c_s4:∀ W,Calls Tryd.prog 37 #[lnum s0,lnum s0] W (Ret W (lnum s4)):=by rw [e_s4]; exact (lMul s0 s0 (Qa5 is0) (Qa5 is0))
   obtain ⟨s5,e_s5⟩:∃ s,s=s1*s1%p:=⟨_,rfl⟩
   have is5:isN s5:=e_s5▸QaB _
   have c_s5:∀ W,Calls Tryd.prog 37 #[lnum s1,lnum s1] W (Ret W (lnum s5)):=by rw [e_s5]; exact (lMul s1 s1 (Qa5 is1) (Qa5 is1))
   obtain ⟨s6,e_s6⟩:∃ s,s=(s4-s5)%p:=⟨_,rfl⟩
   have is6:isN s6:=e_s6▸QaB _
   have c_s6:∀ W,Calls Tryd.prog 36 #[lnum s4,lnum s5] W (Ret W (lnum s6)):=by rw [e_s6]; exact (lSub s4 s5 (Qa5 is4) (Qfv is5))
   obtain ⟨s7,e_s7⟩:∃ s,s=s3*s0%p:=⟨_,rfl⟩
   have is7:isN s7:=e_s7▸QaB _
   have c_s7:∀ W,Calls Tryd.prog 37 #[lnum s3,lnum s0] W (Ret W (lnum s7)):=by rw [e_s7]; exact (lMul s3 s0 (Qa5 is3) (Qa5 is0))
   obtain ⟨s8,e_s8⟩:∃ s,s=s2*s1%p:=⟨_,rfl⟩
   have is8:isN s8:=e_s8▸QaB _
   have c_s8:∀ W,Calls Tryd.prog 37 #[lnum s2,lnum s1] W (Ret W (lnum s8)):=by rw [e_s8]; exact (lMul s2 s1 (Qa5 is2) (Qa5 is1))
   obtain ⟨s9,e_s9⟩:∃ s,s=(s7+s8)%p:=⟨_,rfl⟩
   have is9:isN s9:=e_s9▸QaB _
   have c_s9:∀ W,Calls Tryd.prog 35 #[lnum s7,lnum s8] W (Ret W (lnum s9)):=by rw [e_s9]; exact (lAdd s7 s8 (Qa5 is7) (Qa5 is8))
   obtain ⟨s10,e_s10⟩:∃ s,s=(s7-s8)%p:=⟨_,rfl⟩
   have is10:isN s10:=e_s10▸QaB _
   have c_s10:∀ W,Calls Tryd.prog 36 #[lnum s7,lnum s8] W (Ret W (lnum s10)):=by rw [e_s10]; exact (lSub s7 s8 (Qa5 is7) (Qfv is8))
   obtain ⟨s11,e_s11⟩:∃ s,s=s9*s9%p:=⟨_,rfl⟩
   have is11:isN s11:=e_s11▸QaB _
   have c_s11:∀ W,Calls Tryd.prog 37 #[lnum s9,lnum s9] W (Ret W (lnum s11)):=by rw [e_s11]; exact (lMul s9 s9 (Qa5 is9) (Qa5 is9))
   obtain ⟨s12,e_s12⟩:∃ s,s=s10*s10%p:=⟨_,rfl⟩
   have is12:isN s12:=e_s12▸QaB _
   have c_s12:∀ W,Calls Tryd.prog 37 #[lnum s10,lnum s10] W (Ret W (lnum s12)):=by rw [e_s12]; exact (lMul s10 s10 (Qa5 is10) (Qa5 is10))
   obtain ⟨s13,e_s13⟩:∃ s,s=u*s12%p:=⟨_,rfl⟩
   have is13:isN s13:=e_s13▸QaB _
   have c_s13:∀ W,Calls Tryd.prog 37 #[lnum u,lnum s12] W (Ret W (lnum s13)):=by rw [e_s13]; exact (lMul u s12 (Qa5 iu) (Qa5 is12))
   obtain ⟨s14,e_s14⟩:∃ s,s=s4*s5%p:=⟨_,rfl⟩
   have is14:isN s14:=e_s14▸QaB _
   have c_s14:∀ W,Calls Tryd.prog 37 #[lnum s4,lnum s5] W (Ret W (lnum s14)):=by rw [e_s14]; exact (lMul s4 s5 (Qa5 is4) (Qa5 is5))
   obtain ⟨s15,e_s15⟩:∃ s,s=s6*121665%p:=⟨_,rfl⟩
   have is15:isN s15:=e_s15▸QaB _
   have c_s15:∀ W,Calls Tryd.prog 37 #[lnum 121665,lnum s6] W (Ret W (lnum s15)):=by rw [e_s15]; exact (mulc s6 is6)
   obtain ⟨s16,e_s16⟩:∃ s,s=(s4+s15)%p:=⟨_,rfl⟩
   have is16:isN s16:=e_s16▸QaB _
   have c_s16:∀ W,Calls Tryd.prog 35 #[lnum s4,lnum s15] W (Ret W (lnum s16)):=by rw [e_s16]; exact (lAdd s4 s15 (Qa5 is4) (Qa5 is15))
   obtain ⟨s17,e_s17⟩:∃ s,s=s6*s16%p:=⟨_,rfl⟩
   have is17:isN s17:=e_s17▸QaB _
   have c_s17:∀ W,Calls Tryd.prog 37 #[lnum s6,lnum s16] W (Ret W (lnum s17)):=by rw [e_s17]; exact (lMul s6 s16 (Qa5 is6) (Qa5 is16))
   refine wp_seq_k fun K22 hK22=>sgC fun K23 hK23=>sg 1 kj <| Qad (.bool true) 32 rfl kj (Qal (u:=.bool (decide ((j:Int)≥0))) kj (congrArg Value.bool (decide_eq_true (by omega)))) <| sgN hK23 <| cond_true kj <| wp_skip <| hK22 _ _ <| wp_seq_k fun K24 hK24=>wp_block ?_
   refine sgC fun K25 hK25=>sg 1 kj <| Qad (.int .i64 (((j/8:Nat):Int))) 36 rfl kj (Qal (u:=.int .i64 (IntKind.i64.wrap (Int.tdiv ((j:Int)) (8)))) kj (congrArg (Value.int .i64) (QdY j 8 (by omega)))) <| Qad (.pointer (some ⟨g6,j/8,none⟩)) 37 rfl kj (Qa3 _ _ _ .i64 (j/8) _ 32 5 rfl kj kj kj kj (by omega)) <| Qad (.int .u8 (nth es (j/8))) 38 rfl kj (Qak 5 _ g6 (j/8) 23 _ (.int .u8 (nth es (j/8))) _ q5 rfl kj (Qar _ _ _ (by omega)) kj) <| sg 1 kj <| Qad (.int .i64 (((j%8:Nat):Int))) 40 rfl kj (Qal (u:=.int .i64 (Int.tmod ((j:Int)) (8))) kj (congrArg (Value.int .i64) (QcJ j 8))) <| Qad (.int .u64 (((j%8:Nat):Int))) 41 rfl kj (Qal (u:=.int .u64 (IntKind.u64.wrap (((j%8:Nat):Int)))) kj (congrArg (Value.int .u64) (QkQ _ (by omega)))) <| Qad (.int .u8 (nth es (j/8)/2^(j%8))) 42 rfl kj (Qbc .shr _ _ _ _ .u8 .u64 _ _ _ rfl kj kj (Qdf _ _ _ _ _ _ (by omega) (shr8 _ _ (by omega)))) <| Qad (.int .u8 (0)) 43 rfl kj (Qal (u:=.int .u8 (Int.tmod ((nth es (j/8)/2^(j%8))) (2))) kj (congrArg (Value.int .u8) hbit)) ?_
   refine sg 1 kj <| sgN hK25 <| wp_seq_k fun K26 hK26=>sgB kj <| cond_false kj <| wp_skip <| hK26 _ _ <| sgC fun K28 hK28=>Qad (.agg (ints .i64 (lims (a)))) 50 rfl kj (Qae 50 _ g8 50 _ _ q6 rfl kj kj (isz (n:=16) kj kj)) <| Qad (.agg (ints .i64 (lims (b)))) 51 rfl kj (Qae 50 _ g10 50 _ _ q7 rfl kj kj (isz (n:=16) kj kj)) ?_
   refine Qao (.agg (ints .i64 (lims (s0)))) 35 #[.agg (ints .i64 (lims (a))),.agg (ints .i64 (lims (b)))] 52 rfl kj kj (c_s0 _) fun W19 e19=>?_
   have x19:=Ext.tr xx e19
   refine Qaj (ints .i64 (lims (0))) 50 13 rfl kj kj fun g29 W20 l29 e20 r29_20=>?_
   have x20:=Ext.tr x19 e20
   refine Qah g29 _ (ints .i64 (lims (s0))) 50 r29_20 rfl kj (Qaf 50 _ _ g29 50 _ _ r29_20 rfl kj kj (isz (n:=16) kj kj) (eqsz (n:=16) kj kj) kj) fun W21 p21 r29_21=>?_
   have x21:=Puts.ext p21 x20 (qT x19.size l29)
   refine sgN hK28 <| sgC fun K30 hK30=>?_
   have r8_19:=(Qaa q6 e19)
   have r8_21:=(Puts.row p21 (Qaa (Qaa q6 e19) e20) (Qab r8_19 l29))
   refine Qad (.agg (ints .i64 (lims (a)))) 53 rfl kj (Qae 50 _ g8 50 _ _ r8_21 rfl kj kj (isz (n:=16) kj kj)) ?_
   have r10_21:=(Puts.row p21 (Qaa (Qaa q7 e19) e20) (Qab (Qaa q7 e19) l29))
   refine Qad (.agg (ints .i64 (lims (b)))) 54 rfl kj (Qae 50 _ g10 50 _ _ r10_21 rfl kj kj (isz (n:=16) kj kj)) <| Qao (.agg (ints .i64 (lims (s1)))) 36 #[.agg (ints .i64 (lims (a))),.agg (ints .i64 (lims (b)))] 55 rfl kj kj (c_s1 _) fun W22 e22=>?_
   have x22:=Ext.tr x21 e22
   refine Qaj (ints .i64 (lims (0))) 50 14 rfl kj kj fun g31 W23 l31 e23 r31_23=>?_
   have x23:=Ext.tr x22 e23
   refine Qah g31 _ (ints .i64 (lims (s1))) 50 r31_23 rfl kj (Qaf 50 _ _ g31 50 _ _ r31_23 rfl kj kj (isz (n:=16) kj kj) (eqsz (n:=16) kj kj) kj) fun W24 p24 r31_24=>?_
   have x24:=Puts.ext p24 x23 (qT x22.size l31)
   refine sgN hK30 <| sgC fun K32 hK32=>?_
   have r12_19:=(Qaa q8 e19)
   have r12_24:=(Puts.row p24 (Qaa (Qaa (Puts.row p21 (Qaa (Qaa q8 e19) e20) (Qab r12_19 l29)) e22) e23) (Qab (Qaa (Puts.row p21 (Qaa r12_19 e20) (Qab r12_19 l29)) e22) l31))
   refine Qad (.agg (ints .i64 (lims (c)))) 56 rfl kj (Qae 50 _ g12 50 _ _ r12_24 rfl kj kj (isz (n:=16) kj kj)) ?_
   have r14_19:=(Qaa q9 e19)
   have r14_22:=(Qaa (Puts.row p21 (Qaa r14_19 e20) (Qab r14_19 l29)) e22)
   have r14_24:=(Puts.row p24 (Qaa (Qaa (Puts.row p21 (Qaa (Qaa q9 e19) e20) (Qab r14_19 l29)) e22) e23) (Qab r14_22 l31))
   refine Qad (.agg (ints .i64 (lims (d)))) 57 rfl kj (Qae 50 _ g14 50 _ _ r14_24 rfl kj kj (isz (n:=16) kj kj)) <| Qao (.agg (ints .i64 (lims (s2)))) 35 #[.agg (ints .i64 (lims (c))),.agg (ints .i64 (lims (d)))] 58 rfl kj kj (c_s2 _) fun W25 e25=>?_
   have x25:=Ext.tr x24 e25
   refine Qaj (ints .i64 (lims (0))) 50 15 rfl kj kj fun g33 W26 l33 e26 r33_26=>?_
   have x26:=Ext.tr x25 e26
   refine Qah g33 _ (ints .i64 (lims (s2))) 50 r33_26 rfl kj (Qaf 50 _ _ g33 50 _ _ r33_26 rfl kj kj (isz (n:=16) kj kj) (eqsz (n:=16) kj kj) kj) fun W27 p27 r33_27=>?_
   have x27:=Puts.ext p27 x26 (qT x25.size l33)
   refine sgN hK32 <| sgC fun K34 hK34=>?_
   have r12_27:=(Puts.row p27 (Qaa (Qaa r12_24 e25) e26) (Qab (Qaa r12_24 e25) l33))
   refine Qad (.agg (ints .i64 (lims (c)))) 59 rfl kj (Qae 50 _ g12 50 _ _ r12_27 rfl kj kj (isz (n:=16) kj kj)) ?_
   have r14_27:=(Puts.row p27 (Qaa (Qaa r14_24 e25) e26) (Qab (Qaa r14_24 e25) l33))
   refine Qad (.agg (ints .i64 (lims (d)))) 60 rfl kj (Qae 50 _ g14 50 _ _ r14_27 rfl kj kj (isz (n:=16) kj kj)) <| Qao (.agg (ints .i64 (lims (s3)))) 36 #[.agg (ints .i64 (lims (c))),.agg (ints .i64 (lims (d)))] 61 rfl kj kj (c_s3 _) fun W28 e28=>?_
   have x28:=Ext.tr x27 e28
   refine Qaj (ints .i64 (lims (0))) 50 16 rfl kj kj fun g35 W29 l35 e29 r35_29=>?_
   have x29:=Ext.tr x28 e29
   refine Qah g35 _ (ints .i64 (lims (s3))) 50 r35_29 rfl kj (Qaf 50 _ _ g35 50 _ _ r35_29 rfl kj kj (isz (n:=16) kj kj) (eqsz (n:=16) kj kj) kj) fun W30 p30 r35_30=>?_
   have x30:=Puts.ext p30 x29 (qT x28.size l35)
   refine sgN hK34 <| sgC fun K36 hK36=>?_
   have r29_22:=(Qaa r29_21 e22)
   have r29_25:=(Qaa (Puts.row p24 (Qaa r29_22 e23) (Qab r29_22 l31)) e25)
   have r29_30:=(Puts.row p30 (Qaa (Qaa (Puts.row p27 (Qaa (Qaa (Puts.row p24 (Qaa (Qaa r29_21 e22) e23) (Qab r29_22 l31)) e25) e26) (Qab r29_25 l33)) e28) e29) (Qab (Qaa (Puts.row p27 (Qaa r29_25 e26) (Qab r29_25 l33)) e28) l35))
   refine Qad (.agg (ints .i64 (lims (s0)))) 62 rfl kj (Qae 50 _ g29 50 _ _ r29_30 rfl kj kj (isz (n:=16) kj kj)) <| Qad (.agg (ints .i64 (lims (s0)))) 63 rfl kj (Qae 50 _ g29 50 _ _ r29_30 rfl kj kj (isz (n:=16) kj kj)) <| Qao (.agg (ints .i64 (lims (s4)))) 37 #[.agg (ints .i64 (lims (s0))),.agg (ints .i64 (lims (s0)))] 64 rfl kj kj (c_s4 _) fun W31 e31=>?_
   have x31:=Ext.tr x30 e31
   refine Qaj (ints .i64 (lims (0))) 50 17 rfl kj kj fun g37 W32 l37 e32 r37_32=>?_
   have x32:=Ext.tr x31 e32
   refine Qah g37 _ (ints .i64 (lims (s4))) 50 r37_32 rfl kj (Qaf 50 _ _ g37 50 _ _ r37_32 rfl kj kj (isz (n:=16) kj kj) (eqsz (n:=16) kj kj) kj) fun W33 p33 r37_33=>?_
   have x33:=Puts.ext p33 x32 (qT x31.size l37)
   refine sgN hK36 <| sgC fun K38 hK38=>?_
   have r31_25:=(Qaa r31_24 e25)
   have r31_28:=(Qaa (Puts.row p27 (Qaa r31_25 e26) (Qab r31_25 l33)) e28)
   have r31_33:=(Puts.row p33 (Qaa (Qaa (Puts.row p30 (Qaa (Qaa (Puts.row p27 (Qaa (Qaa r31_24 e25) e26) (Qab r31_25 l33)) e28) e29) (Qab r31_28 l35)) e31) e32) (Qab (Qaa (Puts.row p30 (Qaa r31_28 e29) (Qab r31_28 l35)) e31) l37))
   refine Qad (.agg (ints .i64 (lims (s1)))) 65 rfl kj (Qae 50 _ g31 50 _ _ r31_33 rfl kj kj (isz (n:=16) kj kj)) <| Qad (.agg (ints .i64 (lims (s1)))) 66 rfl kj (Qae 50 _ g31 50 _ _ r31_33 rfl kj kj (isz (n:=16) kj kj)) <| Qao (.agg (ints .i64 (lims (s5)))) 37 #[.agg (ints .i64 (lims (s1))),.agg (ints .i64 (lims (s1)))] 67 rfl kj kj (c_s5 _) fun W34 e34=>?_
   have x34:=Ext.tr x33 e34
   refine Qaj (ints .i64 (lims (0))) 50 18 rfl kj kj fun g39 W35 l39 e35 r39_35=>?_
   have x35:=Ext.tr x34 e35
   refine Qah g39 _ (ints .i64 (lims (s5))) 50 r39_35 rfl kj (Qaf 50 _ _ g39 50 _ _ r39_35 rfl kj kj (isz (n:=16) kj kj) (eqsz (n:=16) kj kj) kj) fun W36 p36 r39_36=>?_
   have x36:=Puts.ext p36 x35 (qT x34.size l39)
   refine sgN hK38 <| sgC fun K40 hK40=>?_
   have r37_36:=(Puts.row p36 (Qaa (Qaa r37_33 e34) e35) (Qab (Qaa r37_33 e34) l39))
   refine Qad (.agg (ints .i64 (lims (s4)))) 68 rfl kj (Qae 50 _ g37 50 _ _ r37_36 rfl kj kj (isz (n:=16) kj kj)) <| Qad (.agg (ints .i64 (lims (s5)))) 69 rfl kj (Qae 50 _ g39 50 _ _ r39_36 rfl kj kj (isz (n:=16) kj kj)) <| Qao (.agg (ints .i64 (lims (s6)))) 36 #[.agg (ints .i64 (lims (s4))),.agg (ints .i64 (lims (s5)))] 70 rfl kj kj (c_s6 _) fun W37 e37=>?_
   have x37:=Ext.tr x36 e37
   refine Qaj (ints .i64 (lims (0))) 50 19 rfl kj kj fun g41 W38 l41 e38 r41_38=>?_
   have x38:=Ext.tr x37 e38
   refine Qah g41 _ (ints .i64 (lims (s6))) 50 r41_38 rfl kj (Qaf 50 _ _ g41 50 _ _ r41_38 rfl kj kj (isz (n:=16) kj kj) (eqsz (n:=16) kj kj) kj) fun W39 p39 r41_39=>?_
   have x39:=Puts.ext p39 x38 (qT x37.size l41)
   refine sgN hK40 <| sgC fun K42 hK42=>?_
   have r35_31:=(Qaa r35_30 e31)
   have r35_34:=(Qaa (Puts.row p33 (Qaa r35_31 e32) (Qab r35_31 l37)) e34)
   refine Qad (.agg (ints .i64 (lims (s3)))) 71 rfl kj (Qae 50 _ g35 50 _ _ (Puts.row p39 (Qaa (Qaa (Puts.row p36 (Qaa (Qaa (Puts.row p33 (Qaa (Qaa r35_30 e31) e32) (Qab r35_31 l37)) e34) e35) (Qab r35_34 l39)) e37) e38) (Qab (Qaa (Puts.row p36 (Qaa r35_34 e35) (Qab r35_34 l39)) e37) l41)) rfl kj kj (isz (n:=16) kj kj)) ?_
   have r29_31:=(Qaa r29_30 e31)
   have r29_34:=(Qaa (Puts.row p33 (Qaa r29_31 e32) (Qab r29_31 l37)) e34)
   refine Qad (.agg (ints .i64 (lims (s0)))) 72 rfl kj (Qae 50 _ g29 50 _ _ (Puts.row p39 (Qaa (Qaa (Puts.row p36 (Qaa (Qaa (Puts.row p33 (Qaa (Qaa r29_30 e31) e32) (Qab r29_31 l37)) e34) e35) (Qab r29_34 l39)) e37) e38) (Qab (Qaa (Puts.row p36 (Qaa r29_34 e35) (Qab r29_34 l39)) e37) l41)) rfl kj kj (isz (n:=16) kj kj)) <| Qao (.agg (ints .i64 (lims (s7)))) 37 #[.agg (ints .i64 (lims (s3))),.agg (ints .i64 (lims (s0)))] 73 rfl kj kj (c_s7 _) fun W40 e40=>?_
   have x40:=Ext.tr x39 e40
   refine Qaj (ints .i64 (lims (0))) 50 20 rfl kj kj fun g43 W41 l43 e41 r43_41=>?_
   have x41:=Ext.tr x40 e41
   refine Qah g43 _ (ints .i64 (lims (s7))) 50 r43_41 rfl kj (Qaf 50 _ _ g43 50 _ _ r43_41 rfl kj kj (isz (n:=16) kj kj) (eqsz (n:=16) kj kj) kj) fun W42 p42 r43_42=>?_
   have x42:=Puts.ext p42 x41 (qT x40.size l43)
   refine sgN hK42 <| sgC fun K44 hK44=>?_
   have r33_28:=(Qaa r33_27 e28)
   have r33_31:=(Qaa (Puts.row p30 (Qaa r33_28 e29) (Qab r33_28 l35)) e31)
   have r33_34:=(Qaa (Puts.row p33 (Qaa r33_31 e32) (Qab r33_31 l37)) e34)
   have r33_37:=(Qaa (Puts.row p36 (Qaa r33_34 e35) (Qab r33_34 l39)) e37)
   refine Qad (.agg (ints .i64 (lims (s2)))) 74 rfl kj (Qae 50 _ g33 50 _ _ (Puts.row p42 (Qaa (Qaa (Puts.row p39 (Qaa (Qaa (Puts.row p36 (Qaa (Qaa (Puts.row p33 (Qaa (Qaa (Puts.row p30 (Qaa (Qaa r33_27 e28) e29) (Qab r33_28 l35)) e31) e32) (Qab r33_31 l37)) e34) e35) (Qab r33_34 l39)) e37) e38) (Qab r33_37 l41)) e40) e41) (Qab (Qaa (Puts.row p39 (Qaa r33_37 e38) (Qab r33_37 l41)) e40) l43)) rfl kj kj (isz (n:=16) kj kj)) ?_
   have r31_34:=(Qaa r31_33 e34)
   have r31_37:=(Qaa (Puts.row p36 (Qaa r31_34 e35) (Qab r31_34 l39)) e37)
   refine Qad (.agg (ints .i64 (lims (s1)))) 75 rfl kj (Qae 50 _ g31 50 _ _ (Puts.row p42 (Qaa (Qaa (Puts.row p39 (Qaa (Qaa (Puts.row p36 (Qaa (Qaa r31_33 e34) e35) (Qab r31_34 l39)) e37) e38) (Qab r31_37 l41)) e40) e41) (Qab (Qaa (Puts.row p39 (Qaa r31_37 e38) (Qab r31_37 l41)) e40) l43)) rfl kj kj (isz (n:=16) kj kj)) <| Qao (.agg (ints .i64 (lims (s8)))) 37 #[.agg (ints .i64 (lims (s2))),.agg (ints .i64 (lims (s1)))] 76 rfl kj kj (c_s8 _) fun W43 e43=>?_
   have x43:=Ext.tr x42 e43
   refine Qaj (ints .i64 (lims (0))) 50 21 rfl kj kj fun g45 W44 l45 e44 r45_44=>?_
   have x44:=Ext.tr x43 e44
   refine Qah g45 _ (ints .i64 (lims (s8))) 50 r45_44 rfl kj (Qaf 50 _ _ g45 50 _ _ r45_44 rfl kj kj (isz (n:=16) kj kj) (eqsz (n:=16) kj kj) kj) fun W45 p45 r45_45=>?_
   have x45:=Puts.ext p45 x44 (qT x43.size l45)
   refine sgN hK44 <| sgC fun K46 hK46=>?_
   have r43_45:=(Puts.row p45 (Qaa (Qaa r43_42 e43) e44) (Qab (Qaa r43_42 e43) l45))
   refine Qad (.agg (ints .i64 (lims (s7)))) 77 rfl kj (Qae 50 _ g43 50 _ _ r43_45 rfl kj kj (isz (n:=16) kj kj)) <| Qad (.agg (ints .i64 (lims (s8)))) 78 rfl kj (Qae 50 _ g45 50 _ _ r45_45 rfl kj kj (isz (n:=16) kj kj)) <| Qao (.agg (ints .i64 (lims (s9)))) 35 #[.agg (ints .i64 (lims (s7))),.agg (ints .i64 (lims (s8)))] 79 rfl kj kj (c_s9 _) fun W46 e46=>?_
   have x46:=Ext.tr x45 e46
   refine Qaj (ints .i64 (lims (0))) 50 22 rfl kj kj fun g47 W47 l47 e47 r47_47=>?_
   have x47:=Ext.tr x46 e47
   refine Qah g47 _ (ints .i64 (lims (s9))) 50 r47_47 rfl kj (Qaf 50 _ _ g47 50 _ _ r47_47 rfl kj kj (isz (n:=16) kj kj) (eqsz (n:=16) kj kj) kj) fun W48 p48 r47_48=>?_
   have x48:=Puts.ext p48 x47 (qT x46.size l47)
   refine sgN hK46 <| sgC fun K48 hK48=>Qad (.agg (ints .i64 (lims (s7)))) 80 rfl kj (Qae 50 _ g43 50 _ _ (Puts.row p48 (Qaa (Qaa r43_45 e46) e47) (Qab (Qaa r43_45 e46) l47)) rfl kj kj (isz (n:=16) kj kj)) <| Qad (.agg (ints .i64 (lims (s8)))) 81 rfl kj (Qae 50 _ g45 50 _ _ (Puts.row p48 (Qaa (Qaa r45_45 e46) e47) (Qab (Qaa r45_45 e46) l47)) rfl kj kj (isz (n:=16) kj kj)) <| Qao (.agg (ints .i64 (lims (s10)))) 36 #[.agg (ints .i64 (lims (s7))),.agg (ints .i64 (lims (s8)))] 82 rfl kj kj (c_s10 _) fun W49 e49=>?_
   have x49:=Ext.tr x48 e49
   refine Qaj (ints .i64 (lims (0))) 50 23 rfl kj kj fun g49 W50 l49 e50 r49_50=>?_
   have x50:=Ext.tr x49 e50
   refine Qah g49 _ (ints .i64 (lims (s10))) 50 r49_50 rfl kj (Qaf 50 _ _ g49 50 _ _ r49_50 rfl kj kj (isz (n:=16) kj kj) (eqsz (n:=16) kj kj) kj) fun W51 p51 r49_51=>?_
   have x51:=Puts.ext p51 x50 (qT x49.size l49)
   refine sgN hK48 <| sgC fun K50 hK50=>?_
   have r47_51:=(Puts.row p51 (Qaa (Qaa r47_48 e49) e50) (Qab (Qaa r47_48 e49) l49))
   refine Qad (.agg (ints .i64 (lims (s9)))) 83 rfl kj (Qae 50 _ g47 50 _ _ r47_51 rfl kj kj (isz (n:=16) kj kj)) <| Qad (.agg (ints .i64 (lims (s9)))) 84 rfl kj (Qae 50 _ g47 50 _ _ r47_51 rfl kj kj (isz (n:=16) kj kj)) <| Qao (.agg (ints .i64 (lims (s11)))) 37 #[.agg (ints .i64 (lims (s9))),.agg (ints .i64 (lims (s9)))] 85 rfl kj kj (c_s11 _) fun W52 e52=>?_
   have x52:=Ext.tr x51 e52
   have r12_28:=(Qaa r12_27 e28)
   have r12_31:=(Qaa (Puts.row p30 (Qaa r12_28 e29) (Qab r12_28 l35)) e31)
   have r12_34:=(Qaa (Puts.row p33 (Qaa r12_31 e32) (Qab r12_31 l37)) e34)
   have r12_37:=(Qaa (Puts.row p36 (Qaa r12_34 e35) (Qab r12_34 l39)) e37)
   have r12_40:=(Qaa (Puts.row p39 (Qaa r12_37 e38) (Qab r12_37 l41)) e40)
   have r12_43:=(Qaa (Puts.row p42 (Qaa r12_40 e41) (Qab r12_40 l43)) e43)
   have r12_46:=(Qaa (Puts.row p45 (Qaa r12_43 e44) (Qab r12_43 l45)) e46)
   have r12_49:=(Qaa (Puts.row p48 (Qaa r12_46 e47) (Qab r12_46 l47)) e49)
   have r12_52:=(Qaa (Puts.row p51 (Qaa (Qaa (Puts.row p48 (Qaa (Qaa (Puts.row p45 (Qaa (Qaa (Puts.row p42 (Qaa (Qaa (Puts.row p39 (Qaa (Qaa (Puts.row p36 (Qaa (Qaa (Puts.row p33 (Qaa (Qaa (Puts.row p30 (Qaa (Qaa r12_27 e28) e29) (Qab r12_28 l35)) e31) e32) (Qab r12_31 l37)) e34) e35) (Qab r12_34 l39)) e37) e38) (Qab r12_37 l41)) e40) e41) (Qab r12_40 l43)) e43) e44) (Qab r12_43 l45)) e46) e47) (Qab r12_46 l47)) e49) e50) (Qab r12_49 l49)) e52)
   refine Qah g12 _ (ints .i64 (lims (s11))) 50 r12_52 rfl kj (Qaf 50 _ _ g12 50 _ _ r12_52 rfl kj kj (isz (n:=16) kj kj) (eqsz (n:=16) kj kj) kj) fun W53 p53 r12_53=>?_
   have x53:=Puts.ext p53 x52 b12
   refine sgN hK50 <| wp_seq_k fun K51 hK51=>QaY 5 [⟨none,[(3,none)]⟩,⟨none,[(23,none)]⟩,⟨none,[(23,none)]⟩,⟨none,[(87,some 1),(88,some 2)]⟩,⟨none,[(86,some 0),(89,some 3)]⟩] kj kj fun F hF=>?_
   have r3_19:=(Qaa q3 e19)
   have r3_22:=(Qaa (Puts.row p21 (Qaa r3_19 e20) (Qab r3_19 l29)) e22)
   have r3_25:=(Qaa (Puts.row p24 (Qaa r3_22 e23) (Qab r3_22 l31)) e25)
   have r3_28:=(Qaa (Puts.row p27 (Qaa r3_25 e26) (Qab r3_25 l33)) e28)
   have r3_31:=(Qaa (Puts.row p30 (Qaa r3_28 e29) (Qab r3_28 l35)) e31)
   have r3_34:=(Qaa (Puts.row p33 (Qaa r3_31 e32) (Qab r3_31 l37)) e34)
   have r3_37:=(Qaa (Puts.row p36 (Qaa r3_34 e35) (Qab r3_34 l39)) e37)
   have r3_40:=(Qaa (Puts.row p39 (Qaa r3_37 e38) (Qab r3_37 l41)) e40)
   have r3_43:=(Qaa (Puts.row p42 (Qaa r3_40 e41) (Qab r3_40 l43)) e43)
   have r3_46:=(Qaa (Puts.row p45 (Qaa r3_43 e44) (Qab r3_43 l45)) e46)
   have r3_53:=(Puts.row p53 (Qaa (Puts.row p51 (Qaa (Qaa (Puts.row p48 (Qaa (Qaa (Puts.row p45 (Qaa (Qaa (Puts.row p42 (Qaa (Qaa (Puts.row p39 (Qaa (Qaa (Puts.row p36 (Qaa (Qaa (Puts.row p33 (Qaa (Qaa (Puts.row p30 (Qaa (Qaa (Puts.row p27 (Qaa (Qaa (Puts.row p24 (Qaa (Qaa (Puts.row p21 (Qaa (Qaa q3 e19) e20) (Qab r3_19 l29)) e22) e23) (Qab r3_22 l31)) e25) e26) (Qab r3_25 l33)) e28) e29) (Qab r3_28 l35)) e31) e32) (Qab r3_31 l37)) e34) e35) (Qab r3_34 l39)) e37) e38) (Qab r3_37 l41)) e40) e41) (Qab r3_40 l43)) e43) e44) (Qab r3_43 l45)) e46) e47) (Qab r3_46 l47)) e49) e50) (Qab (Qaa (Puts.row p48 (Qaa r3_46 e47) (Qab r3_46 l47)) e49) l49)) e52) n_3_8)
   refine Qax (.agg (ints .i64 (lims (u)))) kj kj (fun W hR=>(Qae 50 _ g3 50 _ _ (Qaa (Qaa r3_53 (Qai _)) hR) rfl kj kj (isz (n:=16) kj kj))) ?_
   have r49_53:=(Puts.row p53 (Qaa r49_51 e52) (Qav r12_49 l49))
   refine Qax (.agg (ints .i64 (lims (s10)))) kj kj (fun W hR=>(Qae 50 _ g49 50 _ _ (Qaa (Qaa r49_53 (Qai _)) hR) rfl kj kj (isz (n:=16) kj kj))) <| Qax (.agg (ints .i64 (lims (s10)))) kj kj (fun W hR=>(Qae 50 _ g49 50 _ _ (Qaa (Qaa r49_53 (Qai _)) hR) rfl kj kj (isz (n:=16) kj kj))) <| QaD (.agg (ints .i64 (lims (s12)))) 37 #[.agg (ints .i64 (lims (s10))),.agg (ints .i64 (lims (s10)))] kj kj (fun W=>by kernel_rfl) (fun W hR=>c_s12 W) <| QaD (.agg (ints .i64 (lims (s13)))) 37 #[.agg (ints .i64 (lims (u))),.agg (ints .i64 (lims (s12)))] kj kj (fun W=>by kernel_rfl) (fun W hR=>c_s13 W) <| QaT (hF _ kj fun W54 e54=>?_)
   simp only [ups,up,Kn.val,List.take_succ_cons,List.take_zero,List.drop_succ_cons,List.drop_zero,List.nil_append,List.cons_append]
   clear hF
   have x54:=Ext.tr x53 e54
   have r14_28:=(Qaa r14_27 e28)
   have r14_31:=(Qaa (Puts.row p30 (Qaa r14_28 e29) (Qab r14_28 l35)) e31)
   have r14_34:=(Qaa (Puts.row p33 (Qaa r14_31 e32) (Qab r14_31 l37)) e34)
   have r14_37:=(Qaa (Puts.row p36 (Qaa r14_34 e35) (Qab r14_34 l39)) e37)
   have r14_40:=(Qaa (Puts.row p39 (Qaa r14_37 e38) (Qab r14_37 l41)) e40)
   have r14_43:=(Qaa (Puts.row p42 (Qaa r14_40 e41) (Qab r14_40 l43)) e43)
   have r14_46:=(Qaa (Puts.row p45 (Qaa r14_43 e44) (Qab r14_43 l45)) e46)
   have r14_54:=(Qaa (Puts.row p53 (Qaa (Puts.row p51 (Qaa (Qaa (Puts.row p48 (Qaa (Qaa (Puts.row p45 (Qaa (Qaa (Puts.row p42 (Qaa (Qaa (Puts.row p39 (Qaa (Qaa (Puts.row p36 (Qaa (Qaa (Puts.row p33 (Qaa (Qaa (Puts.row p30 (Qaa (Qaa r14_27 e28) e29) (Qab r14_28 l35)) e31) e32) (Qab r14_31 l37)) e34) e35) (Qab r14_34 l39)) e37) e38) (Qab r14_37 l41)) e40) e41) (Qab r14_40 l43)) e43) e44) (Qab r14_43 l45)) e46) e47) (Qab r14_46 l47)) e49) e50) (Qab (Qaa (Puts.row p48 (Qaa r14_46 e47) (Qab r14_46 l47)) e49) l49)) e52) n_9_8) e54)
   refine Qah g14 _ (ints .i64 (lims (s13))) 50 r14_54 rfl kj (Qaf 50 _ _ g14 50 _ _ r14_54 rfl kj kj (isz (n:=16) kj kj) (eqsz (n:=16) kj kj) kj) fun W55 p55 r14_55=>?_
   have x55:=Puts.ext p55 x54 b14
   refine sgN hK51 <| sgC fun K52 hK52=>?_
   have r37_37:=(Qaa r37_36 e37)
   have r37_40:=(Qaa (Puts.row p39 (Qaa r37_37 e38) (Qab r37_37 l41)) e40)
   have r37_43:=(Qaa (Puts.row p42 (Qaa r37_40 e41) (Qab r37_40 l43)) e43)
   have r37_46:=(Qaa (Puts.row p45 (Qaa r37_43 e44) (Qab r37_43 l45)) e46)
   have r37_55:=(Puts.row p55 (Qaa (Puts.row p53 (Qaa (Puts.row p51 (Qaa (Qaa (Puts.row p48 (Qaa (Qaa (Puts.row p45 (Qaa (Qaa (Puts.row p42 (Qaa (Qaa (Puts.row p39 (Qaa (Qaa r37_36 e37) e38) (Qab r37_37 l41)) e40) e41) (Qab r37_40 l43)) e43) e44) (Qab r37_43 l45)) e46) e47) (Qab r37_46 l47)) e49) e50) (Qab (Qaa (Puts.row p48 (Qaa r37_46 e47) (Qab r37_46 l47)) e49) l49)) e52) (Qav r12_31 l37)) e54) (Qav r14_31 l37))
   refine Qad (.agg (ints .i64 (lims (s4)))) 91 rfl kj (Qae 50 _ g37 50 _ _ r37_55 rfl kj kj (isz (n:=16) kj kj)) ?_
   have r39_37:=(Qaa r39_36 e37)
   have r39_40:=(Qaa (Puts.row p39 (Qaa r39_37 e38) (Qab r39_37 l41)) e40)
   have r39_43:=(Qaa (Puts.row p42 (Qaa r39_40 e41) (Qab r39_40 l43)) e43)
   have r39_46:=(Qaa (Puts.row p45 (Qaa r39_43 e44) (Qab r39_43 l45)) e46)
   refine Qad (.agg (ints .i64 (lims (s5)))) 92 rfl kj (Qae 50 _ g39 50 _ _ (Puts.row p55 (Qaa (Puts.row p53 (Qaa (Puts.row p51 (Qaa (Qaa (Puts.row p48 (Qaa (Qaa (Puts.row p45 (Qaa (Qaa (Puts.row p42 (Qaa (Qaa (Puts.row p39 (Qaa (Qaa r39_36 e37) e38) (Qab r39_37 l41)) e40) e41) (Qab r39_40 l43)) e43) e44) (Qab r39_43 l45)) e46) e47) (Qab r39_46 l47)) e49) e50) (Qab (Qaa (Puts.row p48 (Qaa r39_46 e47) (Qab r39_46 l47)) e49) l49)) e52) (Qav r12_34 l39)) e54) (Qav r14_34 l39)) rfl kj kj (isz (n:=16) kj kj)) <| Qao (.agg (ints .i64 (lims (s14)))) 37 #[.agg (ints .i64 (lims (s4))),.agg (ints .i64 (lims (s5)))] 93 rfl kj kj (c_s14 _) fun W56 e56=>?_
   have x56:=Ext.tr x55 e56
   have r8_22:=(Qaa r8_21 e22)
   have r8_25:=(Qaa (Puts.row p24 (Qaa r8_22 e23) (Qab r8_22 l31)) e25)
   have r8_28:=(Qaa (Puts.row p27 (Qaa r8_25 e26) (Qab r8_25 l33)) e28)
   have r8_31:=(Qaa (Puts.row p30 (Qaa r8_28 e29) (Qab r8_28 l35)) e31)
   have r8_34:=(Qaa (Puts.row p33 (Qaa r8_31 e32) (Qab r8_31 l37)) e34)
   have r8_37:=(Qaa (Puts.row p36 (Qaa r8_34 e35) (Qab r8_34 l39)) e37)
   have r8_40:=(Qaa (Puts.row p39 (Qaa r8_37 e38) (Qab r8_37 l41)) e40)
   have r8_43:=(Qaa (Puts.row p42 (Qaa r8_40 e41) (Qab r8_40 l43)) e43)
   have r8_46:=(Qaa (Puts.row p45 (Qaa r8_43 e44) (Qab r8_43 l45)) e46)
   have r8_56:=(Qaa (Puts.row p55 (Qaa (Puts.row p53 (Qaa (Puts.row p51 (Qaa (Qaa (Puts.row p48 (Qaa (Qaa (Puts.row p45 (Qaa (Qaa (Puts.row p42 (Qaa (Qaa (Puts.row p39 (Qaa (Qaa (Puts.row p36 (Qaa (Qaa (Puts.row p33 (Qaa (Qaa (Puts.row p30 (Qaa (Qaa (Puts.row p27 (Qaa (Qaa (Puts.row p24 (Qaa (Qaa r8_21 e22) e23) (Qab r8_22 l31)) e25) e26) (Qab r8_25 l33)) e28) e29) (Qab r8_28 l35)) e31) e32) (Qab r8_31 l37)) e34) e35) (Qab r8_34 l39)) e37) e38) (Qab r8_37 l41)) e40) e41) (Qab r8_40 l43)) e43) e44) (Qab r8_43 l45)) e46) e47) (Qab r8_46 l47)) e49) e50) (Qab (Qaa (Puts.row p48 (Qaa r8_46 e47) (Qab r8_46 l47)) e49) l49)) e52) n_6_8) e54) n_6_9) e56)
   refine Qah g8 _ (ints .i64 (lims (s14))) 50 r8_56 rfl kj (Qaf 50 _ _ g8 50 _ _ r8_56 rfl kj kj (isz (n:=16) kj kj) (eqsz (n:=16) kj kj) kj) fun W57 p57 r8_57=>?_
   have x57:=Puts.ext p57 x56 b8
   refine sgN hK52 <| wp_seq_k fun K53 hK53=>QaY 7 [⟨none,[(19,none)]⟩,⟨none,[(17,none)]⟩,⟨none,[(10,none)]⟩,⟨none,[(19,none)]⟩,⟨none,[(96,some 2),(97,some 3)]⟩,⟨none,[(95,some 1),(98,some 4)]⟩,⟨none,[(94,some 0),(99,some 5)]⟩] kj kj fun F hF=>?_
   have r41_40:=(Qaa r41_39 e40)
   have r41_43:=(Qaa (Puts.row p42 (Qaa r41_40 e41) (Qab r41_40 l43)) e43)
   have r41_46:=(Qaa (Puts.row p45 (Qaa r41_43 e44) (Qab r41_43 l45)) e46)
   have r41_57:=(Puts.row p57 (Qaa (Puts.row p55 (Qaa (Puts.row p53 (Qaa (Puts.row p51 (Qaa (Qaa (Puts.row p48 (Qaa (Qaa (Puts.row p45 (Qaa (Qaa (Puts.row p42 (Qaa (Qaa r41_39 e40) e41) (Qab r41_40 l43)) e43) e44) (Qab r41_43 l45)) e46) e47) (Qab r41_46 l47)) e49) e50) (Qab (Qaa (Puts.row p48 (Qaa r41_46 e47) (Qab r41_46 l47)) e49) l49)) e52) (Qav r12_37 l41)) e54) (Qav r14_37 l41)) e56) (Qav r8_37 l41))
   refine Qax (.agg (ints .i64 (lims (s6)))) kj kj (fun W hR=>(Qae 50 _ g41 50 _ _ (Qaa (Qaa r41_57 (Qai _)) hR) rfl kj kj (isz (n:=16) kj kj))) <| Qax (.agg (ints .i64 (lims (s4)))) kj kj (fun W hR=>(Qae 50 _ g37 50 _ _ (Qaa (Qaa (Puts.row p57 (Qaa r37_55 e56) (Qav r8_31 l37)) (Qai _)) hR) rfl kj kj (isz (n:=16) kj kj))) ?_
   have r16_19:=(Qaa q10 e19)
   have r16_22:=(Qaa (Puts.row p21 (Qaa r16_19 e20) (Qab r16_19 l29)) e22)
   have r16_25:=(Qaa (Puts.row p24 (Qaa r16_22 e23) (Qab r16_22 l31)) e25)
   have r16_28:=(Qaa (Puts.row p27 (Qaa r16_25 e26) (Qab r16_25 l33)) e28)
   have r16_31:=(Qaa (Puts.row p30 (Qaa r16_28 e29) (Qab r16_28 l35)) e31)
   have r16_34:=(Qaa (Puts.row p33 (Qaa r16_31 e32) (Qab r16_31 l37)) e34)
   have r16_37:=(Qaa (Puts.row p36 (Qaa r16_34 e35) (Qab r16_34 l39)) e37)
   have r16_40:=(Qaa (Puts.row p39 (Qaa r16_37 e38) (Qab r16_37 l41)) e40)
   have r16_43:=(Qaa (Puts.row p42 (Qaa r16_40 e41) (Qab r16_40 l43)) e43)
   have r16_46:=(Qaa (Puts.row p45 (Qaa r16_43 e44) (Qab r16_43 l45)) e46)
   have r16_57:=(Puts.row p57 (Qaa (Puts.row p55 (Qaa (Puts.row p53 (Qaa (Puts.row p51 (Qaa (Qaa (Puts.row p48 (Qaa (Qaa (Puts.row p45 (Qaa (Qaa (Puts.row p42 (Qaa (Qaa (Puts.row p39 (Qaa (Qaa (Puts.row p36 (Qaa (Qaa (Puts.row p33 (Qaa (Qaa (Puts.row p30 (Qaa (Qaa (Puts.row p27 (Qaa (Qaa (Puts.row p24 (Qaa (Qaa (Puts.row p21 (Qaa (Qaa q10 e19) e20) (Qab r16_19 l29)) e22) e23) (Qab r16_22 l31)) e25) e26) (Qab r16_25 l33)) e28) e29) (Qab r16_28 l35)) e31) e32) (Qab r16_31 l37)) e34) e35) (Qab r16_34 l39)) e37) e38) (Qab r16_37 l41)) e40) e41) (Qab r16_40 l43)) e43) e44) (Qab r16_43 l45)) e46) e47) (Qab r16_46 l47)) e49) e50) (Qab (Qaa (Puts.row p48 (Qaa r16_46 e47) (Qab r16_46 l47)) e49) l49)) e52) n_10_8) e54) n_10_9) e56) n_10_6)
   refine Qax (.agg (ints .i64 (lims (121665)))) kj kj (fun W hR=>(Qae 50 _ g16 50 _ _ (Qaa (Qaa r16_57 (Qai _)) hR) rfl kj kj (isz (n:=16) kj kj))) <| Qax (.agg (ints .i64 (lims (s6)))) kj kj (fun W hR=>(Qae 50 _ g41 50 _ _ (Qaa (Qaa r41_57 (Qai _)) hR) rfl kj kj (isz (n:=16) kj kj))) <| QaD (.agg (ints .i64 (lims (s15)))) 37 #[.agg (ints .i64 (lims (121665))),.agg (ints .i64 (lims (s6)))] kj kj (fun W=>by kernel_rfl) (fun W hR=>c_s15 W) <| QaD (.agg (ints .i64 (lims (s16)))) 35 #[.agg (ints .i64 (lims (s4))),.agg (ints .i64 (lims (s15)))] kj kj (fun W=>by kernel_rfl) (fun W hR=>c_s16 W) <| QaD (.agg (ints .i64 (lims (s17)))) 37 #[.agg (ints .i64 (lims (s6))),.agg (ints .i64 (lims (s16)))] kj kj (fun W=>by kernel_rfl) (fun W hR=>c_s17 W) <| QaT (hF _ kj fun W58 e58=>?_)
   simp only [ups,up,Kn.val,List.take_succ_cons,List.take_zero,List.drop_succ_cons,List.drop_zero,List.nil_append,List.cons_append]
   clear hF
   have x58:=Ext.tr x57 e58
   have r10_22:=(Qaa r10_21 e22)
   have r10_25:=(Qaa (Puts.row p24 (Qaa r10_22 e23) (Qab r10_22 l31)) e25)
   have r10_28:=(Qaa (Puts.row p27 (Qaa r10_25 e26) (Qab r10_25 l33)) e28)
   have r10_31:=(Qaa (Puts.row p30 (Qaa r10_28 e29) (Qab r10_28 l35)) e31)
   have r10_34:=(Qaa (Puts.row p33 (Qaa r10_31 e32) (Qab r10_31 l37)) e34)
   have r10_37:=(Qaa (Puts.row p36 (Qaa r10_34 e35) (Qab r10_34 l39)) e37)
   have r10_40:=(Qaa (Puts.row p39 (Qaa r10_37 e38) (Qab r10_37 l41)) e40)
   have r10_43:=(Qaa (Puts.row p42 (Qaa r10_40 e41) (Qab r10_40 l43)) e43)
   have r10_46:=(Qaa (Puts.row p45 (Qaa r10_43 e44) (Qab r10_43 l45)) e46)
   have r10_58:=(Qaa (Puts.row p57 (Qaa (Puts.row p55 (Qaa (Puts.row p53 (Qaa (Puts.row p51 (Qaa (Qaa (Puts.row p48 (Qaa (Qaa (Puts.row p45 (Qaa (Qaa (Puts.row p42 (Qaa (Qaa (Puts.row p39 (Qaa (Qaa (Puts.row p36 (Qaa (Qaa (Puts.row p33 (Qaa (Qaa (Puts.row p30 (Qaa (Qaa (Puts.row p27 (Qaa (Qaa (Puts.row p24 (Qaa (Qaa r10_21 e22) e23) (Qab r10_22 l31)) e25) e26) (Qab r10_25 l33)) e28) e29) (Qab r10_28 l35)) e31) e32) (Qab r10_31 l37)) e34) e35) (Qab r10_34 l39)) e37) e38) (Qab r10_37 l41)) e40) e41) (Qab r10_40 l43)) e43) e44) (Qab r10_43 l45)) e46) e47) (Qab r10_46 l47)) e49) e50) (Qab (Qaa (Puts.row p48 (Qaa r10_46 e47) (Qab r10_46 l47)) e49) l49)) e52) n_7_8) e54) n_7_9) e56) n_7_6) e58)
   refine Qah g10 _ (ints .i64 (lims (s17))) 50 r10_58 rfl kj (Qaf 50 _ _ g10 50 _ _ r10_58 rfl kj kj (isz (n:=16) kj kj) (eqsz (n:=16) kj kj) kj) fun W59 p59 r10_59=>?_
   have x59:=Puts.ext p59 x58 b10
   refine sgN hK53 <| sgB kj <| cond_false kj <| wp_skip <| hK24 _ _ <| Qan <| sg 1 kj <| Qad (.int .i64 ((j:Int)-1)) 34 rfl kj (Qal (u:=.int .i64 (IntKind.i64.wrap ((j:Int)-1))) kj (congrArg (Value.int .i64) (QjE j (by omega)))) <| sg 1 kj <| Qaz ?_
   have r2_19:=(Qaa q2 e19)
   have r2_22:=(Qaa (Puts.row p21 (Qaa r2_19 e20) (Qab r2_19 l29)) e22)
   have r2_25:=(Qaa (Puts.row p24 (Qaa r2_22 e23) (Qab r2_22 l31)) e25)
   have r2_28:=(Qaa (Puts.row p27 (Qaa r2_25 e26) (Qab r2_25 l33)) e28)
   have r2_31:=(Qaa (Puts.row p30 (Qaa r2_28 e29) (Qab r2_28 l35)) e31)
   have r2_34:=(Qaa (Puts.row p33 (Qaa r2_31 e32) (Qab r2_31 l37)) e34)
   have r2_37:=(Qaa (Puts.row p36 (Qaa r2_34 e35) (Qab r2_34 l39)) e37)
   have r2_40:=(Qaa (Puts.row p39 (Qaa r2_37 e38) (Qab r2_37 l41)) e40)
   have r2_43:=(Qaa (Puts.row p42 (Qaa r2_40 e41) (Qab r2_40 l43)) e43)
   have r2_46:=(Qaa (Puts.row p45 (Qaa r2_43 e44) (Qab r2_43 l45)) e46)
   have r4_19:=(Qaa q4 e19)
   have r4_22:=(Qaa (Puts.row p21 (Qaa r4_19 e20) (Qab r4_19 l29)) e22)
   have r4_25:=(Qaa (Puts.row p24 (Qaa r4_22 e23) (Qab r4_22 l31)) e25)
   have r4_28:=(Qaa (Puts.row p27 (Qaa r4_25 e26) (Qab r4_25 l33)) e28)
   have r4_31:=(Qaa (Puts.row p30 (Qaa r4_28 e29) (Qab r4_28 l35)) e31)
   have r4_34:=(Qaa (Puts.row p33 (Qaa r4_31 e32) (Qab r4_31 l37)) e34)
   have r4_37:=(Qaa (Puts.row p36 (Qaa r4_34 e35) (Qab r4_34 l39)) e37)
   have r4_40:=(Qaa (Puts.row p39 (Qaa r4_37 e38) (Qab r4_37 l41)) e40)
   have r4_43:=(Qaa (Puts.row p42 (Qaa r4_40 e41) (Qab r4_40 l43)) e43)
   have r4_46:=(Qaa (Puts.row p45 (Qaa r4_43 e44) (Qab r4_43 l45)) e46)
   have r6_19:=(Qaa q5 e19)
   have r6_22:=(Qaa (Puts.row p21 (Qaa r6_19 e20) (Qab r6_19 l29)) e22)
   have r6_25:=(Qaa (Puts.row p24 (Qaa r6_22 e23) (Qab r6_22 l31)) e25)
   have r6_28:=(Qaa (Puts.row p27 (Qaa r6_25 e26) (Qab r6_25 l33)) e28)
   have r6_31:=(Qaa (Puts.row p30 (Qaa r6_28 e29) (Qab r6_28 l35)) e31)
   have r6_34:=(Qaa (Puts.row p33 (Qaa r6_31 e32) (Qab r6_31 l37)) e34)
   have r6_37:=(Qaa (Puts.row p36 (Qaa r6_34 e35) (Qab r6_34 l39)) e37)
   have r6_40:=(Qaa (Puts.row p39 (Qaa r6_37 e38) (Qab r6_37 l41)) e40)
   have r6_43:=(Qaa (Puts.row p42 (Qaa r6_40 e41) (Qab r6_40 l43)) e43)
   have r6_46:=(Qaa (Puts.row p45 (Qaa r6_43 e44) (Qab r6_43 l45)) e46)
   have r14_59:=(Puts.row p59 (Qaa (Puts.row p57 (Qaa r14_55 e56) n_9_6) e58) n_9_7)
   have hl:lstep u a b c d=(s14,s17,s11,s13):=by subst_vars; rfl
   have hS:crungs u es j=(s14,s17,s11,s13):=by
    rw [hS0]
    simp only [rung,hl,Bool.false_eq_true,if_false]
   exact QaG j ⟨kj,kj,kj,kj,kj,kj,kj,kj,kj,kj,trivial⟩ ⟨by omega,(Puts.row p59 (Qaa (Puts.row p57 (Qaa (Puts.row p55 (Qaa (Puts.row p53 (Qaa (Puts.row p51 (Qaa (Qaa (Puts.row p48 (Qaa (Qaa (Puts.row p45 (Qaa (Qaa (Puts.row p42 (Qaa (Qaa (Puts.row p39 (Qaa (Qaa (Puts.row p36 (Qaa (Qaa (Puts.row p33 (Qaa (Qaa (Puts.row p30 (Qaa (Qaa (Puts.row p27 (Qaa (Qaa (Puts.row p24 (Qaa (Qaa (Puts.row p21 (Qaa (Qaa q2 e19) e20) (Qab r2_19 l29)) e22) e23) (Qab r2_22 l31)) e25) e26) (Qab r2_25 l33)) e28) e29) (Qab r2_28 l35)) e31) e32) (Qab r2_31 l37)) e34) e35) (Qab r2_34 l39)) e37) e38) (Qab r2_37 l41)) e40) e41) (Qab r2_40 l43)) e43) e44) (Qab r2_43 l45)) e46) e47) (Qab r2_46 l47)) e49) e50) (Qab (Qaa (Puts.row p48 (Qaa r2_46 e47) (Qab r2_46 l47)) e49) l49)) e52) n_2_8) e54) n_2_9) e56) n_2_6) e58) n_2_7),(Puts.row p59 (Qaa (Puts.row p57 (Qaa (Puts.row p55 (Qaa r3_53 e54) n_3_9) e56) n_3_6) e58) n_3_7),(Puts.row p59 (Qaa (Puts.row p57 (Qaa (Puts.row p55 (Qaa (Puts.row p53 (Qaa (Puts.row p51 (Qaa (Qaa (Puts.row p48 (Qaa (Qaa (Puts.row p45 (Qaa (Qaa (Puts.row p42 (Qaa (Qaa (Puts.row p39 (Qaa (Qaa (Puts.row p36 (Qaa (Qaa (Puts.row p33 (Qaa (Qaa (Puts.row p30 (Qaa (Qaa (Puts.row p27 (Qaa (Qaa (Puts.row p24 (Qaa (Qaa (Puts.row p21 (Qaa (Qaa q4 e19) e20) (Qab r4_19 l29)) e22) e23) (Qab r4_22 l31)) e25) e26) (Qab r4_25 l33)) e28) e29) (Qab r4_28 l35)) e31) e32) (Qab r4_31 l37)) e34) e35) (Qab r4_34 l39)) e37) e38) (Qab r4_37 l41)) e40) e41) (Qab r4_40 l43)) e43) e44) (Qab r4_43 l45)) e46) e47) (Qab r4_46 l47)) e49) e50) (Qab (Qaa (Puts.row p48 (Qaa r4_46 e47) (Qab r4_46 l47)) e49) l49)) e52) n_4_8) e54) n_4_9) e56) n_4_6) e58) n_4_7),(Puts.row p59 (Qaa (Puts.row p57 (Qaa (Puts.row p55 (Qaa (Puts.row p53 (Qaa (Puts.row p51 (Qaa (Qaa (Puts.row p48 (Qaa (Qaa (Puts.row p45 (Qaa (Qaa (Puts.row p42 (Qaa (Qaa (Puts.row p39 (Qaa (Qaa (Puts.row p36 (Qaa (Qaa (Puts.row p33 (Qaa (Qaa (Puts.row p30 (Qaa (Qaa (Puts.row p27 (Qaa (Qaa (Puts.row p24 (Qaa (Qaa (Puts.row p21 (Qaa (Qaa q5 e19) e20) (Qab r6_19 l29)) e22) e23) (Qab r6_22 l31)) e25) e26) (Qab r6_25 l33)) e28) e29) (Qab r6_28 l35)) e31) e32) (Qab r6_31 l37)) e34) e35) (Qab r6_34 l39)) e37) e38) (Qab r6_37 l41)) e40) e41) (Qab r6_40 l43)) e43) e44) (Qab r6_43 l45)) e46) e47) (Qab r6_46 l47)) e49) e50) (Qab (Qaa (Puts.row p48 (Qaa r6_46 e47) (Qab r6_46 l47)) e49) l49)) e52) n_5_8) e54) n_5_9) e56) n_5_6) e58) n_5_7),by rw [hS]; exact (Puts.row p59 (Qaa r8_57 e58) n_6_7),by rw [hS]; exact r10_59,by rw [hS]; exact (Puts.row p59 (Qaa (Puts.row p57 (Qaa (Puts.row p55 (Qaa r12_53 e54) n_8_9) e56) n_8_6) e58) n_8_7),by rw [hS]; exact r14_59,(Puts.row p59 (Qaa r16_57 e58) n_10_7),x59⟩ (Nat.lt_succ_self j)
end Go.Proofs.YtmljnchhgkfemaaDoor.Field
end
section
namespace Go.Proofs.YtmljnchhgkfemaaDoor.Field
open Go Go.RowKit
open Rely Auto Ladder
theorem addL (a b:Int):(a%p+b)%p=(a+b)%p:=Int.emod_add_emod ..
theorem addR (a b:Int):(a+b%p)%p=(a+b)%p:=Int.add_emod_emod ..
theorem subL (a b:Int):(a%p-b)%p=(a-b)%p:=Int.emod_sub_emod ..
theorem subR (a b:Int):(a-b%p)%p=(a-b)%p:=Int.sub_emod_emod ..
theorem Qch (u x z y v:Int):lstep u x z y v=(((x+z)*(x+z)*((x-z)*(x-z)))%p,(((x+z)*(x+z)-(x-z)*(x-z))*((x+z)*(x+z)+((x+z)*(x+z)-(x-z)*(x-z))*121665))%p,
    (((y-v)*(x+z)+(y+v)*(x-z))*((y-v)*(x+z)+(y+v)*(x-z)))%p,(u*(((y-v)*(x+z)-(y+v)*(x-z))*((y-v)*(x+z)-(y+v)*(x-z))))%p):=by
  have e0:=fun a b c:Int=>modL a (b*c)
  simp only [lstep,modL,modR,addL,addR,subL,subR]
theorem Qfc {a b:Int} (h:a=b):a%p=b%p:=by rw [h]
def Sc (l m:Int) (s t:LSt):Prop:=t.1=l*s.1%p∧t.2.1=l*s.2.1%p∧t.2.2.1=m*s.2.2.1%p∧t.2.2.2=m*s.2.2.2%p
theorem QjB (u l m x z y v:Int):lstep u (l*x%p) (l*z%p) (m*y%p) (m*v%p) =
    ((l*l*(l*l))*(lstep u x z y v).1%p,(l*l*(l*l))*(lstep u x z y v).2.1%p,(l*m*(l*m))*(lstep u x z y v).2.2.1%p,(l*m*(l*m))*(lstep u x z y v).2.2.2%p):=by
  rw [Qch u x z y v]
  simp only [modR]
  have h:lstep u (l*x%p) (l*z%p) (m*y%p) (m*v%p)=lstep u (l*x) (l*z) (m*y) (m*v):=by
    unfold lstep
    simp only [addL,addR,subL,subR]
  rw [h,Qch]
  refine Prod.ext ?_ (Prod.ext ?_ (Prod.ext ?_ ?_)) <;> refine Qfc ?_ <;> grind
theorem Qoo {u l m:Int} {s t:LSt} (b:Bool) (h:Sc l m s t):Sc (if b then (m*l*(m*l)) else l*l*(l*l)) (if b then m*m*(m*m) else l*m*(l*m)) (rung u s b) (rung u t b):=by
  obtain ⟨x,z,y,v⟩:=s
  obtain ⟨x',z',y',v'⟩:=t
  obtain ⟨rfl,rfl,rfl,rfl⟩:=h
  cases b
  · simp only [rung,Bool.false_eq_true,if_false,QjB]
    exact ⟨rfl,rfl,rfl,rfl⟩
  · simp only [rung,if_true,QjB]
    exact ⟨rfl,rfl,rfl,rfl⟩
theorem Qbx {a b:Int} (ha:a%p≠0) (hb:b%p≠0):a*b%p≠0:=fun h=>by
  have hA:=Qfe (a%p) (QaB _) ha
  apply hb
  have e:(a%p*invN (a%p)%p)*b%p=invN (a%p)*(a*b%p)%p:=by
    rw [modL,modR,Int.mul_assoc,modL,←Int.mul_assoc,←Int.mul_assoc,Int.mul_comm a]
  rw [hA,h,Int.one_mul,Int.mul_zero] at e
  rw [e]
  rfl
theorem Qnn {y a b:Int} (ha:y*a%p=1) (hb:y*b%p=1):a%p=b%p:=by
  have e:(y*a%p)*b%p=(y*b%p)*a%p:=by
    rw [modL,modL,Int.mul_assoc,Int.mul_assoc,Int.mul_comm a b]
  rw [ha,hb,Int.one_mul,Int.one_mul] at e
  exact e.symm
theorem QnR {l x z:Int} (hl:l%p≠0) (hx:isN x) (hz:isN z):(l*x%p)*invN (l*z%p)%p=x*invN z%p:=by
  by_cases h0:z=0
  · subst h0
    rw [Int.mul_zero,show (0:Int)%p=0 from rfl,Qnm,Int.mul_zero,Int.mul_zero]
  · have hz0:z%p≠0:=by rw [Int.emod_eq_of_lt hz.1 hz.2]; exact h0
    have h1:=Qfe (l*z%p) (QaB _) (Qbx hl hz0)
    have h2:=Qfe z hz h0
    have h3:=Qfe (l%p) (QaB _) hl
    have h4:(l*z%p)*(invN (l%p)*invN z)%p=1:=by
      have e:(l*z%p)*(invN (l%p)*invN z)%p=(l%p*invN (l%p)%p)*(z*invN z%p)%p:=by
        rw [modL,modL,modR,Int.mul_assoc (l%p),modL]
        refine Qfc ?_
        grind
      rw [e,h2,h3]
      rfl
    have h5:=Qnn h1 h4
    rw [←modR,h5,modR,modL]
    have e:l*x*(invN (l%p)*invN z)%p=(l%p*invN (l%p)%p)*(x*invN z)%p:=by
      rw [modL,Int.mul_assoc (l%p),modL]
      refine Qfc ?_
      grind
    rw [e,h3,Int.one_mul]
theorem QlS (u : Int):∀ (bs:List Bool) (l m:Int) (s t:LSt),l%p≠0→m%p≠0→Sc l m s t→∃ l' m',l'%p≠0∧m'%p≠0∧Sc l' m' (bs.foldl (rung u) s) (bs.foldl (rung u) t)
  | [],l,m,s,t,hl,hm,h=>⟨l,m,hl,hm,h⟩
  | b::bs,l,m,s,t,hl,hm,h=>by
    refine QlS u bs _ _ _ _ ?_ ?_ (Qoo b h)
    · cases b
      · exact Qbx (Qbx hl hl) (Qbx hl hl)
      · exact Qbx (Qbx hm hl) (Qbx hm hl)
    · cases b
      · exact Qbx (Qbx hl hm) (Qbx hl hm)
      · exact Qbx (Qbx hm hm) (Qbx hm hm)
def Dead (s : LSt):Prop:=s.1=0∧s.2.1=0∧s.2.2.2=0
theorem Qmi (s : LSt) (b:Bool) (h:Dead s):Dead (rung 0 s b):=by
  obtain ⟨x,z,y,v⟩:=s
  obtain ⟨rfl,rfl,rfl⟩:=h
  cases b
  · simp only [rung,Bool.false_eq_true,if_false,Qch]
    refine ⟨?_,?_,?_⟩ <;> simp
  · simp only [rung,if_true,Qch]
    refine ⟨?_,?_,?_⟩ <;> simp
theorem Qgk : ∀ (bs:List Bool) (s:LSt),Dead s→Dead (bs.foldl (rung 0) s)
  | [],_,h=>h
  | b::bs,s,h=>Qgk bs _ (Qmi s b h)
theorem QjN {s : LSt} (h:Dead s):s.1*invN s.2.1%p=0:=by rw [h.1,Int.zero_mul]; rfl
theorem QgJ (u : Int) (hu:isN u):rung u (1,0,u,1) false=(1,0,4*u*u%p,4*u*1%p):=by
  simp only [rung,Bool.false_eq_true,if_false,Qch]
  have e1:((1:Int)+0)*(1+0)*((1-0)*(1-0))%p=1:=by decide
  have e2:(((1:Int)+0)*(1+0)-(1-0)*(1-0))*((1+0)*(1+0)+((1+0)*(1+0)-(1-0)*(1-0))*121665)%p=0:=by decide
  rw [e1,e2]
  refine Prod.ext rfl (Prod.ext rfl (Prod.ext ?_ ?_)) <;> refine Qfc ?_ <;> grind
theorem QgL (xs : List Int) (hx:xs.length=32) (hb:Qag xs):bitB (clamp xs) 255=false∧bitB (clamp xs) 254=true:=by
  have h31:nth (clamp xs) 31=nth xs 31%64+64:=by unfold clamp; exact Qer _ _ _ (by simp [hx])
  have b:=hb.nth 31
  unfold bitB QdO
  rw [h31]
  rw [show (2:Int)^(255%8)=128 from rfl,show (2:Int)^(254%8)=64 from rfl]
  constructor
  · have:(nth xs 31%64+64)/128%2=0:=by omega
    rw [this]; rfl
  · have:(nth xs 31%64+64)/64%2=1:=by omega
    rw [this]; rfl
theorem QgO (es : List Int):Qbt es=bitB es 255::bitB es 254::(Qbt es).drop 2:=by
  apply List.ext_getElem?
  intro i
  rcases i with _ | _ | i
  · simp [Qbt]
  · simp [Qbt]
  · simp [Qbt,Nat.add_comm 2]
theorem Qng (u : Int) (hu:isN u) (xs:List Int) (hx:xs.length=32) (hb:Qag xs):QgD u (Qbt (clamp xs))=outN u (crungs u (clamp xs) 0):=by
  obtain ⟨h255,h254⟩:=QgL xs hx hb
  have hc:=QgO (clamp xs)
  rw [h255,h254] at hc
  have hd:((Qbt (clamp xs)).drop 1).take (255-0)=true::(Qbt (clamp xs)).drop 2:=by
    rw [List.take_of_length_le (by simp [Qd9])]
    conv=>lhs; rw [hc]
    rfl
  unfold QgD outN crungs
  rw [hd]
  clear hd
  rw [hc]
  clear hc h255 h254
  generalize (Qbt (clamp xs)).drop 2=bs
  show (rungs u (false::true::bs)).1*invN (rungs u (false::true::bs)).2.1%p=(rungs u (true::bs)).1*invN (rungs u (true::bs)).2.1%p
  unfold rungs
  rw [List.foldl_cons]
  by_cases h0:u=0
  · subst h0
    have d1:Dead ((true::bs).foldl (rung 0) (rung 0 (1,0,0,1) false)):=by
      rw [List.foldl_cons,QgJ 0 ⟨by decide,by decide⟩]
      refine Qgk bs _ ?_
      simp only [rung,if_true,Qch]
      refine ⟨?_,?_,?_⟩ <;> decide
    have d2:Dead ((true::bs).foldl (rung 0) (1,0,0,1)):=by
      rw [List.foldl_cons]
      refine Qgk bs _ ?_
      simp only [rung,if_true,Qch]
      refine ⟨?_,?_,?_⟩ <;> decide
    rw [QjN d1,QjN d2]
  · have hu0:u%p≠0:=by rw [Int.emod_eq_of_lt hu.1 hu.2]; exact h0
    have hs:Sc 1 (4*u) (1,0,u,1) (rung u (1,0,u,1) false):=by
      rw [QgJ u hu]
      exact ⟨show (1:Int)=1*1%p by decide,show (0:Int)=1*0%p by decide,rfl,rfl⟩
    obtain ⟨l',m',hl,hm,h⟩:=QlS u (true::bs) 1 (4*u) _ _ (by decide) (Qbx (by decide) hu0) hs
    have hL:=QdV u hu (true::bs)
    unfold rungs at hL
    rw [h.1,h.2.1]
    exact QnR hl hL.1 hL.2.1
end Go.Proofs.YtmljnchhgkfemaaDoor.Field
end
section
namespace Go.Proofs.YtmljnchhgkfemaaDoor.Field
open Go Go.RowKit
open Rely Auto Ladder
def PN : Nat:=57896044618658097711785492504343953926634992332820282019728792003956564819949
theorem Qhf : ((PN:Nat):Int)=p:=rfl
def sbN (a b:Nat):Nat:=(a+(PN-b))%PN
def QgB (u x z y v:Nat):Nat×Nat×Nat×Nat :=
  let s0:=(x+z)%PN
  let s1:=sbN x z
  let s2:=(y+v)%PN
  let s3:=sbN y v
  let s4:=s0*s0%PN
  let s5:=s1*s1%PN
  let s6:=sbN s4 s5
  let s7:=s3*s0%PN
  let s8:=s2*s1%PN
  let s9:=(s7+s8)%PN
  let s10:=sbN s7 s8
  let s11:=s4*s5%PN
  let s12:=s6*121665%PN
  let s13:=(s4+s12)%PN
  let s14:=s6*s13%PN
  let s15:=s9*s9%PN
  let s16:=s10*s10%PN
  let s17:=u*s16%PN
  (s11,s14,s15,s17)
def lsN (k : Nat→Nat→Nat→Nat→Nat) (u x z y v:Nat):Nat :=
  let s0:=(x+z)%PN
  let s1:=sbN x z
  let s2:=(y+v)%PN
  let s3:=sbN y v
  let s4:=s0*s0%PN
  let s5:=s1*s1%PN
  let s6:=sbN s4 s5
  let s7:=s3*s0%PN
  let s8:=s2*s1%PN
  let s9:=(s7+s8)%PN
  let s10:=sbN s7 s8
  let s11:=s4*s5%PN
  let s12:=s6*121665%PN
  let s13:=(s4+s12)%PN
  let s14:=s6*s13%PN
  let s15:=s9*s9%PN
  let s16:=s10*s10%PN
  let s17:=u*s16%PN
  bif Nat.ble s11 PN&&Nat.ble s14 PN&&Nat.ble s15 PN&&Nat.ble s17 PN then k s11 s14 s15 s17 else 0
def ladN (u e:Nat):Nat→Nat→Nat→Nat→Nat→Nat
  | 0,x,z,y,v=>x*Prime.pm PN 256 z (PN-2)%PN
  | f+1,x,z,y,v=>bif Nat.beq (e/2^f%2) 1 then lsN (fun a b c d=>ladN u e f c d a b) u y v x z else lsN (fun a b c d=>ladN u e f a b c d) u x z y v
def Qc9 (e : Nat):Nat→List Bool
  | 0=>[]
  | f+1=>Nat.beq (e/2^f%2) 1::Qc9 e f
theorem QiE (a b:Nat) (ha:a<PN) (hb:b<PN):((sbN a b:Nat):Int)=((a:Int)-b)%p:=by
  unfold sbN
  rw [←Qhf,Int.natCast_emod,Int.natCast_add,Int.natCast_sub (Nat.le_of_lt hb),show (a:Int)+((PN:Int)-b)=(a-b)+PN by omega,Int.add_emod_right]
theorem Qpc (a b:Nat):(((a+b)%PN:Nat):Int)=((a:Int)+b)%p:=by
  rw [←Qhf,Int.natCast_emod,Int.natCast_add]
theorem Ql8 (a b:Nat):((a*b%PN:Nat):Int)=((a:Int)*b)%p:=by
  rw [←Qhf,Int.natCast_emod,Int.natCast_mul]
theorem mod_lt (a : Nat):a%PN<PN:=Nat.mod_lt _ (by decide)
theorem Qhu (k : Nat→Nat→Nat→Nat→Nat) (u x z y v:Nat) (hx:x<PN) (hz:z<PN) (hy:y<PN) (hv:v<PN) :
    ∃ a b c d:Nat,a<PN∧b<PN∧c<PN∧d<PN∧lsN k u x z y v=k a b c d∧lstep (u:Int) x z y v=((a:Int),(b:Int),(c:Int),(d:Int)):=by
  refine ⟨(QgB u x z y v).1,(QgB u x z y v).2.1,(QgB u x z y v).2.2.1,(QgB u x z y v).2.2.2,mod_lt _,mod_lt _,mod_lt _,mod_lt _,?_,?_⟩
  · have hb:∀ a:Nat,Nat.ble (a%PN) PN=true:=fun a=>by
      rw [Nat.ble_eq]
      exact Nat.le_of_lt (mod_lt _)
    unfold lsN QgB
    simp only [hb,Bool.and_true,_root_.cond_true]
  · unfold lstep QgB
    simp only [Qpc,Ql8,QiE _ _ hx hz,QiE _ _ hy hv,QiE _ _ (mod_lt _) (mod_lt _)]
    rfl
theorem Qp1 (z : Nat) (hz:z<PN):((Prime.pm PN 256 z (PN-2):Nat):Int)=invN z:=by
  rw [Prime.pm_eq PN 256 z (PN-2) (by decide +kernel)]
  unfold invN
  rw [Qlr,←Qhf,←Qef]
  have hc:cnt (QcE (expo 235 127))=PN-2:=by
    have h:=Qjb
    generalize cnt (QcE (expo 235 127))=m at h
    unfold PN
    omega
  rw [hc]
theorem Qhy (u e:Nat):∀ (f x z y v:Nat),x<PN→z<PN→y<PN→v<PN→((ladN u e f x z y v:Nat):Int)=outN u ((Qc9 e f).foldl (rung u) ((x:Int),(z:Int),(y:Int),(v:Int)))
  | 0,x,z,y,v,hx,hz,hy,hv=>by
    show ((x*Prime.pm PN 256 z (PN-2)%PN:Nat):Int)=(x:Int)*invN z%p
    rw [Ql8,Qp1 z hz]
  | f+1,x,z,y,v,hx,hz,hy,hv=>by
    rw [ladN,Qc9,List.foldl_cons]
    cases Nat.beq (e/2^f%2) 1 with
    | true =>
      rw [_root_.cond_true]
      obtain ⟨a,b,c,d,ha,hb,hc,hd,h1,h2⟩:=Qhu (fun a b c d=>ladN u e f c d a b) u y v x z hy hv hx hz
      rw [h1]
      simp only [rung,if_true,h2]
      exact Qhy u e f c d a b hc hd ha hb
    | false =>
      rw [_root_.cond_false]
      obtain ⟨a,b,c,d,ha,hb,hc,hd,h1,h2⟩:=Qhu (fun a b c d=>ladN u e f a b c d) u x z y v hx hz hy hv
      rw [h1]
      simp only [rung,Bool.false_eq_true,if_false,h2]
      exact Qhy u e f a b c d ha hb hc hd
end Go.Proofs.YtmljnchhgkfemaaDoor.Field
end
section
namespace Go.Proofs.YtmljnchhgkfemaaDoor.Field
open Go Go.RowKit
open Rely Auto Ladder
theorem QjM (pl : Nat→Option (Nat×Nat)):∀ (ps:List (Nat×Nat×Value×Array Value)) (pre:List (Array Value)) (rest:Array Value) (off:Nat),(cat pre).size=off→okPl pl off ps→tot ps=rest.size →
    Instr.fill pl (cat pre++rest) (ps.map fun x=>(x.1,x.2.2.1))=some (cat (pre++ps.map fun x=>x.2.2.2))
  | [],pre,rest,off,_,_,ht=>by
    have:rest=#[]:=Array.eq_empty_of_size_eq_zero ht.symm
    subst this
    simp [Instr.fill]
  | (i,n,v,p)::r,pre,rest,off,hoff,⟨h1,h2,h3,h4⟩,ht=>by
    subst h2
    have hn:n≤rest.size:=by rw [←ht,tot]; omega
    simp only [List.map_cons,Instr.fill,h1,h3]
    rw [if_neg (by simp; omega)]
    have hz:(v.cells.zipIdx.foldl (fun cs (x:Value×Nat)=>cs.setIfInBounds (off+x.2) x.1) (cat pre++rest))=cat (pre++[v.cells])++rest.extract n rest.size:=by
      have e1:v.cells.zipIdx=(v.cells.toList.zipIdx 0).toArray:=by
        apply Array.ext'
        simp
      rw [e1,List.foldl_toArray',Qfw]
      · have e2:rest=rest.extract 0 n++rest.extract n rest.size:=by
          rw [Array.extract_append_extract,Nat.max_eq_right hn]
          simp
        have e3:(cat pre++rest)=cat (pre++([rest.extract 0 n]++[rest.extract n rest.size])):=by
          rw [QaF]
          congr 1
        rw [Nat.add_zero,e3]
        have:=QgM pre [rest.extract 0 n] [v.cells] [rest.extract n rest.size] off hoff (by show v.cells.size=(rest.extract 0 n).size; simp; omega)
        rw [show (cat [v.cells]).toList=v.cells.toList from rfl] at this
        rw [this,←List.append_assoc,QaF (pre++[v.cells])]
        rfl
      · rfl
    have key:=QjM pl r (pre++[v.cells]) (rest.extract n rest.size) (off+n) (by rw [QaF]; show (cat pre++v.cells).size=_; simp; omega) h4 (by simp; rw [←ht,tot]; omega)
    rw [←hz] at key
    rw [List.append_assoc] at key
    exact key
theorem Qd4 {P : Program} {ρ:Operand→Value} {o:Oper} {w:World} (t:TypeId) (parts:Array (Nat×Operand)) (z:Value) (places:Array (Nat×Nat)) (ps:List (Nat×Nat×Value×Array Value))
    (ho:o.op=.build t parts) (hv:(parts.map fun (i,x)=>(i,ρ x)).toList=ps.map fun x=>(x.1,x.2.2.1)) (hp:okPl (fun i=>places[i]?) 0 ps) (ht:tot ps=z.cells.size)
    (hz:(zeroValue t).run P w=.ok z w) (hu:P.underlying t=some (.struct (P.fieldsOf t))) (hm:((P.fieldsOf t).mapM fun f=>do pure (f.offset,←sizeOf f.type):Sem (Array (Nat×Nat))).run P w=.ok places w) :
    (execOp ρ o).run P w=.ok (.value (.agg (cat (ps.map fun x=>x.2.2.2)))) w:=by
  have:=QjM (fun i=>places[i]?) ps [] z.cells 0 rfl hp ht
  rw [show cat []++z.cells=z.cells by simp [cat],List.nil_append] at this
  rw [←hv] at this
  have hB:(Instr.build t (parts.map fun (i,x)=>(i,ρ x))).run P w=.ok (.agg (cat (ps.map fun x=>x.2.2.2))) w:=by
    unfold Instr.build
    rw [Sem.run_bind,hz,Result.andThen_ok,Sem.run_bind,run_underlying hu w,Result.andThen_ok]
    show (Sem.run P _ w)=_
    rw [Sem.run_bind,hm,Result.andThen_ok]
    simp only [this]
    rfl
  unfold execOp
  simp only [ho,Sem.run_bind,hB,Result.andThen_ok,Sem.run_pure]
def pubL (xs : List Int):List Int:=Qay (outN 9 (crungs 9 (clamp xs) 0))
def agN (xs ps:List Int):Int:=outN (Qft ps) (crungs (Qft ps) (clamp xs) 0)
theorem Qiy (xs : List Int) (hx:xs.length=32) (hb:Qag xs) (u:Int) (hu:isN u) (w:World):Calls Tryd.prog 22 #[.agg (ints .u8 xs),num u] w (Ret w (num (outN u (crungs u (clamp xs) 0)))):=by
  have:=climb xs hx hb u hu w
  rw [Qng u hu xs hx hb] at this
  exact this
theorem Qnc (n : Int) (h:0≤n∧n<1000000) (w:World):Calls Tryd.prog 20 #[.int .i64 n] w (Ret w (lnum n)):=by
  have:=QgE n (by omega) w
  rw [show n%p=n from Int.emod_eq_of_lt h.1 (by unfold p; omega)] at this
  exact this
theorem Qnz (a : Int) (b:Bool) (ha:isN a) (h0:isN 0) (h:(a==0)=b) (w:World):Calls Tryd.prog 24 #[num a,num 0] w (Ret w (.bool b)):=by
  have:=equal a 0 ha h0 w
  rw [h] at this
  exact this
theorem Qa2 (xs : List Int):(pubL xs).length=32:=QaR _
theorem zlen : (List.replicate 32 (0:Int)).length=32:=by decide
theorem Qhr : isN 9:=by unfold isN p; decide
end Go.Proofs.YtmljnchhgkfemaaDoor.Field
end
section
namespace Go.Proofs.YtmljnchhgkfemaaDoor.Field
open Go Go.RowKit
open Rely Auto Ladder
set_option maxHeartbeats 1000000 in
theorem Qow (xs : List Int) (hx:xs.length=32) (hb:Qag xs) (w:World):Calls Tryd.prog 21 #[.agg (ints .u8 (xs))] w (Ret w (.agg (ints .u8 (pubL xs)))):=by
  refine enter 7 [(0,.agg (ints .u8 (xs)))] Tryd.func21 rfl rfl kj rfl <| sgC fun K1 hK1=>Qaj (ints .u8 (xs)) 23 1 rfl kj kj fun g2 W1 l2 e1 r2_1=>?_
  have x1:=Ext.tr (Rely.Ext.refl w) e1
  have b2:=qT (Rely.Ext.refl w).size l2
  refine Qaj (ints .u8 (List.replicate 32 0)) 23 2 rfl kj kj fun g3 W2 l3 e2 r3_2=>sgN hK1 <| wp_seq_k fun K4 hK4=>QaY 4 [⟨none,[(1,none)]⟩,⟨none,[]⟩,⟨none,[(3,some 0),(4,some 1)]⟩,⟨none,[(5,some 2)]⟩] kj kj fun F hF=>Qax (.agg (ints .u8 (xs))) kj kj (fun W hR=>(Qae 23 _ g2 23 _ _ (Qaa (Qaa (Qaa r2_1 e2) (Qai _)) hR) rfl kj kj (isz (n:=32) kj ((Qac _ _).trans hx)))) <| QaD (.agg (numA (9))) 25 #[.int .i64 9] kj kj (fun W=>by kernel_rfl) (fun W hR=>(QeT 9 (by decide)) W) <| QaD (.agg (numA (outN 9 (crungs 9 (clamp xs) 0)))) 22 #[.agg (ints .u8 (xs)),.agg (numA (9))] kj kj (fun W=>by kernel_rfl) (fun W hR=>(Qiy xs hx hb 9 Qhr) W) <| QaD (.agg (ints .u8 (pubL xs))) 26 #[.agg (numA (outN 9 (crungs 9 (clamp xs) 0)))] kj kj (fun W=>by kernel_rfl) (fun W hR=>(bytes _ (QaB _)) W) <| QaT (hF _ kj fun W3 e3=>?_)
  simp only [ups,up,Kn.val,List.take_succ_cons,List.take_zero,List.drop_succ_cons,List.drop_zero,List.nil_append,List.cons_append]
  clear hF
  have r3_3:=(Qaa r3_2 e3)
  refine Qah g3 _ (ints .u8 (pubL xs)) 23 r3_3 rfl kj (Qaf 23 _ _ g3 23 _ _ r3_3 rfl kj kj (isz (n:=32) kj ((Qac _ _).trans (Qa2 xs))) (eqsz (n:=32) ((Qac _ _).trans zlen) ((Qac _ _).trans (Qa2 xs))) (ints_one _ _)) fun W4 p4 r3_4=>sgN hK4 <| wp_ret ?_
  exact (show bodyPost _ _ _ .ret _ _ from ret1 (.agg (ints .u8 (pubL xs))) rfl (QaZ g3 23 _ r3_4 kj kj (isz (n:=32) kj ((Qac _ _).trans (Qa2 xs)))) ⟨rfl,(Puts.ext p4 (Ext.tr (Ext.tr x1 e2) e3) (qT x1.size l3))⟩)
set_option maxHeartbeats 1000000 in
theorem refPublic (xs : List Int) (hx:xs.length=32) (hb:Qag xs) (w:World):Calls Tryd.prog 11 #[.agg (ints .u8 (xs))] w (Ret w (.agg (ints .u8 (pubL xs)))):=by
  refine enter 6 [(0,.agg (ints .u8 (xs)))] Tryd.func11 rfl rfl kj rfl <| sgC fun K1 hK1=>Qaj (ints .u8 (xs)) 23 1 rfl kj kj fun g2 W1 l2 e1 r2_1=>?_
  have x1:=Ext.tr (Rely.Ext.refl w) e1
  have b2:=qT (Rely.Ext.refl w).size l2
  refine Qaj (ints .u8 (List.replicate 32 0)) 23 2 rfl kj kj fun g3 W2 l3 e2 r3_2=>sgN hK1 <| wp_seq_k fun K4 hK4=>QaY 3 [⟨none,[(1,none)]⟩,⟨none,[]⟩,⟨none,[(3,some 0),(4,some 1)]⟩] kj kj fun F hF=>Qax (.agg (ints .u8 (xs))) kj kj (fun W hR=>(Qae 23 _ g2 23 _ _ (Qaa (Qaa (Qaa r2_1 e2) (Qai _)) hR) rfl kj kj (isz (n:=32) kj ((Qac _ _).trans hx)))) <| QaD (.agg (ints .i64 (lims (9)))) 20 #[.int .i64 9] kj kj (fun W=>by kernel_rfl) (fun W hR=>(Qnc 9 (by decide)) W) <| QaD (.agg (ints .u8 (pubL xs))) 19 #[.agg (ints .u8 (xs)),.agg (ints .i64 (lims (9)))] kj kj (fun W=>by kernel_rfl) (fun W hR=>(come xs hx hb 9 Qhr) W) <| QaT (hF _ kj fun W3 e3=>?_)
  simp only [ups,up,Kn.val,List.take_succ_cons,List.take_zero,List.drop_succ_cons,List.drop_zero,List.nil_append,List.cons_append]
  clear hF
  have r3_3:=(Qaa r3_2 e3)
  refine Qah g3 _ (ints .u8 (pubL xs)) 23 r3_3 rfl kj (Qaf 23 _ _ g3 23 _ _ r3_3 rfl kj kj (isz (n:=32) kj ((Qac _ _).trans (Qa2 xs))) (eqsz (n:=32) ((Qac _ _).trans zlen) ((Qac _ _).trans (Qa2 xs))) (ints_one _ _)) fun W4 p4 r3_4=>sgN hK4 <| wp_ret ?_
  exact (show bodyPost _ _ _ .ret _ _ from ret1 (.agg (ints .u8 (pubL xs))) rfl (QaZ g3 23 _ r3_4 kj kj (isz (n:=32) kj ((Qac _ _).trans (Qa2 xs)))) ⟨rfl,(Puts.ext p4 (Ext.tr (Ext.tr x1 e2) e3) (qT x1.size l3))⟩)
set_option maxHeartbeats 1000000 in
theorem new_ (xs : List Int) (hx:xs.length=32) (hb:Qag xs) (w:World):Calls Tryd.prog 12 #[.agg (ints .u8 (xs))] w (Ret w (.agg (cat [ints .u8 xs,ints .u8 (pubL xs)]))):=by
  refine enter 7 [(0,.agg (ints .u8 (xs)))] Tryd.func12 rfl rfl kj rfl <| sgC fun K1 hK1=>Qaj (ints .u8 (xs)) 23 1 rfl kj kj fun g2 W1 l2 e1 r2_1=>?_
  have x1:=Ext.tr (Rely.Ext.refl w) e1
  have b2:=qT (Rely.Ext.refl w).size l2
  refine Qaj (cat [ints .u8 (List.replicate 32 0),ints .u8 (List.replicate 32 0)]) 31 2 rfl kj kj fun g3 W2 l3 e2 r3_2=>sgN hK1 <| wp_seq_k fun K4 hK4=>QaY 4 [⟨none,[(1,none)]⟩,⟨none,[(1,none)]⟩,⟨none,[(4,some 1)]⟩,⟨none,[(3,some 0),(5,some 2)]⟩] kj kj fun F hF=>?_
  have r2_2:=(Qaa r2_1 e2)
  refine Qax (.agg (ints .u8 (xs))) kj kj (fun W hR=>(Qae 23 _ g2 23 _ _ (Qaa (Qaa r2_2 (Qai _)) hR) rfl kj kj (isz (n:=32) kj ((Qac _ _).trans hx)))) <| Qax (.agg (ints .u8 (xs))) kj kj (fun W hR=>(Qae 23 _ g2 23 _ _ (Qaa (Qaa r2_2 (Qai _)) hR) rfl kj kj (isz (n:=32) kj ((Qac _ _).trans hx)))) <| QaD (.agg (ints .u8 (pubL xs))) 21 #[.agg (ints .u8 (xs))] kj kj (fun W=>by kernel_rfl) (fun W hR=>(Qow xs hx hb) W) <| Qas (.agg (cat [ints .u8 (xs),ints .u8 (pubL xs)])) kj kj (fun W=>(Qd4 31 _ (.agg (cat [ints .u8 (List.replicate 32 0),ints .u8 (List.replicate 32 0)])) #[(0,32),(32,32)] [(0,32,.agg (ints .u8 (xs)),ints .u8 (xs)),(1,32,.agg (ints .u8 (pubL xs)),ints .u8 (pubL xs))] rfl kj ⟨kj,rfl,((Qac _ _).trans hx),kj,rfl,((Qac _ _).trans (Qa2 xs)),trivial⟩ kj kj kj kj)) <| QaT (hF _ kj fun W3 e3=>?_)
  simp only [ups,up,Kn.val,List.take_succ_cons,List.take_zero,List.drop_succ_cons,List.drop_zero,List.nil_append,List.cons_append]
  clear hF
  have r3_3:=(Qaa r3_2 e3)
  refine Qah g3 _ (cat [ints .u8 (xs),ints .u8 (pubL xs)]) 31 r3_3 rfl kj (Qaf 31 _ _ g3 31 _ _ r3_3 rfl kj kj (isz (n:=64) kj (by rw [Qam,Qam]; simp only [qS,cat,((Qac _ _).trans (Qa2 xs)),((Qac _ _).trans hx)]; rfl)) (eqsz (n:=64) (by rw [Qam,Qam]; simp only [qS,cat,((Qac _ _).trans zlen)]; rfl) (by rw [Qam,Qam]; simp only [qS,cat,((Qac _ _).trans (Qa2 xs)),((Qac _ _).trans hx)]; rfl)) (Qe8 _ (by intro a ha; simp only [List.mem_cons,List.not_mem_nil,or_false] at ha; rcases ha with rfl | rfl; exact (ints_one _ _); exact (ints_one _ _)))) fun W4 p4 r3_4=>?_
  refine sgN hK4 <| wp_ret ?_
  exact (show bodyPost _ _ _ .ret _ _ from ret1 (.agg (cat [ints .u8 (xs),ints .u8 (pubL xs)])) rfl (QaZ g3 31 _ r3_4 kj kj (isz (n:=64) kj (by rw [Qam,Qam]; simp only [qS,cat,((Qac _ _).trans (Qa2 xs)),((Qac _ _).trans hx)]; rfl))) ⟨rfl,(Puts.ext p4 (Ext.tr (Ext.tr x1 e2) e3) (qT x1.size l3))⟩)
set_option maxHeartbeats 1000000 in
theorem agree_0 (xs ps:List Int) (hx:xs.length=32) (hb:Qag xs) (hp:ps.length=32) (hbp:Qag ps) (h0:(agN xs ps==0)=false) (w:World):Calls Tryd.prog 13 #[.agg (ints .u8 (xs)),.agg (ints .u8 (ps))] w (Ret w (.tuple #[.agg (ints .u8 (Qay (agN xs ps))),.nilIface])):=by
  refine enter 18 [(0,.agg (ints .u8 (xs))),(1,.agg (ints .u8 (ps)))] Tryd.func13 rfl rfl kj rfl <| sgC fun K1 hK1=>Qaj (ints .u8 (xs)) 23 2 rfl kj kj fun g2 W1 l2 e1 r2_1=>?_
  have x1:=Ext.tr (Rely.Ext.refl w) e1
  have b2:=qT (Rely.Ext.refl w).size l2
  refine Qaj (ints .u8 (ps)) 23 3 rfl kj kj fun g3 W2 l3 e2 r3_2=>?_
  have x2:=Ext.tr x1 e2
  have b3:=qT x1.size l3
  refine Qaj (ints .u8 (List.replicate 32 0)) 23 4 rfl kj kj fun g4 W3 l4 e3 r4_3=>?_
  have x3:=Ext.tr x2 e3
  refine sg 1 kj <| sgN hK1 <| wp_seq_k fun K5 hK5=>Qcw 5 [⟨none,[(2,none)]⟩,⟨none,[(3,none)]⟩,⟨none,[(8,some 1)]⟩,⟨none,[(7,some 0),(9,some 2)]⟩,⟨none,[]⟩] [4] kj kj kj fun F hF=>Qax (.agg (ints .u8 (xs))) kj kj (fun W hR=>(Qae 23 _ g2 23 _ _ (Qaa (Qaa (Qaa (Qaa r2_1 e2) e3) (Qai _)) hR) rfl kj kj (isz (n:=32) kj ((Qac _ _).trans hx)))) <| Qax (.agg (ints .u8 (ps))) kj kj (fun W hR=>(Qae 23 _ g3 23 _ _ (Qaa (Qaa (Qaa r3_2 e3) (Qai _)) hR) rfl kj kj (isz (n:=32) kj ((Qac _ _).trans hp)))) <| QaD (.agg (numA (Qft ps))) 23 #[.agg (ints .u8 (ps))] kj kj (fun W=>by kernel_rfl) (fun W hR=>(QqF ps hp hbp) W) <| QaD (.agg (numA (agN xs ps))) 22 #[.agg (ints .u8 (xs)),.agg (numA (Qft ps))] kj kj (fun W=>by kernel_rfl) (fun W hR=>(Qiy xs hx hb (Qft ps) (Qk1 ps)) W) <| QcX (numA (0)) 55 kj (qR _) kj (fun W=>by kernel_rfl) <| QaT (hF _ kj fun W4 e4=>?_)
  simp only [fins,up,List.take_succ_cons,List.take_zero,List.drop_succ_cons,List.drop_zero,List.nil_append,List.cons_append]
  intro g6 l6 r6_4 n6
  clear hF
  refine Qah g6 _ (numA (agN xs ps)) 55 r6_4 rfl kj (Qaf 55 _ _ g6 55 _ _ r6_4 rfl kj kj (isz (n:=4) kj kj) (eqsz (n:=4) kj kj) kj) fun W5 p5 r6_5=>sgN hK5 <| wp_seq_k fun K7 hK7=>wp_seq_k fun K8 hK8=>QaY 3 [⟨none,[(6,none)]⟩,⟨none,[]⟩,⟨none,[(11,some 0),(12,some 1)]⟩] kj kj fun F hF=>Qax (.agg (numA (agN xs ps))) kj kj (fun W hR=>(Qae 55 _ g6 55 _ _ (Qaa (Qaa r6_5 (Qai _)) hR) rfl kj kj (isz (n:=4) kj kj))) <| QaD (.agg (numA (0))) 25 #[.int .i64 0] kj kj (fun W=>by kernel_rfl) (fun W hR=>(QeT 0 (by decide)) W) <| QaD (.bool false) 24 #[.agg (numA (agN xs ps)),.agg (numA (0))] kj kj (fun W=>by kernel_rfl) (fun W hR=>(Qnz _ _ (QaB _) Qjr h0) W) <| QaT (hF _ kj fun W6 e6=>?_)
  simp only [ups,up,Kn.val,List.take_succ_cons,List.take_zero,List.drop_succ_cons,List.drop_zero,List.nil_append,List.cons_append]
  clear hF
  refine sgN hK8 <| cond_false kj <| wp_skip <| hK7 _ _ <| sgC fun K9 hK9=>Qad (.agg (numA (agN xs ps))) 16 rfl kj (Qae 55 _ g6 55 _ _ (Qaa r6_5 e6) rfl kj kj (isz (n:=4) kj kj)) <| Qao (.agg (ints .u8 (Qay (agN xs ps)))) 26 #[.agg (numA (agN xs ps))] 17 rfl kj kj ((bytes _ (QaB _)) _) fun W7 e7=>?_
  have r4_7:=(Qaa (Qaa (Puts.row p5 (Qaa r4_3 e4) (Qab r4_3 l6)) e6) e7)
  refine Qah g4 _ (ints .u8 (Qay (agN xs ps))) 23 r4_7 rfl kj (Qaf 23 _ _ g4 23 _ _ r4_7 rfl kj kj (isz (n:=32) kj ((Qac _ _).trans (QaR (agN xs ps)))) (eqsz (n:=32) ((Qac _ _).trans zlen) ((Qac _ _).trans (QaR (agN xs ps)))) (ints_one _ _)) fun W8 p8 r4_8=>sg 1 kj <| sgN hK9 <| wp_ret ?_
  exact (show bodyPost _ _ _ .ret _ _ from ret2 (.agg (ints .u8 (Qay (agN xs ps)))) (.nilIface) rfl (QaZ g4 23 _ r4_8 kj kj (isz (n:=32) kj ((Qac _ _).trans (QaR (agN xs ps))))) (QaM kj) ⟨rfl,(Puts.ext p8 (Ext.tr (Ext.tr (Puts.ext p5 (Ext.tr x3 e4) (qT x3.size l6)) e6) e7) (qT x2.size l4))⟩)
end Go.Proofs.YtmljnchhgkfemaaDoor.Field
end
section
section
namespace Go.Proofs.YtmljnchhgkfemaaDoor.Field
set_option maxHeartbeats 4000000
theorem Qmt (d x y u v r s:Int):((x*v+y*u)*(1-(d*(x*u*(y*v))))*s+(y*v+x*u)*(1+(d*(x*u*(y*v))))*r)*((1+(d*(u*r*(v*s))))*(1-(d*(u*r*(v*s))))+d*((u*s+v*r)*x*((v*s+u*r)*y)))-((u*s+v*r)*(1-(d*(u*r*(v*s))))*y+(v*s+u*r)*(1+(d*(u*r*(v*s))))*x)*((1+(d*(x*u*(y*v))))*(1-(d*(x*u*(y*v))))+d*((x*v+y*u)*r*((y*v+x*u)*s))) =
    (-d^2*r^2*s*u^4*v^3*x+d^2*r^2*s*u^3*v^4*y+d^2*r*s^2*u^4*v^3*y-d^2*r*s^2*u^3*v^4*x-d*r^3*u^3*v^2*x-d*r^3*u^2*v^3*y-d*r^2*s*u^4*v*x-d*r^2*s*u*v^4*y+d*r*s^2*u^4*v*y+d*r*s^2*u*v^4*x-d*r*u^3*v^2*x-d*r*u^2*v^3*y+d*s^3*u^3*v^2*y+d*s^3*u^2*v^3*x-d*s*u^3*v^2*y-d*s*u^2*v^3*x)*(-(x*x)+y*y-1-d*(x*x*(y*y)))
    + (d^2*r^3*s^2*u^2*v*x^2*y+d^2*r^3*s^2*u*v^2*x*y^2-d^2*r^2*s^3*u^2*v*x*y^2-d^2*r^2*s^3*u*v^2*x^2*y+d*r^3*s^2*u*x^3-d*r^3*s^2*u*x*y^2+d*r^3*s^2*u*x+d*r^3*s^2*v*x^2*y-d*r^3*s^2*v*y^3+d*r^3*s^2*v*y+d*r^2*s^3*u*x^2*y-d*r^2*s^3*u*y^3+d*r^2*s^3*u*y+d*r^2*s^3*v*x^3-d*r^2*s^3*v*x*y^2+d*r^2*s^3*v*x+d*r^2*s*u^2*v*x^3-d*r^2*s*u^2*v*x*y^2+d*r^2*s*u^2*v*x-d*r^2*s*u*v^2*x^2*y+d*r^2*s*u*v^2*y^3-d*r^2*s*u*v^2*y-d*r*s^2*u^2*v*x^2*y+d*r*s^2*u^2*v*y^3-d*r*s^2*u^2*v*y+d*r*s^2*u*v^2*x^3-d*r*s^2*u*v^2*x*y^2+d*r*s^2*u*v^2*x+r^3*u*x^3-r^3*u*x*y^2+r^3*u*x+r^3*v*x^2*y-r^3*v*y^3+r^3*v*y+r^2*s*u*x^2*y-r^2*s*u*y^3+r^2*s*u*y+r^2*s*v*x^3-r^2*s*v*x*y^2+r^2*s*v*x-r*s^2*u*x^3+r*s^2*u*x*y^2-r*s^2*u*x-r*s^2*v*x^2*y+r*s^2*v*y^3-r*s^2*v*y+r*u*x^3-r*u*x*y^2+r*u*x+r*v*x^2*y-r*v*y^3+r*v*y-s^3*u*x^2*y+s^3*u*y^3-s^3*u*y-s^3*v*x^3+s^3*v*x*y^2-s^3*v*x+s*u*x^2*y-s*u*y^3+s*u*y+s*v*x^3-s*v*x*y^2+s*v*x)*(-(u*u)+v*v-1-d*(u*u*(v*v)))
    + (-d*r*u^2*v*x^2*y-d*r*u*v^2*x*y^2+d*s*u^2*v*x*y^2+d*s*u*v^2*x^2*y-r*u^3*x^3+r*u^3*x*y^2-r*u^3*x-r*u^2*v*x^2*y+r*u^2*v*y^3-r*u^2*v*y+r*u*v^2*x^3-r*u*v^2*x*y^2+r*u*v^2*x-r*u*x^3+r*u*x*y^2-r*u*x+r*v^3*x^2*y-r*v^3*y^3+r*v^3*y-r*v*x^2*y+r*v*y^3-r*v*y-s*u^3*x^2*y+s*u^3*y^3-s*u^3*y-s*u^2*v*x^3+s*u^2*v*x*y^2-s*u^2*v*x+s*u*v^2*x^2*y-s*u*v^2*y^3+s*u*v^2*y-s*u*x^2*y+s*u*y^3-s*u*y+s*v^3*x^3-s*v^3*x*y^2+s*v^3*x-s*v*x^3+s*v*x*y^2-s*v*x)*(-(r*r)+s*s-1-d*(r*r*(s*s))):=by grind
theorem Qms (d x y u v r s:Int):((y*v+x*u)*(1+(d*(x*u*(y*v))))*s+(x*v+y*u)*(1-(d*(x*u*(y*v))))*r)*((1+(d*(u*r*(v*s))))*(1-(d*(u*r*(v*s))))-d*((u*s+v*r)*x*((v*s+u*r)*y)))-((v*s+u*r)*(1+(d*(u*r*(v*s))))*y+(u*s+v*r)*(1-(d*(u*r*(v*s))))*x)*((1+(d*(x*u*(y*v))))*(1-(d*(x*u*(y*v))))-d*((x*v+y*u)*r*((y*v+x*u)*s))) =
    (-d^2*r^2*s*u^4*v^3*y+d^2*r^2*s*u^3*v^4*x+d^2*r*s^2*u^4*v^3*x-d^2*r*s^2*u^3*v^4*y-d*r^3*u^3*v^2*y-d*r^3*u^2*v^3*x-d*r^2*s*u^4*v*y-d*r^2*s*u*v^4*x+d*r*s^2*u^4*v*x+d*r*s^2*u*v^4*y-d*r*u^3*v^2*y-d*r*u^2*v^3*x+d*s^3*u^3*v^2*x+d*s^3*u^2*v^3*y-d*s*u^3*v^2*x-d*s*u^2*v^3*y)*(-(x*x)+y*y-1-d*(x*x*(y*y)))
    + (-d^2*r^3*s^2*u^2*v*x*y^2-d^2*r^3*s^2*u*v^2*x^2*y+d^2*r^2*s^3*u^2*v*x^2*y+d^2*r^2*s^3*u*v^2*x*y^2+d*r^3*s^2*u*x^2*y-d*r^3*s^2*u*y^3+d*r^3*s^2*u*y+d*r^3*s^2*v*x^3-d*r^3*s^2*v*x*y^2+d*r^3*s^2*v*x+d*r^2*s^3*u*x^3-d*r^2*s^3*u*x*y^2+d*r^2*s^3*u*x+d*r^2*s^3*v*x^2*y-d*r^2*s^3*v*y^3+d*r^2*s^3*v*y+d*r^2*s*u^2*v*x^2*y-d*r^2*s*u^2*v*y^3+d*r^2*s*u^2*v*y-d*r^2*s*u*v^2*x^3+d*r^2*s*u*v^2*x*y^2-d*r^2*s*u*v^2*x-d*r*s^2*u^2*v*x^3+d*r*s^2*u^2*v*x*y^2-d*r*s^2*u^2*v*x+d*r*s^2*u*v^2*x^2*y-d*r*s^2*u*v^2*y^3+d*r*s^2*u*v^2*y+r^3*u*x^2*y-r^3*u*y^3+r^3*u*y+r^3*v*x^3-r^3*v*x*y^2+r^3*v*x+r^2*s*u*x^3-r^2*s*u*x*y^2+r^2*s*u*x+r^2*s*v*x^2*y-r^2*s*v*y^3+r^2*s*v*y-r*s^2*u*x^2*y+r*s^2*u*y^3-r*s^2*u*y-r*s^2*v*x^3+r*s^2*v*x*y^2-r*s^2*v*x+r*u*x^2*y-r*u*y^3+r*u*y+r*v*x^3-r*v*x*y^2+r*v*x-s^3*u*x^3+s^3*u*x*y^2-s^3*u*x-s^3*v*x^2*y+s^3*v*y^3-s^3*v*y+s*u*x^3-s*u*x*y^2+s*u*x+s*v*x^2*y-s*v*y^3+s*v*y)*(-(u*u)+v*v-1-d*(u*u*(v*v)))
    + (d*r*u^2*v*x*y^2+d*r*u*v^2*x^2*y-d*s*u^2*v*x^2*y-d*s*u*v^2*x*y^2-r*u^3*x^2*y+r*u^3*y^3-r*u^3*y-r*u^2*v*x^3+r*u^2*v*x*y^2-r*u^2*v*x+r*u*v^2*x^2*y-r*u*v^2*y^3+r*u*v^2*y-r*u*x^2*y+r*u*y^3-r*u*y+r*v^3*x^3-r*v^3*x*y^2+r*v^3*x-r*v*x^3+r*v*x*y^2-r*v*x-s*u^3*x^3+s*u^3*x*y^2-s*u^3*x-s*u^2*v*x^2*y+s*u^2*v*y^3-s*u^2*v*y+s*u*v^2*x^3-s*u*v^2*x*y^2+s*u*v^2*x-s*u*x^3+s*u*x*y^2-s*u*x+s*v^3*x^2*y-s*v^3*y^3+s*v^3*y-s*v*x^2*y+s*v*y^3-s*v*y)*(-(r*r)+s*s-1-d*(r*r*(s*s))):=by grind
end Go.Proofs.YtmljnchhgkfemaaDoor.Field
end
section
namespace Go.Proofs.YtmljnchhgkfemaaDoor.Prime
theorem q11 : IsP 11:=Qa0 11 2 (by decide +kernel)
theorem q23 : IsP 23:=Qa0 23 3 (by decide +kernel)
theorem Qot : IsP 409477:=Qa0 409477 638 (by decide +kernel)
theorem Qlq : IsP 14741173:=(cert 14741173 2 [2,2,3,3,409477] (by
  intro q hq
  simp only [List.mem_cons,List.not_mem_nil,or_false] at hq
  rcases hq with rfl | rfl | rfl | rfl | rfl
  · exact p2
  · exact p2
  · exact p3
  · exact p3
  · exact Qot
) (by decide +kernel)).1
theorem Qlp : IsP 58964693:=(cert 58964693 2 [2,2,14741173] (by
  intro q hq
  simp only [List.mem_cons,List.not_mem_nil,or_false] at hq
  rcases hq with rfl | rfl | rfl
  · exact p2
  · exact p2
  · exact Qlq
) (by decide +kernel)).1
theorem Qpz : IsP 30703:=Qa0 30703 174 (by decide +kernel)
theorem Qpy : IsP 82163:=Qa0 82163 285 (by decide +kernel)
theorem Qov : IsP 132667:=Qa0 132667 363 (by decide +kernel)
theorem Qou : IsP 137849:=Qa0 137849 370 (by decide +kernel)
theorem QdF : IsP 3044861653679985063343:=(cert 3044861653679985063343 5 [2,3,11,30703,82163,132667,137849] (by
  intro q hq
  simp only [List.mem_cons,List.not_mem_nil,or_false] at hq
  rcases hq with rfl | rfl | rfl | rfl | rfl | rfl | rfl
  · exact p2
  · exact p3
  · exact q11
  · exact Qpz
  · exact Qpy
  · exact Qov
  · exact Qou
) (by decide +kernel)).1
theorem Qc4 : IsP 198211423230930754013084525763697:=(cert 198211423230930754013084525763697 5 [2,2,2,2,3,23,58964693,3044861653679985063343] (by
  intro q hq
  simp only [List.mem_cons,List.not_mem_nil,or_false] at hq
  rcases hq with rfl | rfl | rfl | rfl | rfl | rfl | rfl | rfl
  · exact p2
  · exact p2
  · exact p2
  · exact p2
  · exact p3
  · exact q23
  · exact Qlp
  · exact QdF
) (by decide +kernel)).1
theorem q269 : IsP 269:=Qa0 269 15 (by decide +kernel)
theorem q73 : IsP 73:=Qa0 73 7 (by decide +kernel)
theorem q307 : IsP 307:=Qa0 307 16 (by decide +kernel)
theorem Qq3 : IsP 5879:=Qa0 5879 75 (by decide +kernel)
theorem Qkp : IsP 292386187:=(cert 292386187 2 [2,3,3,3,3,307,5879] (by
  intro q hq
  simp only [List.mem_cons,List.not_mem_nil,or_false] at hq
  rcases hq with rfl | rfl | rfl | rfl | rfl | rfl | rfl
  · exact p2
  · exact p3
  · exact p3
  · exact p3
  · exact p3
  · exact q307
  · exact Qq3
) (by decide +kernel)).1
theorem Qhc : IsP 213441916511:=(cert 213441916511 13 [2,5,73,292386187] (by
  intro q hq
  simp only [List.mem_cons,List.not_mem_nil,or_false] at hq
  rcases hq with rfl | rfl | rfl | rfl
  · exact p2
  · exact p5
  · exact q73
  · exact Qkp
) (by decide +kernel)).1
theorem Qq5 : IsP 1361:=Qa0 1361 35 (by decide +kernel)
theorem Qq4 : IsP 2851:=Qa0 2851 52 (by decide +kernel)
theorem q41 : IsP 41:=Qa0 41 5 (by decide +kernel)
theorem q43 : IsP 43:=Qa0 43 5 (by decide +kernel)
theorem Qos : IsP 531581:=Qa0 531581 728 (by decide +kernel)
theorem QmG : IsP 1224481:=Qa0 1224481 1105 (by decide +kernel)
theorem QeY : IsP 1257559732178653:=(cert 1257559732178653 2 [2,2,3,7,23,531581,1224481] (by
  intro q hq
  simp only [List.mem_cons,List.not_mem_nil,or_false] at hq
  rcases hq with rfl | rfl | rfl | rfl | rfl | rfl | rfl
  · exact p2
  · exact p2
  · exact p3
  · exact p7
  · exact q23
  · exact Qos
  · exact QmG
) (by decide +kernel)).1
theorem Qe0 : IsP 4434155615661930479:=(cert 4434155615661930479 17 [2,41,43,1257559732178653] (by
  intro q hq
  simp only [List.mem_cons,List.not_mem_nil,or_false] at hq
  rcases hq with rfl | rfl | rfl | rfl
  · exact p2
  · exact q41
  · exact q43
  · exact QeY
) (by decide +kernel)).1
theorem QcY : IsP 172054593956031949258510691:=(cert 172054593956031949258510691 2 [2,5,1361,2851,4434155615661930479] (by
  intro q hq
  simp only [List.mem_cons,List.not_mem_nil,or_false] at hq
  rcases hq with rfl | rfl | rfl | rfl | rfl
  · exact p2
  · exact p5
  · exact Qq5
  · exact Qq4
  · exact Qe0
) (by decide +kernel)).1
theorem QbT : IsP 19757330305831588566944191468367130476339:=(cert 19757330305831588566944191468367130476339 2 [2,269,213441916511,172054593956031949258510691] (by
  intro q hq
  simp only [List.mem_cons,List.not_mem_nil,or_false] at hq
  rcases hq with rfl | rfl | rfl | rfl
  · exact p2
  · exact q269
  · exact Qhc
  · exact QcY
) (by decide +kernel)).1
theorem QbR : IsP 276602624281642239937218680557139826668747:=(cert 276602624281642239937218680557139826668747 2 [2,7,19757330305831588566944191468367130476339] (by
  intro q hq
  simp only [List.mem_cons,List.not_mem_nil,or_false] at hq
  rcases hq with rfl | rfl | rfl
  · exact p2
  · exact p7
  · exact QbT
) (by decide +kernel)).1
theorem q7237005577332262213973186563042994240857116359379907606001950938285454250989 : IsP 7237005577332262213973186563042994240857116359379907606001950938285454250989:=(cert 7237005577332262213973186563042994240857116359379907606001950938285454250989 2 [2,2,3,11,198211423230930754013084525763697,276602624281642239937218680557139826668747] (by
  intro q hq
  simp only [List.mem_cons,List.not_mem_nil,or_false] at hq
  rcases hq with rfl | rfl | rfl | rfl | rfl | rfl
  · exact p2
  · exact p2
  · exact p3
  · exact q11
  · exact Qc4
  · exact QbR
) (by decide +kernel)).1
end Go.Proofs.YtmljnchhgkfemaaDoor.Prime
end
section
namespace Go.Proofs.YtmljnchhgkfemaaDoor.Field
open Go Go.RowKit
open Rely Auto Ladder
set_option maxHeartbeats 4000000
def dN : Int:=37095705934669439343138083508754565189542113879843219016388785533085940283555
def QgZ : Int:=19681161376707505956807079304988542015446066515923890162744021073123829784752
theorem Qjv : QgZ*QgZ%p=p-1:=by decide +kernel
theorem Qco {a : Int} (h:isN a):a%p=a:=Int.emod_eq_of_lt h.1 h.2
theorem QiS (n : Nat) (h:n<1000000:=by decide):isN (n:Int):=by unfold isN p; omega
theorem QoN : invN 1=1:=by
  have h:=Qfe 1 (QiS 1) (by decide)
  rw [Int.one_mul,Qco (Qhz 1)] at h
  exact h
theorem Qgb {x : Int} (h:isN x):x*invN 1%p=x:=by rw [QoN,Int.mul_one,Qco h]
theorem zc1 {e a c:Int} (ha:a%p=0) (he:e=c*a):e%p=0:=by
  rw [he,Int.mul_emod,ha,Int.mul_zero]; rfl
theorem zc2 {e a b c d:Int} (ha:a%p=0) (hb:b%p=0) (he:e=c*a+d*b):e%p=0:=by
  rw [he,Int.add_emod,zc1 ha rfl,zc1 hb rfl]; rfl
theorem zc4 {e a b c d k l m n:Int} (ha:a%p=0) (hb:b%p=0) (hc:c%p=0) (hd:d%p=0) (he:e=k*a+l*b+m*c+n*d):e%p=0:=by
  rw [he,Int.add_emod,Int.add_emod (k*a+l*b),zc2 ha hb rfl,zc1 hc rfl,zc1 hd rfl]; rfl
theorem Qey {a b:Int} (h:a*b%p=0):a%p=0∨b%p=0:=by
  by_cases ha:a%p=0
  · exact .inl ha
  · by_cases hb:b%p=0
    · exact .inr hb
    · exact absurd h (Qbx ha hb)
theorem QjW {a b:Int} (h:(a-b)%p=0):a%p=b%p:=Int.emod_eq_emod_iff_emod_sub_eq_zero.2 h
theorem QiA {a b:Int} (h:a%p=b%p):(a-b)%p=0:=Int.emod_eq_emod_iff_emod_sub_eq_zero.1 h
theorem Qoi {a : Int} (h:2*a%p=0):a%p=0:=(Qey h).resolve_left (by decide)
theorem Qk4 {a : Int} (h:a%p≠0):(a*invN (a%p)-1)%p=0:=by
  have:=Qfe (a%p) (QaB _) h
  rw [modL] at this
  exact QiA (by rw [this]; rfl)
def hN : Nat:=28948022309329048855892746252171976963317496166410141009864396001978282409974
theorem Qmf : Prime.pm 57896044618658097711785492504343953926634992332820282019728792003956564819949 256 ((p-dN).toNat) hN=57896044618658097711785492504343953926634992332820282019728792003956564819948:=by decide +kernel
theorem Qn3 : ((p-dN).toNat:Int)^hN%p=p-1:=by
  have h:=Prime.pm_eq 57896044618658097711785492504343953926634992332820282019728792003956564819949 256 ((p-dN).toNat) hN (by decide)
  rw [Qmf] at h
  have h2:=Qef ((p-dN).toNat) hN 57896044618658097711785492504343953926634992332820282019728792003956564819949
  rw [←h] at h2
  exact h2
theorem QpO (h : Nat) (e:h=hN):2*h=57896044618658097711785492504343953926634992332820282019728792003956564819949-1:=by rw [e]; decide
theorem Qox (h : Nat) (D a:Int) (hh:2*h=57896044618658097711785492504343953926634992332820282019728792003956564819949-1) (hD:D^h%p=p-1) (b:Int) (ha:a%p≠0)
    (hs:D*(a*a)%p=b*b%p):False:=by
  have ha1:=Qfh (a%p) (QaB _) ha (2*h) hh
  rw [Qep] at ha1
  have e:(D*(a*a))^h%p=(b*b)^h%p:=by rw [←Qep (D*(a*a)),hs,Qep]
  have sq:∀ c:Int,(c*c)^h=c^(2*h):=fun c=>by rw [Int.pow_mul,show c^2=c*c from by rw [Int.pow_succ,Int.pow_succ,Int.pow_zero,Int.one_mul]]
  rw [Int.mul_pow,sq,sq,Int.mul_emod,hD,ha1,Int.mul_one] at e
  rw [show (p-1)%p=p-1 by decide] at e
  by_cases hb:b%p=0
  · rw [←Qep b,hb] at e
    have h0:0<2*h:=by omega
    rw [Int.zero_pow (by omega)] at e
    exact absurd e (by decide)
  · have hb1:=Qfh (b%p) (QaB _) hb (2*h) hh
    rw [Qep] at hb1
    rw [hb1] at e
    exact absurd e (by decide)
theorem nonsq {a b:Int} (ha:a%p≠0) (h:(-dN*(a*a)-b*b)%p=0):False:=by
  refine Qox hN ((p-dN).toNat:Int) a (QpO _ rfl) Qn3 b ha ?_
  rw [←QjW h]
  have e:((p-dN).toNat:Int)=p-dN:=by decide +kernel
  rw [e]
  refine Int.emod_eq_emod_iff_emod_sub_eq_zero.2 ?_
  rw [show (p-dN)*(a*a) - -dN*(a*a)=p*(a*a) by grind]
  exact Int.mul_emod_right ..
def cv (x y:Int):Int:=-(x*x)+y*y-1-dN*(x*x*(y*y))
def onC (x y:Int):Prop:=cv x y%p=0
def eps (x y u v:Int):Int:=dN*(x*u*(y*v))
theorem Qjg (d i s x y u v:Int) (hs:s*s=1):-d*((i*x*y)*(i*u+s*v)*((i*x*y)*(i*u+s*v)))-(i*x+s*(d*(x*u*(y*v)))*y)*(i*x+s*(d*(x*u*(y*v)))*y) =
    (-(x*x)*(d*(i*i)*(u*u)*(y*y)+2*d*i*u*s*v*(y*y)-d*(u*u)*(y*y)+d*(v*v)*(y*y)+1))*(i*i+1) + -1*(-(x*x)+y*y-1-d*(x*x*(y*y)))
      + (d*(x*x)*(y*y))*(-(u*u)+v*v-1-d*(u*u*(v*v)))+(1-y*y)*(d*(x*u*(y*v))*(d*(x*u*(y*v)))-1):=by grind
theorem complete {x y u v:Int} (h1:onC x y) (h2:onC u v):(eps x y u v*eps x y u v-1)%p≠0:=fun he=>by
  have hi:(QgZ*QgZ+1)%p=0:=by rw [←addL,Qjv]; rfl
  have hi0:QgZ%p≠0:=fun e=>by
    have:=Qjv
    rw [←modL,e,Int.zero_mul] at this
    exact absurd this (by decide)
  have hx:eps x y u v%p≠0:=fun e=>by
    rw [←subL,←modL,e,Int.zero_mul] at he
    exact absurd he (by decide)
  have hx':∀ a b:Int,eps x y u v=a*b→a%p≠0:=fun a b e h=>by
    apply hx; rw [e,←modL,h,Int.zero_mul]; rfl
  have hX:=hx' x (dN*(u*(y*v))) (by unfold eps; grind)
  have hY:=hx' y (dN*(u*(x*v))) (by unfold eps; grind)
  have hU:=hx' u (dN*(x*(y*v))) (by unfold eps; grind)
  have hb:(QgZ*x*y)%p≠0:=Qbx (Qbx hi0 hX) hY
  have key:∀ s:Int,s*s=1→(QgZ*u+s*v)%p=0:=fun s hs=>by
    apply Decidable.byContradiction
    intro hne
    exact nonsq (Qbx hb hne) (zc4 hi h1 h2 he (Qjg dN QgZ s x y u v hs))
  have k1:=key 1 rfl
  have k2:=key (-1) rfl
  have k3:QgZ*(2*u)%p=0:=zc2 k1 k2 (c:=1) (d:=1) (by grind)
  exact hU (Qoi ((Qey k3).resolve_left hi0))
theorem Qgv {x y u v:Int} (h1:onC x y) (h2:onC u v):(1+eps x y u v)%p≠0:=fun h=>complete h1 h2 (zc1 h (c:=eps x y u v-1) (by grind))
theorem Qgl {x y u v:Int} (h1:onC x y) (h2:onC u v):(1-eps x y u v)%p≠0:=fun h=>complete h1 h2 (zc1 h (c:=-1-eps x y u v) (by grind))
def aX (x y u v:Int):Int:=(x*v+y*u)*invN ((1+eps x y u v)%p)%p
def aY (x y u v:Int):Int:=(y*v+x*u)*invN ((1-eps x y u v)%p)%p
theorem Qmj (d x y u v:Int):-((x*v+y*u)*(x*v+y*u)*((1-d*(x*u*(y*v)))*(1-d*(x*u*(y*v)))))+(y*v+x*u)*(y*v+x*u)*((1+d*(x*u*(y*v)))*(1+d*(x*u*(y*v))))
      - (1+d*(x*u*(y*v)))*(1+d*(x*u*(y*v)))*((1-d*(x*u*(y*v)))*(1-d*(x*u*(y*v))))-d*((x*v+y*u)*(x*v+y*u)*((y*v+x*u)*(y*v+x*u))) =
    (d^3*u^4*v^4*x^2*y^2-d^2*u^4*v^4*x^2+d^2*u^4*v^4*y^2-d^2*u^4*v^4-2*d*u^4*v^4-d*u^4*v^2*x^2+d*u^4*v^2*y^2+d*u^2*v^4*x^2-d*u^2*v^4*y^2-2*d*u^2*v^2-2*u^4*v^2+u^4+2*u^2*v^4-4*u^2*v^2+v^4)*(-(x*x)+y*y-1-d*(x*x*(y*y)))
      + (d*u^2*v^2*x^4+2*d*u^2*v^2*x^2+d*u^2*v^2*y^4-2*d*u^2*v^2*y^2+d*u^2*v^2+2*u^2*v^2*x^2-2*u^2*v^2*y^2+2*u^2*v^2-u^2*x^2+u^2*y^2-u^2+v^2*x^2-v^2*y^2+v^2+1)*(-(u*u)+v*v-1-d*(u*u*(v*v))):=by grind
theorem Qjh (d n m a b i j X Y:Int) (hi:(a*i-1)%p=0) (hj:(b*j-1)%p=0) (hX:(X-n*i)%p=0) (hY:(Y-m*j)%p=0)
    (h:(-(n*n*(b*b))+m*m*(a*a)-a*a*(b*b)-d*(n*n*(m*m)))%p=0):(-(X*X)+Y*Y-1-d*(X*X*(Y*Y)))%p=0:=by
  have e1:(-(n*i*(n*i))+m*j*(m*j)-1-d*(n*i*(n*i)*(m*j*(m*j))))%p=0:=by
    refine zc4 h hi hj (d:=0) rfl (k:=i*i*(j*j)) (l:=-((m*m*(j*j))*(a*i+1))+(a*i+1)*(b*j)*(b*j)) (m:=n*n*(i*i)*(b*j+1)+(b*j+1)) (n:=0) ?_
    grind
  refine zc4 e1 hX hY (d:=0) rfl (k:=1) (l:=-(X+n*i)-d*(Y*Y)*(X+n*i)) (m:=(Y+m*j)-d*(n*i*(n*i))*(Y+m*j)) (n:=0) ?_
  grind
theorem closed {x y u v:Int} (h1:onC x y) (h2:onC u v):onC (aX x y u v) (aY x y u v):=by
  unfold onC cv
  refine Qjh dN (x*v+y*u) (y*v+x*u) (1+eps x y u v) (1-eps x y u v) _ _ _ _ (Qk4 (Qgv h1 h2)) (Qk4 (Qgl h1 h2)) (QiA (Int.emod_emod ..)) (QiA (Int.emod_emod ..)) ?_
  exact zc2 h1 h2 (Qmj dN x y u v)
theorem QmW : onC 0 1:=rfl
theorem Qh1 (x y u v:Int):eps u v x y=eps x y u v:=by unfold eps; grind
theorem Qmy (x y u v:Int):aX u v x y=aX x y u v:=by
  unfold aX; rw [Qh1,show u*y+v*x=x*v+y*u by grind]
theorem Qjp (x y u v:Int):aY u v x y=aY x y u v:=by
  unfold aY; rw [Qh1,show v*y+u*x=y*v+x*u by grind]
theorem Qmx (x y u v:Int):isN (aX x y u v):=QaB _
theorem Qmw (x y u v:Int):isN (aY x y u v):=QaB _
theorem QnV {D i n X:Int} (hi:(D*i-1)%p=0) (hX:X=n*i%p):(D*X-n)%p=0:=by
  have h1:(X-n*i)%p=0:=QiA (by rw [hX,Int.emod_emod])
  exact zc2 hi h1 (c:=n) (d:=D) (by grind)
theorem Qdt {x y u v:Int} (h1:onC x y) (h2:onC u v):((1+eps x y u v)*aX x y u v-(x*v+y*u))%p=0:=QnV (Qk4 (Qgv h1 h2)) rfl
theorem QcA {x y u v:Int} (h1:onC x y) (h2:onC u v):((1-eps x y u v)*aY x y u v-(y*v+x*u))%p=0:=QnV (Qk4 (Qgl h1 h2)) rfl
theorem Qoa (d D1 D2 N1 N2 X Y r s Z:Int) (h1:(D1*X-N1)%p=0) (h2:(D2*Y-N2)%p=0) (h3:((1+d*(X*r*(Y*s)))*Z-(X*s+Y*r))%p=0) :
    ((D1*D2+d*(N1*r*(N2*s)))*Z-(N1*D2*s+N2*D1*r))%p=0:=by
  refine zc4 h1 h2 h3 (d:=0) rfl (k:=D2*s-d*r*s*Z*N2) (l:=D1*r-d*r*s*Z*(D1*X)) (m:=D1*D2) (n:=0) ?_
  grind
theorem QnZ (d D1 D2 N1 N2 X Y r s Z:Int) (h1:(D1*X-N1)%p=0) (h2:(D2*Y-N2)%p=0) (h3:((1-d*(X*r*(Y*s)))*Z-(Y*s+X*r))%p=0) :
    ((D1*D2-d*(N1*r*(N2*s)))*Z-(N2*D1*s+N1*D2*r))%p=0:=by
  refine zc4 h1 h2 h3 (d:=0) rfl (k:=D2*r+d*r*s*Z*N2) (l:=D1*s+d*r*s*Z*(D1*X)) (m:=D1*D2) (n:=0) ?_
  grind
theorem Qml (d D1 D2 N1 N2 X Y r s:Int) (h1:(D1*X-N1)%p=0) (h2:(D2*Y-N2)%p=0) (hd1:D1%p≠0) (hd2:D2%p≠0) (h3:(1+d*(X*r*(Y*s)))%p≠0) :
    (D1*D2+d*(N1*r*(N2*s)))%p≠0:=fun h=>by
  have e:(D1*D2*(1+d*(X*r*(Y*s))))%p=0:=by
    refine zc4 h h1 h2 (d:=0) rfl (k:=1) (l:=d*r*s*(D2*Y)) (m:=d*r*s*N1) (n:=0) ?_
    grind
  exact Qbx (Qbx hd1 hd2) h3 e
theorem cross {DL NL DM NM X Y:Int} (h1:(DL*X-NL)%p=0) (h2:(DM*Y-NM)%p=0) (hG:(NL*DM-NM*DL)%p=0) (hd1:DL%p≠0) (hd2:DM%p≠0):X%p=Y%p:=by
  have e:(DL*DM*(X-Y))%p=0:=by
    refine zc4 h1 h2 hG (d:=0) rfl (k:=DM) (l:=-DL) (m:=1) (n:=0) ?_
    grind
  exact QjW ((Qey e).resolve_left (Qbx hd1 hd2))
theorem QpZ {x y u v r s:Int} (h1:onC x y) (h2:onC u v) (h3:onC r s):aX (aX x y u v) (aY x y u v) r s=aX x y (aX u v r s) (aY u v r s):=by
  rw [←Qmy x y (aX u v r s)]
  have a:=Qdt (closed h1 h2) h3
  have b:=Qdt (closed h2 h3) h1
  have cl:=Qoa dN _ _ _ _ _ _ r s _ (Qdt h1 h2) (QcA h1 h2) a
  have cm:=Qoa dN _ _ _ _ _ _ x y _ (Qdt h2 h3) (QcA h2 h3) b
  have dl:=Qml dN _ _ _ _ _ _ r s (Qdt h1 h2) (QcA h1 h2) (Qgv h1 h2) (Qgl h1 h2) (Qgv (closed h1 h2) h3)
  have dm:=Qml dN _ _ _ _ _ _ x y (Qdt h2 h3) (QcA h2 h3) (Qgv h2 h3) (Qgl h2 h3) (Qgv (closed h2 h3) h1)
  have:=cross cl cm (zc4 h1 h2 h3 (d:=0) rfl (n:=0) ((Qmt dN x y u v r s).trans (by rw [Int.mul_zero,Int.add_zero]; rfl))) dl dm
  rwa [Qco (Qmx ..),Qco (Qmx ..)] at this
theorem Qmk (d D1 D2 N1 N2 X Y r s:Int) (h1:(D1*X-N1)%p=0) (h2:(D2*Y-N2)%p=0) (hd1:D1%p≠0) (hd2:D2%p≠0) (h3:(1-d*(X*r*(Y*s)))%p≠0) :
    (D1*D2-d*(N1*r*(N2*s)))%p≠0:=fun h=>by
  refine Qml (-d) D1 D2 N1 N2 X Y r s h1 h2 hd1 hd2 (fun h'=>h3 ?_) ?_
  · rw [←h']; exact Qfc (by grind)
  · rw [←h]; exact Qfc (by grind)
theorem QpY {x y u v r s:Int} (h1:onC x y) (h2:onC u v) (h3:onC r s):aY (aX x y u v) (aY x y u v) r s=aY x y (aX u v r s) (aY u v r s):=by
  rw [←Qjp x y (aX u v r s)]
  have a:=QcA (closed h1 h2) h3
  have b:=QcA (closed h2 h3) h1
  have cl:=QnZ dN _ _ _ _ _ _ r s _ (Qdt h1 h2) (QcA h1 h2) a
  have cm:=QnZ dN _ _ _ _ _ _ x y _ (Qdt h2 h3) (QcA h2 h3) b
  have dl:=Qmk dN _ _ _ _ _ _ r s (Qdt h1 h2) (QcA h1 h2) (Qgv h1 h2) (Qgl h1 h2) (Qgl (closed h1 h2) h3)
  have dm:=Qmk dN _ _ _ _ _ _ x y (Qdt h2 h3) (QcA h2 h3) (Qgv h2 h3) (Qgl h2 h3) (Qgl (closed h2 h3) h1)
  have:=cross cl cm (zc4 h1 h2 h3 (d:=0) rfl (n:=0) ((Qms dN x y u v r s).trans (by rw [Int.mul_zero,Int.add_zero]; rfl))) dl dm
  rwa [Qco (Qmw ..),Qco (Qmw ..)] at this
structure OnP (P : Int × Int) : Prop where
  x:isN P.1
  y:isN P.2
  c:onC P.1 P.2
def pAdd (P Q:Int×Int):Int×Int:=(aX P.1 P.2 Q.1 Q.2,aY P.1 P.2 Q.1 Q.2)
def pNeg (P : Int×Int):Int×Int:=((0-P.1)%p,P.2)
def QdH : Int×Int:=(0,1)
theorem Qhj : OnP QdH:=⟨QiS 0,QiS 1,QmW⟩
theorem Qo1 {P Q:Int×Int} (h:OnP P) (k:OnP Q):OnP (pAdd P Q):=⟨QaB _,QaB _,closed h.c k.c⟩
theorem QfX (P Q:Int×Int):pAdd P Q=pAdd Q P:=Prod.ext (Qmy ..) (Qjp ..)
theorem Qg8 {P Q R:Int×Int} (h:OnP P) (k:OnP Q) (l:OnP R):pAdd (pAdd P Q) R=pAdd P (pAdd Q R):=Prod.ext (QpZ h.c k.c l.c) (QpY h.c k.c l.c)
theorem Qd5 {P : Int×Int} (h:OnP P):pAdd P QdH=P:=by
  have e:eps P.1 P.2 0 1=0:=by unfold eps; grind
  refine Prod.ext ?_ ?_
  · show (P.1*1+P.2*0)*invN ((1+eps P.1 P.2 0 1)%p)%p=P.1
    rw [e,show (1+0:Int)%p=1 from rfl,Int.mul_zero,Int.add_zero,Int.mul_one,Qgb h.x]
  · show (P.2*1+P.1*0)*invN ((1-eps P.1 P.2 0 1)%p)%p=P.2
    rw [e,show (1-0:Int)%p=1 from rfl,Int.mul_zero,Int.add_zero,Int.mul_one,Qgb h.y]
theorem QiL {P : Int×Int} (h:OnP P):OnP (pNeg P):=by
  refine ⟨QaB _,h.y,?_⟩
  have e:((0-P.1)%p-(0-P.1))%p=0:=by rw [subL,Int.sub_self]; rfl
  refine zc2 h.c e (c:=1) (d:=-((0-P.1)%p+(0-P.1))-dN*(P.2*P.2)*((0-P.1)%p+(0-P.1))) ?_
  show cv ((0-P.1)%p) P.2=_
  unfold cv
  generalize (0-P.1)%p=q
  grind
theorem QmV {D X n:Int} (hD:D%p≠0) (h:(D*X-n)%p=0) (e:(n-D*1)%p=0):X%p=1%p:=by
  have:(D*(X-1))%p=0:=zc2 h e (c:=1) (d:=1) (by grind)
  exact QjW ((Qey this).resolve_left hD)
theorem QoB {x y q:Int} (h:onC x y) (hn:onC q y) (e:(q-(0-x))%p=0):aX x y q y=0∧aY x y q y=1:=by
  have fx:=Qdt h hn
  have fy:=QcA h hn
  have hX:=Qco (Qmx x y q y)
  have hY:=Qco (Qmw x y q y)
  have hc:=h
  unfold onC cv at hc
  have d1:=Qgv h hn
  have d2:=Qgl h hn
  generalize aX x y q y=X at *
  generalize aY x y q y=Y at *
  constructor
  · have:X%p=0:=by
      refine (Qey (a:=1+eps x y q y) ?_).resolve_left d1
      exact zc2 fx e (c:=1) (d:=y) (by grind)
    rwa [hX] at this
  · have:=QmV d2 fy (by
      refine zc2 hc e (c:=1) (d:=x+dN*(x*(y*y))) ?_
      unfold eps
      grind)
    rwa [hY] at this
theorem Qj2 {P : Int×Int} (h:OnP P):pAdd P (pNeg P)=QdH:=by
  have e:((0-P.1)%p-(0-P.1))%p=0:=by rw [subL,Int.sub_self]; rfl
  have r:=QoB h.c (QiL h).c e
  exact Prod.ext r.1 r.2
def nmul : Nat→Int×Int→Int×Int
  | 0,_=>QdH
  | n+1,P=>pAdd (nmul n P) P
theorem Qdn {P : Int×Int} (h:OnP P):∀ n,OnP (nmul n P)
  | 0=>Qhj
  | n+1=>Qo1 (Qdn h n) h
theorem QdJ {P : Int×Int} (h:OnP P) (m:Nat):∀ n,nmul (m+n) P=pAdd (nmul m P) (nmul n P)
  | 0=>(Qd5 (Qdn h m)).symm
  | n+1=>by
    show pAdd (nmul (m+n) P) P=pAdd (nmul m P) (pAdd (nmul n P) P)
    rw [QdJ h m n,Qg8 (Qdn h m) (Qdn h n) h]
theorem Qj7 {P : Int×Int} (h:OnP P):nmul 1 P=P:=by
  show pAdd QdH P=P
  rw [QfX,Qd5 h]
theorem Qie : ∀ n,nmul n QdH=QdH
  | 0=>rfl
  | n+1=>by
    show pAdd (nmul n QdH) QdH=QdH
    rw [Qie n,Qd5 Qhj]
theorem Qhq {P : Int×Int} (h:OnP P) (m:Nat):∀ n,nmul (n*m) P=nmul n (nmul m P)
  | 0=>by rw [Nat.zero_mul]; rfl
  | n+1=>by
    rw [Nat.succ_mul,QdJ h,Qhq h m n]
    rfl
theorem QmZ {P : Int×Int} (h:OnP P) (L:Nat) (hL:nmul L P=QdH) (n:Nat):nmul (n%L) P=nmul n P:=by
  have e:=Nat.div_add_mod n L
  have:nmul n P=pAdd (nmul (L*(n/L)) P) (nmul (n%L) P):=by rw [←QdJ h,e]
  rw [this,Nat.mul_comm,Qhq h,hL,Qie,QfX,Qd5 (Qdn h _)]
end Go.Proofs.YtmljnchhgkfemaaDoor.Field
end
section
namespace Go.Proofs.YtmljnchhgkfemaaDoor.Field
open Go Go.RowKit
open Rely Auto Ladder
set_option maxHeartbeats 4000000
def RepU (X Z y:Int):Prop:=(X+Z)%p≠0∧(X-Z-y*(X+Z))%p=0
theorem Qf6 {X Z y:Int} (h:RepU X Z y):RepU (X%p) (Z%p) y:=by
  refine ⟨by rw [addL,addR]; exact h.1,?_⟩
  have e1:(X%p-X)%p=0:=QiA (Int.emod_emod ..)
  have e2:(Z%p-Z)%p=0:=QiA (Int.emod_emod ..)
  exact zc4 h.2 e1 e2 (d:=0) rfl (k:=1) (l:=1-y) (m:=-1-y) (n:=0) (by grind)
theorem Qlg {O1 O2 c K S D y:Int} (h1:(c*(O1+O2)-K*S)%p=0) (h2:(c*(O1-O2)-K*D)%p=0) (h3:(D-y*S)%p=0) (hc:c%p≠0) (hK:K%p≠0) (hS:S%p≠0):RepU O1 O2 y:=by
  constructor
  · intro h
    have e:(K*S)%p=0:=zc2 h h1 (c:=c) (d:=-1) (by grind)
    exact Qbx hK hS e
  · have e:(c*(O1-O2-y*(O1+O2)))%p=0:=zc4 h1 h2 h3 (d:=0) rfl (k:=-y) (l:=1) (m:=K) (n:=0) (by grind)
    exact (Qey e).resolve_left hc
theorem Qqd (d x y u v b r:Int):2*(y*v)*(1+d*(x*u*(y*v)))*(1-d*(x*u*(y*v)))-(1-d*(x*u*(y*v)))*((1+d*(x*u*(y*v)))*b)*(y*y+v*v)-(1+d*(x*u*(y*v)))*((1-d*(x*u*(y*v)))*r)*(y*y+v*v-2*b*(y*v)) =
    (2*(y*v)*(d*(u*u*(v*v))+u*u))*(-(x*x)+y*y-1-d*(x*x*(y*y)))+(2*(y*v)*(y*y-1))*(-(u*u)+v*v-1-d*(u*u*(v*v)))
      + (-(1-d*(x*u*(y*v)))*(y*y+v*v)+2*(y*v)*((1-d*(x*u*(y*v)))*r))*((1+d*(x*u*(y*v)))*b-(y*v-x*u))+(-(1+d*(x*u*(y*v)))*(y*y+v*v)+2*(y*v)*(y*v-x*u))*((1-d*(x*u*(y*v)))*r-(y*v+x*u)):=by grind
theorem dadd {x y u v b X Z Y V w:Int} (h1:onC x y) (h2:onC u v) (hb:((1+eps x y u v)*b-(y*v-x*u))%p=0) (hp:(1+b)%p≠0) (hm:(1-b)%p≠0) (hw:(w*(1-b)-(1+b))%p=0) (r1:RepU X Z y) (r2:RepU Y V v) :
    RepU (((Y-V)*(X+Z)+(Y+V)*(X-Z))*((Y-V)*(X+Z)+(Y+V)*(X-Z))) (w*(((Y-V)*(X+Z)-(Y+V)*(X-Z))*((Y-V)*(X+Z)-(Y+V)*(X-Z)))) (aY x y u v):=by
  have h3:=QcA h1 h2
  have d1:=Qgv h1 h2
  have d2:=Qgl h1 h2
  generalize aY x y u v=r at *
  have hk:(2*(y*v)-b*(y*y+v*v)-r*(y*y+v*v-2*b*(y*v)))%p=0:=by
    have e:((1+eps x y u v)*(1-eps x y u v)*(2*(y*v)-b*(y*y+v*v)-r*(y*y+v*v-2*b*(y*v))))%p=0:=by
      refine zc4 h1 h2 hb h3 ((?_:_=_).trans (Qqd dN x y u v b r))
      unfold eps; grind
    exact (Qey e).resolve_left (Qbx d1 d2)
  have hS:(y*y+v*v-2*b*(y*v))%p≠0:=fun hs=>by
    have hd:(2*(y*v)-b*(y*y+v*v))%p=0:=zc2 hk hs (c:=1) (d:=r) (by grind)
    have q1:((1-b)*((y+v)*(y+v)))%p=0:=zc2 hs hd (c:=1) (d:=1) (by grind)
    have q2:((1+b)*((v-y)*(v-y)))%p=0:=zc2 hs hd (c:=1) (d:=-1) (by grind)
    have s1:(y+v)%p=0:=(Qey ((Qey q1).resolve_left hm)).elim id id
    have s2:(v-y)%p=0:=(Qey ((Qey q2).resolve_left hp)).elim id id
    have y0:y%p=0:=Qoi (zc2 s1 s2 (c:=1) (d:=-1) (by grind))
    have v0:v%p=0:=zc2 s2 y0 (c:=1) (d:=1) (by grind)
    have c1:(x*x+1)%p=0:=zc2 h1 y0 (c:=-1) (d:=y-dN*(x*x*y)) (by unfold cv; grind)
    have c2:(u*u+1)%p=0:=zc2 h2 v0 (c:=-1) (d:=v-dN*(u*u*v)) (by unfold cv; grind)
    have c3:(b+x*u)%p=0:=zc2 hb y0 (c:=1) (d:=v-dN*(x*u*v)*b) (by unfold eps; grind)
    have c4:((1-b)*(1+b))%p=0:=zc4 c1 c2 c3 (d:=0) rfl (k:=-(u*u)) (l:=1) (m:=x*u-b) (n:=0) (by grind)
    exact Qbx hm hp c4
  have hT:((X+Z)*(Y+V)*((X+Z)*(Y+V)))%p≠0:=Qbx (Qbx r1.1 r2.1) (Qbx r1.1 r2.1)
  have f1:=r1.2
  have f2:=r2.2
  have hA:((Y-V)*(X+Z)+(Y+V)*(X-Z)-(X+Z)*(Y+V)*(y+v))%p=0:=zc2 f1 f2 (c:=Y+V) (d:=X+Z) (by grind)
  have hB:((Y-V)*(X+Z)-(Y+V)*(X-Z)-(X+Z)*(Y+V)*(v-y))%p=0:=zc2 f1 f2 (c:=-(Y+V)) (d:=X+Z) (by grind)
  generalize (Y-V)*(X+Z)+(Y+V)*(X-Z)=A at *
  generalize (Y-V)*(X+Z)-(Y+V)*(X-Z)=B at *
  generalize (X+Z)*(Y+V)=M at *
  refine Qlg (c:=1-b) (K:=M*M*2) (S:=y*y+v*v-2*b*(y*v)) (D:=2*(y*v)-b*(y*y+v*v)) ?_ ?_ hk hm (Qbx hT (by decide)) hS
  · exact zc4 hA hB hw (d:=0) rfl (k:=(1-b)*(A+M*(y+v))) (l:=(1+b)*(B+M*(v-y))) (m:=B*B) (n:=0) (by grind)
  · exact zc4 hA hB hw (d:=0) rfl (k:=(1-b)*(A+M*(y+v))) (l:=-(1+b)*(B+M*(v-y))) (m:=-(B*B)) (n:=0) (by grind)
theorem QqG : (dN*121666+121665)%p=0:=by decide +kernel
theorem QoV (d x y:Int):(1-d*(x*x*(y*y)))*(2*(y*y)-1-121665*((1-y*y)*(1-y*y)))-(y*y+x*x)*(1+121665*((1-y*y)*(1-y*y))) =
    (2*(1-y*y)*121666+(2*(y*y)-1-121665*((1-y*y)*(1-y*y))))*(-(x*x)+y*y-1-d*(x*x*(y*y)))+(2*(1-y*y)*(x*x*(y*y)))*(d*121666+121665):=by grind
theorem ddbl {x y X Z:Int} (h1:onC x y) (r1:RepU X Z y) :
    RepU ((X+Z)*(X+Z)*((X-Z)*(X-Z))) (((X+Z)*(X+Z)-(X-Z)*(X-Z))*((X+Z)*(X+Z)+((X+Z)*(X+Z)-(X-Z)*(X-Z))*121665)) (aY x y x y):=by
  have h3:=QcA h1 h1
  have d2:=Qgl h1 h1
  generalize aY x y x y=r at *
  have g1:((1-eps x y x y)*(2*(y*y)-1-121665*((1-y*y)*(1-y*y)))-(y*y+x*x)*(1+121665*((1-y*y)*(1-y*y))))%p=0:=zc2 h1 QqG ((QoV dN x y).trans rfl)
  have hk:((2*(y*y)-1-121665*((1-y*y)*(1-y*y)))-r*(1+121665*((1-y*y)*(1-y*y))))%p=0:=by
    have e:((1-eps x y x y)*((2*(y*y)-1-121665*((1-y*y)*(1-y*y)))-r*(1+121665*((1-y*y)*(1-y*y)))))%p=0:=zc2 g1 h3 (c:=1) (d:=-(1+121665*((1-y*y)*(1-y*y)))) (by grind)
    exact (Qey e).resolve_left d2
  have hS:(1+121665*((1-y*y)*(1-y*y)))%p≠0:=fun hs=>by
    have hd:(2*(y*y)-1-121665*((1-y*y)*(1-y*y)))%p=0:=zc2 hk hs (c:=1) (d:=r) (by grind)
    have hy:(2*(y*y))%p=0:=zc2 hs hd (c:=1) (d:=1) (by grind)
    have y0:y%p=0:=(Qey (Qoi hy)).elim id id
    have:(121666:Int)%p=0:=zc2 hs y0 (c:=1) (d:=121665*(2*y-y*y*y)) (by grind)
    exact absurd this (by decide)
  have f1:=r1.2
  have hq:((X-Z)*(X-Z)-y*y*((X+Z)*(X+Z)))%p=0:=zc1 f1 (c:=(X-Z)+y*(X+Z)) (by grind)
  have hT:((X+Z)*(X+Z)*((X+Z)*(X+Z)))%p≠0:=Qbx (Qbx r1.1 r1.1) (Qbx r1.1 r1.1)
  generalize (X-Z)*(X-Z)=q at *
  generalize (X+Z)*(X+Z)=s at *
  refine Qlg (c:=1) (K:=s*s) (S:=1+121665*((1-y*y)*(1-y*y))) (D:=2*(y*y)-1-121665*((1-y*y)*(1-y*y))) ?_ ?_ hk (by decide) hT hS
  · exact zc1 hq (c:=s-(s+2*121665*s*(1-y*y)-121665*(q-y*y*s))) (by grind)
  · exact zc1 hq (c:=s+(s+2*121665*s*(1-y*y)-121665*(q-y*y*s))) (by grind)
end Go.Proofs.YtmljnchhgkfemaaDoor.Field
end
section
namespace Go.Proofs.YtmljnchhgkfemaaDoor.Field
open Go Go.RowKit
open Rely Auto Ladder
set_option maxHeartbeats 4000000
structure Qi5 (w : Int) (B : Int × Int) : Prop where
  on:OnP B
  p1:(1+B.2)%p≠0
  m1:(1-B.2)%p≠0
  hw:(w*(1-B.2)-(1+B.2))%p=0
theorem Qmh {B : Int×Int} (hB:OnP B) (n:Nat):((1+eps (nmul n B).1 (nmul n B).2 (nmul (n+1) B).1 (nmul (n+1) B).2)*B.2-((nmul n B).2*(nmul (n+1) B).2-(nmul n B).1*(nmul (n+1) B).1))%p=0:=by
  have hP:=Qdn hB n
  have hQ:=Qdn hB (n+1)
  have hd:pAdd (nmul (n+1) B) (pNeg (nmul n B))=B:=by
    show pAdd (pAdd (nmul n B) B) (pNeg (nmul n B))=B
    rw [QfX (nmul n B) B,Qg8 hB hP (QiL hP),Qj2 hP,Qd5 hB]
  generalize nmul (n+1) B=Q at *
  generalize nmul n B=P at *
  have f:=QcA hQ.c (QiL hP).c
  have hy:aY Q.1 Q.2 (pNeg P).1 (pNeg P).2=B.2:=congrArg Prod.snd hd
  rw [hy] at f
  have e:((0-P.1)%p-(0-P.1))%p=0:=by rw [subL,Int.sub_self]; rfl
  refine zc2 f e (c:=1) (d:=dN*(Q.1*Q.2*P.2)*B.2+Q.1) ?_
  show (1+dN*(P.1*Q.1*(P.2*Q.2)))*B.2-(P.2*Q.2-P.1*Q.1)=1*((1-dN*(Q.1*((0-P.1)%p)*(Q.2*P.2)))*B.2-(Q.2*P.2+Q.1*((0-P.1)%p)))+_
  generalize (0-P.1)%p=q
  grind
def bvf (n : Nat) (bs:List Bool):Nat:=bs.foldl (fun n b=>2*n+if b then 1 else 0) n
def Near (B : Int×Int) (n:Nat) (s:LSt):Prop:=RepU s.1 s.2.1 (nmul n B).2∧RepU s.2.2.1 s.2.2.2 (nmul (n+1) B).2
theorem Ql3 {w : Int} {B:Int×Int} (hB:Qi5 w B) {n:Nat} {s:LSt} (b:Bool) (h:Near B n s):Near B (2*n+if b then 1 else 0) (rung w s b):=by
  obtain ⟨X,Z,Y,V⟩:=s
  obtain ⟨h1,h2⟩:=h
  have hP:=Qdn hB.on n
  have hQ:=Qdn hB.on (n+1)
  have hd:=Qmh hB.on n
  have a1:(nmul (2*n) B).2=aY (nmul n B).1 (nmul n B).2 (nmul n B).1 (nmul n B).2:=by rw [Nat.two_mul,QdJ hB.on]; rfl
  have a2:(nmul (2*n+1) B).2=aY (nmul n B).1 (nmul n B).2 (nmul (n+1) B).1 (nmul (n+1) B).2:=by rw [show 2*n+1=n+(n+1) by omega,QdJ hB.on]; rfl
  have a3:(nmul (2*n+1+1) B).2=aY (nmul (n+1) B).1 (nmul (n+1) B).2 (nmul (n+1) B).1 (nmul (n+1) B).2:=by rw [show 2*n+1+1=(n+1)+(n+1) by omega,QdJ hB.on]; rfl
  generalize nmul (n+1) B=Q at *
  generalize nmul n B=P at *
  cases b with
  | false =>
    simp only [rung,Bool.false_eq_true,if_false,Qch]
    refine ⟨?_,?_⟩
    · show RepU _ _ (nmul (2*n+0) B).2
      rw [Nat.add_zero,a1]
      exact Qf6 (ddbl hP.c h1)
    · show RepU _ _ (nmul (2*n+0+1) B).2
      rw [Nat.add_zero,a2]
      exact Qf6 (dadd hP.c hQ.c hd hB.p1 hB.m1 hB.hw h1 h2)
  | true =>
    have hd':((1+eps Q.1 Q.2 P.1 P.2)*B.2-(Q.2*P.2-Q.1*P.1))%p=0:=by
      rw [Qh1,Int.mul_comm Q.2,Int.mul_comm Q.1]; exact hd
    simp only [rung,if_true,Qch]
    refine ⟨?_,?_⟩
    · show RepU _ _ (nmul (2*n+1) B).2
      rw [a2,←Qjp]
      exact Qf6 (dadd hQ.c hP.c hd' hB.p1 hB.m1 hB.hw h2 h1)
    · show RepU _ _ (nmul (2*n+1+1) B).2
      rw [a3]
      exact Qf6 (ddbl hQ.c h2)
theorem Qig {w : Int} {B:Int×Int} (hB:Qi5 w B):∀ (bs:List Bool) (n:Nat) (s:LSt),Near B n s→Near B (bvf n bs) (bs.foldl (rung w) s)
  | [],n,s,h=>h
  | b::bs,n,s,h=>Qig hB bs _ _ (Ql3 hB b h)
theorem Qkv {w : Int} {B:Int×Int} (hB:Qi5 w B):Near B 0 (1,0,w,1):=by
  refine ⟨(show RepU 1 0 1 from ⟨by decide,by decide⟩),?_⟩
  show RepU w 1 (nmul 1 B).2
  rw [Qj7 hB.on]
  refine ⟨fun h=>?_,zc1 hB.hw (c:=1) (by grind)⟩
  have:(2:Int)%p=0:=zc2 hB.hw h (c:=-1) (d:=1-B.2) (by grind)
  exact absurd this (by decide)
theorem Qg0 {w : Int} {B:Int×Int} (hB:Qi5 w B) (bs:List Bool):Near B (bvf 0 bs) (rungs w bs):=Qig hB bs 0 _ (Qkv hB)
def uP (y : Int):Int:=(1+y)*invN ((1-y)%p)%p
def Qk6 : Int:=28948022309329048855892746252171976963317496166410141009864396001978282409975
theorem QlQ : (2*Qk6-1)%p=0:=by decide +kernel
theorem Qoq {X Z y:Int} (h:RepU X Z y) (hX:isN X) (hZ:isN Z):X*invN Z%p=uP y:=by
  have hl:((X+Z)*Qk6)%p≠0:=Qbx h.1 (by decide +kernel)
  have e1:X%p=(X+Z)*Qk6*(1+y)%p:=QjW (zc2 QlQ h.2 (c:=-X) (d:=Qk6) (by grind))
  have e2:Z%p=(X+Z)*Qk6*(1-y)%p:=QjW (zc2 QlQ h.2 (c:=-Z) (d:=-Qk6) (by grind))
  rw [Qco hX,←modR] at e1
  rw [Qco hZ,←modR] at e2
  have:=QnR hl (QaB (1+y)) (QaB (1-y))
  rw [←e1,←e2,modL] at this
  exact this
theorem QnH (y : Int):isN (uP y):=QaB _
theorem Qg9 {w : Int} {B:Int×Int} (hB:Qi5 w B) (hw:isN w) (bs:List Bool):outN w (rungs w bs)=uP (nmul (bvf 0 bs) B).2:=by
  have hL:=QdV w hw bs
  exact Qoq (Qg0 hB bs).1 hL.1 hL.2.1
theorem QnA {P : Int×Int} (h:OnP P) (hp:(1+P.2)%p≠0) (hm:(1-P.2)%p≠0):Qi5 (uP P.2) P:=by
  refine ⟨h,hp,hm,?_⟩
  have h1:=Qk4 hm
  have h2:(uP P.2-(1+P.2)*invN ((1-P.2)%p))%p=0:=QiA (Int.emod_emod ..)
  exact zc2 h1 h2 (c:=1+P.2) (d:=1-P.2) (by grind)
theorem Qqo {y : Int} (hp:(1+y)%p≠0) (hm:(1-y)%p≠0):uP y≠0:=by
  refine Qbx hp fun e=>?_
  have h1:=Qk4 hm
  rw [←subL,←modR,e,Int.mul_zero] at h1
  exact absurd h1 (by decide)
theorem QnG {P : Int×Int} (h:OnP P) (hy:(P.2*P.2-1)%p=0):P.1=0:=by
  have e:((1+dN)*(P.1*P.1))%p=0:=zc2 h.c hy (c:=-1) (d:=1-dN*(P.1*P.1)) (by unfold cv; grind)
  have:=(Qey ((Qey e).resolve_left (by decide +kernel))).elim id id
  rwa [Qco h.x] at this
theorem Qpi {P : Int×Int} (h:OnP P) (hy:(1-P.2)%p=0):P=QdH:=by
  refine Prod.ext (QnG h (zc1 hy (c:=-(1+P.2)) (by grind))) ?_
  have:P.2%p=1%p:=QjW (zc1 hy (c:=-1) (by grind))
  rw [Qco h.y] at this
  exact this
theorem Qoc {P : Int×Int} (h:OnP P) (hy:(1+P.2)%p=0):pAdd P P=QdH:=by
  have hx:=QnG h (zc1 hy (c:=P.2-1) (by grind))
  have e:pNeg P=P:=Prod.ext (by show (0-P.1)%p=P.1; rw [hx]; rfl) rfl
  have:=Qj2 h
  rwa [e] at this
def B9 : Int×Int:=(15112221349535400772501151409588531511454012693041857206046113283949847762202,46316835694926478169428394003475163141307993866256225615783033603165251855960)
theorem Qei : Qi5 9 B9:=⟨⟨⟨by decide,by decide⟩,⟨by decide,by decide⟩,by unfold onC; decide +kernel⟩,by decide +kernel,by decide +kernel,by decide +kernel⟩
def ladZ (u e:Nat):Nat→Nat→Nat→Nat→Nat→Nat
  | 0,x,z,y,v=>z
  | f+1,x,z,y,v=>bif Nat.beq (e/2^f%2) 1 then lsN (fun a b c d=>ladZ u e f c d a b) u y v x z else lsN (fun a b c d=>ladZ u e f a b c d) u x z y v
theorem Qgf (u e:Nat):∀ (f x z y v:Nat),x<PN→z<PN→y<PN→v<PN→((ladZ u e f x z y v:Nat):Int)=((Qc9 e f).foldl (rung u) ((x:Int),(z:Int),(y:Int),(v:Int))).2.1
  | 0,x,z,y,v,hx,hz,hy,hv=>rfl
  | f+1,x,z,y,v,hx,hz,hy,hv=>by
    rw [ladZ,Qc9,List.foldl_cons]
    cases Nat.beq (e/2^f%2) 1 with
    | true =>
      rw [_root_.cond_true]
      obtain ⟨a,b,c,d,ha,hb,hc,hd,h1,h2⟩:=Qhu (fun a b c d=>ladZ u e f c d a b) u y v x z hy hv hx hz
      rw [h1]
      simp only [rung,if_true,h2]
      exact Qgf u e f c d a b hc hd ha hb
    | false =>
      rw [_root_.cond_false]
      obtain ⟨a,b,c,d,ha,hb,hc,hd,h1,h2⟩:=Qhu (fun a b c d=>ladZ u e f a b c d) u x z y v hx hz hy hv
      rw [h1]
      simp only [rung,Bool.false_eq_true,if_false,h2]
      exact Qgf u e f a b c d ha hb hc hd
def LN : Nat:=7237005577332262213973186563042994240857116359379907606001950938285454250989
theorem QiN : ladZ 9 LN 253 1 0 9 1=0:=by decide +kernel
theorem Qhk : bvf 0 (Qc9 LN 253)=LN:=by decide +kernel
theorem Qo9 (L : Nat) (QiN:ladZ 9 L 253 1 0 9 1=0) (Qhk:bvf 0 (Qc9 L 253)=L):nmul L B9=QdH:=by
  have h:=(Qg0 Qei (Qc9 L 253)).1
  have hz:(rungs 9 (Qc9 L 253)).2.1=0:=by
    have:=Qgf 9 L 253 1 0 9 1 (by decide) (by decide) (by decide) (by decide)
    rw [QiN] at this
    exact this.symm
  rw [hz,Qhk] at h
  refine Qpi (Qdn Qei.on L) ?_
  have e:((rungs 9 (Qc9 L 253)).1*(1-(nmul L B9).2))%p=0:=zc1 h.2 (c:=1) (by grind)
  refine (Qey e).resolve_left fun q=>h.1 ?_
  rw [Int.add_zero]; exact q
theorem Qo8 : nmul LN B9=QdH:=Qo9 LN QiN Qhk
theorem QoS {P : Int×Int} (h:OnP P):∀ m n,nmul m P=QdH→nmul n P=QdH→nmul (Nat.gcd m n) P=QdH:=by
  intro m n
  induction m,n using Nat.gcd.induction with
  | H0 n=>intro _ h; simpa using h
  | H1 m n hm ih =>
    intro h1 h2
    rw [Nat.gcd_rec]
    refine ih ?_ h1
    rw [QmZ h m h1]; exact h2
theorem QjS : Prime.IsP LN:=Prime.q7237005577332262213973186563042994240857116359379907606001950938285454250989
theorem Qly {m : Nat} (h:nmul m B9=QdH):LN ∣ m:=by
  have hg:=QoS Qei.on LN m Qo8 h
  rcases QjS.2 (Nat.gcd LN m) (Nat.gcd_dvd_left LN m) with e | e
  · rw [e,Qj7 Qei.on] at hg
    exact absurd (congrArg Prod.fst hg) (by decide)
  · rw [←e]; exact Nat.gcd_dvd_right LN m
theorem QjT {a b:Nat} (h:LN ∣ a*b):LN ∣ a∨LN ∣ b:=by
  rcases QjS.2 (Nat.gcd LN a) (Nat.gcd_dvd_left LN a) with hg | hg
  · right
    have hc:Nat.Coprime LN a:=hg
    exact hc.dvd_of_dvd_mul_left h
  · left
    rw [←hg]
    exact Nat.gcd_dvd_right LN a
theorem good {N : Nat} (h:¬ LN ∣ 2*N):Qi5 (uP (nmul N B9).2) (nmul N B9):=by
  have on:=Qdn Qei.on N
  have e2:nmul (2*N) B9=pAdd (nmul N B9) (nmul N B9):=by rw [Nat.two_mul,QdJ Qei.on]
  refine QnA on (fun hp=>h (Qly ?_)) (fun hm=>h (Qly ?_))
  · rw [e2]; exact Qoc on hp
  · rw [e2,Qpi on hm]; exact Qd5 Qhj
def QkA (xs : List Int):List Bool:=((Qbt (clamp xs)).drop 1).take (255-0)
def cN (xs : List Int):Nat:=bvf 0 (QkA xs)
theorem Qev (n : Nat) (bs:List Bool) (b:Bool):bvf n (bs++[b])=2*bvf n bs+if b then 1 else 0:=by unfold bvf; rw [List.foldl_append]; rfl
theorem Qi0 : ∀ (bs:List Bool) (n:Nat),n*2^bs.length≤bvf n bs∧bvf n bs<(n+1)*2^bs.length
  | [],n=>by simp [bvf]
  | b::bs,n=>by
    have h:=Qi0 bs (2*n+if b then 1 else 0)
    have e:bvf n (b::bs)=bvf (2*n+if b then 1 else 0) bs:=rfl
    rw [e,List.length_cons,Nat.pow_succ]
    have hb:(if b=true then 1 else 0)≤1:=by split <;> omega
    generalize (if b=true then 1 else 0)=c at *
    generalize 2^bs.length=q at *
    constructor
    · refine qT ?_ h.1
      rw [Nat.mul_comm q 2,←Nat.mul_assoc,Nat.mul_comm n 2]
      exact Nat.mul_le_mul_right q (by omega)
    · refine qL h.2 ?_
      rw [Nat.mul_comm q 2,←Nat.mul_assoc]
      exact Nat.mul_le_mul_right q (by omega)
theorem Qgn (xs : List Int) (hx:xs.length=32) (j:Nat) (hj:j<3):bitB (clamp xs) j=false:=by
  have h0:nth (clamp xs) 0=nth xs 0/8*8:=by unfold clamp; rw [Ladder.nth_set_ne _ _ _ _ (by decide),Qer _ _ _ (by omega)]
  unfold bitB QdO
  rw [show j/8=0 by omega,h0]
  rcases (show j=0∨j=1∨j=2 by omega) with rfl | rfl | rfl
  · have:nth xs 0/8*8/2^(0%8)%2=0:=by rw [show (2:Int)^(0%8)=1 from rfl]; omega
    rw [this]; rfl
  · have:nth xs 0/8*8/2^(1%8)%2=0:=by rw [show (2:Int)^(1%8)=2 from rfl]; omega
    rw [this]; rfl
  · have:nth xs 0/8*8/2^(2%8)%2=0:=by rw [show (2:Int)^(2%8)=4 from rfl]; omega
    rw [this]; rfl
theorem QpT (xs : List Int) (hx:xs.length=32) (hb:Qag xs):∃ m,cN xs=8*m∧2^251≤m∧m<2^252:=by
  obtain ⟨h255,h254⟩:=QgL xs hx hb
  have hc:=QgO (clamp xs)
  rw [h255,h254] at hc
  have hd:QkA xs=true::(Qbt (clamp xs)).drop 2:=by
    unfold QkA
    rw [List.take_of_length_le (by simp [Qd9])]
    conv=>lhs; rw [hc]
    rfl
  have t0:=Qew (clamp xs) 0 (by decide)
  have t1:=Qew (clamp xs) 1 (by decide)
  have t2:=Qew (clamp xs) 2 (by decide)
  rw [Qgn xs hx 0 (by decide)] at t0
  rw [Qgn xs hx 1 (by decide)] at t1
  rw [Qgn xs hx 2 (by decide)] at t2
  have hl:(Qbt (clamp xs)).length=256:=Qd9 _
  have e:QkA xs=((Qbt (clamp xs)).take 253).drop 1++[false]++[false]++[false]:=by
    unfold QkA
    rw [List.take_of_length_le (by simp [Qd9])]
    have e1:Qbt (clamp xs)=(Qbt (clamp xs)).take 253++[false]++[false]++[false]:=by
      have q:(Qbt (clamp xs)).take (256-0)=Qbt (clamp xs):=List.take_of_length_le (by omega)
      rw [q] at t0
      conv=>lhs; rw [t0,show 256-(0+1)=256-1 from rfl,t1,show 256-(1+1)=256-2 from rfl,t2]
    have hl2:((Qbt (clamp xs)).take 253).length=253:=by rw [List.length_take]; omega
    conv=>lhs; rw [e1]
    rw [List.drop_append_of_le_length (by simp only [List.length_append]; omega),List.drop_append_of_le_length (by simp only [List.length_append]; omega),List.drop_append_of_le_length (by omega)]
  have hr:2^254≤cN xs∧cN xs<2^255:=by
    unfold cN
    rw [hd]
    have h1:=Qi0 ((Qbt (clamp xs)).drop 2) 1
    have hl3:((Qbt (clamp xs)).drop 2).length=254:=by rw [List.length_drop,hl]
    rw [hl3] at h1
    have e2:∀ l,bvf 0 (true::l)=bvf 1 l:=fun _=>rfl
    rw [e2]
    omega
  refine ⟨bvf 0 (((Qbt (clamp xs)).take 253).drop 1),?_,?_,?_⟩
  · unfold cN
    rw [e,Qev,Qev,Qev]
    simp only [Bool.false_eq_true,if_false]
    omega
  all_goals
    have q:cN xs=8*bvf 0 (((Qbt (clamp xs)).take 253).drop 1):=by
      unfold cN
      rw [e,Qev,Qev,Qev]
      simp only [Bool.false_eq_true,if_false]
      omega
    omega
theorem QpU (xs : List Int) (hx:xs.length=32) (hb:Qag xs):¬ LN ∣ cN xs:=fun h=>by
  obtain ⟨m,e,h1,h2⟩:=QpT xs hx hb
  rw [e] at h
  have two:¬ LN ∣ 2:=fun q=>by have:=Nat.le_of_dvd (by decide) q; exact absurd this (by decide)
  have hm:LN ∣ m:=by
    rcases QjT (a:=8) h with q | q
    · rw [show (8:Nat)=2*(2*2) from rfl] at q
      rcases QjT q with q | q
      · exact absurd q two
      · rcases QjT q with q | q <;> exact absurd q two
    · exact q
  have:=Nat.le_of_dvd (qL (by decide) h1) hm
  unfold LN at this
  omega
theorem QiT {xs : List Int} {N:Nat} (hx:xs.length=32) (hb:Qag xs) (h:¬ LN ∣ 2*N):¬ LN ∣ 2*(cN xs*N):=fun q=>by
  rw [Nat.mul_left_comm] at q
  rcases QjT q with q | q
  · exact QpU xs hx hb q
  · exact h q
theorem Ql1 : ¬ LN ∣ 2*1:=fun q=>by have:=Nat.le_of_dvd (by decide) q; exact absurd this (by decide)
theorem Ql9 (a B:Int) (hB:0<B):a%B+B*(a/B%256)=a%(B*256):=by
  have e1:=Int.emod_add_mul_ediv a B
  have e2:=Int.emod_add_mul_ediv (a/B) 256
  have r0:=Int.emod_nonneg a (show B≠0 by omega)
  have r1:=Int.emod_lt_of_pos a hB
  have s0:=Int.emod_nonneg (a/B) (show (256:Int)≠0 by decide)
  have s1:=Int.emod_lt_of_pos (a/B) (show (0:Int)<256 by decide)
  generalize a%B=r at *
  generalize a/B%256=s at *
  generalize a/B/256=t at *
  generalize a/B=q at *
  have e3:a=(r+B*s)+B*256*t:=by rw [←e1,←e2]; grind
  have m1:B*s≤B*255:=Int.mul_le_mul_of_nonneg_left (by omega) (by omega)
  have m2:0≤B*s:=Int.mul_nonneg (by omega) s0
  rw [e3,Int.add_mul_emod_self_left]
  exact (Int.emod_eq_of_lt (by omega) (by omega)).symm
theorem Qip (n : Int):∀ k,k≤32→leAt (Qay n) 0 k=n%256^k
  | 0,_=>by simp [leAt,Int.emod_one]
  | k+1,hk=>by
    have q:nth (Qay n) (0+k)=QaE n k:=by unfold nth Qay part; simp [show k<32 by omega]
    rw [leAt,Qip n k (by omega),q,Int.pow_succ,←Ql9 _ _ (Int.pow_pos (by decide))]
    unfold QaE
    rw [Int.mul_comm (n/256^k%256)]
theorem keyNum_bytes {n : Int} (h:isN n):Qft (Qay n)=n:=by
  unfold Qft
  rw [Qip n 32 (qR _),show (256:Int)^32=115792089237316195423570985008687907853269984665640564039457584007913129639936 from rfl]
  have h1:=h.1
  have h2:=h.2
  unfold p at *
  omega
theorem bytesOf_areBytes (n : Int):Qag (Qay n):=fun v hv=>by
  unfold Qay part at hv
  obtain ⟨i,-,rfl⟩:=List.mem_map.1 hv
  split
  · unfold QaE; omega
  · omega
theorem Qgm (u : Int) (xs:List Int):crungs u (clamp xs) 0=rungs u (QkA xs):=rfl
theorem QnN (xs : List Int):pubL xs=Qay (uP (nmul (cN xs*1) B9).2):=by
  unfold pubL
  rw [Qgm,Qg9 Qei Qhr,Nat.mul_one]
  rfl
theorem Qqc (xs : List Int) {N:Nat} (h:¬ LN ∣ 2*N):agN xs (Qay (uP (nmul N B9).2))=uP (nmul (cN xs*N) B9).2:=by
  unfold agN
  rw [keyNum_bytes (QnH _),Qgm,Qg9 (good h) (QnH _),Qhq Qei.on]
  rfl
theorem QqM {N : Nat} (h:¬ LN ∣ 2*N):(uP (nmul N B9).2==0)=false:=by
  have:=Qqo (good h).p1 (good h).m1
  simpa using this
theorem Qds {xs ys:List Int} (hx:xs.length=32) (hb:Qag xs) (hy:ys.length=32) (hc:Qag ys):agN xs (pubL ys)=agN ys (pubL xs)∧(agN xs (pubL ys)==0)=false:=by
  have n1:=QiT hx hb Ql1
  have n2:=QiT hy hc Ql1
  rw [QnN,QnN,Qqc xs n2,Qqc ys n1]
  refine ⟨?_,QqM (QiT hx hb n2)⟩
  rw [Nat.mul_one,Nat.mul_one,Nat.mul_comm]
end Go.Proofs.YtmljnchhgkfemaaDoor.Field
end
end
section
namespace Go.Proofs.YtmljnchhgkfemaaDoor.Bx
open Go Go.RowKit
open Rely Auto Own Sha
open Cha
open Ae hiding run_storeQ run_sap
open Field (Qay pubL agN Qa2 Qds QaR)
structure Tabs (tc tq th tr : TypeId) (w : World) : Prop where
  c:w.heap[1]? = some (.cells (ints .u64 Qca) tc)
  q:w.heap[0]? = some (.cells (ints .u64 Qbj) tq)
  h:w.heap[2]? = some (.cells (ints .u32 qH) th)
  r:w.heap[3]? = some (.cells (ints .i64 qQ) tr)
theorem Tabs.ext {tc tq th tr:TypeId} {w W:World} (h:Tabs tc tq th tr w) (e:Ext w W):Tabs tc tq th tr W:=⟨Qaa h.c e,Qaa h.q e,Qaa h.h e,Qaa h.r e⟩
@[irreducible] def keyV (sh dr pu info : List Int) : List Int := kx (hmac [] sh) (infoL (strB ⟨#[98, 111, 120]⟩) (dr ++ pu ++ dig info) 32) 32
theorem Qcm (sh dr pu info:List Int):(keyV sh dr pu info).length=32:=by unfold keyV; exact Qgg _ _ _
theorem QpN (sh dr pu info:List Int) (a_info:Option Addr) (c_info B:Nat) (hs:sh.length=32) (hsb:Qag sh) (hd:dr.length=32) (hdb:Qag dr) (hp:pu.length=32) (hpb:Qag pu) (hil:info.length≤65536) (hib:Qag info) (tc tq th tr:TypeId) (w:World) (hT:Tabs tc tq th tr w) (hi:RdK .u8 B info (.slice a_info info.length c_info) w):Calls Tryd.prog 14 #[.agg (ints .u8 sh),.agg (ints .u8 dr),.agg (ints .u8 pu),.slice a_info info.length c_info] w (Ret w (.tuple #[.agg (ints .u8 (kx (hmac [] sh) (infoL (strB ⟨#[98,111,120]⟩) (dr++pu++dig info) 32) 32)),.nilIface])):=by
  refine enter 41 [(0,.agg (ints .u8 (sh))),(1,.agg (ints .u8 (dr))),(2,.agg (ints .u8 (pu))),(3,.slice a_info info.length c_info)] Tryd.func14 rfl rfl kj rfl <| sgC fun K1 hK1=>Qaj (ints .u8 (sh)) 23 4 rfl kj kj fun g2 W1 l2 e1 r2_1=>?_
  have x1:=Ext.tr (Rely.Ext.refl w) e1
  have b2:=qT (Rely.Ext.refl w).size l2
  refine Qaj (ints .u8 (dr)) 23 5 rfl kj kj fun g3 W2 l3 e2 r3_2=>?_
  have x2:=Ext.tr x1 e2
  have b3:=qT x1.size l3
  refine Qaj (ints .u8 (pu)) 23 6 rfl kj kj fun g4 W3 l4 e3 r4_3=>?_
  have x3:=Ext.tr x2 e3
  have b4:=qT x2.size l4
  refine Qaj (ints .u8 (List.replicate 32 0)) 23 8 rfl kj kj fun g5 W4 l5 e4 r5_4=>?_
  have x4:=Ext.tr x3 e4
  refine sg 1 kj <| sgN hK1 <| sgC fun K6 hK6=>sg 1 kj <| Qbw (#[.slice a_info info.length c_info]) 24 1 15 rfl kj kj fun g7 W5 l7 e5 r7_5=>?_
  have x5:=Ext.tr x4 e5
  have b7:=qT x4.size l7
  have hps8:∀ p∈([(.slice a_info info.length c_info,info)]:List (Value×List Int)),RdK .u8 W5.heap.size p.2 p.1 W5∧Qag p.2:=by
    intro p hp
    simp only [List.mem_cons,List.not_mem_nil,or_false] at hp
    subst hp
    exact ⟨RdK.here (RdK.ext hi x5),hib⟩
  have hsh8:=QkW g7 1 _ ([(.slice a_info info.length c_info,info)]:List (Value×List Int)) rfl (by decide) tc tq W5 (hT.ext x5).c (hT.ext x5).q r7_5 hps8 (by simp only [List.map_cons,List.map_nil,List.flatten_cons,List.flatten_nil,List.append_nil]; omega)
  rw [show ((List.map Prod.snd ([(.slice a_info info.length c_info,info)]:List (Value×List Int))).flatten)=info by simp only [List.map_cons,List.map_nil,List.flatten_cons,List.flatten_nil,List.append_nil]] at hsh8
  refine Qao (.agg (ints .u8 (dig info))) 27 #[.slice (some ⟨g7,0,none⟩) 1 1] 16 rfl kj kj hsh8 fun W6 e6=>?_
  have x6:=Ext.tr x5 e6
  refine Qaj (ints .u8 (List.replicate 32 0)) 61 10 rfl kj kj fun g9 W7 l9 e7 r9_7=>Qah g9 _ (ints .u8 (dig info)) 61 r9_7 rfl kj (Qaf 61 _ _ g9 61 _ _ r9_7 rfl kj kj (isz (n:=32) kj ((Qac _ _).trans (Qbz info))) (eqsz (n:=32) ((Qac _ _).trans (qZ (n:=32))) ((Qac _ _).trans (Qbz info))) (ints_one _ _)) fun W8 p8 r9_8=>?_
  have x8:=Puts.ext p8 (Ext.tr x6 e7) (qT x6.size l9)
  refine sgN hK6 <| sgC fun K10 hK10=>QkY 5 96 17 rfl kj (by decide) (Qg2 (k:=.u8) 24 _ _ .i64 .i64 96 5 rfl kj kj kj kj (by decide)) fun vm W9 hm e9=>sg 1 kj <| sgN hK10 <| sgC fun K11 hK11=>sg 2 kj ?_
  have r3_6:=(Qaa (Qaa (Qaa (Qaa r3_2 e3) e4) e5) e6)
  have r3_9:=(Qaa (Puts.row p8 (Qaa r3_6 e7) (Qab r3_6 l9)) e9)
  refine QbO (k:=.u8) (T:=5) (xs:=[]) (ys:=dr) (V:=W8) 1 (.tmp 18) (.tmp 19) 24 rfl kj kj (by decide) 20 rfl kj kj kj hm (QbB (xs:=dr) (n:=32) hd r3_9 (Qa4 r3_9) (show 32≤maxLen from by decide)) (by simp only [List.length_append,List.length_nil,hd,hp,Qbz]; decide) (Rely.Ext.trans (Rely.Ext.refl W8) e9) fun ap12 W10 f13 y10 l10=>?_
  have hu12:OwnN .u8 5 W8.heap.size (dr) ap12 W10:=by have h:=f13; rwa [List.nil_append] at h
  refine sg 1 kj <| sgN hK11 <| sgC fun K14 hK14=>sg 2 kj ?_
  have r4_6:=(Qaa (Qaa (Qaa r4_3 e4) e5) e6)
  have r4_8:=(Puts.row p8 (Qaa r4_6 e7) (Qab r4_6 l9))
  have r4_10:=(Qb7 l10 (Qaa r4_8 e9) (Qa4 r4_8))
  refine QbO (k:=.u8) (T:=5) (xs:=dr) (ys:=pu) (V:=W8) 1 (.tmp 21) (.tmp 22) 24 rfl kj kj (by decide) 23 rfl kj kj kj hu12 (QbB (xs:=pu) (n:=32) hp r4_10 (Qa4 r4_10) (show 32≤maxLen from by decide)) (by simp only [List.length_append,List.length_nil,hd,hp,Qbz]; decide) y10 fun ap15 W11 f16 y11 l11=>?_
  refine sg 1 kj <| sgN hK14 <| sgC fun K17 hK17=>sg 2 kj ?_
  have r9_11:=(Qb7 l11 (Qb7 l10 (Qaa r9_8 e9) (Qa4 r9_8)) (Qa4 r9_8))
  refine QbO (k:=.u8) (T:=5) (xs:=dr++pu) (ys:=dig info) (V:=W8) 1 (.tmp 24) (.tmp 25) 24 rfl kj kj (by decide) 26 rfl kj kj kj f16 (QbB (xs:=dig info) (n:=32) (Qbz info) r9_11 (Qa4 r9_11) (show 32≤maxLen from by decide)) (by simp only [List.length_append,List.length_nil,hd,hp,Qbz]; decide) y11 fun ap18 W12 f19 y12 l12=>?_
  have x12:=Ext.low (Ext.low (Ext.low (Ext.tr x8 e9) l10 x8.size) l11 x8.size) l12 x8.size
  refine sg 1 kj <| sgN hK17 <| sgC fun K20 hK20=>sg 1 kj ?_
  have r2_6:=(Qaa (Qaa (Qaa (Qaa (Qaa r2_1 e2) e3) e4) e5) e6)
  have r2_8:=(Puts.row p8 (Qaa r2_6 e7) (Qab r2_6 l9))
  have r2_12:=(Qb7 l12 (Qb7 l11 (Qb7 l10 (Qaa r2_8 e9) (Qa4 r2_8)) (Qa4 r2_8)) (Qa4 r2_8))
  refine Qao (.agg (ints .u8 (hmac [] sh))) 29 #[.slice none 0 0,.slice (some ⟨g2,0,none⟩) 32 32] 29 rfl kj kj (Qnx [] sh (.slice none 0 0) _ _ _ tc tq _ (hT.ext x12).c (hT.ext x12).q (Nat.zero_le _) (by omega) (fun x hx=>by cases hx) hsb (nilrd _) (QbB (xs:=sh) (n:=32) hs r2_12 (Qa4 r2_12) (show 32≤maxLen from by decide))) fun W13 e13=>?_
  have x13:=Ext.tr x12 e13
  refine sg 1 kj <| QaA (fun v W'=>(fun v W=>∃ u,v=.tuple #[u,.nilIface]∧OwnN .u8 5 W13.heap.size (kx (hmac [] sh) (infoL (strB ⟨#[98,111,120]⟩) (dr++pu++dig info) 32) 32) u W) v W'∧Ext W13 W') 28 #[.agg (ints .u8 (hmac [] sh)),.string ⟨#[98,111,120]⟩,ap18,.int .i64 32] 31 rfl kj kj ((QpK (hmac [] sh) (dr++pu++dig info) ⟨#[98,111,120]⟩ _ _ tc tq _ (hT.ext x13).c (hT.ext x13).q (QbX _ _) (QgH _ _) (Sha.bytes_app (Sha.bytes_app hdb hpb) (Qgj info)) (OwnN.rd (f19.ext e13)) 32 (by decide) (by decide) (by simp only [List.length_append,hd,hp,Qbz]; decide)).mono (by rintro e w' ⟨v,rfl,e1,hv⟩; exact ⟨v,rfl,hv,e1⟩)) fun vv22 W14 hh22=>?_
  obtain ⟨hv22,e14⟩:=hh22
  obtain ⟨uu23,rfl,huu23⟩:=hv22
  obtain ⟨au23,cu23,rfl,-⟩:=id (OwnN.rd huu23)
  refine sg 5 kj <| sgN hK20 <| wp_seq_k fun K24 hK24=>sgB kj <| cond_false kj <| wp_skip <| hK24 _ _ <| sgC fun K26 hK26=>sg 1 kj ?_
  obtain ⟨gk,ck,curk,ek,-,hrk,-,-,-,htk⟩:=Qlv huu23 (by rw [Qgg]; decide)
  simp only [Value.slice.injEq] at ek
  obtain ⟨rfl,-,rfl⟩:=ek
  refine Qad (.pointer (some ⟨gk,0,none⟩)) 39 rfl kj (Ae.run_sap 23 _ 32 5 (a:=some ⟨gk,0,none⟩) (len:=(kx (hmac [] sh) (infoL (strB ⟨#[98,111,120]⟩) (dr++pu++dig info) 32) 32).length) (cap:=cu23) rfl kj kj (by rw [Qgg]; exact qR _)) ?_
  refine Qad (.agg (ints .u8 (kx (hmac [] sh) (infoL (strB ⟨#[98,111,120]⟩) (dr++pu++dig info) 32) 32))) 40 rfl kj (Qat 23 _ gk 0 5 _ _ _ (Qaa hrk (Rely.Ext.refl W14)) rfl kj (QlJ htk) kj (isz (n:=32) kj ((Qac _ _).trans (Qgg _ _ _)))) ?_
  have r5_6:=(Qaa (Qaa r5_4 e5) e6)
  have r5_8:=(Puts.row p8 (Qaa r5_6 e7) (Qab r5_6 l9))
  have r5_14:=(Qaa (Qaa (Qb7 l12 (Qb7 l11 (Qb7 l10 (Qaa r5_8 e9) (Qa4 r5_8)) (Qa4 r5_8)) (Qa4 r5_8)) e13) e14)
  refine Qah g5 _ (ints .u8 (kx (hmac [] sh) (infoL (strB ⟨#[98,111,120]⟩) (dr++pu++dig info) 32) 32)) 23 r5_14 rfl kj (Qaf 23 _ _ g5 23 _ _ r5_14 rfl kj kj (isz (n:=32) kj ((Qac _ _).trans (Qgg _ _ _))) (eqsz (n:=32) ((Qac _ _).trans (qZ (n:=32))) ((Qac _ _).trans (Qgg _ _ _))) (ints_one _ _)) fun W15 p15 r5_15=>sg 1 kj <| sgN hK26 <| wp_ret ?_
  repeat (first | with_reducible refine goR1 ?_ | with_reducible refine goR2 ?_)
  exact (show bodyPost _ _ _ .ret _ _ from ret2 (.agg (ints .u8 (kx (hmac [] sh) (infoL (strB ⟨#[98,111,120]⟩) (dr++pu++dig info) 32) 32))) (.nilIface) rfl (QaZ g5 23 _ r5_15 kj kj (isz (n:=32) kj ((Qac _ _).trans (Qgg _ _ _)))) (QaM kj) ⟨rfl,(Puts.ext p15 (Ext.tr x13 e14) (qT x3.size l5))⟩)
theorem QlG (sh dr pu info:List Int) (a_info:Option Addr) (c_info B:Nat) (hs:sh.length=32) (hsb:Qag sh) (hd:dr.length=32) (hdb:Qag dr) (hp:pu.length=32) (hpb:Qag pu) (hil:info.length≤65536) (hib:Qag info) (tc tq th tr:TypeId) (w:World) (hT:Tabs tc tq th tr w) (hi:RdK .u8 B info (.slice a_info info.length c_info) w):Calls Tryd.prog 14 #[.agg (ints .u8 sh),.agg (ints .u8 dr),.agg (ints .u8 pu),.slice a_info info.length c_info] w (Ret w (.tuple #[.agg (ints .u8 (keyV sh dr pu info)),.nilIface])):=by
  unfold keyV
  exact QpN sh dr pu info a_info c_info B hs hsb hd hdb hp hpb hil hib tc tq th tr w hT hi
end Go.Proofs.YtmljnchhgkfemaaDoor.Bx
end
section
namespace Go.Proofs.YtmljnchhgkfemaaDoor.Bx
open Go Go.RowKit
open Rely Auto Own Sha
open Cha
open Ae hiding run_storeQ run_sap
open Field (Qay pubL agN Qa2 Qds QaR)
theorem Qc1 (xs : List Int):Qag (pubL xs):=by unfold pubL; exact Field.bytesOf_areBytes _
def non0 : List Int:=[0,0,0,0]++by8 ((0:Nat):Int)
theorem Qhp : non0.length=12:=by unfold non0; rw [List.length_append,Qd1]; rfl
theorem Ql2 (n0 : Nat) (w:World) (h0:n0≤w.heap.size):Calls Tryd.prog 16 #[.int .i64 0] w (QcB w (OwnN .u8 5 n0 non0)) :=
  (QpD 0 w).mono fun e W' hg=>by
    obtain ⟨v',e1,e2,e3⟩:=hg
    exact ⟨v',e1,e2,e3.base h0⟩
theorem Qmn {w : World} {g:Nat} {xs ys:List Int} {t:TypeId} {fr:Nat×Nat} (h:w.heap[g]? = some (.cells (cat [ints .u8 xs,ints .u8 ys]) t fr)) (hx:xs.length=32) (hy:ys.length=32):∀ i,i<32→w.cell? ⟨g,32+i,none⟩=some (.int .u8 (nth ys i)):=fun i hi=>by
  unfold World.cell?
  simp only [h]
  show (ints .u8 xs++ints .u8 ys)[32+i]? = _
  rw [Array.getElem?_append_right (by rw [Qac]; omega),Qac,hx,Nat.add_sub_cancel_left,Qar _ _ _ (by omega)]
@[irreducible] def Qd3 (dr pk info text : List Int) : List Int := QdU (keyV (Qay (agN dr pk)) (pubL dr) pk info) non0 info text
def boxV (dr pk info text:List Int):List Int:=pubL dr++Qd3 dr pk info text
theorem Qd2 (dr pk info text:List Int):(Qd3 dr pk info text).length=text.length+16:=by unfold Qd3; exact QdT _ _ _ _
theorem QfF (dr pk info text:List Int):(boxV dr pk info text).length=text.length+48:=by unfold boxV; rw [List.length_append,Qd2,Qa2]; omega
set_option maxRecDepth 100000 in
theorem Qqz (pk dr info text:List Int) (hp:pk.length=32) (hpb:Qag pk) (hd:dr.length=32) (hdb:Qag dr) (h0:(agN dr pk==0)=false) (tc tq th tr:TypeId) (w:World) (hT:Tabs tc tq th tr w) (a_i:Option Addr) (c_i B:Nat) (hil:info.length≤65536) (hib:Qag info) (hi:RdK .u8 B info (.slice a_i info.length c_i) w) (a_t:Option Addr) (c_t B2:Nat) (htl:text.length≤65536) (ht:RdK .u8 B2 text (.slice a_t text.length c_t) w) :
  Calls Tryd.prog 7 #[.agg (ints .u8 pk),.agg (ints .u8 dr),.slice a_i info.length c_i,.slice a_t text.length c_t] w (fun e W=>∃ u,e=.returned (.tuple #[u,.nilIface])∧OwnN .u8 5 w.heap.size (boxV dr pk info text) u W∧Ext w W):=by
 have hh:=hT.h
 have hq:=hT.r
 obtain ⟨fs,es⟩:∃ z:List Int,Qd3 dr pk info text=z:=⟨_,rfl⟩
 have lfs:fs.length=text.length+16:=es▸Qd2 dr pk info text
 have es2:QdU (keyV (Qay (agN dr pk)) (pubL dr) pk info) non0 info text=fs:=by rw [←es]; unfold Qd3; rfl
 refine enter 63 [(0,.agg (ints .u8 (pk))),(1,.agg (ints .u8 (dr))),(2,.slice a_i info.length c_i),(3,.slice a_t text.length c_t)] Tryd.func7 rfl rfl kj rfl <| sgC fun K3 hK3=>Qaj (ints .u8 (pk)) 23 4 rfl kj kj fun g4 W1 l4 e1 r4_1=>?_
 have x1:=Ext.tr (Rely.Ext.refl w) e1
 have b4:=qT (Rely.Ext.refl w).size l4
 refine Qaj (ints .u8 (dr)) 23 5 rfl kj kj fun g5 W2 l5 e2 r5_2=>?_
 have b5:=qT x1.size l5
 refine sg 2 kj <| sgN hK3 <| wp_seq_k fun K6 hK6=>sgC fun K7 hK7=>sg 2 kj <| Qad (.bool false) 17 rfl kj (Qal (u:=.bool (decide (((info.length:Nat):Int)>65536))) kj (congrArg Value.bool (decide_eq_false (by omega)))) <| sg 3 kj <| Qad (.bool false) 21 rfl kj (Qal (u:=.bool (decide (((text.length:Nat):Int)>65536))) kj (congrArg Value.bool (decide_eq_false (by omega)))) <| sg 1 kj <| sgN hK7 ?_
 refine cond_false kj <| wp_skip <| hK6 _ _ <| sgC fun K8 hK8=>Qad (.agg (ints .u8 (dr))) 24 rfl kj (Qae 23 _ g5 23 _ _ r5_2 rfl kj kj (isz (n:=32) kj ((Qac _ _).trans hd))) <| Qao (.agg (cat [ints .u8 (dr),ints .u8 (pubL dr)])) 12 #[.agg (ints .u8 (dr))] 25 rfl kj kj (Field.new_ dr hd hdb _) fun W3 e3=>?_
 have x3:=Ext.tr (Ext.tr x1 e2) e3
 refine Qaj (cat [ints .u8 (List.replicate 32 0),ints .u8 (List.replicate 32 0)]) 31 10 rfl kj kj fun g9 W4 l9 e4 r9_4=>Qah g9 _ (cat [ints .u8 (dr),ints .u8 (pubL dr)]) 31 r9_4 rfl kj (Qaf 31 _ _ g9 31 _ _ r9_4 rfl kj kj (isz (n:=64) kj (by rw [Qam,Qam]; simp only [qS,cat,((Qac _ _).trans (Qa2 dr)),((Qac _ _).trans hd)]; rfl)) (eqsz (n:=64) (by rw [Qam,Qam]; simp only [qS,cat,((Qac _ _).trans (qZ (n:=32)))]; rfl) (by rw [Qam,Qam]; simp only [qS,cat,((Qac _ _).trans (Qa2 dr)),((Qac _ _).trans hd)]; rfl)) (Qe8 _ (by intro a ha; simp only [List.mem_cons,List.not_mem_nil,or_false] at ha; rcases ha with rfl | rfl; exact (ints_one _ _); exact (ints_one _ _)))) fun W5 p5 r9_5=>?_
 refine sgN hK8 <| sgC fun K10 hK10=>sg 1 kj <| Qad (.agg (ints .u8 (dr))) 28 rfl kj (Qat 23 _ g9 0 31 _ _ _ r9_5 rfl kj (Qa8 [] [ints .u8 (dr)] [ints .u8 (pubL dr)] 0 kj) kj (isz (n:=32) kj ((Qac _ _).trans hd))) ?_
 have r4_3:=(Qaa (Qaa r4_1 e2) e3)
 have r4_5:=(Puts.row p5 (Qaa r4_3 e4) (Qab r4_3 l9))
 refine Qad (.agg (ints .u8 (pk))) 29 rfl kj (Qae 23 _ g4 23 _ _ r4_5 rfl kj kj (isz (n:=32) kj ((Qac _ _).trans hp))) <| Qao (.tuple #[.agg (ints .u8 (Qay (agN dr pk))),.nilIface]) 13 #[.agg (ints .u8 (dr)),.agg (ints .u8 (pk))] 30 rfl kj kj (Field.agree_0 dr pk hd hdb hp hpb h0 _) fun W6 e6=>?_
 have x6:=Ext.tr (Puts.ext p5 (Ext.tr x3 e4) (qT x3.size l9)) e6
 refine sg 3 kj <| Qaj (ints .u8 (List.replicate 32 0)) 23 11 rfl kj kj fun g11 W7 l11 e7 r11_7=>Qah g11 _ (ints .u8 (Qay (agN dr pk))) 23 r11_7 rfl kj (Qaf 23 _ _ g11 23 _ _ r11_7 rfl kj kj (isz (n:=32) kj ((Qac _ _).trans (QaR _))) (eqsz (n:=32) ((Qac _ _).trans (qZ (n:=32))) ((Qac _ _).trans (QaR _))) (ints_one _ _)) fun W8 p8 r11_8=>?_
 have x8:=Puts.ext p8 (Ext.tr x6 e7) (qT x6.size l11)
 refine sg 1 kj <| sgN hK10 <| wp_seq_k fun K12 hK12=>sgB kj <| cond_false kj <| wp_skip <| hK12 _ _ <| sgC fun K14 hK14=>Qad (.agg (ints .u8 (Qay (agN dr pk)))) 37 rfl kj (Qae 23 _ g11 23 _ _ r11_8 rfl kj kj (isz (n:=32) kj ((Qac _ _).trans (QaR _)))) <| sg 1 kj ?_
 have r9_6:=(Qaa r9_5 e6)
 have r9_8:=(Puts.row p8 (Qaa r9_6 e7) (Qab r9_6 l11))
 refine Qad (.agg (ints .u8 (pubL dr))) 39 rfl kj (Qat 23 _ g9 32 31 _ _ _ r9_8 rfl kj (Qa8 [ints .u8 (dr)] [ints .u8 (pubL dr)] [] 32 ((Qac _ _).trans hd)) kj (isz (n:=32) kj ((Qac _ _).trans (Qa2 dr)))) ?_
 have r4_6:=(Qaa r4_5 e6)
 refine Qad (.agg (ints .u8 (pk))) 40 rfl kj (Qae 23 _ g4 23 _ _ (Puts.row p8 (Qaa r4_6 e7) (Qab r4_6 l11)) rfl kj kj (isz (n:=32) kj ((Qac _ _).trans hp))) <| sg 1 kj <| Qao (.tuple #[.agg (ints .u8 (keyV (Qay (agN dr pk)) (pubL dr) pk info)),.nilIface]) 14 #[.agg (ints .u8 (Qay (agN dr pk))),.agg (ints .u8 (pubL dr)),.agg (ints .u8 (pk)),.slice a_i info.length c_i] 42 rfl kj kj (QlG _ _ _ info a_i c_i _ (QaR _) (Field.bytesOf_areBytes _) (Qa2 _) (Qc1 _) hp hpb hil hib tc tq th tr _ (hT.ext x8) (RdK.ext hi x8)) fun W9 e9=>?_
 have x9:=Ext.tr x8 e9
 refine sg 3 kj <| Qaj (ints .u8 (List.replicate 32 0)) 23 13 rfl kj kj fun g15 W10 l15 e10 r15_10=>Qah g15 _ (ints .u8 (keyV (Qay (agN dr pk)) (pubL dr) pk info)) 23 r15_10 rfl kj (Qaf 23 _ _ g15 23 _ _ r15_10 rfl kj kj (isz (n:=32) kj ((Qac _ _).trans (Qcm _ _ _ _))) (eqsz (n:=32) ((Qac _ _).trans (qZ (n:=32))) ((Qac _ _).trans (Qcm _ _ _ _))) (ints_one _ _)) fun W11 p11 r15_11=>?_
 have x11:=Puts.ext p11 (Ext.tr x9 e10) (qT x9.size l15)
 refine sg 1 kj <| sgN hK14 <| wp_seq_k fun K16 hK16=>sgB kj <| cond_false kj <| wp_skip <| hK16 _ _ <| wp_seq_k fun K18 hK18=>Qbf 9 [⟨none,[(13,none)]⟩,⟨none,[]⟩,⟨none,[(2,none)]⟩,⟨none,[(3,none)]⟩,⟨none,[(49,some 0),(50,some 1),(51,some 2),(52,some 3)]⟩,⟨none,[(53,some 4)]⟩,⟨none,[(48,some 5)]⟩,⟨none,[(48,some 5)]⟩,⟨none,[(54,some 6)]⟩] kj kj fun F hF=>Qc8 (Qaq _) (.agg (ints .u8 (keyV (Qay (agN dr pk)) (pubL dr) pk info))) kj kj (fun W hR=>(Qae 23 _ g15 23 _ _ (Qaa (Qaa r15_11 (Qai _)) hR) rfl kj kj (isz (n:=32) kj ((Qac _ _).trans (Qcm _ _ _ _))))) ?_
 refine Qfi (Qaq _) (OwnN .u8 5 W11.heap.size non0) (OwnN.stable _ _ _ _) 16 #[.int .i64 0] kj kj (fun W=>by kernel_rfl) (fun W hR=>(Ql2 W11.heap.size _ (Rely.Ext.trans (Qai _) hR).size)) <| QaL (Qaq _) (.slice a_i info.length c_i) kj kj (fun W=>by kernel_rfl) <| QaL (Qaq _) (.slice a_t text.length c_t) kj kj (fun W=>by kernel_rfl) ?_
 have r2_3:=(Qaa (Qaa (Qaa hh e1) e2) e3)
 have r2_6:=(Qaa (Puts.row p5 (Qaa r2_3 e4) (Qab r2_3 l9)) e6)
 have r2_9:=(Qaa (Puts.row p8 (Qaa r2_6 e7) (Qab r2_6 l11)) e9)
 have r1_3:=(Qaa (Qaa (Qaa hq e1) e2) e3)
 have r1_6:=(Qaa (Puts.row p5 (Qaa r1_3 e4) (Qab r1_3 l9)) e6)
 have r1_9:=(Qaa (Puts.row p8 (Qaa r1_6 e7) (Qab r1_6 l11)) e9)
 refine Qh2 (Qaq _) (MixR W11.heap.size fs) (Qe6 _ _) 15 (fun ρ W hR hX=>?_) ?_
 ·skip
  have e49_:ρ 49=.agg (ints .u8 (keyV (Qay (agN dr pk)) (pubL dr) pk info)):=hX.1
  have q50_:(OwnN .u8 5 W11.heap.size non0) (ρ 50) W:=hX.2.1
  obtain ⟨ar50,cr50,e50_,-⟩:=id (OwnN.rd q50_)
  have rd50_:=OwnN.rd q50_
  rw [e50_] at rd50_
  have e51_:ρ 51=.slice a_i info.length c_i:=hX.2.2.1
  have e52_:ρ 52=.slice a_t text.length c_t:=hX.2.2.2.1
  refine ⟨#[.agg (ints .u8 (keyV (Qay (agN dr pk)) (pubL dr) pk info)),.slice ar50 non0.length cr50,.slice a_i info.length c_i,.slice a_t text.length c_t],Eq.trans (b:=Result.ok (Next.enter 15 #[ρ 49,ρ 50,ρ 51,ρ 52]) W) kj (by rw [e49_,e50_,e51_,e52_]),?_⟩
  exact ((Qqe (keyV (Qay (agN dr pk)) (pubL dr) pk info) non0 info text _ _ _ _ _ _ th tr W (Qaa (Qaa (Puts.row p11 (Qaa r2_9 e10) (Qab r2_9 l15)) (Qai _)) hR) (Qaa (Qaa (Puts.row p11 (Qaa r1_9 e10) (Qab r1_9 l15)) (Qai _)) hR) (Qcm _ _ _ _) rd50_ (RdK.ext (RdK.ext hi x11) (Rely.Ext.trans (Qai _) hR)) (RdK.ext (RdK.ext ht x11) (Rely.Ext.trans (Qai _) hR)) hib Qhp (by omega) (by omega)).mono fun e W2 hg=>by obtain ⟨v2,e1,e2,u,e3,e4⟩:=hg; rw [es2] at e4; exact ⟨v2,e1,e2,u,e3,e4.base (Rely.Ext.trans (Qai _) hR).size⟩)
 refine QeP (Qaq _) (MixR W11.heap.size fs) (Qe6 _ _) (fun ρ W hR hh=>⟨ρ 53,W,by kernel_rfl,Rely.Ext.refl _,(show (MixR W11.heap.size fs) (ρ 53) W from hh.1)⟩) <| QeP (Qaq _) (OwnN .u8 5 W11.heap.size fs) (OwnN.stable _ _ _ _) (fun ρ W hR hh=>?_) ?_
 ·obtain ⟨u,e,h⟩:=(show (MixR W11.heap.size fs) (ρ 48) W from hh.1)
  exact ⟨_,W,Qcx (.tmp 48) 0 #[u,.nilIface] _ rfl e rfl,Rely.Ext.refl _,h⟩
 refine QeP (Qaq _) (fun v W=>v=.nilIface) (fun _ _ _ _ h=>h) (fun ρ W hR hh=>?_) ?_
 ·obtain ⟨u,e,h⟩:=(show (MixR W11.heap.size fs) (ρ 48) W from hh.1)
  exact ⟨_,W,Qcx (.tmp 48) 1 #[u,.nilIface] _ rfl e rfl,Rely.Ext.refl _,rfl⟩
 refine QeP (Qaq _) (OwnN .u8 5 W11.heap.size fs) (OwnN.stable _ _ _ _) (fun ρ W hR hh=>⟨ρ 54,W,by kernel_rfl,Rely.Ext.refl _,(show (OwnN .u8 5 W11.heap.size fs) (ρ 54) W from hh.1)⟩) <| QdN (hF _ fun W12 e12=>?_)
 simp only [List.nil_append,List.cons_append,List.take_succ_cons,List.take_zero,List.drop_succ_cons,List.drop_zero,finE,up]
 intro vv19 hv19 vv20 hv20 vv21 hv21 vv22 hv22 vv23 hv23 vv24 hv24
 clear hF
 have x12:=Ext.tr x11 e12
 obtain ⟨a25_,c25_,rfl,-⟩:=id (OwnN.rd hv19)
 obtain ⟨a26_,c26_,rfl,-⟩:=id (OwnN.rd hv22)
 subst hv23
 obtain ⟨a27_,c27_,rfl,-⟩:=id (OwnN.rd hv24)
 refine sg 1 kj <| sgN hK18 <| wp_seq_k fun K28 hK28=>sgB kj <| cond_false kj <| wp_skip <| hK28 _ _ <| sgC fun K30 hK30=>sg 3 kj ?_
 have r9_9:=(Qaa r9_8 e9)
 refine QiD (T:=5) 1 (.tmp 60) (.tmp 61) 24 rfl kj kj (by decide) 62 rfl kj (g:=g9) (off:=32) (n:=32) (xs:=pubL dr) (ys:=fs) kj kj (Qa2 dr) (Qmn (Qaa (Puts.row p11 (Qaa r9_9 e10) (Qab r9_9 l15)) e12) hd (Qa2 dr)) (OwnN.rd hv24) (by rw [Qa2,lfs]; omega) (by omega) fun ap W13 fap e13=>?_
 refine sg 2 kj <| sgN hK30 <| wp_ret ?_
 repeat (first | with_reducible refine goR1 ?_ | with_reducible refine goR2 ?_)
 exact (show bodyPost _ _ _ .ret _ _ from ret2 (ap) (.nilIface) rfl (QaM kj) (QaM kj) ⟨ap,rfl,by unfold boxV; rw [es]; exact OwnN.base x12.size fap,(Ext.tr x12 e13)⟩)
end Go.Proofs.YtmljnchhgkfemaaDoor.Bx
end
