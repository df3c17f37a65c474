/- Texts of this claim, joined (O5). -/
import Derived.Test.YtdoadngmgmdlbaaDoorZO4
import Derived.WalkKit

set_option linter.unusedVariables false
set_option linter.unusedSimpArgs false
set_option maxHeartbeats 4000000
section
namespace Go.Proofs.YtdoadngmgmdlbaaDoor.Field
open Go Go.RowKit
open Rely Auto
theorem shr7 (v : Int):v.fdiv (2^min (7:Int).toNat IntKind.u8.bits)=v/128:=by
  show Int.fdiv v 128=v/128
  exact Int.fdiv_eq_ediv_of_nonneg v (by decide)
theorem QoF (xs ys:List Int) (hx:xs.length=32) (hb:Qaj xs) (ys_len:ys.length=32) (s0:Int) (ho:(nth xs 31/128==1)=false) (hc:decide (ys=(xs).set 31 (nth xs 31%128))=false)
    (c0:∀ W,Calls Tryd.prog 44 #[.agg (ints .u8 ((xs).set 31 (nth xs 31%128)))] W (Ret W (.agg (numA (s0)))))
    (cb:∀ W,Calls Tryd.prog 50 #[.agg (numA (s0))] W (Ret W (.agg (ints .u8 ys))))
    (w:World) (tB:TypeId) (hB:w.heap[2]? = some (.cells (ints .u8 Qb6) tB)):Calls Tryd.prog 34 #[.agg (ints .u8 (xs))] w (Ret w (.tuple #[.agg (cat [numA (0),numA (0)]),.bool false])):=by
  refine enter 63 [(0,.agg (ints .u8 (xs)))] Tryd.func34 rfl rfl kj rfl <| sgC fun K2 hK2=>Qah (ints .u8 (xs)) 23 1 rfl kj kj fun g3 W1 l3 e1 r3_1=>?_
  have x1:=Ext.tr (Rely.Ext.refl w) e1
  refine Qah (cat [numA (0),numA (0)]) 51 2 rfl kj kj fun g4 W2 l4 e2 r4_2=>sg 1 kj <| sgN hK2 <| sgC fun K5 hK5=>sg 1 kj ?_
  have r3_2:=(Qaa r3_1 e2)
  refine Qag (.int .u8 (nth (xs) 31)) 12 rfl kj (Qak 5 _ g3 31 23 _ (.int .u8 (nth (xs) 31)) _ r3_2 rfl kj (Qar _ _ _ (Nat.lt_of_lt_of_eq (by decide) hx.symm)) kj) <| Qag (.int .u8 (nth xs 31/128)) 13 rfl kj (Qby .shr _ _ _ _ .u8 .u64 _ _ _ rfl kj kj (Qdo _ _ _ _ _ _ (show (0:Int)≤7 by decide) (shr7 _))) <| Qag (.bool false) 14 rfl kj (Qam (u:=.bool (((nth xs 31/128)==1))) kj (congrArg Value.bool ho)) <| sg 1 kj <| sgN hK5 <| sgC fun K6 hK6=>sg 1 kj <| Qag (.int .u8 (nth (xs) 31)) 16 rfl kj (Qak 5 _ g3 31 23 _ (.int .u8 (nth (xs) 31)) _ r3_2 rfl kj (Qar _ _ _ (Nat.lt_of_lt_of_eq (by decide) hx.symm)) kj) <| Qag (.int .u8 (nth xs 31%128)) 17 rfl kj (Qam (u:=.int .u8 (bits .and .u8 ((nth (xs) 31)) (127))) kj (congrArg (Value.int .u8) (Qgb _ (hb.nth 31)))) <| sg 1 kj ?_
  refine Qai g3 _ (ints .u8 ((xs).set 31 (nth xs 31%128))) 23 r3_2 rfl kj (Qaz 5 _ _ g3 31 23 _ _ r3_2 rfl kj kj kj (Nat.lt_of_lt_of_eq (show 31<32 by decide) hx.symm)) fun W3 p3 r3_3=>sgN hK6 <| sgC fun K7 hK7=>Qag (.agg (ints .u8 ((xs).set 31 (nth xs 31%128)))) 19 rfl kj (Qac 23 _ g3 23 _ _ r3_3 rfl kj kj (isz (n:=32) kj ((Qad _ _).trans ((List.length_set ..).trans hx)))) <| Qap (.agg (numA (s0))) 44 #[.agg (ints .u8 ((xs).set 31 (nth xs 31%128)))] 20 rfl kj kj (c0 _) fun W4 e4=>?_
  have x4:=Ext.tr (Puts.ext p3 (Ext.tr x1 e2) (qT (Rely.Ext.refl w).size l3)) e4
  refine Qah (numA (0)) 49 5 rfl kj kj fun g8 W5 l8 e5 r8_5=>Qai g8 _ (numA (s0)) 49 r8_5 rfl kj (Qaf 49 _ _ g8 49 _ _ r8_5 rfl kj kj (isz (n:=4) kj kj) (eqsz (n:=4) kj kj) kj) fun W6 p6 r8_6=>sgN hK7 <| wp_seq_k fun K9 hK9=>wp_seq_k fun K10 hK10=>QaC 4 [⟨none,[(5,none)]⟩,⟨none,[(21,some 0)]⟩,⟨none,[(1,none)]⟩,⟨none,[(22,some 1),(23,some 2)]⟩] kj kj fun F hF=>Qal (.agg (numA (s0))) kj kj (fun W hR=>(Qac 49 _ g8 49 _ _ (Qaa (Qaa r8_6 (Qae _)) hR) rfl kj kj (isz (n:=4) kj kj))) <| Qan (.agg (ints .u8 (ys))) 50 #[.agg (numA (s0))] kj kj (fun W=>kj) (fun W hR=>cb W) <| Qal (.agg (ints .u8 ((xs).set 31 (nth xs 31%128)))) kj kj (fun W hR=>(Qac 23 _ g3 23 _ _ (Qaa (Qaa (Puts.row p6 (Qaa (Qaa r3_3 e4) e5) (Qab (Qaa r3_3 e4) l8)) (Qae _)) hR) rfl kj kj (isz (n:=32) kj ((Qad _ _).trans ((List.length_set ..).trans hx))))) <| Qay (.bool true) kj kj (fun W=>(Qbj 23 _ _ _ _ _ (.bool true) rfl kj kj kj (key_neq _ _ false ys_len (by rw [List.length_set]; exact hx) hc _))) ?_
  refine Qa2 (hF _ kj fun W7 e7=>?_)
  simp only [ups,up,Kn.val,List.take_succ_cons,List.take_zero,List.drop_succ_cons,List.drop_zero,List.nil_append,List.cons_append]
  clear hF
  refine sgN hK10 <| cond_true kj <| sgC fun K11 hK11=>sg 1 kj ?_
  have r4_7:=(Qaa (Puts.row p6 (Qaa (Qaa (Puts.row p3 r4_2 (Qas r3_1 l4)) e4) e5) (Qab (Qaa (Puts.row p3 r4_2 (Qas r3_1 l4)) e4) l8)) e7)
  refine Qai g4 _ (cat [numA (0),numA (0)]) 51 r4_7 rfl kj (Qaf 51 _ _ g4 51 _ _ r4_7 rfl kj kj (isz (n:=8) kj kj) (eqsz (n:=8) kj kj) kj) fun W8 p8 r4_8=>sg 1 kj <| sgN hK11 <| wp_ret ?_
  exact (show bodyPost _ _ _ .ret _ _ from ret2 (.agg (cat [numA (0),numA (0)])) (.bool false) rfl (Qa8 g4 51 _ r4_8 kj kj (isz (n:=8) kj kj)) (Qbb kj) ⟨rfl,(Puts.ext p8 (Ext.tr (Puts.ext p6 (Ext.tr x4 e5) (qT x4.size l8)) e7) (qT x1.size l4))⟩)
theorem QoE (xs ys:List Int) (hx:xs.length=32) (hb:Qaj xs) (ys_len:ys.length=32) (s0 s1 s2 s3 s4 s5 s6 r:Int) (ho:(nth xs 31/128==1)=false) (hc:decide (ys=(xs).set 31 (nth xs 31%128))=true)
    (c0:∀ W,Calls Tryd.prog 44 #[.agg (ints .u8 ((xs).set 31 (nth xs 31%128)))] W (Ret W (.agg (numA (s0)))))
    (c1:∀ W,Calls Tryd.prog 66 #[.agg (numA (s0)),.agg (numA (s0))] W (Ret W (.agg (numA (s1)))))
    (c2:∀ W,Calls Tryd.prog 66 #[.agg (numA (s1)),.agg (numA (dN))] W (Ret W (.agg (numA (s2)))))
    (c3:∀ W,Calls Tryd.prog 68 #[.agg (numA (s2)),.agg (numA (1))] W (Ret W (.agg (numA (s3)))))
    (c4:∀ W,Calls Tryd.prog 69 #[.agg (numA (s1)),.agg (numA (1))] W (Ret W (.agg (numA (s4)))))
    (c5:∀ W,Calls Tryd.prog 70 #[.agg (numA (s3))] W (Ret W (.agg (numA (s5)))))
    (c6:∀ W,Calls Tryd.prog 66 #[.agg (numA (s4)),.agg (numA (s5))] W (Ret W (.agg (numA (s6)))))
    (cb:∀ W,Calls Tryd.prog 50 #[.agg (numA (s0))] W (Ret W (.agg (ints .u8 ys))))
    (cr:∀ W,Calls Tryd.prog 71 #[.agg (numA (s6))] W (Ret W (.tuple #[.agg (numA (r)),.bool false])))
    (w:World) (tB:TypeId) (hB:w.heap[2]? = some (.cells (ints .u8 Qb6) tB)):Calls Tryd.prog 34 #[.agg (ints .u8 (xs))] w (Ret w (.tuple #[.agg (cat [numA (0),numA (0)]),.bool false])):=by
  refine enter 63 [(0,.agg (ints .u8 (xs)))] Tryd.func34 rfl rfl kj rfl <| sgC fun K2 hK2=>Qah (ints .u8 (xs)) 23 1 rfl kj kj fun g3 W1 l3 e1 r3_1=>?_
  have x1:=Ext.tr (Rely.Ext.refl w) e1
  refine Qah (cat [numA (0),numA (0)]) 51 2 rfl kj kj fun g4 W2 l4 e2 r4_2=>sg 1 kj <| sgN hK2 <| sgC fun K5 hK5=>sg 1 kj ?_
  have r3_2:=(Qaa r3_1 e2)
  refine Qag (.int .u8 (nth (xs) 31)) 12 rfl kj (Qak 5 _ g3 31 23 _ (.int .u8 (nth (xs) 31)) _ r3_2 rfl kj (Qar _ _ _ (Nat.lt_of_lt_of_eq (by decide) hx.symm)) kj) <| Qag (.int .u8 (nth xs 31/128)) 13 rfl kj (Qby .shr _ _ _ _ .u8 .u64 _ _ _ rfl kj kj (Qdo _ _ _ _ _ _ (show (0:Int)≤7 by decide) (shr7 _))) <| Qag (.bool false) 14 rfl kj (Qam (u:=.bool (((nth xs 31/128)==1))) kj (congrArg Value.bool ho)) <| sg 1 kj <| sgN hK5 <| sgC fun K6 hK6=>sg 1 kj <| Qag (.int .u8 (nth (xs) 31)) 16 rfl kj (Qak 5 _ g3 31 23 _ (.int .u8 (nth (xs) 31)) _ r3_2 rfl kj (Qar _ _ _ (Nat.lt_of_lt_of_eq (by decide) hx.symm)) kj) <| Qag (.int .u8 (nth xs 31%128)) 17 rfl kj (Qam (u:=.int .u8 (bits .and .u8 ((nth (xs) 31)) (127))) kj (congrArg (Value.int .u8) (Qgb _ (hb.nth 31)))) <| sg 1 kj ?_
  refine Qai g3 _ (ints .u8 ((xs).set 31 (nth xs 31%128))) 23 r3_2 rfl kj (Qaz 5 _ _ g3 31 23 _ _ r3_2 rfl kj kj kj (Nat.lt_of_lt_of_eq (show 31<32 by decide) hx.symm)) fun W3 p3 r3_3=>sgN hK6 <| sgC fun K7 hK7=>Qag (.agg (ints .u8 ((xs).set 31 (nth xs 31%128)))) 19 rfl kj (Qac 23 _ g3 23 _ _ r3_3 rfl kj kj (isz (n:=32) kj ((Qad _ _).trans ((List.length_set ..).trans hx)))) <| Qap (.agg (numA (s0))) 44 #[.agg (ints .u8 ((xs).set 31 (nth xs 31%128)))] 20 rfl kj kj (c0 _) fun W4 e4=>?_
  have x4:=Ext.tr (Puts.ext p3 (Ext.tr x1 e2) (qT (Rely.Ext.refl w).size l3)) e4
  refine Qah (numA (0)) 49 5 rfl kj kj fun g8 W5 l8 e5 r8_5=>Qai g8 _ (numA (s0)) 49 r8_5 rfl kj (Qaf 49 _ _ g8 49 _ _ r8_5 rfl kj kj (isz (n:=4) kj kj) (eqsz (n:=4) kj kj) kj) fun W6 p6 r8_6=>sgN hK7 <| wp_seq_k fun K9 hK9=>wp_seq_k fun K10 hK10=>QaC 4 [⟨none,[(5,none)]⟩,⟨none,[(21,some 0)]⟩,⟨none,[(1,none)]⟩,⟨none,[(22,some 1),(23,some 2)]⟩] kj kj fun F hF=>Qal (.agg (numA (s0))) kj kj (fun W hR=>(Qac 49 _ g8 49 _ _ (Qaa (Qaa r8_6 (Qae _)) hR) rfl kj kj (isz (n:=4) kj kj))) <| Qan (.agg (ints .u8 (ys))) 50 #[.agg (numA (s0))] kj kj (fun W=>kj) (fun W hR=>cb W) <| Qal (.agg (ints .u8 ((xs).set 31 (nth xs 31%128)))) kj kj (fun W hR=>(Qac 23 _ g3 23 _ _ (Qaa (Qaa (Puts.row p6 (Qaa (Qaa r3_3 e4) e5) (Qab (Qaa r3_3 e4) l8)) (Qae _)) hR) rfl kj kj (isz (n:=32) kj ((Qad _ _).trans ((List.length_set ..).trans hx))))) <| Qay (.bool false) kj kj (fun W=>(Qbj 23 _ _ _ _ _ (.bool false) rfl kj kj kj (key_neq _ _ true ys_len (by rw [List.length_set]; exact hx) hc _))) ?_
  refine Qa2 (hF _ kj fun W7 e7=>?_)
  simp only [ups,up,Kn.val,List.take_succ_cons,List.take_zero,List.drop_succ_cons,List.drop_zero,List.nil_append,List.cons_append]
  clear hF
  refine sgN hK10 <| cond_false kj <| wp_skip <| hK9 _ _ <| sgC fun K11 hK11=>?_
  have r8_7:=(Qaa r8_6 e7)
  refine Qag (.agg (numA (s0))) 26 rfl kj (Qac 49 _ g8 49 _ _ r8_7 rfl kj kj (isz (n:=4) kj kj)) <| Qag (.agg (numA (s0))) 27 rfl kj (Qac 49 _ g8 49 _ _ r8_7 rfl kj kj (isz (n:=4) kj kj)) <| Qap (.agg (numA (s1))) 66 #[.agg (numA (s0)),.agg (numA (s0))] 28 rfl kj kj (c1 _) fun W8 e8=>Qap (.agg (numA (1))) 67 #[.int .i64 1] 29 rfl kj kj ((QdC 1 (by decide)) _) fun W9 e9=>?_
  have x9:=Ext.tr (Ext.tr (Ext.tr (Puts.ext p6 (Ext.tr x4 e5) (qT x4.size l8)) e7) e8) e9
  refine Qah (numA (0)) 49 6 rfl kj kj fun g12 W10 l12 e10 r12_10=>?_
  have x10:=Ext.tr x9 e10
  refine Qah (numA (0)) 49 7 rfl kj kj fun g13 W11 l13 e11 r13_11=>?_
  have r12_11:=(Qaa r12_10 e11)
  refine Qai g12 _ (numA (s1)) 49 r12_11 rfl kj (Qaf 49 _ _ g12 49 _ _ r12_11 rfl kj kj (isz (n:=4) kj kj) (eqsz (n:=4) kj kj) kj) fun W12 p12 r12_12=>?_
  have r13_12:=(Puts.row p12 r13_11 (Qas r12_10 l13))
  refine Qai g13 _ (numA (1)) 49 r13_12 rfl kj (Qaf 49 _ _ g13 49 _ _ r13_12 rfl kj kj (isz (n:=4) kj kj) (eqsz (n:=4) kj kj) kj) fun W13 p13 r13_13=>?_
  have x13:=Puts.ext p13 (Puts.ext p12 (Ext.tr x10 e11) (qT x9.size l12)) (qT x10.size l13)
  refine sgN hK11 <| wp_seq_k fun K14 hK14=>QaX 7 [⟨none,[(6,none)]⟩,⟨none,[]⟩,⟨none,[(31,some 1)]⟩,⟨none,[(30,some 0),(32,some 2)]⟩,⟨none,[(7,none)]⟩,⟨none,[(33,some 3),(34,some 4)]⟩,⟨none,[]⟩] [6] kj kj kj fun F hF=>?_
  have r12_13:=(Puts.row p13 r12_12 (Qab r12_10 l13))
  refine Qal (.agg (numA (s1))) kj kj (fun W hR=>(Qac 49 _ g12 49 _ _ (Qaa (Qaa r12_13 (Qae _)) hR) rfl kj kj (isz (n:=4) kj kj))) ?_
  have r1_4:=(Qaa (Puts.row p3 (Qaa (Qaa hB e1) e2) (Qab hB l3)) e4)
  have r1_9:=(Qaa (Qaa (Qaa (Puts.row p6 (Qaa r1_4 e5) (Qab r1_4 l8)) e7) e8) e9)
  refine Qal (.agg (ints .u8 (Qb6))) kj kj (fun W hR=>(Qac 23 _ 2 tB _ _ (Qaa (Qaa (Puts.row p13 (Puts.row p12 (Qaa (Qaa (Qaa (Qaa (Qaa (Puts.row p6 (Qaa (Qaa (Puts.row p3 (Qaa (Qaa hB e1) e2) (Qab hB l3)) e4) e5) (Qab r1_4 l8)) e7) e8) e9) e10) e11) (Qab r1_9 l12)) (Qab (Qaa r1_9 e10) l13)) (Qae _)) hR) rfl kj kj (isz (n:=32) kj ((Qad _ _).trans (by decide))))) <| Qan (.agg (numA (dN))) 44 #[.agg (ints .u8 (Qb6))] kj kj (fun W=>kj) (fun W hR=>QfO W) <| Qan (.agg (numA (s2))) 66 #[.agg (numA (s1)),.agg (numA (dN))] kj kj (fun W=>kj) (fun W hR=>c2 W) <| Qal (.agg (numA (1))) kj kj (fun W hR=>(Qac 49 _ g13 49 _ _ (Qaa (Qaa r13_13 (Qae _)) hR) rfl kj kj (isz (n:=4) kj kj))) <| Qan (.agg (numA (s3))) 68 #[.agg (numA (s2)),.agg (numA (1))] kj kj (fun W=>kj) (fun W hR=>c3 W) <| Qb5 (numA (0)) 49 kj (qR _) kj (fun W=>kj) <| Qa2 (hF _ kj fun W14 e14=>?_)
  simp only [fins,up,List.take_succ_cons,List.take_zero,List.drop_succ_cons,List.drop_zero,List.nil_append,List.cons_append]
  intro g15 l15 r15_14 n15
  clear hF
  refine Qai g15 _ (numA (s3)) 49 r15_14 rfl kj (Qaf 49 _ _ g15 49 _ _ r15_14 rfl kj kj (isz (n:=4) kj kj) (eqsz (n:=4) kj kj) kj) fun W15 p15 r15_15=>?_
  have x15:=Puts.ext p15 (Ext.tr x13 e14) (qT x13.size l15)
  refine sgN hK14 <| wp_seq_k fun K16 hK16=>QaL (fun W=>True) [⟨none,[(6,none)]⟩,⟨none,[(7,none)]⟩,⟨none,[(37,some 0),(38,some 1)]⟩,⟨none,[(8,none)]⟩,⟨none,[(40,some 3)]⟩,⟨none,[(39,some 2),(41,some 4)]⟩,⟨none,[(42,some 5)]⟩,⟨none,[(43,some 6)]⟩,⟨none,[(36,some 7)]⟩,⟨none,[(36,some 7)]⟩,⟨none,[]⟩,⟨none,[(9,some 10),(44,some 8)]⟩,⟨none,[(45,some 9)]⟩] [10] [9,12] kj kj kj (fun W hR=>trivial) fun F hF=>QaO (.agg (numA (s1))) kj kj kj rfl (fun W hR=>(Qac 49 _ g12 49 _ _ (Qaa (Qaa (Puts.row p15 (Qaa r12_13 e14) (Qab r12_13 l15)) (Qae _)) hR) rfl kj kj (isz (n:=4) kj kj))) <| QaO (.agg (numA (1))) kj kj kj rfl (fun W hR=>(Qac 49 _ g13 49 _ _ (Qaa (Qaa (Puts.row p15 (Qaa r13_13 e14) (Qab r13_13 l15)) (Qae _)) hR) rfl kj kj (isz (n:=4) kj kj))) <| Qbq (.agg (numA (s4))) 69 #[.agg (numA (s1)),.agg (numA (1))] kj kj kj rfl (fun W=>kj) (fun W hR=>c4 W) <| QaO (.agg (numA (s3))) kj kj kj rfl (fun W hR=>(Qac 49 _ g15 49 _ _ (Qaa (Qaa r15_15 (Qae _)) hR) rfl kj kj (isz (n:=4) kj kj))) <| Qbq (.agg (numA (s5))) 70 #[.agg (numA (s3))] kj kj kj rfl (fun W=>kj) (fun W hR=>c5 W) <| Qbq (.agg (numA (s6))) 66 #[.agg (numA (s4)),.agg (numA (s5))] kj kj kj rfl (fun W=>kj) (fun W hR=>c6 W) <| Qbq (.tuple #[.agg (numA (r)),.bool false]) 71 #[.agg (numA (s6))] kj kj kj rfl (fun W=>kj) (fun W hR=>cr W) ?_
  refine Qav (.tuple #[.agg (numA (r)),.bool false]) kj kj rfl (fun W=>kj) <| Qav (.agg (numA (r))) kj kj rfl (fun W=>kj) <| Qav (.bool false) kj kj rfl (fun W=>kj) <| Qgg (numA (0)) 49 kj kj (qR _) kj rfl (fun W=>kj) <| Qbt rfl <| Qav (.bool false) kj kj rfl (fun W=>kj) <| QcA (hF _ kj fun W16 e16=>?_)
  simp only [List.nil_append,List.cons_append,fins,up]
  intro g17 l17 r17_16 n17
  clear hF
  refine Qbd _ g17 _ (numA (r)) 49 r17_16 rfl (Qaf 49 _ _ g17 49 _ _ r17_16 rfl kj kj (isz (n:=4) kj kj) (eqsz (n:=4) kj kj) kj) (fun W hp=>trivial) fun W17 p17 r17_17=>QbI <| hK16 _ _ <| wp_seq_k fun K18 hK18=>sgB kj <| cond_true kj <| sgC fun K20 hK20=>sg 1 kj ?_
  have r4_4:=(Qaa (Puts.row p3 r4_2 (Qas r3_1 l4)) e4)
  have r4_9:=(Qaa (Qaa (Qaa (Puts.row p6 (Qaa r4_4 e5) (Qab r4_4 l8)) e7) e8) e9)
  have r4_10:=(Qaa r4_9 e10)
  have r4_13:=(Puts.row p13 (Puts.row p12 (Qaa r4_10 e11) (Qab r4_9 l12)) (Qab r4_10 l13))
  have r4_17:=(Puts.row p17 (Qaa (Puts.row p15 (Qaa (Puts.row p13 (Puts.row p12 (Qaa (Qaa (Qaa (Qaa (Qaa (Puts.row p6 (Qaa (Qaa (Puts.row p3 r4_2 (Qas r3_1 l4)) e4) e5) (Qab r4_4 l8)) e7) e8) e9) e10) e11) (Qab r4_9 l12)) (Qab r4_10 l13)) e14) (Qab r4_13 l15)) e16) (Qab (Puts.row p15 (Qaa r4_13 e14) (Qab r4_13 l15)) l17))
  refine Qai g4 _ (cat [numA (0),numA (0)]) 51 r4_17 rfl kj (Qaf 51 _ _ g4 51 _ _ r4_17 rfl kj kj (isz (n:=8) kj kj) (eqsz (n:=8) kj kj) kj) fun W18 p18 r4_18=>sg 1 kj <| sgN hK20 <| wp_ret ?_
  exact (show bodyPost _ _ _ .ret _ _ from ret2 (.agg (cat [numA (0),numA (0)])) (.bool false) rfl (Qa8 g4 51 _ r4_18 kj kj (isz (n:=8) kj kj)) (Qbb kj) ⟨rfl,(Puts.ext p18 (Puts.ext p17 (Ext.tr x15 e16) (qT x15.size l17)) (qT x1.size l4))⟩)
theorem QoD (xs ys:List Int) (hx:xs.length=32) (hb:Qaj xs) (ys_len:ys.length=32) (s0 s1 s2 s3 s4 s5 s6 r:Int) (ho:(nth xs 31/128==1)=true) (hc:decide (ys=(xs).set 31 (nth xs 31%128))=true)
    (c0:∀ W,Calls Tryd.prog 44 #[.agg (ints .u8 ((xs).set 31 (nth xs 31%128)))] W (Ret W (.agg (numA (s0)))))
    (c1:∀ W,Calls Tryd.prog 66 #[.agg (numA (s0)),.agg (numA (s0))] W (Ret W (.agg (numA (s1)))))
    (c2:∀ W,Calls Tryd.prog 66 #[.agg (numA (s1)),.agg (numA (dN))] W (Ret W (.agg (numA (s2)))))
    (c3:∀ W,Calls Tryd.prog 68 #[.agg (numA (s2)),.agg (numA (1))] W (Ret W (.agg (numA (s3)))))
    (c4:∀ W,Calls Tryd.prog 69 #[.agg (numA (s1)),.agg (numA (1))] W (Ret W (.agg (numA (s4)))))
    (c5:∀ W,Calls Tryd.prog 70 #[.agg (numA (s3))] W (Ret W (.agg (numA (s5)))))
    (c6:∀ W,Calls Tryd.prog 66 #[.agg (numA (s4)),.agg (numA (s5))] W (Ret W (.agg (numA (s6)))))
    (cb:∀ W,Calls Tryd.prog 50 #[.agg (numA (s0))] W (Ret W (.agg (ints .u8 ys))))
    (cr:∀ W,Calls Tryd.prog 71 #[.agg (numA (s6))] W (Ret W (.tuple #[.agg (numA (r)),.bool false])))
    (w:World) (tB:TypeId) (hB:w.heap[2]? = some (.cells (ints .u8 Qb6) tB)):Calls Tryd.prog 34 #[.agg (ints .u8 (xs))] w (Ret w (.tuple #[.agg (cat [numA (0),numA (0)]),.bool false])):=by
  refine enter 63 [(0,.agg (ints .u8 (xs)))] Tryd.func34 rfl rfl kj rfl <| sgC fun K2 hK2=>Qah (ints .u8 (xs)) 23 1 rfl kj kj fun g3 W1 l3 e1 r3_1=>?_
  have x1:=Ext.tr (Rely.Ext.refl w) e1
  refine Qah (cat [numA (0),numA (0)]) 51 2 rfl kj kj fun g4 W2 l4 e2 r4_2=>sg 1 kj <| sgN hK2 <| sgC fun K5 hK5=>sg 1 kj ?_
  have r3_2:=(Qaa r3_1 e2)
  refine Qag (.int .u8 (nth (xs) 31)) 12 rfl kj (Qak 5 _ g3 31 23 _ (.int .u8 (nth (xs) 31)) _ r3_2 rfl kj (Qar _ _ _ (Nat.lt_of_lt_of_eq (by decide) hx.symm)) kj) <| Qag (.int .u8 (nth xs 31/128)) 13 rfl kj (Qby .shr _ _ _ _ .u8 .u64 _ _ _ rfl kj kj (Qdo _ _ _ _ _ _ (show (0:Int)≤7 by decide) (shr7 _))) <| Qag (.bool true) 14 rfl kj (Qam (u:=.bool (((nth xs 31/128)==1))) kj (congrArg Value.bool ho)) <| sg 1 kj <| sgN hK5 <| sgC fun K6 hK6=>sg 1 kj <| Qag (.int .u8 (nth (xs) 31)) 16 rfl kj (Qak 5 _ g3 31 23 _ (.int .u8 (nth (xs) 31)) _ r3_2 rfl kj (Qar _ _ _ (Nat.lt_of_lt_of_eq (by decide) hx.symm)) kj) <| Qag (.int .u8 (nth xs 31%128)) 17 rfl kj (Qam (u:=.int .u8 (bits .and .u8 ((nth (xs) 31)) (127))) kj (congrArg (Value.int .u8) (Qgb _ (hb.nth 31)))) <| sg 1 kj ?_
  refine Qai g3 _ (ints .u8 ((xs).set 31 (nth xs 31%128))) 23 r3_2 rfl kj (Qaz 5 _ _ g3 31 23 _ _ r3_2 rfl kj kj kj (Nat.lt_of_lt_of_eq (show 31<32 by decide) hx.symm)) fun W3 p3 r3_3=>sgN hK6 <| sgC fun K7 hK7=>Qag (.agg (ints .u8 ((xs).set 31 (nth xs 31%128)))) 19 rfl kj (Qac 23 _ g3 23 _ _ r3_3 rfl kj kj (isz (n:=32) kj ((Qad _ _).trans ((List.length_set ..).trans hx)))) <| Qap (.agg (numA (s0))) 44 #[.agg (ints .u8 ((xs).set 31 (nth xs 31%128)))] 20 rfl kj kj (c0 _) fun W4 e4=>?_
  have x4:=Ext.tr (Puts.ext p3 (Ext.tr x1 e2) (qT (Rely.Ext.refl w).size l3)) e4
  refine Qah (numA (0)) 49 5 rfl kj kj fun g8 W5 l8 e5 r8_5=>Qai g8 _ (numA (s0)) 49 r8_5 rfl kj (Qaf 49 _ _ g8 49 _ _ r8_5 rfl kj kj (isz (n:=4) kj kj) (eqsz (n:=4) kj kj) kj) fun W6 p6 r8_6=>sgN hK7 <| wp_seq_k fun K9 hK9=>wp_seq_k fun K10 hK10=>QaC 4 [⟨none,[(5,none)]⟩,⟨none,[(21,some 0)]⟩,⟨none,[(1,none)]⟩,⟨none,[(22,some 1),(23,some 2)]⟩] kj kj fun F hF=>Qal (.agg (numA (s0))) kj kj (fun W hR=>(Qac 49 _ g8 49 _ _ (Qaa (Qaa r8_6 (Qae _)) hR) rfl kj kj (isz (n:=4) kj kj))) <| Qan (.agg (ints .u8 (ys))) 50 #[.agg (numA (s0))] kj kj (fun W=>kj) (fun W hR=>cb W) <| Qal (.agg (ints .u8 ((xs).set 31 (nth xs 31%128)))) kj kj (fun W hR=>(Qac 23 _ g3 23 _ _ (Qaa (Qaa (Puts.row p6 (Qaa (Qaa r3_3 e4) e5) (Qab (Qaa r3_3 e4) l8)) (Qae _)) hR) rfl kj kj (isz (n:=32) kj ((Qad _ _).trans ((List.length_set ..).trans hx))))) <| Qay (.bool false) kj kj (fun W=>(Qbj 23 _ _ _ _ _ (.bool false) rfl kj kj kj (key_neq _ _ true ys_len (by rw [List.length_set]; exact hx) hc _))) ?_
  refine Qa2 (hF _ kj fun W7 e7=>?_)
  simp only [ups,up,Kn.val,List.take_succ_cons,List.take_zero,List.drop_succ_cons,List.drop_zero,List.nil_append,List.cons_append]
  clear hF
  refine sgN hK10 <| cond_false kj <| wp_skip <| hK9 _ _ <| sgC fun K11 hK11=>?_
  have r8_7:=(Qaa r8_6 e7)
  refine Qag (.agg (numA (s0))) 26 rfl kj (Qac 49 _ g8 49 _ _ r8_7 rfl kj kj (isz (n:=4) kj kj)) <| Qag (.agg (numA (s0))) 27 rfl kj (Qac 49 _ g8 49 _ _ r8_7 rfl kj kj (isz (n:=4) kj kj)) <| Qap (.agg (numA (s1))) 66 #[.agg (numA (s0)),.agg (numA (s0))] 28 rfl kj kj (c1 _) fun W8 e8=>Qap (.agg (numA (1))) 67 #[.int .i64 1] 29 rfl kj kj ((QdC 1 (by decide)) _) fun W9 e9=>?_
  have x9:=Ext.tr (Ext.tr (Ext.tr (Puts.ext p6 (Ext.tr x4 e5) (qT x4.size l8)) e7) e8) e9
  refine Qah (numA (0)) 49 6 rfl kj kj fun g12 W10 l12 e10 r12_10=>?_
  have x10:=Ext.tr x9 e10
  refine Qah (numA (0)) 49 7 rfl kj kj fun g13 W11 l13 e11 r13_11=>?_
  have r12_11:=(Qaa r12_10 e11)
  refine Qai g12 _ (numA (s1)) 49 r12_11 rfl kj (Qaf 49 _ _ g12 49 _ _ r12_11 rfl kj kj (isz (n:=4) kj kj) (eqsz (n:=4) kj kj) kj) fun W12 p12 r12_12=>?_
  have r13_12:=(Puts.row p12 r13_11 (Qas r12_10 l13))
  refine Qai g13 _ (numA (1)) 49 r13_12 rfl kj (Qaf 49 _ _ g13 49 _ _ r13_12 rfl kj kj (isz (n:=4) kj kj) (eqsz (n:=4) kj kj) kj) fun W13 p13 r13_13=>?_
  have x13:=Puts.ext p13 (Puts.ext p12 (Ext.tr x10 e11) (qT x9.size l12)) (qT x10.size l13)
  refine sgN hK11 <| wp_seq_k fun K14 hK14=>QaX 7 [⟨none,[(6,none)]⟩,⟨none,[]⟩,⟨none,[(31,some 1)]⟩,⟨none,[(30,some 0),(32,some 2)]⟩,⟨none,[(7,none)]⟩,⟨none,[(33,some 3),(34,some 4)]⟩,⟨none,[]⟩] [6] kj kj kj fun F hF=>?_
  have r12_13:=(Puts.row p13 r12_12 (Qab r12_10 l13))
  refine Qal (.agg (numA (s1))) kj kj (fun W hR=>(Qac 49 _ g12 49 _ _ (Qaa (Qaa r12_13 (Qae _)) hR) rfl kj kj (isz (n:=4) kj kj))) ?_
  have r1_4:=(Qaa (Puts.row p3 (Qaa (Qaa hB e1) e2) (Qab hB l3)) e4)
  have r1_9:=(Qaa (Qaa (Qaa (Puts.row p6 (Qaa r1_4 e5) (Qab r1_4 l8)) e7) e8) e9)
  refine Qal (.agg (ints .u8 (Qb6))) kj kj (fun W hR=>(Qac 23 _ 2 tB _ _ (Qaa (Qaa (Puts.row p13 (Puts.row p12 (Qaa (Qaa (Qaa (Qaa (Qaa (Puts.row p6 (Qaa (Qaa (Puts.row p3 (Qaa (Qaa hB e1) e2) (Qab hB l3)) e4) e5) (Qab r1_4 l8)) e7) e8) e9) e10) e11) (Qab r1_9 l12)) (Qab (Qaa r1_9 e10) l13)) (Qae _)) hR) rfl kj kj (isz (n:=32) kj ((Qad _ _).trans (by decide))))) <| Qan (.agg (numA (dN))) 44 #[.agg (ints .u8 (Qb6))] kj kj (fun W=>kj) (fun W hR=>QfO W) <| Qan (.agg (numA (s2))) 66 #[.agg (numA (s1)),.agg (numA (dN))] kj kj (fun W=>kj) (fun W hR=>c2 W) <| Qal (.agg (numA (1))) kj kj (fun W hR=>(Qac 49 _ g13 49 _ _ (Qaa (Qaa r13_13 (Qae _)) hR) rfl kj kj (isz (n:=4) kj kj))) <| Qan (.agg (numA (s3))) 68 #[.agg (numA (s2)),.agg (numA (1))] kj kj (fun W=>kj) (fun W hR=>c3 W) <| Qb5 (numA (0)) 49 kj (qR _) kj (fun W=>kj) <| Qa2 (hF _ kj fun W14 e14=>?_)
  simp only [fins,up,List.take_succ_cons,List.take_zero,List.drop_succ_cons,List.drop_zero,List.nil_append,List.cons_append]
  intro g15 l15 r15_14 n15
  clear hF
  refine Qai g15 _ (numA (s3)) 49 r15_14 rfl kj (Qaf 49 _ _ g15 49 _ _ r15_14 rfl kj kj (isz (n:=4) kj kj) (eqsz (n:=4) kj kj) kj) fun W15 p15 r15_15=>?_
  have x15:=Puts.ext p15 (Ext.tr x13 e14) (qT x13.size l15)
  refine sgN hK14 <| wp_seq_k fun K16 hK16=>QaL (fun W=>True) [⟨none,[(6,none)]⟩,⟨none,[(7,none)]⟩,⟨none,[(37,some 0),(38,some 1)]⟩,⟨none,[(8,none)]⟩,⟨none,[(40,some 3)]⟩,⟨none,[(39,some 2),(41,some 4)]⟩,⟨none,[(42,some 5)]⟩,⟨none,[(43,some 6)]⟩,⟨none,[(36,some 7)]⟩,⟨none,[(36,some 7)]⟩,⟨none,[]⟩,⟨none,[(9,some 10),(44,some 8)]⟩,⟨none,[(45,some 9)]⟩] [10] [9,12] kj kj kj (fun W hR=>trivial) fun F hF=>QaO (.agg (numA (s1))) kj kj kj rfl (fun W hR=>(Qac 49 _ g12 49 _ _ (Qaa (Qaa (Puts.row p15 (Qaa r12_13 e14) (Qab r12_13 l15)) (Qae _)) hR) rfl kj kj (isz (n:=4) kj kj))) <| QaO (.agg (numA (1))) kj kj kj rfl (fun W hR=>(Qac 49 _ g13 49 _ _ (Qaa (Qaa (Puts.row p15 (Qaa r13_13 e14) (Qab r13_13 l15)) (Qae _)) hR) rfl kj kj (isz (n:=4) kj kj))) <| Qbq (.agg (numA (s4))) 69 #[.agg (numA (s1)),.agg (numA (1))] kj kj kj rfl (fun W=>kj) (fun W hR=>c4 W) <| QaO (.agg (numA (s3))) kj kj kj rfl (fun W hR=>(Qac 49 _ g15 49 _ _ (Qaa (Qaa r15_15 (Qae _)) hR) rfl kj kj (isz (n:=4) kj kj))) <| Qbq (.agg (numA (s5))) 70 #[.agg (numA (s3))] kj kj kj rfl (fun W=>kj) (fun W hR=>c5 W) <| Qbq (.agg (numA (s6))) 66 #[.agg (numA (s4)),.agg (numA (s5))] kj kj kj rfl (fun W=>kj) (fun W hR=>c6 W) <| Qbq (.tuple #[.agg (numA (r)),.bool false]) 71 #[.agg (numA (s6))] kj kj kj rfl (fun W=>kj) (fun W hR=>cr W) ?_
  refine Qav (.tuple #[.agg (numA (r)),.bool false]) kj kj rfl (fun W=>kj) <| Qav (.agg (numA (r))) kj kj rfl (fun W=>kj) <| Qav (.bool false) kj kj rfl (fun W=>kj) <| Qgg (numA (0)) 49 kj kj (qR _) kj rfl (fun W=>kj) <| Qbt rfl <| Qav (.bool false) kj kj rfl (fun W=>kj) <| QcA (hF _ kj fun W16 e16=>?_)
  simp only [List.nil_append,List.cons_append,fins,up]
  intro g17 l17 r17_16 n17
  clear hF
  refine Qbd _ g17 _ (numA (r)) 49 r17_16 rfl (Qaf 49 _ _ g17 49 _ _ r17_16 rfl kj kj (isz (n:=4) kj kj) (eqsz (n:=4) kj kj) kj) (fun W hp=>trivial) fun W17 p17 r17_17=>QbI <| hK16 _ _ <| wp_seq_k fun K18 hK18=>sgB kj <| cond_true kj <| sgC fun K20 hK20=>sg 1 kj ?_
  have r4_4:=(Qaa (Puts.row p3 r4_2 (Qas r3_1 l4)) e4)
  have r4_9:=(Qaa (Qaa (Qaa (Puts.row p6 (Qaa r4_4 e5) (Qab r4_4 l8)) e7) e8) e9)
  have r4_10:=(Qaa r4_9 e10)
  have r4_13:=(Puts.row p13 (Puts.row p12 (Qaa r4_10 e11) (Qab r4_9 l12)) (Qab r4_10 l13))
  have r4_17:=(Puts.row p17 (Qaa (Puts.row p15 (Qaa (Puts.row p13 (Puts.row p12 (Qaa (Qaa (Qaa (Qaa (Qaa (Puts.row p6 (Qaa (Qaa (Puts.row p3 r4_2 (Qas r3_1 l4)) e4) e5) (Qab r4_4 l8)) e7) e8) e9) e10) e11) (Qab r4_9 l12)) (Qab r4_10 l13)) e14) (Qab r4_13 l15)) e16) (Qab (Puts.row p15 (Qaa r4_13 e14) (Qab r4_13 l15)) l17))
  refine Qai g4 _ (cat [numA (0),numA (0)]) 51 r4_17 rfl kj (Qaf 51 _ _ g4 51 _ _ r4_17 rfl kj kj (isz (n:=8) kj kj) (eqsz (n:=8) kj kj) kj) fun W18 p18 r4_18=>sg 1 kj <| sgN hK20 <| wp_ret ?_
  exact (show bodyPost _ _ _ .ret _ _ from ret2 (.agg (cat [numA (0),numA (0)])) (.bool false) rfl (Qa8 g4 51 _ r4_18 kj kj (isz (n:=8) kj kj)) (Qbb kj) ⟨rfl,(Puts.ext p18 (Puts.ext p17 (Ext.tr x15 e16) (qT x15.size l17)) (qT x1.size l4))⟩)
theorem QoC (xs ys:List Int) (hx:xs.length=32) (hb:Qaj xs) (ys_len:ys.length=32) (s0 s1 s2 s3 s4 s5 s6 r:Int) (ho:(nth xs 31/128==1)=true) (hc:decide (ys=(xs).set 31 (nth xs 31%128))=true) (h_r:isN r) (hz:(r==0)=true)
    (c0:∀ W,Calls Tryd.prog 44 #[.agg (ints .u8 ((xs).set 31 (nth xs 31%128)))] W (Ret W (.agg (numA (s0)))))
    (c1:∀ W,Calls Tryd.prog 66 #[.agg (numA (s0)),.agg (numA (s0))] W (Ret W (.agg (numA (s1)))))
    (c2:∀ W,Calls Tryd.prog 66 #[.agg (numA (s1)),.agg (numA (dN))] W (Ret W (.agg (numA (s2)))))
    (c3:∀ W,Calls Tryd.prog 68 #[.agg (numA (s2)),.agg (numA (1))] W (Ret W (.agg (numA (s3)))))
    (c4:∀ W,Calls Tryd.prog 69 #[.agg (numA (s1)),.agg (numA (1))] W (Ret W (.agg (numA (s4)))))
    (c5:∀ W,Calls Tryd.prog 70 #[.agg (numA (s3))] W (Ret W (.agg (numA (s5)))))
    (c6:∀ W,Calls Tryd.prog 66 #[.agg (numA (s4)),.agg (numA (s5))] W (Ret W (.agg (numA (s6)))))
    (cb:∀ W,Calls Tryd.prog 50 #[.agg (numA (s0))] W (Ret W (.agg (ints .u8 ys))))
    (cr:∀ W,Calls Tryd.prog 71 #[.agg (numA (s6))] W (Ret W (.tuple #[.agg (numA (r)),.bool true])))
    (w:World) (tB:TypeId) (hB:w.heap[2]? = some (.cells (ints .u8 Qb6) tB)):Calls Tryd.prog 34 #[.agg (ints .u8 (xs))] w (Ret w (.tuple #[.agg (cat [numA (0),numA (0)]),.bool false])):=by
  refine enter 63 [(0,.agg (ints .u8 (xs)))] Tryd.func34 rfl rfl kj rfl <| sgC fun K2 hK2=>Qah (ints .u8 (xs)) 23 1 rfl kj kj fun g3 W1 l3 e1 r3_1=>?_
  have x1:=Ext.tr (Rely.Ext.refl w) e1
  refine Qah (cat [numA (0),numA (0)]) 51 2 rfl kj kj fun g4 W2 l4 e2 r4_2=>sg 1 kj <| sgN hK2 <| sgC fun K5 hK5=>sg 1 kj ?_
  have r3_2:=(Qaa r3_1 e2)
  refine Qag (.int .u8 (nth (xs) 31)) 12 rfl kj (Qak 5 _ g3 31 23 _ (.int .u8 (nth (xs) 31)) _ r3_2 rfl kj (Qar _ _ _ (Nat.lt_of_lt_of_eq (by decide) hx.symm)) kj) <| Qag (.int .u8 (nth xs 31/128)) 13 rfl kj (Qby .shr _ _ _ _ .u8 .u64 _ _ _ rfl kj kj (Qdo _ _ _ _ _ _ (show (0:Int)≤7 by decide) (shr7 _))) <| Qag (.bool true) 14 rfl kj (Qam (u:=.bool (((nth xs 31/128)==1))) kj (congrArg Value.bool ho)) <| sg 1 kj <| sgN hK5 <| sgC fun K6 hK6=>sg 1 kj <| Qag (.int .u8 (nth (xs) 31)) 16 rfl kj (Qak 5 _ g3 31 23 _ (.int .u8 (nth (xs) 31)) _ r3_2 rfl kj (Qar _ _ _ (Nat.lt_of_lt_of_eq (by decide) hx.symm)) kj) <| Qag (.int .u8 (nth xs 31%128)) 17 rfl kj (Qam (u:=.int .u8 (bits .and .u8 ((nth (xs) 31)) (127))) kj (congrArg (Value.int .u8) (Qgb _ (hb.nth 31)))) <| sg 1 kj ?_
  refine Qai g3 _ (ints .u8 ((xs).set 31 (nth xs 31%128))) 23 r3_2 rfl kj (Qaz 5 _ _ g3 31 23 _ _ r3_2 rfl kj kj kj (Nat.lt_of_lt_of_eq (show 31<32 by decide) hx.symm)) fun W3 p3 r3_3=>sgN hK6 <| sgC fun K7 hK7=>Qag (.agg (ints .u8 ((xs).set 31 (nth xs 31%128)))) 19 rfl kj (Qac 23 _ g3 23 _ _ r3_3 rfl kj kj (isz (n:=32) kj ((Qad _ _).trans ((List.length_set ..).trans hx)))) <| Qap (.agg (numA (s0))) 44 #[.agg (ints .u8 ((xs).set 31 (nth xs 31%128)))] 20 rfl kj kj (c0 _) fun W4 e4=>?_
  have x4:=Ext.tr (Puts.ext p3 (Ext.tr x1 e2) (qT (Rely.Ext.refl w).size l3)) e4
  refine Qah (numA (0)) 49 5 rfl kj kj fun g8 W5 l8 e5 r8_5=>Qai g8 _ (numA (s0)) 49 r8_5 rfl kj (Qaf 49 _ _ g8 49 _ _ r8_5 rfl kj kj (isz (n:=4) kj kj) (eqsz (n:=4) kj kj) kj) fun W6 p6 r8_6=>sgN hK7 <| wp_seq_k fun K9 hK9=>wp_seq_k fun K10 hK10=>QaC 4 [⟨none,[(5,none)]⟩,⟨none,[(21,some 0)]⟩,⟨none,[(1,none)]⟩,⟨none,[(22,some 1),(23,some 2)]⟩] kj kj fun F hF=>Qal (.agg (numA (s0))) kj kj (fun W hR=>(Qac 49 _ g8 49 _ _ (Qaa (Qaa r8_6 (Qae _)) hR) rfl kj kj (isz (n:=4) kj kj))) <| Qan (.agg (ints .u8 (ys))) 50 #[.agg (numA (s0))] kj kj (fun W=>kj) (fun W hR=>cb W) <| Qal (.agg (ints .u8 ((xs).set 31 (nth xs 31%128)))) kj kj (fun W hR=>(Qac 23 _ g3 23 _ _ (Qaa (Qaa (Puts.row p6 (Qaa (Qaa r3_3 e4) e5) (Qab (Qaa r3_3 e4) l8)) (Qae _)) hR) rfl kj kj (isz (n:=32) kj ((Qad _ _).trans ((List.length_set ..).trans hx))))) <| Qay (.bool false) kj kj (fun W=>(Qbj 23 _ _ _ _ _ (.bool false) rfl kj kj kj (key_neq _ _ true ys_len (by rw [List.length_set]; exact hx) hc _))) ?_
  refine Qa2 (hF _ kj fun W7 e7=>?_)
  simp only [ups,up,Kn.val,List.take_succ_cons,List.take_zero,List.drop_succ_cons,List.drop_zero,List.nil_append,List.cons_append]
  clear hF
  refine sgN hK10 <| cond_false kj <| wp_skip <| hK9 _ _ <| sgC fun K11 hK11=>?_
  have r8_7:=(Qaa r8_6 e7)
  refine Qag (.agg (numA (s0))) 26 rfl kj (Qac 49 _ g8 49 _ _ r8_7 rfl kj kj (isz (n:=4) kj kj)) <| Qag (.agg (numA (s0))) 27 rfl kj (Qac 49 _ g8 49 _ _ r8_7 rfl kj kj (isz (n:=4) kj kj)) <| Qap (.agg (numA (s1))) 66 #[.agg (numA (s0)),.agg (numA (s0))] 28 rfl kj kj (c1 _) fun W8 e8=>Qap (.agg (numA (1))) 67 #[.int .i64 1] 29 rfl kj kj ((QdC 1 (by decide)) _) fun W9 e9=>?_
  have x9:=Ext.tr (Ext.tr (Ext.tr (Puts.ext p6 (Ext.tr x4 e5) (qT x4.size l8)) e7) e8) e9
  refine Qah (numA (0)) 49 6 rfl kj kj fun g12 W10 l12 e10 r12_10=>?_
  have x10:=Ext.tr x9 e10
  refine Qah (numA (0)) 49 7 rfl kj kj fun g13 W11 l13 e11 r13_11=>?_
  have r12_11:=(Qaa r12_10 e11)
  refine Qai g12 _ (numA (s1)) 49 r12_11 rfl kj (Qaf 49 _ _ g12 49 _ _ r12_11 rfl kj kj (isz (n:=4) kj kj) (eqsz (n:=4) kj kj) kj) fun W12 p12 r12_12=>?_
  have r13_12:=(Puts.row p12 r13_11 (Qas r12_10 l13))
  refine Qai g13 _ (numA (1)) 49 r13_12 rfl kj (Qaf 49 _ _ g13 49 _ _ r13_12 rfl kj kj (isz (n:=4) kj kj) (eqsz (n:=4) kj kj) kj) fun W13 p13 r13_13=>?_
  have x13:=Puts.ext p13 (Puts.ext p12 (Ext.tr x10 e11) (qT x9.size l12)) (qT x10.size l13)
  refine sgN hK11 <| wp_seq_k fun K14 hK14=>QaX 7 [⟨none,[(6,none)]⟩,⟨none,[]⟩,⟨none,[(31,some 1)]⟩,⟨none,[(30,some 0),(32,some 2)]⟩,⟨none,[(7,none)]⟩,⟨none,[(33,some 3),(34,some 4)]⟩,⟨none,[]⟩] [6] kj kj kj fun F hF=>?_
  have r12_13:=(Puts.row p13 r12_12 (Qab r12_10 l13))
  refine Qal (.agg (numA (s1))) kj kj (fun W hR=>(Qac 49 _ g12 49 _ _ (Qaa (Qaa r12_13 (Qae _)) hR) rfl kj kj (isz (n:=4) kj kj))) ?_
  have r1_4:=(Qaa (Puts.row p3 (Qaa (Qaa hB e1) e2) (Qab hB l3)) e4)
  have r1_9:=(Qaa (Qaa (Qaa (Puts.row p6 (Qaa r1_4 e5) (Qab r1_4 l8)) e7) e8) e9)
  refine Qal (.agg (ints .u8 (Qb6))) kj kj (fun W hR=>(Qac 23 _ 2 tB _ _ (Qaa (Qaa (Puts.row p13 (Puts.row p12 (Qaa (Qaa (Qaa (Qaa (Qaa (Puts.row p6 (Qaa (Qaa (Puts.row p3 (Qaa (Qaa hB e1) e2) (Qab hB l3)) e4) e5) (Qab r1_4 l8)) e7) e8) e9) e10) e11) (Qab r1_9 l12)) (Qab (Qaa r1_9 e10) l13)) (Qae _)) hR) rfl kj kj (isz (n:=32) kj ((Qad _ _).trans (by decide))))) <| Qan (.agg (numA (dN))) 44 #[.agg (ints .u8 (Qb6))] kj kj (fun W=>kj) (fun W hR=>QfO W) <| Qan (.agg (numA (s2))) 66 #[.agg (numA (s1)),.agg (numA (dN))] kj kj (fun W=>kj) (fun W hR=>c2 W) <| Qal (.agg (numA (1))) kj kj (fun W hR=>(Qac 49 _ g13 49 _ _ (Qaa (Qaa r13_13 (Qae _)) hR) rfl kj kj (isz (n:=4) kj kj))) <| Qan (.agg (numA (s3))) 68 #[.agg (numA (s2)),.agg (numA (1))] kj kj (fun W=>kj) (fun W hR=>c3 W) <| Qb5 (numA (0)) 49 kj (qR _) kj (fun W=>kj) <| Qa2 (hF _ kj fun W14 e14=>?_)
  simp only [fins,up,List.take_succ_cons,List.take_zero,List.drop_succ_cons,List.drop_zero,List.nil_append,List.cons_append]
  intro g15 l15 r15_14 n15
  clear hF
  refine Qai g15 _ (numA (s3)) 49 r15_14 rfl kj (Qaf 49 _ _ g15 49 _ _ r15_14 rfl kj kj (isz (n:=4) kj kj) (eqsz (n:=4) kj kj) kj) fun W15 p15 r15_15=>?_
  have x15:=Puts.ext p15 (Ext.tr x13 e14) (qT x13.size l15)
  refine sgN hK14 <| wp_seq_k fun K16 hK16=>QaL (fun W=>True) [⟨none,[(6,none)]⟩,⟨none,[(7,none)]⟩,⟨none,[(37,some 0),(38,some 1)]⟩,⟨none,[(8,none)]⟩,⟨none,[(40,some 3)]⟩,⟨none,[(39,some 2),(41,some 4)]⟩,⟨none,[(42,some 5)]⟩,⟨none,[(43,some 6)]⟩,⟨none,[(36,some 7)]⟩,⟨none,[(36,some 7)]⟩,⟨none,[]⟩,⟨none,[(9,some 10),(44,some 8)]⟩,⟨none,[(45,some 9)]⟩] [10] [9,12] kj kj kj (fun W hR=>trivial) fun F hF=>QaO (.agg (numA (s1))) kj kj kj rfl (fun W hR=>(Qac 49 _ g12 49 _ _ (Qaa (Qaa (Puts.row p15 (Qaa r12_13 e14) (Qab r12_13 l15)) (Qae _)) hR) rfl kj kj (isz (n:=4) kj kj))) <| QaO (.agg (numA (1))) kj kj kj rfl (fun W hR=>(Qac 49 _ g13 49 _ _ (Qaa (Qaa (Puts.row p15 (Qaa r13_13 e14) (Qab r13_13 l15)) (Qae _)) hR) rfl kj kj (isz (n:=4) kj kj))) <| Qbq (.agg (numA (s4))) 69 #[.agg (numA (s1)),.agg (numA (1))] kj kj kj rfl (fun W=>kj) (fun W hR=>c4 W) <| QaO (.agg (numA (s3))) kj kj kj rfl (fun W hR=>(Qac 49 _ g15 49 _ _ (Qaa (Qaa r15_15 (Qae _)) hR) rfl kj kj (isz (n:=4) kj kj))) <| Qbq (.agg (numA (s5))) 70 #[.agg (numA (s3))] kj kj kj rfl (fun W=>kj) (fun W hR=>c5 W) <| Qbq (.agg (numA (s6))) 66 #[.agg (numA (s4)),.agg (numA (s5))] kj kj kj rfl (fun W=>kj) (fun W hR=>c6 W) <| Qbq (.tuple #[.agg (numA (r)),.bool true]) 71 #[.agg (numA (s6))] kj kj kj rfl (fun W=>kj) (fun W hR=>cr W) ?_
  refine Qav (.tuple #[.agg (numA (r)),.bool true]) kj kj rfl (fun W=>kj) <| Qav (.agg (numA (r))) kj kj rfl (fun W=>kj) <| Qav (.bool true) kj kj rfl (fun W=>kj) <| Qgg (numA (0)) 49 kj kj (qR _) kj rfl (fun W=>kj) <| Qbt rfl <| Qav (.bool true) kj kj rfl (fun W=>kj) <| QcA (hF _ kj fun W16 e16=>?_)
  simp only [List.nil_append,List.cons_append,fins,up]
  intro g17 l17 r17_16 n17
  clear hF
  refine Qbd _ g17 _ (numA (r)) 49 r17_16 rfl (Qaf 49 _ _ g17 49 _ _ r17_16 rfl kj kj (isz (n:=4) kj kj) (eqsz (n:=4) kj kj) kj) (fun W hp=>trivial) fun W17 p17 r17_17=>QbI <| hK16 _ _ <| wp_seq_k fun K18 hK18=>sgC fun K19 hK19=>sg 5 kj <| Qag (.agg (numA (r))) 51 rfl kj (Qac 49 _ g17 49 _ _ r17_17 rfl kj kj (isz (n:=4) kj kj)) <| sg 1 kj <| Qag (.bool true) 53 rfl kj (Qcq 49 _ _ _ _ _ (.bool true) rfl kj kj kj (Qle _ _ true h_r (num_isN 0) hz _)) <| sg 2 kj ?_
  refine sgN hK19 <| cond_true kj <| sgC fun K20 hK20=>sg 1 kj ?_
  have r4_4:=(Qaa (Puts.row p3 r4_2 (Qas r3_1 l4)) e4)
  have r4_9:=(Qaa (Qaa (Qaa (Puts.row p6 (Qaa r4_4 e5) (Qab r4_4 l8)) e7) e8) e9)
  have r4_10:=(Qaa r4_9 e10)
  have r4_13:=(Puts.row p13 (Puts.row p12 (Qaa r4_10 e11) (Qab r4_9 l12)) (Qab r4_10 l13))
  have r4_17:=(Puts.row p17 (Qaa (Puts.row p15 (Qaa (Puts.row p13 (Puts.row p12 (Qaa (Qaa (Qaa (Qaa (Qaa (Puts.row p6 (Qaa (Qaa (Puts.row p3 r4_2 (Qas r3_1 l4)) e4) e5) (Qab r4_4 l8)) e7) e8) e9) e10) e11) (Qab r4_9 l12)) (Qab r4_10 l13)) e14) (Qab r4_13 l15)) e16) (Qab (Puts.row p15 (Qaa r4_13 e14) (Qab r4_13 l15)) l17))
  refine Qai g4 _ (cat [numA (0),numA (0)]) 51 r4_17 rfl kj (Qaf 51 _ _ g4 51 _ _ r4_17 rfl kj kj (isz (n:=8) kj kj) (eqsz (n:=8) kj kj) kj) fun W18 p18 r4_18=>sg 1 kj <| sgN hK20 <| wp_ret ?_
  exact (show bodyPost _ _ _ .ret _ _ from ret2 (.agg (cat [numA (0),numA (0)])) (.bool false) rfl (Qa8 g4 51 _ r4_18 kj kj (isz (n:=8) kj kj)) (Qbb kj) ⟨rfl,(Puts.ext p18 (Puts.ext p17 (Ext.tr x15 e16) (qT x15.size l17)) (qT x1.size l4))⟩)
theorem QoB (xs ys:List Int) (hx:xs.length=32) (hb:Qaj xs) (ys_len:ys.length=32) (s0 s1 s2 s3 s4 s5 s6 r ng px pl:Int) (ho:(nth xs 31/128==1)=true) (hc:decide (ys=(xs).set 31 (nth xs 31%128))=true) (h_r:isN r) (hz:(r==0)=false)
    (c0:∀ W,Calls Tryd.prog 44 #[.agg (ints .u8 ((xs).set 31 (nth xs 31%128)))] W (Ret W (.agg (numA (s0)))))
    (c1:∀ W,Calls Tryd.prog 66 #[.agg (numA (s0)),.agg (numA (s0))] W (Ret W (.agg (numA (s1)))))
    (c2:∀ W,Calls Tryd.prog 66 #[.agg (numA (s1)),.agg (numA (dN))] W (Ret W (.agg (numA (s2)))))
    (c3:∀ W,Calls Tryd.prog 68 #[.agg (numA (s2)),.agg (numA (1))] W (Ret W (.agg (numA (s3)))))
    (c4:∀ W,Calls Tryd.prog 69 #[.agg (numA (s1)),.agg (numA (1))] W (Ret W (.agg (numA (s4)))))
    (c5:∀ W,Calls Tryd.prog 70 #[.agg (numA (s3))] W (Ret W (.agg (numA (s5)))))
    (c6:∀ W,Calls Tryd.prog 66 #[.agg (numA (s4)),.agg (numA (s5))] W (Ret W (.agg (numA (s6)))))
    (cb:∀ W,Calls Tryd.prog 50 #[.agg (numA (s0))] W (Ret W (.agg (ints .u8 ys))))
    (cr:∀ W,Calls Tryd.prog 71 #[.agg (numA (s6))] W (Ret W (.tuple #[.agg (numA (r)),.bool true])))
    (cn:∀ W,Calls Tryd.prog 72 #[num r] W (Ret W (num ng)))
    (cp:∀ W,Calls Tryd.prog 43 #[num ng,num s0] W (Ret W (.agg (cat [numA px,numA pl]))))
    (w:World) (tB:TypeId) (hB:w.heap[2]? = some (.cells (ints .u8 Qb6) tB)):Calls Tryd.prog 34 #[.agg (ints .u8 (xs))] w (Ret w (.tuple #[.agg (cat [numA (px),numA (pl)]),.bool true])):=by
  refine enter 63 [(0,.agg (ints .u8 (xs)))] Tryd.func34 rfl rfl kj rfl <| sgC fun K2 hK2=>Qah (ints .u8 (xs)) 23 1 rfl kj kj fun g3 W1 l3 e1 r3_1=>?_
  have x1:=Ext.tr (Rely.Ext.refl w) e1
  refine Qah (cat [numA (0),numA (0)]) 51 2 rfl kj kj fun g4 W2 l4 e2 r4_2=>sg 1 kj <| sgN hK2 <| sgC fun K5 hK5=>sg 1 kj ?_
  have r3_2:=(Qaa r3_1 e2)
  refine Qag (.int .u8 (nth (xs) 31)) 12 rfl kj (Qak 5 _ g3 31 23 _ (.int .u8 (nth (xs) 31)) _ r3_2 rfl kj (Qar _ _ _ (Nat.lt_of_lt_of_eq (by decide) hx.symm)) kj) <| Qag (.int .u8 (nth xs 31/128)) 13 rfl kj (Qby .shr _ _ _ _ .u8 .u64 _ _ _ rfl kj kj (Qdo _ _ _ _ _ _ (show (0:Int)≤7 by decide) (shr7 _))) <| Qag (.bool true) 14 rfl kj (Qam (u:=.bool (((nth xs 31/128)==1))) kj (congrArg Value.bool ho)) <| sg 1 kj <| sgN hK5 <| sgC fun K6 hK6=>sg 1 kj <| Qag (.int .u8 (nth (xs) 31)) 16 rfl kj (Qak 5 _ g3 31 23 _ (.int .u8 (nth (xs) 31)) _ r3_2 rfl kj (Qar _ _ _ (Nat.lt_of_lt_of_eq (by decide) hx.symm)) kj) <| Qag (.int .u8 (nth xs 31%128)) 17 rfl kj (Qam (u:=.int .u8 (bits .and .u8 ((nth (xs) 31)) (127))) kj (congrArg (Value.int .u8) (Qgb _ (hb.nth 31)))) <| sg 1 kj ?_
  refine Qai g3 _ (ints .u8 ((xs).set 31 (nth xs 31%128))) 23 r3_2 rfl kj (Qaz 5 _ _ g3 31 23 _ _ r3_2 rfl kj kj kj (Nat.lt_of_lt_of_eq (show 31<32 by decide) hx.symm)) fun W3 p3 r3_3=>sgN hK6 <| sgC fun K7 hK7=>Qag (.agg (ints .u8 ((xs).set 31 (nth xs 31%128)))) 19 rfl kj (Qac 23 _ g3 23 _ _ r3_3 rfl kj kj (isz (n:=32) kj ((Qad _ _).trans ((List.length_set ..).trans hx)))) <| Qap (.agg (numA (s0))) 44 #[.agg (ints .u8 ((xs).set 31 (nth xs 31%128)))] 20 rfl kj kj (c0 _) fun W4 e4=>?_
  have x4:=Ext.tr (Puts.ext p3 (Ext.tr x1 e2) (qT (Rely.Ext.refl w).size l3)) e4
  refine Qah (numA (0)) 49 5 rfl kj kj fun g8 W5 l8 e5 r8_5=>Qai g8 _ (numA (s0)) 49 r8_5 rfl kj (Qaf 49 _ _ g8 49 _ _ r8_5 rfl kj kj (isz (n:=4) kj kj) (eqsz (n:=4) kj kj) kj) fun W6 p6 r8_6=>sgN hK7 <| wp_seq_k fun K9 hK9=>wp_seq_k fun K10 hK10=>QaC 4 [⟨none,[(5,none)]⟩,⟨none,[(21,some 0)]⟩,⟨none,[(1,none)]⟩,⟨none,[(22,some 1),(23,some 2)]⟩] kj kj fun F hF=>Qal (.agg (numA (s0))) kj kj (fun W hR=>(Qac 49 _ g8 49 _ _ (Qaa (Qaa r8_6 (Qae _)) hR) rfl kj kj (isz (n:=4) kj kj))) <| Qan (.agg (ints .u8 (ys))) 50 #[.agg (numA (s0))] kj kj (fun W=>kj) (fun W hR=>cb W) <| Qal (.agg (ints .u8 ((xs).set 31 (nth xs 31%128)))) kj kj (fun W hR=>(Qac 23 _ g3 23 _ _ (Qaa (Qaa (Puts.row p6 (Qaa (Qaa r3_3 e4) e5) (Qab (Qaa r3_3 e4) l8)) (Qae _)) hR) rfl kj kj (isz (n:=32) kj ((Qad _ _).trans ((List.length_set ..).trans hx))))) <| Qay (.bool false) kj kj (fun W=>(Qbj 23 _ _ _ _ _ (.bool false) rfl kj kj kj (key_neq _ _ true ys_len (by rw [List.length_set]; exact hx) hc _))) ?_
  refine Qa2 (hF _ kj fun W7 e7=>?_)
  simp only [ups,up,Kn.val,List.take_succ_cons,List.take_zero,List.drop_succ_cons,List.drop_zero,List.nil_append,List.cons_append]
  clear hF
  refine sgN hK10 <| cond_false kj <| wp_skip <| hK9 _ _ <| sgC fun K11 hK11=>?_
  have r8_7:=(Qaa r8_6 e7)
  refine Qag (.agg (numA (s0))) 26 rfl kj (Qac 49 _ g8 49 _ _ r8_7 rfl kj kj (isz (n:=4) kj kj)) <| Qag (.agg (numA (s0))) 27 rfl kj (Qac 49 _ g8 49 _ _ r8_7 rfl kj kj (isz (n:=4) kj kj)) <| Qap (.agg (numA (s1))) 66 #[.agg (numA (s0)),.agg (numA (s0))] 28 rfl kj kj (c1 _) fun W8 e8=>Qap (.agg (numA (1))) 67 #[.int .i64 1] 29 rfl kj kj ((QdC 1 (by decide)) _) fun W9 e9=>?_
  have x9:=Ext.tr (Ext.tr (Ext.tr (Puts.ext p6 (Ext.tr x4 e5) (qT x4.size l8)) e7) e8) e9
  refine Qah (numA (0)) 49 6 rfl kj kj fun g12 W10 l12 e10 r12_10=>?_
  have x10:=Ext.tr x9 e10
  refine Qah (numA (0)) 49 7 rfl kj kj fun g13 W11 l13 e11 r13_11=>?_
  have r12_11:=(Qaa r12_10 e11)
  refine Qai g12 _ (numA (s1)) 49 r12_11 rfl kj (Qaf 49 _ _ g12 49 _ _ r12_11 rfl kj kj (isz (n:=4) kj kj) (eqsz (n:=4) kj kj) kj) fun W12 p12 r12_12=>?_
  have r13_12:=(Puts.row p12 r13_11 (Qas r12_10 l13))
  refine Qai g13 _ (numA (1)) 49 r13_12 rfl kj (Qaf 49 _ _ g13 49 _ _ r13_12 rfl kj kj (isz (n:=4) kj kj) (eqsz (n:=4) kj kj) kj) fun W13 p13 r13_13=>?_
  have x13:=Puts.ext p13 (Puts.ext p12 (Ext.tr x10 e11) (qT x9.size l12)) (qT x10.size l13)
  refine sgN hK11 <| wp_seq_k fun K14 hK14=>QaX 7 [⟨none,[(6,none)]⟩,⟨none,[]⟩,⟨none,[(31,some 1)]⟩,⟨none,[(30,some 0),(32,some 2)]⟩,⟨none,[(7,none)]⟩,⟨none,[(33,some 3),(34,some 4)]⟩,⟨none,[]⟩] [6] kj kj kj fun F hF=>?_
  have r12_13:=(Puts.row p13 r12_12 (Qab r12_10 l13))
  refine Qal (.agg (numA (s1))) kj kj (fun W hR=>(Qac 49 _ g12 49 _ _ (Qaa (Qaa r12_13 (Qae _)) hR) rfl kj kj (isz (n:=4) kj kj))) ?_
  have r1_4:=(Qaa (Puts.row p3 (Qaa (Qaa hB e1) e2) (Qab hB l3)) e4)
  have r1_9:=(Qaa (Qaa (Qaa (Puts.row p6 (Qaa r1_4 e5) (Qab r1_4 l8)) e7) e8) e9)
  refine Qal (.agg (ints .u8 (Qb6))) kj kj (fun W hR=>(Qac 23 _ 2 tB _ _ (Qaa (Qaa (Puts.row p13 (Puts.row p12 (Qaa (Qaa (Qaa (Qaa (Qaa (Puts.row p6 (Qaa (Qaa (Puts.row p3 (Qaa (Qaa hB e1) e2) (Qab hB l3)) e4) e5) (Qab r1_4 l8)) e7) e8) e9) e10) e11) (Qab r1_9 l12)) (Qab (Qaa r1_9 e10) l13)) (Qae _)) hR) rfl kj kj (isz (n:=32) kj ((Qad _ _).trans (by decide))))) <| Qan (.agg (numA (dN))) 44 #[.agg (ints .u8 (Qb6))] kj kj (fun W=>kj) (fun W hR=>QfO W) <| Qan (.agg (numA (s2))) 66 #[.agg (numA (s1)),.agg (numA (dN))] kj kj (fun W=>kj) (fun W hR=>c2 W) <| Qal (.agg (numA (1))) kj kj (fun W hR=>(Qac 49 _ g13 49 _ _ (Qaa (Qaa r13_13 (Qae _)) hR) rfl kj kj (isz (n:=4) kj kj))) <| Qan (.agg (numA (s3))) 68 #[.agg (numA (s2)),.agg (numA (1))] kj kj (fun W=>kj) (fun W hR=>c3 W) <| Qb5 (numA (0)) 49 kj (qR _) kj (fun W=>kj) <| Qa2 (hF _ kj fun W14 e14=>?_)
  simp only [fins,up,List.take_succ_cons,List.take_zero,List.drop_succ_cons,List.drop_zero,List.nil_append,List.cons_append]
  intro g15 l15 r15_14 n15
  clear hF
  refine Qai g15 _ (numA (s3)) 49 r15_14 rfl kj (Qaf 49 _ _ g15 49 _ _ r15_14 rfl kj kj (isz (n:=4) kj kj) (eqsz (n:=4) kj kj) kj) fun W15 p15 r15_15=>?_
  have x15:=Puts.ext p15 (Ext.tr x13 e14) (qT x13.size l15)
  refine sgN hK14 <| wp_seq_k fun K16 hK16=>QaL (fun W=>True) [⟨none,[(6,none)]⟩,⟨none,[(7,none)]⟩,⟨none,[(37,some 0),(38,some 1)]⟩,⟨none,[(8,none)]⟩,⟨none,[(40,some 3)]⟩,⟨none,[(39,some 2),(41,some 4)]⟩,⟨none,[(42,some 5)]⟩,⟨none,[(43,some 6)]⟩,⟨none,[(36,some 7)]⟩,⟨none,[(36,some 7)]⟩,⟨none,[]⟩,⟨none,[(9,some 10),(44,some 8)]⟩,⟨none,[(45,some 9)]⟩] [10] [9,12] kj kj kj (fun W hR=>trivial) fun F hF=>QaO (.agg (numA (s1))) kj kj kj rfl (fun W hR=>(Qac 49 _ g12 49 _ _ (Qaa (Qaa (Puts.row p15 (Qaa r12_13 e14) (Qab r12_13 l15)) (Qae _)) hR) rfl kj kj (isz (n:=4) kj kj))) <| QaO (.agg (numA (1))) kj kj kj rfl (fun W hR=>(Qac 49 _ g13 49 _ _ (Qaa (Qaa (Puts.row p15 (Qaa r13_13 e14) (Qab r13_13 l15)) (Qae _)) hR) rfl kj kj (isz (n:=4) kj kj))) <| Qbq (.agg (numA (s4))) 69 #[.agg (numA (s1)),.agg (numA (1))] kj kj kj rfl (fun W=>kj) (fun W hR=>c4 W) <| QaO (.agg (numA (s3))) kj kj kj rfl (fun W hR=>(Qac 49 _ g15 49 _ _ (Qaa (Qaa r15_15 (Qae _)) hR) rfl kj kj (isz (n:=4) kj kj))) <| Qbq (.agg (numA (s5))) 70 #[.agg (numA (s3))] kj kj kj rfl (fun W=>kj) (fun W hR=>c5 W) <| Qbq (.agg (numA (s6))) 66 #[.agg (numA (s4)),.agg (numA (s5))] kj kj kj rfl (fun W=>kj) (fun W hR=>c6 W) <| Qbq (.tuple #[.agg (numA (r)),.bool true]) 71 #[.agg (numA (s6))] kj kj kj rfl (fun W=>kj) (fun W hR=>cr W) ?_
  refine Qav (.tuple #[.agg (numA (r)),.bool true]) kj kj rfl (fun W=>kj) <| Qav (.agg (numA (r))) kj kj rfl (fun W=>kj) <| Qav (.bool true) kj kj rfl (fun W=>kj) <| Qgg (numA (0)) 49 kj kj (qR _) kj rfl (fun W=>kj) <| Qbt rfl <| Qav (.bool true) kj kj rfl (fun W=>kj) <| QcA (hF _ kj fun W16 e16=>?_)
  simp only [List.nil_append,List.cons_append,fins,up]
  intro g17 l17 r17_16 n17
  have b17:=qT x15.size l17
  clear hF
  refine Qbd _ g17 _ (numA (r)) 49 r17_16 rfl (Qaf 49 _ _ g17 49 _ _ r17_16 rfl kj kj (isz (n:=4) kj kj) (eqsz (n:=4) kj kj) kj) (fun W hp=>trivial) fun W17 p17 r17_17=>QbI <| hK16 _ _ <| wp_seq_k fun K18 hK18=>sgC fun K19 hK19=>sg 5 kj <| Qag (.agg (numA (r))) 51 rfl kj (Qac 49 _ g17 49 _ _ r17_17 rfl kj kj (isz (n:=4) kj kj)) <| sg 1 kj <| Qag (.bool false) 53 rfl kj (Qcq 49 _ _ _ _ _ (.bool false) rfl kj kj kj (Qle _ _ false h_r (num_isN 0) hz _)) <| sg 2 kj ?_
  refine sgN hK19 <| cond_false kj <| wp_skip <| hK18 _ _ <| wp_seq_k fun K20 hK20=>sgB kj <| cond_true kj <| Qat <| Qag (.agg (numA (r))) 58 rfl kj (Qac 49 _ g17 49 _ _ r17_17 rfl kj kj (isz (n:=4) kj kj)) <| Qap (.agg (numA (ng))) 72 #[.agg (numA (r))] 59 rfl kj kj (cn _) fun W18 e18=>?_
  have r17_18:=(Qaa r17_17 e18)
  refine Qai g17 _ (numA (ng)) 49 r17_18 rfl kj (Qaf 49 _ _ g17 49 _ _ r17_18 rfl kj kj (isz (n:=4) kj kj) (eqsz (n:=4) kj kj) kj) fun W19 p19 r17_19=>Qa7 <| hK20 _ _ <| sgC fun K22 hK22=>Qag (.agg (numA (ng))) 60 rfl kj (Qac 49 _ g17 49 _ _ r17_19 rfl kj kj (isz (n:=4) kj kj)) ?_
  have r8_9:=(Qaa (Qaa r8_7 e8) e9)
  have r8_10:=(Qaa r8_9 e10)
  have r8_13:=(Puts.row p13 (Puts.row p12 (Qaa r8_10 e11) (Qab r8_9 l12)) (Qab r8_10 l13))
  have r8_15:=(Puts.row p15 (Qaa r8_13 e14) (Qab r8_13 l15))
  refine Qag (.agg (numA (s0))) 61 rfl kj (Qac 49 _ g8 49 _ _ (Puts.row p19 (Qaa (Puts.row p17 (Qaa (Puts.row p15 (Qaa (Puts.row p13 (Puts.row p12 (Qaa (Qaa (Qaa (Qaa r8_7 e8) e9) e10) e11) (Qab r8_9 l12)) (Qab r8_10 l13)) e14) (Qab r8_13 l15)) e16) (Qab r8_15 l17)) e18) (Qab r8_15 l17)) rfl kj kj (isz (n:=4) kj kj)) <| Qap (.agg (cat [numA (px),numA (pl)])) 43 #[.agg (numA (ng)),.agg (numA (s0))] 62 rfl kj kj (cp _) fun W20 e20=>?_
  have r4_4:=(Qaa (Puts.row p3 r4_2 (Qas r3_1 l4)) e4)
  have r4_9:=(Qaa (Qaa (Qaa (Puts.row p6 (Qaa r4_4 e5) (Qab r4_4 l8)) e7) e8) e9)
  have r4_10:=(Qaa r4_9 e10)
  have r4_13:=(Puts.row p13 (Puts.row p12 (Qaa r4_10 e11) (Qab r4_9 l12)) (Qab r4_10 l13))
  have r4_15:=(Puts.row p15 (Qaa r4_13 e14) (Qab r4_13 l15))
  have r4_20:=(Qaa (Puts.row p19 (Qaa (Puts.row p17 (Qaa (Puts.row p15 (Qaa (Puts.row p13 (Puts.row p12 (Qaa (Qaa (Qaa (Qaa (Qaa (Puts.row p6 (Qaa (Qaa (Puts.row p3 r4_2 (Qas r3_1 l4)) e4) e5) (Qab r4_4 l8)) e7) e8) e9) e10) e11) (Qab r4_9 l12)) (Qab r4_10 l13)) e14) (Qab r4_13 l15)) e16) (Qab r4_15 l17)) e18) (Qab r4_15 l17)) e20)
  refine Qai g4 _ (cat [numA (px),numA (pl)]) 51 r4_20 rfl kj (Qaf 51 _ _ g4 51 _ _ r4_20 rfl kj kj (isz (n:=8) kj kj) (eqsz (n:=8) kj kj) kj) fun W21 p21 r4_21=>sg 1 kj <| sgN hK22 <| wp_ret ?_
  exact (show bodyPost _ _ _ .ret _ _ from ret2 (.agg (cat [numA (px),numA (pl)])) (.bool true) rfl (Qa8 g4 51 _ r4_21 kj kj (isz (n:=8) kj kj)) (Qbb kj) ⟨rfl,(Puts.ext p21 (Ext.tr (Puts.ext p19 (Ext.tr (Puts.ext p17 (Ext.tr x15 e16) b17) e18) b17) e20) (qT x1.size l4))⟩)
theorem QoA (xs ys:List Int) (hx:xs.length=32) (hb:Qaj xs) (ys_len:ys.length=32) (s0 s1 s2 s3 s4 s5 s6 r px pl:Int) (ho:(nth xs 31/128==1)=false) (hc:decide (ys=(xs).set 31 (nth xs 31%128))=true)
    (c0:∀ W,Calls Tryd.prog 44 #[.agg (ints .u8 ((xs).set 31 (nth xs 31%128)))] W (Ret W (.agg (numA (s0)))))
    (c1:∀ W,Calls Tryd.prog 66 #[.agg (numA (s0)),.agg (numA (s0))] W (Ret W (.agg (numA (s1)))))
    (c2:∀ W,Calls Tryd.prog 66 #[.agg (numA (s1)),.agg (numA (dN))] W (Ret W (.agg (numA (s2)))))
    (c3:∀ W,Calls Tryd.prog 68 #[.agg (numA (s2)),.agg (numA (1))] W (Ret W (.agg (numA (s3)))))
    (c4:∀ W,Calls Tryd.prog 69 #[.agg (numA (s1)),.agg (numA (1))] W (Ret W (.agg (numA (s4)))))
    (c5:∀ W,Calls Tryd.prog 70 #[.agg (numA (s3))] W (Ret W (.agg (numA (s5)))))
    (c6:∀ W,Calls Tryd.prog 66 #[.agg (numA (s4)),.agg (numA (s5))] W (Ret W (.agg (numA (s6)))))
    (cb:∀ W,Calls Tryd.prog 50 #[.agg (numA (s0))] W (Ret W (.agg (ints .u8 ys))))
    (cr:∀ W,Calls Tryd.prog 71 #[.agg (numA (s6))] W (Ret W (.tuple #[.agg (numA (r)),.bool true])))
    (cp:∀ W,Calls Tryd.prog 43 #[num r,num s0] W (Ret W (.agg (cat [numA px,numA pl]))))
    (w:World) (tB:TypeId) (hB:w.heap[2]? = some (.cells (ints .u8 Qb6) tB)):Calls Tryd.prog 34 #[.agg (ints .u8 (xs))] w (Ret w (.tuple #[.agg (cat [numA (px),numA (pl)]),.bool true])):=by
  refine enter 63 [(0,.agg (ints .u8 (xs)))] Tryd.func34 rfl rfl kj rfl <| sgC fun K2 hK2=>Qah (ints .u8 (xs)) 23 1 rfl kj kj fun g3 W1 l3 e1 r3_1=>?_
  have x1:=Ext.tr (Rely.Ext.refl w) e1
  refine Qah (cat [numA (0),numA (0)]) 51 2 rfl kj kj fun g4 W2 l4 e2 r4_2=>sg 1 kj <| sgN hK2 <| sgC fun K5 hK5=>sg 1 kj ?_
  have r3_2:=(Qaa r3_1 e2)
  refine Qag (.int .u8 (nth (xs) 31)) 12 rfl kj (Qak 5 _ g3 31 23 _ (.int .u8 (nth (xs) 31)) _ r3_2 rfl kj (Qar _ _ _ (Nat.lt_of_lt_of_eq (by decide) hx.symm)) kj) <| Qag (.int .u8 (nth xs 31/128)) 13 rfl kj (Qby .shr _ _ _ _ .u8 .u64 _ _ _ rfl kj kj (Qdo _ _ _ _ _ _ (show (0:Int)≤7 by decide) (shr7 _))) <| Qag (.bool false) 14 rfl kj (Qam (u:=.bool (((nth xs 31/128)==1))) kj (congrArg Value.bool ho)) <| sg 1 kj <| sgN hK5 <| sgC fun K6 hK6=>sg 1 kj <| Qag (.int .u8 (nth (xs) 31)) 16 rfl kj (Qak 5 _ g3 31 23 _ (.int .u8 (nth (xs) 31)) _ r3_2 rfl kj (Qar _ _ _ (Nat.lt_of_lt_of_eq (by decide) hx.symm)) kj) <| Qag (.int .u8 (nth xs 31%128)) 17 rfl kj (Qam (u:=.int .u8 (bits .and .u8 ((nth (xs) 31)) (127))) kj (congrArg (Value.int .u8) (Qgb _ (hb.nth 31)))) <| sg 1 kj ?_
  refine Qai g3 _ (ints .u8 ((xs).set 31 (nth xs 31%128))) 23 r3_2 rfl kj (Qaz 5 _ _ g3 31 23 _ _ r3_2 rfl kj kj kj (Nat.lt_of_lt_of_eq (show 31<32 by decide) hx.symm)) fun W3 p3 r3_3=>sgN hK6 <| sgC fun K7 hK7=>Qag (.agg (ints .u8 ((xs).set 31 (nth xs 31%128)))) 19 rfl kj (Qac 23 _ g3 23 _ _ r3_3 rfl kj kj (isz (n:=32) kj ((Qad _ _).trans ((List.length_set ..).trans hx)))) <| Qap (.agg (numA (s0))) 44 #[.agg (ints .u8 ((xs).set 31 (nth xs 31%128)))] 20 rfl kj kj (c0 _) fun W4 e4=>?_
  have x4:=Ext.tr (Puts.ext p3 (Ext.tr x1 e2) (qT (Rely.Ext.refl w).size l3)) e4
  refine Qah (numA (0)) 49 5 rfl kj kj fun g8 W5 l8 e5 r8_5=>Qai g8 _ (numA (s0)) 49 r8_5 rfl kj (Qaf 49 _ _ g8 49 _ _ r8_5 rfl kj kj (isz (n:=4) kj kj) (eqsz (n:=4) kj kj) kj) fun W6 p6 r8_6=>sgN hK7 <| wp_seq_k fun K9 hK9=>wp_seq_k fun K10 hK10=>QaC 4 [⟨none,[(5,none)]⟩,⟨none,[(21,some 0)]⟩,⟨none,[(1,none)]⟩,⟨none,[(22,some 1),(23,some 2)]⟩] kj kj fun F hF=>Qal (.agg (numA (s0))) kj kj (fun W hR=>(Qac 49 _ g8 49 _ _ (Qaa (Qaa r8_6 (Qae _)) hR) rfl kj kj (isz (n:=4) kj kj))) <| Qan (.agg (ints .u8 (ys))) 50 #[.agg (numA (s0))] kj kj (fun W=>kj) (fun W hR=>cb W) <| Qal (.agg (ints .u8 ((xs).set 31 (nth xs 31%128)))) kj kj (fun W hR=>(Qac 23 _ g3 23 _ _ (Qaa (Qaa (Puts.row p6 (Qaa (Qaa r3_3 e4) e5) (Qab (Qaa r3_3 e4) l8)) (Qae _)) hR) rfl kj kj (isz (n:=32) kj ((Qad _ _).trans ((List.length_set ..).trans hx))))) <| Qay (.bool false) kj kj (fun W=>(Qbj 23 _ _ _ _ _ (.bool false) rfl kj kj kj (key_neq _ _ true ys_len (by rw [List.length_set]; exact hx) hc _))) ?_
  refine Qa2 (hF _ kj fun W7 e7=>?_)
  simp only [ups,up,Kn.val,List.take_succ_cons,List.take_zero,List.drop_succ_cons,List.drop_zero,List.nil_append,List.cons_append]
  clear hF
  refine sgN hK10 <| cond_false kj <| wp_skip <| hK9 _ _ <| sgC fun K11 hK11=>?_
  have r8_7:=(Qaa r8_6 e7)
  refine Qag (.agg (numA (s0))) 26 rfl kj (Qac 49 _ g8 49 _ _ r8_7 rfl kj kj (isz (n:=4) kj kj)) <| Qag (.agg (numA (s0))) 27 rfl kj (Qac 49 _ g8 49 _ _ r8_7 rfl kj kj (isz (n:=4) kj kj)) <| Qap (.agg (numA (s1))) 66 #[.agg (numA (s0)),.agg (numA (s0))] 28 rfl kj kj (c1 _) fun W8 e8=>Qap (.agg (numA (1))) 67 #[.int .i64 1] 29 rfl kj kj ((QdC 1 (by decide)) _) fun W9 e9=>?_
  have x9:=Ext.tr (Ext.tr (Ext.tr (Puts.ext p6 (Ext.tr x4 e5) (qT x4.size l8)) e7) e8) e9
  refine Qah (numA (0)) 49 6 rfl kj kj fun g12 W10 l12 e10 r12_10=>?_
  have x10:=Ext.tr x9 e10
  refine Qah (numA (0)) 49 7 rfl kj kj fun g13 W11 l13 e11 r13_11=>?_
  have r12_11:=(Qaa r12_10 e11)
  refine Qai g12 _ (numA (s1)) 49 r12_11 rfl kj (Qaf 49 _ _ g12 49 _ _ r12_11 rfl kj kj (isz (n:=4) kj kj) (eqsz (n:=4) kj kj) kj) fun W12 p12 r12_12=>?_
  have r13_12:=(Puts.row p12 r13_11 (Qas r12_10 l13))
  refine Qai g13 _ (numA (1)) 49 r13_12 rfl kj (Qaf 49 _ _ g13 49 _ _ r13_12 rfl kj kj (isz (n:=4) kj kj) (eqsz (n:=4) kj kj) kj) fun W13 p13 r13_13=>?_
  have x13:=Puts.ext p13 (Puts.ext p12 (Ext.tr x10 e11) (qT x9.size l12)) (qT x10.size l13)
  refine sgN hK11 <| wp_seq_k fun K14 hK14=>QaX 7 [⟨none,[(6,none)]⟩,⟨none,[]⟩,⟨none,[(31,some 1)]⟩,⟨none,[(30,some 0),(32,some 2)]⟩,⟨none,[(7,none)]⟩,⟨none,[(33,some 3),(34,some 4)]⟩,⟨none,[]⟩] [6] kj kj kj fun F hF=>?_
  have r12_13:=(Puts.row p13 r12_12 (Qab r12_10 l13))
  refine Qal (.agg (numA (s1))) kj kj (fun W hR=>(Qac 49 _ g12 49 _ _ (Qaa (Qaa r12_13 (Qae _)) hR) rfl kj kj (isz (n:=4) kj kj))) ?_
  have r1_4:=(Qaa (Puts.row p3 (Qaa (Qaa hB e1) e2) (Qab hB l3)) e4)
  have r1_9:=(Qaa (Qaa (Qaa (Puts.row p6 (Qaa r1_4 e5) (Qab r1_4 l8)) e7) e8) e9)
  refine Qal (.agg (ints .u8 (Qb6))) kj kj (fun W hR=>(Qac 23 _ 2 tB _ _ (Qaa (Qaa (Puts.row p13 (Puts.row p12 (Qaa (Qaa (Qaa (Qaa (Qaa (Puts.row p6 (Qaa (Qaa (Puts.row p3 (Qaa (Qaa hB e1) e2) (Qab hB l3)) e4) e5) (Qab r1_4 l8)) e7) e8) e9) e10) e11) (Qab r1_9 l12)) (Qab (Qaa r1_9 e10) l13)) (Qae _)) hR) rfl kj kj (isz (n:=32) kj ((Qad _ _).trans (by decide))))) <| Qan (.agg (numA (dN))) 44 #[.agg (ints .u8 (Qb6))] kj kj (fun W=>kj) (fun W hR=>QfO W) <| Qan (.agg (numA (s2))) 66 #[.agg (numA (s1)),.agg (numA (dN))] kj kj (fun W=>kj) (fun W hR=>c2 W) <| Qal (.agg (numA (1))) kj kj (fun W hR=>(Qac 49 _ g13 49 _ _ (Qaa (Qaa r13_13 (Qae _)) hR) rfl kj kj (isz (n:=4) kj kj))) <| Qan (.agg (numA (s3))) 68 #[.agg (numA (s2)),.agg (numA (1))] kj kj (fun W=>kj) (fun W hR=>c3 W) <| Qb5 (numA (0)) 49 kj (qR _) kj (fun W=>kj) <| Qa2 (hF _ kj fun W14 e14=>?_)
  simp only [fins,up,List.take_succ_cons,List.take_zero,List.drop_succ_cons,List.drop_zero,List.nil_append,List.cons_append]
  intro g15 l15 r15_14 n15
  clear hF
  refine Qai g15 _ (numA (s3)) 49 r15_14 rfl kj (Qaf 49 _ _ g15 49 _ _ r15_14 rfl kj kj (isz (n:=4) kj kj) (eqsz (n:=4) kj kj) kj) fun W15 p15 r15_15=>?_
  have x15:=Puts.ext p15 (Ext.tr x13 e14) (qT x13.size l15)
  refine sgN hK14 <| wp_seq_k fun K16 hK16=>QaL (fun W=>True) [⟨none,[(6,none)]⟩,⟨none,[(7,none)]⟩,⟨none,[(37,some 0),(38,some 1)]⟩,⟨none,[(8,none)]⟩,⟨none,[(40,some 3)]⟩,⟨none,[(39,some 2),(41,some 4)]⟩,⟨none,[(42,some 5)]⟩,⟨none,[(43,some 6)]⟩,⟨none,[(36,some 7)]⟩,⟨none,[(36,some 7)]⟩,⟨none,[]⟩,⟨none,[(9,some 10),(44,some 8)]⟩,⟨none,[(45,some 9)]⟩] [10] [9,12] kj kj kj (fun W hR=>trivial) fun F hF=>QaO (.agg (numA (s1))) kj kj kj rfl (fun W hR=>(Qac 49 _ g12 49 _ _ (Qaa (Qaa (Puts.row p15 (Qaa r12_13 e14) (Qab r12_13 l15)) (Qae _)) hR) rfl kj kj (isz (n:=4) kj kj))) <| QaO (.agg (numA (1))) kj kj kj rfl (fun W hR=>(Qac 49 _ g13 49 _ _ (Qaa (Qaa (Puts.row p15 (Qaa r13_13 e14) (Qab r13_13 l15)) (Qae _)) hR) rfl kj kj (isz (n:=4) kj kj))) <| Qbq (.agg (numA (s4))) 69 #[.agg (numA (s1)),.agg (numA (1))] kj kj kj rfl (fun W=>kj) (fun W hR=>c4 W) <| QaO (.agg (numA (s3))) kj kj kj rfl (fun W hR=>(Qac 49 _ g15 49 _ _ (Qaa (Qaa r15_15 (Qae _)) hR) rfl kj kj (isz (n:=4) kj kj))) <| Qbq (.agg (numA (s5))) 70 #[.agg (numA (s3))] kj kj kj rfl (fun W=>kj) (fun W hR=>c5 W) <| Qbq (.agg (numA (s6))) 66 #[.agg (numA (s4)),.agg (numA (s5))] kj kj kj rfl (fun W=>kj) (fun W hR=>c6 W) <| Qbq (.tuple #[.agg (numA (r)),.bool true]) 71 #[.agg (numA (s6))] kj kj kj rfl (fun W=>kj) (fun W hR=>cr W) ?_
  refine Qav (.tuple #[.agg (numA (r)),.bool true]) kj kj rfl (fun W=>kj) <| Qav (.agg (numA (r))) kj kj rfl (fun W=>kj) <| Qav (.bool true) kj kj rfl (fun W=>kj) <| Qgg (numA (0)) 49 kj kj (qR _) kj rfl (fun W=>kj) <| Qbt rfl <| Qav (.bool true) kj kj rfl (fun W=>kj) <| QcA (hF _ kj fun W16 e16=>?_)
  simp only [List.nil_append,List.cons_append,fins,up]
  intro g17 l17 r17_16 n17
  clear hF
  refine Qbd _ g17 _ (numA (r)) 49 r17_16 rfl (Qaf 49 _ _ g17 49 _ _ r17_16 rfl kj kj (isz (n:=4) kj kj) (eqsz (n:=4) kj kj) kj) (fun W hp=>trivial) fun W17 p17 r17_17=>QbI <| hK16 _ _ <| wp_seq_k fun K18 hK18=>sgB kj <| cond_false kj <| wp_skip <| hK18 _ _ <| wp_seq_k fun K20 hK20=>sgB kj ?_
  refine cond_false kj <| wp_skip <| hK20 _ _ <| sgC fun K22 hK22=>Qag (.agg (numA (r))) 60 rfl kj (Qac 49 _ g17 49 _ _ r17_17 rfl kj kj (isz (n:=4) kj kj)) ?_
  have r8_9:=(Qaa (Qaa r8_7 e8) e9)
  have r8_10:=(Qaa r8_9 e10)
  have r8_13:=(Puts.row p13 (Puts.row p12 (Qaa r8_10 e11) (Qab r8_9 l12)) (Qab r8_10 l13))
  refine Qag (.agg (numA (s0))) 61 rfl kj (Qac 49 _ g8 49 _ _ (Puts.row p17 (Qaa (Puts.row p15 (Qaa (Puts.row p13 (Puts.row p12 (Qaa (Qaa (Qaa (Qaa r8_7 e8) e9) e10) e11) (Qab r8_9 l12)) (Qab r8_10 l13)) e14) (Qab r8_13 l15)) e16) (Qab (Puts.row p15 (Qaa r8_13 e14) (Qab r8_13 l15)) l17)) rfl kj kj (isz (n:=4) kj kj)) <| Qap (.agg (cat [numA (px),numA (pl)])) 43 #[.agg (numA (r)),.agg (numA (s0))] 62 rfl kj kj (cp _) fun W18 e18=>?_
  have r4_4:=(Qaa (Puts.row p3 r4_2 (Qas r3_1 l4)) e4)
  have r4_9:=(Qaa (Qaa (Qaa (Puts.row p6 (Qaa r4_4 e5) (Qab r4_4 l8)) e7) e8) e9)
  have r4_10:=(Qaa r4_9 e10)
  have r4_13:=(Puts.row p13 (Puts.row p12 (Qaa r4_10 e11) (Qab r4_9 l12)) (Qab r4_10 l13))
  have r4_18:=(Qaa (Puts.row p17 (Qaa (Puts.row p15 (Qaa (Puts.row p13 (Puts.row p12 (Qaa (Qaa (Qaa (Qaa (Qaa (Puts.row p6 (Qaa (Qaa (Puts.row p3 r4_2 (Qas r3_1 l4)) e4) e5) (Qab r4_4 l8)) e7) e8) e9) e10) e11) (Qab r4_9 l12)) (Qab r4_10 l13)) e14) (Qab r4_13 l15)) e16) (Qab (Puts.row p15 (Qaa r4_13 e14) (Qab r4_13 l15)) l17)) e18)
  refine Qai g4 _ (cat [numA (px),numA (pl)]) 51 r4_18 rfl kj (Qaf 51 _ _ g4 51 _ _ r4_18 rfl kj kj (isz (n:=8) kj kj) (eqsz (n:=8) kj kj) kj) fun W19 p19 r4_19=>sg 1 kj <| sgN hK22 <| wp_ret ?_
  exact (show bodyPost _ _ _ .ret _ _ from ret2 (.agg (cat [numA (px),numA (pl)])) (.bool true) rfl (Qa8 g4 51 _ r4_19 kj kj (isz (n:=8) kj kj)) (Qbb kj) ⟨rfl,(Puts.ext p19 (Ext.tr (Puts.ext p17 (Ext.tr x15 e16) (qT x15.size l17)) e18) (qT x1.size l4))⟩)
theorem Qo9 (xs ys:List Int) (hx:xs.length=32) (hb:Qaj xs) (ys_len:ys.length=32) (s0:Int) (ho:(nth xs 31/128==1)=true) (hc:decide (ys=(xs).set 31 (nth xs 31%128))=false)
    (c0:∀ W,Calls Tryd.prog 44 #[.agg (ints .u8 ((xs).set 31 (nth xs 31%128)))] W (Ret W (.agg (numA (s0)))))
    (cb:∀ W,Calls Tryd.prog 50 #[.agg (numA (s0))] W (Ret W (.agg (ints .u8 ys))))
    (w:World) (tB:TypeId) (hB:w.heap[2]? = some (.cells (ints .u8 Qb6) tB)):Calls Tryd.prog 34 #[.agg (ints .u8 (xs))] w (Ret w (.tuple #[.agg (cat [numA (0),numA (0)]),.bool false])):=by
  refine enter 63 [(0,.agg (ints .u8 (xs)))] Tryd.func34 rfl rfl kj rfl <| sgC fun K2 hK2=>Qah (ints .u8 (xs)) 23 1 rfl kj kj fun g3 W1 l3 e1 r3_1=>?_
  have x1:=Ext.tr (Rely.Ext.refl w) e1
  refine Qah (cat [numA (0),numA (0)]) 51 2 rfl kj kj fun g4 W2 l4 e2 r4_2=>sg 1 kj <| sgN hK2 <| sgC fun K5 hK5=>sg 1 kj ?_
  have r3_2:=(Qaa r3_1 e2)
  refine Qag (.int .u8 (nth (xs) 31)) 12 rfl kj (Qak 5 _ g3 31 23 _ (.int .u8 (nth (xs) 31)) _ r3_2 rfl kj (Qar _ _ _ (Nat.lt_of_lt_of_eq (by decide) hx.symm)) kj) <| Qag (.int .u8 (nth xs 31/128)) 13 rfl kj (Qby .shr _ _ _ _ .u8 .u64 _ _ _ rfl kj kj (Qdo _ _ _ _ _ _ (show (0:Int)≤7 by decide) (shr7 _))) <| Qag (.bool true) 14 rfl kj (Qam (u:=.bool (((nth xs 31/128)==1))) kj (congrArg Value.bool ho)) <| sg 1 kj <| sgN hK5 <| sgC fun K6 hK6=>sg 1 kj <| Qag (.int .u8 (nth (xs) 31)) 16 rfl kj (Qak 5 _ g3 31 23 _ (.int .u8 (nth (xs) 31)) _ r3_2 rfl kj (Qar _ _ _ (Nat.lt_of_lt_of_eq (by decide) hx.symm)) kj) <| Qag (.int .u8 (nth xs 31%128)) 17 rfl kj (Qam (u:=.int .u8 (bits .and .u8 ((nth (xs) 31)) (127))) kj (congrArg (Value.int .u8) (Qgb _ (hb.nth 31)))) <| sg 1 kj ?_
  refine Qai g3 _ (ints .u8 ((xs).set 31 (nth xs 31%128))) 23 r3_2 rfl kj (Qaz 5 _ _ g3 31 23 _ _ r3_2 rfl kj kj kj (Nat.lt_of_lt_of_eq (show 31<32 by decide) hx.symm)) fun W3 p3 r3_3=>sgN hK6 <| sgC fun K7 hK7=>Qag (.agg (ints .u8 ((xs).set 31 (nth xs 31%128)))) 19 rfl kj (Qac 23 _ g3 23 _ _ r3_3 rfl kj kj (isz (n:=32) kj ((Qad _ _).trans ((List.length_set ..).trans hx)))) <| Qap (.agg (numA (s0))) 44 #[.agg (ints .u8 ((xs).set 31 (nth xs 31%128)))] 20 rfl kj kj (c0 _) fun W4 e4=>?_
  have x4:=Ext.tr (Puts.ext p3 (Ext.tr x1 e2) (qT (Rely.Ext.refl w).size l3)) e4
  refine Qah (numA (0)) 49 5 rfl kj kj fun g8 W5 l8 e5 r8_5=>Qai g8 _ (numA (s0)) 49 r8_5 rfl kj (Qaf 49 _ _ g8 49 _ _ r8_5 rfl kj kj (isz (n:=4) kj kj) (eqsz (n:=4) kj kj) kj) fun W6 p6 r8_6=>sgN hK7 <| wp_seq_k fun K9 hK9=>wp_seq_k fun K10 hK10=>QaC 4 [⟨none,[(5,none)]⟩,⟨none,[(21,some 0)]⟩,⟨none,[(1,none)]⟩,⟨none,[(22,some 1),(23,some 2)]⟩] kj kj fun F hF=>Qal (.agg (numA (s0))) kj kj (fun W hR=>(Qac 49 _ g8 49 _ _ (Qaa (Qaa r8_6 (Qae _)) hR) rfl kj kj (isz (n:=4) kj kj))) <| Qan (.agg (ints .u8 (ys))) 50 #[.agg (numA (s0))] kj kj (fun W=>kj) (fun W hR=>cb W) <| Qal (.agg (ints .u8 ((xs).set 31 (nth xs 31%128)))) kj kj (fun W hR=>(Qac 23 _ g3 23 _ _ (Qaa (Qaa (Puts.row p6 (Qaa (Qaa r3_3 e4) e5) (Qab (Qaa r3_3 e4) l8)) (Qae _)) hR) rfl kj kj (isz (n:=32) kj ((Qad _ _).trans ((List.length_set ..).trans hx))))) <| Qay (.bool true) kj kj (fun W=>(Qbj 23 _ _ _ _ _ (.bool true) rfl kj kj kj (key_neq _ _ false ys_len (by rw [List.length_set]; exact hx) hc _))) ?_
  refine Qa2 (hF _ kj fun W7 e7=>?_)
  simp only [ups,up,Kn.val,List.take_succ_cons,List.take_zero,List.drop_succ_cons,List.drop_zero,List.nil_append,List.cons_append]
  clear hF
  refine sgN hK10 <| cond_true kj <| sgC fun K11 hK11=>sg 1 kj ?_
  have r4_7:=(Qaa (Puts.row p6 (Qaa (Qaa (Puts.row p3 r4_2 (Qas r3_1 l4)) e4) e5) (Qab (Qaa (Puts.row p3 r4_2 (Qas r3_1 l4)) e4) l8)) e7)
  refine Qai g4 _ (cat [numA (0),numA (0)]) 51 r4_7 rfl kj (Qaf 51 _ _ g4 51 _ _ r4_7 rfl kj kj (isz (n:=8) kj kj) (eqsz (n:=8) kj kj) kj) fun W8 p8 r4_8=>sg 1 kj <| sgN hK11 <| wp_ret ?_
  exact (show bodyPost _ _ _ .ret _ _ from ret2 (.agg (cat [numA (0),numA (0)])) (.bool false) rfl (Qa8 g4 51 _ r4_8 kj kj (isz (n:=8) kj kj)) (Qbb kj) ⟨rfl,(Puts.ext p8 (Ext.tr (Puts.ext p6 (Ext.tr x4 e5) (qT x4.size l8)) e7) (qT x1.size l4))⟩)
theorem Qov (xs ys:List Int) (hx:xs.length=32) (hb:Qaj xs) (ys_len:ys.length=32) (s0:Int) (ho:decide (nth xs 31≥128)=false) (hc:decide (ys=(xs).set 31 (nth xs 31%128))=false)
    (c0:∀ W,Calls Tryd.prog 60 #[.agg (ints .u8 ((xs).set 31 (nth xs 31%128)))] W (Ret W (.agg (ints .i64 (lims (s0))))))
    (cb:∀ W,Calls Tryd.prog 57 #[.agg (ints .i64 (lims (s0)))] W (Ret W (.agg (ints .u8 ys))))
    (w:World):Calls Tryd.prog 37 #[.agg (ints .u8 (xs))] w (Ret w (.tuple #[.agg (cat [ints .i64 (lims (0)),ints .i64 (lims (1)),ints .i64 (lims (1))]),.bool false])):=by
  refine enter 63 [(0,.agg (ints .u8 (xs)))] Tryd.func37 rfl rfl kj rfl <| sgC fun K1 hK1=>Qah (ints .u8 (xs)) 23 1 rfl kj kj fun g2 W1 l2 e1 r2_1=>?_
  have x1:=Ext.tr (Rely.Ext.refl w) e1
  refine Qah (cat [ints .i64 (lims (0)),ints .i64 (lims (0)),ints .i64 (lims (0))]) 60 2 rfl kj kj fun g3 W2 l3 e2 r3_2=>sg 1 kj <| sgN hK1 <| sgC fun K4 hK4=>sg 1 kj ?_
  have r2_2:=(Qaa r2_1 e2)
  refine Qag (.int .u8 (nth (xs) 31)) 12 rfl kj (Qak 5 _ g2 31 23 _ (.int .u8 (nth (xs) 31)) _ r2_2 rfl kj (Qar _ _ _ (Nat.lt_of_lt_of_eq (by decide) hx.symm)) kj) <| Qag (.bool false) 13 rfl kj (Qam (u:=.bool (decide ((nth (xs) 31)≥128))) kj (congrArg Value.bool ho)) <| sg 1 kj <| sgN hK4 <| sgC fun K5 hK5=>sg 1 kj <| Qag (.int .u8 (nth (xs) 31)) 15 rfl kj (Qak 5 _ g2 31 23 _ (.int .u8 (nth (xs) 31)) _ r2_2 rfl kj (Qar _ _ _ (Nat.lt_of_lt_of_eq (by decide) hx.symm)) kj) <| Qag (.int .u8 (nth xs 31%128)) 16 rfl kj (Qam (u:=.int .u8 (Int.tmod ((nth (xs) 31)) (128))) kj (congrArg (Value.int .u8) (Qek _ (hb.nth 31)))) <| sg 1 kj <| Qai g2 _ (ints .u8 ((xs).set 31 (nth xs 31%128))) 23 r2_2 rfl kj (Qaz 5 _ _ g2 31 23 _ _ r2_2 rfl kj kj kj (Nat.lt_of_lt_of_eq (show 31<32 by decide) hx.symm)) fun W3 p3 r2_3=>?_
  refine sgN hK5 <| sgC fun K6 hK6=>Qag (.agg (ints .u8 ((xs).set 31 (nth xs 31%128)))) 18 rfl kj (Qac 23 _ g2 23 _ _ r2_3 rfl kj kj (isz (n:=32) kj ((Qad _ _).trans ((List.length_set ..).trans hx)))) <| Qap (.agg (ints .i64 (lims (s0)))) 60 #[.agg (ints .u8 ((xs).set 31 (nth xs 31%128)))] 19 rfl kj kj (c0 _) fun W4 e4=>?_
  have x4:=Ext.tr (Puts.ext p3 (Ext.tr x1 e2) (qT (Rely.Ext.refl w).size l2)) e4
  refine Qah (ints .i64 (lims (0))) 58 5 rfl kj kj fun g7 W5 l7 e5 r7_5=>Qai g7 _ (ints .i64 (lims (s0))) 58 r7_5 rfl kj (Qaf 58 _ _ g7 58 _ _ r7_5 rfl kj kj (isz (n:=16) kj kj) (eqsz (n:=16) kj kj) kj) fun W6 p6 r7_6=>sgN hK6 <| wp_seq_k fun K8 hK8=>wp_seq_k fun K9 hK9=>QaC 4 [⟨none,[(5,none)]⟩,⟨none,[(20,some 0)]⟩,⟨none,[(1,none)]⟩,⟨none,[(21,some 1),(22,some 2)]⟩] kj kj fun F hF=>Qal (.agg (ints .i64 (lims (s0)))) kj kj (fun W hR=>(Qac 58 _ g7 58 _ _ (Qaa (Qaa r7_6 (Qae _)) hR) rfl kj kj (isz (n:=16) kj kj))) <| Qan (.agg (ints .u8 (ys))) 57 #[.agg (ints .i64 (lims (s0)))] kj kj (fun W=>kj) (fun W hR=>cb W) <| Qal (.agg (ints .u8 ((xs).set 31 (nth xs 31%128)))) kj kj (fun W hR=>(Qac 23 _ g2 23 _ _ (Qaa (Qaa (Puts.row p6 (Qaa (Qaa r2_3 e4) e5) (Qab (Qaa r2_3 e4) l7)) (Qae _)) hR) rfl kj kj (isz (n:=32) kj ((Qad _ _).trans ((List.length_set ..).trans hx))))) <| Qay (.bool true) kj kj (fun W=>(Qbj 23 _ _ _ _ _ (.bool true) rfl kj kj kj (key_neq _ _ false ys_len (by rw [List.length_set]; exact hx) hc _))) ?_
  refine Qa2 (hF _ kj fun W7 e7=>?_)
  simp only [ups,up,Kn.val,List.take_succ_cons,List.take_zero,List.drop_succ_cons,List.drop_zero,List.nil_append,List.cons_append]
  clear hF
  refine sgN hK9 <| cond_true kj <| sgC fun K10 hK10=>Qap (.agg (cat [ints .i64 (lims (0)),ints .i64 (lims (1)),ints .i64 (lims (1))])) 59 #[] 24 rfl kj kj (nothing _) fun W8 e8=>?_
  have r3_8:=(Qaa (Qaa (Puts.row p6 (Qaa (Qaa (Puts.row p3 r3_2 (Qas r2_1 l3)) e4) e5) (Qab (Qaa (Puts.row p3 r3_2 (Qas r2_1 l3)) e4) l7)) e7) e8)
  refine Qai g3 _ (cat [ints .i64 (lims (0)),ints .i64 (lims (1)),ints .i64 (lims (1))]) 60 r3_8 rfl kj (Qaf 60 _ _ g3 60 _ _ r3_8 rfl kj kj (isz (n:=48) kj kj) (eqsz (n:=48) kj kj) kj) fun W9 p9 r3_9=>sg 1 kj <| sgN hK10 <| wp_ret ?_
  exact (show bodyPost _ _ _ .ret _ _ from ret2 (.agg (cat [ints .i64 (lims (0)),ints .i64 (lims (1)),ints .i64 (lims (1))])) (.bool false) rfl (Qa8 g3 60 _ r3_9 kj kj (isz (n:=48) kj kj)) (Qbb kj) ⟨rfl,(Puts.ext p9 (Ext.tr (Ext.tr (Puts.ext p6 (Ext.tr x4 e5) (qT x4.size l7)) e7) e8) (qT x1.size l3))⟩)
theorem Qou (xs ys:List Int) (hx:xs.length=32) (hb:Qaj xs) (ys_len:ys.length=32) (s0 s1 s2 s3 s4 s5 s6 r:Int) (ho:decide (nth xs 31≥128)=false) (hc:decide (ys=(xs).set 31 (nth xs 31%128))=true)
    (c0:∀ W,Calls Tryd.prog 60 #[.agg (ints .u8 ((xs).set 31 (nth xs 31%128)))] W (Ret W (.agg (ints .i64 (lims (s0))))))
    (c1:∀ W,Calls Tryd.prog 58 #[.agg (ints .i64 (lims (s0))),.agg (ints .i64 (lims (s0)))] W (Ret W (.agg (ints .i64 (lims (s1))))))
    (c2:∀ W,Calls Tryd.prog 58 #[.agg (ints .i64 (lims (dN))),.agg (ints .i64 (lims (s1)))] W (Ret W (.agg (ints .i64 (lims (s2))))))
    (c3:∀ W,Calls Tryd.prog 73 #[.agg (ints .i64 (lims (s2))),.agg (ints .i64 (lims (1)))] W (Ret W (.agg (ints .i64 (lims (s3))))))
    (c4:∀ W,Calls Tryd.prog 76 #[.agg (ints .i64 (lims (s1))),.agg (ints .i64 (lims (1)))] W (Ret W (.agg (ints .i64 (lims (s4))))))
    (c5:∀ W,Calls Tryd.prog 56 #[.agg (ints .i64 (lims (s3)))] W (Ret W (.agg (ints .i64 (lims (s5))))))
    (c6:∀ W,Calls Tryd.prog 58 #[.agg (ints .i64 (lims (s4))),.agg (ints .i64 (lims (s5)))] W (Ret W (.agg (ints .i64 (lims (s6))))))
    (cb:∀ W,Calls Tryd.prog 57 #[.agg (ints .i64 (lims (s0)))] W (Ret W (.agg (ints .u8 ys))))
    (cr:∀ W,Calls Tryd.prog 75 #[.agg (ints .i64 (lims (s6)))] W (Ret W (.tuple #[.agg (ints .i64 (lims (r))),.bool false])))
    (w:World):Calls Tryd.prog 37 #[.agg (ints .u8 (xs))] w (Ret w (.tuple #[.agg (cat [ints .i64 (lims (0)),ints .i64 (lims (1)),ints .i64 (lims (1))]),.bool false])):=by
  refine enter 63 [(0,.agg (ints .u8 (xs)))] Tryd.func37 rfl rfl kj rfl <| sgC fun K1 hK1=>Qah (ints .u8 (xs)) 23 1 rfl kj kj fun g2 W1 l2 e1 r2_1=>?_
  have x1:=Ext.tr (Rely.Ext.refl w) e1
  refine Qah (cat [ints .i64 (lims (0)),ints .i64 (lims (0)),ints .i64 (lims (0))]) 60 2 rfl kj kj fun g3 W2 l3 e2 r3_2=>sg 1 kj <| sgN hK1 <| sgC fun K4 hK4=>sg 1 kj ?_
  have r2_2:=(Qaa r2_1 e2)
  refine Qag (.int .u8 (nth (xs) 31)) 12 rfl kj (Qak 5 _ g2 31 23 _ (.int .u8 (nth (xs) 31)) _ r2_2 rfl kj (Qar _ _ _ (Nat.lt_of_lt_of_eq (by decide) hx.symm)) kj) <| Qag (.bool false) 13 rfl kj (Qam (u:=.bool (decide ((nth (xs) 31)≥128))) kj (congrArg Value.bool ho)) <| sg 1 kj <| sgN hK4 <| sgC fun K5 hK5=>sg 1 kj <| Qag (.int .u8 (nth (xs) 31)) 15 rfl kj (Qak 5 _ g2 31 23 _ (.int .u8 (nth (xs) 31)) _ r2_2 rfl kj (Qar _ _ _ (Nat.lt_of_lt_of_eq (by decide) hx.symm)) kj) <| Qag (.int .u8 (nth xs 31%128)) 16 rfl kj (Qam (u:=.int .u8 (Int.tmod ((nth (xs) 31)) (128))) kj (congrArg (Value.int .u8) (Qek _ (hb.nth 31)))) <| sg 1 kj <| Qai g2 _ (ints .u8 ((xs).set 31 (nth xs 31%128))) 23 r2_2 rfl kj (Qaz 5 _ _ g2 31 23 _ _ r2_2 rfl kj kj kj (Nat.lt_of_lt_of_eq (show 31<32 by decide) hx.symm)) fun W3 p3 r2_3=>?_
  refine sgN hK5 <| sgC fun K6 hK6=>Qag (.agg (ints .u8 ((xs).set 31 (nth xs 31%128)))) 18 rfl kj (Qac 23 _ g2 23 _ _ r2_3 rfl kj kj (isz (n:=32) kj ((Qad _ _).trans ((List.length_set ..).trans hx)))) <| Qap (.agg (ints .i64 (lims (s0)))) 60 #[.agg (ints .u8 ((xs).set 31 (nth xs 31%128)))] 19 rfl kj kj (c0 _) fun W4 e4=>?_
  have x4:=Ext.tr (Puts.ext p3 (Ext.tr x1 e2) (qT (Rely.Ext.refl w).size l2)) e4
  refine Qah (ints .i64 (lims (0))) 58 5 rfl kj kj fun g7 W5 l7 e5 r7_5=>Qai g7 _ (ints .i64 (lims (s0))) 58 r7_5 rfl kj (Qaf 58 _ _ g7 58 _ _ r7_5 rfl kj kj (isz (n:=16) kj kj) (eqsz (n:=16) kj kj) kj) fun W6 p6 r7_6=>sgN hK6 <| wp_seq_k fun K8 hK8=>wp_seq_k fun K9 hK9=>QaC 4 [⟨none,[(5,none)]⟩,⟨none,[(20,some 0)]⟩,⟨none,[(1,none)]⟩,⟨none,[(21,some 1),(22,some 2)]⟩] kj kj fun F hF=>Qal (.agg (ints .i64 (lims (s0)))) kj kj (fun W hR=>(Qac 58 _ g7 58 _ _ (Qaa (Qaa r7_6 (Qae _)) hR) rfl kj kj (isz (n:=16) kj kj))) <| Qan (.agg (ints .u8 (ys))) 57 #[.agg (ints .i64 (lims (s0)))] kj kj (fun W=>kj) (fun W hR=>cb W) <| Qal (.agg (ints .u8 ((xs).set 31 (nth xs 31%128)))) kj kj (fun W hR=>(Qac 23 _ g2 23 _ _ (Qaa (Qaa (Puts.row p6 (Qaa (Qaa r2_3 e4) e5) (Qab (Qaa r2_3 e4) l7)) (Qae _)) hR) rfl kj kj (isz (n:=32) kj ((Qad _ _).trans ((List.length_set ..).trans hx))))) <| Qay (.bool false) kj kj (fun W=>(Qbj 23 _ _ _ _ _ (.bool false) rfl kj kj kj (key_neq _ _ true ys_len (by rw [List.length_set]; exact hx) hc _))) ?_
  refine Qa2 (hF _ kj fun W7 e7=>?_)
  simp only [ups,up,Kn.val,List.take_succ_cons,List.take_zero,List.drop_succ_cons,List.drop_zero,List.nil_append,List.cons_append]
  clear hF
  have x7:=Ext.tr (Puts.ext p6 (Ext.tr x4 e5) (qT x4.size l7)) e7
  refine sgN hK9 <| cond_false kj <| wp_skip <| hK8 _ _ <| sgC fun K10 hK10=>sg 1 kj <| Qah (ints .i64 (lims (0))) 58 6 rfl kj kj fun g11 W8 l11 e8 r11_8=>Qai g11 _ (ints .i64 (lims (1))) 58 r11_8 rfl kj (Qaf 58 _ _ g11 58 _ _ r11_8 rfl kj kj (isz (n:=16) kj kj) (eqsz (n:=16) kj kj) kj) fun W9 p9 r11_9=>sgN hK10 <| sgC fun K12 hK12=>?_
  have r7_9:=(Puts.row p9 (Qaa (Qaa r7_6 e7) e8) (Qab (Qaa r7_6 e7) l11))
  refine Qag (.agg (ints .i64 (lims (s0)))) 26 rfl kj (Qac 58 _ g7 58 _ _ r7_9 rfl kj kj (isz (n:=16) kj kj)) <| Qag (.agg (ints .i64 (lims (s0)))) 27 rfl kj (Qac 58 _ g7 58 _ _ r7_9 rfl kj kj (isz (n:=16) kj kj)) <| Qap (.agg (ints .i64 (lims (s1)))) 58 #[.agg (ints .i64 (lims (s0))),.agg (ints .i64 (lims (s0)))] 28 rfl kj kj (c1 _) fun W10 e10=>?_
  have x10:=Ext.tr (Puts.ext p9 (Ext.tr x7 e8) (qT x7.size l11)) e10
  refine Qah (ints .i64 (lims (0))) 58 7 rfl kj kj fun g13 W11 l13 e11 r13_11=>Qai g13 _ (ints .i64 (lims (s1))) 58 r13_11 rfl kj (Qaf 58 _ _ g13 58 _ _ r13_11 rfl kj kj (isz (n:=16) kj kj) (eqsz (n:=16) kj kj) kj) fun W12 p12 r13_12=>?_
  have x12:=Puts.ext p12 (Ext.tr x10 e11) (qT x10.size l13)
  refine sgN hK12 <| wp_seq_k fun K14 hK14=>QaX 6 [⟨none,[]⟩,⟨none,[(7,none)]⟩,⟨none,[(29,some 0),(30,some 1)]⟩,⟨none,[(6,none)]⟩,⟨none,[(31,some 2),(32,some 3)]⟩,⟨none,[]⟩] [5] kj kj kj fun F hF=>Qan (.agg (ints .i64 (lims (dN)))) 74 #[] kj kj (fun W=>kj) (fun W hR=>factor W) <| Qal (.agg (ints .i64 (lims (s1)))) kj kj (fun W hR=>(Qac 58 _ g13 58 _ _ (Qaa (Qaa r13_12 (Qae _)) hR) rfl kj kj (isz (n:=16) kj kj))) <| Qan (.agg (ints .i64 (lims (s2)))) 58 #[.agg (ints .i64 (lims (dN))),.agg (ints .i64 (lims (s1)))] kj kj (fun W=>kj) (fun W hR=>c2 W) ?_
  have r11_12:=(Puts.row p12 (Qaa (Qaa r11_9 e10) e11) (Qab (Qaa r11_9 e10) l13))
  refine Qal (.agg (ints .i64 (lims (1)))) kj kj (fun W hR=>(Qac 58 _ g11 58 _ _ (Qaa (Qaa r11_12 (Qae _)) hR) rfl kj kj (isz (n:=16) kj kj))) <| Qan (.agg (ints .i64 (lims (s3)))) 73 #[.agg (ints .i64 (lims (s2))),.agg (ints .i64 (lims (1)))] kj kj (fun W=>kj) (fun W hR=>c3 W) <| Qb5 (ints .i64 (lims (0))) 58 kj (qR _) kj (fun W=>kj) <| Qa2 (hF _ kj fun W13 e13=>?_)
  simp only [fins,up,List.take_succ_cons,List.take_zero,List.drop_succ_cons,List.drop_zero,List.nil_append,List.cons_append]
  intro g15 l15 r15_13 n15
  clear hF
  refine Qai g15 _ (ints .i64 (lims (s3))) 58 r15_13 rfl kj (Qaf 58 _ _ g15 58 _ _ r15_13 rfl kj kj (isz (n:=16) kj kj) (eqsz (n:=16) kj kj) kj) fun W14 p14 r15_14=>?_
  have x14:=Puts.ext p14 (Ext.tr x12 e13) (qT x12.size l15)
  refine sgN hK14 <| wp_seq_k fun K16 hK16=>QaL (fun W=>True) [⟨none,[(7,none)]⟩,⟨none,[(6,none)]⟩,⟨none,[(35,some 0),(36,some 1)]⟩,⟨none,[(8,none)]⟩,⟨none,[(38,some 3)]⟩,⟨none,[(37,some 2),(39,some 4)]⟩,⟨none,[(40,some 5)]⟩,⟨none,[(41,some 6)]⟩,⟨none,[(34,some 7)]⟩,⟨none,[(34,some 7)]⟩,⟨none,[]⟩,⟨none,[(9,some 10),(42,some 8)]⟩,⟨none,[(43,some 9)]⟩] [10] [9,12] kj kj kj (fun W hR=>trivial) fun F hF=>QaO (.agg (ints .i64 (lims (s1)))) kj kj kj rfl (fun W hR=>(Qac 58 _ g13 58 _ _ (Qaa (Qaa (Puts.row p14 (Qaa r13_12 e13) (Qab r13_12 l15)) (Qae _)) hR) rfl kj kj (isz (n:=16) kj kj))) <| QaO (.agg (ints .i64 (lims (1)))) kj kj kj rfl (fun W hR=>(Qac 58 _ g11 58 _ _ (Qaa (Qaa (Puts.row p14 (Qaa r11_12 e13) (Qab r11_12 l15)) (Qae _)) hR) rfl kj kj (isz (n:=16) kj kj))) <| Qbq (.agg (ints .i64 (lims (s4)))) 76 #[.agg (ints .i64 (lims (s1))),.agg (ints .i64 (lims (1)))] kj kj kj rfl (fun W=>kj) (fun W hR=>c4 W) <| QaO (.agg (ints .i64 (lims (s3)))) kj kj kj rfl (fun W hR=>(Qac 58 _ g15 58 _ _ (Qaa (Qaa r15_14 (Qae _)) hR) rfl kj kj (isz (n:=16) kj kj))) <| Qbq (.agg (ints .i64 (lims (s5)))) 56 #[.agg (ints .i64 (lims (s3)))] kj kj kj rfl (fun W=>kj) (fun W hR=>c5 W) <| Qbq (.agg (ints .i64 (lims (s6)))) 58 #[.agg (ints .i64 (lims (s4))),.agg (ints .i64 (lims (s5)))] kj kj kj rfl (fun W=>kj) (fun W hR=>c6 W) <| Qbq (.tuple #[.agg (ints .i64 (lims (r))),.bool false]) 75 #[.agg (ints .i64 (lims (s6)))] kj kj kj rfl (fun W=>kj) (fun W hR=>cr W) ?_
  refine Qav (.tuple #[.agg (ints .i64 (lims (r))),.bool false]) kj kj rfl (fun W=>kj) <| Qav (.agg (ints .i64 (lims (r)))) kj kj rfl (fun W=>kj) <| Qav (.bool false) kj kj rfl (fun W=>kj) <| Qgg (ints .i64 (lims (0))) 58 kj kj (qR _) kj rfl (fun W=>kj) <| Qbt rfl <| Qav (.bool false) kj kj rfl (fun W=>kj) <| QcA (hF _ kj fun W15 e15=>?_)
  simp only [List.nil_append,List.cons_append,fins,up]
  intro g17 l17 r17_15 n17
  clear hF
  refine Qbd _ g17 _ (ints .i64 (lims (r))) 58 r17_15 rfl (Qaf 58 _ _ g17 58 _ _ r17_15 rfl kj kj (isz (n:=16) kj kj) (eqsz (n:=16) kj kj) kj) (fun W hp=>trivial) fun W16 p16 r17_16=>QbI <| hK16 _ _ <| wp_seq_k fun K18 hK18=>sgB kj <| cond_true kj <| sgC fun K20 hK20=>Qap (.agg (cat [ints .i64 (lims (0)),ints .i64 (lims (1)),ints .i64 (lims (1))])) 59 #[] 54 rfl kj kj (nothing _) fun W17 e17=>?_
  have r3_4:=(Qaa (Puts.row p3 r3_2 (Qas r2_1 l3)) e4)
  have r3_7:=(Qaa (Puts.row p6 (Qaa r3_4 e5) (Qab r3_4 l7)) e7)
  have r3_10:=(Qaa (Puts.row p9 (Qaa r3_7 e8) (Qab r3_7 l11)) e10)
  have r3_12:=(Puts.row p12 (Qaa r3_10 e11) (Qab r3_10 l13))
  have r3_17:=(Qaa (Puts.row p16 (Qaa (Puts.row p14 (Qaa (Puts.row p12 (Qaa (Qaa (Puts.row p9 (Qaa (Qaa (Puts.row p6 (Qaa (Qaa (Puts.row p3 r3_2 (Qas r2_1 l3)) e4) e5) (Qab r3_4 l7)) e7) e8) (Qab r3_7 l11)) e10) e11) (Qab r3_10 l13)) e13) (Qab r3_12 l15)) e15) (Qab (Puts.row p14 (Qaa r3_12 e13) (Qab r3_12 l15)) l17)) e17)
  refine Qai g3 _ (cat [ints .i64 (lims (0)),ints .i64 (lims (1)),ints .i64 (lims (1))]) 60 r3_17 rfl kj (Qaf 60 _ _ g3 60 _ _ r3_17 rfl kj kj (isz (n:=48) kj kj) (eqsz (n:=48) kj kj) kj) fun W18 p18 r3_18=>sg 1 kj <| sgN hK20 <| wp_ret ?_
  exact (show bodyPost _ _ _ .ret _ _ from ret2 (.agg (cat [ints .i64 (lims (0)),ints .i64 (lims (1)),ints .i64 (lims (1))])) (.bool false) rfl (Qa8 g3 60 _ r3_18 kj kj (isz (n:=48) kj kj)) (Qbb kj) ⟨rfl,(Puts.ext p18 (Ext.tr (Puts.ext p16 (Ext.tr x14 e15) (qT x14.size l17)) e17) (qT x1.size l3))⟩)
theorem Qot (xs ys:List Int) (hx:xs.length=32) (hb:Qaj xs) (ys_len:ys.length=32) (s0 s1 s2 s3 s4 s5 s6 r:Int) (ho:decide (nth xs 31≥128)=true) (hc:decide (ys=(xs).set 31 (nth xs 31%128))=true)
    (c0:∀ W,Calls Tryd.prog 60 #[.agg (ints .u8 ((xs).set 31 (nth xs 31%128)))] W (Ret W (.agg (ints .i64 (lims (s0))))))
    (c1:∀ W,Calls Tryd.prog 58 #[.agg (ints .i64 (lims (s0))),.agg (ints .i64 (lims (s0)))] W (Ret W (.agg (ints .i64 (lims (s1))))))
    (c2:∀ W,Calls Tryd.prog 58 #[.agg (ints .i64 (lims (dN))),.agg (ints .i64 (lims (s1)))] W (Ret W (.agg (ints .i64 (lims (s2))))))
    (c3:∀ W,Calls Tryd.prog 73 #[.agg (ints .i64 (lims (s2))),.agg (ints .i64 (lims (1)))] W (Ret W (.agg (ints .i64 (lims (s3))))))
    (c4:∀ W,Calls Tryd.prog 76 #[.agg (ints .i64 (lims (s1))),.agg (ints .i64 (lims (1)))] W (Ret W (.agg (ints .i64 (lims (s4))))))
    (c5:∀ W,Calls Tryd.prog 56 #[.agg (ints .i64 (lims (s3)))] W (Ret W (.agg (ints .i64 (lims (s5))))))
    (c6:∀ W,Calls Tryd.prog 58 #[.agg (ints .i64 (lims (s4))),.agg (ints .i64 (lims (s5)))] W (Ret W (.agg (ints .i64 (lims (s6))))))
    (cb:∀ W,Calls Tryd.prog 57 #[.agg (ints .i64 (lims (s0)))] W (Ret W (.agg (ints .u8 ys))))
    (cr:∀ W,Calls Tryd.prog 75 #[.agg (ints .i64 (lims (s6)))] W (Ret W (.tuple #[.agg (ints .i64 (lims (r))),.bool false])))
    (w:World):Calls Tryd.prog 37 #[.agg (ints .u8 (xs))] w (Ret w (.tuple #[.agg (cat [ints .i64 (lims (0)),ints .i64 (lims (1)),ints .i64 (lims (1))]),.bool false])):=by
  refine enter 63 [(0,.agg (ints .u8 (xs)))] Tryd.func37 rfl rfl kj rfl <| sgC fun K1 hK1=>Qah (ints .u8 (xs)) 23 1 rfl kj kj fun g2 W1 l2 e1 r2_1=>?_
  have x1:=Ext.tr (Rely.Ext.refl w) e1
  refine Qah (cat [ints .i64 (lims (0)),ints .i64 (lims (0)),ints .i64 (lims (0))]) 60 2 rfl kj kj fun g3 W2 l3 e2 r3_2=>sg 1 kj <| sgN hK1 <| sgC fun K4 hK4=>sg 1 kj ?_
  have r2_2:=(Qaa r2_1 e2)
  refine Qag (.int .u8 (nth (xs) 31)) 12 rfl kj (Qak 5 _ g2 31 23 _ (.int .u8 (nth (xs) 31)) _ r2_2 rfl kj (Qar _ _ _ (Nat.lt_of_lt_of_eq (by decide) hx.symm)) kj) <| Qag (.bool true) 13 rfl kj (Qam (u:=.bool (decide ((nth (xs) 31)≥128))) kj (congrArg Value.bool ho)) <| sg 1 kj <| sgN hK4 <| sgC fun K5 hK5=>sg 1 kj <| Qag (.int .u8 (nth (xs) 31)) 15 rfl kj (Qak 5 _ g2 31 23 _ (.int .u8 (nth (xs) 31)) _ r2_2 rfl kj (Qar _ _ _ (Nat.lt_of_lt_of_eq (by decide) hx.symm)) kj) <| Qag (.int .u8 (nth xs 31%128)) 16 rfl kj (Qam (u:=.int .u8 (Int.tmod ((nth (xs) 31)) (128))) kj (congrArg (Value.int .u8) (Qek _ (hb.nth 31)))) <| sg 1 kj <| Qai g2 _ (ints .u8 ((xs).set 31 (nth xs 31%128))) 23 r2_2 rfl kj (Qaz 5 _ _ g2 31 23 _ _ r2_2 rfl kj kj kj (Nat.lt_of_lt_of_eq (show 31<32 by decide) hx.symm)) fun W3 p3 r2_3=>?_
  refine sgN hK5 <| sgC fun K6 hK6=>Qag (.agg (ints .u8 ((xs).set 31 (nth xs 31%128)))) 18 rfl kj (Qac 23 _ g2 23 _ _ r2_3 rfl kj kj (isz (n:=32) kj ((Qad _ _).trans ((List.length_set ..).trans hx)))) <| Qap (.agg (ints .i64 (lims (s0)))) 60 #[.agg (ints .u8 ((xs).set 31 (nth xs 31%128)))] 19 rfl kj kj (c0 _) fun W4 e4=>?_
  have x4:=Ext.tr (Puts.ext p3 (Ext.tr x1 e2) (qT (Rely.Ext.refl w).size l2)) e4
  refine Qah (ints .i64 (lims (0))) 58 5 rfl kj kj fun g7 W5 l7 e5 r7_5=>Qai g7 _ (ints .i64 (lims (s0))) 58 r7_5 rfl kj (Qaf 58 _ _ g7 58 _ _ r7_5 rfl kj kj (isz (n:=16) kj kj) (eqsz (n:=16) kj kj) kj) fun W6 p6 r7_6=>sgN hK6 <| wp_seq_k fun K8 hK8=>wp_seq_k fun K9 hK9=>QaC 4 [⟨none,[(5,none)]⟩,⟨none,[(20,some 0)]⟩,⟨none,[(1,none)]⟩,⟨none,[(21,some 1),(22,some 2)]⟩] kj kj fun F hF=>Qal (.agg (ints .i64 (lims (s0)))) kj kj (fun W hR=>(Qac 58 _ g7 58 _ _ (Qaa (Qaa r7_6 (Qae _)) hR) rfl kj kj (isz (n:=16) kj kj))) <| Qan (.agg (ints .u8 (ys))) 57 #[.agg (ints .i64 (lims (s0)))] kj kj (fun W=>kj) (fun W hR=>cb W) <| Qal (.agg (ints .u8 ((xs).set 31 (nth xs 31%128)))) kj kj (fun W hR=>(Qac 23 _ g2 23 _ _ (Qaa (Qaa (Puts.row p6 (Qaa (Qaa r2_3 e4) e5) (Qab (Qaa r2_3 e4) l7)) (Qae _)) hR) rfl kj kj (isz (n:=32) kj ((Qad _ _).trans ((List.length_set ..).trans hx))))) <| Qay (.bool false) kj kj (fun W=>(Qbj 23 _ _ _ _ _ (.bool false) rfl kj kj kj (key_neq _ _ true ys_len (by rw [List.length_set]; exact hx) hc _))) ?_
  refine Qa2 (hF _ kj fun W7 e7=>?_)
  simp only [ups,up,Kn.val,List.take_succ_cons,List.take_zero,List.drop_succ_cons,List.drop_zero,List.nil_append,List.cons_append]
  clear hF
  have x7:=Ext.tr (Puts.ext p6 (Ext.tr x4 e5) (qT x4.size l7)) e7
  refine sgN hK9 <| cond_false kj <| wp_skip <| hK8 _ _ <| sgC fun K10 hK10=>sg 1 kj <| Qah (ints .i64 (lims (0))) 58 6 rfl kj kj fun g11 W8 l11 e8 r11_8=>Qai g11 _ (ints .i64 (lims (1))) 58 r11_8 rfl kj (Qaf 58 _ _ g11 58 _ _ r11_8 rfl kj kj (isz (n:=16) kj kj) (eqsz (n:=16) kj kj) kj) fun W9 p9 r11_9=>sgN hK10 <| sgC fun K12 hK12=>?_
  have r7_9:=(Puts.row p9 (Qaa (Qaa r7_6 e7) e8) (Qab (Qaa r7_6 e7) l11))
  refine Qag (.agg (ints .i64 (lims (s0)))) 26 rfl kj (Qac 58 _ g7 58 _ _ r7_9 rfl kj kj (isz (n:=16) kj kj)) <| Qag (.agg (ints .i64 (lims (s0)))) 27 rfl kj (Qac 58 _ g7 58 _ _ r7_9 rfl kj kj (isz (n:=16) kj kj)) <| Qap (.agg (ints .i64 (lims (s1)))) 58 #[.agg (ints .i64 (lims (s0))),.agg (ints .i64 (lims (s0)))] 28 rfl kj kj (c1 _) fun W10 e10=>?_
  have x10:=Ext.tr (Puts.ext p9 (Ext.tr x7 e8) (qT x7.size l11)) e10
  refine Qah (ints .i64 (lims (0))) 58 7 rfl kj kj fun g13 W11 l13 e11 r13_11=>Qai g13 _ (ints .i64 (lims (s1))) 58 r13_11 rfl kj (Qaf 58 _ _ g13 58 _ _ r13_11 rfl kj kj (isz (n:=16) kj kj) (eqsz (n:=16) kj kj) kj) fun W12 p12 r13_12=>?_
  have x12:=Puts.ext p12 (Ext.tr x10 e11) (qT x10.size l13)
  refine sgN hK12 <| wp_seq_k fun K14 hK14=>QaX 6 [⟨none,[]⟩,⟨none,[(7,none)]⟩,⟨none,[(29,some 0),(30,some 1)]⟩,⟨none,[(6,none)]⟩,⟨none,[(31,some 2),(32,some 3)]⟩,⟨none,[]⟩] [5] kj kj kj fun F hF=>Qan (.agg (ints .i64 (lims (dN)))) 74 #[] kj kj (fun W=>kj) (fun W hR=>factor W) <| Qal (.agg (ints .i64 (lims (s1)))) kj kj (fun W hR=>(Qac 58 _ g13 58 _ _ (Qaa (Qaa r13_12 (Qae _)) hR) rfl kj kj (isz (n:=16) kj kj))) <| Qan (.agg (ints .i64 (lims (s2)))) 58 #[.agg (ints .i64 (lims (dN))),.agg (ints .i64 (lims (s1)))] kj kj (fun W=>kj) (fun W hR=>c2 W) ?_
  have r11_12:=(Puts.row p12 (Qaa (Qaa r11_9 e10) e11) (Qab (Qaa r11_9 e10) l13))
  refine Qal (.agg (ints .i64 (lims (1)))) kj kj (fun W hR=>(Qac 58 _ g11 58 _ _ (Qaa (Qaa r11_12 (Qae _)) hR) rfl kj kj (isz (n:=16) kj kj))) <| Qan (.agg (ints .i64 (lims (s3)))) 73 #[.agg (ints .i64 (lims (s2))),.agg (ints .i64 (lims (1)))] kj kj (fun W=>kj) (fun W hR=>c3 W) <| Qb5 (ints .i64 (lims (0))) 58 kj (qR _) kj (fun W=>kj) <| Qa2 (hF _ kj fun W13 e13=>?_)
  simp only [fins,up,List.take_succ_cons,List.take_zero,List.drop_succ_cons,List.drop_zero,List.nil_append,List.cons_append]
  intro g15 l15 r15_13 n15
  clear hF
  refine Qai g15 _ (ints .i64 (lims (s3))) 58 r15_13 rfl kj (Qaf 58 _ _ g15 58 _ _ r15_13 rfl kj kj (isz (n:=16) kj kj) (eqsz (n:=16) kj kj) kj) fun W14 p14 r15_14=>?_
  have x14:=Puts.ext p14 (Ext.tr x12 e13) (qT x12.size l15)
  refine sgN hK14 <| wp_seq_k fun K16 hK16=>QaL (fun W=>True) [⟨none,[(7,none)]⟩,⟨none,[(6,none)]⟩,⟨none,[(35,some 0),(36,some 1)]⟩,⟨none,[(8,none)]⟩,⟨none,[(38,some 3)]⟩,⟨none,[(37,some 2),(39,some 4)]⟩,⟨none,[(40,some 5)]⟩,⟨none,[(41,some 6)]⟩,⟨none,[(34,some 7)]⟩,⟨none,[(34,some 7)]⟩,⟨none,[]⟩,⟨none,[(9,some 10),(42,some 8)]⟩,⟨none,[(43,some 9)]⟩] [10] [9,12] kj kj kj (fun W hR=>trivial) fun F hF=>QaO (.agg (ints .i64 (lims (s1)))) kj kj kj rfl (fun W hR=>(Qac 58 _ g13 58 _ _ (Qaa (Qaa (Puts.row p14 (Qaa r13_12 e13) (Qab r13_12 l15)) (Qae _)) hR) rfl kj kj (isz (n:=16) kj kj))) <| QaO (.agg (ints .i64 (lims (1)))) kj kj kj rfl (fun W hR=>(Qac 58 _ g11 58 _ _ (Qaa (Qaa (Puts.row p14 (Qaa r11_12 e13) (Qab r11_12 l15)) (Qae _)) hR) rfl kj kj (isz (n:=16) kj kj))) <| Qbq (.agg (ints .i64 (lims (s4)))) 76 #[.agg (ints .i64 (lims (s1))),.agg (ints .i64 (lims (1)))] kj kj kj rfl (fun W=>kj) (fun W hR=>c4 W) <| QaO (.agg (ints .i64 (lims (s3)))) kj kj kj rfl (fun W hR=>(Qac 58 _ g15 58 _ _ (Qaa (Qaa r15_14 (Qae _)) hR) rfl kj kj (isz (n:=16) kj kj))) <| Qbq (.agg (ints .i64 (lims (s5)))) 56 #[.agg (ints .i64 (lims (s3)))] kj kj kj rfl (fun W=>kj) (fun W hR=>c5 W) <| Qbq (.agg (ints .i64 (lims (s6)))) 58 #[.agg (ints .i64 (lims (s4))),.agg (ints .i64 (lims (s5)))] kj kj kj rfl (fun W=>kj) (fun W hR=>c6 W) <| Qbq (.tuple #[.agg (ints .i64 (lims (r))),.bool false]) 75 #[.agg (ints .i64 (lims (s6)))] kj kj kj rfl (fun W=>kj) (fun W hR=>cr W) ?_
  refine Qav (.tuple #[.agg (ints .i64 (lims (r))),.bool false]) kj kj rfl (fun W=>kj) <| Qav (.agg (ints .i64 (lims (r)))) kj kj rfl (fun W=>kj) <| Qav (.bool false) kj kj rfl (fun W=>kj) <| Qgg (ints .i64 (lims (0))) 58 kj kj (qR _) kj rfl (fun W=>kj) <| Qbt rfl <| Qav (.bool false) kj kj rfl (fun W=>kj) <| QcA (hF _ kj fun W15 e15=>?_)
  simp only [List.nil_append,List.cons_append,fins,up]
  intro g17 l17 r17_15 n17
  clear hF
  refine Qbd _ g17 _ (ints .i64 (lims (r))) 58 r17_15 rfl (Qaf 58 _ _ g17 58 _ _ r17_15 rfl kj kj (isz (n:=16) kj kj) (eqsz (n:=16) kj kj) kj) (fun W hp=>trivial) fun W16 p16 r17_16=>QbI <| hK16 _ _ <| wp_seq_k fun K18 hK18=>sgB kj <| cond_true kj <| sgC fun K20 hK20=>Qap (.agg (cat [ints .i64 (lims (0)),ints .i64 (lims (1)),ints .i64 (lims (1))])) 59 #[] 54 rfl kj kj (nothing _) fun W17 e17=>?_
  have r3_4:=(Qaa (Puts.row p3 r3_2 (Qas r2_1 l3)) e4)
  have r3_7:=(Qaa (Puts.row p6 (Qaa r3_4 e5) (Qab r3_4 l7)) e7)
  have r3_10:=(Qaa (Puts.row p9 (Qaa r3_7 e8) (Qab r3_7 l11)) e10)
  have r3_12:=(Puts.row p12 (Qaa r3_10 e11) (Qab r3_10 l13))
  have r3_17:=(Qaa (Puts.row p16 (Qaa (Puts.row p14 (Qaa (Puts.row p12 (Qaa (Qaa (Puts.row p9 (Qaa (Qaa (Puts.row p6 (Qaa (Qaa (Puts.row p3 r3_2 (Qas r2_1 l3)) e4) e5) (Qab r3_4 l7)) e7) e8) (Qab r3_7 l11)) e10) e11) (Qab r3_10 l13)) e13) (Qab r3_12 l15)) e15) (Qab (Puts.row p14 (Qaa r3_12 e13) (Qab r3_12 l15)) l17)) e17)
  refine Qai g3 _ (cat [ints .i64 (lims (0)),ints .i64 (lims (1)),ints .i64 (lims (1))]) 60 r3_17 rfl kj (Qaf 60 _ _ g3 60 _ _ r3_17 rfl kj kj (isz (n:=48) kj kj) (eqsz (n:=48) kj kj) kj) fun W18 p18 r3_18=>sg 1 kj <| sgN hK20 <| wp_ret ?_
  exact (show bodyPost _ _ _ .ret _ _ from ret2 (.agg (cat [ints .i64 (lims (0)),ints .i64 (lims (1)),ints .i64 (lims (1))])) (.bool false) rfl (Qa8 g3 60 _ r3_18 kj kj (isz (n:=48) kj kj)) (Qbb kj) ⟨rfl,(Puts.ext p18 (Ext.tr (Puts.ext p16 (Ext.tr x14 e15) (qT x14.size l17)) e17) (qT x1.size l3))⟩)
theorem Qos (xs ys:List Int) (hx:xs.length=32) (hb:Qaj xs) (ys_len:ys.length=32) (s0 s1 s2 s3 s4 s5 s6 r:Int) (ho:decide (nth xs 31≥128)=true) (hc:decide (ys=(xs).set 31 (nth xs 31%128))=true) (hz:decide (lims r=lims 0)=true)
    (c0:∀ W,Calls Tryd.prog 60 #[.agg (ints .u8 ((xs).set 31 (nth xs 31%128)))] W (Ret W (.agg (ints .i64 (lims (s0))))))
    (c1:∀ W,Calls Tryd.prog 58 #[.agg (ints .i64 (lims (s0))),.agg (ints .i64 (lims (s0)))] W (Ret W (.agg (ints .i64 (lims (s1))))))
    (c2:∀ W,Calls Tryd.prog 58 #[.agg (ints .i64 (lims (dN))),.agg (ints .i64 (lims (s1)))] W (Ret W (.agg (ints .i64 (lims (s2))))))
    (c3:∀ W,Calls Tryd.prog 73 #[.agg (ints .i64 (lims (s2))),.agg (ints .i64 (lims (1)))] W (Ret W (.agg (ints .i64 (lims (s3))))))
    (c4:∀ W,Calls Tryd.prog 76 #[.agg (ints .i64 (lims (s1))),.agg (ints .i64 (lims (1)))] W (Ret W (.agg (ints .i64 (lims (s4))))))
    (c5:∀ W,Calls Tryd.prog 56 #[.agg (ints .i64 (lims (s3)))] W (Ret W (.agg (ints .i64 (lims (s5))))))
    (c6:∀ W,Calls Tryd.prog 58 #[.agg (ints .i64 (lims (s4))),.agg (ints .i64 (lims (s5)))] W (Ret W (.agg (ints .i64 (lims (s6))))))
    (cb:∀ W,Calls Tryd.prog 57 #[.agg (ints .i64 (lims (s0)))] W (Ret W (.agg (ints .u8 ys))))
    (cr:∀ W,Calls Tryd.prog 75 #[.agg (ints .i64 (lims (s6)))] W (Ret W (.tuple #[.agg (ints .i64 (lims (r))),.bool true])))
    (w:World):Calls Tryd.prog 37 #[.agg (ints .u8 (xs))] w (Ret w (.tuple #[.agg (cat [ints .i64 (lims (0)),ints .i64 (lims (1)),ints .i64 (lims (1))]),.bool false])):=by
  refine enter 63 [(0,.agg (ints .u8 (xs)))] Tryd.func37 rfl rfl kj rfl <| sgC fun K1 hK1=>Qah (ints .u8 (xs)) 23 1 rfl kj kj fun g2 W1 l2 e1 r2_1=>?_
  have x1:=Ext.tr (Rely.Ext.refl w) e1
  refine Qah (cat [ints .i64 (lims (0)),ints .i64 (lims (0)),ints .i64 (lims (0))]) 60 2 rfl kj kj fun g3 W2 l3 e2 r3_2=>sg 1 kj <| sgN hK1 <| sgC fun K4 hK4=>sg 1 kj ?_
  have r2_2:=(Qaa r2_1 e2)
  refine Qag (.int .u8 (nth (xs) 31)) 12 rfl kj (Qak 5 _ g2 31 23 _ (.int .u8 (nth (xs) 31)) _ r2_2 rfl kj (Qar _ _ _ (Nat.lt_of_lt_of_eq (by decide) hx.symm)) kj) <| Qag (.bool true) 13 rfl kj (Qam (u:=.bool (decide ((nth (xs) 31)≥128))) kj (congrArg Value.bool ho)) <| sg 1 kj <| sgN hK4 <| sgC fun K5 hK5=>sg 1 kj <| Qag (.int .u8 (nth (xs) 31)) 15 rfl kj (Qak 5 _ g2 31 23 _ (.int .u8 (nth (xs) 31)) _ r2_2 rfl kj (Qar _ _ _ (Nat.lt_of_lt_of_eq (by decide) hx.symm)) kj) <| Qag (.int .u8 (nth xs 31%128)) 16 rfl kj (Qam (u:=.int .u8 (Int.tmod ((nth (xs) 31)) (128))) kj (congrArg (Value.int .u8) (Qek _ (hb.nth 31)))) <| sg 1 kj <| Qai g2 _ (ints .u8 ((xs).set 31 (nth xs 31%128))) 23 r2_2 rfl kj (Qaz 5 _ _ g2 31 23 _ _ r2_2 rfl kj kj kj (Nat.lt_of_lt_of_eq (show 31<32 by decide) hx.symm)) fun W3 p3 r2_3=>?_
  refine sgN hK5 <| sgC fun K6 hK6=>Qag (.agg (ints .u8 ((xs).set 31 (nth xs 31%128)))) 18 rfl kj (Qac 23 _ g2 23 _ _ r2_3 rfl kj kj (isz (n:=32) kj ((Qad _ _).trans ((List.length_set ..).trans hx)))) <| Qap (.agg (ints .i64 (lims (s0)))) 60 #[.agg (ints .u8 ((xs).set 31 (nth xs 31%128)))] 19 rfl kj kj (c0 _) fun W4 e4=>?_
  have x4:=Ext.tr (Puts.ext p3 (Ext.tr x1 e2) (qT (Rely.Ext.refl w).size l2)) e4
  refine Qah (ints .i64 (lims (0))) 58 5 rfl kj kj fun g7 W5 l7 e5 r7_5=>Qai g7 _ (ints .i64 (lims (s0))) 58 r7_5 rfl kj (Qaf 58 _ _ g7 58 _ _ r7_5 rfl kj kj (isz (n:=16) kj kj) (eqsz (n:=16) kj kj) kj) fun W6 p6 r7_6=>sgN hK6 <| wp_seq_k fun K8 hK8=>wp_seq_k fun K9 hK9=>QaC 4 [⟨none,[(5,none)]⟩,⟨none,[(20,some 0)]⟩,⟨none,[(1,none)]⟩,⟨none,[(21,some 1),(22,some 2)]⟩] kj kj fun F hF=>Qal (.agg (ints .i64 (lims (s0)))) kj kj (fun W hR=>(Qac 58 _ g7 58 _ _ (Qaa (Qaa r7_6 (Qae _)) hR) rfl kj kj (isz (n:=16) kj kj))) <| Qan (.agg (ints .u8 (ys))) 57 #[.agg (ints .i64 (lims (s0)))] kj kj (fun W=>kj) (fun W hR=>cb W) <| Qal (.agg (ints .u8 ((xs).set 31 (nth xs 31%128)))) kj kj (fun W hR=>(Qac 23 _ g2 23 _ _ (Qaa (Qaa (Puts.row p6 (Qaa (Qaa r2_3 e4) e5) (Qab (Qaa r2_3 e4) l7)) (Qae _)) hR) rfl kj kj (isz (n:=32) kj ((Qad _ _).trans ((List.length_set ..).trans hx))))) <| Qay (.bool false) kj kj (fun W=>(Qbj 23 _ _ _ _ _ (.bool false) rfl kj kj kj (key_neq _ _ true ys_len (by rw [List.length_set]; exact hx) hc _))) ?_
  refine Qa2 (hF _ kj fun W7 e7=>?_)
  simp only [ups,up,Kn.val,List.take_succ_cons,List.take_zero,List.drop_succ_cons,List.drop_zero,List.nil_append,List.cons_append]
  clear hF
  have x7:=Ext.tr (Puts.ext p6 (Ext.tr x4 e5) (qT x4.size l7)) e7
  refine sgN hK9 <| cond_false kj <| wp_skip <| hK8 _ _ <| sgC fun K10 hK10=>sg 1 kj <| Qah (ints .i64 (lims (0))) 58 6 rfl kj kj fun g11 W8 l11 e8 r11_8=>Qai g11 _ (ints .i64 (lims (1))) 58 r11_8 rfl kj (Qaf 58 _ _ g11 58 _ _ r11_8 rfl kj kj (isz (n:=16) kj kj) (eqsz (n:=16) kj kj) kj) fun W9 p9 r11_9=>sgN hK10 <| sgC fun K12 hK12=>?_
  have r7_9:=(Puts.row p9 (Qaa (Qaa r7_6 e7) e8) (Qab (Qaa r7_6 e7) l11))
  refine Qag (.agg (ints .i64 (lims (s0)))) 26 rfl kj (Qac 58 _ g7 58 _ _ r7_9 rfl kj kj (isz (n:=16) kj kj)) <| Qag (.agg (ints .i64 (lims (s0)))) 27 rfl kj (Qac 58 _ g7 58 _ _ r7_9 rfl kj kj (isz (n:=16) kj kj)) <| Qap (.agg (ints .i64 (lims (s1)))) 58 #[.agg (ints .i64 (lims (s0))),.agg (ints .i64 (lims (s0)))] 28 rfl kj kj (c1 _) fun W10 e10=>?_
  have x10:=Ext.tr (Puts.ext p9 (Ext.tr x7 e8) (qT x7.size l11)) e10
  refine Qah (ints .i64 (lims (0))) 58 7 rfl kj kj fun g13 W11 l13 e11 r13_11=>Qai g13 _ (ints .i64 (lims (s1))) 58 r13_11 rfl kj (Qaf 58 _ _ g13 58 _ _ r13_11 rfl kj kj (isz (n:=16) kj kj) (eqsz (n:=16) kj kj) kj) fun W12 p12 r13_12=>?_
  have x12:=Puts.ext p12 (Ext.tr x10 e11) (qT x10.size l13)
  refine sgN hK12 <| wp_seq_k fun K14 hK14=>QaX 6 [⟨none,[]⟩,⟨none,[(7,none)]⟩,⟨none,[(29,some 0),(30,some 1)]⟩,⟨none,[(6,none)]⟩,⟨none,[(31,some 2),(32,some 3)]⟩,⟨none,[]⟩] [5] kj kj kj fun F hF=>Qan (.agg (ints .i64 (lims (dN)))) 74 #[] kj kj (fun W=>kj) (fun W hR=>factor W) <| Qal (.agg (ints .i64 (lims (s1)))) kj kj (fun W hR=>(Qac 58 _ g13 58 _ _ (Qaa (Qaa r13_12 (Qae _)) hR) rfl kj kj (isz (n:=16) kj kj))) <| Qan (.agg (ints .i64 (lims (s2)))) 58 #[.agg (ints .i64 (lims (dN))),.agg (ints .i64 (lims (s1)))] kj kj (fun W=>kj) (fun W hR=>c2 W) ?_
  have r11_12:=(Puts.row p12 (Qaa (Qaa r11_9 e10) e11) (Qab (Qaa r11_9 e10) l13))
  refine Qal (.agg (ints .i64 (lims (1)))) kj kj (fun W hR=>(Qac 58 _ g11 58 _ _ (Qaa (Qaa r11_12 (Qae _)) hR) rfl kj kj (isz (n:=16) kj kj))) <| Qan (.agg (ints .i64 (lims (s3)))) 73 #[.agg (ints .i64 (lims (s2))),.agg (ints .i64 (lims (1)))] kj kj (fun W=>kj) (fun W hR=>c3 W) <| Qb5 (ints .i64 (lims (0))) 58 kj (qR _) kj (fun W=>kj) <| Qa2 (hF _ kj fun W13 e13=>?_)
  simp only [fins,up,List.take_succ_cons,List.take_zero,List.drop_succ_cons,List.drop_zero,List.nil_append,List.cons_append]
  intro g15 l15 r15_13 n15
  clear hF
  refine Qai g15 _ (ints .i64 (lims (s3))) 58 r15_13 rfl kj (Qaf 58 _ _ g15 58 _ _ r15_13 rfl kj kj (isz (n:=16) kj kj) (eqsz (n:=16) kj kj) kj) fun W14 p14 r15_14=>?_
  have x14:=Puts.ext p14 (Ext.tr x12 e13) (qT x12.size l15)
  refine sgN hK14 <| wp_seq_k fun K16 hK16=>QaL (fun W=>True) [⟨none,[(7,none)]⟩,⟨none,[(6,none)]⟩,⟨none,[(35,some 0),(36,some 1)]⟩,⟨none,[(8,none)]⟩,⟨none,[(38,some 3)]⟩,⟨none,[(37,some 2),(39,some 4)]⟩,⟨none,[(40,some 5)]⟩,⟨none,[(41,some 6)]⟩,⟨none,[(34,some 7)]⟩,⟨none,[(34,some 7)]⟩,⟨none,[]⟩,⟨none,[(9,some 10),(42,some 8)]⟩,⟨none,[(43,some 9)]⟩] [10] [9,12] kj kj kj (fun W hR=>trivial) fun F hF=>QaO (.agg (ints .i64 (lims (s1)))) kj kj kj rfl (fun W hR=>(Qac 58 _ g13 58 _ _ (Qaa (Qaa (Puts.row p14 (Qaa r13_12 e13) (Qab r13_12 l15)) (Qae _)) hR) rfl kj kj (isz (n:=16) kj kj))) <| QaO (.agg (ints .i64 (lims (1)))) kj kj kj rfl (fun W hR=>(Qac 58 _ g11 58 _ _ (Qaa (Qaa (Puts.row p14 (Qaa r11_12 e13) (Qab r11_12 l15)) (Qae _)) hR) rfl kj kj (isz (n:=16) kj kj))) <| Qbq (.agg (ints .i64 (lims (s4)))) 76 #[.agg (ints .i64 (lims (s1))),.agg (ints .i64 (lims (1)))] kj kj kj rfl (fun W=>kj) (fun W hR=>c4 W) <| QaO (.agg (ints .i64 (lims (s3)))) kj kj kj rfl (fun W hR=>(Qac 58 _ g15 58 _ _ (Qaa (Qaa r15_14 (Qae _)) hR) rfl kj kj (isz (n:=16) kj kj))) <| Qbq (.agg (ints .i64 (lims (s5)))) 56 #[.agg (ints .i64 (lims (s3)))] kj kj kj rfl (fun W=>kj) (fun W hR=>c5 W) <| Qbq (.agg (ints .i64 (lims (s6)))) 58 #[.agg (ints .i64 (lims (s4))),.agg (ints .i64 (lims (s5)))] kj kj kj rfl (fun W=>kj) (fun W hR=>c6 W) <| Qbq (.tuple #[.agg (ints .i64 (lims (r))),.bool true]) 75 #[.agg (ints .i64 (lims (s6)))] kj kj kj rfl (fun W=>kj) (fun W hR=>cr W) ?_
  refine Qav (.tuple #[.agg (ints .i64 (lims (r))),.bool true]) kj kj rfl (fun W=>kj) <| Qav (.agg (ints .i64 (lims (r)))) kj kj rfl (fun W=>kj) <| Qav (.bool true) kj kj rfl (fun W=>kj) <| Qgg (ints .i64 (lims (0))) 58 kj kj (qR _) kj rfl (fun W=>kj) <| Qbt rfl <| Qav (.bool true) kj kj rfl (fun W=>kj) <| QcA (hF _ kj fun W15 e15=>?_)
  simp only [List.nil_append,List.cons_append,fins,up]
  intro g17 l17 r17_15 n17
  clear hF
  refine Qbd _ g17 _ (ints .i64 (lims (r))) 58 r17_15 rfl (Qaf 58 _ _ g17 58 _ _ r17_15 rfl kj kj (isz (n:=16) kj kj) (eqsz (n:=16) kj kj) kj) (fun W hp=>trivial) fun W16 p16 r17_16=>QbI <| hK16 _ _ <| wp_seq_k fun K18 hK18=>sgC fun K19 hK19=>sg 5 kj <| Qag (.agg (ints .i64 (lims (r)))) 49 rfl kj (Qac 58 _ g17 58 _ _ r17_16 rfl kj kj (isz (n:=16) kj kj)) <| sg 1 kj <| Qag (.bool true) 51 rfl kj (Qcq 58 _ _ _ _ _ (.bool true) rfl kj kj kj (Qjl _ _ true hz _)) <| sg 2 kj ?_
  refine sgN hK19 <| cond_true kj <| sgC fun K20 hK20=>Qap (.agg (cat [ints .i64 (lims (0)),ints .i64 (lims (1)),ints .i64 (lims (1))])) 59 #[] 54 rfl kj kj (nothing _) fun W17 e17=>?_
  have r3_4:=(Qaa (Puts.row p3 r3_2 (Qas r2_1 l3)) e4)
  have r3_7:=(Qaa (Puts.row p6 (Qaa r3_4 e5) (Qab r3_4 l7)) e7)
  have r3_10:=(Qaa (Puts.row p9 (Qaa r3_7 e8) (Qab r3_7 l11)) e10)
  have r3_12:=(Puts.row p12 (Qaa r3_10 e11) (Qab r3_10 l13))
  have r3_17:=(Qaa (Puts.row p16 (Qaa (Puts.row p14 (Qaa (Puts.row p12 (Qaa (Qaa (Puts.row p9 (Qaa (Qaa (Puts.row p6 (Qaa (Qaa (Puts.row p3 r3_2 (Qas r2_1 l3)) e4) e5) (Qab r3_4 l7)) e7) e8) (Qab r3_7 l11)) e10) e11) (Qab r3_10 l13)) e13) (Qab r3_12 l15)) e15) (Qab (Puts.row p14 (Qaa r3_12 e13) (Qab r3_12 l15)) l17)) e17)
  refine Qai g3 _ (cat [ints .i64 (lims (0)),ints .i64 (lims (1)),ints .i64 (lims (1))]) 60 r3_17 rfl kj (Qaf 60 _ _ g3 60 _ _ r3_17 rfl kj kj (isz (n:=48) kj kj) (eqsz (n:=48) kj kj) kj) fun W18 p18 r3_18=>sg 1 kj <| sgN hK20 <| wp_ret ?_
  exact (show bodyPost _ _ _ .ret _ _ from ret2 (.agg (cat [ints .i64 (lims (0)),ints .i64 (lims (1)),ints .i64 (lims (1))])) (.bool false) rfl (Qa8 g3 60 _ r3_18 kj kj (isz (n:=48) kj kj)) (Qbb kj) ⟨rfl,(Puts.ext p18 (Ext.tr (Puts.ext p16 (Ext.tr x14 e15) (qT x14.size l17)) e17) (qT x1.size l3))⟩)
theorem Qor (xs ys:List Int) (hx:xs.length=32) (hb:Qaj xs) (ys_len:ys.length=32) (s0 s1 s2 s3 s4 s5 s6 s7 r:Int) (ho:decide (nth xs 31≥128)=true) (hc:decide (ys=(xs).set 31 (nth xs 31%128))=true) (hz:decide (lims r=lims 0)=false)
    (c0:∀ W,Calls Tryd.prog 60 #[.agg (ints .u8 ((xs).set 31 (nth xs 31%128)))] W (Ret W (.agg (ints .i64 (lims (s0))))))
    (c1:∀ W,Calls Tryd.prog 58 #[.agg (ints .i64 (lims (s0))),.agg (ints .i64 (lims (s0)))] W (Ret W (.agg (ints .i64 (lims (s1))))))
    (c2:∀ W,Calls Tryd.prog 58 #[.agg (ints .i64 (lims (dN))),.agg (ints .i64 (lims (s1)))] W (Ret W (.agg (ints .i64 (lims (s2))))))
    (c3:∀ W,Calls Tryd.prog 73 #[.agg (ints .i64 (lims (s2))),.agg (ints .i64 (lims (1)))] W (Ret W (.agg (ints .i64 (lims (s3))))))
    (c4:∀ W,Calls Tryd.prog 76 #[.agg (ints .i64 (lims (s1))),.agg (ints .i64 (lims (1)))] W (Ret W (.agg (ints .i64 (lims (s4))))))
    (c5:∀ W,Calls Tryd.prog 56 #[.agg (ints .i64 (lims (s3)))] W (Ret W (.agg (ints .i64 (lims (s5))))))
    (c6:∀ W,Calls Tryd.prog 58 #[.agg (ints .i64 (lims (s4))),.agg (ints .i64 (lims (s5)))] W (Ret W (.agg (ints .i64 (lims (s6))))))
    (c7:∀ W,Calls Tryd.prog 76 #[.agg (ints .i64 (lims (0))),.agg (ints .i64 (lims (r)))] W (Ret W (.agg (ints .i64 (lims (s7))))))
    (cb:∀ W,Calls Tryd.prog 57 #[.agg (ints .i64 (lims (s0)))] W (Ret W (.agg (ints .u8 ys))))
    (cr:∀ W,Calls Tryd.prog 75 #[.agg (ints .i64 (lims (s6)))] W (Ret W (.tuple #[.agg (ints .i64 (lims (r))),.bool true])))
    (w:World):Calls Tryd.prog 37 #[.agg (ints .u8 (xs))] w (Ret w (.tuple #[.agg (cat [ints .i64 (lims (s7)),ints .i64 (lims (s0)),ints .i64 (lims (1))]),.bool true])):=by
  refine enter 63 [(0,.agg (ints .u8 (xs)))] Tryd.func37 rfl rfl kj rfl <| sgC fun K1 hK1=>Qah (ints .u8 (xs)) 23 1 rfl kj kj fun g2 W1 l2 e1 r2_1=>?_
  have x1:=Ext.tr (Rely.Ext.refl w) e1
  refine Qah (cat [ints .i64 (lims (0)),ints .i64 (lims (0)),ints .i64 (lims (0))]) 60 2 rfl kj kj fun g3 W2 l3 e2 r3_2=>sg 1 kj <| sgN hK1 <| sgC fun K4 hK4=>sg 1 kj ?_
  have r2_2:=(Qaa r2_1 e2)
  refine Qag (.int .u8 (nth (xs) 31)) 12 rfl kj (Qak 5 _ g2 31 23 _ (.int .u8 (nth (xs) 31)) _ r2_2 rfl kj (Qar _ _ _ (Nat.lt_of_lt_of_eq (by decide) hx.symm)) kj) <| Qag (.bool true) 13 rfl kj (Qam (u:=.bool (decide ((nth (xs) 31)≥128))) kj (congrArg Value.bool ho)) <| sg 1 kj <| sgN hK4 <| sgC fun K5 hK5=>sg 1 kj <| Qag (.int .u8 (nth (xs) 31)) 15 rfl kj (Qak 5 _ g2 31 23 _ (.int .u8 (nth (xs) 31)) _ r2_2 rfl kj (Qar _ _ _ (Nat.lt_of_lt_of_eq (by decide) hx.symm)) kj) <| Qag (.int .u8 (nth xs 31%128)) 16 rfl kj (Qam (u:=.int .u8 (Int.tmod ((nth (xs) 31)) (128))) kj (congrArg (Value.int .u8) (Qek _ (hb.nth 31)))) <| sg 1 kj <| Qai g2 _ (ints .u8 ((xs).set 31 (nth xs 31%128))) 23 r2_2 rfl kj (Qaz 5 _ _ g2 31 23 _ _ r2_2 rfl kj kj kj (Nat.lt_of_lt_of_eq (show 31<32 by decide) hx.symm)) fun W3 p3 r2_3=>?_
  refine sgN hK5 <| sgC fun K6 hK6=>Qag (.agg (ints .u8 ((xs).set 31 (nth xs 31%128)))) 18 rfl kj (Qac 23 _ g2 23 _ _ r2_3 rfl kj kj (isz (n:=32) kj ((Qad _ _).trans ((List.length_set ..).trans hx)))) <| Qap (.agg (ints .i64 (lims (s0)))) 60 #[.agg (ints .u8 ((xs).set 31 (nth xs 31%128)))] 19 rfl kj kj (c0 _) fun W4 e4=>?_
  have x4:=Ext.tr (Puts.ext p3 (Ext.tr x1 e2) (qT (Rely.Ext.refl w).size l2)) e4
  refine Qah (ints .i64 (lims (0))) 58 5 rfl kj kj fun g7 W5 l7 e5 r7_5=>Qai g7 _ (ints .i64 (lims (s0))) 58 r7_5 rfl kj (Qaf 58 _ _ g7 58 _ _ r7_5 rfl kj kj (isz (n:=16) kj kj) (eqsz (n:=16) kj kj) kj) fun W6 p6 r7_6=>sgN hK6 <| wp_seq_k fun K8 hK8=>wp_seq_k fun K9 hK9=>QaC 4 [⟨none,[(5,none)]⟩,⟨none,[(20,some 0)]⟩,⟨none,[(1,none)]⟩,⟨none,[(21,some 1),(22,some 2)]⟩] kj kj fun F hF=>Qal (.agg (ints .i64 (lims (s0)))) kj kj (fun W hR=>(Qac 58 _ g7 58 _ _ (Qaa (Qaa r7_6 (Qae _)) hR) rfl kj kj (isz (n:=16) kj kj))) <| Qan (.agg (ints .u8 (ys))) 57 #[.agg (ints .i64 (lims (s0)))] kj kj (fun W=>kj) (fun W hR=>cb W) <| Qal (.agg (ints .u8 ((xs).set 31 (nth xs 31%128)))) kj kj (fun W hR=>(Qac 23 _ g2 23 _ _ (Qaa (Qaa (Puts.row p6 (Qaa (Qaa r2_3 e4) e5) (Qab (Qaa r2_3 e4) l7)) (Qae _)) hR) rfl kj kj (isz (n:=32) kj ((Qad _ _).trans ((List.length_set ..).trans hx))))) <| Qay (.bool false) kj kj (fun W=>(Qbj 23 _ _ _ _ _ (.bool false) rfl kj kj kj (key_neq _ _ true ys_len (by rw [List.length_set]; exact hx) hc _))) ?_
  refine Qa2 (hF _ kj fun W7 e7=>?_)
  simp only [ups,up,Kn.val,List.take_succ_cons,List.take_zero,List.drop_succ_cons,List.drop_zero,List.nil_append,List.cons_append]
  clear hF
  have x7:=Ext.tr (Puts.ext p6 (Ext.tr x4 e5) (qT x4.size l7)) e7
  refine sgN hK9 <| cond_false kj <| wp_skip <| hK8 _ _ <| sgC fun K10 hK10=>sg 1 kj <| Qah (ints .i64 (lims (0))) 58 6 rfl kj kj fun g11 W8 l11 e8 r11_8=>Qai g11 _ (ints .i64 (lims (1))) 58 r11_8 rfl kj (Qaf 58 _ _ g11 58 _ _ r11_8 rfl kj kj (isz (n:=16) kj kj) (eqsz (n:=16) kj kj) kj) fun W9 p9 r11_9=>sgN hK10 <| sgC fun K12 hK12=>?_
  have r7_9:=(Puts.row p9 (Qaa (Qaa r7_6 e7) e8) (Qab (Qaa r7_6 e7) l11))
  refine Qag (.agg (ints .i64 (lims (s0)))) 26 rfl kj (Qac 58 _ g7 58 _ _ r7_9 rfl kj kj (isz (n:=16) kj kj)) <| Qag (.agg (ints .i64 (lims (s0)))) 27 rfl kj (Qac 58 _ g7 58 _ _ r7_9 rfl kj kj (isz (n:=16) kj kj)) <| Qap (.agg (ints .i64 (lims (s1)))) 58 #[.agg (ints .i64 (lims (s0))),.agg (ints .i64 (lims (s0)))] 28 rfl kj kj (c1 _) fun W10 e10=>?_
  have x10:=Ext.tr (Puts.ext p9 (Ext.tr x7 e8) (qT x7.size l11)) e10
  refine Qah (ints .i64 (lims (0))) 58 7 rfl kj kj fun g13 W11 l13 e11 r13_11=>Qai g13 _ (ints .i64 (lims (s1))) 58 r13_11 rfl kj (Qaf 58 _ _ g13 58 _ _ r13_11 rfl kj kj (isz (n:=16) kj kj) (eqsz (n:=16) kj kj) kj) fun W12 p12 r13_12=>?_
  have x12:=Puts.ext p12 (Ext.tr x10 e11) (qT x10.size l13)
  refine sgN hK12 <| wp_seq_k fun K14 hK14=>QaX 6 [⟨none,[]⟩,⟨none,[(7,none)]⟩,⟨none,[(29,some 0),(30,some 1)]⟩,⟨none,[(6,none)]⟩,⟨none,[(31,some 2),(32,some 3)]⟩,⟨none,[]⟩] [5] kj kj kj fun F hF=>Qan (.agg (ints .i64 (lims (dN)))) 74 #[] kj kj (fun W=>kj) (fun W hR=>factor W) <| Qal (.agg (ints .i64 (lims (s1)))) kj kj (fun W hR=>(Qac 58 _ g13 58 _ _ (Qaa (Qaa r13_12 (Qae _)) hR) rfl kj kj (isz (n:=16) kj kj))) <| Qan (.agg (ints .i64 (lims (s2)))) 58 #[.agg (ints .i64 (lims (dN))),.agg (ints .i64 (lims (s1)))] kj kj (fun W=>kj) (fun W hR=>c2 W) ?_
  have r11_12:=(Puts.row p12 (Qaa (Qaa r11_9 e10) e11) (Qab (Qaa r11_9 e10) l13))
  refine Qal (.agg (ints .i64 (lims (1)))) kj kj (fun W hR=>(Qac 58 _ g11 58 _ _ (Qaa (Qaa r11_12 (Qae _)) hR) rfl kj kj (isz (n:=16) kj kj))) <| Qan (.agg (ints .i64 (lims (s3)))) 73 #[.agg (ints .i64 (lims (s2))),.agg (ints .i64 (lims (1)))] kj kj (fun W=>kj) (fun W hR=>c3 W) <| Qb5 (ints .i64 (lims (0))) 58 kj (qR _) kj (fun W=>kj) <| Qa2 (hF _ kj fun W13 e13=>?_)
  simp only [fins,up,List.take_succ_cons,List.take_zero,List.drop_succ_cons,List.drop_zero,List.nil_append,List.cons_append]
  intro g15 l15 r15_13 n15
  clear hF
  refine Qai g15 _ (ints .i64 (lims (s3))) 58 r15_13 rfl kj (Qaf 58 _ _ g15 58 _ _ r15_13 rfl kj kj (isz (n:=16) kj kj) (eqsz (n:=16) kj kj) kj) fun W14 p14 r15_14=>?_
  have x14:=Puts.ext p14 (Ext.tr x12 e13) (qT x12.size l15)
  refine sgN hK14 <| wp_seq_k fun K16 hK16=>QaL (fun W=>True) [⟨none,[(7,none)]⟩,⟨none,[(6,none)]⟩,⟨none,[(35,some 0),(36,some 1)]⟩,⟨none,[(8,none)]⟩,⟨none,[(38,some 3)]⟩,⟨none,[(37,some 2),(39,some 4)]⟩,⟨none,[(40,some 5)]⟩,⟨none,[(41,some 6)]⟩,⟨none,[(34,some 7)]⟩,⟨none,[(34,some 7)]⟩,⟨none,[]⟩,⟨none,[(9,some 10),(42,some 8)]⟩,⟨none,[(43,some 9)]⟩] [10] [9,12] kj kj kj (fun W hR=>trivial) fun F hF=>QaO (.agg (ints .i64 (lims (s1)))) kj kj kj rfl (fun W hR=>(Qac 58 _ g13 58 _ _ (Qaa (Qaa (Puts.row p14 (Qaa r13_12 e13) (Qab r13_12 l15)) (Qae _)) hR) rfl kj kj (isz (n:=16) kj kj))) ?_
  have r11_14:=(Puts.row p14 (Qaa r11_12 e13) (Qab r11_12 l15))
  refine QaO (.agg (ints .i64 (lims (1)))) kj kj kj rfl (fun W hR=>(Qac 58 _ g11 58 _ _ (Qaa (Qaa r11_14 (Qae _)) hR) rfl kj kj (isz (n:=16) kj kj))) <| Qbq (.agg (ints .i64 (lims (s4)))) 76 #[.agg (ints .i64 (lims (s1))),.agg (ints .i64 (lims (1)))] kj kj kj rfl (fun W=>kj) (fun W hR=>c4 W) <| QaO (.agg (ints .i64 (lims (s3)))) kj kj kj rfl (fun W hR=>(Qac 58 _ g15 58 _ _ (Qaa (Qaa r15_14 (Qae _)) hR) rfl kj kj (isz (n:=16) kj kj))) <| Qbq (.agg (ints .i64 (lims (s5)))) 56 #[.agg (ints .i64 (lims (s3)))] kj kj kj rfl (fun W=>kj) (fun W hR=>c5 W) <| Qbq (.agg (ints .i64 (lims (s6)))) 58 #[.agg (ints .i64 (lims (s4))),.agg (ints .i64 (lims (s5)))] kj kj kj rfl (fun W=>kj) (fun W hR=>c6 W) <| Qbq (.tuple #[.agg (ints .i64 (lims (r))),.bool true]) 75 #[.agg (ints .i64 (lims (s6)))] kj kj kj rfl (fun W=>kj) (fun W hR=>cr W) <| Qav (.tuple #[.agg (ints .i64 (lims (r))),.bool true]) kj kj rfl (fun W=>kj) <| Qav (.agg (ints .i64 (lims (r)))) kj kj rfl (fun W=>kj) <| Qav (.bool true) kj kj rfl (fun W=>kj) <| Qgg (ints .i64 (lims (0))) 58 kj kj (qR _) kj rfl (fun W=>kj) ?_
  refine Qbt rfl <| Qav (.bool true) kj kj rfl (fun W=>kj) <| QcA (hF _ kj fun W15 e15=>?_)
  simp only [List.nil_append,List.cons_append,fins,up]
  intro g17 l17 r17_15 n17
  have b17:=qT x14.size l17
  clear hF
  refine Qbd _ g17 _ (ints .i64 (lims (r))) 58 r17_15 rfl (Qaf 58 _ _ g17 58 _ _ r17_15 rfl kj kj (isz (n:=16) kj kj) (eqsz (n:=16) kj kj) kj) (fun W hp=>trivial) fun W16 p16 r17_16=>QbI <| hK16 _ _ <| wp_seq_k fun K18 hK18=>sgC fun K19 hK19=>sg 5 kj <| Qag (.agg (ints .i64 (lims (r)))) 49 rfl kj (Qac 58 _ g17 58 _ _ r17_16 rfl kj kj (isz (n:=16) kj kj)) <| sg 1 kj <| Qag (.bool false) 51 rfl kj (Qcq 58 _ _ _ _ _ (.bool false) rfl kj kj kj (Qjl _ _ false hz _)) <| sg 2 kj ?_
  refine sgN hK19 <| cond_false kj <| wp_skip <| hK18 _ _ <| wp_seq_k fun K20 hK20=>sgB kj <| cond_true kj <| Qat <| sg 1 kj <| Qag (.agg (ints .i64 (lims (r)))) 57 rfl kj (Qac 58 _ g17 58 _ _ r17_16 rfl kj kj (isz (n:=16) kj kj)) ?_
  refine Qap (.agg (ints .i64 (lims (s7)))) 76 #[.agg (ints .i64 (lims (0))),.agg (ints .i64 (lims (r)))] 58 rfl kj kj (c7 _) fun W17 e17=>?_
  have r17_17:=(Qaa r17_16 e17)
  refine Qai g17 _ (ints .i64 (lims (s7))) 58 r17_17 rfl kj (Qaf 58 _ _ g17 58 _ _ r17_17 rfl kj kj (isz (n:=16) kj kj) (eqsz (n:=16) kj kj) kj) fun W18 p18 r17_18=>Qa7 <| hK20 _ _ <| sgC fun K22 hK22=>Qag (.agg (ints .i64 (lims (s7)))) 59 rfl kj (Qac 58 _ g17 58 _ _ r17_18 rfl kj kj (isz (n:=16) kj kj)) ?_
  have r7_10:=(Qaa r7_9 e10)
  have r7_12:=(Puts.row p12 (Qaa r7_10 e11) (Qab r7_10 l13))
  have r7_14:=(Puts.row p14 (Qaa r7_12 e13) (Qab r7_12 l15))
  refine Qag (.agg (ints .i64 (lims (s0)))) 60 rfl kj (Qac 58 _ g7 58 _ _ (Puts.row p18 (Qaa (Puts.row p16 (Qaa (Puts.row p14 (Qaa (Puts.row p12 (Qaa (Qaa r7_9 e10) e11) (Qab r7_10 l13)) e13) (Qab r7_12 l15)) e15) (Qab r7_14 l17)) e17) (Qab r7_14 l17)) rfl kj kj (isz (n:=16) kj kj)) <| Qag (.agg (ints .i64 (lims (1)))) 61 rfl kj (Qac 58 _ g11 58 _ _ (Puts.row p18 (Qaa (Puts.row p16 (Qaa r11_14 e15) (Qab r11_14 l17)) e17) (Qab r11_14 l17)) rfl kj kj (isz (n:=16) kj kj)) <| sg 1 kj ?_
  have r3_4:=(Qaa (Puts.row p3 r3_2 (Qas r2_1 l3)) e4)
  have r3_7:=(Qaa (Puts.row p6 (Qaa r3_4 e5) (Qab r3_4 l7)) e7)
  have r3_10:=(Qaa (Puts.row p9 (Qaa r3_7 e8) (Qab r3_7 l11)) e10)
  have r3_12:=(Puts.row p12 (Qaa r3_10 e11) (Qab r3_10 l13))
  have r3_14:=(Puts.row p14 (Qaa r3_12 e13) (Qab r3_12 l15))
  have r3_18:=(Puts.row p18 (Qaa (Puts.row p16 (Qaa (Puts.row p14 (Qaa (Puts.row p12 (Qaa (Qaa (Puts.row p9 (Qaa (Qaa (Puts.row p6 (Qaa (Qaa (Puts.row p3 r3_2 (Qas r2_1 l3)) e4) e5) (Qab r3_4 l7)) e7) e8) (Qab r3_7 l11)) e10) e11) (Qab r3_10 l13)) e13) (Qab r3_12 l15)) e15) (Qab r3_14 l17)) e17) (Qab r3_14 l17))
  refine Qai g3 _ (cat [ints .i64 (lims (s7)),ints .i64 (lims (s0)),ints .i64 (lims (1))]) 60 r3_18 rfl kj (Qaf 60 _ _ g3 60 _ _ r3_18 rfl kj kj (isz (n:=48) kj kj) (eqsz (n:=48) kj kj) kj) fun W19 p19 r3_19=>sg 1 kj <| sgN hK22 <| wp_ret ?_
  exact (show bodyPost _ _ _ .ret _ _ from ret2 (.agg (cat [ints .i64 (lims (s7)),ints .i64 (lims (s0)),ints .i64 (lims (1))])) (.bool true) rfl (Qa8 g3 60 _ r3_19 kj kj (isz (n:=48) kj kj)) (Qbb kj) ⟨rfl,(Puts.ext p19 (Puts.ext p18 (Ext.tr (Puts.ext p16 (Ext.tr x14 e15) b17) e17) b17) (qT x1.size l3))⟩)
theorem Qoq (xs ys:List Int) (hx:xs.length=32) (hb:Qaj xs) (ys_len:ys.length=32) (s0 s1 s2 s3 s4 s5 s6 r:Int) (ho:decide (nth xs 31≥128)=false) (hc:decide (ys=(xs).set 31 (nth xs 31%128))=true)
    (c0:∀ W,Calls Tryd.prog 60 #[.agg (ints .u8 ((xs).set 31 (nth xs 31%128)))] W (Ret W (.agg (ints .i64 (lims (s0))))))
    (c1:∀ W,Calls Tryd.prog 58 #[.agg (ints .i64 (lims (s0))),.agg (ints .i64 (lims (s0)))] W (Ret W (.agg (ints .i64 (lims (s1))))))
    (c2:∀ W,Calls Tryd.prog 58 #[.agg (ints .i64 (lims (dN))),.agg (ints .i64 (lims (s1)))] W (Ret W (.agg (ints .i64 (lims (s2))))))
    (c3:∀ W,Calls Tryd.prog 73 #[.agg (ints .i64 (lims (s2))),.agg (ints .i64 (lims (1)))] W (Ret W (.agg (ints .i64 (lims (s3))))))
    (c4:∀ W,Calls Tryd.prog 76 #[.agg (ints .i64 (lims (s1))),.agg (ints .i64 (lims (1)))] W (Ret W (.agg (ints .i64 (lims (s4))))))
    (c5:∀ W,Calls Tryd.prog 56 #[.agg (ints .i64 (lims (s3)))] W (Ret W (.agg (ints .i64 (lims (s5))))))
    (c6:∀ W,Calls Tryd.prog 58 #[.agg (ints .i64 (lims (s4))),.agg (ints .i64 (lims (s5)))] W (Ret W (.agg (ints .i64 (lims (s6))))))
    (cb:∀ W,Calls Tryd.prog 57 #[.agg (ints .i64 (lims (s0)))] W (Ret W (.agg (ints .u8 ys))))
    (cr:∀ W,Calls Tryd.prog 75 #[.agg (ints .i64 (lims (s6)))] W (Ret W (.tuple #[.agg (ints .i64 (lims (r))),.bool true])))
    (w:World):Calls Tryd.prog 37 #[.agg (ints .u8 (xs))] w (Ret w (.tuple #[.agg (cat [ints .i64 (lims (r)),ints .i64 (lims (s0)),ints .i64 (lims (1))]),.bool true])):=by
  refine enter 63 [(0,.agg (ints .u8 (xs)))] Tryd.func37 rfl rfl kj rfl <| sgC fun K1 hK1=>Qah (ints .u8 (xs)) 23 1 rfl kj kj fun g2 W1 l2 e1 r2_1=>?_
  have x1:=Ext.tr (Rely.Ext.refl w) e1
  refine Qah (cat [ints .i64 (lims (0)),ints .i64 (lims (0)),ints .i64 (lims (0))]) 60 2 rfl kj kj fun g3 W2 l3 e2 r3_2=>sg 1 kj <| sgN hK1 <| sgC fun K4 hK4=>sg 1 kj ?_
  have r2_2:=(Qaa r2_1 e2)
  refine Qag (.int .u8 (nth (xs) 31)) 12 rfl kj (Qak 5 _ g2 31 23 _ (.int .u8 (nth (xs) 31)) _ r2_2 rfl kj (Qar _ _ _ (Nat.lt_of_lt_of_eq (by decide) hx.symm)) kj) <| Qag (.bool false) 13 rfl kj (Qam (u:=.bool (decide ((nth (xs) 31)≥128))) kj (congrArg Value.bool ho)) <| sg 1 kj <| sgN hK4 <| sgC fun K5 hK5=>sg 1 kj <| Qag (.int .u8 (nth (xs) 31)) 15 rfl kj (Qak 5 _ g2 31 23 _ (.int .u8 (nth (xs) 31)) _ r2_2 rfl kj (Qar _ _ _ (Nat.lt_of_lt_of_eq (by decide) hx.symm)) kj) <| Qag (.int .u8 (nth xs 31%128)) 16 rfl kj (Qam (u:=.int .u8 (Int.tmod ((nth (xs) 31)) (128))) kj (congrArg (Value.int .u8) (Qek _ (hb.nth 31)))) <| sg 1 kj <| Qai g2 _ (ints .u8 ((xs).set 31 (nth xs 31%128))) 23 r2_2 rfl kj (Qaz 5 _ _ g2 31 23 _ _ r2_2 rfl kj kj kj (Nat.lt_of_lt_of_eq (show 31<32 by decide) hx.symm)) fun W3 p3 r2_3=>?_
  refine sgN hK5 <| sgC fun K6 hK6=>Qag (.agg (ints .u8 ((xs).set 31 (nth xs 31%128)))) 18 rfl kj (Qac 23 _ g2 23 _ _ r2_3 rfl kj kj (isz (n:=32) kj ((Qad _ _).trans ((List.length_set ..).trans hx)))) <| Qap (.agg (ints .i64 (lims (s0)))) 60 #[.agg (ints .u8 ((xs).set 31 (nth xs 31%128)))] 19 rfl kj kj (c0 _) fun W4 e4=>?_
  have x4:=Ext.tr (Puts.ext p3 (Ext.tr x1 e2) (qT (Rely.Ext.refl w).size l2)) e4
  refine Qah (ints .i64 (lims (0))) 58 5 rfl kj kj fun g7 W5 l7 e5 r7_5=>Qai g7 _ (ints .i64 (lims (s0))) 58 r7_5 rfl kj (Qaf 58 _ _ g7 58 _ _ r7_5 rfl kj kj (isz (n:=16) kj kj) (eqsz (n:=16) kj kj) kj) fun W6 p6 r7_6=>sgN hK6 <| wp_seq_k fun K8 hK8=>wp_seq_k fun K9 hK9=>QaC 4 [⟨none,[(5,none)]⟩,⟨none,[(20,some 0)]⟩,⟨none,[(1,none)]⟩,⟨none,[(21,some 1),(22,some 2)]⟩] kj kj fun F hF=>Qal (.agg (ints .i64 (lims (s0)))) kj kj (fun W hR=>(Qac 58 _ g7 58 _ _ (Qaa (Qaa r7_6 (Qae _)) hR) rfl kj kj (isz (n:=16) kj kj))) <| Qan (.agg (ints .u8 (ys))) 57 #[.agg (ints .i64 (lims (s0)))] kj kj (fun W=>kj) (fun W hR=>cb W) <| Qal (.agg (ints .u8 ((xs).set 31 (nth xs 31%128)))) kj kj (fun W hR=>(Qac 23 _ g2 23 _ _ (Qaa (Qaa (Puts.row p6 (Qaa (Qaa r2_3 e4) e5) (Qab (Qaa r2_3 e4) l7)) (Qae _)) hR) rfl kj kj (isz (n:=32) kj ((Qad _ _).trans ((List.length_set ..).trans hx))))) <| Qay (.bool false) kj kj (fun W=>(Qbj 23 _ _ _ _ _ (.bool false) rfl kj kj kj (key_neq _ _ true ys_len (by rw [List.length_set]; exact hx) hc _))) ?_
  refine Qa2 (hF _ kj fun W7 e7=>?_)
  simp only [ups,up,Kn.val,List.take_succ_cons,List.take_zero,List.drop_succ_cons,List.drop_zero,List.nil_append,List.cons_append]
  clear hF
  have x7:=Ext.tr (Puts.ext p6 (Ext.tr x4 e5) (qT x4.size l7)) e7
  refine sgN hK9 <| cond_false kj <| wp_skip <| hK8 _ _ <| sgC fun K10 hK10=>sg 1 kj <| Qah (ints .i64 (lims (0))) 58 6 rfl kj kj fun g11 W8 l11 e8 r11_8=>Qai g11 _ (ints .i64 (lims (1))) 58 r11_8 rfl kj (Qaf 58 _ _ g11 58 _ _ r11_8 rfl kj kj (isz (n:=16) kj kj) (eqsz (n:=16) kj kj) kj) fun W9 p9 r11_9=>sgN hK10 <| sgC fun K12 hK12=>?_
  have r7_9:=(Puts.row p9 (Qaa (Qaa r7_6 e7) e8) (Qab (Qaa r7_6 e7) l11))
  refine Qag (.agg (ints .i64 (lims (s0)))) 26 rfl kj (Qac 58 _ g7 58 _ _ r7_9 rfl kj kj (isz (n:=16) kj kj)) <| Qag (.agg (ints .i64 (lims (s0)))) 27 rfl kj (Qac 58 _ g7 58 _ _ r7_9 rfl kj kj (isz (n:=16) kj kj)) <| Qap (.agg (ints .i64 (lims (s1)))) 58 #[.agg (ints .i64 (lims (s0))),.agg (ints .i64 (lims (s0)))] 28 rfl kj kj (c1 _) fun W10 e10=>?_
  have x10:=Ext.tr (Puts.ext p9 (Ext.tr x7 e8) (qT x7.size l11)) e10
  refine Qah (ints .i64 (lims (0))) 58 7 rfl kj kj fun g13 W11 l13 e11 r13_11=>Qai g13 _ (ints .i64 (lims (s1))) 58 r13_11 rfl kj (Qaf 58 _ _ g13 58 _ _ r13_11 rfl kj kj (isz (n:=16) kj kj) (eqsz (n:=16) kj kj) kj) fun W12 p12 r13_12=>?_
  have x12:=Puts.ext p12 (Ext.tr x10 e11) (qT x10.size l13)
  refine sgN hK12 <| wp_seq_k fun K14 hK14=>QaX 6 [⟨none,[]⟩,⟨none,[(7,none)]⟩,⟨none,[(29,some 0),(30,some 1)]⟩,⟨none,[(6,none)]⟩,⟨none,[(31,some 2),(32,some 3)]⟩,⟨none,[]⟩] [5] kj kj kj fun F hF=>Qan (.agg (ints .i64 (lims (dN)))) 74 #[] kj kj (fun W=>kj) (fun W hR=>factor W) <| Qal (.agg (ints .i64 (lims (s1)))) kj kj (fun W hR=>(Qac 58 _ g13 58 _ _ (Qaa (Qaa r13_12 (Qae _)) hR) rfl kj kj (isz (n:=16) kj kj))) <| Qan (.agg (ints .i64 (lims (s2)))) 58 #[.agg (ints .i64 (lims (dN))),.agg (ints .i64 (lims (s1)))] kj kj (fun W=>kj) (fun W hR=>c2 W) ?_
  have r11_12:=(Puts.row p12 (Qaa (Qaa r11_9 e10) e11) (Qab (Qaa r11_9 e10) l13))
  refine Qal (.agg (ints .i64 (lims (1)))) kj kj (fun W hR=>(Qac 58 _ g11 58 _ _ (Qaa (Qaa r11_12 (Qae _)) hR) rfl kj kj (isz (n:=16) kj kj))) <| Qan (.agg (ints .i64 (lims (s3)))) 73 #[.agg (ints .i64 (lims (s2))),.agg (ints .i64 (lims (1)))] kj kj (fun W=>kj) (fun W hR=>c3 W) <| Qb5 (ints .i64 (lims (0))) 58 kj (qR _) kj (fun W=>kj) <| Qa2 (hF _ kj fun W13 e13=>?_)
  simp only [fins,up,List.take_succ_cons,List.take_zero,List.drop_succ_cons,List.drop_zero,List.nil_append,List.cons_append]
  intro g15 l15 r15_13 n15
  clear hF
  refine Qai g15 _ (ints .i64 (lims (s3))) 58 r15_13 rfl kj (Qaf 58 _ _ g15 58 _ _ r15_13 rfl kj kj (isz (n:=16) kj kj) (eqsz (n:=16) kj kj) kj) fun W14 p14 r15_14=>?_
  have x14:=Puts.ext p14 (Ext.tr x12 e13) (qT x12.size l15)
  refine sgN hK14 <| wp_seq_k fun K16 hK16=>QaL (fun W=>True) [⟨none,[(7,none)]⟩,⟨none,[(6,none)]⟩,⟨none,[(35,some 0),(36,some 1)]⟩,⟨none,[(8,none)]⟩,⟨none,[(38,some 3)]⟩,⟨none,[(37,some 2),(39,some 4)]⟩,⟨none,[(40,some 5)]⟩,⟨none,[(41,some 6)]⟩,⟨none,[(34,some 7)]⟩,⟨none,[(34,some 7)]⟩,⟨none,[]⟩,⟨none,[(9,some 10),(42,some 8)]⟩,⟨none,[(43,some 9)]⟩] [10] [9,12] kj kj kj (fun W hR=>trivial) fun F hF=>QaO (.agg (ints .i64 (lims (s1)))) kj kj kj rfl (fun W hR=>(Qac 58 _ g13 58 _ _ (Qaa (Qaa (Puts.row p14 (Qaa r13_12 e13) (Qab r13_12 l15)) (Qae _)) hR) rfl kj kj (isz (n:=16) kj kj))) ?_
  have r11_14:=(Puts.row p14 (Qaa r11_12 e13) (Qab r11_12 l15))
  refine QaO (.agg (ints .i64 (lims (1)))) kj kj kj rfl (fun W hR=>(Qac 58 _ g11 58 _ _ (Qaa (Qaa r11_14 (Qae _)) hR) rfl kj kj (isz (n:=16) kj kj))) <| Qbq (.agg (ints .i64 (lims (s4)))) 76 #[.agg (ints .i64 (lims (s1))),.agg (ints .i64 (lims (1)))] kj kj kj rfl (fun W=>kj) (fun W hR=>c4 W) <| QaO (.agg (ints .i64 (lims (s3)))) kj kj kj rfl (fun W hR=>(Qac 58 _ g15 58 _ _ (Qaa (Qaa r15_14 (Qae _)) hR) rfl kj kj (isz (n:=16) kj kj))) <| Qbq (.agg (ints .i64 (lims (s5)))) 56 #[.agg (ints .i64 (lims (s3)))] kj kj kj rfl (fun W=>kj) (fun W hR=>c5 W) <| Qbq (.agg (ints .i64 (lims (s6)))) 58 #[.agg (ints .i64 (lims (s4))),.agg (ints .i64 (lims (s5)))] kj kj kj rfl (fun W=>kj) (fun W hR=>c6 W) <| Qbq (.tuple #[.agg (ints .i64 (lims (r))),.bool true]) 75 #[.agg (ints .i64 (lims (s6)))] kj kj kj rfl (fun W=>kj) (fun W hR=>cr W) <| Qav (.tuple #[.agg (ints .i64 (lims (r))),.bool true]) kj kj rfl (fun W=>kj) <| Qav (.agg (ints .i64 (lims (r)))) kj kj rfl (fun W=>kj) <| Qav (.bool true) kj kj rfl (fun W=>kj) <| Qgg (ints .i64 (lims (0))) 58 kj kj (qR _) kj rfl (fun W=>kj) ?_
  refine Qbt rfl <| Qav (.bool true) kj kj rfl (fun W=>kj) <| QcA (hF _ kj fun W15 e15=>?_)
  simp only [List.nil_append,List.cons_append,fins,up]
  intro g17 l17 r17_15 n17
  clear hF
  refine Qbd _ g17 _ (ints .i64 (lims (r))) 58 r17_15 rfl (Qaf 58 _ _ g17 58 _ _ r17_15 rfl kj kj (isz (n:=16) kj kj) (eqsz (n:=16) kj kj) kj) (fun W hp=>trivial) fun W16 p16 r17_16=>QbI <| hK16 _ _ <| wp_seq_k fun K18 hK18=>sgB kj <| cond_false kj <| wp_skip <| hK18 _ _ <| wp_seq_k fun K20 hK20=>sgB kj ?_
  refine cond_false kj <| wp_skip <| hK20 _ _ <| sgC fun K22 hK22=>Qag (.agg (ints .i64 (lims (r)))) 59 rfl kj (Qac 58 _ g17 58 _ _ r17_16 rfl kj kj (isz (n:=16) kj kj)) ?_
  have r7_10:=(Qaa r7_9 e10)
  have r7_12:=(Puts.row p12 (Qaa r7_10 e11) (Qab r7_10 l13))
  refine Qag (.agg (ints .i64 (lims (s0)))) 60 rfl kj (Qac 58 _ g7 58 _ _ (Puts.row p16 (Qaa (Puts.row p14 (Qaa (Puts.row p12 (Qaa (Qaa r7_9 e10) e11) (Qab r7_10 l13)) e13) (Qab r7_12 l15)) e15) (Qab (Puts.row p14 (Qaa r7_12 e13) (Qab r7_12 l15)) l17)) rfl kj kj (isz (n:=16) kj kj)) <| Qag (.agg (ints .i64 (lims (1)))) 61 rfl kj (Qac 58 _ g11 58 _ _ (Puts.row p16 (Qaa r11_14 e15) (Qab r11_14 l17)) rfl kj kj (isz (n:=16) kj kj)) <| sg 1 kj ?_
  have r3_4:=(Qaa (Puts.row p3 r3_2 (Qas r2_1 l3)) e4)
  have r3_7:=(Qaa (Puts.row p6 (Qaa r3_4 e5) (Qab r3_4 l7)) e7)
  have r3_10:=(Qaa (Puts.row p9 (Qaa r3_7 e8) (Qab r3_7 l11)) e10)
  have r3_12:=(Puts.row p12 (Qaa r3_10 e11) (Qab r3_10 l13))
  have r3_16:=(Puts.row p16 (Qaa (Puts.row p14 (Qaa (Puts.row p12 (Qaa (Qaa (Puts.row p9 (Qaa (Qaa (Puts.row p6 (Qaa (Qaa (Puts.row p3 r3_2 (Qas r2_1 l3)) e4) e5) (Qab r3_4 l7)) e7) e8) (Qab r3_7 l11)) e10) e11) (Qab r3_10 l13)) e13) (Qab r3_12 l15)) e15) (Qab (Puts.row p14 (Qaa r3_12 e13) (Qab r3_12 l15)) l17))
  refine Qai g3 _ (cat [ints .i64 (lims (r)),ints .i64 (lims (s0)),ints .i64 (lims (1))]) 60 r3_16 rfl kj (Qaf 60 _ _ g3 60 _ _ r3_16 rfl kj kj (isz (n:=48) kj kj) (eqsz (n:=48) kj kj) kj) fun W17 p17 r3_17=>sg 1 kj <| sgN hK22 <| wp_ret ?_
  exact (show bodyPost _ _ _ .ret _ _ from ret2 (.agg (cat [ints .i64 (lims (r)),ints .i64 (lims (s0)),ints .i64 (lims (1))])) (.bool true) rfl (Qa8 g3 60 _ r3_17 kj kj (isz (n:=48) kj kj)) (Qbb kj) ⟨rfl,(Puts.ext p17 (Puts.ext p16 (Ext.tr x14 e15) (qT x14.size l17)) (qT x1.size l3))⟩)
theorem Qop (xs ys:List Int) (hx:xs.length=32) (hb:Qaj xs) (ys_len:ys.length=32) (s0:Int) (ho:decide (nth xs 31≥128)=true) (hc:decide (ys=(xs).set 31 (nth xs 31%128))=false)
    (c0:∀ W,Calls Tryd.prog 60 #[.agg (ints .u8 ((xs).set 31 (nth xs 31%128)))] W (Ret W (.agg (ints .i64 (lims (s0))))))
    (cb:∀ W,Calls Tryd.prog 57 #[.agg (ints .i64 (lims (s0)))] W (Ret W (.agg (ints .u8 ys))))
    (w:World):Calls Tryd.prog 37 #[.agg (ints .u8 (xs))] w (Ret w (.tuple #[.agg (cat [ints .i64 (lims (0)),ints .i64 (lims (1)),ints .i64 (lims (1))]),.bool false])):=by
  refine enter 63 [(0,.agg (ints .u8 (xs)))] Tryd.func37 rfl rfl kj rfl <| sgC fun K1 hK1=>Qah (ints .u8 (xs)) 23 1 rfl kj kj fun g2 W1 l2 e1 r2_1=>?_
  have x1:=Ext.tr (Rely.Ext.refl w) e1
  refine Qah (cat [ints .i64 (lims (0)),ints .i64 (lims (0)),ints .i64 (lims (0))]) 60 2 rfl kj kj fun g3 W2 l3 e2 r3_2=>sg 1 kj <| sgN hK1 <| sgC fun K4 hK4=>sg 1 kj ?_
  have r2_2:=(Qaa r2_1 e2)
  refine Qag (.int .u8 (nth (xs) 31)) 12 rfl kj (Qak 5 _ g2 31 23 _ (.int .u8 (nth (xs) 31)) _ r2_2 rfl kj (Qar _ _ _ (Nat.lt_of_lt_of_eq (by decide) hx.symm)) kj) <| Qag (.bool true) 13 rfl kj (Qam (u:=.bool (decide ((nth (xs) 31)≥128))) kj (congrArg Value.bool ho)) <| sg 1 kj <| sgN hK4 <| sgC fun K5 hK5=>sg 1 kj <| Qag (.int .u8 (nth (xs) 31)) 15 rfl kj (Qak 5 _ g2 31 23 _ (.int .u8 (nth (xs) 31)) _ r2_2 rfl kj (Qar _ _ _ (Nat.lt_of_lt_of_eq (by decide) hx.symm)) kj) <| Qag (.int .u8 (nth xs 31%128)) 16 rfl kj (Qam (u:=.int .u8 (Int.tmod ((nth (xs) 31)) (128))) kj (congrArg (Value.int .u8) (Qek _ (hb.nth 31)))) <| sg 1 kj <| Qai g2 _ (ints .u8 ((xs).set 31 (nth xs 31%128))) 23 r2_2 rfl kj (Qaz 5 _ _ g2 31 23 _ _ r2_2 rfl kj kj kj (Nat.lt_of_lt_of_eq (show 31<32 by decide) hx.symm)) fun W3 p3 r2_3=>?_
  refine sgN hK5 <| sgC fun K6 hK6=>Qag (.agg (ints .u8 ((xs).set 31 (nth xs 31%128)))) 18 rfl kj (Qac 23 _ g2 23 _ _ r2_3 rfl kj kj (isz (n:=32) kj ((Qad _ _).trans ((List.length_set ..).trans hx)))) <| Qap (.agg (ints .i64 (lims (s0)))) 60 #[.agg (ints .u8 ((xs).set 31 (nth xs 31%128)))] 19 rfl kj kj (c0 _) fun W4 e4=>?_
  have x4:=Ext.tr (Puts.ext p3 (Ext.tr x1 e2) (qT (Rely.Ext.refl w).size l2)) e4
  refine Qah (ints .i64 (lims (0))) 58 5 rfl kj kj fun g7 W5 l7 e5 r7_5=>Qai g7 _ (ints .i64 (lims (s0))) 58 r7_5 rfl kj (Qaf 58 _ _ g7 58 _ _ r7_5 rfl kj kj (isz (n:=16) kj kj) (eqsz (n:=16) kj kj) kj) fun W6 p6 r7_6=>sgN hK6 <| wp_seq_k fun K8 hK8=>wp_seq_k fun K9 hK9=>QaC 4 [⟨none,[(5,none)]⟩,⟨none,[(20,some 0)]⟩,⟨none,[(1,none)]⟩,⟨none,[(21,some 1),(22,some 2)]⟩] kj kj fun F hF=>Qal (.agg (ints .i64 (lims (s0)))) kj kj (fun W hR=>(Qac 58 _ g7 58 _ _ (Qaa (Qaa r7_6 (Qae _)) hR) rfl kj kj (isz (n:=16) kj kj))) <| Qan (.agg (ints .u8 (ys))) 57 #[.agg (ints .i64 (lims (s0)))] kj kj (fun W=>kj) (fun W hR=>cb W) <| Qal (.agg (ints .u8 ((xs).set 31 (nth xs 31%128)))) kj kj (fun W hR=>(Qac 23 _ g2 23 _ _ (Qaa (Qaa (Puts.row p6 (Qaa (Qaa r2_3 e4) e5) (Qab (Qaa r2_3 e4) l7)) (Qae _)) hR) rfl kj kj (isz (n:=32) kj ((Qad _ _).trans ((List.length_set ..).trans hx))))) <| Qay (.bool true) kj kj (fun W=>(Qbj 23 _ _ _ _ _ (.bool true) rfl kj kj kj (key_neq _ _ false ys_len (by rw [List.length_set]; exact hx) hc _))) ?_
  refine Qa2 (hF _ kj fun W7 e7=>?_)
  simp only [ups,up,Kn.val,List.take_succ_cons,List.take_zero,List.drop_succ_cons,List.drop_zero,List.nil_append,List.cons_append]
  clear hF
  refine sgN hK9 <| cond_true kj <| sgC fun K10 hK10=>Qap (.agg (cat [ints .i64 (lims (0)),ints .i64 (lims (1)),ints .i64 (lims (1))])) 59 #[] 24 rfl kj kj (nothing _) fun W8 e8=>?_
  have r3_8:=(Qaa (Qaa (Puts.row p6 (Qaa (Qaa (Puts.row p3 r3_2 (Qas r2_1 l3)) e4) e5) (Qab (Qaa (Puts.row p3 r3_2 (Qas r2_1 l3)) e4) l7)) e7) e8)
  refine Qai g3 _ (cat [ints .i64 (lims (0)),ints .i64 (lims (1)),ints .i64 (lims (1))]) 60 r3_8 rfl kj (Qaf 60 _ _ g3 60 _ _ r3_8 rfl kj kj (isz (n:=48) kj kj) (eqsz (n:=48) kj kj) kj) fun W9 p9 r3_9=>sg 1 kj <| sgN hK10 <| wp_ret ?_
  exact (show bodyPost _ _ _ .ret _ _ from ret2 (.agg (cat [ints .i64 (lims (0)),ints .i64 (lims (1)),ints .i64 (lims (1))])) (.bool false) rfl (Qa8 g3 60 _ r3_9 kj kj (isz (n:=48) kj kj)) (Qbb kj) ⟨rfl,(Puts.ext p9 (Ext.tr (Ext.tr (Puts.ext p6 (Ext.tr x4 e5) (qT x4.size l7)) e7) e8) (qT x1.size l3))⟩)
end Go.Proofs.YtdoadngmgmdlbaaDoor.Field
end
section
namespace Go.Proofs.YtdoadngmgmdlbaaDoor.Field
open Go Go.RowKit
open Rely Auto
def cutK (xs : List Int):List Int:=xs.set 31 (nth xs 31%128)
def yK (xs : List Int):Int:=QfM (cutK xs)
def uK (y : Int):Int:=(y*y%p-1)%p*invN ((y*y%p*dN%p+1)%p)%p
def rK (xs : List Int):Int:=Qdb (uK (yK xs))
def oddK (xs : List Int):Bool:=nth xs 31/128==1
def canK (xs : List Int):Bool:=decide (Qaq (yK xs)=cutK xs)
def okK (xs : List Int):Bool:=canK xs&&(Qb3 (uK (yK xs))&&!(oddK xs&&rK xs==0))
def xK (xs : List Int):Int:=if okK xs=true then (if oddK xs=true then QgM (rK xs) else rK xs) else 0
def lK (xs : List Int):Int:=if okK xs=true then (yK xs-1)%p else 0
def zK (xs : List Int):Int:=if okK xs=true then yK xs else 1
theorem Qj6 {xs : List Int} (hx:xs.length=32):(cutK xs).length=32:=by unfold cutK; rw [List.length_set]; exact hx
theorem Qgu {xs : List Int} (hb:Qaj xs):Qaj (cutK xs):=by
  intro x hx
  rcases List.mem_or_eq_of_mem_set hx with h | h
  · exact hb x h
  · have:=hb.nth 31; omega
theorem Qeh (xs : List Int):isN (rK xs):=QkE _
theorem Qkr (xs : List Int):isN (yK xs):=Qkj _
theorem QpF (xs : List Int):isN (xK xs):=by
  unfold xK
  split
  · split
    · exact Qjd _ (Qeh xs)
    · exact Qeh xs
  · exact num_isN 0
theorem QpE (xs : List Int):isN (zK xs):=by unfold zK; split; exact Qkr xs; exact num_isN 1
theorem Qq6 {r : Int} (h:isN r) (b:Bool) (e:(r==0)=b):decide (lims r=lims 0)=b:=by
  cases b
  · exact decide_eq_false fun q=>by
      have:r=0:=Qjo ⟨h.1,Int.lt_trans h.2 (by decide)⟩ (by decide) q
      rw [this] at e
      cases e
  · have:r=0:=by simpa using e
    rw [this]
    exact decide_eq_true rfl
theorem QfC {xs : List Int} (hb:Qaj xs) (b:Bool) (e:oddK xs=b):decide (nth xs 31≥128)=b:=by
  have h:=hb.nth 31
  unfold oddK at e
  cases b
  · exact decide_eq_false fun q=>by
      have:nth xs 31/128=1:=by omega
      rw [this] at e
      cases e
  · have:nth xs 31/128=1:=by simpa using e
    exact decide_eq_true (by omega)
set_option maxRecDepth 100000 in
theorem pfromC (xs : List Int) (hx:xs.length=32) (hb:Qaj xs) (w:World) (tB:TypeId) (hB:w.heap[2]? = some (.cells (ints .u8 Qb6) tB)) :
    Calls Tryd.prog 34 #[.agg (ints .u8 xs)] w (Ret w (.tuple #[.agg (cat [numA (xK xs),numA (lK xs)]),.bool (okK xs)])):=by
  have c0:∀ W,Calls Tryd.prog 44 #[.agg (ints .u8 (cutK xs))] W (Ret W (num (yK xs))):=fun W=>Qno (cutK xs) (Qj6 hx) (Qgu hb) W
  have hy:=Qkr xs
  have cb:∀ W,Calls Tryd.prog 50 #[num (yK xs)] W (Ret W (.agg (ints .u8 (Qaq (yK xs))))):=fun W=>bytes _ hy W
  have cr:∀ b,Qb3 (uK (yK xs))=b→∀ W,Calls Tryd.prog 71 #[num (uK (yK xs))] W (Ret W (.tuple #[num (rK xs),.bool b])):=fun b e W=>by
    have:=root (uK (yK xs)) (isN_mod _) W
    rw [e] at this
    exact this
  have c1:=fun W=>mul _ _ hy hy W
  have c2:=fun W=>mul _ _ (isN_mod (yK xs*yK xs)) Qej W
  have c3:=fun W=>add _ _ (isN_mod (yK xs*yK xs%p*dN)) (num_isN 1) W
  have c4:=fun W=>sub _ _ (isN_mod (yK xs*yK xs)) (num_isN 1) W
  have c5:=fun W=>inv _ (isN_mod (yK xs*yK xs%p*dN%p+1)) W
  have c6:=fun W=>mul _ _ (isN_mod (yK xs*yK xs%p-1)) (QcT ((yK xs*yK xs%p*dN%p+1)%p)) W
  cases hc:canK xs
  · have e:okK xs=false:=by unfold okK; rw [hc]; rfl
    unfold xK lK
    rw [e]
    cases ho:oddK xs
    · exact QoF xs _ hx hb (bytes_len _) _ ho hc c0 cb w tB hB
    · exact Qo9 xs _ hx hb (bytes_len _) _ ho hc c0 cb w tB hB
  · cases hr:Qb3 (uK (yK xs))
    · have e:okK xs=false:=by unfold okK; rw [hc,hr]; rfl
      unfold xK lK
      rw [e]
      cases ho:oddK xs
      · exact QoE xs _ hx hb (bytes_len _) _ _ _ _ _ _ _ _ ho hc c0 c1 c2 c3 c4 c5 c6 cb (cr _ hr) w tB hB
      · exact QoD xs _ hx hb (bytes_len _) _ _ _ _ _ _ _ _ ho hc c0 c1 c2 c3 c4 c5 c6 cb (cr _ hr) w tB hB
    · cases ho:oddK xs
      · have e:okK xs=true:=by unfold okK; rw [hc,hr,ho]; rfl
        unfold xK lK
        rw [e,ho]
        exact QoA xs _ hx hb (bytes_len _) _ _ _ _ _ _ _ _ _ _ ho hc c0 c1 c2 c3 c4 c5 c6 cb (cr _ hr) (fun W=>patC _ _ (Qeh xs) hy W) w tB hB
      · cases hz:(rK xs==0)
        · have e:okK xs=true:=by unfold okK; rw [hc,hr,ho,hz]; rfl
          unfold xK lK
          rw [e,ho]
          exact QoB xs _ hx hb (bytes_len _) _ _ _ _ _ _ _ _ _ _ _ ho hc (Qeh xs) hz c0 c1 c2 c3 c4 c5 c6 cb (cr _ hr) (fun W=>Qqi _ (Qeh xs) W) (fun W=>patC _ _ (Qjd _ (Qeh xs)) hy W) w tB hB
        · have e:okK xs=false:=by unfold okK; rw [hc,hr,ho,hz]; rfl
          unfold xK lK
          rw [e]
          exact QoC xs _ hx hb (bytes_len _) _ _ _ _ _ _ _ _ ho hc (Qeh xs) hz c0 c1 c2 c3 c4 c5 c6 cb (cr _ hr) w tB hB
set_option maxRecDepth 100000 in
theorem rfromC (xs : List Int) (hx:xs.length=32) (hb:Qaj xs) (w:World) :
    Calls Tryd.prog 37 #[.agg (ints .u8 xs)] w (Ret w (.tuple #[.agg (cat [ints .i64 (lims (xK xs)),ints .i64 (lims (zK xs)),ints .i64 (lims 1)]),.bool (okK xs)])):=by
  have c0:∀ W,Calls Tryd.prog 60 #[.agg (ints .u8 (cutK xs))] W (Ret W (lnum (yK xs))):=fun W=>lFrom (cutK xs) (Qj6 hx) (Qgu hb) W
  have hy:=Qkr xs
  have cb:∀ W,Calls Tryd.prog 57 #[lnum (yK xs)] W (Ret W (.agg (ints .u8 (Qaq (yK xs))))):=fun W=>Qlw _ W
  have cr:∀ b,Qb3 (uK (yK xs))=b→∀ W,Calls Tryd.prog 75 #[lnum (uK (yK xs))] W (Ret W (.tuple #[lnum (rK xs),.bool b])):=fun b e W=>by
    have:=Qrq (uK (yK xs)) (isN_mod _) W
    rw [e] at this
    exact this
  have c1:=fun W=>Qdz _ _ hy hy W
  have c2:∀ W,Calls Tryd.prog 58 #[lnum dN,lnum (yK xs*yK xs%p)] W (Ret W (lnum (yK xs*yK xs%p*dN%p))):=fun W=>by
    have:=Qdz _ _ Qej (isN_mod (yK xs*yK xs)) W
    rw [Int.mul_comm dN] at this
    exact this
  have c3:=fun W=>Qlx _ _ (isN_mod (yK xs*yK xs%p*dN)) (num_isN 1) W
  have c4:=fun W=>Qki _ _ (isN_mod (yK xs*yK xs)) (num_isN 1) W
  have c5:=fun W=>lInv _ (isN_mod (yK xs*yK xs%p*dN%p+1)) W
  have c6:=fun W=>Qdz _ _ (isN_mod (yK xs*yK xs%p-1)) (QcT ((yK xs*yK xs%p*dN%p+1)%p)) W
  cases hc:canK xs
  · have e:okK xs=false:=by unfold okK; rw [hc]; rfl
    unfold xK zK
    rw [e]
    cases ho:oddK xs
    · exact Qov xs _ hx hb (bytes_len _) _ (QfC hb _ ho) hc c0 cb w
    · exact Qop xs _ hx hb (bytes_len _) _ (QfC hb _ ho) hc c0 cb w
  · cases hr:Qb3 (uK (yK xs))
    · have e:okK xs=false:=by unfold okK; rw [hc,hr]; rfl
      unfold xK zK
      rw [e]
      cases ho:oddK xs
      · exact Qou xs _ hx hb (bytes_len _) _ _ _ _ _ _ _ _ (QfC hb _ ho) hc c0 c1 c2 c3 c4 c5 c6 cb (cr _ hr) w
      · exact Qot xs _ hx hb (bytes_len _) _ _ _ _ _ _ _ _ (QfC hb _ ho) hc c0 c1 c2 c3 c4 c5 c6 cb (cr _ hr) w
    · cases ho:oddK xs
      · have e:okK xs=true:=by unfold okK; rw [hc,hr,ho]; rfl
        unfold xK zK
        rw [e,ho]
        exact Qoq xs _ hx hb (bytes_len _) _ _ _ _ _ _ _ _ (QfC hb _ ho) hc c0 c1 c2 c3 c4 c5 c6 cb (cr _ hr) w
      · cases hz:(rK xs==0)
        · have e:okK xs=true:=by unfold okK; rw [hc,hr,ho,hz]; rfl
          unfold xK zK
          rw [e,ho]
          exact Qor xs _ hx hb (bytes_len _) _ _ _ _ _ _ _ _ _ (QfC hb _ ho) hc (Qq6 (Qeh xs) _ hz) c0 c1 c2 c3 c4 c5 c6 (fun W=>Qki _ _ (num_isN 0) (Qeh xs) W) cb (cr _ hr) w
        · have e:okK xs=false:=by unfold okK; rw [hc,hr,ho,hz]; rfl
          unfold xK zK
          rw [e]
          exact Qos xs _ hx hb (bytes_len _) _ _ _ _ _ _ _ _ (QfC hb _ ho) hc (Qq6 (Qeh xs) _ hz) c0 c1 c2 c3 c4 c5 c6 cb (cr _ hr) w
end Go.Proofs.YtdoadngmgmdlbaaDoor.Field
end
section
namespace Go.Proofs.YtdoadngmgmdlbaaDoor.Field
open Go Go.RowKit
open Rely Auto
theorem addL (a b:Int):(a%p+b)%p=(a+b)%p:=Int.emod_add_emod ..
theorem addR (a b:Int):(a+b%p)%p=(a+b)%p:=Int.add_emod_emod ..
theorem subL (a b:Int):(a%p-b)%p=(a-b)%p:=Int.emod_sub_emod ..
theorem subR (a b:Int):(a-b%p)%p=(a-b)%p:=Int.sub_emod_emod ..
theorem QdH {a b:Int} (h:a=b):a%p=b%p:=by rw [h]
theorem Qbh {a : Int} (h:isN a):a%p=a:=Int.emod_eq_of_lt h.1 h.2
theorem Qo0 {y : Int} (h:isN y) (x:Int):pyF x ((y-1)%p)=y:=by
  unfold pyF
  show ((y-1)%p+1)%p=y
  rw [addL,show y-1+1=y by omega,Qbh h]
theorem Qpm : invN 1=1:=by
  have h:=QgY 1 (num_isN 1) (by decide)
  rw [Int.one_mul,Qbh (QcT 1)] at h
  exact h
theorem QfI {x : Int} (h:isN x):x*invN 1%p=x:=by rw [Qpm,Int.mul_one,Qbh h]
theorem Qjc (r : Int):QgM r=(0-r)%p:=by unfold QgM; rfl
theorem Qon (xs : List Int) (i:Nat):xs.set i (nth xs i)=xs:=by
  by_cases h:i<xs.length
  · have e:nth xs i=xs[i]:=by simp [nth,h]
    rw [e]
    exact List.set_getElem_self h
  · exact List.set_eq_of_length_le (by omega)
theorem Qpu (x y:Int):(enc x y).length=32:=by unfold enc; split; simp [bytes_len]; exact bytes_len y
end Go.Proofs.YtdoadngmgmdlbaaDoor.Field
end
section
namespace Go.Proofs.YtdoadngmgmdlbaaDoor.Field
open Go Go.RowKit
open Rely Auto
def blN : Int:=46316835694926478169428394003475163141307993866256225615783033603165251855959
theorem Qp8 : QkT=(bxN,blN):=by decide +kernel
theorem QqM (w : World) (tX:TypeId) (hX:w.heap[0]? = some (.cells (ints .u8 QbN) tX)) (tY:TypeId) (hY:w.heap[1]? = some (.cells (ints .u8 QbM) tY)) :
    Calls Tryd.prog 20 #[] w (Ret w (.agg (cat [numA bxN,numA blN]))):=by
  have:=Qqm w tX hX tY hY
  rw [Qp8] at this
  exact this
end Go.Proofs.YtdoadngmgmdlbaaDoor.Field
end
section
namespace Go.Proofs.YtdoadngmgmdlbaaDoor.Field
open Go Go.RowKit
open Rely Auto
theorem Qch {a b:Int} (ha:a%p≠0) (hb:b%p≠0):a*b%p≠0:=fun h=>by
  have hA:=QgY (a%p) (isN_mod _) ha
  apply hb
  have e:(a%p*invN (a%p)%p)*b%p=invN (a%p)*(a*b%p)%p:=by
    rw [modL,modR,Int.mul_assoc,modL,←Int.mul_assoc,←Int.mul_assoc,Int.mul_comm a]
  rw [hA,h,Int.one_mul,Int.mul_zero] at e
  rw [e]
  rfl
theorem Qkv (a b c d e f g h k:Int):QcM a b c d e f g h k =
    (((b+a)*(f+e)-(b-a)*(f-e))*(c*g+c*g-(d*h*k+d*h*k))%p,(c*g+c*g+(d*h*k+d*h*k))*((b+a)*(f+e)+(b-a)*(f-e))%p,
     (c*g+c*g-(d*h*k+d*h*k))*(c*g+c*g+(d*h*k+d*h*k))%p,((b+a)*(f+e)-(b-a)*(f-e))*((b+a)*(f+e)+(b-a)*(f-e))%p):=by
  simp only [QcM,modL,modR,addL,addR,subL,subR]
theorem QkI (x y z u v t:Int):Qed x y z u v t =
    (z*t*((z*t*(z*t)-dN*(x*u*(y*v)))*((x+y)*(u+v)-x*u-y*v))%p,z*t*((z*t*(z*t)+dN*(x*u*(y*v)))*(y*v+x*u))%p,
     (z*t*(z*t)-dN*(x*u*(y*v)))*(z*t*(z*t)+dN*(x*u*(y*v)))%p):=by
  simp only [Qed,modL,modR,addL,addR,subL,subR]
theorem Qo7 (a b c d:Int):Qe9 a b c d=(a*invN c%p,(b*invN c%p-1)%p):=rfl
end Go.Proofs.YtdoadngmgmdlbaaDoor.Field
end
section
namespace Go.Proofs.YtdoadngmgmdlbaaDoor.Field
open Go Go.RowKit
open Rely Auto
set_option maxHeartbeats 4000000
theorem zc1 {e a c:Int} (ha:a%p=0) (he:e=c*a):e%p=0:=by
  rw [he,Int.mul_emod,ha,Int.mul_zero]; rfl
theorem zc2 {e a b c d:Int} (ha:a%p=0) (hb:b%p=0) (he:e=c*a+d*b):e%p=0:=by
  rw [he,Int.add_emod,zc1 ha rfl,zc1 hb rfl]; rfl
theorem zc4 {e a b c d k l m n:Int} (ha:a%p=0) (hb:b%p=0) (hc:c%p=0) (hd:d%p=0) (he:e=k*a+l*b+m*c+n*d):e%p=0:=by
  rw [he,Int.add_emod,Int.add_emod (k*a+l*b),zc2 ha hb rfl,zc1 hc rfl,zc1 hd rfl]; rfl
theorem Qg5 {a b:Int} (h:a*b%p=0):a%p=0∨b%p=0:=by
  by_cases ha:a%p=0
  · exact .inl ha
  · by_cases hb:b%p=0
    · exact .inr hb
    · exact absurd h (Qch ha hb)
theorem Qg4 {a b:Int} (h:(a-b)%p=0):a%p=b%p:=Int.emod_eq_emod_iff_emod_sub_eq_zero.2 h
theorem Qk1 {a b:Int} (h:a%p=b%p):(a-b)%p=0:=Int.emod_eq_emod_iff_emod_sub_eq_zero.1 h
theorem QqW {a : Int} (h:2*a%p=0):a%p=0:=(Qg5 h).resolve_left (by decide)
theorem Qgi {a : Int} (h:a%p≠0):(a*invN (a%p)-1)%p=0:=by
  have:=QgY (a%p) (isN_mod _) h
  rw [modL] at this
  exact Qk1 (by rw [this]; rfl)
def hN : Nat:=28948022309329048855892746252171976963317496166410141009864396001978282409974
theorem QlJ : Prime.pm 57896044618658097711785492504343953926634992332820282019728792003956564819949 256 ((p-dN).toNat) hN=57896044618658097711785492504343953926634992332820282019728792003956564819948:=by decide +kernel
theorem Qnx : ((p-dN).toNat:Int)^hN%p=p-1:=by
  have h:=Prime.pm_eq 57896044618658097711785492504343953926634992332820282019728792003956564819949 256 ((p-dN).toNat) hN (by decide)
  rw [QlJ] at h
  have h2:=QdM ((p-dN).toNat) hN 57896044618658097711785492504343953926634992332820282019728792003956564819949
  rw [←h] at h2
  exact h2
theorem QqD (h : Nat) (e:h=hN):2*h=57896044618658097711785492504343953926634992332820282019728792003956564819949-1:=by rw [e]; decide
theorem Qo4 (h : Nat) (D a:Int) (hh:2*h=57896044618658097711785492504343953926634992332820282019728792003956564819949-1) (hD:D^h%p=p-1) (b:Int) (ha:a%p≠0)
    (hs:D*(a*a)%p=b*b%p):False:=by
  have ha1:=QdY (a%p) (isN_mod _) ha (2*h) hh
  rw [Qdx] at ha1
  have e:(D*(a*a))^h%p=(b*b)^h%p:=by rw [←Qdx (D*(a*a)),hs,Qdx]
  have sq:∀ c:Int,(c*c)^h=c^(2*h):=fun c=>by rw [Int.pow_mul,show c^2=c*c from by rw [Int.pow_succ,Int.pow_succ,Int.pow_zero,Int.one_mul]]
  rw [Int.mul_pow,sq,sq,Int.mul_emod,hD,ha1,Int.mul_one] at e
  rw [show (p-1)%p=p-1 by decide] at e
  by_cases hb:b%p=0
  · rw [←Qdx b,hb] at e
    have h0:0<2*h:=by omega
    rw [Int.zero_pow (by omega)] at e
    exact absurd e (by decide)
  · have hb1:=QdY (b%p) (isN_mod _) hb (2*h) hh
    rw [Qdx] at hb1
    rw [hb1] at e
    exact absurd e (by decide)
theorem nonsq {a b:Int} (ha:a%p≠0) (h:(-dN*(a*a)-b*b)%p=0):False:=by
  refine Qo4 hN ((p-dN).toNat:Int) a (QqD _ rfl) Qnx b ha ?_
  rw [←Qg4 h]
  have e:((p-dN).toNat:Int)=p-dN:=by decide +kernel
  rw [e]
  refine Int.emod_eq_emod_iff_emod_sub_eq_zero.2 ?_
  rw [show (p-dN)*(a*a) - -dN*(a*a)=p*(a*a) by grind]
  exact Int.mul_emod_right ..
def cv (x y:Int):Int:=-(x*x)+y*y-1-dN*(x*x*(y*y))
def onC (x y:Int):Prop:=cv x y%p=0
def eps (x y u v:Int):Int:=dN*(x*u*(y*v))
theorem QiE (d i s x y u v:Int) (hs:s*s=1):-d*((i*x*y)*(i*u+s*v)*((i*x*y)*(i*u+s*v)))-(i*x+s*(d*(x*u*(y*v)))*y)*(i*x+s*(d*(x*u*(y*v)))*y) =
    (-(x*x)*(d*(i*i)*(u*u)*(y*y)+2*d*i*u*s*v*(y*y)-d*(u*u)*(y*y)+d*(v*v)*(y*y)+1))*(i*i+1) + -1*(-(x*x)+y*y-1-d*(x*x*(y*y)))
      + (d*(x*x)*(y*y))*(-(u*u)+v*v-1-d*(u*u*(v*v)))+(1-y*y)*(d*(x*u*(y*v))*(d*(x*u*(y*v)))-1):=by grind
theorem complete {x y u v:Int} (h1:onC x y) (h2:onC u v):(eps x y u v*eps x y u v-1)%p≠0:=fun he=>by
  have hi:(Qbn*Qbn+1)%p=0:=by rw [←addL,QgF]; rfl
  have hi0:Qbn%p≠0:=fun e=>by
    have:=QgF
    rw [←modL,e,Int.zero_mul] at this
    exact absurd this (by decide)
  have hx:eps x y u v%p≠0:=fun e=>by
    rw [←subL,←modL,e,Int.zero_mul] at he
    exact absurd he (by decide)
  have hx':∀ a b:Int,eps x y u v=a*b→a%p≠0:=fun a b e h=>by
    apply hx; rw [e,←modL,h,Int.zero_mul]; rfl
  have hX:=hx' x (dN*(u*(y*v))) (by unfold eps; grind)
  have hY:=hx' y (dN*(u*(x*v))) (by unfold eps; grind)
  have hU:=hx' u (dN*(x*(y*v))) (by unfold eps; grind)
  have hb:(Qbn*x*y)%p≠0:=Qch (Qch hi0 hX) hY
  have key:∀ s:Int,s*s=1→(Qbn*u+s*v)%p=0:=fun s hs=>by
    apply Decidable.byContradiction
    intro hne
    exact nonsq (Qch hb hne) (zc4 hi h1 h2 he (QiE dN Qbn s x y u v hs))
  have k1:=key 1 rfl
  have k2:=key (-1) rfl
  have k3:Qbn*(2*u)%p=0:=zc2 k1 k2 (c:=1) (d:=1) (by grind)
  exact hU (QqW ((Qg5 k3).resolve_left hi0))
theorem QeZ {x y u v:Int} (h1:onC x y) (h2:onC u v):(1+eps x y u v)%p≠0:=fun h=>complete h1 h2 (zc1 h (c:=eps x y u v-1) (by grind))
theorem QeY {x y u v:Int} (h1:onC x y) (h2:onC u v):(1-eps x y u v)%p≠0:=fun h=>complete h1 h2 (zc1 h (c:=-1-eps x y u v) (by grind))
def aX (x y u v:Int):Int:=(x*v+y*u)*invN ((1+eps x y u v)%p)%p
def aY (x y u v:Int):Int:=(y*v+x*u)*invN ((1-eps x y u v)%p)%p
theorem QlM (d x y u v:Int):-((x*v+y*u)*(x*v+y*u)*((1-d*(x*u*(y*v)))*(1-d*(x*u*(y*v)))))+(y*v+x*u)*(y*v+x*u)*((1+d*(x*u*(y*v)))*(1+d*(x*u*(y*v))))
      - (1+d*(x*u*(y*v)))*(1+d*(x*u*(y*v)))*((1-d*(x*u*(y*v)))*(1-d*(x*u*(y*v))))-d*((x*v+y*u)*(x*v+y*u)*((y*v+x*u)*(y*v+x*u))) =
    (d^3*u^4*v^4*x^2*y^2-d^2*u^4*v^4*x^2+d^2*u^4*v^4*y^2-d^2*u^4*v^4-2*d*u^4*v^4-d*u^4*v^2*x^2+d*u^4*v^2*y^2+d*u^2*v^4*x^2-d*u^2*v^4*y^2-2*d*u^2*v^2-2*u^4*v^2+u^4+2*u^2*v^4-4*u^2*v^2+v^4)*(-(x*x)+y*y-1-d*(x*x*(y*y)))
      + (d*u^2*v^2*x^4+2*d*u^2*v^2*x^2+d*u^2*v^2*y^4-2*d*u^2*v^2*y^2+d*u^2*v^2+2*u^2*v^2*x^2-2*u^2*v^2*y^2+2*u^2*v^2-u^2*x^2+u^2*y^2-u^2+v^2*x^2-v^2*y^2+v^2+1)*(-(u*u)+v*v-1-d*(u*u*(v*v))):=by grind
theorem QiF (d n m a b i j X Y:Int) (hi:(a*i-1)%p=0) (hj:(b*j-1)%p=0) (hX:(X-n*i)%p=0) (hY:(Y-m*j)%p=0)
    (h:(-(n*n*(b*b))+m*m*(a*a)-a*a*(b*b)-d*(n*n*(m*m)))%p=0):(-(X*X)+Y*Y-1-d*(X*X*(Y*Y)))%p=0:=by
  have e1:(-(n*i*(n*i))+m*j*(m*j)-1-d*(n*i*(n*i)*(m*j*(m*j))))%p=0:=by
    refine zc4 h hi hj (d:=0) rfl (k:=i*i*(j*j)) (l:=-((m*m*(j*j))*(a*i+1))+(a*i+1)*(b*j)*(b*j)) (m:=n*n*(i*i)*(b*j+1)+(b*j+1)) (n:=0) ?_
    grind
  refine zc4 e1 hX hY (d:=0) rfl (k:=1) (l:=-(X+n*i)-d*(Y*Y)*(X+n*i)) (m:=(Y+m*j)-d*(n*i*(n*i))*(Y+m*j)) (n:=0) ?_
  grind
theorem closed {x y u v:Int} (h1:onC x y) (h2:onC u v):onC (aX x y u v) (aY x y u v):=by
  unfold onC cv
  refine QiF dN (x*v+y*u) (y*v+x*u) (1+eps x y u v) (1-eps x y u v) _ _ _ _ (Qgi (QeZ h1 h2)) (Qgi (QeY h1 h2)) (Qk1 (Int.emod_emod ..)) (Qk1 (Int.emod_emod ..)) ?_
  exact zc2 h1 h2 (QlM dN x y u v)
theorem Qjh : onC 0 1:=rfl
structure RepW (X Y Z T x y : Int) : Prop where
  n:isN Z
  z:Z≠0
  hx:X=Z*x%p
  hy:Y=Z*y%p
  ht:T=Z*(x*y)%p
structure RepR (X Y Z x y : Int) : Prop where
  n:isN Z
  z:Z≠0
  hx:X=Z*x%p
  hy:Y=Z*y%p
theorem QgG (k a i n z:Int) (hi:(a*i-1)%p=0) (hz:(z-k*a)%p=0):(k*n)%p=z*(n*i%p)%p:=by
  rw [modR]
  refine (Qg4 (zc2 hi hz (c:=k*n) (d:=n*i) ?_)).symm
  grind
theorem Qm2 (k a b i j n m z:Int) (hi:(a*i-1)%p=0) (hj:(b*j-1)%p=0) (hz:(z-k*(b*a))%p=0):(k*(n*m))%p=z*(n*i%p*(m*j%p))%p:=by
  have e:(n*i%p*(m*j%p))%p=n*i*(m*j)%p:=by rw [modL,modR]
  rw [←modR z,e,modR]
  refine (Qg4 (zc4 hi hj hz (d:=0) rfl (k:=k*b*j*(n*m)) (l:=k*(n*m)) (m:=n*i*(m*j)) (n:=0) ?_)).symm
  grind
theorem Qmi {X Y Z T x y U V S R u v:Int} (h1:onC x y) (h2:onC u v) (p1:RepW X Y Z T x y) (p2:RepW U V S R u v) :
    RepW (QcM X Y Z T U V S R dN).1 (QcM X Y Z T U V S R dN).2.1 (QcM X Y Z T U V S R dN).2.2.1 (QcM X Y Z T U V S R dN).2.2.2 (aX x y u v) (aY x y u v):=by
  have e:QcM X Y Z T U V S R dN=(4*(Z*S*(Z*S))*(1-eps x y u v)*(x*v+y*u)%p,4*(Z*S*(Z*S))*(1+eps x y u v)*(y*v+x*u)%p,
      4*(Z*S*(Z*S))*((1-eps x y u v)*(1+eps x y u v))%p,4*(Z*S*(Z*S))*((x*v+y*u)*(y*v+x*u))%p):=by
    rw [p1.hx,p1.hy,p1.ht,p2.hx,p2.hy,p2.ht]
    have e0:QcM (Z*x%p) (Z*y%p) Z (Z*(x*y)%p) (S*u%p) (S*v%p) S (S*(u*v)%p) dN=QcM (Z*x) (Z*y) Z (Z*(x*y)) (S*u) (S*v) S (S*(u*v)) dN:=by
      simp only [QcM,modL,modR,addL,addR,subL,subR]
    rw [e0,Qkv]
    refine Prod.ext ?_ (Prod.ext ?_ (Prod.ext ?_ ?_)) <;> refine QdH ?_ <;> ((try unfold eps); grind)
  have hz:(4*(Z*S*(Z*S))*((1-eps x y u v)*(1+eps x y u v)))%p≠0:=by
    have a1:Z%p≠0:=by rw [Qbh p1.n]; exact p1.z
    have a2:S%p≠0:=by rw [Qbh p2.n]; exact p2.z
    exact Qch (Qch (by decide) (Qch (Qch a1 a2) (Qch a1 a2))) (Qch (QeY h1 h2) (QeZ h1 h2))
  have i1:=Qgi (QeZ h1 h2)
  have i2:=Qgi (QeY h1 h2)
  rw [e]
  refine ⟨isN_mod _,hz,?_,?_,?_⟩
  · exact QgG _ _ _ _ _ i1 (by rw [show ∀ a b:Int,a%p-b=a%p-b from fun _ _=>rfl,subL]; exact zc1 (a:=0) rfl (c:=0) (by grind))
  · exact QgG _ _ _ _ _ i2 (by rw [subL]; exact zc1 (a:=0) rfl (c:=0) (by grind))
  · exact Qm2 _ _ _ _ _ _ _ _ i1 i2 (by rw [subL]; exact zc1 (a:=0) rfl (c:=0) (by grind))
theorem Qm6 {X Y Z x y U V S u v:Int} (h1:onC x y) (h2:onC u v) (p1:RepR X Y Z x y) (p2:RepR U V S u v) :
    RepR (Qed X Y Z U V S).1 (Qed X Y Z U V S).2.1 (Qed X Y Z U V S).2.2 (aX x y u v) (aY x y u v):=by
  have e:Qed X Y Z U V S=((Z*S*(Z*S)*(Z*S*(Z*S)))*(1-eps x y u v)*(x*v+y*u)%p,(Z*S*(Z*S)*(Z*S*(Z*S)))*(1+eps x y u v)*(y*v+x*u)%p,
      (Z*S*(Z*S)*(Z*S*(Z*S)))*((1-eps x y u v)*(1+eps x y u v))%p):=by
    rw [p1.hx,p1.hy,p2.hx,p2.hy]
    have e0:Qed (Z*x%p) (Z*y%p) Z (S*u%p) (S*v%p) S=Qed (Z*x) (Z*y) Z (S*u) (S*v) S:=by
      simp only [Qed,modL,modR,addL,addR,subL,subR]
    rw [e0,QkI]
    refine Prod.ext ?_ (Prod.ext ?_ ?_) <;> refine QdH ?_ <;> ((try unfold eps); grind)
  have hz:((Z*S*(Z*S)*(Z*S*(Z*S)))*((1-eps x y u v)*(1+eps x y u v)))%p≠0:=by
    have a1:Z%p≠0:=by rw [Qbh p1.n]; exact p1.z
    have a2:S%p≠0:=by rw [Qbh p2.n]; exact p2.z
    exact Qch (Qch (Qch (Qch a1 a2) (Qch a1 a2)) (Qch (Qch a1 a2) (Qch a1 a2))) (Qch (QeY h1 h2) (QeZ h1 h2))
  have i1:=Qgi (QeZ h1 h2)
  have i2:=Qgi (QeY h1 h2)
  rw [e]
  refine ⟨isN_mod _,hz,?_,?_⟩
  · exact QgG _ _ _ _ _ i1 (by rw [subL]; exact zc1 (a:=0) rfl (c:=0) (by grind))
  · exact QgG _ _ _ _ _ i2 (by rw [subL]; exact zc1 (a:=0) rfl (c:=0) (by grind))
theorem QhW (r : Int) (h:isN r):QaZ r*QaZ r%p=r*r%p:=by
  unfold QaZ
  split
  · rw [modL,modR]; exact QdH (by grind)
  · rfl
theorem Qkk {a : Int} (h:Qb3 a=true):Qdb a*Qdb a%p=a:=by
  unfold Qb3 at h
  unfold Qdb Qmy
  by_cases h1:QaQ a*QaQ a%p=a
  · rw [if_pos h1,QhW _ (QdE a)]; exact h1
  · rw [if_neg h1]
    have h2:QaQ a*Qbn%p*(QaQ a*Qbn%p)%p=a:=by simpa [h1] using h
    rw [if_pos h2,QhW _ (isN_mod _)]; exact h2
theorem QnD {x y:Int} (hx:x*x%p=uK y):onC x y:=by
  unfold uK at hx
  have hw:(y*y*dN+1)%p≠0:=fun h=>by
    by_cases hy:y%p=0
    · rw [←addL,Int.mul_assoc,←modL,hy,Int.zero_mul] at h
      exact absurd h (by decide)
    · exact nonsq (a:=y) (b:=1) hy (zc1 h (c:=-1) (by grind))
  have i1:=Qgi hw
  have e:(y*y%p*dN%p+1)%p=(y*y*dN+1)%p:=by rw [modL,addL]
  rw [e] at hx
  have h2:(x*x-(y*y-1)*invN ((y*y*dN+1)%p))%p=0:=by
    refine Qk1 ?_
    rw [hx,modL,←modL (y*y%p-1),subL,modL]
  unfold onC cv
  refine zc2 h2 i1 (c:=-(y*y*dN+1)) (d:=-(y*y-1)) ?_
  grind
theorem Qrv (xs : List Int):onC (xK xs) (zK xs):=by
  unfold xK zK
  by_cases h:okK xs=true
  · rw [if_pos h,if_pos h]
    have hr:Qb3 (uK (yK xs))=true:=by
      unfold okK at h
      simp only [Bool.and_eq_true] at h
      exact h.2.1
    have hs:=Qkk hr
    have hn:QgM (rK xs)*QgM (rK xs)%p=rK xs*rK xs%p:=by
      rw [Qjc,modL,modR]; exact QdH (by grind)
    split
    · exact QnD (hn.trans hs)
    · exact QnD hs
  · rw [if_neg h,if_neg h]; exact Qjh
end Go.Proofs.YtdoadngmgmdlbaaDoor.Field
end
section
namespace Go.Proofs.YtdoadngmgmdlbaaDoor.Field
set_option maxHeartbeats 4000000
theorem QlY (d x y u v r s:Int):((x*v+y*u)*(1-(d*(x*u*(y*v))))*s+(y*v+x*u)*(1+(d*(x*u*(y*v))))*r)*((1+(d*(u*r*(v*s))))*(1-(d*(u*r*(v*s))))+d*((u*s+v*r)*x*((v*s+u*r)*y)))-((u*s+v*r)*(1-(d*(u*r*(v*s))))*y+(v*s+u*r)*(1+(d*(u*r*(v*s))))*x)*((1+(d*(x*u*(y*v))))*(1-(d*(x*u*(y*v))))+d*((x*v+y*u)*r*((y*v+x*u)*s))) =
    (-d^2*r^2*s*u^4*v^3*x+d^2*r^2*s*u^3*v^4*y+d^2*r*s^2*u^4*v^3*y-d^2*r*s^2*u^3*v^4*x-d*r^3*u^3*v^2*x-d*r^3*u^2*v^3*y-d*r^2*s*u^4*v*x-d*r^2*s*u*v^4*y+d*r*s^2*u^4*v*y+d*r*s^2*u*v^4*x-d*r*u^3*v^2*x-d*r*u^2*v^3*y+d*s^3*u^3*v^2*y+d*s^3*u^2*v^3*x-d*s*u^3*v^2*y-d*s*u^2*v^3*x)*(-(x*x)+y*y-1-d*(x*x*(y*y)))
    + (d^2*r^3*s^2*u^2*v*x^2*y+d^2*r^3*s^2*u*v^2*x*y^2-d^2*r^2*s^3*u^2*v*x*y^2-d^2*r^2*s^3*u*v^2*x^2*y+d*r^3*s^2*u*x^3-d*r^3*s^2*u*x*y^2+d*r^3*s^2*u*x+d*r^3*s^2*v*x^2*y-d*r^3*s^2*v*y^3+d*r^3*s^2*v*y+d*r^2*s^3*u*x^2*y-d*r^2*s^3*u*y^3+d*r^2*s^3*u*y+d*r^2*s^3*v*x^3-d*r^2*s^3*v*x*y^2+d*r^2*s^3*v*x+d*r^2*s*u^2*v*x^3-d*r^2*s*u^2*v*x*y^2+d*r^2*s*u^2*v*x-d*r^2*s*u*v^2*x^2*y+d*r^2*s*u*v^2*y^3-d*r^2*s*u*v^2*y-d*r*s^2*u^2*v*x^2*y+d*r*s^2*u^2*v*y^3-d*r*s^2*u^2*v*y+d*r*s^2*u*v^2*x^3-d*r*s^2*u*v^2*x*y^2+d*r*s^2*u*v^2*x+r^3*u*x^3-r^3*u*x*y^2+r^3*u*x+r^3*v*x^2*y-r^3*v*y^3+r^3*v*y+r^2*s*u*x^2*y-r^2*s*u*y^3+r^2*s*u*y+r^2*s*v*x^3-r^2*s*v*x*y^2+r^2*s*v*x-r*s^2*u*x^3+r*s^2*u*x*y^2-r*s^2*u*x-r*s^2*v*x^2*y+r*s^2*v*y^3-r*s^2*v*y+r*u*x^3-r*u*x*y^2+r*u*x+r*v*x^2*y-r*v*y^3+r*v*y-s^3*u*x^2*y+s^3*u*y^3-s^3*u*y-s^3*v*x^3+s^3*v*x*y^2-s^3*v*x+s*u*x^2*y-s*u*y^3+s*u*y+s*v*x^3-s*v*x*y^2+s*v*x)*(-(u*u)+v*v-1-d*(u*u*(v*v)))
    + (-d*r*u^2*v*x^2*y-d*r*u*v^2*x*y^2+d*s*u^2*v*x*y^2+d*s*u*v^2*x^2*y-r*u^3*x^3+r*u^3*x*y^2-r*u^3*x-r*u^2*v*x^2*y+r*u^2*v*y^3-r*u^2*v*y+r*u*v^2*x^3-r*u*v^2*x*y^2+r*u*v^2*x-r*u*x^3+r*u*x*y^2-r*u*x+r*v^3*x^2*y-r*v^3*y^3+r*v^3*y-r*v*x^2*y+r*v*y^3-r*v*y-s*u^3*x^2*y+s*u^3*y^3-s*u^3*y-s*u^2*v*x^3+s*u^2*v*x*y^2-s*u^2*v*x+s*u*v^2*x^2*y-s*u*v^2*y^3+s*u*v^2*y-s*u*x^2*y+s*u*y^3-s*u*y+s*v^3*x^3-s*v^3*x*y^2+s*v^3*x-s*v*x^3+s*v*x*y^2-s*v*x)*(-(r*r)+s*s-1-d*(r*r*(s*s))):=by grind
theorem QlX (d x y u v r s:Int):((y*v+x*u)*(1+(d*(x*u*(y*v))))*s+(x*v+y*u)*(1-(d*(x*u*(y*v))))*r)*((1+(d*(u*r*(v*s))))*(1-(d*(u*r*(v*s))))-d*((u*s+v*r)*x*((v*s+u*r)*y)))-((v*s+u*r)*(1+(d*(u*r*(v*s))))*y+(u*s+v*r)*(1-(d*(u*r*(v*s))))*x)*((1+(d*(x*u*(y*v))))*(1-(d*(x*u*(y*v))))-d*((x*v+y*u)*r*((y*v+x*u)*s))) =
    (-d^2*r^2*s*u^4*v^3*y+d^2*r^2*s*u^3*v^4*x+d^2*r*s^2*u^4*v^3*x-d^2*r*s^2*u^3*v^4*y-d*r^3*u^3*v^2*y-d*r^3*u^2*v^3*x-d*r^2*s*u^4*v*y-d*r^2*s*u*v^4*x+d*r*s^2*u^4*v*x+d*r*s^2*u*v^4*y-d*r*u^3*v^2*y-d*r*u^2*v^3*x+d*s^3*u^3*v^2*x+d*s^3*u^2*v^3*y-d*s*u^3*v^2*x-d*s*u^2*v^3*y)*(-(x*x)+y*y-1-d*(x*x*(y*y)))
    + (-d^2*r^3*s^2*u^2*v*x*y^2-d^2*r^3*s^2*u*v^2*x^2*y+d^2*r^2*s^3*u^2*v*x^2*y+d^2*r^2*s^3*u*v^2*x*y^2+d*r^3*s^2*u*x^2*y-d*r^3*s^2*u*y^3+d*r^3*s^2*u*y+d*r^3*s^2*v*x^3-d*r^3*s^2*v*x*y^2+d*r^3*s^2*v*x+d*r^2*s^3*u*x^3-d*r^2*s^3*u*x*y^2+d*r^2*s^3*u*x+d*r^2*s^3*v*x^2*y-d*r^2*s^3*v*y^3+d*r^2*s^3*v*y+d*r^2*s*u^2*v*x^2*y-d*r^2*s*u^2*v*y^3+d*r^2*s*u^2*v*y-d*r^2*s*u*v^2*x^3+d*r^2*s*u*v^2*x*y^2-d*r^2*s*u*v^2*x-d*r*s^2*u^2*v*x^3+d*r*s^2*u^2*v*x*y^2-d*r*s^2*u^2*v*x+d*r*s^2*u*v^2*x^2*y-d*r*s^2*u*v^2*y^3+d*r*s^2*u*v^2*y+r^3*u*x^2*y-r^3*u*y^3+r^3*u*y+r^3*v*x^3-r^3*v*x*y^2+r^3*v*x+r^2*s*u*x^3-r^2*s*u*x*y^2+r^2*s*u*x+r^2*s*v*x^2*y-r^2*s*v*y^3+r^2*s*v*y-r*s^2*u*x^2*y+r*s^2*u*y^3-r*s^2*u*y-r*s^2*v*x^3+r*s^2*v*x*y^2-r*s^2*v*x+r*u*x^2*y-r*u*y^3+r*u*y+r*v*x^3-r*v*x*y^2+r*v*x-s^3*u*x^3+s^3*u*x*y^2-s^3*u*x-s^3*v*x^2*y+s^3*v*y^3-s^3*v*y+s*u*x^3-s*u*x*y^2+s*u*x+s*v*x^2*y-s*v*y^3+s*v*y)*(-(u*u)+v*v-1-d*(u*u*(v*v)))
    + (d*r*u^2*v*x*y^2+d*r*u*v^2*x^2*y-d*s*u^2*v*x^2*y-d*s*u*v^2*x*y^2-r*u^3*x^2*y+r*u^3*y^3-r*u^3*y-r*u^2*v*x^3+r*u^2*v*x*y^2-r*u^2*v*x+r*u*v^2*x^2*y-r*u*v^2*y^3+r*u*v^2*y-r*u*x^2*y+r*u*y^3-r*u*y+r*v^3*x^3-r*v^3*x*y^2+r*v^3*x-r*v*x^3+r*v*x*y^2-r*v*x-s*u^3*x^3+s*u^3*x*y^2-s*u^3*x-s*u^2*v*x^2*y+s*u^2*v*y^3-s*u^2*v*y+s*u*v^2*x^3-s*u*v^2*x*y^2+s*u*v^2*x-s*u*x^3+s*u*x*y^2-s*u*x+s*v^3*x^2*y-s*v^3*y^3+s*v^3*y-s*v*x^2*y+s*v*y^3-s*v*y)*(-(r*r)+s*s-1-d*(r*r*(s*s))):=by grind
end Go.Proofs.YtdoadngmgmdlbaaDoor.Field
end
section
namespace Go.Proofs.YtdoadngmgmdlbaaDoor.Field
open Go Go.RowKit
open Rely Auto
set_option maxHeartbeats 4000000
theorem Qj1 (x y u v:Int):eps u v x y=eps x y u v:=by unfold eps; grind
theorem Qmc (x y u v:Int):aX u v x y=aX x y u v:=by
  unfold aX; rw [Qj1,show u*y+v*x=x*v+y*u by grind]
theorem Qma (x y u v:Int):aY u v x y=aY x y u v:=by
  unfold aY; rw [Qj1,show v*y+u*x=y*v+x*u by grind]
theorem Qmb (x y u v:Int):isN (aX x y u v):=isN_mod _
theorem QlZ (x y u v:Int):isN (aY x y u v):=isN_mod _
theorem QnR {D i n X:Int} (hi:(D*i-1)%p=0) (hX:X=n*i%p):(D*X-n)%p=0:=by
  have h1:(X-n*i)%p=0:=Qk1 (by rw [hX,Int.emod_emod])
  exact zc2 hi h1 (c:=n) (d:=D) (by grind)
theorem Qde {x y u v:Int} (h1:onC x y) (h2:onC u v):((1+eps x y u v)*aX x y u v-(x*v+y*u))%p=0:=QnR (Qgi (QeZ h1 h2)) rfl
theorem Qdd {x y u v:Int} (h1:onC x y) (h2:onC u v):((1-eps x y u v)*aY x y u v-(y*v+x*u))%p=0:=QnR (Qgi (QeY h1 h2)) rfl
theorem QnW (d D1 D2 N1 N2 X Y r s Z:Int) (h1:(D1*X-N1)%p=0) (h2:(D2*Y-N2)%p=0) (h3:((1+d*(X*r*(Y*s)))*Z-(X*s+Y*r))%p=0) :
    ((D1*D2+d*(N1*r*(N2*s)))*Z-(N1*D2*s+N2*D1*r))%p=0:=by
  refine zc4 h1 h2 h3 (d:=0) rfl (k:=D2*s-d*r*s*Z*N2) (l:=D1*r-d*r*s*Z*(D1*X)) (m:=D1*D2) (n:=0) ?_
  grind
theorem QnV (d D1 D2 N1 N2 X Y r s Z:Int) (h1:(D1*X-N1)%p=0) (h2:(D2*Y-N2)%p=0) (h3:((1-d*(X*r*(Y*s)))*Z-(Y*s+X*r))%p=0) :
    ((D1*D2-d*(N1*r*(N2*s)))*Z-(N2*D1*s+N1*D2*r))%p=0:=by
  refine zc4 h1 h2 h3 (d:=0) rfl (k:=D2*r+d*r*s*Z*N2) (l:=D1*s+d*r*s*Z*(D1*X)) (m:=D1*D2) (n:=0) ?_
  grind
theorem QlO (d D1 D2 N1 N2 X Y r s:Int) (h1:(D1*X-N1)%p=0) (h2:(D2*Y-N2)%p=0) (hd1:D1%p≠0) (hd2:D2%p≠0) (h3:(1+d*(X*r*(Y*s)))%p≠0) :
    (D1*D2+d*(N1*r*(N2*s)))%p≠0:=fun h=>by
  have e:(D1*D2*(1+d*(X*r*(Y*s))))%p=0:=by
    refine zc4 h h1 h2 (d:=0) rfl (k:=1) (l:=d*r*s*(D2*Y)) (m:=d*r*s*N1) (n:=0) ?_
    grind
  exact Qch (Qch hd1 hd2) h3 e
theorem cross {DL NL DM NM X Y:Int} (h1:(DL*X-NL)%p=0) (h2:(DM*Y-NM)%p=0) (hG:(NL*DM-NM*DL)%p=0) (hd1:DL%p≠0) (hd2:DM%p≠0):X%p=Y%p:=by
  have e:(DL*DM*(X-Y))%p=0:=by
    refine zc4 h1 h2 hG (d:=0) rfl (k:=DM) (l:=-DL) (m:=1) (n:=0) ?_
    grind
  exact Qg4 ((Qg5 e).resolve_left (Qch hd1 hd2))
theorem QqO {x y u v r s:Int} (h1:onC x y) (h2:onC u v) (h3:onC r s):aX (aX x y u v) (aY x y u v) r s=aX x y (aX u v r s) (aY u v r s):=by
  rw [←Qmc x y (aX u v r s)]
  have a:=Qde (closed h1 h2) h3
  have b:=Qde (closed h2 h3) h1
  have cl:=QnW dN _ _ _ _ _ _ r s _ (Qde h1 h2) (Qdd h1 h2) a
  have cm:=QnW dN _ _ _ _ _ _ x y _ (Qde h2 h3) (Qdd h2 h3) b
  have dl:=QlO dN _ _ _ _ _ _ r s (Qde h1 h2) (Qdd h1 h2) (QeZ h1 h2) (QeY h1 h2) (QeZ (closed h1 h2) h3)
  have dm:=QlO dN _ _ _ _ _ _ x y (Qde h2 h3) (Qdd h2 h3) (QeZ h2 h3) (QeY h2 h3) (QeZ (closed h2 h3) h1)
  have:=cross cl cm (zc4 h1 h2 h3 (d:=0) rfl (n:=0) ((QlY dN x y u v r s).trans (by rw [Int.mul_zero,Int.add_zero]; rfl))) dl dm
  rwa [Qbh (Qmb ..),Qbh (Qmb ..)] at this
theorem QlN (d D1 D2 N1 N2 X Y r s:Int) (h1:(D1*X-N1)%p=0) (h2:(D2*Y-N2)%p=0) (hd1:D1%p≠0) (hd2:D2%p≠0) (h3:(1-d*(X*r*(Y*s)))%p≠0) :
    (D1*D2-d*(N1*r*(N2*s)))%p≠0:=fun h=>by
  refine QlO (-d) D1 D2 N1 N2 X Y r s h1 h2 hd1 hd2 (fun h'=>h3 ?_) ?_
  · rw [←h']; exact QdH (by grind)
  · rw [←h]; exact QdH (by grind)
theorem QqN {x y u v r s:Int} (h1:onC x y) (h2:onC u v) (h3:onC r s):aY (aX x y u v) (aY x y u v) r s=aY x y (aX u v r s) (aY u v r s):=by
  rw [←Qma x y (aX u v r s)]
  have a:=Qdd (closed h1 h2) h3
  have b:=Qdd (closed h2 h3) h1
  have cl:=QnV dN _ _ _ _ _ _ r s _ (Qde h1 h2) (Qdd h1 h2) a
  have cm:=QnV dN _ _ _ _ _ _ x y _ (Qde h2 h3) (Qdd h2 h3) b
  have dl:=QlN dN _ _ _ _ _ _ r s (Qde h1 h2) (Qdd h1 h2) (QeZ h1 h2) (QeY h1 h2) (QeY (closed h1 h2) h3)
  have dm:=QlN dN _ _ _ _ _ _ x y (Qde h2 h3) (Qdd h2 h3) (QeZ h2 h3) (QeY h2 h3) (QeY (closed h2 h3) h1)
  have:=cross cl cm (zc4 h1 h2 h3 (d:=0) rfl (n:=0) ((QlX dN x y u v r s).trans (by rw [Int.mul_zero,Int.add_zero]; rfl))) dl dm
  rwa [Qbh (QlZ ..),Qbh (QlZ ..)] at this
structure OnP (P : Int × Int) : Prop where
  x:isN P.1
  y:isN P.2
  c:onC P.1 P.2
def pAdd (P Q:Int×Int):Int×Int:=(aX P.1 P.2 Q.1 Q.2,aY P.1 P.2 Q.1 Q.2)
def pNeg (P : Int×Int):Int×Int:=((0-P.1)%p,P.2)
def QcL : Int×Int:=(0,1)
theorem pZero_on : OnP QcL:=⟨num_isN 0,num_isN 1,Qjh⟩
theorem pAdd_on {P Q:Int×Int} (h:OnP P) (k:OnP Q):OnP (pAdd P Q):=⟨isN_mod _,isN_mod _,closed h.c k.c⟩
theorem pAdd_comm (P Q:Int×Int):pAdd P Q=pAdd Q P:=Prod.ext (Qmc ..) (Qma ..)
theorem pAdd_assoc {P Q R:Int×Int} (h:OnP P) (k:OnP Q) (l:OnP R):pAdd (pAdd P Q) R=pAdd P (pAdd Q R):=Prod.ext (QqO h.c k.c l.c) (QqN h.c k.c l.c)
theorem pAdd_zero {P : Int×Int} (h:OnP P):pAdd P QcL=P:=by
  have e:eps P.1 P.2 0 1=0:=by unfold eps; grind
  refine Prod.ext ?_ ?_
  · show (P.1*1+P.2*0)*invN ((1+eps P.1 P.2 0 1)%p)%p=P.1
    rw [e,show (1+0:Int)%p=1 from rfl,Int.mul_zero,Int.add_zero,Int.mul_one,QfI h.x]
  · show (P.2*1+P.1*0)*invN ((1-eps P.1 P.2 0 1)%p)%p=P.2
    rw [e,show (1-0:Int)%p=1 from rfl,Int.mul_zero,Int.add_zero,Int.mul_one,QfI h.y]
theorem pNeg_on {P : Int×Int} (h:OnP P):OnP (pNeg P):=by
  refine ⟨isN_mod _,h.y,?_⟩
  have e:((0-P.1)%p-(0-P.1))%p=0:=by rw [subL,Int.sub_self]; rfl
  refine zc2 h.c e (c:=1) (d:=-((0-P.1)%p+(0-P.1))-dN*(P.2*P.2)*((0-P.1)%p+(0-P.1))) ?_
  show cv ((0-P.1)%p) P.2=_
  unfold cv
  generalize (0-P.1)%p=q
  grind
theorem QmR {D X n:Int} (hD:D%p≠0) (h:(D*X-n)%p=0) (e:(n-D*1)%p=0):X%p=1%p:=by
  have:(D*(X-1))%p=0:=zc2 h e (c:=1) (d:=1) (by grind)
  exact Qg4 ((Qg5 this).resolve_left hD)
theorem QoW {x y q:Int} (h:onC x y) (hn:onC q y) (e:(q-(0-x))%p=0):aX x y q y=0∧aY x y q y=1:=by
  have fx:=Qde h hn
  have fy:=Qdd h hn
  have hX:=Qbh (Qmb x y q y)
  have hY:=Qbh (QlZ x y q y)
  have hc:=h
  unfold onC cv at hc
  have d1:=QeZ h hn
  have d2:=QeY h hn
  generalize aX x y q y=X at *
  generalize aY x y q y=Y at *
  constructor
  · have:X%p=0:=by
      refine (Qg5 (a:=1+eps x y q y) ?_).resolve_left d1
      exact zc2 fx e (c:=1) (d:=y) (by grind)
    rwa [hX] at this
  · have:=QmR d2 fy (by
      refine zc2 hc e (c:=1) (d:=x+dN*(x*(y*y))) ?_
      unfold eps
      grind)
    rwa [hY] at this
theorem pAdd_neg {P : Int×Int} (h:OnP P):pAdd P (pNeg P)=QcL:=by
  have e:((0-P.1)%p-(0-P.1))%p=0:=by rw [subL,Int.sub_self]; rfl
  have r:=QoW h.c (pNeg_on h).c e
  exact Prod.ext r.1 r.2
def nmul : Nat→Int×Int→Int×Int
  | 0,_=>QcL
  | n+1,P=>pAdd (nmul n P) P
theorem nmul_on {P : Int×Int} (h:OnP P):∀ n,OnP (nmul n P)
  | 0=>pZero_on
  | n+1=>pAdd_on (nmul_on h n) h
theorem nmul_add {P : Int×Int} (h:OnP P) (m:Nat):∀ n,nmul (m+n) P=pAdd (nmul m P) (nmul n P)
  | 0=>(pAdd_zero (nmul_on h m)).symm
  | n+1=>by
    show pAdd (nmul (m+n) P) P=pAdd (nmul m P) (pAdd (nmul n P) P)
    rw [nmul_add h m n,pAdd_assoc (nmul_on h m) (nmul_on h n) h]
theorem QhF : ∀ n,nmul n QcL=QcL
  | 0=>rfl
  | n+1=>by
    show pAdd (nmul n QcL) QcL=QcL
    rw [QhF n,pAdd_zero pZero_on]
theorem nmul_mul {P : Int×Int} (h:OnP P) (m:Nat):∀ n,nmul (n*m) P=nmul n (nmul m P)
  | 0=>by rw [Nat.zero_mul]; rfl
  | n+1=>by
    rw [Nat.succ_mul,nmul_add h,nmul_mul h m n]
    rfl
theorem nmul_mod {P : Int×Int} (h:OnP P) (L:Nat) (hL:nmul L P=QcL) (n:Nat):nmul (n%L) P=nmul n P:=by
  have e:=Nat.div_add_mod n L
  have:nmul n P=pAdd (nmul (L*(n/L)) P) (nmul (n%L) P):=by rw [←nmul_add h,e]
  rw [this,Nat.mul_comm,nmul_mul h,hL,QhF,pAdd_comm,pAdd_zero (nmul_on h _)]
def climbP (P : Int×Int) (bs:List Bool):Int×Int:=bs.foldl (fun A b=>if b then pAdd (pAdd A A) P else pAdd A A) QcL
theorem Qgv {P : Int×Int} (h:OnP P):∀ (bs:List Bool) (n:Nat),bs.foldl (fun A b=>if b then pAdd (pAdd A A) P else pAdd A A) (nmul n P)=nmul (bs.foldl (fun n b=>2*n+if b then 1 else 0) n) P
  | [],n=>rfl
  | b::bs,n=>by
    have e:(if b then pAdd (pAdd (nmul n P) (nmul n P)) P else pAdd (nmul n P) (nmul n P))=nmul (2*n+if b then 1 else 0) P:=by
      rw [←nmul_add h,Nat.two_mul]
      cases b
      · simp
      · simp only [if_true]; rfl
    rw [List.foldl_cons,e,Qgv h bs,List.foldl_cons]
theorem QhZ {P : Int×Int} (h:OnP P) (bs:List Bool):climbP P bs=nmul (bval bs) P:=Qgv h bs 0
theorem climbP_on {P : Int×Int} (h:OnP P) (bs:List Bool):OnP (climbP P bs):=by rw [QhZ h]; exact nmul_on h _
end Go.Proofs.YtdoadngmgmdlbaaDoor.Field
end
section
namespace Go.Proofs.YtdoadngmgmdlbaaDoor.Field
open Go Go.RowKit
open Rely Auto
abbrev W4 := Int × Int × Int × Int
abbrev W3 := Int × Int × Int
def wad (A B:W4):W4:=QcM A.1 A.2.1 A.2.2.1 A.2.2.2 B.1 B.2.1 B.2.2.1 B.2.2.2 dN
def rad (A B:W3):W3:=Qed A.1 A.2.1 A.2.2 B.1 B.2.1 B.2.2
def isW4 (A : W4):Prop:=isN A.1∧isN A.2.1∧isN A.2.2.1∧isN A.2.2.2
def isW3 (A : W3):Prop:=isN A.1∧isN A.2.1∧isN A.2.2
theorem Qho {A B:W4} (h:isW4 A) (k:isW4 B):isW4 (wad A B):=Qey _ _ _ _ _ _ _ _ _ h.1 h.2.1 h.2.2.1 h.2.2.2 k.1 k.2.1 k.2.2.1 k.2.2.2 Qej
theorem rad_is {A B:W3} (h:isW3 A) (k:isW3 B):isW3 (rad A B):=Qm7 _ _ _ _ _ _ h.1 h.2.1 h.2.2 k.1 k.2.1 k.2.2
abbrev w4 (A : W4) : Value := .agg (cat [numA A.1, numA A.2.1, numA A.2.2.1, numA A.2.2.2])
abbrev w3 (A : W3) : Value := .agg (cat [ints .i64 (lims A.1), ints .i64 (lims A.2.1), ints .i64 (lims A.2.2)])
theorem wadC {A B:W4} (h:isW4 A) (k:isW4 B) (w:World):Calls Tryd.prog 47 #[w4 A,w4 B,.agg (numA dN)] w (Ret w (w4 (wad A B))) :=
  QpI _ _ _ _ _ _ _ _ _ h.1 h.2.1 h.2.2.1 h.2.2.2 k.1 k.2.1 k.2.2.1 k.2.2.2 Qej w
theorem radC {A B:W3} (h:isW3 A) (k:isW3 B) (w:World):Calls Tryd.prog 39 #[w3 A,w3 B] w (Ret w (w3 (rad A B))):=Qrc _ _ _ _ _ _ h.1 h.2.1 h.2.2 k.1 k.2.1 k.2.2 w
def wrung (E A:W4) (b:Bool):W4:=if b then wad (wad A A) E else wad A A
def wrun (E Z:W4) (bs:List Bool):W4:=bs.foldl (wrung E) Z
def rrung (E A:W3) (b:Bool):W3:=if b then rad (rad A A) E else rad A A
def rrun (E Z:W3) (bs:List Bool):W3:=bs.foldl (rrung E) Z
theorem Qks (E Z:W4) (bs:List Bool) (b:Bool):wrun E Z (bs++[b])=wrung E (wrun E Z bs) b:=by simp [wrun]
theorem QkB (E Z:W3) (bs:List Bool) (b:Bool):rrun E Z (bs++[b])=rrung E (rrun E Z bs) b:=by simp [rrun]
theorem Qg6 {E : W4} (hE:isW4 E):∀ (bs:List Bool) {Z:W4},isW4 Z→isW4 (wrun E Z bs)
  | [],_,h=>h
  | true::bs,_,h=>Qg6 hE bs (Qho (Qho h h) hE)
  | false::bs,_,h=>Qg6 hE bs (Qho h h)
theorem rrun_is {E : W3} (hE:isW3 E):∀ (bs:List Bool) {Z:W3},isW3 Z→isW3 (rrun E Z bs)
  | [],_,h=>h
  | true::bs,_,h=>rrun_is hE bs (rad_is (rad_is h h) hE)
  | false::bs,_,h=>rrun_is hE bs (rad_is h h)
abbrev wE (x l : Int) : W4 := QcK x l
theorem QpK {x l:Int} (h:isN x) (k:isN l):isW4 (wE x l):=QaF x l h k
def rruns (E Z:W3) (es:List Int) (k:Nat):W3:=rrun E Z ((bitsB es).take (256-k))
theorem QjQ (E Z:W3) (es:List Int) (j:Nat) (hj:j<256):rruns E Z es j=rrung E (rruns E Z es (j+1)) (bitB es j):=by
  unfold rruns
  rw [Qfc es j hj,QkB]
theorem rruns_full (E Z:W3) (es:List Int):rruns E Z es 0=rrun E Z (bitsB es):=by
  unfold rruns
  rw [List.take_of_length_le (by rw [QeJ]; omega)]
theorem QiR (n : Nat) (h:n<9223372036854775808):IntKind.u64.wrap (n:Int)=(n:Int):=wrap64 _ (by unfold isW; omega)
theorem QpT (v : Int) (n:Nat) (h:n<8):v.fdiv (2^min (n:Int).toNat IntKind.u8.bits)=v/2^n:=by
  rw [show min ((n:Int).toNat) IntKind.u8.bits=n by show min ((n:Int).toNat) 8=n; omega]
  exact Int.fdiv_eq_ediv_of_nonneg _ (Int.le_of_lt (Int.pow_pos (by decide)))
theorem Qii (es : List Int) (j:Nat) (hb:Qaj es) {v:Int} (h:QcV es j=v):Int.tmod (nth es (j/8)/2^(j%8)) 2=v:=by
  rw [←h]
  unfold QcV
  exact Int.tmod_eq_emod_of_nonneg (Int.ediv_nonneg (hb.nth _).1 (Int.le_of_lt (Int.pow_pos (by decide))))
theorem Qo3 (x lx:Int) (h_x:isN x) (h_lx:isN lx) (ks:List Int) (hk:ks.length=32) (hkb:Qaj ks) (w:World) (tB:TypeId) (hB:w.heap[2]? = some (.cells (ints .u8 Qb6) tB)) :
    Calls Tryd.prog 21 #[.agg (cat [numA x,numA lx]),.agg (ints .u8 ks)] w (Ret w (.agg (cat [numA ((Qe9 (wrun (wE x lx) (wE 0 0) (bitsB ks)).1 (wrun (wE x lx) (wE 0 0) (bitsB ks)).2.1 (wrun (wE x lx) (wE 0 0) (bitsB ks)).2.2.1 (wrun (wE x lx) (wE 0 0) (bitsB ks)).2.2.2).1),numA ((Qe9 (wrun (wE x lx) (wE 0 0) (bitsB ks)).1 (wrun (wE x lx) (wE 0 0) (bitsB ks)).2.1 (wrun (wE x lx) (wE 0 0) (bitsB ks)).2.2.1 (wrun (wE x lx) (wE 0 0) (bitsB ks)).2.2.2).2)]))):=by
  have hE:=QpK h_x h_lx
  have hZ:=QpK (num_isN 0) (num_isN 0)
  refine QlG 30 [(0,.agg (cat [numA (x),numA (lx)])),(1,.agg (ints .u8 (ks)))] Tryd.func21 rfl rfl kj rfl <| sgC fun K2 hK2=>Qah (cat [numA (x),numA (lx)]) 51 2 rfl kj kj fun g3 W1 l3 e1 r3_1=>?_
  have x1:=Ext.tr (Rely.Ext.refl w) e1
  have b3:=qT (Rely.Ext.refl w).size l3
  refine Qah (ints .u8 (ks)) 23 3 rfl kj kj fun g4 W2 l4 e2 r4_2=>?_
  have x2:=Ext.tr x1 e2
  have b4:=qT x1.size l4
  refine Qah (cat [numA (0),numA (0)]) 51 4 rfl kj kj fun g5 W3 l5 e3 r5_3=>?_
  have x3:=Ext.tr x2 e3
  refine sgN hK2 <| sgC fun K6 hK6=>Qag (.agg (ints .u8 (Qb6))) 9 rfl kj (Qac 23 _ 2 tB _ _ (Qaa (Qaa (Qaa hB e1) e2) e3) rfl kj kj (isz (n:=32) kj ((Qad _ _).trans (by decide)))) <| Qap (.agg (numA (dN))) 44 #[.agg (ints .u8 (Qb6))] 10 rfl kj kj (QfO _) fun W4 e4=>?_
  have x4:=Ext.tr x3 e4
  refine Qah (numA (0)) 49 5 rfl kj kj fun g7 W5 l7 e5 r7_5=>Qai g7 _ (numA (dN)) 49 r7_5 rfl kj (Qaf 49 _ _ g7 49 _ _ r7_5 rfl kj kj (isz (n:=4) kj kj) (eqsz (n:=4) kj kj) kj) fun W6 p6 r7_6=>?_
  have x6:=Puts.ext p6 (Ext.tr x4 e5) (qT x4.size l7)
  refine sgN hK6 <| wp_seq_k fun K8 hK8=>QaX 6 [⟨none,[]⟩,⟨none,[(11,some 0)]⟩,⟨none,[(2,none)]⟩,⟨none,[(13,some 2)]⟩,⟨none,[]⟩,⟨none,[]⟩] [4,5] kj kj kj fun F hF=>Qay (.agg (cat [numA (0),numA (0)])) kj kj (fun W=>kj) <| Qan (.agg (cat [numA ((wE 0 0).1),numA ((wE 0 0).2.1),numA ((wE 0 0).2.2.1),numA ((wE 0 0).2.2.2)])) 45 #[.agg (cat [numA (0),numA (0)])] kj kj (fun W=>kj) (fun W hR=>(QiZ 0 0 (num_isN 0) (num_isN 0)) W) <| Qal (.agg (cat [numA (x),numA (lx)])) kj kj (fun W hR=>(Qac 51 _ g3 51 _ _ (Qaa (Qaa (Puts.row p6 (Qaa (Qaa (Qaa (Qaa r3_1 e2) e3) e4) e5) (Qab (Qaa (Qaa (Qaa r3_1 e2) e3) e4) l7)) (Qae _)) hR) rfl kj kj (isz (n:=8) kj kj))) <| Qan (.agg (cat [numA ((wE x lx).1),numA ((wE x lx).2.1),numA ((wE x lx).2.2.1),numA ((wE x lx).2.2.2)])) 45 #[.agg (cat [numA (x),numA (lx)])] kj kj (fun W=>kj) (fun W hR=>(QiZ x lx h_x h_lx) W) <| Qb5 (cat [numA (0),numA (0),numA (0),numA (0)]) 78 kj (qR _) kj (fun W=>kj) <| Qb5 (cat [numA (0),numA (0),numA (0),numA (0)]) 78 kj (qR _) kj (fun W=>kj) <| Qa2 (hF _ kj fun W7 e7=>?_)
  simp only [fins,up,List.take_succ_cons,List.take_zero,List.drop_succ_cons,List.drop_zero,List.nil_append,List.cons_append]
  intro g9 l9 r9_7 n9 g10 l10 r10_7 n10
  have b9:=qT x6.size l9
  have n10_9:g10≠g9:=n10 _ (by simp)
  clear hF
  refine Qai g9 _ (cat [numA ((wE 0 0).1),numA ((wE 0 0).2.1),numA ((wE 0 0).2.2.1),numA ((wE 0 0).2.2.2)]) 78 r9_7 rfl kj (Qaf 78 _ _ g9 78 _ _ r9_7 rfl kj kj (isz (n:=16) kj kj) (eqsz (n:=16) kj kj) kj) fun W8 p8 r9_8=>?_
  have r10_8:=(Puts.row p8 r10_7 n10_9)
  refine Qai g10 _ (cat [numA ((wE x lx).1),numA ((wE x lx).2.1),numA ((wE x lx).2.2.1),numA ((wE x lx).2.2.2)]) 78 r10_8 rfl kj (Qaf 78 _ _ g10 78 _ _ r10_8 rfl kj kj (isz (n:=16) kj kj) (eqsz (n:=16) kj kj) kj) fun W9 p9 r10_9=>sgN hK8 <| wp_seq_k fun K11 hK11=>sgC fun K12 hK12=>?_
  have r4_4:=(Qaa (Qaa r4_2 e3) e4)
  have r4_6:=(Puts.row p6 (Qaa r4_4 e5) (Qab r4_4 l7))
  refine Qag (.agg (ints .u8 (ks))) 15 rfl kj (Qac 23 _ g4 23 _ _ (Puts.row p9 (Puts.row p8 (Qaa (Puts.row p6 (Qaa (Qaa (Qaa r4_2 e3) e4) e5) (Qab r4_4 l7)) e7) (Qab r4_6 l9)) (Qab r4_6 l10)) rfl kj kj (isz (n:=32) kj ((Qad _ _).trans hk))) <| QbC (fun v W'=>Ext W9 W'∧∃ kb,W9.heap.size≤kb∧v=.func (.func 82) #[] #[.pointer (some ⟨kb,0,none⟩)]∧W'.heap[kb]? = some (.cells (ints .u8 ks) 23)) 46 #[.agg (ints .u8 ks)] 16 rfl kj kj (Qgy _ _) fun v W10 h=>?_
  obtain ⟨e10,kb,lk,rfl,r13_10⟩:=h
  have x10:=Ext.tr (Puts.ext p9 (Puts.ext p8 (Ext.tr x6 e7) b9) (qT x6.size l10)) e10
  refine sgN hK12 <| wp_block ?_
  have r5_4:=(Qaa r5_3 e4)
  have r5_6:=(Puts.row p6 (Qaa r5_4 e5) (Qab r5_4 l7))
  have n_ge_gs:g10≠g9:=n10_9
  have n_gd_gs:g7≠g9:=(Qab r7_6 l9)
  have n_gr_gs:g5≠g9:=(Qab r5_6 l9)
  have n_kb_gs:kb≠g9:=(Qas (Puts.row p9 r9_8 (Ne.symm n10_9)) lk)
  refine QeQ (gf:=82) (lb:=#[.pointer (some ⟨kb,0,none⟩)]) (enc:=encB) kj (enters_of Tryd.func82 kj rfl) (Qfj _ (by omega) kb ks hk hkb W10 r13_10) (fun h k=>Same.trans' h k) (Qhu (QaB r13_10)) (Below.refl _ _)
      (fun pre W=>(W.heap[g9]? = some (.cells (cat [numA ((wrun (wE x lx) (wE 0 0) pre).1),numA ((wrun (wE x lx) (wE 0 0) pre).2.1),numA ((wrun (wE x lx) (wE 0 0) pre).2.2.1),numA ((wrun (wE x lx) (wE 0 0) pre).2.2.2)]) 78)∧W.heap[g10]? = some (.cells (cat [numA ((wE x lx).1),numA ((wE x lx).2.1),numA ((wE x lx).2.2.1),numA ((wE x lx).2.2.2)]) 78)∧W.heap[g7]? = some (.cells (numA dN) 49)∧W.heap[g5]? = some (.cells (cat [numA (0),numA (0)]) 51)∧W.heap[kb]? = some (.cells (ints .u8 ks) 23))∧Ext w W)
      (fun _ _ _=>False) (OwnFrom.and (Own.from (fun s A B row hs hg hr=>⟨Qb8 hs.1 hg hr,Qb8 hs.2.1 hg hr,Qb8 hs.2.2.1 hg hr,Qb8 hs.2.2.2.1 hg hr,Qb8 hs.2.2.2.2 hg hr⟩) _) (ownFrom_below (qR _) x10.size)) (fun _ _ _ _ _ h _ _=>h) ⟨⟨(Qaa (Puts.row p9 r9_8 (Ne.symm n10_9)) e10),(Qaa r10_9 e10),(Qaa (Puts.row p9 (Puts.row p8 (Qaa r7_6 e7) (Qab r7_6 l9)) (Qab r7_6 l10)) e10),(Qaa (Puts.row p9 (Puts.row p8 (Qaa (Puts.row p6 (Qaa (Qaa r5_3 e4) e5) (Qab r5_4 l7)) e7) (Qab r5_6 l9)) (Qab r5_6 l10)) e10),r13_10⟩,x10⟩ (fun x=>[(8,encB x),(17,encB x)]) (fun l x W K hK=>?_) (fun l pre bt W hI hp=>?_) (fun D ys W lD hS hI rD=>?_) (fun _ _ _ _ _ _ h _=>h.elim)
  · refine QaV ?_
    refine Qbw (encB x) 8 rfl (Qa4 l 1 _) rfl kj kj <| Qc6 ?_
    exact hK
  · obtain ⟨⟨rs,re,rd,rr,rk⟩,xx⟩:=hI
    have hS0:=Qks (wE x lx) (wE 0 0) pre bt
    have hL:=Qg6 hE pre (Z:=wE 0 0) hZ
    generalize wrun (wE x lx) (wE 0 0) pre=s at hS0 hL rs
    cases bt
    · have hn2:=Qho hL hL
      have cs:=fun W=>wadC hL hL W
      generalize hn:wad s s=n at cs hn2
      have hS:wrun (wE x lx) (wE 0 0) (pre++[false])=n:=by
        rw [hS0]
        simp only [wrung,hn,Bool.false_eq_true,if_false]
      clear hS0 hn
      have ls:=b9
      refine wpIn_block <| wpIn_seq_k fun K106 hK106=>QaV <| Qbw (.agg (cat [numA (s.1),numA (s.2.1),numA (s.2.2.1),numA (s.2.2.2)])) 18 rfl (Qa4 l 1 _) rfl kj (Qac 78 _ g9 78 _ _ rs rfl kj kj (isz (n:=16) kj kj)) <| Qbw (.agg (cat [numA (s.1),numA (s.2.1),numA (s.2.2.1),numA (s.2.2.2)])) 19 rfl (Qa4 l 1 _) rfl kj (Qac 78 _ g9 78 _ _ rs rfl kj kj (isz (n:=16) kj kj)) <| Qbw (.agg (numA (dN))) 20 rfl (Qa4 l 1 _) rfl kj (Qac 49 _ g7 49 _ _ rd rfl kj kj (isz (n:=4) kj kj)) <| Qd1 (.agg (cat [numA ((n).1),numA ((n).2.1),numA ((n).2.2.1),numA ((n).2.2.2)])) 47 #[.agg (cat [numA (s.1),numA (s.2.1),numA (s.2.2.1),numA (s.2.2.2)]),.agg (cat [numA (s.1),numA (s.2.1),numA (s.2.2.1),numA (s.2.2.2)]),.agg (numA (dN))] 21 rfl (Qa4 l 1 _) rfl kj kj (cs _) fun W1 e1=>?_
      have x1:=Ext.tr xx e1
      have r102_1:=(Qaa rs e1)
      refine QcU g9 _ (cat [numA ((n).1),numA ((n).2.1),numA ((n).2.2.1),numA ((n).2.2.2)]) 78 r102_1 rfl (Qa4 l 1 _) rfl kj (Qaf 78 _ _ g9 78 _ _ r102_1 rfl kj kj (isz (n:=16) kj kj) (eqsz (n:=16) kj kj) kj) fun W2 p2 r102_2=>?_
      have x2:=Puts.ext p2 x1 ls
      refine Qc6 <| hK106 _ _ <| wpIn_seq_k fun K107 hK107=>QaV <| Qbw (.int .i64 0) 22 rfl (Qa4 l 1 _) rfl kj kj <| Qbw (.bool false) 23 rfl (Qa4 l 1 _) rfl kj kj <| Qc6 <| hK107 _ _ <| Qd0 kj <| wpIn_skip ?_
      have r101_2:=(Puts.row p2 (Qaa re e1) n_ge_gs)
      have r103_2:=(Puts.row p2 (Qaa rd e1) n_gd_gs)
      have r105_2:=(Puts.row p2 (Qaa rk e1) n_kb_gs)
      exact ⟨((QbU e1).trans (Qcf p2 r102_1)),r105_2.trans rk.symm,⟨by rw [hS]; exact r102_2,r101_2,r103_2,(Puts.row p2 (Qaa rr e1) n_gr_gs),r105_2⟩,x2⟩
    · have hn2:=Qho hL hL
      have cs:=fun W=>wadC hL hL W
      generalize hn:wad s s=n at cs hn2
      have ct:=fun W=>wadC (A:=n) (B:=wE x lx) hn2 hE W
      generalize hm:wad n (wE x lx)=m at ct
      have hS:wrun (wE x lx) (wE 0 0) (pre++[true])=m:=by
        rw [hS0]
        simp only [wrung,hn,if_true,hm]
      clear hS0 hn hm
      have ls:=b9
      refine wpIn_block <| wpIn_seq_k fun K106 hK106=>QaV <| Qbw (.agg (cat [numA (s.1),numA (s.2.1),numA (s.2.2.1),numA (s.2.2.2)])) 18 rfl (Qa4 l 1 _) rfl kj (Qac 78 _ g9 78 _ _ rs rfl kj kj (isz (n:=16) kj kj)) <| Qbw (.agg (cat [numA (s.1),numA (s.2.1),numA (s.2.2.1),numA (s.2.2.2)])) 19 rfl (Qa4 l 1 _) rfl kj (Qac 78 _ g9 78 _ _ rs rfl kj kj (isz (n:=16) kj kj)) <| Qbw (.agg (numA (dN))) 20 rfl (Qa4 l 1 _) rfl kj (Qac 49 _ g7 49 _ _ rd rfl kj kj (isz (n:=4) kj kj)) <| Qd1 (.agg (cat [numA ((n).1),numA ((n).2.1),numA ((n).2.2.1),numA ((n).2.2.2)])) 47 #[.agg (cat [numA (s.1),numA (s.2.1),numA (s.2.2.1),numA (s.2.2.2)]),.agg (cat [numA (s.1),numA (s.2.1),numA (s.2.2.1),numA (s.2.2.2)]),.agg (numA (dN))] 21 rfl (Qa4 l 1 _) rfl kj kj (cs _) fun W1 e1=>?_
      have x1:=Ext.tr xx e1
      have r102_1:=(Qaa rs e1)
      refine QcU g9 _ (cat [numA ((n).1),numA ((n).2.1),numA ((n).2.2.1),numA ((n).2.2.2)]) 78 r102_1 rfl (Qa4 l 1 _) rfl kj (Qaf 78 _ _ g9 78 _ _ r102_1 rfl kj kj (isz (n:=16) kj kj) (eqsz (n:=16) kj kj) kj) fun W2 p2 r102_2=>?_
      have x2:=Puts.ext p2 x1 ls
      refine Qc6 <| hK106 _ _ <| wpIn_seq_k fun K107 hK107=>QaV <| Qbw (.int .i64 1) 22 rfl (Qa4 l 1 _) rfl kj kj <| Qbw (.bool true) 23 rfl (Qa4 l 1 _) rfl kj kj <| Qc6 <| hK107 _ _ <| QdK kj <| QaV ?_
      refine Qbw (.agg (cat [numA ((n).1),numA ((n).2.1),numA ((n).2.2.1),numA ((n).2.2.2)])) 24 rfl (Qa4 l 1 _) rfl kj (Qac 78 _ g9 78 _ _ r102_2 rfl kj kj (isz (n:=16) kj kj)) ?_
      have r101_2:=(Puts.row p2 (Qaa re e1) n_ge_gs)
      refine Qbw (.agg (cat [numA ((wE x lx).1),numA ((wE x lx).2.1),numA ((wE x lx).2.2.1),numA ((wE x lx).2.2.2)])) 25 rfl (Qa4 l 1 _) rfl kj (Qac 78 _ g10 78 _ _ r101_2 rfl kj kj (isz (n:=16) kj kj)) ?_
      have r103_2:=(Puts.row p2 (Qaa rd e1) n_gd_gs)
      refine Qbw (.agg (numA (dN))) 26 rfl (Qa4 l 1 _) rfl kj (Qac 49 _ g7 49 _ _ r103_2 rfl kj kj (isz (n:=4) kj kj)) <| Qd1 (.agg (cat [numA ((m).1),numA ((m).2.1),numA ((m).2.2.1),numA ((m).2.2.2)])) 47 #[.agg (cat [numA ((n).1),numA ((n).2.1),numA ((n).2.2.1),numA ((n).2.2.2)]),.agg (cat [numA ((wE x lx).1),numA ((wE x lx).2.1),numA ((wE x lx).2.2.1),numA ((wE x lx).2.2.2)]),.agg (numA (dN))] 27 rfl (Qa4 l 1 _) rfl kj kj (ct _) fun W3 e3=>?_
      have x3:=Ext.tr x2 e3
      have r102_3:=(Qaa r102_2 e3)
      refine QcU g9 _ (cat [numA ((m).1),numA ((m).2.1),numA ((m).2.2.1),numA ((m).2.2.2)]) 78 r102_3 rfl (Qa4 l 1 _) rfl kj (Qaf 78 _ _ g9 78 _ _ r102_3 rfl kj kj (isz (n:=16) kj kj) (eqsz (n:=16) kj kj) kj) fun W4 p4 r102_4=>?_
      have x4:=Puts.ext p4 x3 ls
      refine Qc6 ?_
      have r105_4:=(Puts.row p4 (Qaa (Puts.row p2 (Qaa rk e1) n_kb_gs) e3) n_kb_gs)
      exact ⟨((((QbU e1).trans (Qcf p2 r102_1)).trans (QbU e3)).trans (Qcf p4 r102_3)),r105_4.trans rk.symm,⟨by rw [hS]; exact r102_4,(Puts.row p4 (Qaa r101_2 e3) n_ge_gs),(Puts.row p4 (Qaa r103_2 e3) n_gd_gs),(Puts.row p4 (Qaa (Puts.row p2 (Qaa rr e1) n_gr_gs) e3) n_gr_gs),r105_4⟩,x4⟩
  obtain ⟨⟨rs,re,rd,rr,rk⟩,xx⟩:=hI
  subst hS
  have hR:=Qg6 hE (bitsB ks) (Z:=wE 0 0) hZ
  have bD:w.heap.size≤D:=qT x10.size lD
  refine hK11 _ _ <| sgC fun K15 hK15=>Qag (.agg (cat [numA ((wrun (wE x lx) (wE 0 0) (bitsB ks)).1),numA ((wrun (wE x lx) (wE 0 0) (bitsB ks)).2.1),numA ((wrun (wE x lx) (wE 0 0) (bitsB ks)).2.2.1),numA ((wrun (wE x lx) (wE 0 0) (bitsB ks)).2.2.2)])) 28 rfl kj (Qac 78 _ g9 78 _ _ rs rfl kj kj (isz (n:=16) kj kj)) <| Qap (.agg (cat [numA ((Qe9 (wrun (wE x lx) (wE 0 0) (bitsB ks)).1 (wrun (wE x lx) (wE 0 0) (bitsB ks)).2.1 (wrun (wE x lx) (wE 0 0) (bitsB ks)).2.2.1 (wrun (wE x lx) (wE 0 0) (bitsB ks)).2.2.2).1),numA ((Qe9 (wrun (wE x lx) (wE 0 0) (bitsB ks)).1 (wrun (wE x lx) (wE 0 0) (bitsB ks)).2.1 (wrun (wE x lx) (wE 0 0) (bitsB ks)).2.2.1 (wrun (wE x lx) (wE 0 0) (bitsB ks)).2.2.2).2)])) 48 #[.agg (cat [numA ((wrun (wE x lx) (wE 0 0) (bitsB ks)).1),numA ((wrun (wE x lx) (wE 0 0) (bitsB ks)).2.1),numA ((wrun (wE x lx) (wE 0 0) (bitsB ks)).2.2.1),numA ((wrun (wE x lx) (wE 0 0) (bitsB ks)).2.2.2)])] 29 rfl kj kj ((Qqj _ _ _ _ hR.1 hR.2.1 hR.2.2.1 hR.2.2.2) _) fun W12 e12=>?_
  have r5_12:=(Qaa rr e12)
  refine Qai g5 _ (cat [numA ((Qe9 (wrun (wE x lx) (wE 0 0) (bitsB ks)).1 (wrun (wE x lx) (wE 0 0) (bitsB ks)).2.1 (wrun (wE x lx) (wE 0 0) (bitsB ks)).2.2.1 (wrun (wE x lx) (wE 0 0) (bitsB ks)).2.2.2).1),numA ((Qe9 (wrun (wE x lx) (wE 0 0) (bitsB ks)).1 (wrun (wE x lx) (wE 0 0) (bitsB ks)).2.1 (wrun (wE x lx) (wE 0 0) (bitsB ks)).2.2.1 (wrun (wE x lx) (wE 0 0) (bitsB ks)).2.2.2).2)]) 51 r5_12 rfl kj (Qaf 51 _ _ g5 51 _ _ r5_12 rfl kj kj (isz (n:=8) kj kj) (eqsz (n:=8) kj kj) kj) fun W13 p13 r5_13=>sgN hK15 <| wp_ret ?_
  have r14_13:=(Puts.row p13 (Qaa rD e12) (Qi5 rr rD))
  exact (show bodyPostM _ _ _ _ _ .ret _ _ from Qow (.agg (cat [numA ((Qe9 (wrun (wE x lx) (wE 0 0) (bitsB ks)).1 (wrun (wE x lx) (wE 0 0) (bitsB ks)).2.1 (wrun (wE x lx) (wE 0 0) (bitsB ks)).2.2.1 (wrun (wE x lx) (wE 0 0) (bitsB ks)).2.2.2).1),numA ((Qe9 (wrun (wE x lx) (wE 0 0) (bitsB ks)).1 (wrun (wE x lx) (wE 0 0) (bitsB ks)).2.1 (wrun (wE x lx) (wE 0 0) (bitsB ks)).2.2.1 (wrun (wE x lx) (wE 0 0) (bitsB ks)).2.2.2).2)])) rfl r14_13 (Qa8 g5 51 _ (QgK r5_13 r14_13 _) kj kj (isz (n:=8) kj kj)) ⟨rfl,QgL (Puts.ext p13 (Ext.tr xx e12) (qT x2.size l5)) bD r14_13 _⟩)
def Z0 : W3:=(0,1,1)
set_option maxHeartbeats 8000000 in
theorem rtimesC (E : W3) (hE:isW3 E) (ks:List Int) (hk:ks.length=32) (hkb:Qaj ks) (w:World) :
  Calls Tryd.prog 26 #[w3 E,.agg (ints .u8 ks)] w (Ret w (w3 (rruns E Z0 ks 0))):=by
 have hZ:isW3 Z0:=⟨num_isN 0,num_isN 1,num_isN 1⟩
 refine enter 29 [(0,.agg (cat [ints .i64 (lims (E.1)),ints .i64 (lims (E.2.1)),ints .i64 (lims (E.2.2))])),(1,.agg (ints .u8 (ks)))] Tryd.func26 rfl rfl kj rfl <| sgC fun K1 hK1=>Qah (cat [ints .i64 (lims (E.1)),ints .i64 (lims (E.2.1)),ints .i64 (lims (E.2.2))]) 60 2 rfl kj kj fun g2 W1 l2 e1 r2_1=>?_
 have x1:=Ext.tr (Rely.Ext.refl w) e1
 have b2:=qT (Rely.Ext.refl w).size l2
 refine Qah (ints .u8 (ks)) 23 3 rfl kj kj fun g3 W2 l3 e2 r3_2=>?_
 have x2:=Ext.tr x1 e2
 have b3:=qT x1.size l3
 refine Qah (cat [ints .i64 (lims (0)),ints .i64 (lims (0)),ints .i64 (lims (0))]) 60 4 rfl kj kj fun g4 W3 l4 e3 r4_3=>sgN hK1 <| sgC fun K5 hK5=>Qap (.agg (cat [ints .i64 (lims (Z0.1)),ints .i64 (lims (Z0.2.1)),ints .i64 (lims (Z0.2.2))])) 59 #[] 7 rfl kj kj (nothing _) fun W4 e4=>?_
 have x4:=Ext.tr (Ext.tr x2 e3) e4
 refine Qah (cat [ints .i64 (lims (0)),ints .i64 (lims (0)),ints .i64 (lims (0))]) 60 5 rfl kj kj fun g6 W5 l6 e5 r6_5=>?_
 have b6:=qT x4.size l6
 refine Qai g6 _ (cat [ints .i64 (lims (Z0.1)),ints .i64 (lims (Z0.2.1)),ints .i64 (lims (Z0.2.2))]) 60 r6_5 rfl kj (Qaf 60 _ _ g6 60 _ _ r6_5 rfl kj kj (isz (n:=48) kj kj) (eqsz (n:=48) kj kj) kj) fun W6 p6 r6_6=>sgN hK5 <| wp_seq_k fun K7 hK7=>sgB kj <| wp_block ?_
 have r2_4:=(Qaa (Qaa (Qaa r2_1 e2) e3) e4)
 have r3_4:=(Qaa (Qaa r3_2 e3) e4)
 have r4_4:=(Qaa r4_3 e4)
 have n_2_5:g2≠g6:=(Qab r2_4 l6)
 have n_3_5:g3≠g6:=(Qab r3_4 l6)
 have n_4_5:g4≠g6:=(Qab r4_4 l6)
 refine QaN (fun (k:Nat)=>[(6,.int .i64 ((k:Int)-1)),(2,.pointer (some ⟨g2,0,none⟩)),(3,.pointer (some ⟨g3,0,none⟩)),(4,.pointer (some ⟨g4,0,none⟩)),(5,.pointer (some ⟨g6,0,none⟩))]) (fun (k:Nat) W=>k≤256∧W.heap[g2]? = some (.cells (cat [ints .i64 (lims (E.1)),ints .i64 (lims (E.2.1)),ints .i64 (lims (E.2.2))]) 60)∧W.heap[g3]? = some (.cells (ints .u8 ks) 23)∧W.heap[g4]? = some (.cells (cat [ints .i64 (lims (0)),ints .i64 (lims (0)),ints .i64 (lims (0))]) 60)∧W.heap[g6]? = some (.cells (cat [ints .i64 (lims ((rruns E Z0 ks k).1)),ints .i64 (lims ((rruns E Z0 ks k).2.1)),ints .i64 (lims ((rruns E Z0 ks k).2.2))]) 60)∧Ext w W) (fun k=>k) 256 ⟨kj,kj,kj,kj,kj,trivial⟩ ⟨by omega,(Puts.row p6 (Qaa (Qaa (Qaa (Qaa r2_1 e2) e3) e4) e5) (Qab r2_4 l6)),(Puts.row p6 (Qaa (Qaa (Qaa r3_2 e3) e4) e5) (Qab r3_4 l6)),(Puts.row p6 (Qaa (Qaa r4_3 e4) e5) (Qab r4_4 l6)),r6_6,(Puts.ext p6 (Ext.tr x4 e5) b6)⟩ fun k X W hI=>?_
 obtain ⟨hk256,q2,q3,q4,q5,xx⟩:=hI
 rcases k with _ | j
 ·skip
  refine wp_seq_k fun K9 hK9=>sgB kj <| cond_false kj <| wp_exit <| hK7 _ _ <| sgC fun K11 hK11=>Qag (.agg (cat [ints .i64 (lims ((rruns E Z0 ks 0).1)),ints .i64 (lims ((rruns E Z0 ks 0).2.1)),ints .i64 (lims ((rruns E Z0 ks 0).2.2))])) 28 rfl kj (Qac 60 _ g6 60 _ _ q5 rfl kj kj (isz (n:=48) kj kj)) <| Qai g4 _ (cat [ints .i64 (lims ((rruns E Z0 ks 0).1)),ints .i64 (lims ((rruns E Z0 ks 0).2.1)),ints .i64 (lims ((rruns E Z0 ks 0).2.2))]) 60 q4 rfl kj (Qaf 60 _ _ g4 60 _ _ q4 rfl kj kj (isz (n:=48) kj kj) (eqsz (n:=48) kj kj) kj) fun W8 p8 r4_8=>?_
  have x8:=Puts.ext p8 xx (qT x2.size l4)
  refine sgN hK11 <| wp_ret ?_
  exact (show bodyPost _ _ _ .ret _ _ from ret1 (.agg (cat [ints .i64 (lims ((rruns E Z0 ks 0).1)),ints .i64 (lims ((rruns E Z0 ks 0).2.1)),ints .i64 (lims ((rruns E Z0 ks 0).2.2))])) rfl (Qa8 g4 60 _ r4_8 kj kj (isz (n:=48) kj kj)) ⟨rfl,x8⟩)
 ·rw [show (((j+1:Nat):Int)-1)=(j:Int) by omega]
  have hS0:=QjQ E Z0 ks j (by omega)
  have hL:isW3 (rruns E Z0 ks (j+1)):=rrun_is hE _ (Z:=Z0) hZ
  generalize rruns E Z0 ks (j+1)=s at hS0 hL q5
  have hn2:=rad_is hL hL
  have cs:=fun W=>radC hL hL W
  generalize hn:rad s s=n at cs hn2
  have hbr:=QfY ks j
  by_cases hb1:QcV ks j=1
  ·have hbit:Int.tmod (nth ks (j/8)/2^(j%8)) 2=1:=Qii ks j hkb hb1
   rw [show bitB ks j=true by simp [bitB,hb1]] at hS0
   have ct:=fun W=>radC (A:=n) (B:=E) hn2 hE W
   generalize hm:rad n E=m at ct
   have hS:rruns E Z0 ks j=m:=by
    rw [hS0]
    simp only [rrung,hn,if_true,hm]
   refine wp_seq_k fun K17 hK17=>sgC fun K18 hK18=>sg 1 kj <| Qag (.bool true) 9 rfl kj (Qam (u:=.bool (decide ((j:Int)≥0))) kj (congrArg Value.bool (decide_eq_true (by omega)))) <| sgN hK18 <| cond_true kj <| wp_skip <| hK17 _ _ <| wp_seq_k fun K19 hK19=>wp_block ?_
   refine sgC fun K20 hK20=>Qag (.agg (cat [ints .i64 (lims (s.1)),ints .i64 (lims (s.2.1)),ints .i64 (lims (s.2.2))])) 12 rfl kj (Qac 60 _ g6 60 _ _ q5 rfl kj kj (isz (n:=48) kj kj)) <| Qag (.agg (cat [ints .i64 (lims (s.1)),ints .i64 (lims (s.2.1)),ints .i64 (lims (s.2.2))])) 13 rfl kj (Qac 60 _ g6 60 _ _ q5 rfl kj kj (isz (n:=48) kj kj)) <| Qap (.agg (cat [ints .i64 (lims (n.1)),ints .i64 (lims (n.2.1)),ints .i64 (lims (n.2.2))])) 39 #[.agg (cat [ints .i64 (lims (s.1)),ints .i64 (lims (s.2.1)),ints .i64 (lims (s.2.2))]),.agg (cat [ints .i64 (lims (s.1)),ints .i64 (lims (s.2.1)),ints .i64 (lims (s.2.2))])] 14 rfl kj kj (cs _) fun W8 e8=>?_
   have x8:=Ext.tr xx e8
   have r6_8:=(Qaa q5 e8)
   refine Qai g6 _ (cat [ints .i64 (lims (n.1)),ints .i64 (lims (n.2.1)),ints .i64 (lims (n.2.2))]) 60 r6_8 rfl kj (Qaf 60 _ _ g6 60 _ _ r6_8 rfl kj kj (isz (n:=48) kj kj) (eqsz (n:=48) kj kj) kj) fun W9 p9 r6_9=>?_
   have x9:=Puts.ext p9 x8 b6
   refine sgN hK20 <| sgC fun K21 hK21=>sg 1 kj <| Qag (.int .i64 (((j/8:Nat):Int))) 16 rfl kj (Qam (u:=.int .i64 (IntKind.i64.wrap (Int.tdiv ((j:Int)) (8)))) kj (congrArg (Value.int .i64) (QeU j 8 (by omega)))) <| Qag (.pointer (some ⟨g3,j/8,none⟩)) 17 rfl kj (QaR _ _ _ .i64 (j/8) _ 32 5 rfl kj kj kj kj (by omega)) ?_
   have r3_9:=(Puts.row p9 (Qaa q3 e8) n_3_5)
   refine Qag (.int .u8 (nth ks (j/8))) 18 rfl kj (Qak 5 _ g3 (j/8) 23 _ (.int .u8 (nth ks (j/8))) _ r3_9 rfl kj (Qar _ _ _ (by omega)) kj) <| sg 1 kj <| Qag (.int .i64 (((j%8:Nat):Int))) 20 rfl kj (Qam (u:=.int .i64 (Int.tmod ((j:Int)) (8))) kj (congrArg (Value.int .i64) (Qdc j 8))) <| Qag (.int .u64 (((j%8:Nat):Int))) 21 rfl kj (Qam (u:=.int .u64 (IntKind.u64.wrap (((j%8:Nat):Int)))) kj (congrArg (Value.int .u64) (QiR _ (by omega)))) <| Qag (.int .u8 (nth ks (j/8)/2^(j%8))) 22 rfl kj (Qby .shr _ _ _ _ .u8 .u64 _ _ _ rfl kj kj (Qdo _ _ _ _ _ _ (by omega) (QpT _ _ (by omega)))) <| Qag (.int .u8 (1)) 23 rfl kj (Qam (u:=.int .u8 (Int.tmod ((nth ks (j/8)/2^(j%8))) (2))) kj (congrArg (Value.int .u8) hbit)) <| sg 1 kj <| sgN hK21 <| cond_true kj <| Qat ?_
   refine Qag (.agg (cat [ints .i64 (lims (n.1)),ints .i64 (lims (n.2.1)),ints .i64 (lims (n.2.2))])) 25 rfl kj (Qac 60 _ g6 60 _ _ r6_9 rfl kj kj (isz (n:=48) kj kj)) ?_
   have r2_9:=(Puts.row p9 (Qaa q2 e8) n_2_5)
   refine Qag (.agg (cat [ints .i64 (lims (E.1)),ints .i64 (lims (E.2.1)),ints .i64 (lims (E.2.2))])) 26 rfl kj (Qac 60 _ g2 60 _ _ r2_9 rfl kj kj (isz (n:=48) kj kj)) <| Qap (.agg (cat [ints .i64 (lims (m.1)),ints .i64 (lims (m.2.1)),ints .i64 (lims (m.2.2))])) 39 #[.agg (cat [ints .i64 (lims (n.1)),ints .i64 (lims (n.2.1)),ints .i64 (lims (n.2.2))]),.agg (cat [ints .i64 (lims (E.1)),ints .i64 (lims (E.2.1)),ints .i64 (lims (E.2.2))])] 27 rfl kj kj (ct _) fun W10 e10=>?_
   have r6_10:=(Qaa r6_9 e10)
   refine Qai g6 _ (cat [ints .i64 (lims (m.1)),ints .i64 (lims (m.2.1)),ints .i64 (lims (m.2.2))]) 60 r6_10 rfl kj (Qaf 60 _ _ g6 60 _ _ r6_10 rfl kj kj (isz (n:=48) kj kj) (eqsz (n:=48) kj kj) kj) fun W11 p11 r6_11=>Qa7 <| hK19 _ _ <| Qat <| sg 1 kj <| Qag (.int .i64 ((j:Int)-1)) 11 rfl kj (Qam (u:=.int .i64 (IntKind.i64.wrap ((j:Int)-1))) kj (congrArg (Value.int .i64) (Qd2 j (by omega)))) <| sg 1 kj <| Qa7 ?_
   exact QaI j ⟨kj,kj,kj,kj,kj,trivial⟩ ⟨by omega,(Puts.row p11 (Qaa r2_9 e10) n_2_5),(Puts.row p11 (Qaa r3_9 e10) n_3_5),(Puts.row p11 (Qaa (Puts.row p9 (Qaa q4 e8) n_4_5) e10) n_4_5),by rw [hS]; exact r6_11,(Puts.ext p11 (Ext.tr x9 e10) b6)⟩ (Nat.lt_succ_self j)
  ·have hbit:Int.tmod (nth ks (j/8)/2^(j%8)) 2=0:=Qii ks j hkb (by omega)
   rw [show bitB ks j=false by simp [bitB,hb1]] at hS0
   have hS:rruns E Z0 ks j=n:=by
    rw [hS0]
    simp only [rrung,hn,Bool.false_eq_true,if_false]
   refine wp_seq_k fun K12 hK12=>sgC fun K13 hK13=>sg 1 kj <| Qag (.bool true) 9 rfl kj (Qam (u:=.bool (decide ((j:Int)≥0))) kj (congrArg Value.bool (decide_eq_true (by omega)))) <| sgN hK13 <| cond_true kj <| wp_skip <| hK12 _ _ <| wp_seq_k fun K14 hK14=>wp_block ?_
   refine sgC fun K15 hK15=>Qag (.agg (cat [ints .i64 (lims (s.1)),ints .i64 (lims (s.2.1)),ints .i64 (lims (s.2.2))])) 12 rfl kj (Qac 60 _ g6 60 _ _ q5 rfl kj kj (isz (n:=48) kj kj)) <| Qag (.agg (cat [ints .i64 (lims (s.1)),ints .i64 (lims (s.2.1)),ints .i64 (lims (s.2.2))])) 13 rfl kj (Qac 60 _ g6 60 _ _ q5 rfl kj kj (isz (n:=48) kj kj)) <| Qap (.agg (cat [ints .i64 (lims (n.1)),ints .i64 (lims (n.2.1)),ints .i64 (lims (n.2.2))])) 39 #[.agg (cat [ints .i64 (lims (s.1)),ints .i64 (lims (s.2.1)),ints .i64 (lims (s.2.2))]),.agg (cat [ints .i64 (lims (s.1)),ints .i64 (lims (s.2.1)),ints .i64 (lims (s.2.2))])] 14 rfl kj kj (cs _) fun W8 e8=>?_
   have x8:=Ext.tr xx e8
   have r6_8:=(Qaa q5 e8)
   refine Qai g6 _ (cat [ints .i64 (lims (n.1)),ints .i64 (lims (n.2.1)),ints .i64 (lims (n.2.2))]) 60 r6_8 rfl kj (Qaf 60 _ _ g6 60 _ _ r6_8 rfl kj kj (isz (n:=48) kj kj) (eqsz (n:=48) kj kj) kj) fun W9 p9 r6_9=>?_
   have x9:=Puts.ext p9 x8 b6
   refine sgN hK15 <| sgC fun K16 hK16=>sg 1 kj <| Qag (.int .i64 (((j/8:Nat):Int))) 16 rfl kj (Qam (u:=.int .i64 (IntKind.i64.wrap (Int.tdiv ((j:Int)) (8)))) kj (congrArg (Value.int .i64) (QeU j 8 (by omega)))) <| Qag (.pointer (some ⟨g3,j/8,none⟩)) 17 rfl kj (QaR _ _ _ .i64 (j/8) _ 32 5 rfl kj kj kj kj (by omega)) ?_
   have r3_9:=(Puts.row p9 (Qaa q3 e8) n_3_5)
   refine Qag (.int .u8 (nth ks (j/8))) 18 rfl kj (Qak 5 _ g3 (j/8) 23 _ (.int .u8 (nth ks (j/8))) _ r3_9 rfl kj (Qar _ _ _ (by omega)) kj) <| sg 1 kj <| Qag (.int .i64 (((j%8:Nat):Int))) 20 rfl kj (Qam (u:=.int .i64 (Int.tmod ((j:Int)) (8))) kj (congrArg (Value.int .i64) (Qdc j 8))) <| Qag (.int .u64 (((j%8:Nat):Int))) 21 rfl kj (Qam (u:=.int .u64 (IntKind.u64.wrap (((j%8:Nat):Int)))) kj (congrArg (Value.int .u64) (QiR _ (by omega)))) <| Qag (.int .u8 (nth ks (j/8)/2^(j%8))) 22 rfl kj (Qby .shr _ _ _ _ .u8 .u64 _ _ _ rfl kj kj (Qdo _ _ _ _ _ _ (by omega) (QpT _ _ (by omega)))) <| Qag (.int .u8 (0)) 23 rfl kj (Qam (u:=.int .u8 (Int.tmod ((nth ks (j/8)/2^(j%8))) (2))) kj (congrArg (Value.int .u8) hbit)) <| sg 1 kj <| sgN hK16 <| cond_false kj <| wp_skip ?_
   refine hK14 _ _ <| Qat <| sg 1 kj <| Qag (.int .i64 ((j:Int)-1)) 11 rfl kj (Qam (u:=.int .i64 (IntKind.i64.wrap ((j:Int)-1))) kj (congrArg (Value.int .i64) (Qd2 j (by omega)))) <| sg 1 kj <| Qa7 ?_
   have r2_9:=(Puts.row p9 (Qaa q2 e8) n_2_5)
   exact QaI j ⟨kj,kj,kj,kj,kj,trivial⟩ ⟨by omega,r2_9,r3_9,(Puts.row p9 (Qaa q4 e8) n_4_5),by rw [hS]; exact r6_9,x9⟩ (Nat.lt_succ_self j)
end Go.Proofs.YtdoadngmgmdlbaaDoor.Field
end
section
namespace Go.Proofs.YtdoadngmgmdlbaaDoor.Field
open Go Go.RowKit
open Rely Auto
theorem w_ne (y : Int):(y*y*dN+1)%p≠0:=fun h=>by
  by_cases hy:y%p=0
  · rw [←addL,Int.mul_assoc,←modL,hy,Int.zero_mul] at h
    exact absurd h (by decide)
  · exact nonsq (a:=y) (b:=1) hy (zc1 h (c:=-1) (by grind))
theorem Qnz {x u y:Int} (h1:onC x y) (h2:onC u y):x*x%p=u*u%p:=by
  have e:((x*x-u*u)*(y*y*dN+1))%p=0:=by
    unfold onC cv at h1 h2
    exact zc2 h1 h2 (c:=-1) (d:=1) (by grind)
  exact Qg4 ((Qg5 e).resolve_right (w_ne y))
theorem QmT (u P:Int) (hP:P%2=1) (h:(P-u)%2=u%2):False:=by omega
theorem Qrh : p%2=1:=by decide
theorem Qpx {x u y:Int} (hx:isN x) (hu:isN u) (h1:onC x y) (h2:onC u y) (hp:x%2=u%2):x=u:=by
  rcases Qmn x u hx hu (Qnz h1 h2) with h | h
  · exact h
  · by_cases h0:u=0
    · rw [h,h0]; rfl
    · rw [QfH u hu h0] at h
      rw [h] at hp
      exact absurd (QmT u p Qrh hp) id
theorem Qib {a b:Int} (h:Qaq a=Qaq b):∀ k,k≤32→a%256^k=b%256^k
  | 0,_=>by simp [Int.emod_one]
  | k+1,hk=>by
    rw [QdV,QdV b,Qib h k (by omega)]
    have e:Qax a k=Qax b k:=by
      have q:∀ n,nth (Qaq n) k=Qax n k:=fun n=>by unfold nth Qaq part; simp [show k<32 by omega]
      rw [←q,←q,h]
    unfold Qax at e
    rw [e]
theorem QlQ {a b:Int} (ha:isN a) (hb:isN b) (h:Qaq a=Qaq b):a=b:=by
  have e:=Qib h 32 (qR _)
  have l:p<256^32:=by decide
  have a1:=ha.2
  have b1:=hb.2
  rw [Int.emod_eq_of_lt ha.1 (Int.lt_trans a1 l),Int.emod_eq_of_lt hb.1 (Int.lt_trans b1 l)] at e
  exact e
theorem QiD {x y:Int} (hy:isN y):(x%2==1)=decide (128≤nth (enc x y) 31):=by
  have hl:=QdJ hy
  unfold enc
  by_cases h:(x%2==1)=true
  · rw [if_pos h,h,nth_set_self _ _ _ (by rw [bytes_len]; decide)]
    exact (decide_eq_true (by omega)).symm
  · rw [if_neg h]
    rw [Bool.not_eq_true] at h
    rw [h]
    exact (decide_eq_false (by omega)).symm
theorem Qhe {x y:Int} (hy:isN y):(enc x y).set 31 (nth (enc x y) 31%128)=Qaq y:=by
  have hl:=QdJ hy
  have hs:(Qaq y).set 31 (nth (Qaq y) 31)=Qaq y:=Qon _ _
  unfold enc
  split
  · rw [nth_set_self _ _ _ (by rw [bytes_len]; decide),List.set_set,show (nth (Qaq y) 31+128)%128=nth (Qaq y) 31 by omega,hs]
  · rw [Int.emod_eq_of_lt hl.1 hl.2,hs]
theorem Qpv {x y u v:Int} (hy:isN y) (hv:isN v) (h:enc x y=enc u v):y=v∧x%2=u%2:=by
  refine ⟨QlQ hy hv ?_,?_⟩
  · rw [←Qhe (x:=x) hy,←Qhe (x:=u) hv,h]
  · have e:=QiD (x:=x) hy
    rw [h,←QiD hv] at e
    have q:∀ a:Int,a%2=0∨a%2=1:=fun a=>by omega
    rcases q x with h1 | h1 <;> rcases q u with h2 | h2 <;> rw [h1,h2] at e ⊢ <;> cases e
theorem lK_eq (xs : List Int):lK xs=(zK xs-1)%p:=by
  unfold lK zK
  split
  · rfl
  · rfl
end Go.Proofs.YtdoadngmgmdlbaaDoor.Field
end
section
namespace Go.Proofs.YtdoadngmgmdlbaaDoor.Field
open Go Go.RowKit
open Rely Auto
set_option maxHeartbeats 4000000
def ptA (P : Int×Int):Array Value:=cat [numA P.1,numA ((P.2-1)%p)]
def ptV (P : Int×Int):Value:=.agg (ptA P)
theorem Qqe {P : Int×Int} (h:OnP P):pyF P.1 ((P.2-1)%p)=P.2:=Qo0 h.y P.1
def encP (P : Int×Int):List Int:=enc P.1 P.2
theorem Qbs (P : Int×Int):(encP P).length=32:=Qpu _ _
theorem enc_bytes {x y:Int} (hy:isN y):Qaj (enc x y):=by
  have hb:Qaj (Qaq y):=fun v hv=>by
    unfold Qaq part at hv
    simp only [List.mem_map,List.mem_range] at hv
    obtain ⟨i,hi,rfl⟩:=hv
    rw [if_pos hi]
    unfold Qax
    omega
  have hl:=QdJ hy
  unfold enc
  split
  · intro v hv
    rcases List.mem_or_eq_of_mem_set hv with h | h
    · exact hb v h
    · omega
  · exact hb
theorem ptBytes {P : Int×Int} (h:OnP P) (w:World):Calls Tryd.prog 22 #[ptV P] w (Ret w (.agg (ints .u8 (encP P)))):=by
  have:=QoG P.1 ((P.2-1)%p) h.x (isN_mod _) w
  rw [Qqe h] at this
  exact this
theorem rep_out {Z x:Int} (hz:isN Z) (h0:Z≠0) (hx:isN x):(Z*x%p)*invN Z%p=x:=by
  have h1:=QgY Z hz h0
  have e:(Z*x%p)*invN Z%p=(Z*invN Z%p)*x%p:=by
    rw [modL,modL]; exact QdH (by grind)
  rw [e,h1,Int.one_mul,Qbh hx]
def Qfn (A : W4) (P:Int×Int):Prop:=RepW A.1 A.2.1 A.2.2.1 A.2.2.2 P.1 P.2
def RepR' (A : W3) (P:Int×Int):Prop:=RepR A.1 A.2.1 A.2.2 P.1 P.2
theorem Qgp {A : W4} {P:Int×Int} (h:OnP P) (k:Qfn A P):Qe9 A.1 A.2.1 A.2.2.1 A.2.2.2=(P.1,(P.2-1)%p):=by
  rw [Qo7,k.hx,k.hy,rep_out k.n k.z h.x,rep_out k.n k.z h.y]
theorem Qgl {P : Int×Int} (h:OnP P):Qfn (wE P.1 ((P.2-1)%p)) P:=by
  have e:wE P.1 ((P.2-1)%p)=(P.1,P.2,1,P.1*P.2%p):=by
    show (P.1,pyF P.1 ((P.2-1)%p),1,P.1*pyF P.1 ((P.2-1)%p)%p)=_
    rw [Qqe h]
  rw [e]
  exact ⟨num_isN 1,(by show (1:Int)≠0; decide),(by show P.1=1*P.1%p; rw [Int.one_mul,Qbh h.x]),(by show P.2=1*P.2%p; rw [Int.one_mul,Qbh h.y]),(by show P.1*P.2%p=1*(P.1*P.2)%p; rw [Int.one_mul])⟩
theorem Qg9 {A B:W4} {P Q:Int×Int} (h:OnP P) (k:OnP Q) (a:Qfn A P) (b:Qfn B Q):Qfn (wad A B) (pAdd P Q):=Qmi h.c k.c a b
theorem rad_rep {A B:W3} {P Q:Int×Int} (h:OnP P) (k:OnP Q) (a:RepR' A P) (b:RepR' B Q):RepR' (rad A B) (pAdd P Q):=Qm6 h.c k.c a b
theorem Qex {E : W4} {P:Int×Int} (hP:OnP P) (hE:Qfn E P):∀ (bs:List Bool) {Z:W4} {Q:Int×Int},OnP Q→Qfn Z Q→Qfn (wrun E Z bs) (bs.foldl (fun A b=>if b then pAdd (pAdd A A) P else pAdd A A) Q)
  | [],_,_,_,h=>h
  | true::bs,_,_,hQ,h=>Qex hP hE bs (pAdd_on (pAdd_on hQ hQ) hP) (Qg9 (pAdd_on hQ hQ) hP (Qg9 hQ hQ h h) hE)
  | false::bs,_,_,hQ,h=>Qex hP hE bs (pAdd_on hQ hQ) (Qg9 hQ hQ h h)
theorem rrun_rep {E : W3} {P:Int×Int} (hP:OnP P) (hE:RepR' E P):∀ (bs:List Bool) {Z:W3} {Q:Int×Int},OnP Q→RepR' Z Q→RepR' (rrun E Z bs) (bs.foldl (fun A b=>if b then pAdd (pAdd A A) P else pAdd A A) Q)
  | [],_,_,_,h=>h
  | true::bs,_,_,hQ,h=>rrun_rep hP hE bs (pAdd_on (pAdd_on hQ hQ) hP) (rad_rep (pAdd_on hQ hQ) hP (rad_rep hQ hQ h h) hE)
  | false::bs,_,_,hQ,h=>rrun_rep hP hE bs (pAdd_on hQ hQ) (rad_rep hQ hQ h h)
theorem Qim : Qfn (wE 0 0) QcL:=Qgl pZero_on
theorem Z0_rep : RepR' Z0 QcL:=⟨num_isN 1,by decide,rfl,rfl⟩
theorem rE_rep {P : Int×Int} (h:OnP P):RepR' (P.1,P.2,1) P :=
  ⟨num_isN 1,(by show (1:Int)≠0; decide),(by show P.1=1*P.1%p; rw [Int.one_mul,Qbh h.x]),(by show P.2=1*P.2%p; rw [Int.one_mul,Qbh h.y])⟩
theorem ptTimes {P : Int×Int} (h:OnP P) (ks:List Int) (hk:ks.length=32) (hkb:Qaj ks) (w:World) (tB:TypeId) (hB:w.heap[2]? = some (.cells (ints .u8 Qb6) tB)) :
    Calls Tryd.prog 21 #[ptV P,.agg (ints .u8 ks)] w (Ret w (ptV (climbP P (bitsB ks)))):=by
  have c:=Qo3 P.1 ((P.2-1)%p) h.x (isN_mod _) ks hk hkb w tB hB
  have e:=Qgp (climbP_on h (bitsB ks)) (Qex h (Qgl h) (bitsB ks) pZero_on Qim)
  rw [e] at c
  exact c
theorem ptAdd {P Q:Int×Int} (h:OnP P) (k:OnP Q) (w:World) (tB:TypeId) (hB:w.heap[2]? = some (.cells (ints .u8 Qb6) tB)) :
    Calls Tryd.prog 35 #[ptV P,ptV Q] w (Ret w (ptV (pAdd P Q))):=by
  have c:=Qrg P.1 ((P.2-1)%p) Q.1 ((Q.2-1)%p) h.x (isN_mod _) k.x (isN_mod _) w tB hB
  have e:QoH P.1 ((P.2-1)%p) Q.1 ((Q.2-1)%p)=((pAdd P Q).1,((pAdd P Q).2-1)%p):=Qgp (pAdd_on h k) (Qg9 h k (Qgl h) (Qgl k))
  rw [e] at c
  exact c
theorem ptNeg {P : Int×Int} (h:OnP P) (w:World):Calls Tryd.prog 36 #[ptV P] w (Ret w (ptV (pNeg P))):=Qrf P.1 ((P.2-1)%p) h.x (isN_mod _) w
theorem QhN {n : Int} (h:isN n):QfM (Qaq n)=n:=by
  have e:=QgW n 32 (qR _)
  have l:p<256^32:=by decide
  have l2:p<57896044618658097711785492504343953926634992332820282019728792003956564819968:=by decide
  have h1:=h.1
  have h2:=h.2
  rw [Int.emod_eq_of_lt h1 (Int.lt_trans h2 l)] at e
  unfold QfM
  rw [e,Int.emod_eq_of_lt h1 (Int.lt_trans h2 l2),Qbh h]
theorem Qqy {x y:Int} (h:onC x y):x*x%p=uK y:=by
  unfold uK
  have hw:=w_ne y
  have i1:=Qgi hw
  have e:(y*y%p*dN%p+1)%p=(y*y*dN+1)%p:=by rw [modL,addL]
  have e2:(y*y%p-1)%p*invN ((y*y*dN+1)%p)%p=(y*y-1)*invN ((y*y*dN+1)%p)%p:=by
    rw [modL,←modL (y*y%p-1),subL,modL]
  rw [e,e2]
  refine Qg4 ?_
  unfold onC cv at h
  refine zc2 h i1 (c:=-invN ((y*y*dN+1)%p)) (d:=-(x*x)) ?_
  grind
theorem QiC {x : Int} (hx:isN x):(if (x%2==1)=true then QgM (QaZ x) else QaZ x)=x:=by
  unfold QaZ
  by_cases h:x%2=1
  · rw [if_pos (by simp [h]),if_pos h,Qjc]
    have e:(0-(0-x)%p)%p=x%p:=by rw [subR]; exact QdH (by omega)
    rw [e,Qbh hx]
  · rw [if_neg (by simp [h]),if_neg h]
theorem from_enc {P : Int×Int} (h:OnP P):okK (encP P)=true∧xK (encP P)=P.1∧zK (encP P)=P.2:=by
  have hy:yK (encP P)=P.2:=by
    unfold yK cutK encP
    rw [Qhe h.y,QhN h.y]
  have ho:oddK (encP P)=(P.1%2==1):=by
    have hl:=enc_bytes (x:=P.1) h.y
    have hb:0≤nth (enc P.1 P.2) 31∧nth (enc P.1 P.2) 31≤255:=hl.nth 31
    rw [QiD h.y]
    unfold oddK encP
    by_cases hh:128≤nth (enc P.1 P.2) 31
    · rw [decide_eq_true hh,show nth (enc P.1 P.2) 31/128=1 by omega]; rfl
    · rw [decide_eq_false hh,show nth (enc P.1 P.2) 31/128=0 by omega]; rfl
  have hc:canK (encP P)=true:=by
    unfold canK
    rw [hy]
    unfold cutK encP
    rw [Qhe h.y]
    exact decide_eq_true rfl
  have hs:=Qiw P.1 h.x
  rw [Qqy h.c,←hy] at hs
  have hr:rK (encP P)=QaZ P.1:=hs.2
  have h0:(oddK (encP P)&&rK (encP P)==0)=false:=by
    rw [ho,hr]
    by_cases hp:P.1%2=1
    · have e:=QeX P.1 h.x hp
      have hlt:=h.x.2
      rw [e]
      have:¬ (p-P.1=0):=by omega
      simp [this]
    · simp [hp]
  have hk:okK (encP P)=true:=by
    unfold okK
    rw [hc,hs.1,h0]
    rfl
  refine ⟨hk,?_,?_⟩
  · unfold xK
    rw [if_pos hk,ho,hr]
    exact QiC h.x
  · unfold zK
    rw [if_pos hk,hy]
theorem Qp7 : OnP (bxN,byN):=⟨QlT,QlS,by unfold onC; decide +kernel⟩
theorem QqK : blN=((bxN,byN).2-1)%p:=by decide +kernel
theorem ptBase (w : World) (tX:TypeId) (hX:w.heap[0]? = some (.cells (ints .u8 QbN) tX)) (tY:TypeId) (hY:w.heap[1]? = some (.cells (ints .u8 QbM) tY)) :
    Calls Tryd.prog 20 #[] w (Ret w (ptV (bxN,byN))):=by
  have c:=QqM w tX hX tY hY
  rw [QqK] at c
  exact c
theorem K_onP (xs : List Int):OnP (xK xs,zK xs):=⟨QpF xs,QpE xs,Qrv xs⟩
def mulP (a ks:List Int):Int×Int:=climbP (xK a,zK a) (bitsB ks)
theorem QcO (a ks:List Int):OnP (mulP a ks):=climbP_on (K_onP a) _
end Go.Proofs.YtdoadngmgmdlbaaDoor.Field
end
section
namespace Go.Proofs.YtdoadngmgmdlbaaDoor.Field
open Go Go.RowKit
open Rely Auto
theorem climb_num {P : Int×Int} (h:OnP P) (ks:List Int) (hb:Qaj ks):climbP P (bitsB ks)=nmul (numB ks) P:=by rw [QhZ h,QfV ks hb]
def BP : Int×Int:=(bxN,byN)
theorem Qcb : OnP BP:=Qp7
def pa (a : List Int):Int×Int:=climbP BP (bitsB a)
theorem Qdn (a : List Int):OnP (pa a):=climbP_on Qcb _
end Go.Proofs.YtdoadngmgmdlbaaDoor.Field
end
section
namespace Go.Proofs.YtdoadngmgmdlbaaDoor.Field
open Go Go.RowKit
open Rely Auto
def PN : Nat:=57896044618658097711785492504343953926634992332820282019728792003956564819949
theorem QgN : ((PN:Nat):Int)=p:=rfl
def dNat : Nat:=37095705934669439343138083508754565189542113879843219016388785533085940283555
theorem QqI : ((dNat:Nat):Int)=dN:=by decide +kernel
def sbN (a b:Nat):Nat:=(a+(PN-b))%PN
def wadT (a b c d e f g h:Nat):Nat×Nat×Nat×Nat :=
  let s0:=sbN b a*sbN f e%PN
  let s1:=(b+a)%PN*((f+e)%PN)%PN
  let s2:=d*h%PN*dNat%PN
  let s3:=(s2+s2)%PN
  let s4:=c*g%PN
  let s5:=(s4+s4)%PN
  let s6:=sbN s1 s0
  let s7:=sbN s5 s3
  let s8:=(s5+s3)%PN
  let s9:=(s1+s0)%PN
  (s6*s7%PN,s8*s9%PN,s7*s8%PN,s6*s9%PN)
def wadN (k : Nat→Nat→Nat→Nat→Nat) (a b c d e f g h:Nat):Nat :=
  let s0:=sbN b a*sbN f e%PN
  let s1:=(b+a)%PN*((f+e)%PN)%PN
  let s2:=d*h%PN*dNat%PN
  let s3:=(s2+s2)%PN
  let s4:=c*g%PN
  let s5:=(s4+s4)%PN
  let s6:=sbN s1 s0
  let s7:=sbN s5 s3
  let s8:=(s5+s3)%PN
  let s9:=(s1+s0)%PN
  let r0:=s6*s7%PN
  let r1:=s8*s9%PN
  let r2:=s7*s8%PN
  let r3:=s6*s9%PN
  bif Nat.ble r0 PN&&Nat.ble r1 PN&&Nat.ble r2 PN&&Nat.ble r3 PN then k r0 r1 r2 r3 else 0
def ordS (E1 E2 E3 E4:Nat) (bt:Bool) (k:Nat→Nat→Nat→Nat→Nat) (a b c d:Nat):Nat:=wadN (fun a b c d=>bif bt then wadN k a b c d E1 E2 E3 E4 else k a b c d) a b c d a b c d
def ordN (E1 E2 E3 E4 e:Nat):Nat→Nat→Nat→Nat→Nat→Nat
  | 0,a,b,c,_=>bif Nat.beq a 0&&Nat.beq b c then 1 else 2
  | f+1,a,b,c,d=>ordS E1 E2 E3 E4 (Nat.beq (e/2^f%2) 1) (ordN E1 E2 E3 E4 e f) a b c d
def Qc4 (e : Nat):Nat→List Bool
  | 0=>[]
  | f+1=>Nat.beq (e/2^f%2) 1::Qc4 e f
theorem Qit (a b:Nat) (ha:a<PN) (hb:b<PN):((sbN a b:Nat):Int)=((a:Int)-b)%p:=by
  unfold sbN
  rw [←QgN,Int.natCast_emod,Int.natCast_add,Int.natCast_sub (Nat.le_of_lt hb),show (a:Int)+((PN:Int)-b)=(a-b)+PN by omega,Int.add_emod_right]
theorem QpA (a b:Nat):(((a+b)%PN:Nat):Int)=((a:Int)+b)%p:=by
  rw [←QgN,Int.natCast_emod,Int.natCast_add]
theorem Qli (a b:Nat):((a*b%PN:Nat):Int)=((a:Int)*b)%p:=by
  rw [←QgN,Int.natCast_emod,Int.natCast_mul]
theorem mod_lt (a : Nat):a%PN<PN:=Nat.mod_lt _ (by decide)
def Qee (t : Nat×Nat×Nat×Nat):W4:=((t.1:Int),(t.2.1:Int),(t.2.2.1:Int),(t.2.2.2:Int))
theorem QiO (k : Nat→Nat→Nat→Nat→Nat) (a b c d e f g h:Nat) (ha:a<PN) (hb:b<PN) (hc:c<PN) (hd:d<PN) (he:e<PN) (hf:f<PN) (hg:g<PN) (hh:h<PN) :
    ∃ r0 r1 r2 r3:Nat,r0<PN∧r1<PN∧r2<PN∧r3<PN∧wadN k a b c d e f g h=k r0 r1 r2 r3∧wad (Qee (a,b,c,d)) (Qee (e,f,g,h))=Qee (r0,r1,r2,r3):=by
  refine ⟨(wadT a b c d e f g h).1,(wadT a b c d e f g h).2.1,(wadT a b c d e f g h).2.2.1,(wadT a b c d e f g h).2.2.2,mod_lt _,mod_lt _,mod_lt _,mod_lt _,?_,?_⟩
  · have hb:∀ a:Nat,Nat.ble (a%PN) PN=true:=fun a=>by
      rw [Nat.ble_eq]
      exact Nat.le_of_lt (mod_lt _)
    unfold wadN wadT
    simp only [hb,Bool.and_true,_root_.cond_true]
  · show QcM (a:Int) b c d e f g h dN=_
    unfold QcM wadT Qee
    simp only [QpA,Qli,Qit _ _ hb ha,Qit _ _ hf he,Qit _ _ (mod_lt _) (mod_lt _),QqI]
theorem Qhn (E Z:W4) (b:Bool) (bs:List Bool):wrun E Z (b::bs)=wrun E (wrung E Z b) bs:=rfl
theorem QiM (E Z:W4):wrun E Z []=Z:=rfl
theorem Qi3 (E1 E2 E3 E4 e a b c d:Nat):ordN E1 E2 E3 E4 e 0 a b c d=(bif Nat.beq a 0&&Nat.beq b c then 1 else 2):=by rw [ordN]
theorem QjE (E A:W4):wrung E A true=wad (wad A A) E:=rfl
theorem Qil (E A:W4):wrung E A false=wad A A:=rfl
theorem QkX (E1 E2 E3 E4:Nat) (bt:Bool) (k:Nat→Nat→Nat→Nat→Nat) (a b c d:Nat):ordS E1 E2 E3 E4 bt k a b c d=wadN (fun a b c d=>bif bt then wadN k a b c d E1 E2 E3 E4 else k a b c d) a b c d a b c d:=by rw [ordS]
theorem QhB (E1 E2 E3 E4:Nat) (h1:E1<PN) (h2:E2<PN) (h3:E3<PN) (h4:E4<PN) (E:W4) (hE:E=Qee (E1,E2,E3,E4)) (bt:Bool) (k:Nat→Nat→Nat→Nat→Nat) (a b c d:Nat) (ha:a<PN) (hb:b<PN) (hc:c<PN) (hd:d<PN) :
    ∃ r0 r1 r2 r3:Nat,r0<PN∧r1<PN∧r2<PN∧r3<PN∧ordS E1 E2 E3 E4 bt k a b c d=k r0 r1 r2 r3∧wrung E (Qee (a,b,c,d)) bt=Qee (r0,r1,r2,r3):=by
  obtain ⟨q0,q1,q2,q3,l0,l1,l2,l3,e1,e2⟩:=QiO (fun a b c d=>bif bt then wadN k a b c d E1 E2 E3 E4 else k a b c d) a b c d a b c d ha hb hc hd ha hb hc hd
  cases bt with
  | true =>
    obtain ⟨t0,t1,t2,t3,m0,m1,m2,m3,e3,e4⟩:=QiO k q0 q1 q2 q3 E1 E2 E3 E4 l0 l1 l2 l3 h1 h2 h3 h4
    refine ⟨t0,t1,t2,t3,m0,m1,m2,m3,(QkX ..).trans (e1.trans ((_root_.cond_true _ _).trans e3)),?_⟩
    rw [QjE,e2]
    exact (congrArg (wad _) hE).trans e4
  | false=>exact ⟨q0,q1,q2,q3,l0,l1,l2,l3,(QkX ..).trans (e1.trans (_root_.cond_false _ _)),by rw [Qil,e2]⟩
theorem QkY (E1 E2 E3 E4 e f a b c d:Nat):ordN E1 E2 E3 E4 e (f+1) a b c d=ordS E1 E2 E3 E4 (Nat.beq (e/2^f%2) 1) (ordN E1 E2 E3 E4 e f) a b c d:=by rw [ordN]
theorem QmM (E1 E2 E3 E4 e:Nat) (h1:E1<PN) (h2:E2<PN) (h3:E3<PN) (h4:E4<PN) (E:W4) (hE:E=Qee (E1,E2,E3,E4)):∀ (f a b c d:Nat),a<PN→b<PN→c<PN→d<PN →
    ∃ r0 r1 r2 r3:Nat,ordN E1 E2 E3 E4 e f a b c d=(bif Nat.beq r0 0&&Nat.beq r1 r2 then 1 else 2)∧wrun E (Qee (a,b,c,d)) (Qc4 e f)=Qee (r0,r1,r2,r3):=by
  intro f
  induction f with
  | zero=>intro a b c d _ _ _ _; exact ⟨a,b,c,d,Qi3 ..,by rw [Qc4,QiM]⟩
  | succ f ih =>
    intro a b c d ha hb hc hd
    obtain ⟨q0,q1,q2,q3,l0,l1,l2,l3,e1,e2⟩:=QhB E1 E2 E3 E4 h1 h2 h3 h4 E hE (Nat.beq (e/2^f%2) 1) (ordN E1 E2 E3 E4 e f) a b c d ha hb hc hd
    obtain ⟨r0,r1,r2,r3,e3,e4⟩:=ih q0 q1 q2 q3 l0 l1 l2 l3
    exact ⟨r0,r1,r2,r3,(QkY ..).trans (e1.trans e3),by rw [Qc4,Qhn,e2,e4]⟩
def QhC : List Int:=[237,211,245,92,26,99,18,88,214,156,247,162,222,249,222,20,0,0,0,0,0,0,0,0,0,0,0,0,0,0,0,16]
theorem Qi4 : Qaj QhC:=by unfold Qaj; decide
theorem Qjg : bitsB QhC=Qc4 7237005577332262213973186563042994240857116359379907606001950938285454250989 256:=by decide +kernel
theorem QoP : numB QhC=ordL.toNat:=by decide +kernel
theorem QoO : ordN 15112221349535400772501151409588531511454012693041857206046113283949847762202 46316835694926478169428394003475163141307993866256225615783033603165251855960 1 46827403850823179245072216630277197565144205554125654976674165829533817101731 7237005577332262213973186563042994240857116359379907606001950938285454250989 256 0 1 1 0=1:=by decide +kernel
theorem Qkx : wE BP.1 ((BP.2-1)%p)=Qee (15112221349535400772501151409588531511454012693041857206046113283949847762202,46316835694926478169428394003475163141307993866256225615783033603165251855960,1,46827403850823179245072216630277197565144205554125654976674165829533817101731):=by decide +kernel
theorem QiP : wE 0 0=Qee (0,1,1,0):=by decide +kernel
theorem QmK : climbP BP (bitsB QhC)=QcL:=by
  have r:=Qex Qcb (Qgl Qcb) (bitsB QhC) pZero_on Qim
  have on:=climbP_on Qcb (bitsB QhC)
  change Qfn _ (climbP BP (bitsB QhC)) at r
  rw [Qkx,QiP,Qjg] at r
  obtain ⟨r0,r1,r2,r3,h1,h2⟩:=QmM 15112221349535400772501151409588531511454012693041857206046113283949847762202 46316835694926478169428394003475163141307993866256225615783033603165251855960 1 46827403850823179245072216630277197565144205554125654976674165829533817101731 7237005577332262213973186563042994240857116359379907606001950938285454250989 (by decide) (by decide) (by decide) (by decide) _ rfl 256 0 1 1 0 (by decide) (by decide) (by decide) (by decide)
  rw [QoO] at h1
  rw [h2] at r
  rw [←Qjg] at r
  generalize climbP BP (bitsB QhC)=P at r on
  have hq:r0=0∧r1=r2:=by
    cases ha:Nat.beq r0 0 with
    | false=>rw [ha] at h1; simp at h1
    | true =>
      cases hb:Nat.beq r1 r2 with
      | false=>rw [ha,hb] at h1; simp at h1
      | true=>exact ⟨Nat.eq_of_beq_eq_true ha,Nat.eq_of_beq_eq_true hb⟩
  obtain ⟨rfl,rfl⟩:=hq
  have hz:(r1:Int)%p≠0:=by
    have:=r.z
    have n:=r.n
    change isN (r1:Int) at n
    rw [Qbh n]; exact this
  have hX:(0:Int)=r1*P.1%p:=r.hx
  have hY:(r1:Int)=r1*P.2%p:=r.hy
  have x0:P.1=0:=by
    have:=(Qg5 hX.symm).resolve_left hz
    rwa [Qbh on.x] at this
  have y1:P.2=1:=by
    have n:=r.n
    change isN (r1:Int) at n
    have e:((r1:Int)*(P.2-1))%p=0:=by
      rw [show (r1:Int)*(P.2-1)=r1*P.2-r1 by grind,←subL,←hY]
      simp
    have:=Qg4 ((Qg5 e).resolve_left hz)
    rwa [Qbh on.y] at this
  exact Prod.ext x0 y1
theorem order_mul : nmul ordL.toNat BP=QcL:=by
  rw [←QoP,←climb_num Qcb _ Qi4]
  exact QmK
end Go.Proofs.YtdoadngmgmdlbaaDoor.Field
end
section
namespace Go.Proofs.YtdoadngmgmdlbaaDoor.Field
open Go Go.RowKit
open Rely Auto
def dig (V : Int):List Int:=(List.range 34).map (Qax V)
theorem dig_len (V : Int):(dig V).length=34:=by simp [dig]
theorem QlK (V : Int) (i:Nat) (hi:i<34):nth (dig V) i=Qax V i:=by simp [nth,dig,hi]
theorem Qcw (V : Int) (i:Nat):0≤Qax V i∧Qax V i≤255:=by unfold Qax; omega
theorem dig_bytes (V : Int):Qaj (dig V):=fun x hx=>by
  simp only [dig,List.mem_map] at hx
  obtain ⟨i,_,rfl⟩:=hx
  exact Qcw V i
theorem Qny : List.replicate 34 0=dig 0:=by decide
theorem Qjr (V : Int):∀ k,k≤34→leAt (dig V) 0 k=V%256^k
  | 0,_=>by simp [leAt,Int.emod_one]
  | k+1,hk=>by
    rw [leAt,Qjr V k (by omega),Nat.zero_add,QlK V k (by omega),QdV]
    unfold Qax
    rw [Int.mul_comm (V/256^k%256)]
theorem QgX (xs : List Int) (o:Nat):∀ m,leAt xs o (m+1)=nth xs o+256*leAt xs (o+1) m
  | 0=>by simp [leAt]
  | m+1=>by
    rw [leAt,QgX xs o m,leAt,show o+(m+1)=o+1+m by omega,Int.pow_succ]
    grind
def redT (xs : List Int) (N:Nat):Nat→Int
  | 0=>0
  | m+1=>(256*redT xs N m+nth xs (N-1-m))%ordL
theorem QiY (xs : List Int) (N:Nat):∀ m,m≤N→redT xs N m=leAt xs (N-m) m%ordL
  | 0,_=>rfl
  | m+1,h=>by
    rw [redT,QiY xs N m (by omega),QgX,show N-(m+1)+1=N-m by omega,show N-1-m=N-(m+1) by omega,Int.add_emod,Int.mul_emod,Int.emod_emod,←Int.mul_emod,←Int.add_emod,Int.add_comm]
theorem Qm3 (xs : List Int) (N m:Nat):isS (redT xs N m):=by
  cases m
  · exact (show isS 0 from ⟨by decide,by decide⟩)
  · exact isS_mod _
theorem Qqg (i : Nat):(256:Int)^(i+1)=256*256^i:=by rw [Int.pow_succ,Int.mul_comm]
theorem Qid (R x:Int) (hx:0≤x∧x≤255) (i:Nat):Qax (256*R+x) (i+1)=Qax R i:=by
  unfold Qax
  rw [Qqg,←Int.ediv_ediv_of_nonneg (by decide)]
  rw [show (256*R+x)/256=R by omega]
theorem Qie (R x:Int) (hx:0≤x∧x≤255):Qax (256*R+x) 0=x:=by
  unfold Qax
  simp only [Int.pow_zero,Int.ediv_one]
  omega
def shf (R : Int) (i:Nat):Int:=Qax R (i-1)
def sh (R : Int) (k:Nat):List Int:=mix 34 (Qax R) (shf R) k
theorem Qk3 (R : Int) (k:Nat):(sh R k).length=34:=mix_len ..
theorem Qmo (R : Int):dig R=sh R 34:=(Qdy 34 _ _ 34 (qR _)).symm
theorem QpU (R : Int) (k i:Nat) (h:i<k) (h2:i<34):nth (sh R k) i=Qax R i:=by rw [sh,QbJ _ _ _ _ _ h2,if_pos h]
theorem Qom (R : Int) (q:Nat) (h0:0<q) (hq:q≤33):(sh R (q+1)).set q (Qax R (q-1))=sh R (q-1+1):=by
  rw [show q-1+1=q by omega]
  apply List.ext_getElem
  · simp [sh,mix]
  · intro i h1 h2
    simp only [sh,mix,List.length_map,List.length_range] at h2
    by_cases hi:i=q
    · subst hi; simp [sh,mix,shf]
    · rw [List.getElem_set_ne (by omega)]
      simp only [sh,mix,List.getElem_map,List.getElem_range]
      by_cases h:i<q
      · rw [if_pos h,if_pos (by omega)]
      · rw [if_neg h,if_neg (by omega)]
theorem QpV (R x:Int) (hx:0≤x∧x≤255):(sh R (0+1)).set 0 x=dig (256*R+x):=by
  apply List.ext_getElem
  · simp [sh,mix,dig]
  · intro i h1 h2
    simp only [dig,List.length_map,List.length_range] at h2
    rcases i with _ | i
    · simp [dig,Qie R x hx]
    · rw [List.getElem_set_ne (by omega)]
      simp only [sh,mix,dig,List.getElem_map,List.getElem_range]
      rw [if_neg (by omega),Qid R x hx]
      rfl
def bo (V : Int) (k:Nat):Int:=if V%256^k<ordL%256^k then 1 else 0
def dn (V : Int) (k:Nat):Int:=Qax V k-bo V k-Qax ordL k
theorem Qp3 (V : Int):bo V 0=0:=by unfold bo; simp [Int.emod_one]
theorem Qj9 (V : Int) (k:Nat):0≤bo V k∧bo V k≤1:=by unfold bo; split <;> omega
theorem Qmm (B qv ql a b:Int) (hB:0<B) (ha:0≤a∧a<B) (hb:0≤b∧b<B):(B*qv+a-(B*ql+b))/B=qv-ql-(if a<b then 1 else 0):=by
  have e:∀ q r:Int,0≤r→r<B→(B*q+r)/B=q:=fun q r h0 h1=>by
    rw [Int.add_comm,Int.add_mul_ediv_left _ _ (Int.ne_of_gt hB),Int.ediv_eq_zero_of_lt h0 h1,Int.zero_add]
  by_cases h:a<b
  · rw [if_pos h,show B*qv+a-(B*ql+b)=B*(qv-ql-1)+(a-b+B) by grind]
    exact e _ _ (by omega) (by omega)
  · rw [if_neg h,show B*qv+a-(B*ql+b)=B*(qv-ql)+(a-b) by grind,e _ _ (by omega) (by omega)]
    omega
theorem Qn2 (B vd ld a b:Int) (hB:0<B) (ha:0≤a∧a<B) (hb:0≤b∧b<B):(a+B*vd<b+B*ld)↔vd-(if a<b then 1 else 0)-ld<0:=by
  by_cases h1:vd<ld
  · have:B*vd+B≤B*ld:=by
      have:=Int.mul_le_mul_of_nonneg_left (show vd+1≤ld by omega) (Int.le_of_lt hB)
      rw [Int.mul_add,Int.mul_one] at this; exact this
    constructor
    · intro _; split <;> omega
    · intro _; omega
  · by_cases h2:vd=ld
    · subst h2
      constructor
      · intro h; rw [if_pos (by omega)]; omega
      · intro h; split at h <;> omega
    · have:B*ld+B≤B*vd:=by
        have:=Int.mul_le_mul_of_nonneg_left (show ld+1≤vd by omega) (Int.le_of_lt hB)
        rw [Int.mul_add,Int.mul_one] at this; exact this
      constructor
      · intro h; omega
      · intro h; split at h <;> omega
theorem dsub (V : Int) (k:Nat):Qax (V-ordL) k=dn V k%256∧(bo V (k+1)=if dn V k<0 then 1 else 0):=by
  have hB:(0:Int)<256^k:=Int.pow_pos (by decide)
  have s1:=QdV V k
  have s2:=QdV ordL k
  unfold dn bo Qax
  rw [s1,s2]
  generalize ordL=l at *
  generalize (256:Int)^k=B at hB
  have e1:=Int.mul_ediv_add_emod V B
  have e2:=Int.mul_ediv_add_emod l B
  have a1:=Int.emod_nonneg V (Int.ne_of_gt hB)
  have a2:=Int.emod_lt_of_pos V hB
  have b1:=Int.emod_nonneg l (Int.ne_of_gt hB)
  have b2:=Int.emod_lt_of_pos l hB
  have c:=Qmm B (V/B) (l/B) (V%B) (l%B) hB ⟨a1,a2⟩ ⟨b1,b2⟩
  rw [e1,e2] at c
  have d:=Qn2 B (V/B%256) (l/B%256) (V%B) (l%B) hB ⟨a1,a2⟩ ⟨b1,b2⟩
  constructor
  · rw [c]; omega
  · by_cases h:V%B+B*(V/B%256)<l%B+B*(l/B%256)
    · rw [if_pos h,if_pos (d.1 h)]
    · rw [if_neg h,if_neg (fun g=>h (d.2 g))]
theorem Qj5 (V : Int) (k:Nat):-256≤dn V k∧dn V k≤255:=by
  have h1:=Qcw V k; have h2:=Qcw ordL k; have h3:=Qj9 V k
  unfold dn; omega
theorem Qj4 (V : Int) (k:Nat) (h:dn V k<0):dn V k+256=Qax (V-ordL) k∧bo V (k+1)=1:=by
  have r:=Qj5 V k
  obtain ⟨h1,h2⟩:=dsub V k
  rw [h1,h2,if_pos h]
  exact ⟨by omega,rfl⟩
theorem Qj3 (V : Int) (k:Nat) (h:¬ dn V k<0):dn V k=Qax (V-ordL) k∧bo V (k+1)=0:=by
  have r:=Qj5 V k
  obtain ⟨h1,h2⟩:=dsub V k
  rw [h1,h2,if_neg h]
  exact ⟨by omega,rfl⟩
theorem QmL (k : Nat) (h:32≤k):Qax ordL k=0:=by
  obtain ⟨m,rfl⟩:∃ m,k=32+m:=⟨k-32,by omega⟩
  unfold Qax
  rw [Int.pow_add,←Int.ediv_ediv_of_nonneg (Int.pow_nonneg (by decide)),show ordL/256^32=0 by decide]
  simp
def ordI : List Int:=[237,211,245,92,26,99,18,88,214,156,247,162,222,249,222,20,0,0,0,0,0,0,0,0,0,0,0,0,0,0,0,16]
theorem QcS : ordI.length=32:=by decide
theorem Qgn : Qaj ordI:=by unfold Qaj; decide
theorem QmN : ∀ k,k<32→nth ordI k=Qax ordL k:=by decide
theorem QoQ : leAt ordI 0 34=ordL:=by decide +kernel
def sb (V : Int) (k:Nat):List Int:=mix 34 (Qax (V-ordL)) (Qax V) k
theorem Qht (V : Int) (k:Nat):(sb V k).length=34:=mix_len ..
theorem Qmr (V : Int):dig V=sb V 0:=(QdW 34 _ _).symm
theorem Qqb (V : Int):sb V 34=dig (V-ordL):=Qdy 34 _ _ 34 (qR _)
theorem Qqa (V : Int) (k:Nat) (h:k<34):nth (sb V k) k=Qax V k:=by rw [sb,QbJ _ _ _ _ _ h,if_neg (by omega)]
theorem QgC (V : Int) (k:Nat) (h:k<34) (v:Int) (e:v=Qax (V-ordL) k):(sb V k).set k v=sb V (k+1):=by rw [e]; exact mix_set 34 _ _ k h
theorem QfL (xs ys:List Int) (k:Nat):∀ m,(∀ j,k≤j→j<k+m→nth xs j=nth ys j)→leAt xs 0 (k+m)-leAt ys 0 (k+m)=leAt xs 0 k-leAt ys 0 k
  | 0,_=>rfl
  | m+1,h=>by
    rw [←Nat.add_assoc,leAt,leAt,Nat.zero_add,h (k+m) (by omega) (by omega)]
    have:=QfL xs ys k m fun j h1 h2=>h j h1 (by omega)
    omega
theorem QnU (xs ys:List Int) (hx:Qaj xs) (hy:Qaj ys) (i N:Nat) (hi:i<N) (h:∀ j,i+1≤j→j<N→nth xs j=nth ys j) (hne:nth xs i≠nth ys i) :
    decide (nth xs i>nth ys i)=decide (leAt ys 0 N≤leAt xs 0 N):=by
  have e:=QfL xs ys (i+1) (N-(i+1)) (fun j h1 h2=>h j h1 (by omega))
  rw [show i+1+(N-(i+1))=N by omega,leAt,leAt,Nat.zero_add] at e
  have r1:=QbV xs hx 0 i
  have r2:=QbV ys hy 0 i
  have hB:(0:Int)<256^i:=Int.pow_pos (by decide)
  generalize (256:Int)^i=B at *
  generalize leAt xs 0 i=a at *
  generalize leAt ys 0 i=b at *
  generalize nth xs i=u at *
  generalize nth ys i=v at *
  by_cases hh:u>v
  · have:v*B+B≤u*B:=by
      have:=Int.mul_le_mul_of_nonneg_right (show v+1≤u by omega) (Int.le_of_lt hB)
      rw [Int.add_mul,Int.one_mul] at this; exact this
    rw [decide_eq_true hh,decide_eq_true (by omega)]
  · have:u*B+B≤v*B:=by
      have:=Int.mul_le_mul_of_nonneg_right (show u+1≤v by omega) (Int.le_of_lt hB)
      rw [Int.add_mul,Int.one_mul] at this; exact this
    rw [decide_eq_false hh,decide_eq_false (by omega)]
theorem Qp1 (xs ys:List Int) (N:Nat) (h:∀ j,0≤j→j<N→nth xs j=nth ys j):decide (leAt ys 0 N≤leAt xs 0 N)=true:=by
  have e:=QfL xs ys 0 N (fun j h1 h2=>h j h1 (by omega))
  rw [Nat.zero_add] at e
  simp only [leAt,Int.sub_self] at e
  exact decide_eq_true (by omega)
theorem Qka (ys : List Int) (j:Nat) (h:ys.length≤j):nth ys j=0:=by
  unfold nth
  rw [List.getD_eq_getElem?_getD,List.getElem?_eq_none h]
  rfl
theorem QqE (V : Int) (h0:0≤V) (h1:V<256^34):decide (leAt ordI 0 34≤leAt (dig V) 0 34)=decide (ordL≤V):=by
  rw [QoQ,Qjr V 34 (qR _),Int.emod_eq_of_lt h0 h1]
def fill (bs : List Int) (n k:Nat):List Int:=mix n (nth bs) (fun _=>0) k
theorem fill_len (bs : List Int) (n k:Nat):(fill bs n k).length=n:=mix_len ..
theorem Qkl (bs : List Int) (n:Nat):List.replicate n 0=fill bs n 0:=by rw [fill,QdW]; simp [List.map_const']
theorem QlB (bs : List Int) (n k:Nat) (h:k<n):(fill bs n k).set k (nth bs k)=fill bs n (k+1):=mix_set n _ _ k h
theorem Qns (bs : List Int) (n:Nat) (h:bs.length=n):fill bs n n=bs:=by rw [fill,Qdy n _ _ n (qR _)]; exact Qhz bs n h
end Go.Proofs.YtdoadngmgmdlbaaDoor.Field
end
section
namespace Go.Proofs.YtdoadngmgmdlbaaDoor.Field
open Go Go.RowKit
open Rely Auto
theorem Qoe {R x:Int} (h:isS R) (hx:0≤x∧x≤255):256*R+x<256^34:=by
  have e:256*ordL+256≤(256:Int)^34:=by decide
  have h2:=h.2
  generalize (256:Int)^34=P at *
  omega
theorem QpL {V : Int} (h:V<256^34):V-ordL<256^34:=by
  have e:(0:Int)<ordL:=by decide
  generalize (256:Int)^34=P at *
  omega
theorem QqU {V : Int} (h:ordL≤V):(V-ordL).toNat<V.toNat:=by
  have e:(0:Int)<ordL:=by decide
  omega
theorem Qjv (q : Nat) (h0:0<q) (h:q<9223372036854775808):IntKind.i64.wrap ((q:Int)-1)=((q-1:Nat):Int):=by
  rw [show ((q-1:Nat):Int)=(q:Int)-1 by omega]
  exact Qd2 q h
theorem QeD (v : Int) (h:-1000000≤v∧v≤1000000):IntKind.i64.wrap v=v:=IntWalk.i64_in _ (by omega)
theorem Qqr (w : World):Calls Tryd.prog 18 #[] w (Ret w (.agg (ints .u8 ordI))):=by
  refine enter 2 [] Tryd.func18 rfl rfl kj rfl <| sgC fun K1 hK1=>Qah (ints .u8 (List.replicate 32 0)) 23 0 rfl kj kj fun g2 W1 l2 e1 r2_1=>sgN hK1 <| sgC fun K3 hK3=>sg 1 kj <| Qai g2 _ (ints .u8 (ordI)) 23 r2_1 rfl kj (Qaf 23 _ _ g2 23 _ _ r2_1 rfl kj kj (isz (n:=32) kj ((Qad _ _).trans QcS)) (eqsz (n:=32) ((Qad _ _).trans zlen) ((Qad _ _).trans QcS)) (ints_one _ _)) fun W2 p2 r2_2=>sgN hK3 <| wp_ret ?_
  exact (show bodyPost _ _ _ .ret _ _ from ret1 (.agg (ints .u8 (ordI))) rfl (Qa8 g2 23 _ r2_2 kj kj (isz (n:=32) kj ((Qad _ _).trans QcS))) ⟨rfl,(Puts.ext p2 (Ext.tr (Rely.Ext.refl w) e1) (qT (Rely.Ext.refl w).size l2))⟩)
theorem Qq9 (A : Option Addr) (n c:Nat) (bs:List Int) (hbl:bs.length=n) (hn:n≤1000) (hb:Qaj bs) (w:World)
  (hc:n=0∨∃ sb so,A=some ⟨sb,so,none⟩∧sb<w.heap.size∧∀ i,i<n→w.cell? ⟨sb,so+i,none⟩=some (.int .u8 (nth bs i))) :
  Calls Tryd.prog 77 #[.slice A n c] w fun e w'=>∃ v,e=.returned v∧Ext w w'∧∃ g,w.heap.size≤g∧v=.slice (some ⟨g,0,none⟩) n n∧w'.heap[g]? = some (.cells (ints .i64 bs) 3):=by
 refine enter 23 [(0,.slice A n c)] Tryd.func77 rfl rfl kj rfl <| sgB kj <| sgC fun K2 hK2=>sg 2 kj <| QaW (ints .i64 (List.replicate n 0)) 3 n 7 rfl kj (Qf6 100 _ _ .i64 .i64 n 3 rfl kj kj kj (.inl kj) (by omega)) fun g3 W1 l3 e1 r3_1=>?_
 have b3:=qT (Rely.Ext.refl w).size l3
 refine sg 1 kj <| sgN hK2 <| wp_seq_k fun K4 hK4=>sgB kj <| wp_block <| QaN (fun (k:Nat)=>[(4,.int .i64 ((k:Nat):Int)),(0,.slice A n c),(3,.slice (some ⟨g3,0,none⟩) n n)]) (fun (k:Nat) W=>(k≤n)∧W.heap[g3]? = some (.cells (ints .i64 (fill bs n k)) 3)∧Ext w W) (fun (k:Nat)=>n-k) 0 ⟨kj,kj,kj,trivial⟩ ⟨(by omega),(QaJ r3_1 (Qkl bs n)),(Ext.tr (Rely.Ext.refl w) e1)⟩ fun k X1 V1 hI=>?_
 obtain ⟨hkn,q3_1,xx1⟩:=hI
 refine wp_seq_k fun K6 hK6=>sgB kj <| QaD (t:=decide (((k:Nat):Int)<((n:Nat):Int))) kj (fun c8=>?_) (fun c8=>?_)
 ·skip
  have hk:k<n:=by have:=of_decide_eq_true c8; omega
  obtain ⟨sb,so,hA,hsb,hcell⟩:=hc.resolve_left (by omega)
  subst hA
  refine wp_skip <| hK6 _ _ <| wp_seq_k fun K9 hK9=>wp_block <| Qat <| sg 4 kj <| Qag (.pointer (some ⟨sb,so+k,none⟩)) 18 rfl kj (QdS 27 _ _ .i64 (k) sb so n c 5 rfl kj kj kj kj hk) <| Qag (.int .u8 (nth (bs) (k))) 19 rfl kj (QbD 5 _ _ (.int .u8 (nth (bs) (k))) ((Below.cell xx1 hsb).trans (hcell k hk)) rfl kj kj) <| Qag (.int .i64 (nth bs k)) 20 rfl kj (Qam (u:=.int .i64 (IntKind.i64.wrap (nth (bs) (k)))) kj (congrArg (Value.int .i64) (QqB (hb.nth k)))) <| Qag (.pointer (some ⟨g3,k,none⟩)) 21 rfl kj (QaT 100 _ _ .i64 (k) g3 n n 3 rfl kj kj kj kj hk) ?_
  refine Qai g3 _ (ints .i64 ((fill bs n k).set k (nth bs k))) 3 q3_1 rfl kj (Qaz 3 _ _ g3 k 3 _ _ q3_1 rfl kj kj kj (Nat.lt_of_lt_of_eq hk (fill_len _ _ _).symm)) fun W3 p3 r3_3=>Qa7 <| hK9 _ _ <| Qat <| sg 1 kj <| Qag (.int .i64 (((k+1:Nat):Int))) 13 rfl kj (Qam (u:=.int .i64 (IntKind.i64.wrap (((k:Nat):Int)+1))) kj (congrArg (Value.int .i64) (Qd3 k (by omega)))) <| sg 1 kj <| Qa7 ?_
  repeat (first | with_reducible refine goX1 ?_ | with_reducible refine goX2 ?_ | with_reducible refine goX3 ?_)
  exact QaI (k+1) ⟨kj,kj,kj,trivial⟩ ⟨(by omega),(QaJ r3_3 (QlB bs n k hk)),(Puts.ext p3 xx1 b3)⟩ (by omega)
 ·skip
  have hk:k=n:=by have:=of_decide_eq_false c8; omega
  subst hk
  refine wp_exit <| hK4 _ _ <| sgB kj <| wp_ret ?_
  exact (show bodyPost _ _ _ .ret _ _ from ret1 (.slice (some ⟨g3,0,none⟩) k k) rfl (Qbb kj) ⟨_,rfl,xx1,g3,b3,rfl,(QaJ q3_1 (Qns bs k hbl))⟩)
theorem Qn8 (ga gb:Nat) (xs ys:List Int) (hx:xs.length=34) (hy:ys.length=32) (hxb:Qaj xs) (hyb:Qaj ys) (w:World) (ha:w.heap[ga]? = some (.cells (ints .i64 xs) 3)) (hb:w.heap[gb]? = some (.cells (ints .i64 ys) 3)) :
  Calls Tryd.prog 90 #[.slice (some ⟨ga,0,none⟩) 34 34,.slice (some ⟨gb,0,none⟩) 32 32] w (Ret w (.bool (decide (leAt ys 0 34≤leAt xs 0 34)))):=by
 refine enter 34 [(0,.slice (some ⟨ga,0,none⟩) 34 34),(1,.slice (some ⟨gb,0,none⟩) 32 32)] Tryd.func90 rfl rfl kj rfl <| sgB kj <| wp_seq_k fun K4 hK4=>sgB kj <| wp_block <| QaN (fun (k:Nat)=>[(5,.int .i64 ((k:Int)-1)),(0,.slice (some ⟨ga,0,none⟩) 34 34),(1,.slice (some ⟨gb,0,none⟩) 32 32)]) (fun (k:Nat) W=>(k≤34)∧(∀ j,k≤j→j<34→nth xs j=nth ys j)∧Ext w W) (fun (k:Nat)=>k) 34 ⟨kj,kj,kj,trivial⟩ ⟨(by omega),(fun j h1 h2=>by omega),(Rely.Ext.refl w)⟩ fun k X1 V1 hI=>?_
 obtain ⟨hk34,hs,xx1⟩:=hI
 rcases k with _ | j
 ·skip
  refine wp_seq_k fun K6 hK6=>sgB kj <| cond_false kj <| wp_exit <| hK4 _ _ <| sgB kj <| wp_ret ?_
  exact (show bodyPost _ _ _ .ret _ _ from ret1 (.bool true) rfl (Qbb kj) ⟨congrArg (fun b=>Ending.returned (.bool b)) (Qp1 xs ys 34 hs).symm,xx1⟩)
 ·rw [show (((j+1:Nat):Int)-1)=((j:Nat):Int) by omega]
  refine wp_seq_k fun K9 hK9=>sgC fun K10 hK10=>sg 1 kj <| Qag (.bool true) 11 rfl kj (Qam (u:=.bool (decide (((j:Nat):Int)≥0))) kj (congrArg Value.bool (decide_eq_true (by omega)))) <| sgN hK10 <| cond_true kj <| wp_skip <| hK9 _ _ <| wp_seq_k fun K11 hK11=>wp_block ?_
  refine sgB kj <| wp_seq_k fun K13 hK13=>sgB kj <| QaD (t:=decide (((j:Nat):Int)<32)) kj (fun c15=>?_) (fun c15=>?_)
  ·skip
   have hj:j<32:=by have:=of_decide_eq_true c15; omega
   refine Qat <| sg 2 kj <| Qag (.pointer (some ⟨gb,j,none⟩)) 20 rfl kj (QaT 100 _ _ .i64 (j) gb 32 32 3 rfl kj kj kj kj (by omega)) <| Qag (.int .i64 (nth (ys) j)) 21 rfl kj (Qak 3 _ gb j 3 _ (.int .i64 (nth (ys) j)) _ (Qaa hb xx1) rfl kj (Qar _ _ _ (Nat.lt_of_lt_of_eq (by omega) hy.symm)) kj) <| sg 1 kj <| Qa7 <| hK13 _ _ <| sgC fun K16 hK16=>sg 2 kj <| Qag (.pointer (some ⟨ga,j,none⟩)) 24 rfl kj (QaT 100 _ _ .i64 (j) ga 34 34 3 rfl kj kj kj kj (by omega)) ?_
   refine Qag (.int .i64 (nth (xs) j)) 25 rfl kj (Qak 3 _ ga j 3 _ (.int .i64 (nth (xs) j)) _ (Qaa ha xx1) rfl kj (Qar _ _ _ (Nat.lt_of_lt_of_eq (by omega) hx.symm)) kj) <| sg 1 kj <| Qag (.bool (nth xs j != nth ys j)) 27 rfl kj (Qam (u:=.bool (((nth (xs) j) != (nth (ys) j)))) kj (congrArg Value.bool rfl)) <| sgN hK16 <| QaD (t:=nth xs j != nth ys j) kj (fun c17=>?_) (fun c17=>?_)
   ·skip
    have hne:nth xs j≠nth ys j:=by intro e; rw [e] at c17; simp at c17
    refine sgC fun K18 hK18=>sg 2 kj <| Qag (.pointer (some ⟨ga,j,none⟩)) 30 rfl kj (QaT 100 _ _ .i64 (j) ga 34 34 3 rfl kj kj kj kj (by omega)) <| Qag (.int .i64 (nth (xs) j)) 31 rfl kj (Qak 3 _ ga j 3 _ (.int .i64 (nth (xs) j)) _ (Qaa ha xx1) rfl kj (Qar _ _ _ (Nat.lt_of_lt_of_eq (by omega) hx.symm)) kj) <| sg 3 kj <| sgN hK18 <| wp_ret ?_
    exact (show bodyPost _ _ _ .ret _ _ from ret1 (.bool (decide ((nth (xs) j)>(nth (ys) j)))) rfl (Qbb kj) ⟨congrArg (fun b=>Ending.returned (.bool b)) (QnU xs ys hxb hyb j 34 (by omega) hs hne),xx1⟩)
   ·skip
    have heq:nth xs j=nth ys j:=by simpa using c17
    refine wp_skip <| hK11 _ _ <| Qat <| sg 1 kj <| Qag (.int .i64 ((j:Int)-1)) 13 rfl kj (Qam (u:=.int .i64 (IntKind.i64.wrap (((j:Nat):Int)-1))) kj (congrArg (Value.int .i64) (Qd2 j (by omega)))) <| sg 1 kj <| Qa7 ?_
    repeat (first | with_reducible refine goX1 ?_ | with_reducible refine goX2 ?_ | with_reducible refine goX3 ?_)
    exact QaI j ⟨kj,kj,kj,trivial⟩ ⟨(by omega),(fun q h1 h2=>by rcases Nat.lt_or_ge j q with h | h; exact hs q (by omega) h2; rw [show q=j by omega]; exact heq),xx1⟩ (by omega)
  ·skip
   have hj:32≤j:=by have:=of_decide_eq_false c15; omega
   have hz:=Qka ys j (by omega)
   refine wp_skip <| hK13 _ _ <| sgC fun K19 hK19=>sg 2 kj <| Qag (.pointer (some ⟨ga,j,none⟩)) 24 rfl kj (QaT 100 _ _ .i64 (j) ga 34 34 3 rfl kj kj kj kj (by omega)) <| Qag (.int .i64 (nth (xs) j)) 25 rfl kj (Qak 3 _ ga j 3 _ (.int .i64 (nth (xs) j)) _ (Qaa ha xx1) rfl kj (Qar _ _ _ (Nat.lt_of_lt_of_eq (by omega) hx.symm)) kj) <| sg 1 kj <| Qag (.bool (nth xs j != 0)) 27 rfl kj (Qam (u:=.bool (((nth (xs) j) != 0))) kj (congrArg Value.bool rfl)) <| sgN hK19 <| QaD (t:=nth xs j != 0) kj (fun c20=>?_) (fun c20=>?_)
   ·skip
    have hne:nth xs j≠nth ys j:=by intro e; rw [e,hz] at c20; simp at c20
    refine sgC fun K21 hK21=>sg 2 kj <| Qag (.pointer (some ⟨ga,j,none⟩)) 30 rfl kj (QaT 100 _ _ .i64 (j) ga 34 34 3 rfl kj kj kj kj (by omega)) <| Qag (.int .i64 (nth (xs) j)) 31 rfl kj (Qak 3 _ ga j 3 _ (.int .i64 (nth (xs) j)) _ (Qaa ha xx1) rfl kj (Qar _ _ _ (Nat.lt_of_lt_of_eq (by omega) hx.symm)) kj) <| sg 3 kj <| sgN hK21 <| wp_ret ?_
    exact (show bodyPost _ _ _ .ret _ _ from ret1 (.bool (decide ((nth (xs) j)>0))) rfl (Qbb kj) ⟨congrArg (fun b=>Ending.returned (.bool b)) (by have:=QnU xs ys hxb hyb j 34 (by omega) hs hne; rwa [hz] at this),xx1⟩)
   ·skip
    have heq:nth xs j=nth ys j:=by rw [hz]; simpa using c20
    refine wp_skip <| hK11 _ _ <| Qat <| sg 1 kj <| Qag (.int .i64 ((j:Int)-1)) 13 rfl kj (Qam (u:=.int .i64 (IntKind.i64.wrap (((j:Nat):Int)-1))) kj (congrArg (Value.int .i64) (Qd2 j (by omega)))) <| sg 1 kj <| Qa7 ?_
    repeat (first | with_reducible refine goX1 ?_ | with_reducible refine goX2 ?_ | with_reducible refine goX3 ?_)
    exact QaI j ⟨kj,kj,kj,trivial⟩ ⟨(by omega),(fun q h1 h2=>by rcases Nat.lt_or_ge j q with h | h; exact hs q (by omega) h2; rw [show q=j by omega]; exact heq),xx1⟩ (by omega)
end Go.Proofs.YtdoadngmgmdlbaaDoor.Field
end
section
namespace Go.Proofs.YtdoadngmgmdlbaaDoor.Field
open Go Go.RowKit
open Rely Auto
set_option maxHeartbeats 16000000 in
theorem Qoy (gl N:Nat) (xs:List Int) (hx:xs.length=N) (hN:N≤1000) (hxb:Qaj xs) (w:World) (hl:w.heap[gl]? = some (.cells (ints .i64 xs) 3)) :
  Calls Tryd.prog 65 #[.slice (some ⟨gl,0,none⟩) N N] w (Ret w (.agg (ints .u8 (Qaq (leAt xs 0 N%ordL))))):=by
 refine enter 83 [(0,.slice (some ⟨gl,0,none⟩) N N)] Tryd.func65 rfl rfl kj rfl <| sgC fun K2 hK2=>Qah (ints .u8 (List.replicate 32 0)) 23 2 rfl kj kj fun g3 W1 l3 e1 r3_1=>sgN hK2 <| sgC fun K4 hK4=>Qap (.agg (ints .u8 (ordI))) 18 #[] 13 rfl kj kj (Qqr _) fun W2 e2=>?_
 have x2:=Ext.tr (Ext.tr (Rely.Ext.refl w) e1) e2
 refine Qah (ints .u8 (List.replicate 32 0)) 23 3 rfl kj kj fun g5 W3 l5 e3 r5_3=>Qai g5 _ (ints .u8 (ordI)) 23 r5_3 rfl kj (Qaf 23 _ _ g5 23 _ _ r5_3 rfl kj kj (isz (n:=32) kj ((Qad _ _).trans QcS)) (eqsz (n:=32) ((Qad _ _).trans zlen) ((Qad _ _).trans QcS)) (ints_one _ _)) fun W4 p4 r5_4=>?_
 have x4:=Puts.ext p4 (Ext.tr x2 e3) (qT x2.size l5)
 refine sgN hK4 <| sgC fun K6 hK6=>sg 1 kj <| QbC (fun v W'=>Ext W4 W'∧∃ g,W4.heap.size≤g∧v=.slice (some ⟨g,0,none⟩) 32 32∧W'.heap[g]? = some (.cells (ints .i64 ordI) 3)) 77 #[.slice (some ⟨g5,0,none⟩) 32 32] 15 rfl kj kj ((Qq9 _ 32 32 ordI QcS (by omega) Qgn _ (.inr ⟨g5,0,rfl,QaB r5_4,Qfv r5_4 QcS⟩)).mono fun e w' ⟨v,h1,h2,h3⟩=>⟨v,h1,h2,h3⟩) fun v W5 h=>?_
 obtain ⟨e5,gm,lm,rfl,r7_5⟩:=h
 have x5:=Ext.tr x4 e5
 have bm:w.heap.size≤gm:=qT x4.size lm
 refine sg 1 kj <| sgN hK6 <| sgC fun K8 hK8=>QaW (ints .i64 (List.replicate 34 0)) 3 34 16 rfl kj (Qf6 100 _ _ .i64 .i64 34 3 rfl kj kj kj (.inl kj) (by decide)) fun g9 W6 l9 e6 r9_6=>?_
 have b9:=qT x5.size l9
 refine sg 1 kj <| sgN hK8 <| wp_seq_k fun K10 hK10=>sgC fun K11 hK11=>sg 2 kj <| Qag (.int .i64 ((N:Int)-1)) 19 rfl kj (Qam (u:=.int .i64 (IntKind.i64.wrap (((N:Nat):Int)-1))) kj (congrArg (Value.int .i64) (Qd2 N (by omega)))) <| sg 1 kj <| sgN hK11 <| wp_block ?_
 have r3_2:=(Qaa r3_1 e2)
 have n_3_5:g3≠g5:=(Qab r3_2 l5)
 have r3_4:=(Puts.row p4 (Qaa r3_2 e3) n_3_5)
 have n_3_7:g3≠gm:=(Qab r3_4 lm)
 have r3_5:=(Qaa r3_4 e5)
 have n_3_9:g3≠g9:=(Qab r3_5 l9)
 have n_5_3:g5≠g3:=(Qas r3_2 l5)
 have n_5_7:g5≠gm:=(Qab r5_4 lm)
 have r5_5:=(Qaa r5_4 e5)
 have n_5_9:g5≠g9:=(Qab r5_5 l9)
 have n_7_3:gm≠g3:=(Qas r3_4 lm)
 have n_7_5:gm≠g5:=(Qas r5_4 lm)
 have n_7_9:gm≠g9:=(Qab r7_5 l9)
 have n_9_3:g9≠g3:=(Qas r3_5 l9)
 have n_9_5:g9≠g5:=(Qas r5_5 l9)
 have n_9_7:g9≠gm:=(Qas r7_5 l9)
 refine QaN (fun (k:Nat)=>[(6,.int .i64 ((k:Int)-1)),(0,.slice (some ⟨gl,0,none⟩) N N),(2,.pointer (some ⟨g3,0,none⟩)),(3,.pointer (some ⟨g5,0,none⟩)),(4,.slice (some ⟨gm,0,none⟩) 32 32),(5,.slice (some ⟨g9,0,none⟩) 34 34)]) (fun (k:Nat) W=>(k≤N)∧W.heap[g3]? = some (.cells (ints .u8 (List.replicate 32 0)) 23)∧W.heap[g5]? = some (.cells (ints .u8 (ordI)) 23)∧W.heap[gm]? = some (.cells (ints .i64 (ordI)) 3)∧W.heap[g9]? = some (.cells (ints .i64 (dig (redT xs N (N-k)))) 3)∧Ext w W) (fun (k:Nat)=>k) N ⟨kj,kj,kj,kj,kj,kj,trivial⟩ ⟨(by omega),(Qaa r3_5 e6),(Qaa r5_5 e6),(Qaa r7_5 e6),(QaJ r9_6 (by rw [Nat.sub_self]; exact Qny)),(Ext.tr x5 e6)⟩ fun k X1 V1 hI=>?_
 obtain ⟨hkN,q3_1,q5_1,q7_1,q9_1,xx1⟩:=hI
 rcases k with _ | j
 ·skip
  refine wp_seq_k fun K12 hK12=>sgB kj <| cond_false kj <| wp_exit <| hK10 _ _ <| sgC fun K14 hK14=>Qah (ints .u8 (List.replicate 32 0)) 23 11 rfl kj kj fun g15 W8 l15 e8 r15_8=>sgN hK14 <| wp_seq_k fun K16 hK16=>sgB kj ?_
  refine wp_block ?_
  have n_3_15:g3≠g15:=(Qab q3_1 l15)
  have n_5_15:g5≠g15:=(Qab q5_1 l15)
  have n_7_15:gm≠g15:=(Qab q7_1 l15)
  have n_9_15:g9≠g15:=(Qab q9_1 l15)
  have n_15_3:g15≠g3:=(Qas q3_1 l15)
  have n_15_5:g15≠g5:=(Qas q5_1 l15)
  have n_15_7:g15≠gm:=(Qas q7_1 l15)
  have n_15_9:g15≠g9:=(Qas q9_1 l15)
  refine QaN (fun (k:Nat)=>[(12,.int .i64 ((k:Nat):Int)),(11,.pointer (some ⟨g15,0,none⟩)),(0,.slice (some ⟨gl,0,none⟩) N N),(2,.pointer (some ⟨g3,0,none⟩)),(3,.pointer (some ⟨g5,0,none⟩)),(4,.slice (some ⟨gm,0,none⟩) 32 32),(5,.slice (some ⟨g9,0,none⟩) 34 34)]) (fun (k:Nat) W=>(k≤32)∧W.heap[g3]? = some (.cells (ints .u8 (List.replicate 32 0)) 23)∧W.heap[g5]? = some (.cells (ints .u8 (ordI)) 23)∧W.heap[gm]? = some (.cells (ints .i64 (ordI)) 3)∧W.heap[g9]? = some (.cells (ints .i64 (dig (redT xs N (N-0)))) 3)∧W.heap[g15]? = some (.cells (ints .u8 (part (redT xs N (N-0)) k)) 23)∧Ext w W) (fun (k:Nat)=>32-k) 0 ⟨kj,kj,kj,kj,kj,kj,kj,trivial⟩ ⟨(by omega),(Qaa q3_1 e8),(Qaa q5_1 e8),(Qaa q7_1 e8),(Qaa q9_1 e8),(QaJ r15_8 (Qh7 _)),(Ext.tr xx1 e8)⟩ fun k X2 V2 hI=>?_
  obtain ⟨hk32,q3_2,q5_2,q7_2,q9_2,q15_2,xx2⟩:=hI
  refine wp_seq_k fun K18 hK18=>sgB kj <| QaD (t:=decide (((k:Nat):Int)<32)) kj (fun c20=>?_) (fun c20=>?_)
  ·skip
   have hk:k<32:=by have:=of_decide_eq_true c20; omega
   have hbr:=Qcw (redT xs N (N-0)) k
   refine wp_skip <| hK18 _ _ <| wp_seq_k fun K21 hK21=>wp_block <| Qat <| sg 3 kj <| Qag (.pointer (some ⟨g9,k,none⟩)) 78 rfl kj (QaT 100 _ _ .i64 (k) g9 34 34 3 rfl kj kj kj kj (by omega)) <| Qag (.int .i64 (Qax (redT xs N (N-0)) k)) 79 rfl kj (Qak 3 _ g9 k 3 _ (.int .i64 (Qax (redT xs N (N-0)) k)) _ q9_2 rfl kj ((Qar _ _ _ (Nat.lt_of_lt_of_eq (by omega) (dig_len _).symm)).trans (congrArg (fun z=>some (Value.int .i64 z)) (QlK _ k (by omega)))) kj) <| Qag (.int .u8 (Qax (redT xs N (N-0)) k)) 80 rfl kj (Qam (u:=.int .u8 (IntKind.u8.wrap (Qax (redT xs N (N-0)) k))) kj (congrArg (Value.int .u8) (by rw [QnE]; omega))) ?_
   refine Qag (.pointer (some ⟨g15,k,none⟩)) 81 rfl kj (QaR _ _ _ .i64 (k) _ 32 5 rfl kj kj kj kj hk) <| Qai g15 _ (ints .u8 ((part (redT xs N (N-0)) k).set k (Qax (redT xs N (N-0)) k))) 23 q15_2 rfl kj (Qaz 5 _ _ g15 k 23 _ _ q15_2 rfl kj kj kj (Nat.lt_of_lt_of_eq hk (QcI _ _).symm)) fun W10 p10 r15_10=>?_
   have x10:=Puts.ext p10 xx2 (qT xx1.size l15)
   refine Qa7 <| hK21 _ _ <| Qat <| sg 1 kj <| Qag (.int .i64 (((k+1:Nat):Int))) 74 rfl kj (Qam (u:=.int .i64 (IntKind.i64.wrap (((k:Nat):Int)+1))) kj (congrArg (Value.int .i64) (Qd3 k (by omega)))) <| sg 1 kj <| Qa7 ?_
   have r3_10:=(Puts.row p10 q3_2 n_3_15)
   repeat (first | with_reducible refine goX1 ?_ | with_reducible refine goX2 ?_ | with_reducible refine goX3 ?_)
   exact QaI (k+1) ⟨kj,kj,kj,kj,kj,kj,kj,trivial⟩ ⟨(by omega),r3_10,(Puts.row p10 q5_2 n_5_15),(Puts.row p10 q7_2 n_7_15),(Puts.row p10 q9_2 n_9_15),(QaJ r15_10 (Qh8 _ k hk)),x10⟩ (by omega)
  ·skip
   have hk:k=32:=by have:=of_decide_eq_false c20; omega
   subst hk
   refine wp_exit <| hK16 _ _ <| sgC fun K22 hK22=>Qag (.agg (ints .u8 (part (redT xs N (N-0)) 32))) 82 rfl kj (Qac 23 _ g15 23 _ _ q15_2 rfl kj kj (isz (n:=32) kj ((Qad _ _).trans (QcI _ _)))) <| Qai g3 _ (ints .u8 (part (redT xs N (N-0)) 32)) 23 q3_2 rfl kj (Qaf 23 _ _ g3 23 _ _ q3_2 rfl kj kj (isz (n:=32) kj ((Qad _ _).trans (QcI _ _))) (eqsz (n:=32) ((Qad _ _).trans zlen) ((Qad _ _).trans (QcI _ _))) (ints_one _ _)) fun W10 p10 r3_10=>?_
   have x10:=Puts.ext p10 xx2 (qT (Rely.Ext.refl w).size l3)
   refine sgN hK22 <| wp_ret ?_
   exact (show bodyPost _ _ _ .ret _ _ from ret1 (.agg (ints .u8 (part (redT xs N (N-0)) 32))) rfl (Qa8 g3 23 _ r3_10 kj kj (isz (n:=32) kj ((Qad _ _).trans (QcI _ _)))) ⟨by rw [Nat.sub_zero,QiY xs N N (qR _),Nat.sub_self]; rfl,x10⟩)
 ·rw [show (((j+1:Nat):Int)-1)=((j:Nat):Int) by omega]
  have hRT:redT xs N (N-j)=(256*redT xs N (N-(j+1))+nth xs j)%ordL:=by
   rw [show N-j=(N-(j+1))+1 by omega,redT,show N-1-(N-(j+1))=j by omega]
  have hRS:=Qm3 xs N (N-(j+1))
  generalize redT xs N (N-(j+1))=R at hRT hRS q9_1
  refine wp_seq_k fun K23 hK23=>sgC fun K24 hK24=>sg 1 kj <| Qag (.bool true) 21 rfl kj (Qam (u:=.bool (decide (((j:Nat):Int)≥0))) kj (congrArg Value.bool (decide_eq_true (by omega)))) <| sgN hK24 <| cond_true kj <| wp_skip <| hK23 _ _ <| wp_seq_k fun K25 hK25=>wp_block ?_
  refine wp_seq_k fun K26 hK26=>sgB kj <| wp_block <| QaN (fun (q:Nat)=>[(7,.int .i64 ((q:Nat):Int)),(6,.int .i64 ((j:Nat):Int)),(0,.slice (some ⟨gl,0,none⟩) N N),(2,.pointer (some ⟨g3,0,none⟩)),(3,.pointer (some ⟨g5,0,none⟩)),(4,.slice (some ⟨gm,0,none⟩) 32 32),(5,.slice (some ⟨g9,0,none⟩) 34 34)]) (fun (q:Nat) W=>(q≤33)∧W.heap[g3]? = some (.cells (ints .u8 (List.replicate 32 0)) 23)∧W.heap[g5]? = some (.cells (ints .u8 (ordI)) 23)∧W.heap[gm]? = some (.cells (ints .i64 (ordI)) 3)∧W.heap[g9]? = some (.cells (ints .i64 (sh R (q+1))) 3)∧Ext w W) (fun (q:Nat)=>q) 33 ⟨kj,kj,kj,kj,kj,kj,kj,trivial⟩ ⟨(by omega),q3_1,q5_1,q7_1,(QaJ q9_1 (Qmo R)),xx1⟩ fun q X3 V3 hI=>?_
  obtain ⟨hq33,q3_3,q5_3,q7_3,q9_3,xx3⟩:=hI
  refine wp_seq_k fun K28 hK28=>sgB kj <| QaD (t:=decide (((q:Nat):Int)>0)) kj (fun c30=>?_) (fun c30=>?_)
  ·skip
   have hq0:0<q:=by have:=of_decide_eq_true c30; omega
   refine wp_skip <| hK28 _ _ <| wp_seq_k fun K31 hK31=>wp_block <| Qat <| sg 4 kj <| Qag (.int .i64 (((q-1:Nat):Int))) 32 rfl kj (Qam (u:=.int .i64 (IntKind.i64.wrap (((q:Nat):Int)-1))) kj (congrArg (Value.int .i64) (Qjv q hq0 (by omega)))) <| Qag (.pointer (some ⟨g9,(q-1),none⟩)) 33 rfl kj (QaT 100 _ _ .i64 (q-1) g9 34 34 3 rfl kj kj kj kj (by omega)) <| Qag (.int .i64 (Qax R (q-1))) 34 rfl kj (Qak 3 _ g9 (q-1) 3 _ (.int .i64 (Qax R (q-1))) _ q9_3 rfl kj ((Qar _ _ _ (Nat.lt_of_lt_of_eq (by omega) (Qk3 _ _).symm)).trans (congrArg (fun z=>some (Value.int .i64 z)) (QpU R _ _ (by omega) (by omega)))) kj) <| Qag (.pointer (some ⟨g9,q,none⟩)) 35 rfl kj (QaT 100 _ _ .i64 (q) g9 34 34 3 rfl kj kj kj kj (by omega)) ?_
   refine Qai g9 _ (ints .i64 ((sh R (q+1)).set q (Qax R (q-1)))) 3 q9_3 rfl kj (Qaz 3 _ _ g9 q 3 _ _ q9_3 rfl kj kj kj (Nat.lt_of_lt_of_eq (by omega) (Qk3 _ _).symm)) fun W9 p9 r9_9=>?_
   have x9:=Puts.ext p9 xx3 b9
   refine Qa7 <| hK31 _ _ <| Qat <| sg 1 kj <| Qag (.int .i64 (((q-1:Nat):Int))) 27 rfl kj (Qam (u:=.int .i64 (IntKind.i64.wrap (((q:Nat):Int)-1))) kj (congrArg (Value.int .i64) (Qjv q hq0 (by omega)))) <| sg 1 kj <| Qa7 ?_
   have r3_9:=(Puts.row p9 q3_3 n_3_9)
   have r5_9:=(Puts.row p9 q5_3 n_5_9)
   have r7_9:=(Puts.row p9 q7_3 n_7_9)
   repeat (first | with_reducible refine goX1 ?_ | with_reducible refine goX2 ?_ | with_reducible refine goX3 ?_)
   exact QaI (q-1) ⟨kj,kj,kj,kj,kj,kj,kj,trivial⟩ ⟨(by omega),r3_9,r5_9,r7_9,(QaJ r9_9 (Qom R q hq0 (by omega))),x9⟩ (by omega)
  ·skip
   have hq0:q=0:=by have:=of_decide_eq_false c30; omega
   subst hq0
   have hx0:0≤nth xs j∧nth xs j≤255:=hxb.nth j
   refine wp_exit <| hK26 _ _ <| sgC fun K32 hK32=>sg 3 kj <| Qag (.pointer (some ⟨gl,j,none⟩)) 39 rfl kj (QaT 100 _ _ .i64 (j) gl N N 3 rfl kj kj kj kj (by omega)) <| Qag (.int .i64 (nth (xs) j)) 40 rfl kj (Qak 3 _ gl j 3 _ (.int .i64 (nth (xs) j)) _ (Qaa hl xx3) rfl kj (Qar _ _ _ (Nat.lt_of_lt_of_eq (by omega) hx.symm)) kj) <| Qag (.pointer (some ⟨g9,0,none⟩)) 41 rfl kj (QaT 100 _ _ .i64 (0) g9 34 34 3 rfl kj kj kj kj (by decide)) <| Qai g9 _ (ints .i64 ((sh R (0+1)).set 0 (nth (xs) j))) 3 q9_3 rfl kj (Qaz 3 _ _ g9 0 3 _ _ q9_3 rfl kj kj kj (Nat.lt_of_lt_of_eq (by decide) (Qk3 _ _).symm)) fun W9 p9 r9_9=>?_
   have x9:=Puts.ext p9 xx3 b9
   refine sgN hK32 <| wp_block ?_
   have r3_9:=(Puts.row p9 q3_3 n_3_9)
   have r5_9:=(Puts.row p9 q5_3 n_5_9)
   have r7_9:=(Puts.row p9 q7_3 n_7_9)
   refine QaN (fun (V:Int)=>[(6,.int .i64 ((j:Nat):Int)),(0,.slice (some ⟨gl,0,none⟩) N N),(2,.pointer (some ⟨g3,0,none⟩)),(3,.pointer (some ⟨g5,0,none⟩)),(4,.slice (some ⟨gm,0,none⟩) 32 32),(5,.slice (some ⟨g9,0,none⟩) 34 34)]) (fun (V:Int) W=>(0≤V)∧(V%ordL=(256*R+nth xs j)%ordL)∧(V<256^34)∧W.heap[g3]? = some (.cells (ints .u8 (List.replicate 32 0)) 23)∧W.heap[g5]? = some (.cells (ints .u8 (ordI)) 23)∧W.heap[gm]? = some (.cells (ints .i64 (ordI)) 3)∧W.heap[g9]? = some (.cells (ints .i64 (dig V)) 3)∧Ext w W) (fun (V:Int)=>V.toNat) (256*R+nth xs j) ⟨kj,kj,kj,kj,kj,kj,trivial⟩ ⟨(by have:=hRS.1; omega),rfl,(Qoe hRS hx0),r3_9,r5_9,r7_9,(QaJ r9_9 (QpV R (nth xs j) hx0)),x9⟩ fun V X4 V4 hI=>?_
   obtain ⟨hV0,hVm,hV1,q3_4,q5_4,q7_4,q9_4,xx4⟩:=hI
   refine wp_seq_k fun K33 hK33=>sgC fun K34 hK34=>sg 2 kj <| Qap (.bool (decide (ordL≤V))) 90 #[.slice (some ⟨g9,0,none⟩) 34 34,.slice (some ⟨gm,0,none⟩) 32 32] 44 rfl kj kj ((QqE V hV0 hV1)▸(Qn8 _ _ (dig V) ordI (dig_len V) QcS (dig_bytes V) Qgn _ q9_4 q7_4)) fun W11 e11=>?_
   have x11:=Ext.tr xx4 e11
   refine sgN hK34 <| QaD (t:=decide (ordL≤V)) kj (fun c35=>?_) (fun c35=>?_)
   ·skip
    have hge:ordL≤V:=of_decide_eq_true c35
    refine wp_skip <| hK33 _ _ <| wp_block <| sgB kj <| sgB kj <| wp_block ?_
    have r3_11:=(Qaa q3_4 e11)
    have r5_11:=(Qaa q5_4 e11)
    have r7_11:=(Qaa q7_4 e11)
    have r9_11:=(Qaa q9_4 e11)
    refine QaN (fun (k:Nat)=>[(8,.int .i64 (bo V k)),(9,.int .i64 ((k:Nat):Int)),(6,.int .i64 ((j:Nat):Int)),(0,.slice (some ⟨gl,0,none⟩) N N),(2,.pointer (some ⟨g3,0,none⟩)),(3,.pointer (some ⟨g5,0,none⟩)),(4,.slice (some ⟨gm,0,none⟩) 32 32),(5,.slice (some ⟨g9,0,none⟩) 34 34)]) (fun (k:Nat) W=>(k≤34)∧W.heap[g3]? = some (.cells (ints .u8 (List.replicate 32 0)) 23)∧W.heap[g5]? = some (.cells (ints .u8 (ordI)) 23)∧W.heap[gm]? = some (.cells (ints .i64 (ordI)) 3)∧W.heap[g9]? = some (.cells (ints .i64 (sb V k)) 3)∧Ext w W) (fun (k:Nat)=>34-k) 0 ⟨(congrArg (Value.int .i64) (Qp3 V).symm),kj,kj,kj,kj,kj,kj,kj,trivial⟩ ⟨(by omega),r3_11,r5_11,r7_11,(QaJ r9_11 (Qmr V)),x11⟩ fun k X5 V5 hI=>?_
    obtain ⟨hk34,q3_5,q5_5,q7_5,q9_5,xx5⟩:=hI
    refine wp_seq_k fun K38 hK38=>sgB kj <| QaD (t:=decide (((k:Nat):Int)<34)) kj (fun c40=>?_) (fun c40=>?_)
    ·skip
     have hk:k<34:=by have:=of_decide_eq_true c40; omega
     have hbr:=Qcw V k
     have hbo:=Qj9 V k
     have hbl2:=Qcw ordL k
     refine wp_skip <| hK38 _ _ <| wp_seq_k fun K41 hK41=>wp_block <| sgC fun K42 hK42=>sg 2 kj <| Qag (.pointer (some ⟨g9,k,none⟩)) 51 rfl kj (QaT 100 _ _ .i64 (k) g9 34 34 3 rfl kj kj kj kj hk) <| Qag (.int .i64 (Qax V k)) 52 rfl kj (Qak 3 _ g9 k 3 _ (.int .i64 (Qax V k)) _ q9_5 rfl kj ((Qar _ _ _ (Nat.lt_of_lt_of_eq hk (Qht _ _).symm)).trans (congrArg (fun z=>some (Value.int .i64 z)) (Qqa V k hk))) kj) <| sg 1 kj <| Qag (.int .i64 (Qax V k-bo V k)) 54 rfl kj (Qam (u:=.int .i64 (IntKind.i64.wrap ((Qax V k)-(bo V k)))) kj (congrArg (Value.int .i64) (QeD _ (by omega)))) ?_
     refine sg 1 kj <| sgN hK42 <| wp_seq_k fun K43 hK43=>sgB kj <| QaD (t:=decide (((k:Nat):Int)<32)) kj (fun c45=>?_) (fun c45=>?_)
     ·skip
      have hk2:k<32:=by have:=of_decide_eq_true c45; omega
      have hdn:dn V k=Qax V k-bo V k-Qax ordL k:=rfl
      refine Qat <| sg 3 kj <| Qag (.pointer (some ⟨gm,k,none⟩)) 60 rfl kj (QaT 100 _ _ .i64 (k) gm 32 32 3 rfl kj kj kj kj (by omega)) <| Qag (.int .i64 (Qax ordL k)) 61 rfl kj (Qak 3 _ gm k 3 _ (.int .i64 (Qax ordL k)) _ q7_5 rfl kj ((Qar _ _ _ (Nat.lt_of_lt_of_eq (by omega) QcS.symm)).trans (congrArg (fun z=>some (Value.int .i64 z)) (QmN k hk2))) kj) <| Qag (.int .i64 (Qax V k-bo V k-Qax ordL k)) 62 rfl kj (Qam (u:=.int .i64 (IntKind.i64.wrap ((Qax V k-bo V k)-(Qax ordL k)))) kj (congrArg (Value.int .i64) (QeD _ (by omega)))) <| sg 1 kj <| Qa7 <| hK43 _ _ <| sgB kj <| wp_seq_k fun K47 hK47=>?_
      refine sgB kj <| QaD (t:=decide ((Qax V k-bo V k-Qax ordL k)<0)) kj (fun c49=>?_) (fun c49=>?_)
      ·skip
       have hneg:dn V k<0:=by rw [hdn]; exact of_decide_eq_true c49
       obtain ⟨hd1,hd2⟩:=Qj4 V k hneg
       rw [hdn] at hd1
       refine sgC fun K50 hK50=>sg 1 kj <| Qag (.int .i64 ((Qax V k-bo V k-Qax ordL k)+256)) 66 rfl kj (Qam (u:=.int .i64 (IntKind.i64.wrap ((Qax V k-bo V k-Qax ordL k)+256))) kj (congrArg (Value.int .i64) (QeD _ (by omega)))) <| sg 1 kj <| sgN hK50 <| sgA kj <| hK47 _ _ <| Qat <| sg 3 kj <| Qag (.pointer (some ⟨g9,k,none⟩)) 70 rfl kj (QaT 100 _ _ .i64 (k) g9 34 34 3 rfl kj kj kj kj hk) ?_
       refine Qai g9 _ (ints .i64 ((sb V k).set k ((Qax V k-bo V k-Qax ordL k)+256))) 3 q9_5 rfl kj (Qaz 3 _ _ g9 k 3 _ _ q9_5 rfl kj kj kj (Nat.lt_of_lt_of_eq hk (Qht _ _).symm)) fun W13 p13 r9_13=>?_
       have x13:=Puts.ext p13 xx5 b9
       refine Qa7 <| hK41 _ _ <| Qat <| sg 1 kj <| Qag (.int .i64 (((k+1:Nat):Int))) 48 rfl kj (Qam (u:=.int .i64 (IntKind.i64.wrap (((k:Nat):Int)+1))) kj (congrArg (Value.int .i64) (Qd3 k (by omega)))) <| sg 1 kj <| Qa7 ?_
       have r3_13:=(Puts.row p13 q3_5 n_3_9)
       have r5_13:=(Puts.row p13 q5_5 n_5_9)
       have r7_13:=(Puts.row p13 q7_5 n_7_9)
       repeat (first | with_reducible refine goX1 ?_ | with_reducible refine goX2 ?_ | with_reducible refine goX3 ?_)
       exact QaI (k+1) ⟨(congrArg (Value.int .i64) hd2.symm),kj,kj,kj,kj,kj,kj,kj,trivial⟩ ⟨(by omega),r3_13,r5_13,r7_13,(QaJ r9_13 (QgC V k hk _ hd1)),x13⟩ (by omega)
      ·skip
       have hneg:¬ dn V k<0:=by rw [hdn]; exact of_decide_eq_false c49
       obtain ⟨hd1,hd2⟩:=Qj3 V k hneg
       rw [hdn] at hd1
       refine wp_skip <| hK47 _ _ <| Qat <| sg 3 kj <| Qag (.pointer (some ⟨g9,k,none⟩)) 70 rfl kj (QaT 100 _ _ .i64 (k) g9 34 34 3 rfl kj kj kj kj hk) <| Qai g9 _ (ints .i64 ((sb V k).set k (Qax V k-bo V k-Qax ordL k))) 3 q9_5 rfl kj (Qaz 3 _ _ g9 k 3 _ _ q9_5 rfl kj kj kj (Nat.lt_of_lt_of_eq hk (Qht _ _).symm)) fun W13 p13 r9_13=>?_
       have x13:=Puts.ext p13 xx5 b9
       refine Qa7 <| hK41 _ _ <| Qat <| sg 1 kj <| Qag (.int .i64 (((k+1:Nat):Int))) 48 rfl kj (Qam (u:=.int .i64 (IntKind.i64.wrap (((k:Nat):Int)+1))) kj (congrArg (Value.int .i64) (Qd3 k (by omega)))) <| sg 1 kj <| Qa7 ?_
       have r3_13:=(Puts.row p13 q3_5 n_3_9)
       have r5_13:=(Puts.row p13 q5_5 n_5_9)
       have r7_13:=(Puts.row p13 q7_5 n_7_9)
       repeat (first | with_reducible refine goX1 ?_ | with_reducible refine goX2 ?_ | with_reducible refine goX3 ?_)
       exact QaI (k+1) ⟨(congrArg (Value.int .i64) hd2.symm),kj,kj,kj,kj,kj,kj,kj,trivial⟩ ⟨(by omega),r3_13,r5_13,r7_13,(QaJ r9_13 (QgC V k hk _ hd1)),x13⟩ (by omega)
     ·skip
      have hk2:32≤k:=by have:=of_decide_eq_false c45; omega
      have hdn:dn V k=Qax V k-bo V k:=by show _-Qax ordL k=_; rw [QmL k hk2]; omega
      refine wp_skip <| hK43 _ _ <| sgB kj <| wp_seq_k fun K52 hK52=>sgB kj <| QaD (t:=decide ((Qax V k-bo V k)<0)) kj (fun c54=>?_) (fun c54=>?_)
      ·skip
       have hneg:dn V k<0:=by rw [hdn]; exact of_decide_eq_true c54
       obtain ⟨hd1,hd2⟩:=Qj4 V k hneg
       rw [hdn] at hd1
       refine sgC fun K55 hK55=>sg 1 kj <| Qag (.int .i64 ((Qax V k-bo V k)+256)) 66 rfl kj (Qam (u:=.int .i64 (IntKind.i64.wrap ((Qax V k-bo V k)+256))) kj (congrArg (Value.int .i64) (QeD _ (by omega)))) <| sg 1 kj <| sgN hK55 <| sgA kj <| hK52 _ _ <| Qat <| sg 3 kj <| Qag (.pointer (some ⟨g9,k,none⟩)) 70 rfl kj (QaT 100 _ _ .i64 (k) g9 34 34 3 rfl kj kj kj kj hk) ?_
       refine Qai g9 _ (ints .i64 ((sb V k).set k ((Qax V k-bo V k)+256))) 3 q9_5 rfl kj (Qaz 3 _ _ g9 k 3 _ _ q9_5 rfl kj kj kj (Nat.lt_of_lt_of_eq hk (Qht _ _).symm)) fun W13 p13 r9_13=>?_
       have x13:=Puts.ext p13 xx5 b9
       refine Qa7 <| hK41 _ _ <| Qat <| sg 1 kj <| Qag (.int .i64 (((k+1:Nat):Int))) 48 rfl kj (Qam (u:=.int .i64 (IntKind.i64.wrap (((k:Nat):Int)+1))) kj (congrArg (Value.int .i64) (Qd3 k (by omega)))) <| sg 1 kj <| Qa7 ?_
       have r3_13:=(Puts.row p13 q3_5 n_3_9)
       have r5_13:=(Puts.row p13 q5_5 n_5_9)
       have r7_13:=(Puts.row p13 q7_5 n_7_9)
       repeat (first | with_reducible refine goX1 ?_ | with_reducible refine goX2 ?_ | with_reducible refine goX3 ?_)
       exact QaI (k+1) ⟨(congrArg (Value.int .i64) hd2.symm),kj,kj,kj,kj,kj,kj,kj,trivial⟩ ⟨(by omega),r3_13,r5_13,r7_13,(QaJ r9_13 (QgC V k hk _ hd1)),x13⟩ (by omega)
      ·skip
       have hneg:¬ dn V k<0:=by rw [hdn]; exact of_decide_eq_false c54
       obtain ⟨hd1,hd2⟩:=Qj3 V k hneg
       rw [hdn] at hd1
       refine wp_skip <| hK52 _ _ <| Qat <| sg 3 kj <| Qag (.pointer (some ⟨g9,k,none⟩)) 70 rfl kj (QaT 100 _ _ .i64 (k) g9 34 34 3 rfl kj kj kj kj hk) <| Qai g9 _ (ints .i64 ((sb V k).set k (Qax V k-bo V k))) 3 q9_5 rfl kj (Qaz 3 _ _ g9 k 3 _ _ q9_5 rfl kj kj kj (Nat.lt_of_lt_of_eq hk (Qht _ _).symm)) fun W13 p13 r9_13=>?_
       have x13:=Puts.ext p13 xx5 b9
       refine Qa7 <| hK41 _ _ <| Qat <| sg 1 kj <| Qag (.int .i64 (((k+1:Nat):Int))) 48 rfl kj (Qam (u:=.int .i64 (IntKind.i64.wrap (((k:Nat):Int)+1))) kj (congrArg (Value.int .i64) (Qd3 k (by omega)))) <| sg 1 kj <| Qa7 ?_
       have r3_13:=(Puts.row p13 q3_5 n_3_9)
       have r5_13:=(Puts.row p13 q5_5 n_5_9)
       have r7_13:=(Puts.row p13 q7_5 n_7_9)
       repeat (first | with_reducible refine goX1 ?_ | with_reducible refine goX2 ?_ | with_reducible refine goX3 ?_)
       exact QaI (k+1) ⟨(congrArg (Value.int .i64) hd2.symm),kj,kj,kj,kj,kj,kj,kj,trivial⟩ ⟨(by omega),r3_13,r5_13,r7_13,(QaJ r9_13 (QgC V k hk _ hd1)),x13⟩ (by omega)
    ·skip
     have hk:k=34:=by have:=of_decide_eq_false c40; omega
     subst hk
     refine wp_exit ?_
     repeat (first | with_reducible refine goX1 ?_ | with_reducible refine goX2 ?_ | with_reducible refine goX3 ?_)
     exact QaI (V-ordL) ⟨kj,kj,kj,kj,kj,kj,trivial⟩ ⟨(by omega),(by rw [←hVm,Int.sub_emod_right]),(QpL hV1),q3_5,q5_5,q7_5,(QaJ q9_5 (Qqb V)),xx5⟩ (QqU hge)
   ·skip
    have hlt:¬ ordL≤V:=of_decide_eq_false c35
    have hVT:redT xs N (N-j)=V:=by rw [hRT,←hVm]; exact Int.emod_eq_of_lt hV0 (by omega)
    refine wp_exit <| hK25 _ _ <| Qat <| sg 1 kj <| Qag (.int .i64 ((j:Int)-1)) 23 rfl kj (Qam (u:=.int .i64 (IntKind.i64.wrap (((j:Nat):Int)-1))) kj (congrArg (Value.int .i64) (Qd2 j (by omega)))) <| sg 1 kj <| Qa7 ?_
    have r3_11:=(Qaa q3_4 e11)
    have r5_11:=(Qaa q5_4 e11)
    have r7_11:=(Qaa q7_4 e11)
    have r9_11:=(Qaa q9_4 e11)
    repeat (first | with_reducible refine goX1 ?_ | with_reducible refine goX2 ?_ | with_reducible refine goX3 ?_)
    exact QaI j ⟨kj,kj,kj,kj,kj,kj,trivial⟩ ⟨(by omega),r3_11,r5_11,r7_11,(QaJ r9_11 (by rw [hVT]) ),x11⟩ (by omega)
end Go.Proofs.YtdoadngmgmdlbaaDoor.Field
end
section
namespace Go.Proofs.YtdoadngmgmdlbaaDoor.Field
open Go Go.RowKit
open Rely Auto
theorem Qgq (xs : List Int) (o a:Nat):∀ b,leAt xs o (a+b)=leAt xs o a+256^a*leAt xs (o+a) b
  | 0=>by simp [leAt]
  | b+1=>by
    rw [←Nat.add_assoc,leAt,Qgq xs o a b,leAt,Int.pow_add,Nat.add_assoc]
    grind
theorem Qlp (es : List Int) (hb:Qaj es) (n q:Nat) (hq:q<n):leAt es 0 n/256^q%256=nth es q:=by
  have hB:(0:Int)<256^q:=Int.pow_pos (by decide)
  have e:=Qgq es 0 q (n-q)
  rw [show q+(n-q)=n by omega,show n-q=(n-q-1)+1 by omega,QgX,Nat.zero_add] at e
  have r:=QbV es hb 0 q
  rw [e]
  generalize (256:Int)^q=B at *
  generalize leAt es 0 q=a at *
  generalize leAt es (q+1) (n-q-1)=c
  rw [Int.add_mul_ediv_left _ _ (Int.ne_of_gt hB),Int.ediv_eq_zero_of_lt r.1 r.2]
  have:=hb.nth q
  omega
theorem Qnd (m : Int) (r:Nat) (hr:r<8):m%256/2^r%2=m/2^r%2:=by
  rcases (by omega:r=0∨r=1∨r=2∨r=3∨r=4∨r=5∨r=6∨r=7) with rfl | rfl | rfl | rfl | rfl | rfl | rfl | rfl
  all_goals
    simp only [Int.reducePow]
    omega
theorem Qn6 (es : List Int) (hb:Qaj es) (n i:Nat) (hi:i<8*n):QcV es i=leAt es 0 n/2^i%2:=by
  unfold QcV
  rw [←Qlp es hb n (i/8) (by omega),Qnd _ _ (by omega),Int.ediv_ediv_of_nonneg (Int.pow_nonneg (by decide)),show (256:Int)=2^8 by decide,←Int.pow_mul,←Int.pow_add,show 8*(i/8)+i%8=i by omega]
def numS (es : List Int):Nat:=(leAt es 0 es.length).toNat
theorem QlU (es : List Int) (hb:Qaj es) (i:Nat) (hi:i<8*es.length):(if bitB es i=true then 1 else 0)=numS es/2^i%2:=by
  have h:=Qn6 es hb es.length i hi
  have hr:=QbV es hb 0 es.length
  have e:((numS es:Nat):Int)=leAt es 0 es.length:=by unfold numS; omega
  rw [←e] at h
  have h2:QcV es i=((numS es/2^i%2:Nat):Int):=by
    rw [h]; rw [Int.natCast_emod,Int.natCast_ediv,Int.natCast_pow]; rfl
  unfold bitB
  rw [h2]
  have:numS es/2^i%2<2:=Nat.mod_lt _ (by decide)
  rcases (by omega:numS es/2^i%2=0∨numS es/2^i%2=1) with q | q <;> rw [q] <;> rfl
theorem Qgx (es : List Int) (hb:Qaj es) (N:Nat) (hN:8*es.length=N):∀ k,k≤N→bval ((bitsS es).take k)=numS es/2^(N-k)
  | 0,_=>by
    have hr:=QbV es hb 0 es.length
    have h1:((numS es:Nat):Int)<((2^N:Nat):Int):=by
      have e:((2^N:Nat):Int)=256^es.length:=by
        rw [←hN,Int.natCast_pow,show (256:Int)=2^8 by decide,←Int.pow_mul]; rfl
      unfold numS
      rw [e]; omega
    have h2:numS es<2^N:=by omega
    rw [Nat.sub_zero,Nat.div_eq_of_lt h2]
    rfl
  | k+1,hk=>by
    have e:=Qgz es (N-1-k) (by omega)
    rw [hN,show N-(N-1-k)=k+1 by omega,show N-(N-1-k+1)=k by omega] at e
    rw [e,Qig,Qgx es hb N hN k (by omega),QlU es hb _ (by omega),show N-k=(N-1-k)+1 by omega,show N-(k+1)=N-1-k by omega,Nat.pow_succ,←Nat.div_div_eq_div_mul]
    omega
theorem Qox (bs : List Int) (hb:Qaj bs):resN bs=leAt bs 0 bs.length%ordL:=by
  unfold resN
  have h:=Qgx bs hb (8*bs.length) rfl (8*bs.length) (qR _)
  rw [List.take_of_length_le (by rw [QfX]; omega)] at h
  rw [QiW,h]
  have hr:=QbV bs hb 0 bs.length
  congr 1
  unfold numS
  simp
  omega
theorem nth_set_ne (xs : List Int) (i j:Nat) (v:Int) (h:i≠j):nth (xs.set i v) j=nth xs j:=by
  unfold nth
  rw [List.getD_eq_getElem?_getD,List.getD_eq_getElem?_getD,List.getElem?_set_ne h]
def Rows (za zb zc:List Int) (i:Nat) (ls:List Int):Prop :=
  leAt ls 0 66=leAt zc 0 32+leAt za 0 i*leAt zb 0 32∧∀ q,0≤nth ls q∧nth ls q≤255+65025*i
def mulR (za zb zc:List Int):Int:=(mulB (resN zb) (bitsB za)+resN zc)%ordL
end Go.Proofs.YtdoadngmgmdlbaaDoor.Field
end
section
namespace Go.Proofs.YtdoadngmgmdlbaaDoor.Field
open Go Go.RowKit
open Rely Auto
theorem bitsC (A : Option Addr) (n c:Nat) (bs:List Int) (hbl:bs.length=n) (hn:n≤1000) (hb:Qaj bs) (w:World)
    (hc:n=0∨∃ sb so,A=some ⟨sb,so,none⟩∧sb<w.heap.size∧∀ i,i<n→w.cell? ⟨sb,so+i,none⟩=some (.int .u8 (nth bs i))) :
    Calls Tryd.prog 38 #[.slice A n c] w (Ret w (.agg (ints .u8 (Qaq (resN bs))))):=by
  refine enter 6 [(0,.slice A n c)] Tryd.func38 rfl rfl kj rfl <| sgC fun K1 hK1=>Qah (ints .u8 (List.replicate 32 0)) 23 2 rfl kj kj fun g2 W1 l2 e1 r2_1=>?_
  have x1:=Ext.tr (Rely.Ext.refl w) e1
  refine sgN hK1 <| sgC fun K3 hK3=>sg 1 kj <| QbC (fun v W'=>Ext W1 W'∧∃ g,W1.heap.size≤g∧v=.slice (some ⟨g,0,none⟩) n n∧W'.heap[g]? = some (.cells (ints .i64 bs) 3)) 77 #[.slice A n c] 4 rfl kj kj ((Qq9 A n c bs hbl hn hb _ (Qia hc x1)).mono fun e w' ⟨v,h1,h2,h3⟩=>⟨v,h1,h2,h3⟩) fun v W2 h=>?_
  obtain ⟨e2,gi,li,rfl,r4_2⟩:=h
  refine Qap (.agg (ints .u8 (Qaq (leAt bs 0 n%ordL)))) 65 #[.slice (some ⟨gi,0,none⟩) n n] 5 rfl kj kj (Qoy _ n bs hbl hn hb _ r4_2) fun W3 e3=>?_
  have r2_3:=(Qaa (Qaa r2_1 e2) e3)
  refine Qai g2 _ (ints .u8 (Qaq (leAt bs 0 n%ordL))) 23 r2_3 rfl kj (Qaf 23 _ _ g2 23 _ _ r2_3 rfl kj kj (isz (n:=32) kj ((Qad _ _).trans (bytes_len _))) (eqsz (n:=32) ((Qad _ _).trans zlen) ((Qad _ _).trans (bytes_len _))) (ints_one _ _)) fun W4 p4 r2_4=>sgN hK3 <| wp_ret ?_
  exact (show bodyPost _ _ _ .ret _ _ from ret1 (.agg (ints .u8 (Qaq (leAt bs 0 n%ordL)))) rfl (Qa8 g2 23 _ r2_4 kj kj (isz (n:=32) kj ((Qad _ _).trans (bytes_len _)))) ⟨by rw [Qox bs hb,hbl],(Puts.ext p4 (Ext.tr (Ext.tr x1 e2) e3) (qT (Rely.Ext.refl w).size l2))⟩)
end Go.Proofs.YtdoadngmgmdlbaaDoor.Field
end
section
namespace Go.Proofs.YtdoadngmgmdlbaaDoor.Sgn
open Go Go.RowKit
open Rely Auto Own Sha5
open Ladder (clamp)
open Field (Qaq resN numA num lims Qca ordL Qb6 QbN QbM Qbc encP Qbs pa Qdn pAdd pNeg mulP QcO okK xK zK mulR BP Qcb numB nmul OnP QcL)
@[irreducible] def secV (xs : List Int) : List Int := clamp ((dig xs).take 32)
@[irreducible] def preV (xs : List Int) : List Int := (dig xs).drop 32
@[irreducible] def pubV (xs : List Int) : List Int := encP (pa (secV xs))
@[irreducible] def resV (t : List Int) : List Int := Qaq (resN (dig t))
@[irreducible] def sgR (xs t : List Int) : List Int := resV (preV xs ++ t)
@[irreducible] def sgF (xs t : List Int) : List Int := encP (pa (sgR xs t))
@[irreducible] def sgK (xs t : List Int) : List Int := resV (sgF xs t ++ pubV xs ++ t)
@[irreducible] def sgS (xs t : List Int) : List Int := Qaq (mulR (sgK xs t) (secV xs) (sgR xs t))
@[irreducible] def sigV (xs t : List Int) : List Int := sgF xs t ++ sgS xs t
@[irreducible] def eqV (p f s k : List Int) : List Int := encP (pAdd (pa s) (pNeg (mulP p k)))
def canV (s : List Int):Bool:=decide (Qaq (resN s)=s)
@[irreducible] def verV (p s t : List Int) : Bool := canV (s.drop 32) && (okK p && decide (eqV p (s.take 32) (s.drop 32) (resV (s.take 32 ++ p ++ t)) = s.take 32))
theorem QiG {xs : List Int} (h:Qaj xs):Qaj (clamp xs):=by
  have a0:=h.nth 0
  have a31:=h.nth 31
  intro x hx
  unfold clamp at hx
  rcases List.mem_or_eq_of_mem_set hx with hx | hx
  · rcases List.mem_or_eq_of_mem_set hx with hx | hx
    · exact h x hx
    · omega
  · omega
theorem Qcm (xs : List Int):(secV xs).length=32:=by unfold secV; exact QeI (Qbl (dig_len xs))
theorem QcX (xs : List Int):Qaj (secV xs):=by unfold secV; exact QiG (Qez (dig_bytes xs))
theorem Qdh (xs : List Int):(preV xs).length=32:=by unfold preV; exact Qbf (dig_len xs)
theorem Qdk {xs : List Int} (h:Qaj xs) (n:Nat):Qaj (xs.drop n):=fun x hx=>h x (List.mem_of_mem_drop hx)
theorem QjW (xs : List Int):Qaj (preV xs):=by unfold preV; exact Qdk (dig_bytes xs) 32
theorem Qgt {P : Int×Int} (h:OnP P):Qaj (encP P):=Field.enc_bytes h.y
theorem Qbp (xs : List Int):(pubV xs).length=32:=by unfold pubV; exact Qbs _
theorem Qcu (xs : List Int):Qaj (pubV xs):=by unfold pubV; exact Qgt (Qdn _)
theorem QbY (t : List Int):(resV t).length=32:=by unfold resV; exact bytesOf_len _
theorem Qdp (t : List Int):Qaj (resV t):=by unfold resV; exact Qbc _
theorem QeM (xs t:List Int):(sgR xs t).length=32:=by unfold sgR; exact QbY _
theorem Qe4 (xs t:List Int):Qaj (sgR xs t):=by unfold sgR; exact Qdp _
theorem QcC (xs t:List Int):(sgF xs t).length=32:=by unfold sgF; exact Qbs _
theorem Qhr (xs t:List Int):Qaj (sgF xs t):=by unfold sgF; exact Qgt (Qdn _)
theorem Qk5 (xs t:List Int):(sgK xs t).length=32:=by unfold sgK; exact QbY _
theorem Qf5 (xs t:List Int):Qaj (sgK xs t):=by unfold sgK; exact Qdp _
theorem Qf4 (xs t:List Int):(sgS xs t).length=32:=by unfold sgS; exact bytesOf_len _
theorem Qk4 (xs t:List Int):Qaj (sgS xs t):=by unfold sgS; exact Qbc _
theorem Qbu (xs t:List Int):(sigV xs t).length=64:=by unfold sigV; rw [List.length_append,QcC,Qf4]
theorem QcB (xs t:List Int):Qaj (sigV xs t):=by
  unfold sigV
  intro x hx
  rcases List.mem_append.1 hx with h | h
  · exact Qhr xs t x h
  · exact Qk4 xs t x h
theorem Qhp (xs t:List Int):(sigV xs t).take 32=sgF xs t:=by unfold sigV; exact List.take_left' (QcC xs t)
theorem Qhq (xs t:List Int):(sigV xs t).drop 32=sgS xs t:=by unfold sigV; exact List.drop_left' (QcC xs t)
theorem Qjt (a b c:List Int):Field.isS (mulR a b c):=Field.isS_mod _
theorem Qj8 (xs t:List Int):canV (sgS xs t)=true:=by
  unfold canV sgS
  refine decide_eq_true ?_
  have h:=Qjt (sgK xs t) (secV xs) (sgR xs t)
  rw [Field.resN_32 _ (bytesOf_len _) (Qbc _),Field.numB_bytes h,Int.toNat_of_nonneg h.1,Field.isS_self h]
theorem QnM (xs t:List Int):pa (sgS xs t)=pAdd (nmul (numB (sgK xs t)*numB (secV xs)) BP) (pa (sgR xs t)):=by
  unfold sgS pa
  rw [Field.climb_num Qcb _ (Qbc _),Field.numB_bytes (Qjt _ _ _)]
  unfold mulR
  rw [Field.mulAdd_val _ _ _ (Qf5 xs t) (Qcm xs) (QcX xs) (QeM xs t) (Qe4 xs t),Field.climb_num Qcb _ (Qe4 xs t),←Field.nmul_add Qcb]
  have e2:((((numB (sgK xs t):Int)*numB (secV xs)+numB (sgR xs t))%ordL)).toNat=(numB (sgK xs t)*numB (secV xs)+numB (sgR xs t))%ordL.toNat:=by
    have hL:((ordL.toNat:Nat):Int)=ordL:=by decide
    rw [←hL,←Int.natCast_mul,←Int.natCast_add,←Int.natCast_emod,Int.toNat_natCast]
    rfl
  rw [e2,Field.nmul_mod Qcb _ Field.order_mul]
theorem Qha (xs : List Int):okK (pubV xs)=true∧(xK (pubV xs),zK (pubV xs))=pa (secV xs):=by
  unfold pubV
  obtain ⟨h1,h2,h3⟩:=Field.from_enc (Qdn (secV xs))
  exact ⟨h1,by rw [h2,h3]⟩
theorem Qjj (xs k:List Int) (hk:Qaj k):mulP (pubV xs) k=nmul (numB k*numB (secV xs)) BP:=by
  unfold mulP
  rw [(Qha xs).2,Field.climb_num (Qdn _) _ hk]
  unfold pa
  rw [Field.climb_num Qcb _ (QcX xs),←Field.nmul_mul Qcb]
theorem Qnu (xs t:List Int):eqV (pubV xs) (sgF xs t) (sgS xs t) (sgK xs t)=sgF xs t:=by
  unfold eqV
  rw [Qjj xs _ (Qf5 xs t),QnM]
  have hA:OnP (nmul (numB (sgK xs t)*numB (secV xs)) BP):=Field.nmul_on Qcb _
  have hR:=Qdn (sgR xs t)
  rw [Field.pAdd_comm (nmul _ BP) (pa _),Field.pAdd_assoc hR hA (Field.pNeg_on hA),Field.pAdd_neg hA,Field.pAdd_zero hR]
  unfold sgF
  rfl
theorem Qkz (xs t:List Int):verV (pubV xs) (sigV xs t) t=true:=by
  unfold verV
  rw [Qhp,Qhq,Qj8,(Qha xs).1]
  have e:resV (sgF xs t++pubV xs++t)=sgK xs t:=by unfold sgK; rfl
  rw [e,Qnu,decide_eq_true rfl]
  rfl
end Go.Proofs.YtdoadngmgmdlbaaDoor.Sgn
end
