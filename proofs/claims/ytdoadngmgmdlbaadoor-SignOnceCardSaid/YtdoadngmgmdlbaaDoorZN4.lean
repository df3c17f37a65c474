/- Texts of this claim, joined (N4). -/
import Derived.Test.YtdoadngmgmdlbaaDoorZN3
import Derived.WalkKit
import Derived.Great.BuildSlice

set_option linter.unusedVariables false
set_option linter.unusedSimpArgs false
set_option maxHeartbeats 4000000
section
namespace Go.Proofs.YtdoadngmgmdlbaaDoor.Field
open Go Go.RowKit
open Rely Auto
theorem shr7 (v : Int):v.fdiv (2^min (7:Int).toNat IntKind.u8.bits)=v/128:=by
  show Int.fdiv v 128=v/128
  exact Int.fdiv_eq_ediv_of_nonneg v (by decide)
theorem Qo5 (xs ys:List Int) (hx:xs.length=32) (hb:Qal xs) (ys_len:ys.length=32) (s0:Int) (ho:(nth xs 31/128==1)=false) (hc:decide (ys=(xs).set 31 (nth xs 31%128))=false)
    (c0:∀ W,Calls Tryd.prog 44 #[.agg (ints .u8 ((xs).set 31 (nth xs 31%128)))] W (Ret W (.agg (numA (s0)))))
    (cb:∀ W,Calls Tryd.prog 50 #[.agg (numA (s0))] W (Ret W (.agg (ints .u8 ys))))
    (w:World) (tB:TypeId) (hB:w.heap[2]? = some (.cells (ints .u8 Qb0) tB)):Calls Tryd.prog 34 #[.agg (ints .u8 (xs))] w (Ret w (.tuple #[.agg (cat [numA (0),numA (0)]),.bool false])):=by
  refine enter 63 [(0,.agg (ints .u8 (xs)))] Tryd.func34 rfl rfl kj rfl ?_
  refine wp_seq_k fun K2 hK2=>?_
  refine Qac ?_
  refine Qaj (ints .u8 (xs)) 23 1 rfl kj kj fun g3 W1 l3 e1 r3_1=>?_
  have x1:Ext w W1:=Ext.tr (Rely.Ext.refl w) e1
  have b3:w.heap.size≤g3:=qT (Rely.Ext.refl w).size l3
  refine Qaj (cat [numA (0),numA (0)]) 51 2 rfl kj kj fun g4 W2 l4 e2 r4_2=>?_
  have x2:Ext w W2:=Ext.tr x1 e2
  have b4:w.heap.size≤g4:=qT x1.size l4
  refine Qab (.bool false) 3 rfl kj kj ?_
  refine Qaf ?_
  refine hK2 _ _ ?_
  refine wp_seq_k fun K5 hK5=>?_
  refine Qac ?_
  refine Qab (.pointer (some ⟨g3,31,none⟩)) 11 rfl kj kj ?_
  have r3_2:=(Qaa r3_1 e2)
  refine Qab (.int .u8 (nth (xs) 31)) 12 rfl kj (Qam 5 _ g3 31 23 _ (.int .u8 (nth (xs) 31)) _ r3_2 rfl kj (Qas _ _ _ (Nat.lt_of_lt_of_eq (by decide) hx.symm)) kj) ?_
  refine Qab (.int .u8 (nth xs 31/128)) 13 rfl kj (Qbp .shr _ _ _ _ .u8 .u64 _ _ _ rfl kj kj (QcY _ _ _ _ _ _ (show (0:Int)≤7 by decide) (shr7 _))) ?_
  refine Qab (.bool false) 14 rfl kj (Qan (u:=.bool (((nth xs 31/128)==1))) kj (congrArg Value.bool ho)) ?_
  refine Qab (.bool false) 4 rfl kj kj ?_
  refine Qaf ?_
  refine hK5 _ _ ?_
  refine wp_seq_k fun K6 hK6=>?_
  refine Qac ?_
  refine Qab (.pointer (some ⟨g3,31,none⟩)) 15 rfl kj kj ?_
  refine Qab (.int .u8 (nth (xs) 31)) 16 rfl kj (Qam 5 _ g3 31 23 _ (.int .u8 (nth (xs) 31)) _ r3_2 rfl kj (Qas _ _ _ (Nat.lt_of_lt_of_eq (by decide) hx.symm)) kj) ?_
  refine Qab (.int .u8 (nth xs 31%128)) 17 rfl kj (Qan (u:=.int .u8 (bits .and .u8 ((nth (xs) 31)) (127))) kj (congrArg (Value.int .u8) (QfS _ (hb.nth 31)))) ?_
  refine Qab (.pointer (some ⟨g3,31,none⟩)) 18 rfl kj kj ?_
  refine Qak g3 _ (ints .u8 ((xs).set 31 (nth xs 31%128))) 23 r3_2 rfl kj (Qa1 5 _ _ g3 31 23 _ _ r3_2 rfl kj kj kj (Nat.lt_of_lt_of_eq (show 31<32 by decide) hx.symm)) fun W3 p3 r3_3=>?_
  have x3:Ext w W3:=Puts.ext p3 x2 b3
  refine Qaf ?_
  refine hK6 _ _ ?_
  refine wp_seq_k fun K7 hK7=>?_
  refine Qac ?_
  refine Qab (.agg (ints .u8 ((xs).set 31 (nth xs 31%128)))) 19 rfl kj (Qag 23 _ g3 23 _ _ r3_3 rfl kj kj (isz (n:=32) kj ((Qae _ _).trans ((List.length_set ..).trans hx)))) ?_
  refine Qar (.agg (numA (s0))) 44 #[.agg (ints .u8 ((xs).set 31 (nth xs 31%128)))] 20 rfl kj kj (c0 _) fun W4 e4=>?_
  have x4:Ext w W4:=Ext.tr x3 e4
  refine Qaj (numA (0)) 49 5 rfl kj kj fun g8 W5 l8 e5 r8_5=>?_
  have x5:Ext w W5:=Ext.tr x4 e5
  have b8:w.heap.size≤g8:=qT x4.size l8
  refine Qak g8 _ (numA (s0)) 49 r8_5 rfl kj (Qah 49 _ _ g8 49 _ _ r8_5 rfl kj kj (isz (n:=4) kj kj) (eqsz (n:=4) kj kj) kj) fun W6 p6 r8_6=>?_
  have x6:Ext w W6:=Puts.ext p6 x5 b8
  refine Qaf ?_
  refine hK7 _ _ ?_
  refine wp_seq_k fun K9 hK9=>?_
  refine wp_seq_k fun K10 hK10=>?_
  refine QaK 4 [⟨none,[(5,none)]⟩,⟨none,[(21,some 0)]⟩,⟨none,[(1,none)]⟩,⟨none,[(22,some 1),(23,some 2)]⟩] kj kj fun F hF=>?_
  refine Qaq (.agg (numA (s0))) kj kj (fun W hR=>(Qag 49 _ g8 49 _ _ (Qaa (Qaa r8_6 (Qai _)) hR) rfl kj kj (isz (n:=4) kj kj))) ?_
  refine Qau (.agg (ints .u8 (ys))) 50 #[.agg (numA (s0))] kj kj (fun W=>kj) (fun W hR=>cb W) ?_
  have r3_4:=(Qaa r3_3 e4)
  have r3_6:=(Puts.row p6 (Qaa (Qaa r3_3 e4) e5) (Qad r3_4 l8))
  refine Qaq (.agg (ints .u8 ((xs).set 31 (nth xs 31%128)))) kj kj (fun W hR=>(Qag 23 _ g3 23 _ _ (Qaa (Qaa r3_6 (Qai _)) hR) rfl kj kj (isz (n:=32) kj ((Qae _ _).trans ((List.length_set ..).trans hx))))) ?_
  refine Qav (.bool true) kj kj (fun W=>(Qct 23 _ _ _ _ _ (.bool true) rfl kj kj kj (Qef _ _ false ys_len (by rw [List.length_set]; exact hx) hc _))) ?_
  refine Qa9 (hF _ kj fun W7 e7=>?_)
  simp only [ups,up,Kn.val,List.take_succ_cons,List.take_zero,List.drop_succ_cons,List.drop_zero,List.nil_append,List.cons_append]
  clear hF
  have x7:Ext w W7:=Ext.tr x6 e7
  refine Qaf ?_
  refine hK10 _ _ ?_
  refine cond_true kj ?_
  refine wp_seq_k fun K11 hK11=>?_
  refine Qac ?_
  refine Qab (.agg (cat [numA (0),numA (0)])) 25 rfl kj kj ?_
  have r4_4:=(Qaa (Puts.row p3 r4_2 (Qat r3_1 l4)) e4)
  have r4_7:=(Qaa (Puts.row p6 (Qaa (Qaa (Puts.row p3 r4_2 (Qat r3_1 l4)) e4) e5) (Qad r4_4 l8)) e7)
  refine Qak g4 _ (cat [numA (0),numA (0)]) 51 r4_7 rfl kj (Qah 51 _ _ g4 51 _ _ r4_7 rfl kj kj (isz (n:=8) kj kj) (eqsz (n:=8) kj kj) kj) fun W8 p8 r4_8=>?_
  have x8:Ext w W8:=Puts.ext p8 x7 b4
  refine Qab (.bool false) 3 rfl kj kj ?_
  refine Qaf ?_
  refine hK11 _ _ ?_
  refine wp_ret ?_
  exact (show bodyPost _ _ _ .ret _ _ from ret2 (.agg (cat [numA (0),numA (0)])) (.bool false) rfl (QaC g4 51 _ r4_8 kj kj (isz (n:=8) kj kj)) (Qbr kj) ⟨rfl,x8⟩)
theorem Qo4 (xs ys:List Int) (hx:xs.length=32) (hb:Qal xs) (ys_len:ys.length=32) (s0 s1 s2 s3 s4 s5 s6 r:Int) (ho:(nth xs 31/128==1)=false) (hc:decide (ys=(xs).set 31 (nth xs 31%128))=true)
    (c0:∀ W,Calls Tryd.prog 44 #[.agg (ints .u8 ((xs).set 31 (nth xs 31%128)))] W (Ret W (.agg (numA (s0)))))
    (c1:∀ W,Calls Tryd.prog 66 #[.agg (numA (s0)),.agg (numA (s0))] W (Ret W (.agg (numA (s1)))))
    (c2:∀ W,Calls Tryd.prog 66 #[.agg (numA (s1)),.agg (numA (dN))] W (Ret W (.agg (numA (s2)))))
    (c3:∀ W,Calls Tryd.prog 68 #[.agg (numA (s2)),.agg (numA (1))] W (Ret W (.agg (numA (s3)))))
    (c4:∀ W,Calls Tryd.prog 69 #[.agg (numA (s1)),.agg (numA (1))] W (Ret W (.agg (numA (s4)))))
    (c5:∀ W,Calls Tryd.prog 70 #[.agg (numA (s3))] W (Ret W (.agg (numA (s5)))))
    (c6:∀ W,Calls Tryd.prog 66 #[.agg (numA (s4)),.agg (numA (s5))] W (Ret W (.agg (numA (s6)))))
    (cb:∀ W,Calls Tryd.prog 50 #[.agg (numA (s0))] W (Ret W (.agg (ints .u8 ys))))
    (cr:∀ W,Calls Tryd.prog 71 #[.agg (numA (s6))] W (Ret W (.tuple #[.agg (numA (r)),.bool false])))
    (w:World) (tB:TypeId) (hB:w.heap[2]? = some (.cells (ints .u8 Qb0) tB)):Calls Tryd.prog 34 #[.agg (ints .u8 (xs))] w (Ret w (.tuple #[.agg (cat [numA (0),numA (0)]),.bool false])):=by
  refine enter 63 [(0,.agg (ints .u8 (xs)))] Tryd.func34 rfl rfl kj rfl ?_
  refine wp_seq_k fun K2 hK2=>?_
  refine Qac ?_
  refine Qaj (ints .u8 (xs)) 23 1 rfl kj kj fun g3 W1 l3 e1 r3_1=>?_
  have x1:Ext w W1:=Ext.tr (Rely.Ext.refl w) e1
  have b3:w.heap.size≤g3:=qT (Rely.Ext.refl w).size l3
  refine Qaj (cat [numA (0),numA (0)]) 51 2 rfl kj kj fun g4 W2 l4 e2 r4_2=>?_
  have x2:Ext w W2:=Ext.tr x1 e2
  have b4:w.heap.size≤g4:=qT x1.size l4
  refine Qab (.bool false) 3 rfl kj kj ?_
  refine Qaf ?_
  refine hK2 _ _ ?_
  refine wp_seq_k fun K5 hK5=>?_
  refine Qac ?_
  refine Qab (.pointer (some ⟨g3,31,none⟩)) 11 rfl kj kj ?_
  have r3_2:=(Qaa r3_1 e2)
  refine Qab (.int .u8 (nth (xs) 31)) 12 rfl kj (Qam 5 _ g3 31 23 _ (.int .u8 (nth (xs) 31)) _ r3_2 rfl kj (Qas _ _ _ (Nat.lt_of_lt_of_eq (by decide) hx.symm)) kj) ?_
  refine Qab (.int .u8 (nth xs 31/128)) 13 rfl kj (Qbp .shr _ _ _ _ .u8 .u64 _ _ _ rfl kj kj (QcY _ _ _ _ _ _ (show (0:Int)≤7 by decide) (shr7 _))) ?_
  refine Qab (.bool false) 14 rfl kj (Qan (u:=.bool (((nth xs 31/128)==1))) kj (congrArg Value.bool ho)) ?_
  refine Qab (.bool false) 4 rfl kj kj ?_
  refine Qaf ?_
  refine hK5 _ _ ?_
  refine wp_seq_k fun K6 hK6=>?_
  refine Qac ?_
  refine Qab (.pointer (some ⟨g3,31,none⟩)) 15 rfl kj kj ?_
  refine Qab (.int .u8 (nth (xs) 31)) 16 rfl kj (Qam 5 _ g3 31 23 _ (.int .u8 (nth (xs) 31)) _ r3_2 rfl kj (Qas _ _ _ (Nat.lt_of_lt_of_eq (by decide) hx.symm)) kj) ?_
  refine Qab (.int .u8 (nth xs 31%128)) 17 rfl kj (Qan (u:=.int .u8 (bits .and .u8 ((nth (xs) 31)) (127))) kj (congrArg (Value.int .u8) (QfS _ (hb.nth 31)))) ?_
  refine Qab (.pointer (some ⟨g3,31,none⟩)) 18 rfl kj kj ?_
  refine Qak g3 _ (ints .u8 ((xs).set 31 (nth xs 31%128))) 23 r3_2 rfl kj (Qa1 5 _ _ g3 31 23 _ _ r3_2 rfl kj kj kj (Nat.lt_of_lt_of_eq (show 31<32 by decide) hx.symm)) fun W3 p3 r3_3=>?_
  have x3:Ext w W3:=Puts.ext p3 x2 b3
  refine Qaf ?_
  refine hK6 _ _ ?_
  refine wp_seq_k fun K7 hK7=>?_
  refine Qac ?_
  refine Qab (.agg (ints .u8 ((xs).set 31 (nth xs 31%128)))) 19 rfl kj (Qag 23 _ g3 23 _ _ r3_3 rfl kj kj (isz (n:=32) kj ((Qae _ _).trans ((List.length_set ..).trans hx)))) ?_
  refine Qar (.agg (numA (s0))) 44 #[.agg (ints .u8 ((xs).set 31 (nth xs 31%128)))] 20 rfl kj kj (c0 _) fun W4 e4=>?_
  have x4:Ext w W4:=Ext.tr x3 e4
  refine Qaj (numA (0)) 49 5 rfl kj kj fun g8 W5 l8 e5 r8_5=>?_
  have x5:Ext w W5:=Ext.tr x4 e5
  have b8:w.heap.size≤g8:=qT x4.size l8
  refine Qak g8 _ (numA (s0)) 49 r8_5 rfl kj (Qah 49 _ _ g8 49 _ _ r8_5 rfl kj kj (isz (n:=4) kj kj) (eqsz (n:=4) kj kj) kj) fun W6 p6 r8_6=>?_
  have x6:Ext w W6:=Puts.ext p6 x5 b8
  refine Qaf ?_
  refine hK7 _ _ ?_
  refine wp_seq_k fun K9 hK9=>?_
  refine wp_seq_k fun K10 hK10=>?_
  refine QaK 4 [⟨none,[(5,none)]⟩,⟨none,[(21,some 0)]⟩,⟨none,[(1,none)]⟩,⟨none,[(22,some 1),(23,some 2)]⟩] kj kj fun F hF=>?_
  refine Qaq (.agg (numA (s0))) kj kj (fun W hR=>(Qag 49 _ g8 49 _ _ (Qaa (Qaa r8_6 (Qai _)) hR) rfl kj kj (isz (n:=4) kj kj))) ?_
  refine Qau (.agg (ints .u8 (ys))) 50 #[.agg (numA (s0))] kj kj (fun W=>kj) (fun W hR=>cb W) ?_
  have r3_4:=(Qaa r3_3 e4)
  have r3_6:=(Puts.row p6 (Qaa (Qaa r3_3 e4) e5) (Qad r3_4 l8))
  refine Qaq (.agg (ints .u8 ((xs).set 31 (nth xs 31%128)))) kj kj (fun W hR=>(Qag 23 _ g3 23 _ _ (Qaa (Qaa r3_6 (Qai _)) hR) rfl kj kj (isz (n:=32) kj ((Qae _ _).trans ((List.length_set ..).trans hx))))) ?_
  refine Qav (.bool false) kj kj (fun W=>(Qct 23 _ _ _ _ _ (.bool false) rfl kj kj kj (Qef _ _ true ys_len (by rw [List.length_set]; exact hx) hc _))) ?_
  refine Qa9 (hF _ kj fun W7 e7=>?_)
  simp only [ups,up,Kn.val,List.take_succ_cons,List.take_zero,List.drop_succ_cons,List.drop_zero,List.nil_append,List.cons_append]
  clear hF
  have x7:Ext w W7:=Ext.tr x6 e7
  refine Qaf ?_
  refine hK10 _ _ ?_
  refine cond_false kj ?_
  refine wp_skip ?_
  refine hK9 _ _ ?_
  refine wp_seq_k fun K11 hK11=>?_
  refine Qac ?_
  have r8_7:=(Qaa r8_6 e7)
  refine Qab (.agg (numA (s0))) 26 rfl kj (Qag 49 _ g8 49 _ _ r8_7 rfl kj kj (isz (n:=4) kj kj)) ?_
  refine Qab (.agg (numA (s0))) 27 rfl kj (Qag 49 _ g8 49 _ _ r8_7 rfl kj kj (isz (n:=4) kj kj)) ?_
  refine Qar (.agg (numA (s1))) 66 #[.agg (numA (s0)),.agg (numA (s0))] 28 rfl kj kj (c1 _) fun W8 e8=>?_
  have x8:Ext w W8:=Ext.tr x7 e8
  refine Qar (.agg (numA (1))) 67 #[.int .i64 1] 29 rfl kj kj ((Qd6 1 (by decide)) _) fun W9 e9=>?_
  have x9:Ext w W9:=Ext.tr x8 e9
  refine Qaj (numA (0)) 49 6 rfl kj kj fun g12 W10 l12 e10 r12_10=>?_
  have x10:Ext w W10:=Ext.tr x9 e10
  have b12:w.heap.size≤g12:=qT x9.size l12
  refine Qaj (numA (0)) 49 7 rfl kj kj fun g13 W11 l13 e11 r13_11=>?_
  have x11:Ext w W11:=Ext.tr x10 e11
  have b13:w.heap.size≤g13:=qT x10.size l13
  have r12_11:=(Qaa r12_10 e11)
  refine Qak g12 _ (numA (s1)) 49 r12_11 rfl kj (Qah 49 _ _ g12 49 _ _ r12_11 rfl kj kj (isz (n:=4) kj kj) (eqsz (n:=4) kj kj) kj) fun W12 p12 r12_12=>?_
  have x12:Ext w W12:=Puts.ext p12 x11 b12
  have r13_12:=(Puts.row p12 r13_11 (Qat r12_10 l13))
  refine Qak g13 _ (numA (1)) 49 r13_12 rfl kj (Qah 49 _ _ g13 49 _ _ r13_12 rfl kj kj (isz (n:=4) kj kj) (eqsz (n:=4) kj kj) kj) fun W13 p13 r13_13=>?_
  have x13:Ext w W13:=Puts.ext p13 x12 b13
  refine Qaf ?_
  refine hK11 _ _ ?_
  refine wp_seq_k fun K14 hK14=>?_
  refine Qbd 7 [⟨none,[(6,none)]⟩,⟨none,[]⟩,⟨none,[(31,some 1)]⟩,⟨none,[(30,some 0),(32,some 2)]⟩,⟨none,[(7,none)]⟩,⟨none,[(33,some 3),(34,some 4)]⟩,⟨none,[]⟩] [6] kj kj kj fun F hF=>?_
  have r12_13:=(Puts.row p13 r12_12 (Qad r12_10 l13))
  refine Qaq (.agg (numA (s1))) kj kj (fun W hR=>(Qag 49 _ g12 49 _ _ (Qaa (Qaa r12_13 (Qai _)) hR) rfl kj kj (isz (n:=4) kj kj))) ?_
  have r1_4:=(Qaa (Puts.row p3 (Qaa (Qaa hB e1) e2) (Qad hB l3)) e4)
  have r1_9:=(Qaa (Qaa (Qaa (Puts.row p6 (Qaa r1_4 e5) (Qad r1_4 l8)) e7) e8) e9)
  have r1_10:=(Qaa r1_9 e10)
  have r1_13:=(Puts.row p13 (Puts.row p12 (Qaa (Qaa (Qaa (Qaa (Qaa (Puts.row p6 (Qaa (Qaa (Puts.row p3 (Qaa (Qaa hB e1) e2) (Qad hB l3)) e4) e5) (Qad r1_4 l8)) e7) e8) e9) e10) e11) (Qad r1_9 l12)) (Qad r1_10 l13))
  refine Qaq (.agg (ints .u8 (Qb0))) kj kj (fun W hR=>(Qag 23 _ 2 tB _ _ (Qaa (Qaa r1_13 (Qai _)) hR) rfl kj kj (isz (n:=32) kj ((Qae _ _).trans (by decide))))) ?_
  refine Qau (.agg (numA (dN))) 44 #[.agg (ints .u8 (Qb0))] kj kj (fun W=>kj) (fun W hR=>QfG W) ?_
  refine Qau (.agg (numA (s2))) 66 #[.agg (numA (s1)),.agg (numA (dN))] kj kj (fun W=>kj) (fun W hR=>c2 W) ?_
  refine Qaq (.agg (numA (1))) kj kj (fun W hR=>(Qag 49 _ g13 49 _ _ (Qaa (Qaa r13_13 (Qai _)) hR) rfl kj kj (isz (n:=4) kj kj))) ?_
  refine Qau (.agg (numA (s3))) 68 #[.agg (numA (s2)),.agg (numA (1))] kj kj (fun W=>kj) (fun W hR=>c3 W) ?_
  refine QbN (numA (0)) 49 kj (qR _) kj (fun W=>kj) ?_
  refine Qa9 (hF _ kj fun W14 e14=>?_)
  simp only [fins,up,List.take_succ_cons,List.take_zero,List.drop_succ_cons,List.drop_zero,List.nil_append,List.cons_append]
  intro g15 l15 r15_14 n15
  have b15:w.heap.size≤g15:=qT x13.size l15
  clear hF
  have x14:Ext w W14:=Ext.tr x13 e14
  refine Qak g15 _ (numA (s3)) 49 r15_14 rfl kj (Qah 49 _ _ g15 49 _ _ r15_14 rfl kj kj (isz (n:=4) kj kj) (eqsz (n:=4) kj kj) kj) fun W15 p15 r15_15=>?_
  have x15:Ext w W15:=Puts.ext p15 x14 b15
  refine Qaf ?_
  refine hK14 _ _ ?_
  refine wp_seq_k fun K16 hK16=>?_
  refine QaP (fun W=>True) [⟨none,[(6,none)]⟩,⟨none,[(7,none)]⟩,⟨none,[(37,some 0),(38,some 1)]⟩,⟨none,[(8,none)]⟩,⟨none,[(40,some 3)]⟩,⟨none,[(39,some 2),(41,some 4)]⟩,⟨none,[(42,some 5)]⟩,⟨none,[(43,some 6)]⟩,⟨none,[(36,some 7)]⟩,⟨none,[(36,some 7)]⟩,⟨none,[]⟩,⟨none,[(9,some 10),(44,some 8)]⟩,⟨none,[(45,some 9)]⟩] [10] [9,12] kj kj kj (fun W hR=>trivial) fun F hF=>?_
  have r12_15:=(Puts.row p15 (Qaa r12_13 e14) (Qad r12_13 l15))
  refine QaW (.agg (numA (s1))) kj kj kj rfl (fun W hR=>(Qag 49 _ g12 49 _ _ (Qaa (Qaa r12_15 (Qai _)) hR) rfl kj kj (isz (n:=4) kj kj))) ?_
  have r13_15:=(Puts.row p15 (Qaa r13_13 e14) (Qad r13_13 l15))
  refine QaW (.agg (numA (1))) kj kj kj rfl (fun W hR=>(Qag 49 _ g13 49 _ _ (Qaa (Qaa r13_15 (Qai _)) hR) rfl kj kj (isz (n:=4) kj kj))) ?_
  refine Qcw (.agg (numA (s4))) 69 #[.agg (numA (s1)),.agg (numA (1))] kj kj kj rfl (fun W=>kj) (fun W hR=>c4 W) ?_
  refine QaW (.agg (numA (s3))) kj kj kj rfl (fun W hR=>(Qag 49 _ g15 49 _ _ (Qaa (Qaa r15_15 (Qai _)) hR) rfl kj kj (isz (n:=4) kj kj))) ?_
  refine Qcw (.agg (numA (s5))) 70 #[.agg (numA (s3))] kj kj kj rfl (fun W=>kj) (fun W hR=>c5 W) ?_
  refine Qcw (.agg (numA (s6))) 66 #[.agg (numA (s4)),.agg (numA (s5))] kj kj kj rfl (fun W=>kj) (fun W hR=>c6 W) ?_
  refine Qcw (.tuple #[.agg (numA (r)),.bool false]) 71 #[.agg (numA (s6))] kj kj kj rfl (fun W=>kj) (fun W hR=>cr W) ?_
  refine Qax (.tuple #[.agg (numA (r)),.bool false]) kj kj rfl (fun W=>kj) ?_
  refine Qax (.agg (numA (r))) kj kj rfl (fun W=>kj) ?_
  refine Qax (.bool false) kj kj rfl (fun W=>kj) ?_
  refine Qkm (numA (0)) 49 kj kj (qR _) kj rfl (fun W=>kj) ?_
  refine Qb1 rfl ?_
  refine Qax (.bool false) kj kj rfl (fun W=>kj) ?_
  refine QcX (hF _ kj fun W16 e16=>?_)
  simp only [List.nil_append,List.cons_append,fins,up]
  intro g17 l17 r17_16 n17
  have b17:w.heap.size≤g17:=qT x15.size l17
  clear hF
  have x16:Ext w W16:=Ext.tr x15 e16
  refine Qbh _ g17 _ (numA (r)) 49 r17_16 rfl (Qah 49 _ _ g17 49 _ _ r17_16 rfl kj kj (isz (n:=4) kj kj) (eqsz (n:=4) kj kj) kj) (fun W hp=>trivial) fun W17 p17 r17_17=>?_
  have x17:Ext w W17:=Puts.ext p17 x16 b17
  refine Qci ?_
  refine hK16 _ _ ?_
  refine wp_seq_k fun K18 hK18=>?_
  refine wp_seq_k fun K19 hK19=>?_
  refine Qac ?_
  refine Qab (.bool false) 46 rfl kj kj ?_
  refine Qab (.bool true) 47 rfl kj kj ?_
  refine Qab (.bool true) 48 rfl kj kj ?_
  refine QbM 49 rfl kj ?_
  refine QbM 50 rfl kj ?_
  refine QbM 51 rfl kj ?_
  refine QbM 52 rfl kj ?_
  refine QbM 53 rfl kj ?_
  refine QbM 54 rfl kj ?_
  refine Qab (.bool true) 55 rfl kj kj ?_
  refine Qaf ?_
  refine hK19 _ _ ?_
  refine cond_true kj ?_
  refine wp_seq_k fun K20 hK20=>?_
  refine Qac ?_
  refine Qab (.agg (cat [numA (0),numA (0)])) 56 rfl kj kj ?_
  have r4_4:=(Qaa (Puts.row p3 r4_2 (Qat r3_1 l4)) e4)
  have r4_9:=(Qaa (Qaa (Qaa (Puts.row p6 (Qaa r4_4 e5) (Qad r4_4 l8)) e7) e8) e9)
  have r4_10:=(Qaa r4_9 e10)
  have r4_13:=(Puts.row p13 (Puts.row p12 (Qaa r4_10 e11) (Qad r4_9 l12)) (Qad r4_10 l13))
  have r4_15:=(Puts.row p15 (Qaa r4_13 e14) (Qad r4_13 l15))
  have r4_17:=(Puts.row p17 (Qaa (Puts.row p15 (Qaa (Puts.row p13 (Puts.row p12 (Qaa (Qaa (Qaa (Qaa (Qaa (Puts.row p6 (Qaa (Qaa (Puts.row p3 r4_2 (Qat r3_1 l4)) e4) e5) (Qad r4_4 l8)) e7) e8) e9) e10) e11) (Qad r4_9 l12)) (Qad r4_10 l13)) e14) (Qad r4_13 l15)) e16) (Qad r4_15 l17))
  refine Qak g4 _ (cat [numA (0),numA (0)]) 51 r4_17 rfl kj (Qah 51 _ _ g4 51 _ _ r4_17 rfl kj kj (isz (n:=8) kj kj) (eqsz (n:=8) kj kj) kj) fun W18 p18 r4_18=>?_
  have x18:Ext w W18:=Puts.ext p18 x17 b4
  refine Qab (.bool false) 3 rfl kj kj ?_
  refine Qaf ?_
  refine hK20 _ _ ?_
  refine wp_ret ?_
  exact (show bodyPost _ _ _ .ret _ _ from ret2 (.agg (cat [numA (0),numA (0)])) (.bool false) rfl (QaC g4 51 _ r4_18 kj kj (isz (n:=8) kj kj)) (Qbr kj) ⟨rfl,x18⟩)
theorem Qo3 (xs ys:List Int) (hx:xs.length=32) (hb:Qal xs) (ys_len:ys.length=32) (s0 s1 s2 s3 s4 s5 s6 r:Int) (ho:(nth xs 31/128==1)=true) (hc:decide (ys=(xs).set 31 (nth xs 31%128))=true)
    (c0:∀ W,Calls Tryd.prog 44 #[.agg (ints .u8 ((xs).set 31 (nth xs 31%128)))] W (Ret W (.agg (numA (s0)))))
    (c1:∀ W,Calls Tryd.prog 66 #[.agg (numA (s0)),.agg (numA (s0))] W (Ret W (.agg (numA (s1)))))
    (c2:∀ W,Calls Tryd.prog 66 #[.agg (numA (s1)),.agg (numA (dN))] W (Ret W (.agg (numA (s2)))))
    (c3:∀ W,Calls Tryd.prog 68 #[.agg (numA (s2)),.agg (numA (1))] W (Ret W (.agg (numA (s3)))))
    (c4:∀ W,Calls Tryd.prog 69 #[.agg (numA (s1)),.agg (numA (1))] W (Ret W (.agg (numA (s4)))))
    (c5:∀ W,Calls Tryd.prog 70 #[.agg (numA (s3))] W (Ret W (.agg (numA (s5)))))
    (c6:∀ W,Calls Tryd.prog 66 #[.agg (numA (s4)),.agg (numA (s5))] W (Ret W (.agg (numA (s6)))))
    (cb:∀ W,Calls Tryd.prog 50 #[.agg (numA (s0))] W (Ret W (.agg (ints .u8 ys))))
    (cr:∀ W,Calls Tryd.prog 71 #[.agg (numA (s6))] W (Ret W (.tuple #[.agg (numA (r)),.bool false])))
    (w:World) (tB:TypeId) (hB:w.heap[2]? = some (.cells (ints .u8 Qb0) tB)):Calls Tryd.prog 34 #[.agg (ints .u8 (xs))] w (Ret w (.tuple #[.agg (cat [numA (0),numA (0)]),.bool false])):=by
  refine enter 63 [(0,.agg (ints .u8 (xs)))] Tryd.func34 rfl rfl kj rfl ?_
  refine wp_seq_k fun K2 hK2=>?_
  refine Qac ?_
  refine Qaj (ints .u8 (xs)) 23 1 rfl kj kj fun g3 W1 l3 e1 r3_1=>?_
  have x1:Ext w W1:=Ext.tr (Rely.Ext.refl w) e1
  have b3:w.heap.size≤g3:=qT (Rely.Ext.refl w).size l3
  refine Qaj (cat [numA (0),numA (0)]) 51 2 rfl kj kj fun g4 W2 l4 e2 r4_2=>?_
  have x2:Ext w W2:=Ext.tr x1 e2
  have b4:w.heap.size≤g4:=qT x1.size l4
  refine Qab (.bool false) 3 rfl kj kj ?_
  refine Qaf ?_
  refine hK2 _ _ ?_
  refine wp_seq_k fun K5 hK5=>?_
  refine Qac ?_
  refine Qab (.pointer (some ⟨g3,31,none⟩)) 11 rfl kj kj ?_
  have r3_2:=(Qaa r3_1 e2)
  refine Qab (.int .u8 (nth (xs) 31)) 12 rfl kj (Qam 5 _ g3 31 23 _ (.int .u8 (nth (xs) 31)) _ r3_2 rfl kj (Qas _ _ _ (Nat.lt_of_lt_of_eq (by decide) hx.symm)) kj) ?_
  refine Qab (.int .u8 (nth xs 31/128)) 13 rfl kj (Qbp .shr _ _ _ _ .u8 .u64 _ _ _ rfl kj kj (QcY _ _ _ _ _ _ (show (0:Int)≤7 by decide) (shr7 _))) ?_
  refine Qab (.bool true) 14 rfl kj (Qan (u:=.bool (((nth xs 31/128)==1))) kj (congrArg Value.bool ho)) ?_
  refine Qab (.bool true) 4 rfl kj kj ?_
  refine Qaf ?_
  refine hK5 _ _ ?_
  refine wp_seq_k fun K6 hK6=>?_
  refine Qac ?_
  refine Qab (.pointer (some ⟨g3,31,none⟩)) 15 rfl kj kj ?_
  refine Qab (.int .u8 (nth (xs) 31)) 16 rfl kj (Qam 5 _ g3 31 23 _ (.int .u8 (nth (xs) 31)) _ r3_2 rfl kj (Qas _ _ _ (Nat.lt_of_lt_of_eq (by decide) hx.symm)) kj) ?_
  refine Qab (.int .u8 (nth xs 31%128)) 17 rfl kj (Qan (u:=.int .u8 (bits .and .u8 ((nth (xs) 31)) (127))) kj (congrArg (Value.int .u8) (QfS _ (hb.nth 31)))) ?_
  refine Qab (.pointer (some ⟨g3,31,none⟩)) 18 rfl kj kj ?_
  refine Qak g3 _ (ints .u8 ((xs).set 31 (nth xs 31%128))) 23 r3_2 rfl kj (Qa1 5 _ _ g3 31 23 _ _ r3_2 rfl kj kj kj (Nat.lt_of_lt_of_eq (show 31<32 by decide) hx.symm)) fun W3 p3 r3_3=>?_
  have x3:Ext w W3:=Puts.ext p3 x2 b3
  refine Qaf ?_
  refine hK6 _ _ ?_
  refine wp_seq_k fun K7 hK7=>?_
  refine Qac ?_
  refine Qab (.agg (ints .u8 ((xs).set 31 (nth xs 31%128)))) 19 rfl kj (Qag 23 _ g3 23 _ _ r3_3 rfl kj kj (isz (n:=32) kj ((Qae _ _).trans ((List.length_set ..).trans hx)))) ?_
  refine Qar (.agg (numA (s0))) 44 #[.agg (ints .u8 ((xs).set 31 (nth xs 31%128)))] 20 rfl kj kj (c0 _) fun W4 e4=>?_
  have x4:Ext w W4:=Ext.tr x3 e4
  refine Qaj (numA (0)) 49 5 rfl kj kj fun g8 W5 l8 e5 r8_5=>?_
  have x5:Ext w W5:=Ext.tr x4 e5
  have b8:w.heap.size≤g8:=qT x4.size l8
  refine Qak g8 _ (numA (s0)) 49 r8_5 rfl kj (Qah 49 _ _ g8 49 _ _ r8_5 rfl kj kj (isz (n:=4) kj kj) (eqsz (n:=4) kj kj) kj) fun W6 p6 r8_6=>?_
  have x6:Ext w W6:=Puts.ext p6 x5 b8
  refine Qaf ?_
  refine hK7 _ _ ?_
  refine wp_seq_k fun K9 hK9=>?_
  refine wp_seq_k fun K10 hK10=>?_
  refine QaK 4 [⟨none,[(5,none)]⟩,⟨none,[(21,some 0)]⟩,⟨none,[(1,none)]⟩,⟨none,[(22,some 1),(23,some 2)]⟩] kj kj fun F hF=>?_
  refine Qaq (.agg (numA (s0))) kj kj (fun W hR=>(Qag 49 _ g8 49 _ _ (Qaa (Qaa r8_6 (Qai _)) hR) rfl kj kj (isz (n:=4) kj kj))) ?_
  refine Qau (.agg (ints .u8 (ys))) 50 #[.agg (numA (s0))] kj kj (fun W=>kj) (fun W hR=>cb W) ?_
  have r3_4:=(Qaa r3_3 e4)
  have r3_6:=(Puts.row p6 (Qaa (Qaa r3_3 e4) e5) (Qad r3_4 l8))
  refine Qaq (.agg (ints .u8 ((xs).set 31 (nth xs 31%128)))) kj kj (fun W hR=>(Qag 23 _ g3 23 _ _ (Qaa (Qaa r3_6 (Qai _)) hR) rfl kj kj (isz (n:=32) kj ((Qae _ _).trans ((List.length_set ..).trans hx))))) ?_
  refine Qav (.bool false) kj kj (fun W=>(Qct 23 _ _ _ _ _ (.bool false) rfl kj kj kj (Qef _ _ true ys_len (by rw [List.length_set]; exact hx) hc _))) ?_
  refine Qa9 (hF _ kj fun W7 e7=>?_)
  simp only [ups,up,Kn.val,List.take_succ_cons,List.take_zero,List.drop_succ_cons,List.drop_zero,List.nil_append,List.cons_append]
  clear hF
  have x7:Ext w W7:=Ext.tr x6 e7
  refine Qaf ?_
  refine hK10 _ _ ?_
  refine cond_false kj ?_
  refine wp_skip ?_
  refine hK9 _ _ ?_
  refine wp_seq_k fun K11 hK11=>?_
  refine Qac ?_
  have r8_7:=(Qaa r8_6 e7)
  refine Qab (.agg (numA (s0))) 26 rfl kj (Qag 49 _ g8 49 _ _ r8_7 rfl kj kj (isz (n:=4) kj kj)) ?_
  refine Qab (.agg (numA (s0))) 27 rfl kj (Qag 49 _ g8 49 _ _ r8_7 rfl kj kj (isz (n:=4) kj kj)) ?_
  refine Qar (.agg (numA (s1))) 66 #[.agg (numA (s0)),.agg (numA (s0))] 28 rfl kj kj (c1 _) fun W8 e8=>?_
  have x8:Ext w W8:=Ext.tr x7 e8
  refine Qar (.agg (numA (1))) 67 #[.int .i64 1] 29 rfl kj kj ((Qd6 1 (by decide)) _) fun W9 e9=>?_
  have x9:Ext w W9:=Ext.tr x8 e9
  refine Qaj (numA (0)) 49 6 rfl kj kj fun g12 W10 l12 e10 r12_10=>?_
  have x10:Ext w W10:=Ext.tr x9 e10
  have b12:w.heap.size≤g12:=qT x9.size l12
  refine Qaj (numA (0)) 49 7 rfl kj kj fun g13 W11 l13 e11 r13_11=>?_
  have x11:Ext w W11:=Ext.tr x10 e11
  have b13:w.heap.size≤g13:=qT x10.size l13
  have r12_11:=(Qaa r12_10 e11)
  refine Qak g12 _ (numA (s1)) 49 r12_11 rfl kj (Qah 49 _ _ g12 49 _ _ r12_11 rfl kj kj (isz (n:=4) kj kj) (eqsz (n:=4) kj kj) kj) fun W12 p12 r12_12=>?_
  have x12:Ext w W12:=Puts.ext p12 x11 b12
  have r13_12:=(Puts.row p12 r13_11 (Qat r12_10 l13))
  refine Qak g13 _ (numA (1)) 49 r13_12 rfl kj (Qah 49 _ _ g13 49 _ _ r13_12 rfl kj kj (isz (n:=4) kj kj) (eqsz (n:=4) kj kj) kj) fun W13 p13 r13_13=>?_
  have x13:Ext w W13:=Puts.ext p13 x12 b13
  refine Qaf ?_
  refine hK11 _ _ ?_
  refine wp_seq_k fun K14 hK14=>?_
  refine Qbd 7 [⟨none,[(6,none)]⟩,⟨none,[]⟩,⟨none,[(31,some 1)]⟩,⟨none,[(30,some 0),(32,some 2)]⟩,⟨none,[(7,none)]⟩,⟨none,[(33,some 3),(34,some 4)]⟩,⟨none,[]⟩] [6] kj kj kj fun F hF=>?_
  have r12_13:=(Puts.row p13 r12_12 (Qad r12_10 l13))
  refine Qaq (.agg (numA (s1))) kj kj (fun W hR=>(Qag 49 _ g12 49 _ _ (Qaa (Qaa r12_13 (Qai _)) hR) rfl kj kj (isz (n:=4) kj kj))) ?_
  have r1_4:=(Qaa (Puts.row p3 (Qaa (Qaa hB e1) e2) (Qad hB l3)) e4)
  have r1_9:=(Qaa (Qaa (Qaa (Puts.row p6 (Qaa r1_4 e5) (Qad r1_4 l8)) e7) e8) e9)
  have r1_10:=(Qaa r1_9 e10)
  have r1_13:=(Puts.row p13 (Puts.row p12 (Qaa (Qaa (Qaa (Qaa (Qaa (Puts.row p6 (Qaa (Qaa (Puts.row p3 (Qaa (Qaa hB e1) e2) (Qad hB l3)) e4) e5) (Qad r1_4 l8)) e7) e8) e9) e10) e11) (Qad r1_9 l12)) (Qad r1_10 l13))
  refine Qaq (.agg (ints .u8 (Qb0))) kj kj (fun W hR=>(Qag 23 _ 2 tB _ _ (Qaa (Qaa r1_13 (Qai _)) hR) rfl kj kj (isz (n:=32) kj ((Qae _ _).trans (by decide))))) ?_
  refine Qau (.agg (numA (dN))) 44 #[.agg (ints .u8 (Qb0))] kj kj (fun W=>kj) (fun W hR=>QfG W) ?_
  refine Qau (.agg (numA (s2))) 66 #[.agg (numA (s1)),.agg (numA (dN))] kj kj (fun W=>kj) (fun W hR=>c2 W) ?_
  refine Qaq (.agg (numA (1))) kj kj (fun W hR=>(Qag 49 _ g13 49 _ _ (Qaa (Qaa r13_13 (Qai _)) hR) rfl kj kj (isz (n:=4) kj kj))) ?_
  refine Qau (.agg (numA (s3))) 68 #[.agg (numA (s2)),.agg (numA (1))] kj kj (fun W=>kj) (fun W hR=>c3 W) ?_
  refine QbN (numA (0)) 49 kj (qR _) kj (fun W=>kj) ?_
  refine Qa9 (hF _ kj fun W14 e14=>?_)
  simp only [fins,up,List.take_succ_cons,List.take_zero,List.drop_succ_cons,List.drop_zero,List.nil_append,List.cons_append]
  intro g15 l15 r15_14 n15
  have b15:w.heap.size≤g15:=qT x13.size l15
  clear hF
  have x14:Ext w W14:=Ext.tr x13 e14
  refine Qak g15 _ (numA (s3)) 49 r15_14 rfl kj (Qah 49 _ _ g15 49 _ _ r15_14 rfl kj kj (isz (n:=4) kj kj) (eqsz (n:=4) kj kj) kj) fun W15 p15 r15_15=>?_
  have x15:Ext w W15:=Puts.ext p15 x14 b15
  refine Qaf ?_
  refine hK14 _ _ ?_
  refine wp_seq_k fun K16 hK16=>?_
  refine QaP (fun W=>True) [⟨none,[(6,none)]⟩,⟨none,[(7,none)]⟩,⟨none,[(37,some 0),(38,some 1)]⟩,⟨none,[(8,none)]⟩,⟨none,[(40,some 3)]⟩,⟨none,[(39,some 2),(41,some 4)]⟩,⟨none,[(42,some 5)]⟩,⟨none,[(43,some 6)]⟩,⟨none,[(36,some 7)]⟩,⟨none,[(36,some 7)]⟩,⟨none,[]⟩,⟨none,[(9,some 10),(44,some 8)]⟩,⟨none,[(45,some 9)]⟩] [10] [9,12] kj kj kj (fun W hR=>trivial) fun F hF=>?_
  have r12_15:=(Puts.row p15 (Qaa r12_13 e14) (Qad r12_13 l15))
  refine QaW (.agg (numA (s1))) kj kj kj rfl (fun W hR=>(Qag 49 _ g12 49 _ _ (Qaa (Qaa r12_15 (Qai _)) hR) rfl kj kj (isz (n:=4) kj kj))) ?_
  have r13_15:=(Puts.row p15 (Qaa r13_13 e14) (Qad r13_13 l15))
  refine QaW (.agg (numA (1))) kj kj kj rfl (fun W hR=>(Qag 49 _ g13 49 _ _ (Qaa (Qaa r13_15 (Qai _)) hR) rfl kj kj (isz (n:=4) kj kj))) ?_
  refine Qcw (.agg (numA (s4))) 69 #[.agg (numA (s1)),.agg (numA (1))] kj kj kj rfl (fun W=>kj) (fun W hR=>c4 W) ?_
  refine QaW (.agg (numA (s3))) kj kj kj rfl (fun W hR=>(Qag 49 _ g15 49 _ _ (Qaa (Qaa r15_15 (Qai _)) hR) rfl kj kj (isz (n:=4) kj kj))) ?_
  refine Qcw (.agg (numA (s5))) 70 #[.agg (numA (s3))] kj kj kj rfl (fun W=>kj) (fun W hR=>c5 W) ?_
  refine Qcw (.agg (numA (s6))) 66 #[.agg (numA (s4)),.agg (numA (s5))] kj kj kj rfl (fun W=>kj) (fun W hR=>c6 W) ?_
  refine Qcw (.tuple #[.agg (numA (r)),.bool false]) 71 #[.agg (numA (s6))] kj kj kj rfl (fun W=>kj) (fun W hR=>cr W) ?_
  refine Qax (.tuple #[.agg (numA (r)),.bool false]) kj kj rfl (fun W=>kj) ?_
  refine Qax (.agg (numA (r))) kj kj rfl (fun W=>kj) ?_
  refine Qax (.bool false) kj kj rfl (fun W=>kj) ?_
  refine Qkm (numA (0)) 49 kj kj (qR _) kj rfl (fun W=>kj) ?_
  refine Qb1 rfl ?_
  refine Qax (.bool false) kj kj rfl (fun W=>kj) ?_
  refine QcX (hF _ kj fun W16 e16=>?_)
  simp only [List.nil_append,List.cons_append,fins,up]
  intro g17 l17 r17_16 n17
  have b17:w.heap.size≤g17:=qT x15.size l17
  clear hF
  have x16:Ext w W16:=Ext.tr x15 e16
  refine Qbh _ g17 _ (numA (r)) 49 r17_16 rfl (Qah 49 _ _ g17 49 _ _ r17_16 rfl kj kj (isz (n:=4) kj kj) (eqsz (n:=4) kj kj) kj) (fun W hp=>trivial) fun W17 p17 r17_17=>?_
  have x17:Ext w W17:=Puts.ext p17 x16 b17
  refine Qci ?_
  refine hK16 _ _ ?_
  refine wp_seq_k fun K18 hK18=>?_
  refine wp_seq_k fun K19 hK19=>?_
  refine Qac ?_
  refine Qab (.bool false) 46 rfl kj kj ?_
  refine Qab (.bool true) 47 rfl kj kj ?_
  refine Qab (.bool true) 48 rfl kj kj ?_
  refine QbM 49 rfl kj ?_
  refine QbM 50 rfl kj ?_
  refine QbM 51 rfl kj ?_
  refine QbM 52 rfl kj ?_
  refine QbM 53 rfl kj ?_
  refine QbM 54 rfl kj ?_
  refine Qab (.bool true) 55 rfl kj kj ?_
  refine Qaf ?_
  refine hK19 _ _ ?_
  refine cond_true kj ?_
  refine wp_seq_k fun K20 hK20=>?_
  refine Qac ?_
  refine Qab (.agg (cat [numA (0),numA (0)])) 56 rfl kj kj ?_
  have r4_4:=(Qaa (Puts.row p3 r4_2 (Qat r3_1 l4)) e4)
  have r4_9:=(Qaa (Qaa (Qaa (Puts.row p6 (Qaa r4_4 e5) (Qad r4_4 l8)) e7) e8) e9)
  have r4_10:=(Qaa r4_9 e10)
  have r4_13:=(Puts.row p13 (Puts.row p12 (Qaa r4_10 e11) (Qad r4_9 l12)) (Qad r4_10 l13))
  have r4_15:=(Puts.row p15 (Qaa r4_13 e14) (Qad r4_13 l15))
  have r4_17:=(Puts.row p17 (Qaa (Puts.row p15 (Qaa (Puts.row p13 (Puts.row p12 (Qaa (Qaa (Qaa (Qaa (Qaa (Puts.row p6 (Qaa (Qaa (Puts.row p3 r4_2 (Qat r3_1 l4)) e4) e5) (Qad r4_4 l8)) e7) e8) e9) e10) e11) (Qad r4_9 l12)) (Qad r4_10 l13)) e14) (Qad r4_13 l15)) e16) (Qad r4_15 l17))
  refine Qak g4 _ (cat [numA (0),numA (0)]) 51 r4_17 rfl kj (Qah 51 _ _ g4 51 _ _ r4_17 rfl kj kj (isz (n:=8) kj kj) (eqsz (n:=8) kj kj) kj) fun W18 p18 r4_18=>?_
  have x18:Ext w W18:=Puts.ext p18 x17 b4
  refine Qab (.bool false) 3 rfl kj kj ?_
  refine Qaf ?_
  refine hK20 _ _ ?_
  refine wp_ret ?_
  exact (show bodyPost _ _ _ .ret _ _ from ret2 (.agg (cat [numA (0),numA (0)])) (.bool false) rfl (QaC g4 51 _ r4_18 kj kj (isz (n:=8) kj kj)) (Qbr kj) ⟨rfl,x18⟩)
theorem Qo2 (xs ys:List Int) (hx:xs.length=32) (hb:Qal xs) (ys_len:ys.length=32) (s0 s1 s2 s3 s4 s5 s6 r:Int) (ho:(nth xs 31/128==1)=true) (hc:decide (ys=(xs).set 31 (nth xs 31%128))=true) (h_r:isN r) (hz:(r==0)=true)
    (c0:∀ W,Calls Tryd.prog 44 #[.agg (ints .u8 ((xs).set 31 (nth xs 31%128)))] W (Ret W (.agg (numA (s0)))))
    (c1:∀ W,Calls Tryd.prog 66 #[.agg (numA (s0)),.agg (numA (s0))] W (Ret W (.agg (numA (s1)))))
    (c2:∀ W,Calls Tryd.prog 66 #[.agg (numA (s1)),.agg (numA (dN))] W (Ret W (.agg (numA (s2)))))
    (c3:∀ W,Calls Tryd.prog 68 #[.agg (numA (s2)),.agg (numA (1))] W (Ret W (.agg (numA (s3)))))
    (c4:∀ W,Calls Tryd.prog 69 #[.agg (numA (s1)),.agg (numA (1))] W (Ret W (.agg (numA (s4)))))
    (c5:∀ W,Calls Tryd.prog 70 #[.agg (numA (s3))] W (Ret W (.agg (numA (s5)))))
    (c6:∀ W,Calls Tryd.prog 66 #[.agg (numA (s4)),.agg (numA (s5))] W (Ret W (.agg (numA (s6)))))
    (cb:∀ W,Calls Tryd.prog 50 #[.agg (numA (s0))] W (Ret W (.agg (ints .u8 ys))))
    (cr:∀ W,Calls Tryd.prog 71 #[.agg (numA (s6))] W (Ret W (.tuple #[.agg (numA (r)),.bool true])))
    (w:World) (tB:TypeId) (hB:w.heap[2]? = some (.cells (ints .u8 Qb0) tB)):Calls Tryd.prog 34 #[.agg (ints .u8 (xs))] w (Ret w (.tuple #[.agg (cat [numA (0),numA (0)]),.bool false])):=by
  refine enter 63 [(0,.agg (ints .u8 (xs)))] Tryd.func34 rfl rfl kj rfl ?_
  refine wp_seq_k fun K2 hK2=>?_
  refine Qac ?_
  refine Qaj (ints .u8 (xs)) 23 1 rfl kj kj fun g3 W1 l3 e1 r3_1=>?_
  have x1:Ext w W1:=Ext.tr (Rely.Ext.refl w) e1
  have b3:w.heap.size≤g3:=qT (Rely.Ext.refl w).size l3
  refine Qaj (cat [numA (0),numA (0)]) 51 2 rfl kj kj fun g4 W2 l4 e2 r4_2=>?_
  have x2:Ext w W2:=Ext.tr x1 e2
  have b4:w.heap.size≤g4:=qT x1.size l4
  refine Qab (.bool false) 3 rfl kj kj ?_
  refine Qaf ?_
  refine hK2 _ _ ?_
  refine wp_seq_k fun K5 hK5=>?_
  refine Qac ?_
  refine Qab (.pointer (some ⟨g3,31,none⟩)) 11 rfl kj kj ?_
  have r3_2:=(Qaa r3_1 e2)
  refine Qab (.int .u8 (nth (xs) 31)) 12 rfl kj (Qam 5 _ g3 31 23 _ (.int .u8 (nth (xs) 31)) _ r3_2 rfl kj (Qas _ _ _ (Nat.lt_of_lt_of_eq (by decide) hx.symm)) kj) ?_
  refine Qab (.int .u8 (nth xs 31/128)) 13 rfl kj (Qbp .shr _ _ _ _ .u8 .u64 _ _ _ rfl kj kj (QcY _ _ _ _ _ _ (show (0:Int)≤7 by decide) (shr7 _))) ?_
  refine Qab (.bool true) 14 rfl kj (Qan (u:=.bool (((nth xs 31/128)==1))) kj (congrArg Value.bool ho)) ?_
  refine Qab (.bool true) 4 rfl kj kj ?_
  refine Qaf ?_
  refine hK5 _ _ ?_
  refine wp_seq_k fun K6 hK6=>?_
  refine Qac ?_
  refine Qab (.pointer (some ⟨g3,31,none⟩)) 15 rfl kj kj ?_
  refine Qab (.int .u8 (nth (xs) 31)) 16 rfl kj (Qam 5 _ g3 31 23 _ (.int .u8 (nth (xs) 31)) _ r3_2 rfl kj (Qas _ _ _ (Nat.lt_of_lt_of_eq (by decide) hx.symm)) kj) ?_
  refine Qab (.int .u8 (nth xs 31%128)) 17 rfl kj (Qan (u:=.int .u8 (bits .and .u8 ((nth (xs) 31)) (127))) kj (congrArg (Value.int .u8) (QfS _ (hb.nth 31)))) ?_
  refine Qab (.pointer (some ⟨g3,31,none⟩)) 18 rfl kj kj ?_
  refine Qak g3 _ (ints .u8 ((xs).set 31 (nth xs 31%128))) 23 r3_2 rfl kj (Qa1 5 _ _ g3 31 23 _ _ r3_2 rfl kj kj kj (Nat.lt_of_lt_of_eq (show 31<32 by decide) hx.symm)) fun W3 p3 r3_3=>?_
  have x3:Ext w W3:=Puts.ext p3 x2 b3
  refine Qaf ?_
  refine hK6 _ _ ?_
  refine wp_seq_k fun K7 hK7=>?_
  refine Qac ?_
  refine Qab (.agg (ints .u8 ((xs).set 31 (nth xs 31%128)))) 19 rfl kj (Qag 23 _ g3 23 _ _ r3_3 rfl kj kj (isz (n:=32) kj ((Qae _ _).trans ((List.length_set ..).trans hx)))) ?_
  refine Qar (.agg (numA (s0))) 44 #[.agg (ints .u8 ((xs).set 31 (nth xs 31%128)))] 20 rfl kj kj (c0 _) fun W4 e4=>?_
  have x4:Ext w W4:=Ext.tr x3 e4
  refine Qaj (numA (0)) 49 5 rfl kj kj fun g8 W5 l8 e5 r8_5=>?_
  have x5:Ext w W5:=Ext.tr x4 e5
  have b8:w.heap.size≤g8:=qT x4.size l8
  refine Qak g8 _ (numA (s0)) 49 r8_5 rfl kj (Qah 49 _ _ g8 49 _ _ r8_5 rfl kj kj (isz (n:=4) kj kj) (eqsz (n:=4) kj kj) kj) fun W6 p6 r8_6=>?_
  have x6:Ext w W6:=Puts.ext p6 x5 b8
  refine Qaf ?_
  refine hK7 _ _ ?_
  refine wp_seq_k fun K9 hK9=>?_
  refine wp_seq_k fun K10 hK10=>?_
  refine QaK 4 [⟨none,[(5,none)]⟩,⟨none,[(21,some 0)]⟩,⟨none,[(1,none)]⟩,⟨none,[(22,some 1),(23,some 2)]⟩] kj kj fun F hF=>?_
  refine Qaq (.agg (numA (s0))) kj kj (fun W hR=>(Qag 49 _ g8 49 _ _ (Qaa (Qaa r8_6 (Qai _)) hR) rfl kj kj (isz (n:=4) kj kj))) ?_
  refine Qau (.agg (ints .u8 (ys))) 50 #[.agg (numA (s0))] kj kj (fun W=>kj) (fun W hR=>cb W) ?_
  have r3_4:=(Qaa r3_3 e4)
  have r3_6:=(Puts.row p6 (Qaa (Qaa r3_3 e4) e5) (Qad r3_4 l8))
  refine Qaq (.agg (ints .u8 ((xs).set 31 (nth xs 31%128)))) kj kj (fun W hR=>(Qag 23 _ g3 23 _ _ (Qaa (Qaa r3_6 (Qai _)) hR) rfl kj kj (isz (n:=32) kj ((Qae _ _).trans ((List.length_set ..).trans hx))))) ?_
  refine Qav (.bool false) kj kj (fun W=>(Qct 23 _ _ _ _ _ (.bool false) rfl kj kj kj (Qef _ _ true ys_len (by rw [List.length_set]; exact hx) hc _))) ?_
  refine Qa9 (hF _ kj fun W7 e7=>?_)
  simp only [ups,up,Kn.val,List.take_succ_cons,List.take_zero,List.drop_succ_cons,List.drop_zero,List.nil_append,List.cons_append]
  clear hF
  have x7:Ext w W7:=Ext.tr x6 e7
  refine Qaf ?_
  refine hK10 _ _ ?_
  refine cond_false kj ?_
  refine wp_skip ?_
  refine hK9 _ _ ?_
  refine wp_seq_k fun K11 hK11=>?_
  refine Qac ?_
  have r8_7:=(Qaa r8_6 e7)
  refine Qab (.agg (numA (s0))) 26 rfl kj (Qag 49 _ g8 49 _ _ r8_7 rfl kj kj (isz (n:=4) kj kj)) ?_
  refine Qab (.agg (numA (s0))) 27 rfl kj (Qag 49 _ g8 49 _ _ r8_7 rfl kj kj (isz (n:=4) kj kj)) ?_
  refine Qar (.agg (numA (s1))) 66 #[.agg (numA (s0)),.agg (numA (s0))] 28 rfl kj kj (c1 _) fun W8 e8=>?_
  have x8:Ext w W8:=Ext.tr x7 e8
  refine Qar (.agg (numA (1))) 67 #[.int .i64 1] 29 rfl kj kj ((Qd6 1 (by decide)) _) fun W9 e9=>?_
  have x9:Ext w W9:=Ext.tr x8 e9
  refine Qaj (numA (0)) 49 6 rfl kj kj fun g12 W10 l12 e10 r12_10=>?_
  have x10:Ext w W10:=Ext.tr x9 e10
  have b12:w.heap.size≤g12:=qT x9.size l12
  refine Qaj (numA (0)) 49 7 rfl kj kj fun g13 W11 l13 e11 r13_11=>?_
  have x11:Ext w W11:=Ext.tr x10 e11
  have b13:w.heap.size≤g13:=qT x10.size l13
  have r12_11:=(Qaa r12_10 e11)
  refine Qak g12 _ (numA (s1)) 49 r12_11 rfl kj (Qah 49 _ _ g12 49 _ _ r12_11 rfl kj kj (isz (n:=4) kj kj) (eqsz (n:=4) kj kj) kj) fun W12 p12 r12_12=>?_
  have x12:Ext w W12:=Puts.ext p12 x11 b12
  have r13_12:=(Puts.row p12 r13_11 (Qat r12_10 l13))
  refine Qak g13 _ (numA (1)) 49 r13_12 rfl kj (Qah 49 _ _ g13 49 _ _ r13_12 rfl kj kj (isz (n:=4) kj kj) (eqsz (n:=4) kj kj) kj) fun W13 p13 r13_13=>?_
  have x13:Ext w W13:=Puts.ext p13 x12 b13
  refine Qaf ?_
  refine hK11 _ _ ?_
  refine wp_seq_k fun K14 hK14=>?_
  refine Qbd 7 [⟨none,[(6,none)]⟩,⟨none,[]⟩,⟨none,[(31,some 1)]⟩,⟨none,[(30,some 0),(32,some 2)]⟩,⟨none,[(7,none)]⟩,⟨none,[(33,some 3),(34,some 4)]⟩,⟨none,[]⟩] [6] kj kj kj fun F hF=>?_
  have r12_13:=(Puts.row p13 r12_12 (Qad r12_10 l13))
  refine Qaq (.agg (numA (s1))) kj kj (fun W hR=>(Qag 49 _ g12 49 _ _ (Qaa (Qaa r12_13 (Qai _)) hR) rfl kj kj (isz (n:=4) kj kj))) ?_
  have r1_4:=(Qaa (Puts.row p3 (Qaa (Qaa hB e1) e2) (Qad hB l3)) e4)
  have r1_9:=(Qaa (Qaa (Qaa (Puts.row p6 (Qaa r1_4 e5) (Qad r1_4 l8)) e7) e8) e9)
  have r1_10:=(Qaa r1_9 e10)
  have r1_13:=(Puts.row p13 (Puts.row p12 (Qaa (Qaa (Qaa (Qaa (Qaa (Puts.row p6 (Qaa (Qaa (Puts.row p3 (Qaa (Qaa hB e1) e2) (Qad hB l3)) e4) e5) (Qad r1_4 l8)) e7) e8) e9) e10) e11) (Qad r1_9 l12)) (Qad r1_10 l13))
  refine Qaq (.agg (ints .u8 (Qb0))) kj kj (fun W hR=>(Qag 23 _ 2 tB _ _ (Qaa (Qaa r1_13 (Qai _)) hR) rfl kj kj (isz (n:=32) kj ((Qae _ _).trans (by decide))))) ?_
  refine Qau (.agg (numA (dN))) 44 #[.agg (ints .u8 (Qb0))] kj kj (fun W=>kj) (fun W hR=>QfG W) ?_
  refine Qau (.agg (numA (s2))) 66 #[.agg (numA (s1)),.agg (numA (dN))] kj kj (fun W=>kj) (fun W hR=>c2 W) ?_
  refine Qaq (.agg (numA (1))) kj kj (fun W hR=>(Qag 49 _ g13 49 _ _ (Qaa (Qaa r13_13 (Qai _)) hR) rfl kj kj (isz (n:=4) kj kj))) ?_
  refine Qau (.agg (numA (s3))) 68 #[.agg (numA (s2)),.agg (numA (1))] kj kj (fun W=>kj) (fun W hR=>c3 W) ?_
  refine QbN (numA (0)) 49 kj (qR _) kj (fun W=>kj) ?_
  refine Qa9 (hF _ kj fun W14 e14=>?_)
  simp only [fins,up,List.take_succ_cons,List.take_zero,List.drop_succ_cons,List.drop_zero,List.nil_append,List.cons_append]
  intro g15 l15 r15_14 n15
  have b15:w.heap.size≤g15:=qT x13.size l15
  clear hF
  have x14:Ext w W14:=Ext.tr x13 e14
  refine Qak g15 _ (numA (s3)) 49 r15_14 rfl kj (Qah 49 _ _ g15 49 _ _ r15_14 rfl kj kj (isz (n:=4) kj kj) (eqsz (n:=4) kj kj) kj) fun W15 p15 r15_15=>?_
  have x15:Ext w W15:=Puts.ext p15 x14 b15
  refine Qaf ?_
  refine hK14 _ _ ?_
  refine wp_seq_k fun K16 hK16=>?_
  refine QaP (fun W=>True) [⟨none,[(6,none)]⟩,⟨none,[(7,none)]⟩,⟨none,[(37,some 0),(38,some 1)]⟩,⟨none,[(8,none)]⟩,⟨none,[(40,some 3)]⟩,⟨none,[(39,some 2),(41,some 4)]⟩,⟨none,[(42,some 5)]⟩,⟨none,[(43,some 6)]⟩,⟨none,[(36,some 7)]⟩,⟨none,[(36,some 7)]⟩,⟨none,[]⟩,⟨none,[(9,some 10),(44,some 8)]⟩,⟨none,[(45,some 9)]⟩] [10] [9,12] kj kj kj (fun W hR=>trivial) fun F hF=>?_
  have r12_15:=(Puts.row p15 (Qaa r12_13 e14) (Qad r12_13 l15))
  refine QaW (.agg (numA (s1))) kj kj kj rfl (fun W hR=>(Qag 49 _ g12 49 _ _ (Qaa (Qaa r12_15 (Qai _)) hR) rfl kj kj (isz (n:=4) kj kj))) ?_
  have r13_15:=(Puts.row p15 (Qaa r13_13 e14) (Qad r13_13 l15))
  refine QaW (.agg (numA (1))) kj kj kj rfl (fun W hR=>(Qag 49 _ g13 49 _ _ (Qaa (Qaa r13_15 (Qai _)) hR) rfl kj kj (isz (n:=4) kj kj))) ?_
  refine Qcw (.agg (numA (s4))) 69 #[.agg (numA (s1)),.agg (numA (1))] kj kj kj rfl (fun W=>kj) (fun W hR=>c4 W) ?_
  refine QaW (.agg (numA (s3))) kj kj kj rfl (fun W hR=>(Qag 49 _ g15 49 _ _ (Qaa (Qaa r15_15 (Qai _)) hR) rfl kj kj (isz (n:=4) kj kj))) ?_
  refine Qcw (.agg (numA (s5))) 70 #[.agg (numA (s3))] kj kj kj rfl (fun W=>kj) (fun W hR=>c5 W) ?_
  refine Qcw (.agg (numA (s6))) 66 #[.agg (numA (s4)),.agg (numA (s5))] kj kj kj rfl (fun W=>kj) (fun W hR=>c6 W) ?_
  refine Qcw (.tuple #[.agg (numA (r)),.bool true]) 71 #[.agg (numA (s6))] kj kj kj rfl (fun W=>kj) (fun W hR=>cr W) ?_
  refine Qax (.tuple #[.agg (numA (r)),.bool true]) kj kj rfl (fun W=>kj) ?_
  refine Qax (.agg (numA (r))) kj kj rfl (fun W=>kj) ?_
  refine Qax (.bool true) kj kj rfl (fun W=>kj) ?_
  refine Qkm (numA (0)) 49 kj kj (qR _) kj rfl (fun W=>kj) ?_
  refine Qb1 rfl ?_
  refine Qax (.bool true) kj kj rfl (fun W=>kj) ?_
  refine QcX (hF _ kj fun W16 e16=>?_)
  simp only [List.nil_append,List.cons_append,fins,up]
  intro g17 l17 r17_16 n17
  have b17:w.heap.size≤g17:=qT x15.size l17
  clear hF
  have x16:Ext w W16:=Ext.tr x15 e16
  refine Qbh _ g17 _ (numA (r)) 49 r17_16 rfl (Qah 49 _ _ g17 49 _ _ r17_16 rfl kj kj (isz (n:=4) kj kj) (eqsz (n:=4) kj kj) kj) (fun W hp=>trivial) fun W17 p17 r17_17=>?_
  have x17:Ext w W17:=Puts.ext p17 x16 b17
  refine Qci ?_
  refine hK16 _ _ ?_
  refine wp_seq_k fun K18 hK18=>?_
  refine wp_seq_k fun K19 hK19=>?_
  refine Qac ?_
  refine Qab (.bool true) 46 rfl kj kj ?_
  refine Qab (.bool false) 47 rfl kj kj ?_
  refine Qab (.bool false) 48 rfl kj kj ?_
  refine Qab (.bool true) 49 rfl kj kj ?_
  refine Qab (.bool true) 50 rfl kj kj ?_
  refine Qab (.agg (numA (r))) 51 rfl kj (Qag 49 _ g17 49 _ _ r17_17 rfl kj kj (isz (n:=4) kj kj)) ?_
  refine Qab (.agg (numA (0))) 52 rfl kj kj ?_
  refine Qab (.bool true) 53 rfl kj (Qds 49 _ _ _ _ _ (.bool true) rfl kj kj kj (QkR _ _ true h_r (num_isN 0) hz _)) ?_
  refine Qab (.bool true) 54 rfl kj kj ?_
  refine Qab (.bool true) 55 rfl kj kj ?_
  refine Qaf ?_
  refine hK19 _ _ ?_
  refine cond_true kj ?_
  refine wp_seq_k fun K20 hK20=>?_
  refine Qac ?_
  refine Qab (.agg (cat [numA (0),numA (0)])) 56 rfl kj kj ?_
  have r4_4:=(Qaa (Puts.row p3 r4_2 (Qat r3_1 l4)) e4)
  have r4_9:=(Qaa (Qaa (Qaa (Puts.row p6 (Qaa r4_4 e5) (Qad r4_4 l8)) e7) e8) e9)
  have r4_10:=(Qaa r4_9 e10)
  have r4_13:=(Puts.row p13 (Puts.row p12 (Qaa r4_10 e11) (Qad r4_9 l12)) (Qad r4_10 l13))
  have r4_15:=(Puts.row p15 (Qaa r4_13 e14) (Qad r4_13 l15))
  have r4_17:=(Puts.row p17 (Qaa (Puts.row p15 (Qaa (Puts.row p13 (Puts.row p12 (Qaa (Qaa (Qaa (Qaa (Qaa (Puts.row p6 (Qaa (Qaa (Puts.row p3 r4_2 (Qat r3_1 l4)) e4) e5) (Qad r4_4 l8)) e7) e8) e9) e10) e11) (Qad r4_9 l12)) (Qad r4_10 l13)) e14) (Qad r4_13 l15)) e16) (Qad r4_15 l17))
  refine Qak g4 _ (cat [numA (0),numA (0)]) 51 r4_17 rfl kj (Qah 51 _ _ g4 51 _ _ r4_17 rfl kj kj (isz (n:=8) kj kj) (eqsz (n:=8) kj kj) kj) fun W18 p18 r4_18=>?_
  have x18:Ext w W18:=Puts.ext p18 x17 b4
  refine Qab (.bool false) 3 rfl kj kj ?_
  refine Qaf ?_
  refine hK20 _ _ ?_
  refine wp_ret ?_
  exact (show bodyPost _ _ _ .ret _ _ from ret2 (.agg (cat [numA (0),numA (0)])) (.bool false) rfl (QaC g4 51 _ r4_18 kj kj (isz (n:=8) kj kj)) (Qbr kj) ⟨rfl,x18⟩)
theorem Qo1 (xs ys:List Int) (hx:xs.length=32) (hb:Qal xs) (ys_len:ys.length=32) (s0 s1 s2 s3 s4 s5 s6 r ng px pl:Int) (ho:(nth xs 31/128==1)=true) (hc:decide (ys=(xs).set 31 (nth xs 31%128))=true) (h_r:isN r) (hz:(r==0)=false)
    (c0:∀ W,Calls Tryd.prog 44 #[.agg (ints .u8 ((xs).set 31 (nth xs 31%128)))] W (Ret W (.agg (numA (s0)))))
    (c1:∀ W,Calls Tryd.prog 66 #[.agg (numA (s0)),.agg (numA (s0))] W (Ret W (.agg (numA (s1)))))
    (c2:∀ W,Calls Tryd.prog 66 #[.agg (numA (s1)),.agg (numA (dN))] W (Ret W (.agg (numA (s2)))))
    (c3:∀ W,Calls Tryd.prog 68 #[.agg (numA (s2)),.agg (numA (1))] W (Ret W (.agg (numA (s3)))))
    (c4:∀ W,Calls Tryd.prog 69 #[.agg (numA (s1)),.agg (numA (1))] W (Ret W (.agg (numA (s4)))))
    (c5:∀ W,Calls Tryd.prog 70 #[.agg (numA (s3))] W (Ret W (.agg (numA (s5)))))
    (c6:∀ W,Calls Tryd.prog 66 #[.agg (numA (s4)),.agg (numA (s5))] W (Ret W (.agg (numA (s6)))))
    (cb:∀ W,Calls Tryd.prog 50 #[.agg (numA (s0))] W (Ret W (.agg (ints .u8 ys))))
    (cr:∀ W,Calls Tryd.prog 71 #[.agg (numA (s6))] W (Ret W (.tuple #[.agg (numA (r)),.bool true])))
    (cn:∀ W,Calls Tryd.prog 72 #[num r] W (Ret W (num ng)))
    (cp:∀ W,Calls Tryd.prog 43 #[num ng,num s0] W (Ret W (.agg (cat [numA px,numA pl]))))
    (w:World) (tB:TypeId) (hB:w.heap[2]? = some (.cells (ints .u8 Qb0) tB)):Calls Tryd.prog 34 #[.agg (ints .u8 (xs))] w (Ret w (.tuple #[.agg (cat [numA (px),numA (pl)]),.bool true])):=by
  refine enter 63 [(0,.agg (ints .u8 (xs)))] Tryd.func34 rfl rfl kj rfl ?_
  refine wp_seq_k fun K2 hK2=>?_
  refine Qac ?_
  refine Qaj (ints .u8 (xs)) 23 1 rfl kj kj fun g3 W1 l3 e1 r3_1=>?_
  have x1:Ext w W1:=Ext.tr (Rely.Ext.refl w) e1
  have b3:w.heap.size≤g3:=qT (Rely.Ext.refl w).size l3
  refine Qaj (cat [numA (0),numA (0)]) 51 2 rfl kj kj fun g4 W2 l4 e2 r4_2=>?_
  have x2:Ext w W2:=Ext.tr x1 e2
  have b4:w.heap.size≤g4:=qT x1.size l4
  refine Qab (.bool false) 3 rfl kj kj ?_
  refine Qaf ?_
  refine hK2 _ _ ?_
  refine wp_seq_k fun K5 hK5=>?_
  refine Qac ?_
  refine Qab (.pointer (some ⟨g3,31,none⟩)) 11 rfl kj kj ?_
  have r3_2:=(Qaa r3_1 e2)
  refine Qab (.int .u8 (nth (xs) 31)) 12 rfl kj (Qam 5 _ g3 31 23 _ (.int .u8 (nth (xs) 31)) _ r3_2 rfl kj (Qas _ _ _ (Nat.lt_of_lt_of_eq (by decide) hx.symm)) kj) ?_
  refine Qab (.int .u8 (nth xs 31/128)) 13 rfl kj (Qbp .shr _ _ _ _ .u8 .u64 _ _ _ rfl kj kj (QcY _ _ _ _ _ _ (show (0:Int)≤7 by decide) (shr7 _))) ?_
  refine Qab (.bool true) 14 rfl kj (Qan (u:=.bool (((nth xs 31/128)==1))) kj (congrArg Value.bool ho)) ?_
  refine Qab (.bool true) 4 rfl kj kj ?_
  refine Qaf ?_
  refine hK5 _ _ ?_
  refine wp_seq_k fun K6 hK6=>?_
  refine Qac ?_
  refine Qab (.pointer (some ⟨g3,31,none⟩)) 15 rfl kj kj ?_
  refine Qab (.int .u8 (nth (xs) 31)) 16 rfl kj (Qam 5 _ g3 31 23 _ (.int .u8 (nth (xs) 31)) _ r3_2 rfl kj (Qas _ _ _ (Nat.lt_of_lt_of_eq (by decide) hx.symm)) kj) ?_
  refine Qab (.int .u8 (nth xs 31%128)) 17 rfl kj (Qan (u:=.int .u8 (bits .and .u8 ((nth (xs) 31)) (127))) kj (congrArg (Value.int .u8) (QfS _ (hb.nth 31)))) ?_
  refine Qab (.pointer (some ⟨g3,31,none⟩)) 18 rfl kj kj ?_
  refine Qak g3 _ (ints .u8 ((xs).set 31 (nth xs 31%128))) 23 r3_2 rfl kj (Qa1 5 _ _ g3 31 23 _ _ r3_2 rfl kj kj kj (Nat.lt_of_lt_of_eq (show 31<32 by decide) hx.symm)) fun W3 p3 r3_3=>?_
  have x3:Ext w W3:=Puts.ext p3 x2 b3
  refine Qaf ?_
  refine hK6 _ _ ?_
  refine wp_seq_k fun K7 hK7=>?_
  refine Qac ?_
  refine Qab (.agg (ints .u8 ((xs).set 31 (nth xs 31%128)))) 19 rfl kj (Qag 23 _ g3 23 _ _ r3_3 rfl kj kj (isz (n:=32) kj ((Qae _ _).trans ((List.length_set ..).trans hx)))) ?_
  refine Qar (.agg (numA (s0))) 44 #[.agg (ints .u8 ((xs).set 31 (nth xs 31%128)))] 20 rfl kj kj (c0 _) fun W4 e4=>?_
  have x4:Ext w W4:=Ext.tr x3 e4
  refine Qaj (numA (0)) 49 5 rfl kj kj fun g8 W5 l8 e5 r8_5=>?_
  have x5:Ext w W5:=Ext.tr x4 e5
  have b8:w.heap.size≤g8:=qT x4.size l8
  refine Qak g8 _ (numA (s0)) 49 r8_5 rfl kj (Qah 49 _ _ g8 49 _ _ r8_5 rfl kj kj (isz (n:=4) kj kj) (eqsz (n:=4) kj kj) kj) fun W6 p6 r8_6=>?_
  have x6:Ext w W6:=Puts.ext p6 x5 b8
  refine Qaf ?_
  refine hK7 _ _ ?_
  refine wp_seq_k fun K9 hK9=>?_
  refine wp_seq_k fun K10 hK10=>?_
  refine QaK 4 [⟨none,[(5,none)]⟩,⟨none,[(21,some 0)]⟩,⟨none,[(1,none)]⟩,⟨none,[(22,some 1),(23,some 2)]⟩] kj kj fun F hF=>?_
  refine Qaq (.agg (numA (s0))) kj kj (fun W hR=>(Qag 49 _ g8 49 _ _ (Qaa (Qaa r8_6 (Qai _)) hR) rfl kj kj (isz (n:=4) kj kj))) ?_
  refine Qau (.agg (ints .u8 (ys))) 50 #[.agg (numA (s0))] kj kj (fun W=>kj) (fun W hR=>cb W) ?_
  have r3_4:=(Qaa r3_3 e4)
  have r3_6:=(Puts.row p6 (Qaa (Qaa r3_3 e4) e5) (Qad r3_4 l8))
  refine Qaq (.agg (ints .u8 ((xs).set 31 (nth xs 31%128)))) kj kj (fun W hR=>(Qag 23 _ g3 23 _ _ (Qaa (Qaa r3_6 (Qai _)) hR) rfl kj kj (isz (n:=32) kj ((Qae _ _).trans ((List.length_set ..).trans hx))))) ?_
  refine Qav (.bool false) kj kj (fun W=>(Qct 23 _ _ _ _ _ (.bool false) rfl kj kj kj (Qef _ _ true ys_len (by rw [List.length_set]; exact hx) hc _))) ?_
  refine Qa9 (hF _ kj fun W7 e7=>?_)
  simp only [ups,up,Kn.val,List.take_succ_cons,List.take_zero,List.drop_succ_cons,List.drop_zero,List.nil_append,List.cons_append]
  clear hF
  have x7:Ext w W7:=Ext.tr x6 e7
  refine Qaf ?_
  refine hK10 _ _ ?_
  refine cond_false kj ?_
  refine wp_skip ?_
  refine hK9 _ _ ?_
  refine wp_seq_k fun K11 hK11=>?_
  refine Qac ?_
  have r8_7:=(Qaa r8_6 e7)
  refine Qab (.agg (numA (s0))) 26 rfl kj (Qag 49 _ g8 49 _ _ r8_7 rfl kj kj (isz (n:=4) kj kj)) ?_
  refine Qab (.agg (numA (s0))) 27 rfl kj (Qag 49 _ g8 49 _ _ r8_7 rfl kj kj (isz (n:=4) kj kj)) ?_
  refine Qar (.agg (numA (s1))) 66 #[.agg (numA (s0)),.agg (numA (s0))] 28 rfl kj kj (c1 _) fun W8 e8=>?_
  have x8:Ext w W8:=Ext.tr x7 e8
  refine Qar (.agg (numA (1))) 67 #[.int .i64 1] 29 rfl kj kj ((Qd6 1 (by decide)) _) fun W9 e9=>?_
  have x9:Ext w W9:=Ext.tr x8 e9
  refine Qaj (numA (0)) 49 6 rfl kj kj fun g12 W10 l12 e10 r12_10=>?_
  have x10:Ext w W10:=Ext.tr x9 e10
  have b12:w.heap.size≤g12:=qT x9.size l12
  refine Qaj (numA (0)) 49 7 rfl kj kj fun g13 W11 l13 e11 r13_11=>?_
  have x11:Ext w W11:=Ext.tr x10 e11
  have b13:w.heap.size≤g13:=qT x10.size l13
  have r12_11:=(Qaa r12_10 e11)
  refine Qak g12 _ (numA (s1)) 49 r12_11 rfl kj (Qah 49 _ _ g12 49 _ _ r12_11 rfl kj kj (isz (n:=4) kj kj) (eqsz (n:=4) kj kj) kj) fun W12 p12 r12_12=>?_
  have x12:Ext w W12:=Puts.ext p12 x11 b12
  have r13_12:=(Puts.row p12 r13_11 (Qat r12_10 l13))
  refine Qak g13 _ (numA (1)) 49 r13_12 rfl kj (Qah 49 _ _ g13 49 _ _ r13_12 rfl kj kj (isz (n:=4) kj kj) (eqsz (n:=4) kj kj) kj) fun W13 p13 r13_13=>?_
  have x13:Ext w W13:=Puts.ext p13 x12 b13
  refine Qaf ?_
  refine hK11 _ _ ?_
  refine wp_seq_k fun K14 hK14=>?_
  refine Qbd 7 [⟨none,[(6,none)]⟩,⟨none,[]⟩,⟨none,[(31,some 1)]⟩,⟨none,[(30,some 0),(32,some 2)]⟩,⟨none,[(7,none)]⟩,⟨none,[(33,some 3),(34,some 4)]⟩,⟨none,[]⟩] [6] kj kj kj fun F hF=>?_
  have r12_13:=(Puts.row p13 r12_12 (Qad r12_10 l13))
  refine Qaq (.agg (numA (s1))) kj kj (fun W hR=>(Qag 49 _ g12 49 _ _ (Qaa (Qaa r12_13 (Qai _)) hR) rfl kj kj (isz (n:=4) kj kj))) ?_
  have r1_4:=(Qaa (Puts.row p3 (Qaa (Qaa hB e1) e2) (Qad hB l3)) e4)
  have r1_9:=(Qaa (Qaa (Qaa (Puts.row p6 (Qaa r1_4 e5) (Qad r1_4 l8)) e7) e8) e9)
  have r1_10:=(Qaa r1_9 e10)
  have r1_13:=(Puts.row p13 (Puts.row p12 (Qaa (Qaa (Qaa (Qaa (Qaa (Puts.row p6 (Qaa (Qaa (Puts.row p3 (Qaa (Qaa hB e1) e2) (Qad hB l3)) e4) e5) (Qad r1_4 l8)) e7) e8) e9) e10) e11) (Qad r1_9 l12)) (Qad r1_10 l13))
  refine Qaq (.agg (ints .u8 (Qb0))) kj kj (fun W hR=>(Qag 23 _ 2 tB _ _ (Qaa (Qaa r1_13 (Qai _)) hR) rfl kj kj (isz (n:=32) kj ((Qae _ _).trans (by decide))))) ?_
  refine Qau (.agg (numA (dN))) 44 #[.agg (ints .u8 (Qb0))] kj kj (fun W=>kj) (fun W hR=>QfG W) ?_
  refine Qau (.agg (numA (s2))) 66 #[.agg (numA (s1)),.agg (numA (dN))] kj kj (fun W=>kj) (fun W hR=>c2 W) ?_
  refine Qaq (.agg (numA (1))) kj kj (fun W hR=>(Qag 49 _ g13 49 _ _ (Qaa (Qaa r13_13 (Qai _)) hR) rfl kj kj (isz (n:=4) kj kj))) ?_
  refine Qau (.agg (numA (s3))) 68 #[.agg (numA (s2)),.agg (numA (1))] kj kj (fun W=>kj) (fun W hR=>c3 W) ?_
  refine QbN (numA (0)) 49 kj (qR _) kj (fun W=>kj) ?_
  refine Qa9 (hF _ kj fun W14 e14=>?_)
  simp only [fins,up,List.take_succ_cons,List.take_zero,List.drop_succ_cons,List.drop_zero,List.nil_append,List.cons_append]
  intro g15 l15 r15_14 n15
  have b15:w.heap.size≤g15:=qT x13.size l15
  clear hF
  have x14:Ext w W14:=Ext.tr x13 e14
  refine Qak g15 _ (numA (s3)) 49 r15_14 rfl kj (Qah 49 _ _ g15 49 _ _ r15_14 rfl kj kj (isz (n:=4) kj kj) (eqsz (n:=4) kj kj) kj) fun W15 p15 r15_15=>?_
  have x15:Ext w W15:=Puts.ext p15 x14 b15
  refine Qaf ?_
  refine hK14 _ _ ?_
  refine wp_seq_k fun K16 hK16=>?_
  refine QaP (fun W=>True) [⟨none,[(6,none)]⟩,⟨none,[(7,none)]⟩,⟨none,[(37,some 0),(38,some 1)]⟩,⟨none,[(8,none)]⟩,⟨none,[(40,some 3)]⟩,⟨none,[(39,some 2),(41,some 4)]⟩,⟨none,[(42,some 5)]⟩,⟨none,[(43,some 6)]⟩,⟨none,[(36,some 7)]⟩,⟨none,[(36,some 7)]⟩,⟨none,[]⟩,⟨none,[(9,some 10),(44,some 8)]⟩,⟨none,[(45,some 9)]⟩] [10] [9,12] kj kj kj (fun W hR=>trivial) fun F hF=>?_
  have r12_15:=(Puts.row p15 (Qaa r12_13 e14) (Qad r12_13 l15))
  refine QaW (.agg (numA (s1))) kj kj kj rfl (fun W hR=>(Qag 49 _ g12 49 _ _ (Qaa (Qaa r12_15 (Qai _)) hR) rfl kj kj (isz (n:=4) kj kj))) ?_
  have r13_15:=(Puts.row p15 (Qaa r13_13 e14) (Qad r13_13 l15))
  refine QaW (.agg (numA (1))) kj kj kj rfl (fun W hR=>(Qag 49 _ g13 49 _ _ (Qaa (Qaa r13_15 (Qai _)) hR) rfl kj kj (isz (n:=4) kj kj))) ?_
  refine Qcw (.agg (numA (s4))) 69 #[.agg (numA (s1)),.agg (numA (1))] kj kj kj rfl (fun W=>kj) (fun W hR=>c4 W) ?_
  refine QaW (.agg (numA (s3))) kj kj kj rfl (fun W hR=>(Qag 49 _ g15 49 _ _ (Qaa (Qaa r15_15 (Qai _)) hR) rfl kj kj (isz (n:=4) kj kj))) ?_
  refine Qcw (.agg (numA (s5))) 70 #[.agg (numA (s3))] kj kj kj rfl (fun W=>kj) (fun W hR=>c5 W) ?_
  refine Qcw (.agg (numA (s6))) 66 #[.agg (numA (s4)),.agg (numA (s5))] kj kj kj rfl (fun W=>kj) (fun W hR=>c6 W) ?_
  refine Qcw (.tuple #[.agg (numA (r)),.bool true]) 71 #[.agg (numA (s6))] kj kj kj rfl (fun W=>kj) (fun W hR=>cr W) ?_
  refine Qax (.tuple #[.agg (numA (r)),.bool true]) kj kj rfl (fun W=>kj) ?_
  refine Qax (.agg (numA (r))) kj kj rfl (fun W=>kj) ?_
  refine Qax (.bool true) kj kj rfl (fun W=>kj) ?_
  refine Qkm (numA (0)) 49 kj kj (qR _) kj rfl (fun W=>kj) ?_
  refine Qb1 rfl ?_
  refine Qax (.bool true) kj kj rfl (fun W=>kj) ?_
  refine QcX (hF _ kj fun W16 e16=>?_)
  simp only [List.nil_append,List.cons_append,fins,up]
  intro g17 l17 r17_16 n17
  have b17:w.heap.size≤g17:=qT x15.size l17
  clear hF
  have x16:Ext w W16:=Ext.tr x15 e16
  refine Qbh _ g17 _ (numA (r)) 49 r17_16 rfl (Qah 49 _ _ g17 49 _ _ r17_16 rfl kj kj (isz (n:=4) kj kj) (eqsz (n:=4) kj kj) kj) (fun W hp=>trivial) fun W17 p17 r17_17=>?_
  have x17:Ext w W17:=Puts.ext p17 x16 b17
  refine Qci ?_
  refine hK16 _ _ ?_
  refine wp_seq_k fun K18 hK18=>?_
  refine wp_seq_k fun K19 hK19=>?_
  refine Qac ?_
  refine Qab (.bool true) 46 rfl kj kj ?_
  refine Qab (.bool false) 47 rfl kj kj ?_
  refine Qab (.bool false) 48 rfl kj kj ?_
  refine Qab (.bool true) 49 rfl kj kj ?_
  refine Qab (.bool true) 50 rfl kj kj ?_
  refine Qab (.agg (numA (r))) 51 rfl kj (Qag 49 _ g17 49 _ _ r17_17 rfl kj kj (isz (n:=4) kj kj)) ?_
  refine Qab (.agg (numA (0))) 52 rfl kj kj ?_
  refine Qab (.bool false) 53 rfl kj (Qds 49 _ _ _ _ _ (.bool false) rfl kj kj kj (QkR _ _ false h_r (num_isN 0) hz _)) ?_
  refine Qab (.bool false) 54 rfl kj kj ?_
  refine Qab (.bool false) 55 rfl kj kj ?_
  refine Qaf ?_
  refine hK19 _ _ ?_
  refine cond_false kj ?_
  refine wp_skip ?_
  refine hK18 _ _ ?_
  refine wp_seq_k fun K20 hK20=>?_
  refine wp_seq_k fun K21 hK21=>?_
  refine Qac ?_
  refine Qab (.bool true) 57 rfl kj kj ?_
  refine Qaf ?_
  refine hK21 _ _ ?_
  refine cond_true kj ?_
  refine Qac ?_
  refine Qab (.agg (numA (r))) 58 rfl kj (Qag 49 _ g17 49 _ _ r17_17 rfl kj kj (isz (n:=4) kj kj)) ?_
  refine Qar (.agg (numA (ng))) 72 #[.agg (numA (r))] 59 rfl kj kj (cn _) fun W18 e18=>?_
  have x18:Ext w W18:=Ext.tr x17 e18
  have r17_18:=(Qaa r17_17 e18)
  refine Qak g17 _ (numA (ng)) 49 r17_18 rfl kj (Qah 49 _ _ g17 49 _ _ r17_18 rfl kj kj (isz (n:=4) kj kj) (eqsz (n:=4) kj kj) kj) fun W19 p19 r17_19=>?_
  have x19:Ext w W19:=Puts.ext p19 x18 b17
  refine Qaf ?_
  refine hK20 _ _ ?_
  refine wp_seq_k fun K22 hK22=>?_
  refine Qac ?_
  refine Qab (.agg (numA (ng))) 60 rfl kj (Qag 49 _ g17 49 _ _ r17_19 rfl kj kj (isz (n:=4) kj kj)) ?_
  have r8_9:=(Qaa (Qaa r8_7 e8) e9)
  have r8_10:=(Qaa r8_9 e10)
  have r8_13:=(Puts.row p13 (Puts.row p12 (Qaa r8_10 e11) (Qad r8_9 l12)) (Qad r8_10 l13))
  have r8_15:=(Puts.row p15 (Qaa r8_13 e14) (Qad r8_13 l15))
  have r8_19:=(Puts.row p19 (Qaa (Puts.row p17 (Qaa (Puts.row p15 (Qaa (Puts.row p13 (Puts.row p12 (Qaa (Qaa (Qaa (Qaa r8_7 e8) e9) e10) e11) (Qad r8_9 l12)) (Qad r8_10 l13)) e14) (Qad r8_13 l15)) e16) (Qad r8_15 l17)) e18) (Qad r8_15 l17))
  refine Qab (.agg (numA (s0))) 61 rfl kj (Qag 49 _ g8 49 _ _ r8_19 rfl kj kj (isz (n:=4) kj kj)) ?_
  refine Qar (.agg (cat [numA (px),numA (pl)])) 43 #[.agg (numA (ng)),.agg (numA (s0))] 62 rfl kj kj (cp _) fun W20 e20=>?_
  have x20:Ext w W20:=Ext.tr x19 e20
  have r4_4:=(Qaa (Puts.row p3 r4_2 (Qat r3_1 l4)) e4)
  have r4_9:=(Qaa (Qaa (Qaa (Puts.row p6 (Qaa r4_4 e5) (Qad r4_4 l8)) e7) e8) e9)
  have r4_10:=(Qaa r4_9 e10)
  have r4_13:=(Puts.row p13 (Puts.row p12 (Qaa r4_10 e11) (Qad r4_9 l12)) (Qad r4_10 l13))
  have r4_15:=(Puts.row p15 (Qaa r4_13 e14) (Qad r4_13 l15))
  have r4_20:=(Qaa (Puts.row p19 (Qaa (Puts.row p17 (Qaa (Puts.row p15 (Qaa (Puts.row p13 (Puts.row p12 (Qaa (Qaa (Qaa (Qaa (Qaa (Puts.row p6 (Qaa (Qaa (Puts.row p3 r4_2 (Qat r3_1 l4)) e4) e5) (Qad r4_4 l8)) e7) e8) e9) e10) e11) (Qad r4_9 l12)) (Qad r4_10 l13)) e14) (Qad r4_13 l15)) e16) (Qad r4_15 l17)) e18) (Qad r4_15 l17)) e20)
  refine Qak g4 _ (cat [numA (px),numA (pl)]) 51 r4_20 rfl kj (Qah 51 _ _ g4 51 _ _ r4_20 rfl kj kj (isz (n:=8) kj kj) (eqsz (n:=8) kj kj) kj) fun W21 p21 r4_21=>?_
  have x21:Ext w W21:=Puts.ext p21 x20 b4
  refine Qab (.bool true) 3 rfl kj kj ?_
  refine Qaf ?_
  refine hK22 _ _ ?_
  refine wp_ret ?_
  exact (show bodyPost _ _ _ .ret _ _ from ret2 (.agg (cat [numA (px),numA (pl)])) (.bool true) rfl (QaC g4 51 _ r4_21 kj kj (isz (n:=8) kj kj)) (Qbr kj) ⟨rfl,x21⟩)
theorem Qo0 (xs ys:List Int) (hx:xs.length=32) (hb:Qal xs) (ys_len:ys.length=32) (s0 s1 s2 s3 s4 s5 s6 r px pl:Int) (ho:(nth xs 31/128==1)=false) (hc:decide (ys=(xs).set 31 (nth xs 31%128))=true)
    (c0:∀ W,Calls Tryd.prog 44 #[.agg (ints .u8 ((xs).set 31 (nth xs 31%128)))] W (Ret W (.agg (numA (s0)))))
    (c1:∀ W,Calls Tryd.prog 66 #[.agg (numA (s0)),.agg (numA (s0))] W (Ret W (.agg (numA (s1)))))
    (c2:∀ W,Calls Tryd.prog 66 #[.agg (numA (s1)),.agg (numA (dN))] W (Ret W (.agg (numA (s2)))))
    (c3:∀ W,Calls Tryd.prog 68 #[.agg (numA (s2)),.agg (numA (1))] W (Ret W (.agg (numA (s3)))))
    (c4:∀ W,Calls Tryd.prog 69 #[.agg (numA (s1)),.agg (numA (1))] W (Ret W (.agg (numA (s4)))))
    (c5:∀ W,Calls Tryd.prog 70 #[.agg (numA (s3))] W (Ret W (.agg (numA (s5)))))
    (c6:∀ W,Calls Tryd.prog 66 #[.agg (numA (s4)),.agg (numA (s5))] W (Ret W (.agg (numA (s6)))))
    (cb:∀ W,Calls Tryd.prog 50 #[.agg (numA (s0))] W (Ret W (.agg (ints .u8 ys))))
    (cr:∀ W,Calls Tryd.prog 71 #[.agg (numA (s6))] W (Ret W (.tuple #[.agg (numA (r)),.bool true])))
    (cp:∀ W,Calls Tryd.prog 43 #[num r,num s0] W (Ret W (.agg (cat [numA px,numA pl]))))
    (w:World) (tB:TypeId) (hB:w.heap[2]? = some (.cells (ints .u8 Qb0) tB)):Calls Tryd.prog 34 #[.agg (ints .u8 (xs))] w (Ret w (.tuple #[.agg (cat [numA (px),numA (pl)]),.bool true])):=by
  refine enter 63 [(0,.agg (ints .u8 (xs)))] Tryd.func34 rfl rfl kj rfl ?_
  refine wp_seq_k fun K2 hK2=>?_
  refine Qac ?_
  refine Qaj (ints .u8 (xs)) 23 1 rfl kj kj fun g3 W1 l3 e1 r3_1=>?_
  have x1:Ext w W1:=Ext.tr (Rely.Ext.refl w) e1
  have b3:w.heap.size≤g3:=qT (Rely.Ext.refl w).size l3
  refine Qaj (cat [numA (0),numA (0)]) 51 2 rfl kj kj fun g4 W2 l4 e2 r4_2=>?_
  have x2:Ext w W2:=Ext.tr x1 e2
  have b4:w.heap.size≤g4:=qT x1.size l4
  refine Qab (.bool false) 3 rfl kj kj ?_
  refine Qaf ?_
  refine hK2 _ _ ?_
  refine wp_seq_k fun K5 hK5=>?_
  refine Qac ?_
  refine Qab (.pointer (some ⟨g3,31,none⟩)) 11 rfl kj kj ?_
  have r3_2:=(Qaa r3_1 e2)
  refine Qab (.int .u8 (nth (xs) 31)) 12 rfl kj (Qam 5 _ g3 31 23 _ (.int .u8 (nth (xs) 31)) _ r3_2 rfl kj (Qas _ _ _ (Nat.lt_of_lt_of_eq (by decide) hx.symm)) kj) ?_
  refine Qab (.int .u8 (nth xs 31/128)) 13 rfl kj (Qbp .shr _ _ _ _ .u8 .u64 _ _ _ rfl kj kj (QcY _ _ _ _ _ _ (show (0:Int)≤7 by decide) (shr7 _))) ?_
  refine Qab (.bool false) 14 rfl kj (Qan (u:=.bool (((nth xs 31/128)==1))) kj (congrArg Value.bool ho)) ?_
  refine Qab (.bool false) 4 rfl kj kj ?_
  refine Qaf ?_
  refine hK5 _ _ ?_
  refine wp_seq_k fun K6 hK6=>?_
  refine Qac ?_
  refine Qab (.pointer (some ⟨g3,31,none⟩)) 15 rfl kj kj ?_
  refine Qab (.int .u8 (nth (xs) 31)) 16 rfl kj (Qam 5 _ g3 31 23 _ (.int .u8 (nth (xs) 31)) _ r3_2 rfl kj (Qas _ _ _ (Nat.lt_of_lt_of_eq (by decide) hx.symm)) kj) ?_
  refine Qab (.int .u8 (nth xs 31%128)) 17 rfl kj (Qan (u:=.int .u8 (bits .and .u8 ((nth (xs) 31)) (127))) kj (congrArg (Value.int .u8) (QfS _ (hb.nth 31)))) ?_
  refine Qab (.pointer (some ⟨g3,31,none⟩)) 18 rfl kj kj ?_
  refine Qak g3 _ (ints .u8 ((xs).set 31 (nth xs 31%128))) 23 r3_2 rfl kj (Qa1 5 _ _ g3 31 23 _ _ r3_2 rfl kj kj kj (Nat.lt_of_lt_of_eq (show 31<32 by decide) hx.symm)) fun W3 p3 r3_3=>?_
  have x3:Ext w W3:=Puts.ext p3 x2 b3
  refine Qaf ?_
  refine hK6 _ _ ?_
  refine wp_seq_k fun K7 hK7=>?_
  refine Qac ?_
  refine Qab (.agg (ints .u8 ((xs).set 31 (nth xs 31%128)))) 19 rfl kj (Qag 23 _ g3 23 _ _ r3_3 rfl kj kj (isz (n:=32) kj ((Qae _ _).trans ((List.length_set ..).trans hx)))) ?_
  refine Qar (.agg (numA (s0))) 44 #[.agg (ints .u8 ((xs).set 31 (nth xs 31%128)))] 20 rfl kj kj (c0 _) fun W4 e4=>?_
  have x4:Ext w W4:=Ext.tr x3 e4
  refine Qaj (numA (0)) 49 5 rfl kj kj fun g8 W5 l8 e5 r8_5=>?_
  have x5:Ext w W5:=Ext.tr x4 e5
  have b8:w.heap.size≤g8:=qT x4.size l8
  refine Qak g8 _ (numA (s0)) 49 r8_5 rfl kj (Qah 49 _ _ g8 49 _ _ r8_5 rfl kj kj (isz (n:=4) kj kj) (eqsz (n:=4) kj kj) kj) fun W6 p6 r8_6=>?_
  have x6:Ext w W6:=Puts.ext p6 x5 b8
  refine Qaf ?_
  refine hK7 _ _ ?_
  refine wp_seq_k fun K9 hK9=>?_
  refine wp_seq_k fun K10 hK10=>?_
  refine QaK 4 [⟨none,[(5,none)]⟩,⟨none,[(21,some 0)]⟩,⟨none,[(1,none)]⟩,⟨none,[(22,some 1),(23,some 2)]⟩] kj kj fun F hF=>?_
  refine Qaq (.agg (numA (s0))) kj kj (fun W hR=>(Qag 49 _ g8 49 _ _ (Qaa (Qaa r8_6 (Qai _)) hR) rfl kj kj (isz (n:=4) kj kj))) ?_
  refine Qau (.agg (ints .u8 (ys))) 50 #[.agg (numA (s0))] kj kj (fun W=>kj) (fun W hR=>cb W) ?_
  have r3_4:=(Qaa r3_3 e4)
  have r3_6:=(Puts.row p6 (Qaa (Qaa r3_3 e4) e5) (Qad r3_4 l8))
  refine Qaq (.agg (ints .u8 ((xs).set 31 (nth xs 31%128)))) kj kj (fun W hR=>(Qag 23 _ g3 23 _ _ (Qaa (Qaa r3_6 (Qai _)) hR) rfl kj kj (isz (n:=32) kj ((Qae _ _).trans ((List.length_set ..).trans hx))))) ?_
  refine Qav (.bool false) kj kj (fun W=>(Qct 23 _ _ _ _ _ (.bool false) rfl kj kj kj (Qef _ _ true ys_len (by rw [List.length_set]; exact hx) hc _))) ?_
  refine Qa9 (hF _ kj fun W7 e7=>?_)
  simp only [ups,up,Kn.val,List.take_succ_cons,List.take_zero,List.drop_succ_cons,List.drop_zero,List.nil_append,List.cons_append]
  clear hF
  have x7:Ext w W7:=Ext.tr x6 e7
  refine Qaf ?_
  refine hK10 _ _ ?_
  refine cond_false kj ?_
  refine wp_skip ?_
  refine hK9 _ _ ?_
  refine wp_seq_k fun K11 hK11=>?_
  refine Qac ?_
  have r8_7:=(Qaa r8_6 e7)
  refine Qab (.agg (numA (s0))) 26 rfl kj (Qag 49 _ g8 49 _ _ r8_7 rfl kj kj (isz (n:=4) kj kj)) ?_
  refine Qab (.agg (numA (s0))) 27 rfl kj (Qag 49 _ g8 49 _ _ r8_7 rfl kj kj (isz (n:=4) kj kj)) ?_
  refine Qar (.agg (numA (s1))) 66 #[.agg (numA (s0)),.agg (numA (s0))] 28 rfl kj kj (c1 _) fun W8 e8=>?_
  have x8:Ext w W8:=Ext.tr x7 e8
  refine Qar (.agg (numA (1))) 67 #[.int .i64 1] 29 rfl kj kj ((Qd6 1 (by decide)) _) fun W9 e9=>?_
  have x9:Ext w W9:=Ext.tr x8 e9
  refine Qaj (numA (0)) 49 6 rfl kj kj fun g12 W10 l12 e10 r12_10=>?_
  have x10:Ext w W10:=Ext.tr x9 e10
  have b12:w.heap.size≤g12:=qT x9.size l12
  refine Qaj (numA (0)) 49 7 rfl kj kj fun g13 W11 l13 e11 r13_11=>?_
  have x11:Ext w W11:=Ext.tr x10 e11
  have b13:w.heap.size≤g13:=qT x10.size l13
  have r12_11:=(Qaa r12_10 e11)
  refine Qak g12 _ (numA (s1)) 49 r12_11 rfl kj (Qah 49 _ _ g12 49 _ _ r12_11 rfl kj kj (isz (n:=4) kj kj) (eqsz (n:=4) kj kj) kj) fun W12 p12 r12_12=>?_
  have x12:Ext w W12:=Puts.ext p12 x11 b12
  have r13_12:=(Puts.row p12 r13_11 (Qat r12_10 l13))
  refine Qak g13 _ (numA (1)) 49 r13_12 rfl kj (Qah 49 _ _ g13 49 _ _ r13_12 rfl kj kj (isz (n:=4) kj kj) (eqsz (n:=4) kj kj) kj) fun W13 p13 r13_13=>?_
  have x13:Ext w W13:=Puts.ext p13 x12 b13
  refine Qaf ?_
  refine hK11 _ _ ?_
  refine wp_seq_k fun K14 hK14=>?_
  refine Qbd 7 [⟨none,[(6,none)]⟩,⟨none,[]⟩,⟨none,[(31,some 1)]⟩,⟨none,[(30,some 0),(32,some 2)]⟩,⟨none,[(7,none)]⟩,⟨none,[(33,some 3),(34,some 4)]⟩,⟨none,[]⟩] [6] kj kj kj fun F hF=>?_
  have r12_13:=(Puts.row p13 r12_12 (Qad r12_10 l13))
  refine Qaq (.agg (numA (s1))) kj kj (fun W hR=>(Qag 49 _ g12 49 _ _ (Qaa (Qaa r12_13 (Qai _)) hR) rfl kj kj (isz (n:=4) kj kj))) ?_
  have r1_4:=(Qaa (Puts.row p3 (Qaa (Qaa hB e1) e2) (Qad hB l3)) e4)
  have r1_9:=(Qaa (Qaa (Qaa (Puts.row p6 (Qaa r1_4 e5) (Qad r1_4 l8)) e7) e8) e9)
  have r1_10:=(Qaa r1_9 e10)
  have r1_13:=(Puts.row p13 (Puts.row p12 (Qaa (Qaa (Qaa (Qaa (Qaa (Puts.row p6 (Qaa (Qaa (Puts.row p3 (Qaa (Qaa hB e1) e2) (Qad hB l3)) e4) e5) (Qad r1_4 l8)) e7) e8) e9) e10) e11) (Qad r1_9 l12)) (Qad r1_10 l13))
  refine Qaq (.agg (ints .u8 (Qb0))) kj kj (fun W hR=>(Qag 23 _ 2 tB _ _ (Qaa (Qaa r1_13 (Qai _)) hR) rfl kj kj (isz (n:=32) kj ((Qae _ _).trans (by decide))))) ?_
  refine Qau (.agg (numA (dN))) 44 #[.agg (ints .u8 (Qb0))] kj kj (fun W=>kj) (fun W hR=>QfG W) ?_
  refine Qau (.agg (numA (s2))) 66 #[.agg (numA (s1)),.agg (numA (dN))] kj kj (fun W=>kj) (fun W hR=>c2 W) ?_
  refine Qaq (.agg (numA (1))) kj kj (fun W hR=>(Qag 49 _ g13 49 _ _ (Qaa (Qaa r13_13 (Qai _)) hR) rfl kj kj (isz (n:=4) kj kj))) ?_
  refine Qau (.agg (numA (s3))) 68 #[.agg (numA (s2)),.agg (numA (1))] kj kj (fun W=>kj) (fun W hR=>c3 W) ?_
  refine QbN (numA (0)) 49 kj (qR _) kj (fun W=>kj) ?_
  refine Qa9 (hF _ kj fun W14 e14=>?_)
  simp only [fins,up,List.take_succ_cons,List.take_zero,List.drop_succ_cons,List.drop_zero,List.nil_append,List.cons_append]
  intro g15 l15 r15_14 n15
  have b15:w.heap.size≤g15:=qT x13.size l15
  clear hF
  have x14:Ext w W14:=Ext.tr x13 e14
  refine Qak g15 _ (numA (s3)) 49 r15_14 rfl kj (Qah 49 _ _ g15 49 _ _ r15_14 rfl kj kj (isz (n:=4) kj kj) (eqsz (n:=4) kj kj) kj) fun W15 p15 r15_15=>?_
  have x15:Ext w W15:=Puts.ext p15 x14 b15
  refine Qaf ?_
  refine hK14 _ _ ?_
  refine wp_seq_k fun K16 hK16=>?_
  refine QaP (fun W=>True) [⟨none,[(6,none)]⟩,⟨none,[(7,none)]⟩,⟨none,[(37,some 0),(38,some 1)]⟩,⟨none,[(8,none)]⟩,⟨none,[(40,some 3)]⟩,⟨none,[(39,some 2),(41,some 4)]⟩,⟨none,[(42,some 5)]⟩,⟨none,[(43,some 6)]⟩,⟨none,[(36,some 7)]⟩,⟨none,[(36,some 7)]⟩,⟨none,[]⟩,⟨none,[(9,some 10),(44,some 8)]⟩,⟨none,[(45,some 9)]⟩] [10] [9,12] kj kj kj (fun W hR=>trivial) fun F hF=>?_
  have r12_15:=(Puts.row p15 (Qaa r12_13 e14) (Qad r12_13 l15))
  refine QaW (.agg (numA (s1))) kj kj kj rfl (fun W hR=>(Qag 49 _ g12 49 _ _ (Qaa (Qaa r12_15 (Qai _)) hR) rfl kj kj (isz (n:=4) kj kj))) ?_
  have r13_15:=(Puts.row p15 (Qaa r13_13 e14) (Qad r13_13 l15))
  refine QaW (.agg (numA (1))) kj kj kj rfl (fun W hR=>(Qag 49 _ g13 49 _ _ (Qaa (Qaa r13_15 (Qai _)) hR) rfl kj kj (isz (n:=4) kj kj))) ?_
  refine Qcw (.agg (numA (s4))) 69 #[.agg (numA (s1)),.agg (numA (1))] kj kj kj rfl (fun W=>kj) (fun W hR=>c4 W) ?_
  refine QaW (.agg (numA (s3))) kj kj kj rfl (fun W hR=>(Qag 49 _ g15 49 _ _ (Qaa (Qaa r15_15 (Qai _)) hR) rfl kj kj (isz (n:=4) kj kj))) ?_
  refine Qcw (.agg (numA (s5))) 70 #[.agg (numA (s3))] kj kj kj rfl (fun W=>kj) (fun W hR=>c5 W) ?_
  refine Qcw (.agg (numA (s6))) 66 #[.agg (numA (s4)),.agg (numA (s5))] kj kj kj rfl (fun W=>kj) (fun W hR=>c6 W) ?_
  refine Qcw (.tuple #[.agg (numA (r)),.bool true]) 71 #[.agg (numA (s6))] kj kj kj rfl (fun W=>kj) (fun W hR=>cr W) ?_
  refine Qax (.tuple #[.agg (numA (r)),.bool true]) kj kj rfl (fun W=>kj) ?_
  refine Qax (.agg (numA (r))) kj kj rfl (fun W=>kj) ?_
  refine Qax (.bool true) kj kj rfl (fun W=>kj) ?_
  refine Qkm (numA (0)) 49 kj kj (qR _) kj rfl (fun W=>kj) ?_
  refine Qb1 rfl ?_
  refine Qax (.bool true) kj kj rfl (fun W=>kj) ?_
  refine QcX (hF _ kj fun W16 e16=>?_)
  simp only [List.nil_append,List.cons_append,fins,up]
  intro g17 l17 r17_16 n17
  have b17:w.heap.size≤g17:=qT x15.size l17
  clear hF
  have x16:Ext w W16:=Ext.tr x15 e16
  refine Qbh _ g17 _ (numA (r)) 49 r17_16 rfl (Qah 49 _ _ g17 49 _ _ r17_16 rfl kj kj (isz (n:=4) kj kj) (eqsz (n:=4) kj kj) kj) (fun W hp=>trivial) fun W17 p17 r17_17=>?_
  have x17:Ext w W17:=Puts.ext p17 x16 b17
  refine Qci ?_
  refine hK16 _ _ ?_
  refine wp_seq_k fun K18 hK18=>?_
  refine wp_seq_k fun K19 hK19=>?_
  refine Qac ?_
  refine Qab (.bool true) 46 rfl kj kj ?_
  refine Qab (.bool false) 47 rfl kj kj ?_
  refine Qab (.bool false) 48 rfl kj kj ?_
  refine Qab (.bool false) 49 rfl kj kj ?_
  refine Qab (.bool false) 50 rfl kj kj ?_
  refine QbM 51 rfl kj ?_
  refine QbM 52 rfl kj ?_
  refine QbM 53 rfl kj ?_
  refine Qab (.bool false) 54 rfl kj kj ?_
  refine Qab (.bool false) 55 rfl kj kj ?_
  refine Qaf ?_
  refine hK19 _ _ ?_
  refine cond_false kj ?_
  refine wp_skip ?_
  refine hK18 _ _ ?_
  refine wp_seq_k fun K20 hK20=>?_
  refine wp_seq_k fun K21 hK21=>?_
  refine Qac ?_
  refine Qab (.bool false) 57 rfl kj kj ?_
  refine Qaf ?_
  refine hK21 _ _ ?_
  refine cond_false kj ?_
  refine wp_skip ?_
  refine hK20 _ _ ?_
  refine wp_seq_k fun K22 hK22=>?_
  refine Qac ?_
  refine Qab (.agg (numA (r))) 60 rfl kj (Qag 49 _ g17 49 _ _ r17_17 rfl kj kj (isz (n:=4) kj kj)) ?_
  have r8_9:=(Qaa (Qaa r8_7 e8) e9)
  have r8_10:=(Qaa r8_9 e10)
  have r8_13:=(Puts.row p13 (Puts.row p12 (Qaa r8_10 e11) (Qad r8_9 l12)) (Qad r8_10 l13))
  have r8_15:=(Puts.row p15 (Qaa r8_13 e14) (Qad r8_13 l15))
  have r8_17:=(Puts.row p17 (Qaa (Puts.row p15 (Qaa (Puts.row p13 (Puts.row p12 (Qaa (Qaa (Qaa (Qaa r8_7 e8) e9) e10) e11) (Qad r8_9 l12)) (Qad r8_10 l13)) e14) (Qad r8_13 l15)) e16) (Qad r8_15 l17))
  refine Qab (.agg (numA (s0))) 61 rfl kj (Qag 49 _ g8 49 _ _ r8_17 rfl kj kj (isz (n:=4) kj kj)) ?_
  refine Qar (.agg (cat [numA (px),numA (pl)])) 43 #[.agg (numA (r)),.agg (numA (s0))] 62 rfl kj kj (cp _) fun W18 e18=>?_
  have x18:Ext w W18:=Ext.tr x17 e18
  have r4_4:=(Qaa (Puts.row p3 r4_2 (Qat r3_1 l4)) e4)
  have r4_9:=(Qaa (Qaa (Qaa (Puts.row p6 (Qaa r4_4 e5) (Qad r4_4 l8)) e7) e8) e9)
  have r4_10:=(Qaa r4_9 e10)
  have r4_13:=(Puts.row p13 (Puts.row p12 (Qaa r4_10 e11) (Qad r4_9 l12)) (Qad r4_10 l13))
  have r4_15:=(Puts.row p15 (Qaa r4_13 e14) (Qad r4_13 l15))
  have r4_18:=(Qaa (Puts.row p17 (Qaa (Puts.row p15 (Qaa (Puts.row p13 (Puts.row p12 (Qaa (Qaa (Qaa (Qaa (Qaa (Puts.row p6 (Qaa (Qaa (Puts.row p3 r4_2 (Qat r3_1 l4)) e4) e5) (Qad r4_4 l8)) e7) e8) e9) e10) e11) (Qad r4_9 l12)) (Qad r4_10 l13)) e14) (Qad r4_13 l15)) e16) (Qad r4_15 l17)) e18)
  refine Qak g4 _ (cat [numA (px),numA (pl)]) 51 r4_18 rfl kj (Qah 51 _ _ g4 51 _ _ r4_18 rfl kj kj (isz (n:=8) kj kj) (eqsz (n:=8) kj kj) kj) fun W19 p19 r4_19=>?_
  have x19:Ext w W19:=Puts.ext p19 x18 b4
  refine Qab (.bool true) 3 rfl kj kj ?_
  refine Qaf ?_
  refine hK22 _ _ ?_
  refine wp_ret ?_
  exact (show bodyPost _ _ _ .ret _ _ from ret2 (.agg (cat [numA (px),numA (pl)])) (.bool true) rfl (QaC g4 51 _ r4_19 kj kj (isz (n:=8) kj kj)) (Qbr kj) ⟨rfl,x19⟩)
theorem Qoz (xs ys:List Int) (hx:xs.length=32) (hb:Qal xs) (ys_len:ys.length=32) (s0:Int) (ho:(nth xs 31/128==1)=true) (hc:decide (ys=(xs).set 31 (nth xs 31%128))=false)
    (c0:∀ W,Calls Tryd.prog 44 #[.agg (ints .u8 ((xs).set 31 (nth xs 31%128)))] W (Ret W (.agg (numA (s0)))))
    (cb:∀ W,Calls Tryd.prog 50 #[.agg (numA (s0))] W (Ret W (.agg (ints .u8 ys))))
    (w:World) (tB:TypeId) (hB:w.heap[2]? = some (.cells (ints .u8 Qb0) tB)):Calls Tryd.prog 34 #[.agg (ints .u8 (xs))] w (Ret w (.tuple #[.agg (cat [numA (0),numA (0)]),.bool false])):=by
  refine enter 63 [(0,.agg (ints .u8 (xs)))] Tryd.func34 rfl rfl kj rfl ?_
  refine wp_seq_k fun K2 hK2=>?_
  refine Qac ?_
  refine Qaj (ints .u8 (xs)) 23 1 rfl kj kj fun g3 W1 l3 e1 r3_1=>?_
  have x1:Ext w W1:=Ext.tr (Rely.Ext.refl w) e1
  have b3:w.heap.size≤g3:=qT (Rely.Ext.refl w).size l3
  refine Qaj (cat [numA (0),numA (0)]) 51 2 rfl kj kj fun g4 W2 l4 e2 r4_2=>?_
  have x2:Ext w W2:=Ext.tr x1 e2
  have b4:w.heap.size≤g4:=qT x1.size l4
  refine Qab (.bool false) 3 rfl kj kj ?_
  refine Qaf ?_
  refine hK2 _ _ ?_
  refine wp_seq_k fun K5 hK5=>?_
  refine Qac ?_
  refine Qab (.pointer (some ⟨g3,31,none⟩)) 11 rfl kj kj ?_
  have r3_2:=(Qaa r3_1 e2)
  refine Qab (.int .u8 (nth (xs) 31)) 12 rfl kj (Qam 5 _ g3 31 23 _ (.int .u8 (nth (xs) 31)) _ r3_2 rfl kj (Qas _ _ _ (Nat.lt_of_lt_of_eq (by decide) hx.symm)) kj) ?_
  refine Qab (.int .u8 (nth xs 31/128)) 13 rfl kj (Qbp .shr _ _ _ _ .u8 .u64 _ _ _ rfl kj kj (QcY _ _ _ _ _ _ (show (0:Int)≤7 by decide) (shr7 _))) ?_
  refine Qab (.bool true) 14 rfl kj (Qan (u:=.bool (((nth xs 31/128)==1))) kj (congrArg Value.bool ho)) ?_
  refine Qab (.bool true) 4 rfl kj kj ?_
  refine Qaf ?_
  refine hK5 _ _ ?_
  refine wp_seq_k fun K6 hK6=>?_
  refine Qac ?_
  refine Qab (.pointer (some ⟨g3,31,none⟩)) 15 rfl kj kj ?_
  refine Qab (.int .u8 (nth (xs) 31)) 16 rfl kj (Qam 5 _ g3 31 23 _ (.int .u8 (nth (xs) 31)) _ r3_2 rfl kj (Qas _ _ _ (Nat.lt_of_lt_of_eq (by decide) hx.symm)) kj) ?_
  refine Qab (.int .u8 (nth xs 31%128)) 17 rfl kj (Qan (u:=.int .u8 (bits .and .u8 ((nth (xs) 31)) (127))) kj (congrArg (Value.int .u8) (QfS _ (hb.nth 31)))) ?_
  refine Qab (.pointer (some ⟨g3,31,none⟩)) 18 rfl kj kj ?_
  refine Qak g3 _ (ints .u8 ((xs).set 31 (nth xs 31%128))) 23 r3_2 rfl kj (Qa1 5 _ _ g3 31 23 _ _ r3_2 rfl kj kj kj (Nat.lt_of_lt_of_eq (show 31<32 by decide) hx.symm)) fun W3 p3 r3_3=>?_
  have x3:Ext w W3:=Puts.ext p3 x2 b3
  refine Qaf ?_
  refine hK6 _ _ ?_
  refine wp_seq_k fun K7 hK7=>?_
  refine Qac ?_
  refine Qab (.agg (ints .u8 ((xs).set 31 (nth xs 31%128)))) 19 rfl kj (Qag 23 _ g3 23 _ _ r3_3 rfl kj kj (isz (n:=32) kj ((Qae _ _).trans ((List.length_set ..).trans hx)))) ?_
  refine Qar (.agg (numA (s0))) 44 #[.agg (ints .u8 ((xs).set 31 (nth xs 31%128)))] 20 rfl kj kj (c0 _) fun W4 e4=>?_
  have x4:Ext w W4:=Ext.tr x3 e4
  refine Qaj (numA (0)) 49 5 rfl kj kj fun g8 W5 l8 e5 r8_5=>?_
  have x5:Ext w W5:=Ext.tr x4 e5
  have b8:w.heap.size≤g8:=qT x4.size l8
  refine Qak g8 _ (numA (s0)) 49 r8_5 rfl kj (Qah 49 _ _ g8 49 _ _ r8_5 rfl kj kj (isz (n:=4) kj kj) (eqsz (n:=4) kj kj) kj) fun W6 p6 r8_6=>?_
  have x6:Ext w W6:=Puts.ext p6 x5 b8
  refine Qaf ?_
  refine hK7 _ _ ?_
  refine wp_seq_k fun K9 hK9=>?_
  refine wp_seq_k fun K10 hK10=>?_
  refine QaK 4 [⟨none,[(5,none)]⟩,⟨none,[(21,some 0)]⟩,⟨none,[(1,none)]⟩,⟨none,[(22,some 1),(23,some 2)]⟩] kj kj fun F hF=>?_
  refine Qaq (.agg (numA (s0))) kj kj (fun W hR=>(Qag 49 _ g8 49 _ _ (Qaa (Qaa r8_6 (Qai _)) hR) rfl kj kj (isz (n:=4) kj kj))) ?_
  refine Qau (.agg (ints .u8 (ys))) 50 #[.agg (numA (s0))] kj kj (fun W=>kj) (fun W hR=>cb W) ?_
  have r3_4:=(Qaa r3_3 e4)
  have r3_6:=(Puts.row p6 (Qaa (Qaa r3_3 e4) e5) (Qad r3_4 l8))
  refine Qaq (.agg (ints .u8 ((xs).set 31 (nth xs 31%128)))) kj kj (fun W hR=>(Qag 23 _ g3 23 _ _ (Qaa (Qaa r3_6 (Qai _)) hR) rfl kj kj (isz (n:=32) kj ((Qae _ _).trans ((List.length_set ..).trans hx))))) ?_
  refine Qav (.bool true) kj kj (fun W=>(Qct 23 _ _ _ _ _ (.bool true) rfl kj kj kj (Qef _ _ false ys_len (by rw [List.length_set]; exact hx) hc _))) ?_
  refine Qa9 (hF _ kj fun W7 e7=>?_)
  simp only [ups,up,Kn.val,List.take_succ_cons,List.take_zero,List.drop_succ_cons,List.drop_zero,List.nil_append,List.cons_append]
  clear hF
  have x7:Ext w W7:=Ext.tr x6 e7
  refine Qaf ?_
  refine hK10 _ _ ?_
  refine cond_true kj ?_
  refine wp_seq_k fun K11 hK11=>?_
  refine Qac ?_
  refine Qab (.agg (cat [numA (0),numA (0)])) 25 rfl kj kj ?_
  have r4_4:=(Qaa (Puts.row p3 r4_2 (Qat r3_1 l4)) e4)
  have r4_7:=(Qaa (Puts.row p6 (Qaa (Qaa (Puts.row p3 r4_2 (Qat r3_1 l4)) e4) e5) (Qad r4_4 l8)) e7)
  refine Qak g4 _ (cat [numA (0),numA (0)]) 51 r4_7 rfl kj (Qah 51 _ _ g4 51 _ _ r4_7 rfl kj kj (isz (n:=8) kj kj) (eqsz (n:=8) kj kj) kj) fun W8 p8 r4_8=>?_
  have x8:Ext w W8:=Puts.ext p8 x7 b4
  refine Qab (.bool false) 3 rfl kj kj ?_
  refine Qaf ?_
  refine hK11 _ _ ?_
  refine wp_ret ?_
  exact (show bodyPost _ _ _ .ret _ _ from ret2 (.agg (cat [numA (0),numA (0)])) (.bool false) rfl (QaC g4 51 _ r4_8 kj kj (isz (n:=8) kj kj)) (Qbr kj) ⟨rfl,x8⟩)
end Go.Proofs.YtdoadngmgmdlbaaDoor.Field
end
section
namespace Go.Proofs.YtdoadngmgmdlbaaDoor.Field
open Go Go.RowKit
open Rely Auto
def cutK (xs : List Int):List Int:=xs.set 31 (nth xs 31%128)
def yK (xs : List Int):Int:=QfE (cutK xs)
def uK (y : Int):Int:=(y*y%p-1)%p*invN ((y*y%p*dN%p+1)%p)%p
def rK (xs : List Int):Int:=Qd2 (uK (yK xs))
def oddK (xs : List Int):Bool:=nth xs 31/128==1
def canK (xs : List Int):Bool:=decide (Qao (yK xs)=cutK xs)
def okK (xs : List Int):Bool:=canK xs&&(QbU (uK (yK xs))&&!(oddK xs&&rK xs==0))
def xK (xs : List Int):Int:=if okK xs=true then (if oddK xs=true then QgF (rK xs) else rK xs) else 0
def lK (xs : List Int):Int:=if okK xs=true then (yK xs-1)%p else 0
def zK (xs : List Int):Int:=if okK xs=true then yK xs else 1
theorem Qnf {xs : List Int} (hx:xs.length=32):(cutK xs).length=32:=by unfold cutK; rw [List.length_set]; exact hx
theorem QjZ {xs : List Int} (hb:Qal xs):Qal (cutK xs):=by
  intro x hx
  rcases List.mem_or_eq_of_mem_set hx with h | h
  · exact hb x h
  · have:=hb.nth 31; omega
theorem Qf3 (xs : List Int):isN (rK xs):=Qk0 _
theorem Qnx (xs : List Int):isN (yK xs):=QjV _
theorem QpC (xs : List Int):isN (xK xs):=by
  unfold xK
  split
  · split
    · exact QiU _ (Qf3 xs)
    · exact Qf3 xs
  · exact num_isN 0
theorem QpB (xs : List Int):isN (zK xs):=by unfold zK; split; exact Qnx xs; exact num_isN 1
set_option maxRecDepth 100000 in
theorem pfromC (xs : List Int) (hx:xs.length=32) (hb:Qal xs) (w:World) (tB:TypeId) (hB:w.heap[2]? = some (.cells (ints .u8 Qb0) tB)) :
    Calls Tryd.prog 34 #[.agg (ints .u8 xs)] w (Ret w (.tuple #[.agg (cat [numA (xK xs),numA (lK xs)]),.bool (okK xs)])):=by
  have c0:∀ W,Calls Tryd.prog 44 #[.agg (ints .u8 (cutK xs))] W (Ret W (num (yK xs))):=fun W=>QmU (cutK xs) (Qnf hx) (QjZ hb) W
  have hy:=Qnx xs
  have cb:∀ W,Calls Tryd.prog 50 #[num (yK xs)] W (Ret W (.agg (ints .u8 (Qao (yK xs))))):=fun W=>bytes _ hy W
  have cr:∀ b,QbU (uK (yK xs))=b→∀ W,Calls Tryd.prog 71 #[num (uK (yK xs))] W (Ret W (.tuple #[num (rK xs),.bool b])):=fun b e W=>by
    have:=root (uK (yK xs)) (Qa0 _) W
    rw [e] at this
    exact this
  have c1:=fun W=>mul _ _ hy hy W
  have c2:=fun W=>mul _ _ (Qa0 (yK xs*yK xs)) QeE W
  have c3:=fun W=>add _ _ (Qa0 (yK xs*yK xs%p*dN)) (num_isN 1) W
  have c4:=fun W=>sub _ _ (Qa0 (yK xs*yK xs)) (num_isN 1) W
  have c5:=fun W=>inv _ (Qa0 (yK xs*yK xs%p*dN%p+1)) W
  have c6:=fun W=>mul _ _ (Qa0 (yK xs*yK xs%p-1)) (Qdd ((yK xs*yK xs%p*dN%p+1)%p)) W
  cases hc:canK xs
  · have e:okK xs=false:=by unfold okK; rw [hc]; rfl
    unfold xK lK
    rw [e]
    cases ho:oddK xs
    · exact Qo5 xs _ hx hb (bytes_len _) _ ho hc c0 cb w tB hB
    · exact Qoz xs _ hx hb (bytes_len _) _ ho hc c0 cb w tB hB
  · cases hr:QbU (uK (yK xs))
    · have e:okK xs=false:=by unfold okK; rw [hc,hr]; rfl
      unfold xK lK
      rw [e]
      cases ho:oddK xs
      · exact Qo4 xs _ hx hb (bytes_len _) _ _ _ _ _ _ _ _ ho hc c0 c1 c2 c3 c4 c5 c6 cb (cr _ hr) w tB hB
      · exact Qo3 xs _ hx hb (bytes_len _) _ _ _ _ _ _ _ _ ho hc c0 c1 c2 c3 c4 c5 c6 cb (cr _ hr) w tB hB
    · cases ho:oddK xs
      · have e:okK xs=true:=by unfold okK; rw [hc,hr,ho]; rfl
        unfold xK lK
        rw [e,ho]
        exact Qo0 xs _ hx hb (bytes_len _) _ _ _ _ _ _ _ _ _ _ ho hc c0 c1 c2 c3 c4 c5 c6 cb (cr _ hr) (fun W=>patC _ _ (Qf3 xs) hy W) w tB hB
      · cases hz:(rK xs==0)
        · have e:okK xs=true:=by unfold okK; rw [hc,hr,ho,hz]; rfl
          unfold xK lK
          rw [e,ho]
          exact Qo1 xs _ hx hb (bytes_len _) _ _ _ _ _ _ _ _ _ _ _ ho hc (Qf3 xs) hz c0 c1 c2 c3 c4 c5 c6 cb (cr _ hr) (fun W=>Qqd _ (Qf3 xs) W) (fun W=>patC _ _ (QiU _ (Qf3 xs)) hy W) w tB hB
        · have e:okK xs=false:=by unfold okK; rw [hc,hr,ho,hz]; rfl
          unfold xK lK
          rw [e]
          exact Qo2 xs _ hx hb (bytes_len _) _ _ _ _ _ _ _ _ ho hc (Qf3 xs) hz c0 c1 c2 c3 c4 c5 c6 cb (cr _ hr) w tB hB
end Go.Proofs.YtdoadngmgmdlbaaDoor.Field
end
section
namespace Go.Proofs.YtdoadngmgmdlbaaDoor.Field
open Go Go.RowKit
open Rely Auto
theorem addL (a b:Int):(a%p+b)%p=(a+b)%p:=Int.emod_add_emod ..
theorem addR (a b:Int):(a+b%p)%p=(a+b)%p:=Int.add_emod_emod ..
theorem subL (a b:Int):(a%p-b)%p=(a-b)%p:=Int.emod_sub_emod ..
theorem subR (a b:Int):(a-b%p)%p=(a-b)%p:=Int.sub_emod_emod ..
theorem QdA {a b:Int} (h:a=b):a%p=b%p:=by rw [h]
theorem QaZ {a : Int} (h:isN a):a%p=a:=Int.emod_eq_of_lt h.1 h.2
theorem Qoo {y : Int} (h:isN y) (x:Int):pyF x ((y-1)%p)=y:=by
  unfold pyF
  show ((y-1)%p+1)%p=y
  rw [addL,show y-1+1=y by omega,QaZ h]
theorem Qpd : invN 1=1:=by
  have h:=QgR 1 (num_isN 1) (by decide)
  rw [Int.one_mul,QaZ (Qdd 1)] at h
  exact h
theorem QfA {x : Int} (h:isN x):x*invN 1%p=x:=by rw [Qpd,Int.mul_one,QaZ h]
theorem QiT (r : Int):QgF r=(0-r)%p:=by unfold QgF; rfl
theorem Qoj (xs : List Int) (i:Nat):xs.set i (nth xs i)=xs:=by
  by_cases h:i<xs.length
  · have e:nth xs i=xs[i]:=by simp [nth,h]
    rw [e]
    exact List.set_getElem_self h
  · exact List.set_eq_of_length_le (by omega)
theorem Qpl (x y:Int):(enc x y).length=32:=by unfold enc; split; simp [bytes_len]; exact bytes_len y
end Go.Proofs.YtdoadngmgmdlbaaDoor.Field
end
section
namespace Go.Proofs.YtdoadngmgmdlbaaDoor.Field
open Go Go.RowKit
open Rely Auto
def blN : Int:=46316835694926478169428394003475163141307993866256225615783033603165251855959
theorem Qp3 : QkF=(bxN,blN):=by decide +kernel
theorem QqG (w : World) (tX:TypeId) (hX:w.heap[0]? = some (.cells (ints .u8 QbH) tX)) (tY:TypeId) (hY:w.heap[1]? = some (.cells (ints .u8 QbG) tY)) :
    Calls Tryd.prog 20 #[] w (Ret w (.agg (cat [numA bxN,numA blN]))):=by
  have:=Qqh w tX hX tY hY
  rw [Qp3] at this
  exact this
end Go.Proofs.YtdoadngmgmdlbaaDoor.Field
end
section
namespace Go.Proofs.YtdoadngmgmdlbaaDoor.Field
open Go Go.RowKit
open Rely Auto
theorem Qcj {a b:Int} (ha:a%p≠0) (hb:b%p≠0):a*b%p≠0:=fun h=>by
  have hA:=QgR (a%p) (Qa0 _) ha
  apply hb
  have e:(a%p*invN (a%p)%p)*b%p=invN (a%p)*(a*b%p)%p:=by
    rw [modL,modR,Int.mul_assoc,modL,←Int.mul_assoc,←Int.mul_assoc,Int.mul_comm a]
  rw [hA,h,Int.one_mul,Int.mul_zero] at e
  rw [e]
  rfl
theorem Qki (a b c d e f g h k:Int):QcI a b c d e f g h k =
    (((b+a)*(f+e)-(b-a)*(f-e))*(c*g+c*g-(d*h*k+d*h*k))%p,(c*g+c*g+(d*h*k+d*h*k))*((b+a)*(f+e)+(b-a)*(f-e))%p,
     (c*g+c*g-(d*h*k+d*h*k))*(c*g+c*g+(d*h*k+d*h*k))%p,((b+a)*(f+e)-(b-a)*(f-e))*((b+a)*(f+e)+(b-a)*(f-e))%p):=by
  simp only [QcI,modL,modR,addL,addR,subL,subR]
theorem Qk5 (x y z u v t:Int):QdU x y z u v t =
    (z*t*((z*t*(z*t)-dN*(x*u*(y*v)))*((x+y)*(u+v)-x*u-y*v))%p,z*t*((z*t*(z*t)+dN*(x*u*(y*v)))*(y*v+x*u))%p,
     (z*t*(z*t)-dN*(x*u*(y*v)))*(z*t*(z*t)+dN*(x*u*(y*v)))%p):=by
  simp only [QdU,modL,modR,addL,addR,subL,subR]
theorem Qox (a b c d:Int):Qe2 a b c d=(a*invN c%p,(b*invN c%p-1)%p):=rfl
end Go.Proofs.YtdoadngmgmdlbaaDoor.Field
end
section
namespace Go.Proofs.YtdoadngmgmdlbaaDoor.Field
open Go Go.RowKit
open Rely Auto
set_option maxHeartbeats 4000000
theorem zc1 {e a c:Int} (ha:a%p=0) (he:e=c*a):e%p=0:=by
  rw [he,Int.mul_emod,ha,Int.mul_zero]; rfl
theorem zc2 {e a b c d:Int} (ha:a%p=0) (hb:b%p=0) (he:e=c*a+d*b):e%p=0:=by
  rw [he,Int.add_emod,zc1 ha rfl,zc1 hb rfl]; rfl
theorem zc4 {e a b c d k l m n:Int} (ha:a%p=0) (hb:b%p=0) (hc:c%p=0) (hd:d%p=0) (he:e=k*a+l*b+m*c+n*d):e%p=0:=by
  rw [he,Int.add_emod,Int.add_emod (k*a+l*b),zc2 ha hb rfl,zc1 hc rfl,zc1 hd rfl]; rfl
theorem Qgx {a b:Int} (h:a*b%p=0):a%p=0∨b%p=0:=by
  by_cases ha:a%p=0
  · exact .inl ha
  · by_cases hb:b%p=0
    · exact .inr hb
    · exact absurd h (Qcj ha hb)
theorem Qgw {a b:Int} (h:(a-b)%p=0):a%p=b%p:=Int.emod_eq_emod_iff_emod_sub_eq_zero.2 h
theorem Qkn {a b:Int} (h:a%p=b%p):(a-b)%p=0:=Int.emod_eq_emod_iff_emod_sub_eq_zero.1 h
theorem QqR {a : Int} (h:2*a%p=0):a%p=0:=(Qgx h).resolve_left (by decide)
theorem QfY {a : Int} (h:a%p≠0):(a*invN (a%p)-1)%p=0:=by
  have:=QgR (a%p) (Qa0 _) h
  rw [modL] at this
  exact Qkn (by rw [this]; rfl)
def hN : Nat:=28948022309329048855892746252171976963317496166410141009864396001978282409974
theorem Qlw : Prime.pm 57896044618658097711785492504343953926634992332820282019728792003956564819949 256 ((p-dN).toNat) hN=57896044618658097711785492504343953926634992332820282019728792003956564819948:=by decide +kernel
theorem Qnd : ((p-dN).toNat:Int)^hN%p=p-1:=by
  have h:=Prime.pm_eq 57896044618658097711785492504343953926634992332820282019728792003956564819949 256 ((p-dN).toNat) hN (by decide)
  rw [Qlw] at h
  have h2:=QdG ((p-dN).toNat) hN 57896044618658097711785492504343953926634992332820282019728792003956564819949
  rw [←h] at h2
  exact h2
theorem Qq8 (h : Nat) (e:h=hN):2*h=57896044618658097711785492504343953926634992332820282019728792003956564819949-1:=by rw [e]; decide
theorem Qou (h : Nat) (D a:Int) (hh:2*h=57896044618658097711785492504343953926634992332820282019728792003956564819949-1) (hD:D^h%p=p-1) (b:Int) (ha:a%p≠0)
    (hs:D*(a*a)%p=b*b%p):False:=by
  have ha1:=QdR (a%p) (Qa0 _) ha (2*h) hh
  rw [Qdv] at ha1
  have e:(D*(a*a))^h%p=(b*b)^h%p:=by rw [←Qdv (D*(a*a)),hs,Qdv]
  have sq:∀ c:Int,(c*c)^h=c^(2*h):=fun c=>by rw [Int.pow_mul,show c^2=c*c from by rw [Int.pow_succ,Int.pow_succ,Int.pow_zero,Int.one_mul]]
  rw [Int.mul_pow,sq,sq,Int.mul_emod,hD,ha1,Int.mul_one] at e
  rw [show (p-1)%p=p-1 by decide] at e
  by_cases hb:b%p=0
  · rw [←Qdv b,hb] at e
    have h0:0<2*h:=by omega
    rw [Int.zero_pow (by omega)] at e
    exact absurd e (by decide)
  · have hb1:=QdR (b%p) (Qa0 _) hb (2*h) hh
    rw [Qdv] at hb1
    rw [hb1] at e
    exact absurd e (by decide)
theorem nonsq {a b:Int} (ha:a%p≠0) (h:(-dN*(a*a)-b*b)%p=0):False:=by
  refine Qou hN ((p-dN).toNat:Int) a (Qq8 _ rfl) Qnd b ha ?_
  rw [←Qgw h]
  have e:((p-dN).toNat:Int)=p-dN:=by decide +kernel
  rw [e]
  refine Int.emod_eq_emod_iff_emod_sub_eq_zero.2 ?_
  rw [show (p-dN)*(a*a) - -dN*(a*a)=p*(a*a) by grind]
  exact Int.mul_emod_right ..
def cv (x y:Int):Int:=-(x*x)+y*y-1-dN*(x*x*(y*y))
def onC (x y:Int):Prop:=cv x y%p=0
def eps (x y u v:Int):Int:=dN*(x*u*(y*v))
theorem Qi6 (d i s x y u v:Int) (hs:s*s=1):-d*((i*x*y)*(i*u+s*v)*((i*x*y)*(i*u+s*v)))-(i*x+s*(d*(x*u*(y*v)))*y)*(i*x+s*(d*(x*u*(y*v)))*y) =
    (-(x*x)*(d*(i*i)*(u*u)*(y*y)+2*d*i*u*s*v*(y*y)-d*(u*u)*(y*y)+d*(v*v)*(y*y)+1))*(i*i+1) + -1*(-(x*x)+y*y-1-d*(x*x*(y*y)))
      + (d*(x*x)*(y*y))*(-(u*u)+v*v-1-d*(u*u*(v*v)))+(1-y*y)*(d*(x*u*(y*v))*(d*(x*u*(y*v)))-1):=by grind
theorem complete {x y u v:Int} (h1:onC x y) (h2:onC u v):(eps x y u v*eps x y u v-1)%p≠0:=fun he=>by
  have hi:(QbO*QbO+1)%p=0:=by rw [←addL,Qg7]; rfl
  have hi0:QbO%p≠0:=fun e=>by
    have:=Qg7
    rw [←modL,e,Int.zero_mul] at this
    exact absurd this (by decide)
  have hx:eps x y u v%p≠0:=fun e=>by
    rw [←subL,←modL,e,Int.zero_mul] at he
    exact absurd he (by decide)
  have hx':∀ a b:Int,eps x y u v=a*b→a%p≠0:=fun a b e h=>by
    apply hx; rw [e,←modL,h,Int.zero_mul]; rfl
  have hX:=hx' x (dN*(u*(y*v))) (by unfold eps; grind)
  have hY:=hx' y (dN*(u*(x*v))) (by unfold eps; grind)
  have hU:=hx' u (dN*(x*(y*v))) (by unfold eps; grind)
  have hb:(QbO*x*y)%p≠0:=Qcj (Qcj hi0 hX) hY
  have key:∀ s:Int,s*s=1→(QbO*u+s*v)%p=0:=fun s hs=>by
    apply Decidable.byContradiction
    intro hne
    exact nonsq (Qcj hb hne) (zc4 hi h1 h2 he (Qi6 dN QbO s x y u v hs))
  have k1:=key 1 rfl
  have k2:=key (-1) rfl
  have k3:QbO*(2*u)%p=0:=zc2 k1 k2 (c:=1) (d:=1) (by grind)
  exact hU (QqR ((Qgx k3).resolve_left hi0))
theorem QeU {x y u v:Int} (h1:onC x y) (h2:onC u v):(1+eps x y u v)%p≠0:=fun h=>complete h1 h2 (zc1 h (c:=eps x y u v-1) (by grind))
theorem QeT {x y u v:Int} (h1:onC x y) (h2:onC u v):(1-eps x y u v)%p≠0:=fun h=>complete h1 h2 (zc1 h (c:=-1-eps x y u v) (by grind))
def aX (x y u v:Int):Int:=(x*v+y*u)*invN ((1+eps x y u v)%p)%p
def aY (x y u v:Int):Int:=(y*v+x*u)*invN ((1-eps x y u v)%p)%p
theorem Qlz (d x y u v:Int):-((x*v+y*u)*(x*v+y*u)*((1-d*(x*u*(y*v)))*(1-d*(x*u*(y*v)))))+(y*v+x*u)*(y*v+x*u)*((1+d*(x*u*(y*v)))*(1+d*(x*u*(y*v))))
      - (1+d*(x*u*(y*v)))*(1+d*(x*u*(y*v)))*((1-d*(x*u*(y*v)))*(1-d*(x*u*(y*v))))-d*((x*v+y*u)*(x*v+y*u)*((y*v+x*u)*(y*v+x*u))) =
    (d^3*u^4*v^4*x^2*y^2-d^2*u^4*v^4*x^2+d^2*u^4*v^4*y^2-d^2*u^4*v^4-2*d*u^4*v^4-d*u^4*v^2*x^2+d*u^4*v^2*y^2+d*u^2*v^4*x^2-d*u^2*v^4*y^2-2*d*u^2*v^2-2*u^4*v^2+u^4+2*u^2*v^4-4*u^2*v^2+v^4)*(-(x*x)+y*y-1-d*(x*x*(y*y)))
      + (d*u^2*v^2*x^4+2*d*u^2*v^2*x^2+d*u^2*v^2*y^4-2*d*u^2*v^2*y^2+d*u^2*v^2+2*u^2*v^2*x^2-2*u^2*v^2*y^2+2*u^2*v^2-u^2*x^2+u^2*y^2-u^2+v^2*x^2-v^2*y^2+v^2+1)*(-(u*u)+v*v-1-d*(u*u*(v*v))):=by grind
theorem Qi7 (d n m a b i j X Y:Int) (hi:(a*i-1)%p=0) (hj:(b*j-1)%p=0) (hX:(X-n*i)%p=0) (hY:(Y-m*j)%p=0)
    (h:(-(n*n*(b*b))+m*m*(a*a)-a*a*(b*b)-d*(n*n*(m*m)))%p=0):(-(X*X)+Y*Y-1-d*(X*X*(Y*Y)))%p=0:=by
  have e1:(-(n*i*(n*i))+m*j*(m*j)-1-d*(n*i*(n*i)*(m*j*(m*j))))%p=0:=by
    refine zc4 h hi hj (d:=0) rfl (k:=i*i*(j*j)) (l:=-((m*m*(j*j))*(a*i+1))+(a*i+1)*(b*j)*(b*j)) (m:=n*n*(i*i)*(b*j+1)+(b*j+1)) (n:=0) ?_
    grind
  refine zc4 e1 hX hY (d:=0) rfl (k:=1) (l:=-(X+n*i)-d*(Y*Y)*(X+n*i)) (m:=(Y+m*j)-d*(n*i*(n*i))*(Y+m*j)) (n:=0) ?_
  grind
theorem closed {x y u v:Int} (h1:onC x y) (h2:onC u v):onC (aX x y u v) (aY x y u v):=by
  unfold onC cv
  refine Qi7 dN (x*v+y*u) (y*v+x*u) (1+eps x y u v) (1-eps x y u v) _ _ _ _ (QfY (QeU h1 h2)) (QfY (QeT h1 h2)) (Qkn (Int.emod_emod ..)) (Qkn (Int.emod_emod ..)) ?_
  exact zc2 h1 h2 (Qlz dN x y u v)
theorem QiZ : onC 0 1:=rfl
structure RepW (X Y Z T x y : Int) : Prop where
  n:isN Z
  z:Z≠0
  hx:X=Z*x%p
  hy:Y=Z*y%p
  ht:T=Z*(x*y)%p
structure RepR (X Y Z x y : Int) : Prop where
  n:isN Z
  z:Z≠0
  hx:X=Z*x%p
  hy:Y=Z*y%p
theorem Qg8 (k a i n z:Int) (hi:(a*i-1)%p=0) (hz:(z-k*a)%p=0):(k*n)%p=z*(n*i%p)%p:=by
  rw [modR]
  refine (Qgw (zc2 hi hz (c:=k*n) (d:=n*i) ?_)).symm
  grind
theorem Qme (k a b i j n m z:Int) (hi:(a*i-1)%p=0) (hj:(b*j-1)%p=0) (hz:(z-k*(b*a))%p=0):(k*(n*m))%p=z*(n*i%p*(m*j%p))%p:=by
  have e:(n*i%p*(m*j%p))%p=n*i*(m*j)%p:=by rw [modL,modR]
  rw [←modR z,e,modR]
  refine (Qgw (zc4 hi hj hz (d:=0) rfl (k:=k*b*j*(n*m)) (l:=k*(n*m)) (m:=n*i*(m*j)) (n:=0) ?_)).symm
  grind
theorem QlN {X Y Z T x y U V S R u v:Int} (h1:onC x y) (h2:onC u v) (p1:RepW X Y Z T x y) (p2:RepW U V S R u v) :
    RepW (QcI X Y Z T U V S R dN).1 (QcI X Y Z T U V S R dN).2.1 (QcI X Y Z T U V S R dN).2.2.1 (QcI X Y Z T U V S R dN).2.2.2 (aX x y u v) (aY x y u v):=by
  have e:QcI X Y Z T U V S R dN=(4*(Z*S*(Z*S))*(1-eps x y u v)*(x*v+y*u)%p,4*(Z*S*(Z*S))*(1+eps x y u v)*(y*v+x*u)%p,
      4*(Z*S*(Z*S))*((1-eps x y u v)*(1+eps x y u v))%p,4*(Z*S*(Z*S))*((x*v+y*u)*(y*v+x*u))%p):=by
    rw [p1.hx,p1.hy,p1.ht,p2.hx,p2.hy,p2.ht]
    have e0:QcI (Z*x%p) (Z*y%p) Z (Z*(x*y)%p) (S*u%p) (S*v%p) S (S*(u*v)%p) dN=QcI (Z*x) (Z*y) Z (Z*(x*y)) (S*u) (S*v) S (S*(u*v)) dN:=by
      simp only [QcI,modL,modR,addL,addR,subL,subR]
    rw [e0,Qki]
    refine Prod.ext ?_ (Prod.ext ?_ (Prod.ext ?_ ?_)) <;> refine QdA ?_ <;> ((try unfold eps); grind)
  have hz:(4*(Z*S*(Z*S))*((1-eps x y u v)*(1+eps x y u v)))%p≠0:=by
    have a1:Z%p≠0:=by rw [QaZ p1.n]; exact p1.z
    have a2:S%p≠0:=by rw [QaZ p2.n]; exact p2.z
    exact Qcj (Qcj (by decide) (Qcj (Qcj a1 a2) (Qcj a1 a2))) (Qcj (QeT h1 h2) (QeU h1 h2))
  have i1:=QfY (QeU h1 h2)
  have i2:=QfY (QeT h1 h2)
  rw [e]
  refine ⟨Qa0 _,hz,?_,?_,?_⟩
  · exact Qg8 _ _ _ _ _ i1 (by rw [show ∀ a b:Int,a%p-b=a%p-b from fun _ _=>rfl,subL]; exact zc1 (a:=0) rfl (c:=0) (by grind))
  · exact Qg8 _ _ _ _ _ i2 (by rw [subL]; exact zc1 (a:=0) rfl (c:=0) (by grind))
  · exact Qme _ _ _ _ _ _ _ _ i1 i2 (by rw [subL]; exact zc1 (a:=0) rfl (c:=0) (by grind))
theorem Qmh {X Y Z x y U V S u v:Int} (h1:onC x y) (h2:onC u v) (p1:RepR X Y Z x y) (p2:RepR U V S u v) :
    RepR (QdU X Y Z U V S).1 (QdU X Y Z U V S).2.1 (QdU X Y Z U V S).2.2 (aX x y u v) (aY x y u v):=by
  have e:QdU X Y Z U V S=((Z*S*(Z*S)*(Z*S*(Z*S)))*(1-eps x y u v)*(x*v+y*u)%p,(Z*S*(Z*S)*(Z*S*(Z*S)))*(1+eps x y u v)*(y*v+x*u)%p,
      (Z*S*(Z*S)*(Z*S*(Z*S)))*((1-eps x y u v)*(1+eps x y u v))%p):=by
    rw [p1.hx,p1.hy,p2.hx,p2.hy]
    have e0:QdU (Z*x%p) (Z*y%p) Z (S*u%p) (S*v%p) S=QdU (Z*x) (Z*y) Z (S*u) (S*v) S:=by
      simp only [QdU,modL,modR,addL,addR,subL,subR]
    rw [e0,Qk5]
    refine Prod.ext ?_ (Prod.ext ?_ ?_) <;> refine QdA ?_ <;> ((try unfold eps); grind)
  have hz:((Z*S*(Z*S)*(Z*S*(Z*S)))*((1-eps x y u v)*(1+eps x y u v)))%p≠0:=by
    have a1:Z%p≠0:=by rw [QaZ p1.n]; exact p1.z
    have a2:S%p≠0:=by rw [QaZ p2.n]; exact p2.z
    exact Qcj (Qcj (Qcj (Qcj a1 a2) (Qcj a1 a2)) (Qcj (Qcj a1 a2) (Qcj a1 a2))) (Qcj (QeT h1 h2) (QeU h1 h2))
  have i1:=QfY (QeU h1 h2)
  have i2:=QfY (QeT h1 h2)
  rw [e]
  refine ⟨Qa0 _,hz,?_,?_⟩
  · exact Qg8 _ _ _ _ _ i1 (by rw [subL]; exact zc1 (a:=0) rfl (c:=0) (by grind))
  · exact Qg8 _ _ _ _ _ i2 (by rw [subL]; exact zc1 (a:=0) rfl (c:=0) (by grind))
theorem QhQ (r : Int) (h:isN r):Qbl r*Qbl r%p=r*r%p:=by
  unfold Qbl
  split
  · rw [modL,modR]; exact QdA (by grind)
  · rfl
theorem QjW {a : Int} (h:QbU a=true):Qd2 a*Qd2 a%p=a:=by
  unfold QbU at h
  unfold Qd2 Qma
  by_cases h1:Qbg a*Qbg a%p=a
  · rw [if_pos h1,QhQ _ (Qey a)]; exact h1
  · rw [if_neg h1]
    have h2:Qbg a*QbO%p*(Qbg a*QbO%p)%p=a:=by simpa [h1] using h
    rw [if_pos h2,QhQ _ (Qa0 _)]; exact h2
theorem Qny {x y:Int} (hx:x*x%p=uK y):onC x y:=by
  unfold uK at hx
  have hw:(y*y*dN+1)%p≠0:=fun h=>by
    by_cases hy:y%p=0
    · rw [←addL,Int.mul_assoc,←modL,hy,Int.zero_mul] at h
      exact absurd h (by decide)
    · exact nonsq (a:=y) (b:=1) hy (zc1 h (c:=-1) (by grind))
  have i1:=QfY hw
  have e:(y*y%p*dN%p+1)%p=(y*y*dN+1)%p:=by rw [modL,addL]
  rw [e] at hx
  have h2:(x*x-(y*y-1)*invN ((y*y*dN+1)%p))%p=0:=by
    refine Qkn ?_
    rw [hx,modL,←modL (y*y%p-1),subL,modL]
  unfold onC cv
  refine zc2 h2 i1 (c:=-(y*y*dN+1)) (d:=-(y*y-1)) ?_
  grind
theorem Qro (xs : List Int):onC (xK xs) (zK xs):=by
  unfold xK zK
  by_cases h:okK xs=true
  · rw [if_pos h,if_pos h]
    have hr:QbU (uK (yK xs))=true:=by
      unfold okK at h
      simp only [Bool.and_eq_true] at h
      exact h.2.1
    have hs:=QjW hr
    have hn:QgF (rK xs)*QgF (rK xs)%p=rK xs*rK xs%p:=by
      rw [QiT,modL,modR]; exact QdA (by grind)
    split
    · exact Qny (hn.trans hs)
    · exact Qny hs
  · rw [if_neg h,if_neg h]; exact QiZ
end Go.Proofs.YtdoadngmgmdlbaaDoor.Field
end
section
namespace Go.Proofs.YtdoadngmgmdlbaaDoor.Field
set_option maxHeartbeats 4000000
theorem QlD (d x y u v r s:Int):((x*v+y*u)*(1-(d*(x*u*(y*v))))*s+(y*v+x*u)*(1+(d*(x*u*(y*v))))*r)*((1+(d*(u*r*(v*s))))*(1-(d*(u*r*(v*s))))+d*((u*s+v*r)*x*((v*s+u*r)*y)))-((u*s+v*r)*(1-(d*(u*r*(v*s))))*y+(v*s+u*r)*(1+(d*(u*r*(v*s))))*x)*((1+(d*(x*u*(y*v))))*(1-(d*(x*u*(y*v))))+d*((x*v+y*u)*r*((y*v+x*u)*s))) =
    (-d^2*r^2*s*u^4*v^3*x+d^2*r^2*s*u^3*v^4*y+d^2*r*s^2*u^4*v^3*y-d^2*r*s^2*u^3*v^4*x-d*r^3*u^3*v^2*x-d*r^3*u^2*v^3*y-d*r^2*s*u^4*v*x-d*r^2*s*u*v^4*y+d*r*s^2*u^4*v*y+d*r*s^2*u*v^4*x-d*r*u^3*v^2*x-d*r*u^2*v^3*y+d*s^3*u^3*v^2*y+d*s^3*u^2*v^3*x-d*s*u^3*v^2*y-d*s*u^2*v^3*x)*(-(x*x)+y*y-1-d*(x*x*(y*y)))
    + (d^2*r^3*s^2*u^2*v*x^2*y+d^2*r^3*s^2*u*v^2*x*y^2-d^2*r^2*s^3*u^2*v*x*y^2-d^2*r^2*s^3*u*v^2*x^2*y+d*r^3*s^2*u*x^3-d*r^3*s^2*u*x*y^2+d*r^3*s^2*u*x+d*r^3*s^2*v*x^2*y-d*r^3*s^2*v*y^3+d*r^3*s^2*v*y+d*r^2*s^3*u*x^2*y-d*r^2*s^3*u*y^3+d*r^2*s^3*u*y+d*r^2*s^3*v*x^3-d*r^2*s^3*v*x*y^2+d*r^2*s^3*v*x+d*r^2*s*u^2*v*x^3-d*r^2*s*u^2*v*x*y^2+d*r^2*s*u^2*v*x-d*r^2*s*u*v^2*x^2*y+d*r^2*s*u*v^2*y^3-d*r^2*s*u*v^2*y-d*r*s^2*u^2*v*x^2*y+d*r*s^2*u^2*v*y^3-d*r*s^2*u^2*v*y+d*r*s^2*u*v^2*x^3-d*r*s^2*u*v^2*x*y^2+d*r*s^2*u*v^2*x+r^3*u*x^3-r^3*u*x*y^2+r^3*u*x+r^3*v*x^2*y-r^3*v*y^3+r^3*v*y+r^2*s*u*x^2*y-r^2*s*u*y^3+r^2*s*u*y+r^2*s*v*x^3-r^2*s*v*x*y^2+r^2*s*v*x-r*s^2*u*x^3+r*s^2*u*x*y^2-r*s^2*u*x-r*s^2*v*x^2*y+r*s^2*v*y^3-r*s^2*v*y+r*u*x^3-r*u*x*y^2+r*u*x+r*v*x^2*y-r*v*y^3+r*v*y-s^3*u*x^2*y+s^3*u*y^3-s^3*u*y-s^3*v*x^3+s^3*v*x*y^2-s^3*v*x+s*u*x^2*y-s*u*y^3+s*u*y+s*v*x^3-s*v*x*y^2+s*v*x)*(-(u*u)+v*v-1-d*(u*u*(v*v)))
    + (-d*r*u^2*v*x^2*y-d*r*u*v^2*x*y^2+d*s*u^2*v*x*y^2+d*s*u*v^2*x^2*y-r*u^3*x^3+r*u^3*x*y^2-r*u^3*x-r*u^2*v*x^2*y+r*u^2*v*y^3-r*u^2*v*y+r*u*v^2*x^3-r*u*v^2*x*y^2+r*u*v^2*x-r*u*x^3+r*u*x*y^2-r*u*x+r*v^3*x^2*y-r*v^3*y^3+r*v^3*y-r*v*x^2*y+r*v*y^3-r*v*y-s*u^3*x^2*y+s*u^3*y^3-s*u^3*y-s*u^2*v*x^3+s*u^2*v*x*y^2-s*u^2*v*x+s*u*v^2*x^2*y-s*u*v^2*y^3+s*u*v^2*y-s*u*x^2*y+s*u*y^3-s*u*y+s*v^3*x^3-s*v^3*x*y^2+s*v^3*x-s*v*x^3+s*v*x*y^2-s*v*x)*(-(r*r)+s*s-1-d*(r*r*(s*s))):=by grind
theorem QlC (d x y u v r s:Int):((y*v+x*u)*(1+(d*(x*u*(y*v))))*s+(x*v+y*u)*(1-(d*(x*u*(y*v))))*r)*((1+(d*(u*r*(v*s))))*(1-(d*(u*r*(v*s))))-d*((u*s+v*r)*x*((v*s+u*r)*y)))-((v*s+u*r)*(1+(d*(u*r*(v*s))))*y+(u*s+v*r)*(1-(d*(u*r*(v*s))))*x)*((1+(d*(x*u*(y*v))))*(1-(d*(x*u*(y*v))))-d*((x*v+y*u)*r*((y*v+x*u)*s))) =
    (-d^2*r^2*s*u^4*v^3*y+d^2*r^2*s*u^3*v^4*x+d^2*r*s^2*u^4*v^3*x-d^2*r*s^2*u^3*v^4*y-d*r^3*u^3*v^2*y-d*r^3*u^2*v^3*x-d*r^2*s*u^4*v*y-d*r^2*s*u*v^4*x+d*r*s^2*u^4*v*x+d*r*s^2*u*v^4*y-d*r*u^3*v^2*y-d*r*u^2*v^3*x+d*s^3*u^3*v^2*x+d*s^3*u^2*v^3*y-d*s*u^3*v^2*x-d*s*u^2*v^3*y)*(-(x*x)+y*y-1-d*(x*x*(y*y)))
    + (-d^2*r^3*s^2*u^2*v*x*y^2-d^2*r^3*s^2*u*v^2*x^2*y+d^2*r^2*s^3*u^2*v*x^2*y+d^2*r^2*s^3*u*v^2*x*y^2+d*r^3*s^2*u*x^2*y-d*r^3*s^2*u*y^3+d*r^3*s^2*u*y+d*r^3*s^2*v*x^3-d*r^3*s^2*v*x*y^2+d*r^3*s^2*v*x+d*r^2*s^3*u*x^3-d*r^2*s^3*u*x*y^2+d*r^2*s^3*u*x+d*r^2*s^3*v*x^2*y-d*r^2*s^3*v*y^3+d*r^2*s^3*v*y+d*r^2*s*u^2*v*x^2*y-d*r^2*s*u^2*v*y^3+d*r^2*s*u^2*v*y-d*r^2*s*u*v^2*x^3+d*r^2*s*u*v^2*x*y^2-d*r^2*s*u*v^2*x-d*r*s^2*u^2*v*x^3+d*r*s^2*u^2*v*x*y^2-d*r*s^2*u^2*v*x+d*r*s^2*u*v^2*x^2*y-d*r*s^2*u*v^2*y^3+d*r*s^2*u*v^2*y+r^3*u*x^2*y-r^3*u*y^3+r^3*u*y+r^3*v*x^3-r^3*v*x*y^2+r^3*v*x+r^2*s*u*x^3-r^2*s*u*x*y^2+r^2*s*u*x+r^2*s*v*x^2*y-r^2*s*v*y^3+r^2*s*v*y-r*s^2*u*x^2*y+r*s^2*u*y^3-r*s^2*u*y-r*s^2*v*x^3+r*s^2*v*x*y^2-r*s^2*v*x+r*u*x^2*y-r*u*y^3+r*u*y+r*v*x^3-r*v*x*y^2+r*v*x-s^3*u*x^3+s^3*u*x*y^2-s^3*u*x-s^3*v*x^2*y+s^3*v*y^3-s^3*v*y+s*u*x^3-s*u*x*y^2+s*u*x+s*v*x^2*y-s*v*y^3+s*v*y)*(-(u*u)+v*v-1-d*(u*u*(v*v)))
    + (d*r*u^2*v*x*y^2+d*r*u*v^2*x^2*y-d*s*u^2*v*x^2*y-d*s*u*v^2*x*y^2-r*u^3*x^2*y+r*u^3*y^3-r*u^3*y-r*u^2*v*x^3+r*u^2*v*x*y^2-r*u^2*v*x+r*u*v^2*x^2*y-r*u*v^2*y^3+r*u*v^2*y-r*u*x^2*y+r*u*y^3-r*u*y+r*v^3*x^3-r*v^3*x*y^2+r*v^3*x-r*v*x^3+r*v*x*y^2-r*v*x-s*u^3*x^3+s*u^3*x*y^2-s*u^3*x-s*u^2*v*x^2*y+s*u^2*v*y^3-s*u^2*v*y+s*u*v^2*x^3-s*u*v^2*x*y^2+s*u*v^2*x-s*u*x^3+s*u*x*y^2-s*u*x+s*v^3*x^2*y-s*v^3*y^3+s*v^3*y-s*v*x^2*y+s*v*y^3-s*v*y)*(-(r*r)+s*s-1-d*(r*r*(s*s))):=by grind
end Go.Proofs.YtdoadngmgmdlbaaDoor.Field
end
section
namespace Go.Proofs.YtdoadngmgmdlbaaDoor.Field
open Go Go.RowKit
open Rely Auto
set_option maxHeartbeats 4000000
theorem Qjq (x y u v:Int):eps u v x y=eps x y u v:=by unfold eps; grind
theorem QlI (x y u v:Int):aX u v x y=aX x y u v:=by
  unfold aX; rw [Qjq,show u*y+v*x=x*v+y*u by grind]
theorem QlG (x y u v:Int):aY u v x y=aY x y u v:=by
  unfold aY; rw [Qjq,show v*y+u*x=y*v+x*u by grind]
theorem QlH (x y u v:Int):isN (aX x y u v):=Qa0 _
theorem QlF (x y u v:Int):isN (aY x y u v):=Qa0 _
theorem QnH {D i n X:Int} (hi:(D*i-1)%p=0) (hX:X=n*i%p):(D*X-n)%p=0:=by
  have h1:(X-n*i)%p=0:=Qkn (by rw [hX,Int.emod_emod])
  exact zc2 hi h1 (c:=n) (d:=D) (by grind)
theorem QcW {x y u v:Int} (h1:onC x y) (h2:onC u v):((1+eps x y u v)*aX x y u v-(x*v+y*u))%p=0:=QnH (QfY (QeU h1 h2)) rfl
theorem QcV {x y u v:Int} (h1:onC x y) (h2:onC u v):((1-eps x y u v)*aY x y u v-(y*v+x*u))%p=0:=QnH (QfY (QeT h1 h2)) rfl
theorem QnM (d D1 D2 N1 N2 X Y r s Z:Int) (h1:(D1*X-N1)%p=0) (h2:(D2*Y-N2)%p=0) (h3:((1+d*(X*r*(Y*s)))*Z-(X*s+Y*r))%p=0) :
    ((D1*D2+d*(N1*r*(N2*s)))*Z-(N1*D2*s+N2*D1*r))%p=0:=by
  refine zc4 h1 h2 h3 (d:=0) rfl (k:=D2*s-d*r*s*Z*N2) (l:=D1*r-d*r*s*Z*(D1*X)) (m:=D1*D2) (n:=0) ?_
  grind
theorem QnL (d D1 D2 N1 N2 X Y r s Z:Int) (h1:(D1*X-N1)%p=0) (h2:(D2*Y-N2)%p=0) (h3:((1-d*(X*r*(Y*s)))*Z-(Y*s+X*r))%p=0) :
    ((D1*D2-d*(N1*r*(N2*s)))*Z-(N2*D1*s+N1*D2*r))%p=0:=by
  refine zc4 h1 h2 h3 (d:=0) rfl (k:=D2*r+d*r*s*Z*N2) (l:=D1*s+d*r*s*Z*(D1*X)) (m:=D1*D2) (n:=0) ?_
  grind
theorem Ql1 (d D1 D2 N1 N2 X Y r s:Int) (h1:(D1*X-N1)%p=0) (h2:(D2*Y-N2)%p=0) (hd1:D1%p≠0) (hd2:D2%p≠0) (h3:(1+d*(X*r*(Y*s)))%p≠0) :
    (D1*D2+d*(N1*r*(N2*s)))%p≠0:=fun h=>by
  have e:(D1*D2*(1+d*(X*r*(Y*s))))%p=0:=by
    refine zc4 h h1 h2 (d:=0) rfl (k:=1) (l:=d*r*s*(D2*Y)) (m:=d*r*s*N1) (n:=0) ?_
    grind
  exact Qcj (Qcj hd1 hd2) h3 e
theorem cross {DL NL DM NM X Y:Int} (h1:(DL*X-NL)%p=0) (h2:(DM*Y-NM)%p=0) (hG:(NL*DM-NM*DL)%p=0) (hd1:DL%p≠0) (hd2:DM%p≠0):X%p=Y%p:=by
  have e:(DL*DM*(X-Y))%p=0:=by
    refine zc4 h1 h2 hG (d:=0) rfl (k:=DM) (l:=-DL) (m:=1) (n:=0) ?_
    grind
  exact Qgw ((Qgx e).resolve_left (Qcj hd1 hd2))
theorem QqI {x y u v r s:Int} (h1:onC x y) (h2:onC u v) (h3:onC r s):aX (aX x y u v) (aY x y u v) r s=aX x y (aX u v r s) (aY u v r s):=by
  rw [←QlI x y (aX u v r s)]
  have a:=QcW (closed h1 h2) h3
  have b:=QcW (closed h2 h3) h1
  have cl:=QnM dN _ _ _ _ _ _ r s _ (QcW h1 h2) (QcV h1 h2) a
  have cm:=QnM dN _ _ _ _ _ _ x y _ (QcW h2 h3) (QcV h2 h3) b
  have dl:=Ql1 dN _ _ _ _ _ _ r s (QcW h1 h2) (QcV h1 h2) (QeU h1 h2) (QeT h1 h2) (QeU (closed h1 h2) h3)
  have dm:=Ql1 dN _ _ _ _ _ _ x y (QcW h2 h3) (QcV h2 h3) (QeU h2 h3) (QeT h2 h3) (QeU (closed h2 h3) h1)
  have:=cross cl cm (zc4 h1 h2 h3 (d:=0) rfl (n:=0) ((QlD dN x y u v r s).trans (by rw [Int.mul_zero,Int.add_zero]; rfl))) dl dm
  rwa [QaZ (QlH ..),QaZ (QlH ..)] at this
theorem Ql0 (d D1 D2 N1 N2 X Y r s:Int) (h1:(D1*X-N1)%p=0) (h2:(D2*Y-N2)%p=0) (hd1:D1%p≠0) (hd2:D2%p≠0) (h3:(1-d*(X*r*(Y*s)))%p≠0) :
    (D1*D2-d*(N1*r*(N2*s)))%p≠0:=fun h=>by
  refine Ql1 (-d) D1 D2 N1 N2 X Y r s h1 h2 hd1 hd2 (fun h'=>h3 ?_) ?_
  · rw [←h']; exact QdA (by grind)
  · rw [←h]; exact QdA (by grind)
theorem QqH {x y u v r s:Int} (h1:onC x y) (h2:onC u v) (h3:onC r s):aY (aX x y u v) (aY x y u v) r s=aY x y (aX u v r s) (aY u v r s):=by
  rw [←QlG x y (aX u v r s)]
  have a:=QcV (closed h1 h2) h3
  have b:=QcV (closed h2 h3) h1
  have cl:=QnL dN _ _ _ _ _ _ r s _ (QcW h1 h2) (QcV h1 h2) a
  have cm:=QnL dN _ _ _ _ _ _ x y _ (QcW h2 h3) (QcV h2 h3) b
  have dl:=Ql0 dN _ _ _ _ _ _ r s (QcW h1 h2) (QcV h1 h2) (QeU h1 h2) (QeT h1 h2) (QeT (closed h1 h2) h3)
  have dm:=Ql0 dN _ _ _ _ _ _ x y (QcW h2 h3) (QcV h2 h3) (QeU h2 h3) (QeT h2 h3) (QeT (closed h2 h3) h1)
  have:=cross cl cm (zc4 h1 h2 h3 (d:=0) rfl (n:=0) ((QlC dN x y u v r s).trans (by rw [Int.mul_zero,Int.add_zero]; rfl))) dl dm
  rwa [QaZ (QlF ..),QaZ (QlF ..)] at this
structure OnP (P : Int × Int) : Prop where
  x:isN P.1
  y:isN P.2
  c:onC P.1 P.2
def pAdd (P Q:Int×Int):Int×Int:=(aX P.1 P.2 Q.1 Q.2,aY P.1 P.2 Q.1 Q.2)
def pNeg (P : Int×Int):Int×Int:=((0-P.1)%p,P.2)
def QcH : Int×Int:=(0,1)
theorem pZero_on : OnP QcH:=⟨num_isN 0,num_isN 1,QiZ⟩
theorem pAdd_on {P Q:Int×Int} (h:OnP P) (k:OnP Q):OnP (pAdd P Q):=⟨Qa0 _,Qa0 _,closed h.c k.c⟩
theorem pAdd_comm (P Q:Int×Int):pAdd P Q=pAdd Q P:=Prod.ext (QlI ..) (QlG ..)
theorem pAdd_assoc {P Q R:Int×Int} (h:OnP P) (k:OnP Q) (l:OnP R):pAdd (pAdd P Q) R=pAdd P (pAdd Q R):=Prod.ext (QqI h.c k.c l.c) (QqH h.c k.c l.c)
theorem pAdd_zero {P : Int×Int} (h:OnP P):pAdd P QcH=P:=by
  have e:eps P.1 P.2 0 1=0:=by unfold eps; grind
  refine Prod.ext ?_ ?_
  · show (P.1*1+P.2*0)*invN ((1+eps P.1 P.2 0 1)%p)%p=P.1
    rw [e,show (1+0:Int)%p=1 from rfl,Int.mul_zero,Int.add_zero,Int.mul_one,QfA h.x]
  · show (P.2*1+P.1*0)*invN ((1-eps P.1 P.2 0 1)%p)%p=P.2
    rw [e,show (1-0:Int)%p=1 from rfl,Int.mul_zero,Int.add_zero,Int.mul_one,QfA h.y]
theorem pNeg_on {P : Int×Int} (h:OnP P):OnP (pNeg P):=by
  refine ⟨Qa0 _,h.y,?_⟩
  have e:((0-P.1)%p-(0-P.1))%p=0:=by rw [subL,Int.sub_self]; rfl
  refine zc2 h.c e (c:=1) (d:=-((0-P.1)%p+(0-P.1))-dN*(P.2*P.2)*((0-P.1)%p+(0-P.1))) ?_
  show cv ((0-P.1)%p) P.2=_
  unfold cv
  generalize (0-P.1)%p=q
  grind
theorem Qm3 {D X n:Int} (hD:D%p≠0) (h:(D*X-n)%p=0) (e:(n-D*1)%p=0):X%p=1%p:=by
  have:(D*(X-1))%p=0:=zc2 h e (c:=1) (d:=1) (by grind)
  exact Qgw ((Qgx this).resolve_left hD)
theorem QoM {x y q:Int} (h:onC x y) (hn:onC q y) (e:(q-(0-x))%p=0):aX x y q y=0∧aY x y q y=1:=by
  have fx:=QcW h hn
  have fy:=QcV h hn
  have hX:=QaZ (QlH x y q y)
  have hY:=QaZ (QlF x y q y)
  have hc:=h
  unfold onC cv at hc
  have d1:=QeU h hn
  have d2:=QeT h hn
  generalize aX x y q y=X at *
  generalize aY x y q y=Y at *
  constructor
  · have:X%p=0:=by
      refine (Qgx (a:=1+eps x y q y) ?_).resolve_left d1
      exact zc2 fx e (c:=1) (d:=y) (by grind)
    rwa [hX] at this
  · have:=Qm3 d2 fy (by
      refine zc2 hc e (c:=1) (d:=x+dN*(x*(y*y))) ?_
      unfold eps
      grind)
    rwa [hY] at this
theorem pAdd_neg {P : Int×Int} (h:OnP P):pAdd P (pNeg P)=QcH:=by
  have e:((0-P.1)%p-(0-P.1))%p=0:=by rw [subL,Int.sub_self]; rfl
  have r:=QoM h.c (pNeg_on h).c e
  exact Prod.ext r.1 r.2
def nmul : Nat→Int×Int→Int×Int
  | 0,_=>QcH
  | n+1,P=>pAdd (nmul n P) P
theorem nmul_on {P : Int×Int} (h:OnP P):∀ n,OnP (nmul n P)
  | 0=>pZero_on
  | n+1=>pAdd_on (nmul_on h n) h
theorem nmul_add {P : Int×Int} (h:OnP P) (m:Nat):∀ n,nmul (m+n) P=pAdd (nmul m P) (nmul n P)
  | 0=>(pAdd_zero (nmul_on h m)).symm
  | n+1=>by
    show pAdd (nmul (m+n) P) P=pAdd (nmul m P) (pAdd (nmul n P) P)
    rw [nmul_add h m n,pAdd_assoc (nmul_on h m) (nmul_on h n) h]
theorem Qh6 : ∀ n,nmul n QcH=QcH
  | 0=>rfl
  | n+1=>by
    show pAdd (nmul n QcH) QcH=QcH
    rw [Qh6 n,pAdd_zero pZero_on]
theorem nmul_mul {P : Int×Int} (h:OnP P) (m:Nat):∀ n,nmul (n*m) P=nmul n (nmul m P)
  | 0=>by rw [Nat.zero_mul]; rfl
  | n+1=>by
    rw [Nat.succ_mul,nmul_add h,nmul_mul h m n]
    rfl
theorem nmul_mod {P : Int×Int} (h:OnP P) (L:Nat) (hL:nmul L P=QcH) (n:Nat):nmul (n%L) P=nmul n P:=by
  have e:=Nat.div_add_mod n L
  have:nmul n P=pAdd (nmul (L*(n/L)) P) (nmul (n%L) P):=by rw [←nmul_add h,e]
  rw [this,Nat.mul_comm,nmul_mul h,hL,Qh6,pAdd_comm,pAdd_zero (nmul_on h _)]
def climbP (P : Int×Int) (bs:List Bool):Int×Int:=bs.foldl (fun A b=>if b then pAdd (pAdd A A) P else pAdd A A) QcH
theorem Qgo {P : Int×Int} (h:OnP P):∀ (bs:List Bool) (n:Nat),bs.foldl (fun A b=>if b then pAdd (pAdd A A) P else pAdd A A) (nmul n P)=nmul (bs.foldl (fun n b=>2*n+if b then 1 else 0) n) P
  | [],n=>rfl
  | b::bs,n=>by
    have e:(if b then pAdd (pAdd (nmul n P) (nmul n P)) P else pAdd (nmul n P) (nmul n P))=nmul (2*n+if b then 1 else 0) P:=by
      rw [←nmul_add h,Nat.two_mul]
      cases b
      · simp
      · simp only [if_true]; rfl
    rw [List.foldl_cons,e,Qgo h bs,List.foldl_cons]
theorem QhS {P : Int×Int} (h:OnP P) (bs:List Bool):climbP P bs=nmul (bval bs) P:=Qgo h bs 0
theorem climbP_on {P : Int×Int} (h:OnP P) (bs:List Bool):OnP (climbP P bs):=by rw [QhS h]; exact nmul_on h _
end Go.Proofs.YtdoadngmgmdlbaaDoor.Field
end
section
namespace Go.Proofs.YtdoadngmgmdlbaaDoor.Field
open Go Go.RowKit
open Rely Auto
abbrev W4 := Int × Int × Int × Int
abbrev W3 := Int × Int × Int
def wad (A B:W4):W4:=QcI A.1 A.2.1 A.2.2.1 A.2.2.2 B.1 B.2.1 B.2.2.1 B.2.2.2 dN
def rad (A B:W3):W3:=QdU A.1 A.2.1 A.2.2 B.1 B.2.1 B.2.2
def isW4 (A : W4):Prop:=isN A.1∧isN A.2.1∧isN A.2.2.1∧isN A.2.2.2
def isW3 (A : W3):Prop:=isN A.1∧isN A.2.1∧isN A.2.2
theorem Qhg {A B:W4} (h:isW4 A) (k:isW4 B):isW4 (wad A B):=Qeo _ _ _ _ _ _ _ _ _ h.1 h.2.1 h.2.2.1 h.2.2.2 k.1 k.2.1 k.2.2.1 k.2.2.2 QeE
theorem rad_is {A B:W3} (h:isW3 A) (k:isW3 B):isW3 (rad A B):=Qmi _ _ _ _ _ _ h.1 h.2.1 h.2.2 k.1 k.2.1 k.2.2
abbrev w4 (A : W4) : Value := .agg (cat [numA A.1, numA A.2.1, numA A.2.2.1, numA A.2.2.2])
abbrev w3 (A : W3) : Value := .agg (cat [ints .i64 (lims A.1), ints .i64 (lims A.2.1), ints .i64 (lims A.2.2)])
theorem wadC {A B:W4} (h:isW4 A) (k:isW4 B) (w:World):Calls Tryd.prog 47 #[w4 A,w4 B,.agg (numA dN)] w (Ret w (w4 (wad A B))) :=
  QpF _ _ _ _ _ _ _ _ _ h.1 h.2.1 h.2.2.1 h.2.2.2 k.1 k.2.1 k.2.2.1 k.2.2.2 QeE w
theorem radC {A B:W3} (h:isW3 A) (k:isW3 B) (w:World):Calls Tryd.prog 39 #[w3 A,w3 B] w (Ret w (w3 (rad A B))):=QqZ _ _ _ _ _ _ h.1 h.2.1 h.2.2 k.1 k.2.1 k.2.2 w
def wrung (E A:W4) (b:Bool):W4:=if b then wad (wad A A) E else wad A A
def wrun (E Z:W4) (bs:List Bool):W4:=bs.foldl (wrung E) Z
def rrung (E A:W3) (b:Bool):W3:=if b then rad (rad A A) E else rad A A
def rrun (E Z:W3) (bs:List Bool):W3:=bs.foldl (rrung E) Z
theorem Qkf (E Z:W4) (bs:List Bool) (b:Bool):wrun E Z (bs++[b])=wrung E (wrun E Z bs) b:=by simp [wrun]
theorem Qkw (E Z:W3) (bs:List Bool) (b:Bool):rrun E Z (bs++[b])=rrung E (rrun E Z bs) b:=by simp [rrun]
theorem Qgy {E : W4} (hE:isW4 E):∀ (bs:List Bool) {Z:W4},isW4 Z→isW4 (wrun E Z bs)
  | [],_,h=>h
  | true::bs,_,h=>Qgy hE bs (Qhg (Qhg h h) hE)
  | false::bs,_,h=>Qgy hE bs (Qhg h h)
theorem rrun_is {E : W3} (hE:isW3 E):∀ (bs:List Bool) {Z:W3},isW3 Z→isW3 (rrun E Z bs)
  | [],_,h=>h
  | true::bs,_,h=>rrun_is hE bs (rad_is (rad_is h h) hE)
  | false::bs,_,h=>rrun_is hE bs (rad_is h h)
abbrev wE (x l : Int) : W4 := QcF x l
theorem QpH {x l:Int} (h:isN x) (k:isN l):isW4 (wE x l):=QaF x l h k
def rruns (E Z:W3) (es:List Int) (k:Nat):W3:=rrun E Z ((bitsB es).take (256-k))
theorem QjE (E Z:W3) (es:List Int) (j:Nat) (hj:j<256):rruns E Z es j=rrung E (rruns E Z es (j+1)) (bitB es j):=by
  unfold rruns
  rw [QeX es j hj,Qkw]
theorem rruns_full (E Z:W3) (es:List Int):rruns E Z es 0=rrun E Z (bitsB es):=by
  unfold rruns
  rw [List.take_of_length_le (by rw [QeH]; omega)]
theorem QiI (n : Nat) (h:n<9223372036854775808):IntKind.u64.wrap (n:Int)=(n:Int):=wrap64 _ (by unfold isW; omega)
theorem QpP (v : Int) (n:Nat) (h:n<8):v.fdiv (2^min (n:Int).toNat IntKind.u8.bits)=v/2^n:=by
  rw [show min ((n:Int).toNat) IntKind.u8.bits=n by show min ((n:Int).toNat) 8=n; omega]
  exact Int.fdiv_eq_ediv_of_nonneg _ (Int.le_of_lt (Int.pow_pos (by decide)))
theorem Qia (es : List Int) (j:Nat) (hb:Qal es) {v:Int} (h:QcR es j=v):Int.tmod (nth es (j/8)/2^(j%8)) 2=v:=by
  rw [←h]
  unfold QcR
  exact Int.tmod_eq_emod_of_nonneg (Int.ediv_nonneg (hb.nth _).1 (Int.le_of_lt (Int.pow_pos (by decide))))
theorem Qos (x lx:Int) (h_x:isN x) (h_lx:isN lx) (ks:List Int) (hk:ks.length=32) (hkb:Qal ks) (w:World) (tB:TypeId) (hB:w.heap[2]? = some (.cells (ints .u8 Qb0) tB)) :
    Calls Tryd.prog 21 #[.agg (cat [numA x,numA lx]),.agg (ints .u8 ks)] w (Ret w (.agg (cat [numA ((Qe2 (wrun (wE x lx) (wE 0 0) (bitsB ks)).1 (wrun (wE x lx) (wE 0 0) (bitsB ks)).2.1 (wrun (wE x lx) (wE 0 0) (bitsB ks)).2.2.1 (wrun (wE x lx) (wE 0 0) (bitsB ks)).2.2.2).1),numA ((Qe2 (wrun (wE x lx) (wE 0 0) (bitsB ks)).1 (wrun (wE x lx) (wE 0 0) (bitsB ks)).2.1 (wrun (wE x lx) (wE 0 0) (bitsB ks)).2.2.1 (wrun (wE x lx) (wE 0 0) (bitsB ks)).2.2.2).2)]))):=by
  have hE:=QpH h_x h_lx
  have hZ:=QpH (num_isN 0) (num_isN 0)
  refine Qlt 30 [(0,.agg (cat [numA (x),numA (lx)])),(1,.agg (ints .u8 (ks)))] Tryd.func21 rfl rfl kj rfl ?_
  refine wp_seq_k fun K2 hK2=>?_
  refine Qac ?_
  refine Qaj (cat [numA (x),numA (lx)]) 51 2 rfl kj kj fun g3 W1 l3 e1 r3_1=>?_
  have x1:Ext w W1:=Ext.tr (Rely.Ext.refl w) e1
  have b3:w.heap.size≤g3:=qT (Rely.Ext.refl w).size l3
  refine Qaj (ints .u8 (ks)) 23 3 rfl kj kj fun g4 W2 l4 e2 r4_2=>?_
  have x2:Ext w W2:=Ext.tr x1 e2
  have b4:w.heap.size≤g4:=qT x1.size l4
  refine Qaj (cat [numA (0),numA (0)]) 51 4 rfl kj kj fun g5 W3 l5 e3 r5_3=>?_
  have x3:Ext w W3:=Ext.tr x2 e3
  have b5:w.heap.size≤g5:=qT x2.size l5
  refine Qaf ?_
  refine hK2 _ _ ?_
  refine wp_seq_k fun K6 hK6=>?_
  refine Qac ?_
  have r1_3:=(Qaa (Qaa (Qaa hB e1) e2) e3)
  refine Qab (.agg (ints .u8 (Qb0))) 9 rfl kj (Qag 23 _ 2 tB _ _ r1_3 rfl kj kj (isz (n:=32) kj ((Qae _ _).trans (by decide)))) ?_
  refine Qar (.agg (numA (dN))) 44 #[.agg (ints .u8 (Qb0))] 10 rfl kj kj (QfG _) fun W4 e4=>?_
  have x4:Ext w W4:=Ext.tr x3 e4
  refine Qaj (numA (0)) 49 5 rfl kj kj fun g7 W5 l7 e5 r7_5=>?_
  have x5:Ext w W5:=Ext.tr x4 e5
  have b7:w.heap.size≤g7:=qT x4.size l7
  refine Qak g7 _ (numA (dN)) 49 r7_5 rfl kj (Qah 49 _ _ g7 49 _ _ r7_5 rfl kj kj (isz (n:=4) kj kj) (eqsz (n:=4) kj kj) kj) fun W6 p6 r7_6=>?_
  have x6:Ext w W6:=Puts.ext p6 x5 b7
  refine Qaf ?_
  refine hK6 _ _ ?_
  refine wp_seq_k fun K8 hK8=>?_
  refine Qbd 6 [⟨none,[]⟩,⟨none,[(11,some 0)]⟩,⟨none,[(2,none)]⟩,⟨none,[(13,some 2)]⟩,⟨none,[]⟩,⟨none,[]⟩] [4,5] kj kj kj fun F hF=>?_
  refine Qav (.agg (cat [numA (0),numA (0)])) kj kj (fun W=>kj) ?_
  refine Qau (.agg (cat [numA ((wE 0 0).1),numA ((wE 0 0).2.1),numA ((wE 0 0).2.2.1),numA ((wE 0 0).2.2.2)])) 45 #[.agg (cat [numA (0),numA (0)])] kj kj (fun W=>kj) (fun W hR=>(QiQ 0 0 (num_isN 0) (num_isN 0)) W) ?_
  have r3_4:=(Qaa (Qaa (Qaa r3_1 e2) e3) e4)
  have r3_6:=(Puts.row p6 (Qaa (Qaa (Qaa (Qaa r3_1 e2) e3) e4) e5) (Qad r3_4 l7))
  refine Qaq (.agg (cat [numA (x),numA (lx)])) kj kj (fun W hR=>(Qag 51 _ g3 51 _ _ (Qaa (Qaa r3_6 (Qai _)) hR) rfl kj kj (isz (n:=8) kj kj))) ?_
  refine Qau (.agg (cat [numA ((wE x lx).1),numA ((wE x lx).2.1),numA ((wE x lx).2.2.1),numA ((wE x lx).2.2.2)])) 45 #[.agg (cat [numA (x),numA (lx)])] kj kj (fun W=>kj) (fun W hR=>(QiQ x lx h_x h_lx) W) ?_
  refine QbN (cat [numA (0),numA (0),numA (0),numA (0)]) 78 kj (qR _) kj (fun W=>kj) ?_
  refine QbN (cat [numA (0),numA (0),numA (0),numA (0)]) 78 kj (qR _) kj (fun W=>kj) ?_
  refine Qa9 (hF _ kj fun W7 e7=>?_)
  simp only [fins,up,List.take_succ_cons,List.take_zero,List.drop_succ_cons,List.drop_zero,List.nil_append,List.cons_append]
  intro g9 l9 r9_7 n9 g10 l10 r10_7 n10
  have b9:w.heap.size≤g9:=qT x6.size l9
  have b10:w.heap.size≤g10:=qT x6.size l10
  have n10_9:g10≠g9:=n10 _ (by simp)
  clear hF
  have x7:Ext w W7:=Ext.tr x6 e7
  refine Qak g9 _ (cat [numA ((wE 0 0).1),numA ((wE 0 0).2.1),numA ((wE 0 0).2.2.1),numA ((wE 0 0).2.2.2)]) 78 r9_7 rfl kj (Qah 78 _ _ g9 78 _ _ r9_7 rfl kj kj (isz (n:=16) kj kj) (eqsz (n:=16) kj kj) kj) fun W8 p8 r9_8=>?_
  have x8:Ext w W8:=Puts.ext p8 x7 b9
  have r10_8:=(Puts.row p8 r10_7 n10_9)
  refine Qak g10 _ (cat [numA ((wE x lx).1),numA ((wE x lx).2.1),numA ((wE x lx).2.2.1),numA ((wE x lx).2.2.2)]) 78 r10_8 rfl kj (Qah 78 _ _ g10 78 _ _ r10_8 rfl kj kj (isz (n:=16) kj kj) (eqsz (n:=16) kj kj) kj) fun W9 p9 r10_9=>?_
  have x9:Ext w W9:=Puts.ext p9 x8 b10
  refine Qaf ?_
  refine hK8 _ _ ?_
  refine wp_seq_k fun K11 hK11=>?_
  refine wp_seq_k fun K12 hK12=>?_
  refine Qac ?_
  have r4_4:=(Qaa (Qaa r4_2 e3) e4)
  have r4_6:=(Puts.row p6 (Qaa r4_4 e5) (Qad r4_4 l7))
  have r4_9:=(Puts.row p9 (Puts.row p8 (Qaa (Puts.row p6 (Qaa (Qaa (Qaa r4_2 e3) e4) e5) (Qad r4_4 l7)) e7) (Qad r4_6 l9)) (Qad r4_6 l10))
  refine Qab (.agg (ints .u8 (ks))) 15 rfl kj (Qag 23 _ g4 23 _ _ r4_9 rfl kj kj (isz (n:=32) kj ((Qae _ _).trans hk))) ?_
  refine Qb6 (fun v W'=>Ext W9 W'∧∃ kb,W9.heap.size≤kb∧v=.func (.func 82) #[] #[.pointer (some ⟨kb,0,none⟩)]∧W'.heap[kb]? = some (.cells (ints .u8 ks) 23)) 46 #[.agg (ints .u8 ks)] 16 rfl kj kj (Qgq _ _) fun v W10 h=>?_
  obtain ⟨e10,kb,lk,rfl,r13_10⟩:=h
  have x10:Ext w W10:=Ext.tr x9 e10
  refine Qaf ?_
  refine hK12 _ _ ?_
  refine wp_block ?_
  have r9_10:=(Qaa (Puts.row p9 r9_8 (Ne.symm n10_9)) e10)
  have r10_10:=(Qaa r10_9 e10)
  have r7_10:=(Qaa (Puts.row p9 (Puts.row p8 (Qaa r7_6 e7) (Qad r7_6 l9)) (Qad r7_6 l10)) e10)
  have r5_4:=(Qaa r5_3 e4)
  have r5_6:=(Puts.row p6 (Qaa r5_4 e5) (Qad r5_4 l7))
  have r5_10:=(Qaa (Puts.row p9 (Puts.row p8 (Qaa (Puts.row p6 (Qaa (Qaa r5_3 e4) e5) (Qad r5_4 l7)) e7) (Qad r5_6 l9)) (Qad r5_6 l10)) e10)
  have n_ge_gs:g10≠g9:=n10_9
  have n_gd_gs:g7≠g9:=(Qad r7_6 l9)
  have n_gr_gs:g5≠g9:=(Qad r5_6 l9)
  have r9_9:=(Puts.row p9 r9_8 (Ne.symm n10_9))
  have n_kb_gs:kb≠g9:=(Qat r9_9 lk)
  refine QeM (gf:=82) (lb:=#[.pointer (some ⟨kb,0,none⟩)]) (enc:=encB) kj (enters_of Tryd.func82 kj rfl) (Qfd _ (by omega) kb ks hk hkb W10 r13_10) (fun h k=>Same.trans' h k) (Qhl (Qa3 r13_10)) (Below.refl _ _)
      (fun pre W=>(W.heap[g9]? = some (.cells (cat [numA ((wrun (wE x lx) (wE 0 0) pre).1),numA ((wrun (wE x lx) (wE 0 0) pre).2.1),numA ((wrun (wE x lx) (wE 0 0) pre).2.2.1),numA ((wrun (wE x lx) (wE 0 0) pre).2.2.2)]) 78)∧W.heap[g10]? = some (.cells (cat [numA ((wE x lx).1),numA ((wE x lx).2.1),numA ((wE x lx).2.2.1),numA ((wE x lx).2.2.2)]) 78)∧W.heap[g7]? = some (.cells (numA dN) 49)∧W.heap[g5]? = some (.cells (cat [numA (0),numA (0)]) 51)∧W.heap[kb]? = some (.cells (ints .u8 ks) 23))∧Ext w W)
      (fun _ _ _=>False) (OwnFrom.and (Own.from (fun s A B row hs hg hr=>⟨Qb2 hs.1 hg hr,Qb2 hs.2.1 hg hr,Qb2 hs.2.2.1 hg hr,Qb2 hs.2.2.2.1 hg hr,Qb2 hs.2.2.2.2 hg hr⟩) _) (ownFrom_below (qR _) x10.size)) (fun _ _ _ _ _ h _ _=>h) ⟨⟨r9_10,r10_10,r7_10,r5_10,r13_10⟩,x10⟩ (fun x=>[(8,encB x),(17,encB x)]) (fun l x W K hK=>?_) (fun l pre bt W hI hp=>?_) (fun D ys W lD hS hI rD=>?_) (fun _ _ _ _ _ _ h _=>h.elim)
  · refine QaT ?_
    refine Qbq (encB x) 8 rfl (Qa2 l 1 _) rfl kj kj ?_
    refine Qc4 ?_
    exact hK
  · obtain ⟨⟨rs,re,rd,rr,rk⟩,xx⟩:=hI
    have hS0:=Qkf (wE x lx) (wE 0 0) pre bt
    have hL:=Qgy hE pre (Z:=wE 0 0) hZ
    generalize wrun (wE x lx) (wE 0 0) pre=s at hS0 hL rs
    cases bt
    · have hn2:=Qhg hL hL
      have cs:=fun W=>wadC hL hL W
      generalize hn:wad s s=n at cs hn2
      have hS:wrun (wE x lx) (wE 0 0) (pre++[false])=n:=by
        rw [hS0]
        simp only [wrung,hn,Bool.false_eq_true,if_false]
      clear hS0 hn
      have ls:=b9
      refine wpIn_block ?_
      refine wpIn_seq_k fun K106 hK106=>?_
      refine QaT ?_
      refine Qbq (.agg (cat [numA (s.1),numA (s.2.1),numA (s.2.2.1),numA (s.2.2.2)])) 18 rfl (Qa2 l 1 _) rfl kj (Qag 78 _ g9 78 _ _ rs rfl kj kj (isz (n:=16) kj kj)) ?_
      refine Qbq (.agg (cat [numA (s.1),numA (s.2.1),numA (s.2.2.1),numA (s.2.2.2)])) 19 rfl (Qa2 l 1 _) rfl kj (Qag 78 _ g9 78 _ _ rs rfl kj kj (isz (n:=16) kj kj)) ?_
      refine Qbq (.agg (numA (dN))) 20 rfl (Qa2 l 1 _) rfl kj (Qag 49 _ g7 49 _ _ rd rfl kj kj (isz (n:=4) kj kj)) ?_
      refine Qdy (.agg (cat [numA ((n).1),numA ((n).2.1),numA ((n).2.2.1),numA ((n).2.2.2)])) 47 #[.agg (cat [numA (s.1),numA (s.2.1),numA (s.2.2.1),numA (s.2.2.2)]),.agg (cat [numA (s.1),numA (s.2.1),numA (s.2.2.1),numA (s.2.2.2)]),.agg (numA (dN))] 21 rfl (Qa2 l 1 _) rfl kj kj (cs _) fun W1 e1=>?_
      have x1:Ext w W1:=Ext.tr xx e1
      have r102_1:=(Qaa rs e1)
      refine QcQ g9 _ (cat [numA ((n).1),numA ((n).2.1),numA ((n).2.2.1),numA ((n).2.2.2)]) 78 r102_1 rfl (Qa2 l 1 _) rfl kj (Qah 78 _ _ g9 78 _ _ r102_1 rfl kj kj (isz (n:=16) kj kj) (eqsz (n:=16) kj kj) kj) fun W2 p2 r102_2=>?_
      have x2:Ext w W2:=Puts.ext p2 x1 ls
      refine Qc4 ?_
      refine hK106 _ _ ?_
      refine wpIn_seq_k fun K107 hK107=>?_
      refine QaT ?_
      refine Qbq (.int .i64 0) 22 rfl (Qa2 l 1 _) rfl kj kj ?_
      refine Qbq (.bool false) 23 rfl (Qa2 l 1 _) rfl kj kj ?_
      refine Qc4 ?_
      refine hK107 _ _ ?_
      refine Qdx kj ?_
      refine wpIn_skip ?_
      have r101_2:=(Puts.row p2 (Qaa re e1) n_ge_gs)
      have r103_2:=(Puts.row p2 (Qaa rd e1) n_gd_gs)
      have r104_2:=(Puts.row p2 (Qaa rr e1) n_gr_gs)
      have r105_2:=(Puts.row p2 (Qaa rk e1) n_kb_gs)
      exact ⟨((QbQ e1).trans (Qcf p2 r102_1)),r105_2.trans rk.symm,⟨by rw [hS]; exact r102_2,r101_2,r103_2,r104_2,r105_2⟩,x2⟩
    · have hn2:=Qhg hL hL
      have cs:=fun W=>wadC hL hL W
      generalize hn:wad s s=n at cs hn2
      have ct:=fun W=>wadC (A:=n) (B:=wE x lx) hn2 hE W
      generalize hm:wad n (wE x lx)=m at ct
      have hS:wrun (wE x lx) (wE 0 0) (pre++[true])=m:=by
        rw [hS0]
        simp only [wrung,hn,if_true,hm]
      clear hS0 hn hm
      have ls:=b9
      refine wpIn_block ?_
      refine wpIn_seq_k fun K106 hK106=>?_
      refine QaT ?_
      refine Qbq (.agg (cat [numA (s.1),numA (s.2.1),numA (s.2.2.1),numA (s.2.2.2)])) 18 rfl (Qa2 l 1 _) rfl kj (Qag 78 _ g9 78 _ _ rs rfl kj kj (isz (n:=16) kj kj)) ?_
      refine Qbq (.agg (cat [numA (s.1),numA (s.2.1),numA (s.2.2.1),numA (s.2.2.2)])) 19 rfl (Qa2 l 1 _) rfl kj (Qag 78 _ g9 78 _ _ rs rfl kj kj (isz (n:=16) kj kj)) ?_
      refine Qbq (.agg (numA (dN))) 20 rfl (Qa2 l 1 _) rfl kj (Qag 49 _ g7 49 _ _ rd rfl kj kj (isz (n:=4) kj kj)) ?_
      refine Qdy (.agg (cat [numA ((n).1),numA ((n).2.1),numA ((n).2.2.1),numA ((n).2.2.2)])) 47 #[.agg (cat [numA (s.1),numA (s.2.1),numA (s.2.2.1),numA (s.2.2.2)]),.agg (cat [numA (s.1),numA (s.2.1),numA (s.2.2.1),numA (s.2.2.2)]),.agg (numA (dN))] 21 rfl (Qa2 l 1 _) rfl kj kj (cs _) fun W1 e1=>?_
      have x1:Ext w W1:=Ext.tr xx e1
      have r102_1:=(Qaa rs e1)
      refine QcQ g9 _ (cat [numA ((n).1),numA ((n).2.1),numA ((n).2.2.1),numA ((n).2.2.2)]) 78 r102_1 rfl (Qa2 l 1 _) rfl kj (Qah 78 _ _ g9 78 _ _ r102_1 rfl kj kj (isz (n:=16) kj kj) (eqsz (n:=16) kj kj) kj) fun W2 p2 r102_2=>?_
      have x2:Ext w W2:=Puts.ext p2 x1 ls
      refine Qc4 ?_
      refine hK106 _ _ ?_
      refine wpIn_seq_k fun K107 hK107=>?_
      refine QaT ?_
      refine Qbq (.int .i64 1) 22 rfl (Qa2 l 1 _) rfl kj kj ?_
      refine Qbq (.bool true) 23 rfl (Qa2 l 1 _) rfl kj kj ?_
      refine Qc4 ?_
      refine hK107 _ _ ?_
      refine QdD kj ?_
      refine QaT ?_
      refine Qbq (.agg (cat [numA ((n).1),numA ((n).2.1),numA ((n).2.2.1),numA ((n).2.2.2)])) 24 rfl (Qa2 l 1 _) rfl kj (Qag 78 _ g9 78 _ _ r102_2 rfl kj kj (isz (n:=16) kj kj)) ?_
      have r101_2:=(Puts.row p2 (Qaa re e1) n_ge_gs)
      refine Qbq (.agg (cat [numA ((wE x lx).1),numA ((wE x lx).2.1),numA ((wE x lx).2.2.1),numA ((wE x lx).2.2.2)])) 25 rfl (Qa2 l 1 _) rfl kj (Qag 78 _ g10 78 _ _ r101_2 rfl kj kj (isz (n:=16) kj kj)) ?_
      have r103_2:=(Puts.row p2 (Qaa rd e1) n_gd_gs)
      refine Qbq (.agg (numA (dN))) 26 rfl (Qa2 l 1 _) rfl kj (Qag 49 _ g7 49 _ _ r103_2 rfl kj kj (isz (n:=4) kj kj)) ?_
      refine Qdy (.agg (cat [numA ((m).1),numA ((m).2.1),numA ((m).2.2.1),numA ((m).2.2.2)])) 47 #[.agg (cat [numA ((n).1),numA ((n).2.1),numA ((n).2.2.1),numA ((n).2.2.2)]),.agg (cat [numA ((wE x lx).1),numA ((wE x lx).2.1),numA ((wE x lx).2.2.1),numA ((wE x lx).2.2.2)]),.agg (numA (dN))] 27 rfl (Qa2 l 1 _) rfl kj kj (ct _) fun W3 e3=>?_
      have x3:Ext w W3:=Ext.tr x2 e3
      have r102_3:=(Qaa r102_2 e3)
      refine QcQ g9 _ (cat [numA ((m).1),numA ((m).2.1),numA ((m).2.2.1),numA ((m).2.2.2)]) 78 r102_3 rfl (Qa2 l 1 _) rfl kj (Qah 78 _ _ g9 78 _ _ r102_3 rfl kj kj (isz (n:=16) kj kj) (eqsz (n:=16) kj kj) kj) fun W4 p4 r102_4=>?_
      have x4:Ext w W4:=Puts.ext p4 x3 ls
      refine Qc4 ?_
      have r101_4:=(Puts.row p4 (Qaa r101_2 e3) n_ge_gs)
      have r103_4:=(Puts.row p4 (Qaa r103_2 e3) n_gd_gs)
      have r104_4:=(Puts.row p4 (Qaa (Puts.row p2 (Qaa rr e1) n_gr_gs) e3) n_gr_gs)
      have r105_4:=(Puts.row p4 (Qaa (Puts.row p2 (Qaa rk e1) n_kb_gs) e3) n_kb_gs)
      exact ⟨((((QbQ e1).trans (Qcf p2 r102_1)).trans (QbQ e3)).trans (Qcf p4 r102_3)),r105_4.trans rk.symm,⟨by rw [hS]; exact r102_4,r101_4,r103_4,r104_4,r105_4⟩,x4⟩
  obtain ⟨⟨rs,re,rd,rr,rk⟩,xx⟩:=hI
  subst hS
  have hR:=Qgy hE (bitsB ks) (Z:=wE 0 0) hZ
  have bD:w.heap.size≤D:=qT x10.size lD
  refine hK11 _ _ ?_
  refine wp_seq_k fun K15 hK15=>?_
  refine Qac ?_
  refine Qab (.agg (cat [numA ((wrun (wE x lx) (wE 0 0) (bitsB ks)).1),numA ((wrun (wE x lx) (wE 0 0) (bitsB ks)).2.1),numA ((wrun (wE x lx) (wE 0 0) (bitsB ks)).2.2.1),numA ((wrun (wE x lx) (wE 0 0) (bitsB ks)).2.2.2)])) 28 rfl kj (Qag 78 _ g9 78 _ _ rs rfl kj kj (isz (n:=16) kj kj)) ?_
  refine Qar (.agg (cat [numA ((Qe2 (wrun (wE x lx) (wE 0 0) (bitsB ks)).1 (wrun (wE x lx) (wE 0 0) (bitsB ks)).2.1 (wrun (wE x lx) (wE 0 0) (bitsB ks)).2.2.1 (wrun (wE x lx) (wE 0 0) (bitsB ks)).2.2.2).1),numA ((Qe2 (wrun (wE x lx) (wE 0 0) (bitsB ks)).1 (wrun (wE x lx) (wE 0 0) (bitsB ks)).2.1 (wrun (wE x lx) (wE 0 0) (bitsB ks)).2.2.1 (wrun (wE x lx) (wE 0 0) (bitsB ks)).2.2.2).2)])) 48 #[.agg (cat [numA ((wrun (wE x lx) (wE 0 0) (bitsB ks)).1),numA ((wrun (wE x lx) (wE 0 0) (bitsB ks)).2.1),numA ((wrun (wE x lx) (wE 0 0) (bitsB ks)).2.2.1),numA ((wrun (wE x lx) (wE 0 0) (bitsB ks)).2.2.2)])] 29 rfl kj kj ((Qqe _ _ _ _ hR.1 hR.2.1 hR.2.2.1 hR.2.2.2) _) fun W12 e12=>?_
  have x12:Ext w W12:=Ext.tr xx e12
  have r5_12:=(Qaa rr e12)
  refine Qak g5 _ (cat [numA ((Qe2 (wrun (wE x lx) (wE 0 0) (bitsB ks)).1 (wrun (wE x lx) (wE 0 0) (bitsB ks)).2.1 (wrun (wE x lx) (wE 0 0) (bitsB ks)).2.2.1 (wrun (wE x lx) (wE 0 0) (bitsB ks)).2.2.2).1),numA ((Qe2 (wrun (wE x lx) (wE 0 0) (bitsB ks)).1 (wrun (wE x lx) (wE 0 0) (bitsB ks)).2.1 (wrun (wE x lx) (wE 0 0) (bitsB ks)).2.2.1 (wrun (wE x lx) (wE 0 0) (bitsB ks)).2.2.2).2)]) 51 r5_12 rfl kj (Qah 51 _ _ g5 51 _ _ r5_12 rfl kj kj (isz (n:=8) kj kj) (eqsz (n:=8) kj kj) kj) fun W13 p13 r5_13=>?_
  have x13:Ext w W13:=Puts.ext p13 x12 b5
  refine Qaf ?_
  refine hK15 _ _ ?_
  refine wp_ret ?_
  have r14_13:=(Puts.row p13 (Qaa rD e12) (Qix rr rD))
  exact (show bodyPostM _ _ _ _ _ .ret _ _ from Qol (.agg (cat [numA ((Qe2 (wrun (wE x lx) (wE 0 0) (bitsB ks)).1 (wrun (wE x lx) (wE 0 0) (bitsB ks)).2.1 (wrun (wE x lx) (wE 0 0) (bitsB ks)).2.2.1 (wrun (wE x lx) (wE 0 0) (bitsB ks)).2.2.2).1),numA ((Qe2 (wrun (wE x lx) (wE 0 0) (bitsB ks)).1 (wrun (wE x lx) (wE 0 0) (bitsB ks)).2.1 (wrun (wE x lx) (wE 0 0) (bitsB ks)).2.2.1 (wrun (wE x lx) (wE 0 0) (bitsB ks)).2.2.2).2)])) rfl r14_13 (QaC g5 51 _ (QgC r5_13 r14_13 _) kj kj (isz (n:=8) kj kj)) ⟨rfl,QgD x13 bD r14_13 _⟩)
def Z0 : W3:=(0,1,1)
set_option maxHeartbeats 8000000 in
theorem rtimesC (E : W3) (hE:isW3 E) (ks:List Int) (hk:ks.length=32) (hkb:Qal ks) (w:World) :
  Calls Tryd.prog 26 #[w3 E,.agg (ints .u8 ks)] w (Ret w (w3 (rruns E Z0 ks 0))):=by
 have hZ:isW3 Z0:=⟨num_isN 0,num_isN 1,num_isN 1⟩
 refine enter 29 [(0,.agg (cat [ints .i64 (lims (E.1)),ints .i64 (lims (E.2.1)),ints .i64 (lims (E.2.2))])),(1,.agg (ints .u8 (ks)))] Tryd.func26 rfl rfl kj rfl ?_
 refine wp_seq_k fun K1 hK1=>?_
 refine Qac ?_
 refine Qaj (cat [ints .i64 (lims (E.1)),ints .i64 (lims (E.2.1)),ints .i64 (lims (E.2.2))]) 60 2 rfl kj kj fun g2 W1 l2 e1 r2_1=>?_
 have x1:Ext w W1:=Ext.tr (Rely.Ext.refl w) e1
 have b2:w.heap.size≤g2:=qT (Rely.Ext.refl w).size l2
 refine Qaj (ints .u8 (ks)) 23 3 rfl kj kj fun g3 W2 l3 e2 r3_2=>?_
 have x2:Ext w W2:=Ext.tr x1 e2
 have b3:w.heap.size≤g3:=qT x1.size l3
 refine Qaj (cat [ints .i64 (lims (0)),ints .i64 (lims (0)),ints .i64 (lims (0))]) 60 4 rfl kj kj fun g4 W3 l4 e3 r4_3=>?_
 have x3:Ext w W3:=Ext.tr x2 e3
 have b4:w.heap.size≤g4:=qT x2.size l4
 refine Qaf ?_
 refine hK1 _ _ ?_
 refine wp_seq_k fun K5 hK5=>?_
 refine Qac ?_
 refine Qar (.agg (cat [ints .i64 (lims (Z0.1)),ints .i64 (lims (Z0.2.1)),ints .i64 (lims (Z0.2.2))])) 59 #[] 7 rfl kj kj (nothing _) fun W4 e4=>?_
 have x4:Ext w W4:=Ext.tr x3 e4
 refine Qaj (cat [ints .i64 (lims (0)),ints .i64 (lims (0)),ints .i64 (lims (0))]) 60 5 rfl kj kj fun g6 W5 l6 e5 r6_5=>?_
 have x5:Ext w W5:=Ext.tr x4 e5
 have b6:w.heap.size≤g6:=qT x4.size l6
 refine Qak g6 _ (cat [ints .i64 (lims (Z0.1)),ints .i64 (lims (Z0.2.1)),ints .i64 (lims (Z0.2.2))]) 60 r6_5 rfl kj (Qah 60 _ _ g6 60 _ _ r6_5 rfl kj kj (isz (n:=48) kj kj) (eqsz (n:=48) kj kj) kj) fun W6 p6 r6_6=>?_
 have x6:Ext w W6:=Puts.ext p6 x5 b6
 refine Qaf ?_
 refine hK5 _ _ ?_
 refine wp_seq_k fun K7 hK7=>?_
 refine wp_seq_k fun K8 hK8=>?_
 refine Qac ?_
 refine Qab (.int .i64 255) 6 rfl kj kj ?_
 refine Qaf ?_
 refine hK8 _ _ ?_
 refine wp_block ?_
 have r2_4:=(Qaa (Qaa (Qaa r2_1 e2) e3) e4)
 have r2_6:=(Puts.row p6 (Qaa (Qaa (Qaa (Qaa r2_1 e2) e3) e4) e5) (Qad r2_4 l6))
 have r3_4:=(Qaa (Qaa r3_2 e3) e4)
 have r3_6:=(Puts.row p6 (Qaa (Qaa (Qaa r3_2 e3) e4) e5) (Qad r3_4 l6))
 have r4_4:=(Qaa r4_3 e4)
 have r4_6:=(Puts.row p6 (Qaa (Qaa r4_3 e4) e5) (Qad r4_4 l6))
 have n_2_5:g2≠g6:=(Qad r2_4 l6)
 have n_3_5:g3≠g6:=(Qad r3_4 l6)
 have n_4_5:g4≠g6:=(Qad r4_4 l6)
 refine QaI (fun (k:Nat)=>[(6,.int .i64 ((k:Int)-1)),(2,.pointer (some ⟨g2,0,none⟩)),(3,.pointer (some ⟨g3,0,none⟩)),(4,.pointer (some ⟨g4,0,none⟩)),(5,.pointer (some ⟨g6,0,none⟩))]) (fun (k:Nat) W=>k≤256∧W.heap[g2]? = some (.cells (cat [ints .i64 (lims (E.1)),ints .i64 (lims (E.2.1)),ints .i64 (lims (E.2.2))]) 60)∧W.heap[g3]? = some (.cells (ints .u8 ks) 23)∧W.heap[g4]? = some (.cells (cat [ints .i64 (lims (0)),ints .i64 (lims (0)),ints .i64 (lims (0))]) 60)∧W.heap[g6]? = some (.cells (cat [ints .i64 (lims ((rruns E Z0 ks k).1)),ints .i64 (lims ((rruns E Z0 ks k).2.1)),ints .i64 (lims ((rruns E Z0 ks k).2.2))]) 60)∧Ext w W) (fun k=>k) 256 ⟨rfl,rfl,rfl,rfl,rfl,trivial⟩ ⟨by omega,r2_6,r3_6,r4_6,r6_6,x6⟩ fun k X W hI=>?_
 obtain ⟨hk256,q2,q3,q4,q5,xx⟩:=hI
 rcases k with _ | j
 ·skip
  refine wp_seq_k fun K9 hK9=>?_
  refine wp_seq_k fun K10 hK10=>?_
  refine Qac ?_
  refine Qab (.int .i64 (-1)) 8 rfl kj kj ?_
  refine Qab (.bool false) 9 rfl kj kj ?_
  refine Qaf ?_
  refine hK10 _ _ ?_
  refine cond_false kj ?_
  refine wp_exit ?_
  refine hK7 _ _ ?_
  refine wp_seq_k fun K11 hK11=>?_
  refine Qac ?_
  refine Qab (.agg (cat [ints .i64 (lims ((rruns E Z0 ks 0).1)),ints .i64 (lims ((rruns E Z0 ks 0).2.1)),ints .i64 (lims ((rruns E Z0 ks 0).2.2))])) 28 rfl kj (Qag 60 _ g6 60 _ _ q5 rfl kj kj (isz (n:=48) kj kj)) ?_
  refine Qak g4 _ (cat [ints .i64 (lims ((rruns E Z0 ks 0).1)),ints .i64 (lims ((rruns E Z0 ks 0).2.1)),ints .i64 (lims ((rruns E Z0 ks 0).2.2))]) 60 q4 rfl kj (Qah 60 _ _ g4 60 _ _ q4 rfl kj kj (isz (n:=48) kj kj) (eqsz (n:=48) kj kj) kj) fun W8 p8 r4_8=>?_
  have x8:Ext w W8:=Puts.ext p8 xx b4
  refine Qaf ?_
  refine hK11 _ _ ?_
  refine wp_ret ?_
  exact (show bodyPost _ _ _ .ret _ _ from ret1 (.agg (cat [ints .i64 (lims ((rruns E Z0 ks 0).1)),ints .i64 (lims ((rruns E Z0 ks 0).2.1)),ints .i64 (lims ((rruns E Z0 ks 0).2.2))])) rfl (QaC g4 60 _ r4_8 kj kj (isz (n:=48) kj kj)) ⟨rfl,x8⟩)
 ·rw [show (((j+1:Nat):Int)-1)=(j:Int) by omega]
  have hS0:=QjE E Z0 ks j (by omega)
  have hL:isW3 (rruns E Z0 ks (j+1)):=rrun_is hE _ (Z:=Z0) hZ
  generalize rruns E Z0 ks (j+1)=s at hS0 hL q5
  have hn2:=rad_is hL hL
  have cs:=fun W=>radC hL hL W
  generalize hn:rad s s=n at cs hn2
  have hbr:=QfQ ks j
  by_cases hb1:QcR ks j=1
  ·have hbit:Int.tmod (nth ks (j/8)/2^(j%8)) 2=1:=Qia ks j hkb hb1
   rw [show bitB ks j=true by simp [bitB,hb1]] at hS0
   have ct:=fun W=>radC (A:=n) (B:=E) hn2 hE W
   generalize hm:rad n E=m at ct
   have hS:rruns E Z0 ks j=m:=by
    rw [hS0]
    simp only [rrung,hn,if_true,hm]
   refine wp_seq_k fun K17 hK17=>?_
   refine wp_seq_k fun K18 hK18=>?_
   refine Qac ?_
   refine Qab (.int .i64 ((j:Int))) 8 rfl kj kj ?_
   refine Qab (.bool true) 9 rfl kj (Qan (u:=.bool (decide ((j:Int)≥0))) kj (congrArg Value.bool (decide_eq_true (by omega)))) ?_
   refine Qaf ?_
   refine hK18 _ _ ?_
   refine cond_true kj ?_
   refine wp_skip ?_
   refine hK17 _ _ ?_
   refine wp_seq_k fun K19 hK19=>?_
   refine wp_block ?_
   refine wp_seq_k fun K20 hK20=>?_
   refine Qac ?_
   refine Qab (.agg (cat [ints .i64 (lims (s.1)),ints .i64 (lims (s.2.1)),ints .i64 (lims (s.2.2))])) 12 rfl kj (Qag 60 _ g6 60 _ _ q5 rfl kj kj (isz (n:=48) kj kj)) ?_
   refine Qab (.agg (cat [ints .i64 (lims (s.1)),ints .i64 (lims (s.2.1)),ints .i64 (lims (s.2.2))])) 13 rfl kj (Qag 60 _ g6 60 _ _ q5 rfl kj kj (isz (n:=48) kj kj)) ?_
   refine Qar (.agg (cat [ints .i64 (lims (n.1)),ints .i64 (lims (n.2.1)),ints .i64 (lims (n.2.2))])) 39 #[.agg (cat [ints .i64 (lims (s.1)),ints .i64 (lims (s.2.1)),ints .i64 (lims (s.2.2))]),.agg (cat [ints .i64 (lims (s.1)),ints .i64 (lims (s.2.1)),ints .i64 (lims (s.2.2))])] 14 rfl kj kj (cs _) fun W8 e8=>?_
   have x8:Ext w W8:=Ext.tr xx e8
   have r6_8:=(Qaa q5 e8)
   refine Qak g6 _ (cat [ints .i64 (lims (n.1)),ints .i64 (lims (n.2.1)),ints .i64 (lims (n.2.2))]) 60 r6_8 rfl kj (Qah 60 _ _ g6 60 _ _ r6_8 rfl kj kj (isz (n:=48) kj kj) (eqsz (n:=48) kj kj) kj) fun W9 p9 r6_9=>?_
   have x9:Ext w W9:=Puts.ext p9 x8 b6
   refine Qaf ?_
   refine hK20 _ _ ?_
   refine wp_seq_k fun K21 hK21=>?_
   refine Qac ?_
   refine Qab (.int .i64 ((j:Int))) 15 rfl kj kj ?_
   refine Qab (.int .i64 (((j/8:Nat):Int))) 16 rfl kj (Qan (u:=.int .i64 (IntKind.i64.wrap (Int.tdiv ((j:Int)) (8)))) kj (congrArg (Value.int .i64) (QeR j 8 (by omega)))) ?_
   refine Qab (.pointer (some ⟨g3,j/8,none⟩)) 17 rfl kj (QaD _ _ _ .i64 (j/8) _ 32 5 rfl kj kj kj kj (by omega)) ?_
   have r3_9:=(Puts.row p9 (Qaa q3 e8) n_3_5)
   refine Qab (.int .u8 (nth ks (j/8))) 18 rfl kj (Qam 5 _ g3 (j/8) 23 _ (.int .u8 (nth ks (j/8))) _ r3_9 rfl kj (Qas _ _ _ (by omega)) kj) ?_
   refine Qab (.int .i64 ((j:Int))) 19 rfl kj kj ?_
   refine Qab (.int .i64 (((j%8:Nat):Int))) 20 rfl kj (Qan (u:=.int .i64 (Int.tmod ((j:Int)) (8))) kj (congrArg (Value.int .i64) (QcU j 8))) ?_
   refine Qab (.int .u64 (((j%8:Nat):Int))) 21 rfl kj (Qan (u:=.int .u64 (IntKind.u64.wrap (((j%8:Nat):Int)))) kj (congrArg (Value.int .u64) (QiI _ (by omega)))) ?_
   refine Qab (.int .u8 (nth ks (j/8)/2^(j%8))) 22 rfl kj (Qbp .shr _ _ _ _ .u8 .u64 _ _ _ rfl kj kj (QcY _ _ _ _ _ _ (by omega) (QpP _ _ (by omega)))) ?_
   refine Qab (.int .u8 (1)) 23 rfl kj (Qan (u:=.int .u8 (Int.tmod ((nth ks (j/8)/2^(j%8))) (2))) kj (congrArg (Value.int .u8) hbit)) ?_
   refine Qab (.bool true) 24 rfl kj kj ?_
   refine Qaf ?_
   refine hK21 _ _ ?_
   refine cond_true kj ?_
   refine Qac ?_
   refine Qab (.agg (cat [ints .i64 (lims (n.1)),ints .i64 (lims (n.2.1)),ints .i64 (lims (n.2.2))])) 25 rfl kj (Qag 60 _ g6 60 _ _ r6_9 rfl kj kj (isz (n:=48) kj kj)) ?_
   have r2_9:=(Puts.row p9 (Qaa q2 e8) n_2_5)
   refine Qab (.agg (cat [ints .i64 (lims (E.1)),ints .i64 (lims (E.2.1)),ints .i64 (lims (E.2.2))])) 26 rfl kj (Qag 60 _ g2 60 _ _ r2_9 rfl kj kj (isz (n:=48) kj kj)) ?_
   refine Qar (.agg (cat [ints .i64 (lims (m.1)),ints .i64 (lims (m.2.1)),ints .i64 (lims (m.2.2))])) 39 #[.agg (cat [ints .i64 (lims (n.1)),ints .i64 (lims (n.2.1)),ints .i64 (lims (n.2.2))]),.agg (cat [ints .i64 (lims (E.1)),ints .i64 (lims (E.2.1)),ints .i64 (lims (E.2.2))])] 27 rfl kj kj (ct _) fun W10 e10=>?_
   have x10:Ext w W10:=Ext.tr x9 e10
   have r6_10:=(Qaa r6_9 e10)
   refine Qak g6 _ (cat [ints .i64 (lims (m.1)),ints .i64 (lims (m.2.1)),ints .i64 (lims (m.2.2))]) 60 r6_10 rfl kj (Qah 60 _ _ g6 60 _ _ r6_10 rfl kj kj (isz (n:=48) kj kj) (eqsz (n:=48) kj kj) kj) fun W11 p11 r6_11=>?_
   have x11:Ext w W11:=Puts.ext p11 x10 b6
   refine Qaf ?_
   refine hK19 _ _ ?_
   refine Qac ?_
   refine Qab (.int .i64 ((j:Int))) 10 rfl kj kj ?_
   refine Qab (.int .i64 ((j:Int)-1)) 11 rfl kj (Qan (u:=.int .i64 (IntKind.i64.wrap ((j:Int)-1))) kj (congrArg (Value.int .i64) (Qdz j (by omega)))) ?_
   refine Qab (.int .i64 ((j:Int)-1)) 6 rfl kj kj ?_
   refine Qaf ?_
   have r2_11:=(Puts.row p11 (Qaa r2_9 e10) n_2_5)
   have r3_11:=(Puts.row p11 (Qaa r3_9 e10) n_3_5)
   have r4_11:=(Puts.row p11 (Qaa (Puts.row p9 (Qaa q4 e8) n_4_5) e10) n_4_5)
   exact QaA j ⟨rfl,rfl,rfl,rfl,rfl,trivial⟩ ⟨by omega,r2_11,r3_11,r4_11,by rw [hS]; exact r6_11,x11⟩ (Nat.lt_succ_self j)
  ·have hbit:Int.tmod (nth ks (j/8)/2^(j%8)) 2=0:=Qia ks j hkb (by omega)
   rw [show bitB ks j=false by simp [bitB,hb1]] at hS0
   have hS:rruns E Z0 ks j=n:=by
    rw [hS0]
    simp only [rrung,hn,Bool.false_eq_true,if_false]
   refine wp_seq_k fun K12 hK12=>?_
   refine wp_seq_k fun K13 hK13=>?_
   refine Qac ?_
   refine Qab (.int .i64 ((j:Int))) 8 rfl kj kj ?_
   refine Qab (.bool true) 9 rfl kj (Qan (u:=.bool (decide ((j:Int)≥0))) kj (congrArg Value.bool (decide_eq_true (by omega)))) ?_
   refine Qaf ?_
   refine hK13 _ _ ?_
   refine cond_true kj ?_
   refine wp_skip ?_
   refine hK12 _ _ ?_
   refine wp_seq_k fun K14 hK14=>?_
   refine wp_block ?_
   refine wp_seq_k fun K15 hK15=>?_
   refine Qac ?_
   refine Qab (.agg (cat [ints .i64 (lims (s.1)),ints .i64 (lims (s.2.1)),ints .i64 (lims (s.2.2))])) 12 rfl kj (Qag 60 _ g6 60 _ _ q5 rfl kj kj (isz (n:=48) kj kj)) ?_
   refine Qab (.agg (cat [ints .i64 (lims (s.1)),ints .i64 (lims (s.2.1)),ints .i64 (lims (s.2.2))])) 13 rfl kj (Qag 60 _ g6 60 _ _ q5 rfl kj kj (isz (n:=48) kj kj)) ?_
   refine Qar (.agg (cat [ints .i64 (lims (n.1)),ints .i64 (lims (n.2.1)),ints .i64 (lims (n.2.2))])) 39 #[.agg (cat [ints .i64 (lims (s.1)),ints .i64 (lims (s.2.1)),ints .i64 (lims (s.2.2))]),.agg (cat [ints .i64 (lims (s.1)),ints .i64 (lims (s.2.1)),ints .i64 (lims (s.2.2))])] 14 rfl kj kj (cs _) fun W8 e8=>?_
   have x8:Ext w W8:=Ext.tr xx e8
   have r6_8:=(Qaa q5 e8)
   refine Qak g6 _ (cat [ints .i64 (lims (n.1)),ints .i64 (lims (n.2.1)),ints .i64 (lims (n.2.2))]) 60 r6_8 rfl kj (Qah 60 _ _ g6 60 _ _ r6_8 rfl kj kj (isz (n:=48) kj kj) (eqsz (n:=48) kj kj) kj) fun W9 p9 r6_9=>?_
   have x9:Ext w W9:=Puts.ext p9 x8 b6
   refine Qaf ?_
   refine hK15 _ _ ?_
   refine wp_seq_k fun K16 hK16=>?_
   refine Qac ?_
   refine Qab (.int .i64 ((j:Int))) 15 rfl kj kj ?_
   refine Qab (.int .i64 (((j/8:Nat):Int))) 16 rfl kj (Qan (u:=.int .i64 (IntKind.i64.wrap (Int.tdiv ((j:Int)) (8)))) kj (congrArg (Value.int .i64) (QeR j 8 (by omega)))) ?_
   refine Qab (.pointer (some ⟨g3,j/8,none⟩)) 17 rfl kj (QaD _ _ _ .i64 (j/8) _ 32 5 rfl kj kj kj kj (by omega)) ?_
   have r3_9:=(Puts.row p9 (Qaa q3 e8) n_3_5)
   refine Qab (.int .u8 (nth ks (j/8))) 18 rfl kj (Qam 5 _ g3 (j/8) 23 _ (.int .u8 (nth ks (j/8))) _ r3_9 rfl kj (Qas _ _ _ (by omega)) kj) ?_
   refine Qab (.int .i64 ((j:Int))) 19 rfl kj kj ?_
   refine Qab (.int .i64 (((j%8:Nat):Int))) 20 rfl kj (Qan (u:=.int .i64 (Int.tmod ((j:Int)) (8))) kj (congrArg (Value.int .i64) (QcU j 8))) ?_
   refine Qab (.int .u64 (((j%8:Nat):Int))) 21 rfl kj (Qan (u:=.int .u64 (IntKind.u64.wrap (((j%8:Nat):Int)))) kj (congrArg (Value.int .u64) (QiI _ (by omega)))) ?_
   refine Qab (.int .u8 (nth ks (j/8)/2^(j%8))) 22 rfl kj (Qbp .shr _ _ _ _ .u8 .u64 _ _ _ rfl kj kj (QcY _ _ _ _ _ _ (by omega) (QpP _ _ (by omega)))) ?_
   refine Qab (.int .u8 (0)) 23 rfl kj (Qan (u:=.int .u8 (Int.tmod ((nth ks (j/8)/2^(j%8))) (2))) kj (congrArg (Value.int .u8) hbit)) ?_
   refine Qab (.bool false) 24 rfl kj kj ?_
   refine Qaf ?_
   refine hK16 _ _ ?_
   refine cond_false kj ?_
   refine wp_skip ?_
   refine hK14 _ _ ?_
   refine Qac ?_
   refine Qab (.int .i64 ((j:Int))) 10 rfl kj kj ?_
   refine Qab (.int .i64 ((j:Int)-1)) 11 rfl kj (Qan (u:=.int .i64 (IntKind.i64.wrap ((j:Int)-1))) kj (congrArg (Value.int .i64) (Qdz j (by omega)))) ?_
   refine Qab (.int .i64 ((j:Int)-1)) 6 rfl kj kj ?_
   refine Qaf ?_
   have r2_9:=(Puts.row p9 (Qaa q2 e8) n_2_5)
   have r4_9:=(Puts.row p9 (Qaa q4 e8) n_4_5)
   exact QaA j ⟨rfl,rfl,rfl,rfl,rfl,trivial⟩ ⟨by omega,r2_9,r3_9,r4_9,by rw [hS]; exact r6_9,x9⟩ (Nat.lt_succ_self j)
end Go.Proofs.YtdoadngmgmdlbaaDoor.Field
end
section
namespace Go.Proofs.YtdoadngmgmdlbaaDoor.Field
open Go Go.RowKit
open Rely Auto
theorem w_ne (y : Int):(y*y*dN+1)%p≠0:=fun h=>by
  by_cases hy:y%p=0
  · rw [←addL,Int.mul_assoc,←modL,hy,Int.zero_mul] at h
    exact absurd h (by decide)
  · exact nonsq (a:=y) (b:=1) hy (zc1 h (c:=-1) (by grind))
theorem Qng {x u y:Int} (h1:onC x y) (h2:onC u y):x*x%p=u*u%p:=by
  have e:((x*x-u*u)*(y*y*dN+1))%p=0:=by
    unfold onC cv at h1 h2
    exact zc2 h1 h2 (c:=-1) (d:=1) (by grind)
  exact Qgw ((Qgx e).resolve_right (w_ne y))
theorem Qm5 (u P:Int) (hP:P%2=1) (h:(P-u)%2=u%2):False:=by omega
theorem Qrc : p%2=1:=by decide
theorem Qpr {x u y:Int} (hx:isN x) (hu:isN u) (h1:onC x y) (h2:onC u y) (hp:x%2=u%2):x=u:=by
  rcases QlT x u hx hu (Qng h1 h2) with h | h
  · exact h
  · by_cases h0:u=0
    · rw [h,h0]; rfl
    · rw [Qf9 u hu h0] at h
      rw [h] at hp
      exact absurd (Qm5 u p Qrc hp) id
theorem QhU {a b:Int} (h:Qao a=Qao b):∀ k,k≤32→a%256^k=b%256^k
  | 0,_=>by simp [Int.emod_one]
  | k+1,hk=>by
    rw [mod_step,mod_step b,QhU h k (by omega)]
    have e:Qap a k=Qap b k:=by
      have q:∀ n,nth (Qao n) k=Qap n k:=fun n=>by unfold nth Qao part; simp [show k<32 by omega]
      rw [←q,←q,h]
    unfold Qap at e
    rw [e]
theorem Ql4 {a b:Int} (ha:isN a) (hb:isN b) (h:Qao a=Qao b):a=b:=by
  have e:=QhU h 32 (qR _)
  have l:p<256^32:=by decide
  have a1:=ha.2
  have b1:=hb.2
  rw [Int.emod_eq_of_lt ha.1 (Int.lt_trans a1 l),Int.emod_eq_of_lt hb.1 (Int.lt_trans b1 l)] at e
  exact e
theorem Qi5 {x y:Int} (hy:isN y):(x%2==1)=decide (128≤nth (enc x y) 31):=by
  have hl:=QdC hy
  unfold enc
  by_cases h:(x%2==1)=true
  · rw [if_pos h,h,nth_set_self _ _ _ (by rw [bytes_len]; decide)]
    exact (decide_eq_true (by omega)).symm
  · rw [if_neg h]
    rw [Bool.not_eq_true] at h
    rw [h]
    exact (decide_eq_false (by omega)).symm
theorem QgW {x y:Int} (hy:isN y):(enc x y).set 31 (nth (enc x y) 31%128)=Qao y:=by
  have hl:=QdC hy
  have hs:(Qao y).set 31 (nth (Qao y) 31)=Qao y:=Qoj _ _
  unfold enc
  split
  · rw [nth_set_self _ _ _ (by rw [bytes_len]; decide),List.set_set,show (nth (Qao y) 31+128)%128=nth (Qao y) 31 by omega,hs]
  · rw [Int.emod_eq_of_lt hl.1 hl.2,hs]
theorem Qpm {x y u v:Int} (hy:isN y) (hv:isN v) (h:enc x y=enc u v):y=v∧x%2=u%2:=by
  refine ⟨Ql4 hy hv ?_,?_⟩
  · rw [←QgW (x:=x) hy,←QgW (x:=u) hv,h]
  · have e:=Qi5 (x:=x) hy
    rw [h,←Qi5 hv] at e
    have q:∀ a:Int,a%2=0∨a%2=1:=fun a=>by omega
    rcases q x with h1 | h1 <;> rcases q u with h2 | h2 <;> rw [h1,h2] at e ⊢ <;> cases e
theorem lK_eq (xs : List Int):lK xs=(zK xs-1)%p:=by
  unfold lK zK
  split
  · rfl
  · rfl
end Go.Proofs.YtdoadngmgmdlbaaDoor.Field
end
section
namespace Go.Proofs.YtdoadngmgmdlbaaDoor.Field
open Go Go.RowKit
open Rely Auto
set_option maxHeartbeats 4000000
def ptA (P : Int×Int):Array Value:=cat [numA P.1,numA ((P.2-1)%p)]
def ptV (P : Int×Int):Value:=.agg (ptA P)
theorem QpZ {P : Int×Int} (h:OnP P):pyF P.1 ((P.2-1)%p)=P.2:=Qoo h.y P.1
def encP (P : Int×Int):List Int:=enc P.1 P.2
theorem Qbe (P : Int×Int):(encP P).length=32:=Qpl _ _
theorem enc_bytes {x y:Int} (hy:isN y):Qal (enc x y):=by
  have hb:Qal (Qao y):=fun v hv=>by
    unfold Qao part at hv
    simp only [List.mem_map,List.mem_range] at hv
    obtain ⟨i,hi,rfl⟩:=hv
    rw [if_pos hi]
    unfold Qap
    omega
  have hl:=QdC hy
  unfold enc
  split
  · intro v hv
    rcases List.mem_or_eq_of_mem_set hv with h | h
    · exact hb v h
    · omega
  · exact hb
theorem ptBytes {P : Int×Int} (h:OnP P) (w:World):Calls Tryd.prog 22 #[ptV P] w (Ret w (.agg (ints .u8 (encP P)))):=by
  have:=Qo6 P.1 ((P.2-1)%p) h.x (Qa0 _) w
  rw [QpZ h] at this
  exact this
theorem rep_out {Z x:Int} (hz:isN Z) (h0:Z≠0) (hx:isN x):(Z*x%p)*invN Z%p=x:=by
  have h1:=QgR Z hz h0
  have e:(Z*x%p)*invN Z%p=(Z*invN Z%p)*x%p:=by
    rw [modL,modL]; exact QdA (by grind)
  rw [e,h1,Int.one_mul,QaZ hx]
def Qfh (A : W4) (P:Int×Int):Prop:=RepW A.1 A.2.1 A.2.2.1 A.2.2.2 P.1 P.2
def RepR' (A : W3) (P:Int×Int):Prop:=RepR A.1 A.2.1 A.2.2 P.1 P.2
theorem Qgj {A : W4} {P:Int×Int} (h:OnP P) (k:Qfh A P):Qe2 A.1 A.2.1 A.2.2.1 A.2.2.2=(P.1,(P.2-1)%p):=by
  rw [Qox,k.hx,k.hy,rep_out k.n k.z h.x,rep_out k.n k.z h.y]
theorem Qgb {P : Int×Int} (h:OnP P):Qfh (wE P.1 ((P.2-1)%p)) P:=by
  have e:wE P.1 ((P.2-1)%p)=(P.1,P.2,1,P.1*P.2%p):=by
    show (P.1,pyF P.1 ((P.2-1)%p),1,P.1*pyF P.1 ((P.2-1)%p)%p)=_
    rw [QpZ h]
  rw [e]
  exact ⟨num_isN 1,(by show (1:Int)≠0; decide),(by show P.1=1*P.1%p; rw [Int.one_mul,QaZ h.x]),(by show P.2=1*P.2%p; rw [Int.one_mul,QaZ h.y]),(by show P.1*P.2%p=1*(P.1*P.2)%p; rw [Int.one_mul])⟩
theorem Qg1 {A B:W4} {P Q:Int×Int} (h:OnP P) (k:OnP Q) (a:Qfh A P) (b:Qfh B Q):Qfh (wad A B) (pAdd P Q):=QlN h.c k.c a b
theorem rad_rep {A B:W3} {P Q:Int×Int} (h:OnP P) (k:OnP Q) (a:RepR' A P) (b:RepR' B Q):RepR' (rad A B) (pAdd P Q):=Qmh h.c k.c a b
theorem Qen {E : W4} {P:Int×Int} (hP:OnP P) (hE:Qfh E P):∀ (bs:List Bool) {Z:W4} {Q:Int×Int},OnP Q→Qfh Z Q→Qfh (wrun E Z bs) (bs.foldl (fun A b=>if b then pAdd (pAdd A A) P else pAdd A A) Q)
  | [],_,_,_,h=>h
  | true::bs,_,_,hQ,h=>Qen hP hE bs (pAdd_on (pAdd_on hQ hQ) hP) (Qg1 (pAdd_on hQ hQ) hP (Qg1 hQ hQ h h) hE)
  | false::bs,_,_,hQ,h=>Qen hP hE bs (pAdd_on hQ hQ) (Qg1 hQ hQ h h)
theorem rrun_rep {E : W3} {P:Int×Int} (hP:OnP P) (hE:RepR' E P):∀ (bs:List Bool) {Z:W3} {Q:Int×Int},OnP Q→RepR' Z Q→RepR' (rrun E Z bs) (bs.foldl (fun A b=>if b then pAdd (pAdd A A) P else pAdd A A) Q)
  | [],_,_,_,h=>h
  | true::bs,_,_,hQ,h=>rrun_rep hP hE bs (pAdd_on (pAdd_on hQ hQ) hP) (rad_rep (pAdd_on hQ hQ) hP (rad_rep hQ hQ h h) hE)
  | false::bs,_,_,hQ,h=>rrun_rep hP hE bs (pAdd_on hQ hQ) (rad_rep hQ hQ h h)
theorem Qie : Qfh (wE 0 0) QcH:=Qgb pZero_on
theorem Z0_rep : RepR' Z0 QcH:=⟨num_isN 1,by decide,rfl,rfl⟩
theorem rE_rep {P : Int×Int} (h:OnP P):RepR' (P.1,P.2,1) P :=
  ⟨num_isN 1,(by show (1:Int)≠0; decide),(by show P.1=1*P.1%p; rw [Int.one_mul,QaZ h.x]),(by show P.2=1*P.2%p; rw [Int.one_mul,QaZ h.y])⟩
theorem ptTimes {P : Int×Int} (h:OnP P) (ks:List Int) (hk:ks.length=32) (hkb:Qal ks) (w:World) (tB:TypeId) (hB:w.heap[2]? = some (.cells (ints .u8 Qb0) tB)) :
    Calls Tryd.prog 21 #[ptV P,.agg (ints .u8 ks)] w (Ret w (ptV (climbP P (bitsB ks)))):=by
  have c:=Qos P.1 ((P.2-1)%p) h.x (Qa0 _) ks hk hkb w tB hB
  have e:=Qgj (climbP_on h (bitsB ks)) (Qen h (Qgb h) (bitsB ks) pZero_on Qie)
  rw [e] at c
  exact c
theorem ptAdd {P Q:Int×Int} (h:OnP P) (k:OnP Q) (w:World) (tB:TypeId) (hB:w.heap[2]? = some (.cells (ints .u8 Qb0) tB)) :
    Calls Tryd.prog 35 #[ptV P,ptV Q] w (Ret w (ptV (pAdd P Q))):=by
  have c:=Qrb P.1 ((P.2-1)%p) Q.1 ((Q.2-1)%p) h.x (Qa0 _) k.x (Qa0 _) w tB hB
  have e:Qo7 P.1 ((P.2-1)%p) Q.1 ((Q.2-1)%p)=((pAdd P Q).1,((pAdd P Q).2-1)%p):=Qgj (pAdd_on h k) (Qg1 h k (Qgb h) (Qgb k))
  rw [e] at c
  exact c
theorem ptNeg {P : Int×Int} (h:OnP P) (w:World):Calls Tryd.prog 36 #[ptV P] w (Ret w (ptV (pNeg P))):=Qra P.1 ((P.2-1)%p) h.x (Qa0 _) w
theorem QhG {n : Int} (h:isN n):QfE (Qao n)=n:=by
  have e:=leAt_mod n 32 (qR _)
  have l:p<256^32:=by decide
  have l2:p<57896044618658097711785492504343953926634992332820282019728792003956564819968:=by decide
  have h1:=h.1
  have h2:=h.2
  rw [Int.emod_eq_of_lt h1 (Int.lt_trans h2 l)] at e
  unfold QfE
  rw [e,Int.emod_eq_of_lt h1 (Int.lt_trans h2 l2),QaZ h]
theorem Qqs {x y:Int} (h:onC x y):x*x%p=uK y:=by
  unfold uK
  have hw:=w_ne y
  have i1:=QfY hw
  have e:(y*y%p*dN%p+1)%p=(y*y*dN+1)%p:=by rw [modL,addL]
  have e2:(y*y%p-1)%p*invN ((y*y*dN+1)%p)%p=(y*y-1)*invN ((y*y*dN+1)%p)%p:=by
    rw [modL,←modL (y*y%p-1),subL,modL]
  rw [e,e2]
  refine Qgw ?_
  unfold onC cv at h
  refine zc2 h i1 (c:=-invN ((y*y*dN+1)%p)) (d:=-(x*x)) ?_
  grind
theorem Qi4 {x : Int} (hx:isN x):(if (x%2==1)=true then QgF (Qbl x) else Qbl x)=x:=by
  unfold Qbl
  by_cases h:x%2=1
  · rw [if_pos (by simp [h]),if_pos h,QiT]
    have e:(0-(0-x)%p)%p=x%p:=by rw [subR]; exact QdA (by omega)
    rw [e,QaZ hx]
  · rw [if_neg (by simp [h]),if_neg h]
theorem from_enc {P : Int×Int} (h:OnP P):okK (encP P)=true∧xK (encP P)=P.1∧zK (encP P)=P.2:=by
  have hy:yK (encP P)=P.2:=by
    unfold yK cutK encP
    rw [QgW h.y,QhG h.y]
  have ho:oddK (encP P)=(P.1%2==1):=by
    have hl:=enc_bytes (x:=P.1) h.y
    have hb:0≤nth (enc P.1 P.2) 31∧nth (enc P.1 P.2) 31≤255:=hl.nth 31
    rw [Qi5 h.y]
    unfold oddK encP
    by_cases hh:128≤nth (enc P.1 P.2) 31
    · rw [decide_eq_true hh,show nth (enc P.1 P.2) 31/128=1 by omega]; rfl
    · rw [decide_eq_false hh,show nth (enc P.1 P.2) 31/128=0 by omega]; rfl
  have hc:canK (encP P)=true:=by
    unfold canK
    rw [hy]
    unfold cutK encP
    rw [QgW h.y]
    exact decide_eq_true rfl
  have hs:=Qio P.1 h.x
  rw [Qqs h.c,←hy] at hs
  have hr:rK (encP P)=Qbl P.1:=hs.2
  have h0:(oddK (encP P)&&rK (encP P)==0)=false:=by
    rw [ho,hr]
    by_cases hp:P.1%2=1
    · have e:=QjX P.1 h.x hp
      have hlt:=h.x.2
      rw [e]
      have:¬ (p-P.1=0):=by omega
      simp [this]
    · simp [hp]
  have hk:okK (encP P)=true:=by
    unfold okK
    rw [hc,hs.1,h0]
    rfl
  refine ⟨hk,?_,?_⟩
  · unfold xK
    rw [if_pos hk,ho,hr]
    exact Qi4 h.x
  · unfold zK
    rw [if_pos hk,hy]
theorem Qp2 : OnP (bxN,byN):=⟨Ql7,Ql6,by unfold onC; decide +kernel⟩
theorem QqE : blN=((bxN,byN).2-1)%p:=by decide +kernel
theorem ptBase (w : World) (tX:TypeId) (hX:w.heap[0]? = some (.cells (ints .u8 QbH) tX)) (tY:TypeId) (hY:w.heap[1]? = some (.cells (ints .u8 QbG) tY)) :
    Calls Tryd.prog 20 #[] w (Ret w (ptV (bxN,byN))):=by
  have c:=QqG w tX hX tY hY
  rw [QqE] at c
  exact c
theorem K_onP (xs : List Int):OnP (xK xs,zK xs):=⟨QpC xs,QpB xs,Qro xs⟩
def mulP (a ks:List Int):Int×Int:=climbP (xK a,zK a) (bitsB ks)
theorem QcK (a ks:List Int):OnP (mulP a ks):=climbP_on (K_onP a) _
end Go.Proofs.YtdoadngmgmdlbaaDoor.Field
end
section
namespace Go.Proofs.YtdoadngmgmdlbaaDoor.Field
open Go Go.RowKit
open Rely Auto
theorem climb_num {P : Int×Int} (h:OnP P) (ks:List Int) (hb:Qal ks):climbP P (bitsB ks)=nmul (numB ks) P:=by rw [QhS h,QfN ks hb]
def BP : Int×Int:=(bxN,byN)
theorem Qcb : OnP BP:=Qp2
def pa (a : List Int):Int×Int:=climbP BP (bitsB a)
theorem Qdh (a : List Int):OnP (pa a):=climbP_on Qcb _
end Go.Proofs.YtdoadngmgmdlbaaDoor.Field
end
section
namespace Go.Proofs.YtdoadngmgmdlbaaDoor.Field
open Go Go.RowKit
open Rely Auto
def PN : Nat:=57896044618658097711785492504343953926634992332820282019728792003956564819949
theorem QgG : ((PN:Nat):Int)=p:=rfl
def dNat : Nat:=37095705934669439343138083508754565189542113879843219016388785533085940283555
theorem QqD : ((dNat:Nat):Int)=dN:=by decide +kernel
def sbN (a b:Nat):Nat:=(a+(PN-b))%PN
def wadT (a b c d e f g h:Nat):Nat×Nat×Nat×Nat :=
  let s0:=sbN b a*sbN f e%PN
  let s1:=(b+a)%PN*((f+e)%PN)%PN
  let s2:=d*h%PN*dNat%PN
  let s3:=(s2+s2)%PN
  let s4:=c*g%PN
  let s5:=(s4+s4)%PN
  let s6:=sbN s1 s0
  let s7:=sbN s5 s3
  let s8:=(s5+s3)%PN
  let s9:=(s1+s0)%PN
  (s6*s7%PN,s8*s9%PN,s7*s8%PN,s6*s9%PN)
def wadN (k : Nat→Nat→Nat→Nat→Nat) (a b c d e f g h:Nat):Nat :=
  let s0:=sbN b a*sbN f e%PN
  let s1:=(b+a)%PN*((f+e)%PN)%PN
  let s2:=d*h%PN*dNat%PN
  let s3:=(s2+s2)%PN
  let s4:=c*g%PN
  let s5:=(s4+s4)%PN
  let s6:=sbN s1 s0
  let s7:=sbN s5 s3
  let s8:=(s5+s3)%PN
  let s9:=(s1+s0)%PN
  let r0:=s6*s7%PN
  let r1:=s8*s9%PN
  let r2:=s7*s8%PN
  let r3:=s6*s9%PN
  bif Nat.ble r0 PN&&Nat.ble r1 PN&&Nat.ble r2 PN&&Nat.ble r3 PN then k r0 r1 r2 r3 else 0
def ordS (E1 E2 E3 E4:Nat) (bt:Bool) (k:Nat→Nat→Nat→Nat→Nat) (a b c d:Nat):Nat:=wadN (fun a b c d=>bif bt then wadN k a b c d E1 E2 E3 E4 else k a b c d) a b c d a b c d
def ordN (E1 E2 E3 E4 e:Nat):Nat→Nat→Nat→Nat→Nat→Nat
  | 0,a,b,c,_=>bif Nat.beq a 0&&Nat.beq b c then 1 else 2
  | f+1,a,b,c,d=>ordS E1 E2 E3 E4 (Nat.beq (e/2^f%2) 1) (ordN E1 E2 E3 E4 e f) a b c d
def Qc2 (e : Nat):Nat→List Bool
  | 0=>[]
  | f+1=>Nat.beq (e/2^f%2) 1::Qc2 e f
theorem Qil (a b:Nat) (ha:a<PN) (hb:b<PN):((sbN a b:Nat):Int)=((a:Int)-b)%p:=by
  unfold sbN
  rw [←QgG,Int.natCast_emod,Int.natCast_add,Int.natCast_sub (Nat.le_of_lt hb),show (a:Int)+((PN:Int)-b)=(a-b)+PN by omega,Int.add_emod_right]
theorem Qp8 (a b:Nat):(((a+b)%PN:Nat):Int)=((a:Int)+b)%p:=by
  rw [←QgG,Int.natCast_emod,Int.natCast_add]
theorem QkV (a b:Nat):((a*b%PN:Nat):Int)=((a:Int)*b)%p:=by
  rw [←QgG,Int.natCast_emod,Int.natCast_mul]
theorem mod_lt (a : Nat):a%PN<PN:=Nat.mod_lt _ (by decide)
def QdW (t : Nat×Nat×Nat×Nat):W4:=((t.1:Int),(t.2.1:Int),(t.2.2.1:Int),(t.2.2.2:Int))
theorem QiF (k : Nat→Nat→Nat→Nat→Nat) (a b c d e f g h:Nat) (ha:a<PN) (hb:b<PN) (hc:c<PN) (hd:d<PN) (he:e<PN) (hf:f<PN) (hg:g<PN) (hh:h<PN) :
    ∃ r0 r1 r2 r3:Nat,r0<PN∧r1<PN∧r2<PN∧r3<PN∧wadN k a b c d e f g h=k r0 r1 r2 r3∧wad (QdW (a,b,c,d)) (QdW (e,f,g,h))=QdW (r0,r1,r2,r3):=by
  refine ⟨(wadT a b c d e f g h).1,(wadT a b c d e f g h).2.1,(wadT a b c d e f g h).2.2.1,(wadT a b c d e f g h).2.2.2,mod_lt _,mod_lt _,mod_lt _,mod_lt _,?_,?_⟩
  · have hb:∀ a:Nat,Nat.ble (a%PN) PN=true:=fun a=>by
      rw [Nat.ble_eq]
      exact Nat.le_of_lt (mod_lt _)
    unfold wadN wadT
    simp only [hb,Bool.and_true,_root_.cond_true]
  · show QcI (a:Int) b c d e f g h dN=_
    unfold QcI wadT QdW
    simp only [Qp8,QkV,Qil _ _ hb ha,Qil _ _ hf he,Qil _ _ (mod_lt _) (mod_lt _),QqD]
theorem Qhf (E Z:W4) (b:Bool) (bs:List Bool):wrun E Z (b::bs)=wrun E (wrung E Z b) bs:=rfl
theorem QiD (E Z:W4):wrun E Z []=Z:=rfl
theorem Qiu (E1 E2 E3 E4 e a b c d:Nat):ordN E1 E2 E3 E4 e 0 a b c d=(bif Nat.beq a 0&&Nat.beq b c then 1 else 2):=by rw [ordN]
theorem Qj2 (E A:W4):wrung E A true=wad (wad A A) E:=rfl
theorem Qid (E A:W4):wrung E A false=wad A A:=rfl
theorem QkK (E1 E2 E3 E4:Nat) (bt:Bool) (k:Nat→Nat→Nat→Nat→Nat) (a b c d:Nat):ordS E1 E2 E3 E4 bt k a b c d=wadN (fun a b c d=>bif bt then wadN k a b c d E1 E2 E3 E4 else k a b c d) a b c d a b c d:=by rw [ordS]
theorem Qh2 (E1 E2 E3 E4:Nat) (h1:E1<PN) (h2:E2<PN) (h3:E3<PN) (h4:E4<PN) (E:W4) (hE:E=QdW (E1,E2,E3,E4)) (bt:Bool) (k:Nat→Nat→Nat→Nat→Nat) (a b c d:Nat) (ha:a<PN) (hb:b<PN) (hc:c<PN) (hd:d<PN) :
    ∃ r0 r1 r2 r3:Nat,r0<PN∧r1<PN∧r2<PN∧r3<PN∧ordS E1 E2 E3 E4 bt k a b c d=k r0 r1 r2 r3∧wrung E (QdW (a,b,c,d)) bt=QdW (r0,r1,r2,r3):=by
  obtain ⟨q0,q1,q2,q3,l0,l1,l2,l3,e1,e2⟩:=QiF (fun a b c d=>bif bt then wadN k a b c d E1 E2 E3 E4 else k a b c d) a b c d a b c d ha hb hc hd ha hb hc hd
  cases bt with
  | true =>
    obtain ⟨t0,t1,t2,t3,m0,m1,m2,m3,e3,e4⟩:=QiF k q0 q1 q2 q3 E1 E2 E3 E4 l0 l1 l2 l3 h1 h2 h3 h4
    refine ⟨t0,t1,t2,t3,m0,m1,m2,m3,(QkK ..).trans (e1.trans ((_root_.cond_true _ _).trans e3)),?_⟩
    rw [Qj2,e2]
    exact (congrArg (wad _) hE).trans e4
  | false=>exact ⟨q0,q1,q2,q3,l0,l1,l2,l3,(QkK ..).trans (e1.trans (_root_.cond_false _ _)),by rw [Qid,e2]⟩
theorem QkL (E1 E2 E3 E4 e f a b c d:Nat):ordN E1 E2 E3 E4 e (f+1) a b c d=ordS E1 E2 E3 E4 (Nat.beq (e/2^f%2) 1) (ordN E1 E2 E3 E4 e f) a b c d:=by rw [ordN]
theorem Qmz (E1 E2 E3 E4 e:Nat) (h1:E1<PN) (h2:E2<PN) (h3:E3<PN) (h4:E4<PN) (E:W4) (hE:E=QdW (E1,E2,E3,E4)):∀ (f a b c d:Nat),a<PN→b<PN→c<PN→d<PN →
    ∃ r0 r1 r2 r3:Nat,ordN E1 E2 E3 E4 e f a b c d=(bif Nat.beq r0 0&&Nat.beq r1 r2 then 1 else 2)∧wrun E (QdW (a,b,c,d)) (Qc2 e f)=QdW (r0,r1,r2,r3):=by
  intro f
  induction f with
  | zero=>intro a b c d _ _ _ _; exact ⟨a,b,c,d,Qiu ..,by rw [Qc2,QiD]⟩
  | succ f ih =>
    intro a b c d ha hb hc hd
    obtain ⟨q0,q1,q2,q3,l0,l1,l2,l3,e1,e2⟩:=Qh2 E1 E2 E3 E4 h1 h2 h3 h4 E hE (Nat.beq (e/2^f%2) 1) (ordN E1 E2 E3 E4 e f) a b c d ha hb hc hd
    obtain ⟨r0,r1,r2,r3,e3,e4⟩:=ih q0 q1 q2 q3 l0 l1 l2 l3
    exact ⟨r0,r1,r2,r3,(QkL ..).trans (e1.trans e3),by rw [Qc2,Qhf,e2,e4]⟩
def Qh3 : List Int:=[237,211,245,92,26,99,18,88,214,156,247,162,222,249,222,20,0,0,0,0,0,0,0,0,0,0,0,0,0,0,0,16]
theorem Qiv : Qal Qh3:=by unfold Qal; decide
theorem QiY : bitsB Qh3=Qc2 7237005577332262213973186563042994240857116359379907606001950938285454250989 256:=by decide +kernel
theorem QoF : numB Qh3=ordL.toNat:=by decide +kernel
theorem QoE : ordN 15112221349535400772501151409588531511454012693041857206046113283949847762202 46316835694926478169428394003475163141307993866256225615783033603165251855960 1 46827403850823179245072216630277197565144205554125654976674165829533817101731 7237005577332262213973186563042994240857116359379907606001950938285454250989 256 0 1 1 0=1:=by decide +kernel
theorem Qkk : wE BP.1 ((BP.2-1)%p)=QdW (15112221349535400772501151409588531511454012693041857206046113283949847762202,46316835694926478169428394003475163141307993866256225615783033603165251855960,1,46827403850823179245072216630277197565144205554125654976674165829533817101731):=by decide +kernel
theorem QiG : wE 0 0=QdW (0,1,1,0):=by decide +kernel
theorem Qmx : climbP BP (bitsB Qh3)=QcH:=by
  have r:=Qen Qcb (Qgb Qcb) (bitsB Qh3) pZero_on Qie
  have on:=climbP_on Qcb (bitsB Qh3)
  change Qfh _ (climbP BP (bitsB Qh3)) at r
  rw [Qkk,QiG,QiY] at r
  obtain ⟨r0,r1,r2,r3,h1,h2⟩:=Qmz 15112221349535400772501151409588531511454012693041857206046113283949847762202 46316835694926478169428394003475163141307993866256225615783033603165251855960 1 46827403850823179245072216630277197565144205554125654976674165829533817101731 7237005577332262213973186563042994240857116359379907606001950938285454250989 (by decide) (by decide) (by decide) (by decide) _ rfl 256 0 1 1 0 (by decide) (by decide) (by decide) (by decide)
  rw [QoE] at h1
  rw [h2] at r
  rw [←QiY] at r
  generalize climbP BP (bitsB Qh3)=P at r on
  have hq:r0=0∧r1=r2:=by
    cases ha:Nat.beq r0 0 with
    | false=>rw [ha] at h1; simp at h1
    | true =>
      cases hb:Nat.beq r1 r2 with
      | false=>rw [ha,hb] at h1; simp at h1
      | true=>exact ⟨Nat.eq_of_beq_eq_true ha,Nat.eq_of_beq_eq_true hb⟩
  obtain ⟨rfl,rfl⟩:=hq
  have hz:(r1:Int)%p≠0:=by
    have:=r.z
    have n:=r.n
    change isN (r1:Int) at n
    rw [QaZ n]; exact this
  have hX:(0:Int)=r1*P.1%p:=r.hx
  have hY:(r1:Int)=r1*P.2%p:=r.hy
  have x0:P.1=0:=by
    have:=(Qgx hX.symm).resolve_left hz
    rwa [QaZ on.x] at this
  have y1:P.2=1:=by
    have n:=r.n
    change isN (r1:Int) at n
    have e:((r1:Int)*(P.2-1))%p=0:=by
      rw [show (r1:Int)*(P.2-1)=r1*P.2-r1 by grind,←subL,←hY]
      simp
    have:=Qgw ((Qgx e).resolve_left hz)
    rwa [QaZ on.y] at this
  exact Prod.ext x0 y1
theorem order_mul : nmul ordL.toNat BP=QcH:=by
  rw [←QoF,←climb_num Qcb _ Qiv]
  exact Qmx
end Go.Proofs.YtdoadngmgmdlbaaDoor.Field
end
section
namespace Go.Proofs.YtdoadngmgmdlbaaDoor.Field
open Go Go.RowKit
open Rely Auto
def dig (V : Int):List Int:=(List.range 34).map (Qap V)
theorem dig_len (V : Int):(dig V).length=34:=by simp [dig]
theorem Qlx (V : Int) (i:Nat) (hi:i<34):nth (dig V) i=Qap V i:=by simp [nth,dig,hi]
theorem byteAt_range (V : Int) (i:Nat):0≤Qap V i∧Qap V i≤255:=by unfold Qap; omega
theorem dig_bytes (V : Int):Qal (dig V):=fun x hx=>by
  simp only [dig,List.mem_map] at hx
  obtain ⟨i,_,rfl⟩:=hx
  exact byteAt_range V i
theorem Qne : List.replicate 34 0=dig 0:=by decide
theorem Qje (V : Int):∀ k,k≤34→leAt (dig V) 0 k=V%256^k
  | 0,_=>by simp [leAt,Int.emod_one]
  | k+1,hk=>by
    rw [leAt,Qje V k (by omega),Nat.zero_add,Qlx V k (by omega),mod_step]
    unfold Qap
    rw [Int.mul_comm (V/256^k%256)]
theorem QgP (xs : List Int) (o:Nat):∀ m,leAt xs o (m+1)=nth xs o+256*leAt xs (o+1) m
  | 0=>by simp [leAt]
  | m+1=>by
    rw [leAt,QgP xs o m,leAt,show o+(m+1)=o+1+m by omega,Int.pow_succ]
    grind
def redT (xs : List Int) (N:Nat):Nat→Int
  | 0=>0
  | m+1=>(256*redT xs N m+nth xs (N-1-m))%ordL
theorem QiO (xs : List Int) (N:Nat):∀ m,m≤N→redT xs N m=leAt xs (N-m) m%ordL
  | 0,_=>rfl
  | m+1,h=>by
    rw [redT,QiO xs N m (by omega),QgP,show N-(m+1)+1=N-m by omega,show N-1-m=N-(m+1) by omega,Int.add_emod,Int.mul_emod,Int.emod_emod,←Int.mul_emod,←Int.add_emod,Int.add_comm]
theorem Qmf (xs : List Int) (N m:Nat):isS (redT xs N m):=by
  cases m
  · exact (show isS 0 from ⟨by decide,by decide⟩)
  · exact isS_mod _
theorem Qqb (i : Nat):(256:Int)^(i+1)=256*256^i:=by rw [Int.pow_succ,Int.mul_comm]
theorem QhV (R x:Int) (hx:0≤x∧x≤255) (i:Nat):Qap (256*R+x) (i+1)=Qap R i:=by
  unfold Qap
  rw [Qqb,←Int.ediv_ediv_of_nonneg (by decide)]
  rw [show (256*R+x)/256=R by omega]
theorem QhW (R x:Int) (hx:0≤x∧x≤255):Qap (256*R+x) 0=x:=by
  unfold Qap
  simp only [Int.pow_zero,Int.ediv_one]
  omega
def shf (R : Int) (i:Nat):Int:=Qap R (i-1)
def sh (R : Int) (k:Nat):List Int:=mix 34 (Qap R) (shf R) k
theorem Qkq (R : Int) (k:Nat):(sh R k).length=34:=mix_len ..
theorem QlU (R : Int):dig R=sh R 34:=(mix_full 34 _ _ 34 (qR _)).symm
theorem QpQ (R : Int) (k i:Nat) (h:i<k) (h2:i<34):nth (sh R k) i=Qap R i:=by rw [sh,mix_nth _ _ _ _ _ h2,if_pos h]
theorem Qoh (R : Int) (q:Nat) (h0:0<q) (hq:q≤33):(sh R (q+1)).set q (Qap R (q-1))=sh R (q-1+1):=by
  rw [show q-1+1=q by omega]
  apply List.ext_getElem
  · simp [sh,mix]
  · intro i h1 h2
    simp only [sh,mix,List.length_map,List.length_range] at h2
    by_cases hi:i=q
    · subst hi; simp [sh,mix,shf]
    · rw [List.getElem_set_ne (by omega)]
      simp only [sh,mix,List.getElem_map,List.getElem_range]
      by_cases h:i<q
      · rw [if_pos h,if_pos (by omega)]
      · rw [if_neg h,if_neg (by omega)]
theorem QpR (R x:Int) (hx:0≤x∧x≤255):(sh R (0+1)).set 0 x=dig (256*R+x):=by
  apply List.ext_getElem
  · simp [sh,mix,dig]
  · intro i h1 h2
    simp only [dig,List.length_map,List.length_range] at h2
    rcases i with _ | i
    · simp [dig,QhW R x hx]
    · rw [List.getElem_set_ne (by omega)]
      simp only [sh,mix,dig,List.getElem_map,List.getElem_range]
      rw [if_neg (by omega),QhV R x hx]
      rfl
def bo (V : Int) (k:Nat):Int:=if V%256^k<ordL%256^k then 1 else 0
def dn (V : Int) (k:Nat):Int:=Qap V k-bo V k-Qap ordL k
theorem Qpy (V : Int):bo V 0=0:=by unfold bo; simp [Int.emod_one]
theorem Qjx (V : Int) (k:Nat):0≤bo V k∧bo V k≤1:=by unfold bo; split <;> omega
theorem QlS (B qv ql a b:Int) (hB:0<B) (ha:0≤a∧a<B) (hb:0≤b∧b<B):(B*qv+a-(B*ql+b))/B=qv-ql-(if a<b then 1 else 0):=by
  have e:∀ q r:Int,0≤r→r<B→(B*q+r)/B=q:=fun q r h0 h1=>by
    rw [Int.add_comm,Int.add_mul_ediv_left _ _ (Int.ne_of_gt hB),Int.ediv_eq_zero_of_lt h0 h1,Int.zero_add]
  by_cases h:a<b
  · rw [if_pos h,show B*qv+a-(B*ql+b)=B*(qv-ql-1)+(a-b+B) by grind]
    exact e _ _ (by omega) (by omega)
  · rw [if_neg h,show B*qv+a-(B*ql+b)=B*(qv-ql)+(a-b) by grind,e _ _ (by omega) (by omega)]
    omega
theorem Qnj (B vd ld a b:Int) (hB:0<B) (ha:0≤a∧a<B) (hb:0≤b∧b<B):(a+B*vd<b+B*ld)↔vd-(if a<b then 1 else 0)-ld<0:=by
  by_cases h1:vd<ld
  · have:B*vd+B≤B*ld:=by
      have:=Int.mul_le_mul_of_nonneg_left (show vd+1≤ld by omega) (Int.le_of_lt hB)
      rw [Int.mul_add,Int.mul_one] at this; exact this
    constructor
    · intro _; split <;> omega
    · intro _; omega
  · by_cases h2:vd=ld
    · subst h2
      constructor
      · intro h; rw [if_pos (by omega)]; omega
      · intro h; split at h <;> omega
    · have:B*ld+B≤B*vd:=by
        have:=Int.mul_le_mul_of_nonneg_left (show ld+1≤vd by omega) (Int.le_of_lt hB)
        rw [Int.mul_add,Int.mul_one] at this; exact this
      constructor
      · intro h; omega
      · intro h; split at h <;> omega
theorem dsub (V : Int) (k:Nat):Qap (V-ordL) k=dn V k%256∧(bo V (k+1)=if dn V k<0 then 1 else 0):=by
  have hB:(0:Int)<256^k:=Int.pow_pos (by decide)
  have s1:=mod_step V k
  have s2:=mod_step ordL k
  unfold dn bo Qap
  rw [s1,s2]
  generalize ordL=l at *
  generalize (256:Int)^k=B at hB
  have e1:=Int.mul_ediv_add_emod V B
  have e2:=Int.mul_ediv_add_emod l B
  have a1:=Int.emod_nonneg V (Int.ne_of_gt hB)
  have a2:=Int.emod_lt_of_pos V hB
  have b1:=Int.emod_nonneg l (Int.ne_of_gt hB)
  have b2:=Int.emod_lt_of_pos l hB
  have c:=QlS B (V/B) (l/B) (V%B) (l%B) hB ⟨a1,a2⟩ ⟨b1,b2⟩
  rw [e1,e2] at c
  have d:=Qnj B (V/B%256) (l/B%256) (V%B) (l%B) hB ⟨a1,a2⟩ ⟨b1,b2⟩
  constructor
  · rw [c]; omega
  · by_cases h:V%B+B*(V/B%256)<l%B+B*(l/B%256)
    · rw [if_pos h,if_pos (d.1 h)]
    · rw [if_neg h,if_neg (fun g=>h (d.2 g))]
theorem Qju (V : Int) (k:Nat):-256≤dn V k∧dn V k≤255:=by
  have h1:=byteAt_range V k; have h2:=byteAt_range ordL k; have h3:=Qjx V k
  unfold dn; omega
theorem Qjt (V : Int) (k:Nat) (h:dn V k<0):dn V k+256=Qap (V-ordL) k∧bo V (k+1)=1:=by
  have r:=Qju V k
  obtain ⟨h1,h2⟩:=dsub V k
  rw [h1,h2,if_pos h]
  exact ⟨by omega,rfl⟩
theorem Qjs (V : Int) (k:Nat) (h:¬ dn V k<0):dn V k=Qap (V-ordL) k∧bo V (k+1)=0:=by
  have r:=Qju V k
  obtain ⟨h1,h2⟩:=dsub V k
  rw [h1,h2,if_neg h]
  exact ⟨by omega,rfl⟩
theorem Qmy (k : Nat) (h:32≤k):Qap ordL k=0:=by
  obtain ⟨m,rfl⟩:∃ m,k=32+m:=⟨k-32,by omega⟩
  unfold Qap
  rw [Int.pow_add,←Int.ediv_ediv_of_nonneg (Int.pow_nonneg (by decide)),show ordL/256^32=0 by decide]
  simp
def ordI : List Int:=[237,211,245,92,26,99,18,88,214,156,247,162,222,249,222,20,0,0,0,0,0,0,0,0,0,0,0,0,0,0,0,16]
theorem ordI_len : ordI.length=32:=by decide
theorem Qgg : Qal ordI:=by unfold Qal; decide
theorem ordI_nth : ∀ k,k<32→nth ordI k=Qap ordL k:=by decide
theorem QoG : leAt ordI 0 34=ordL:=by decide +kernel
def sb (V : Int) (k:Nat):List Int:=mix 34 (Qap (V-ordL)) (Qap V) k
theorem Qhk (V : Int) (k:Nat):(sb V k).length=34:=mix_len ..
theorem QlW (V : Int):dig V=sb V 0:=(mix_none 34 _ _).symm
theorem QpT (V : Int):sb V 34=dig (V-ordL):=mix_full 34 _ _ 34 (qR _)
theorem QpS (V : Int) (k:Nat) (h:k<34):nth (sb V k) k=Qap V k:=by rw [sb,mix_nth _ _ _ _ _ h,if_neg (by omega)]
theorem Qg5 (V : Int) (k:Nat) (h:k<34) (v:Int) (e:v=Qap (V-ordL) k):(sb V k).set k v=sb V (k+1):=by rw [e]; exact mix_set 34 _ _ k h
theorem QfD (xs ys:List Int) (k:Nat):∀ m,(∀ j,k≤j→j<k+m→nth xs j=nth ys j)→leAt xs 0 (k+m)-leAt ys 0 (k+m)=leAt xs 0 k-leAt ys 0 k
  | 0,_=>rfl
  | m+1,h=>by
    rw [←Nat.add_assoc,leAt,leAt,Nat.zero_add,h (k+m) (by omega) (by omega)]
    have:=QfD xs ys k m fun j h1 h2=>h j h1 (by omega)
    omega
theorem QnK (xs ys:List Int) (hx:Qal xs) (hy:Qal ys) (i N:Nat) (hi:i<N) (h:∀ j,i+1≤j→j<N→nth xs j=nth ys j) (hne:nth xs i≠nth ys i) :
    decide (nth xs i>nth ys i)=decide (leAt ys 0 N≤leAt xs 0 N):=by
  have e:=QfD xs ys (i+1) (N-(i+1)) (fun j h1 h2=>h j h1 (by omega))
  rw [show i+1+(N-(i+1))=N by omega,leAt,leAt,Nat.zero_add] at e
  have r1:=Qbv xs hx 0 i
  have r2:=Qbv ys hy 0 i
  have hB:(0:Int)<256^i:=Int.pow_pos (by decide)
  generalize (256:Int)^i=B at *
  generalize leAt xs 0 i=a at *
  generalize leAt ys 0 i=b at *
  generalize nth xs i=u at *
  generalize nth ys i=v at *
  by_cases hh:u>v
  · have:v*B+B≤u*B:=by
      have:=Int.mul_le_mul_of_nonneg_right (show v+1≤u by omega) (Int.le_of_lt hB)
      rw [Int.add_mul,Int.one_mul] at this; exact this
    rw [decide_eq_true hh,decide_eq_true (by omega)]
  · have:u*B+B≤v*B:=by
      have:=Int.mul_le_mul_of_nonneg_right (show u+1≤v by omega) (Int.le_of_lt hB)
      rw [Int.add_mul,Int.one_mul] at this; exact this
    rw [decide_eq_false hh,decide_eq_false (by omega)]
theorem Qpv (xs ys:List Int) (N:Nat) (h:∀ j,0≤j→j<N→nth xs j=nth ys j):decide (leAt ys 0 N≤leAt xs 0 N)=true:=by
  have e:=QfD xs ys 0 N (fun j h1 h2=>h j h1 (by omega))
  rw [Nat.zero_add] at e
  simp only [leAt,Int.sub_self] at e
  exact decide_eq_true (by omega)
theorem Qgi (ys : List Int) (j:Nat) (h:ys.length≤j):nth ys j=0:=by
  unfold nth
  rw [List.getD_eq_getElem?_getD,List.getElem?_eq_none h]
  rfl
theorem Qq9 (V : Int) (h0:0≤V) (h1:V<256^34):decide (leAt ordI 0 34≤leAt (dig V) 0 34)=decide (ordL≤V):=by
  rw [QoG,Qje V 34 (qR _),Int.emod_eq_of_lt h0 h1]
def fill (bs : List Int) (n k:Nat):List Int:=mix n (nth bs) (fun _=>0) k
theorem fill_len (bs : List Int) (n k:Nat):(fill bs n k).length=n:=mix_len ..
theorem Qgl (bs : List Int) (n:Nat):List.replicate n 0=fill bs n 0:=by rw [fill,mix_none]; simp [List.map_const']
theorem Qlo (bs : List Int) (n k:Nat) (h:k<n):(fill bs n k).set k (nth bs k)=fill bs n (k+1):=mix_set n _ _ k h
theorem QmY (bs : List Int) (n:Nat) (h:bs.length=n):fill bs n n=bs:=by rw [fill,mix_full n _ _ n (qR _)]; exact Qhq bs n h
end Go.Proofs.YtdoadngmgmdlbaaDoor.Field
end
section
namespace Go.Proofs.YtdoadngmgmdlbaaDoor.Field
open Go Go.RowKit
open Rely Auto
theorem QnY {R x:Int} (h:isS R) (hx:0≤x∧x≤255):256*R+x<256^34:=by
  have e:256*ordL+256≤(256:Int)^34:=by decide
  have h2:=h.2
  generalize (256:Int)^34=P at *
  omega
theorem QpI {V : Int} (h:V<256^34):V-ordL<256^34:=by
  have e:(0:Int)<ordL:=by decide
  generalize (256:Int)^34=P at *
  omega
theorem QqP {V : Int} (h:ordL≤V):(V-ordL).toNat<V.toNat:=by
  have e:(0:Int)<ordL:=by decide
  omega
theorem Qji (q : Nat) (h0:0<q) (h:q<9223372036854775808):IntKind.i64.wrap ((q:Int)-1)=((q-1:Nat):Int):=by
  rw [show ((q-1:Nat):Int)=(q:Int)-1 by omega]
  exact Qdz q h
theorem Qe9 (v : Int) (h:-1000000≤v∧v≤1000000):IntKind.i64.wrap v=v:=IntWalk.i64_in _ (by omega)
theorem orderI (w : World):Calls Tryd.prog 18 #[] w (Ret w (.agg (ints .u8 ordI))):=by
  refine enter 2 [] Tryd.func18 rfl rfl kj rfl ?_
  refine wp_seq_k fun K1 hK1=>?_
  refine Qac ?_
  refine Qaj (ints .u8 (List.replicate 32 0)) 23 0 rfl kj kj fun g2 W1 l2 e1 r2_1=>?_
  have x1:Ext w W1:=Ext.tr (Rely.Ext.refl w) e1
  have b2:w.heap.size≤g2:=qT (Rely.Ext.refl w).size l2
  refine Qaf ?_
  refine hK1 _ _ ?_
  refine wp_seq_k fun K3 hK3=>?_
  refine Qac ?_
  refine Qab (.agg (ints .u8 (ordI))) 1 rfl kj kj ?_
  refine Qak g2 _ (ints .u8 (ordI)) 23 r2_1 rfl kj (Qah 23 _ _ g2 23 _ _ r2_1 rfl kj kj (isz (n:=32) kj ((Qae _ _).trans ordI_len)) (eqsz (n:=32) ((Qae _ _).trans zlen) ((Qae _ _).trans ordI_len)) (ints_one _ _)) fun W2 p2 r2_2=>?_
  have x2:Ext w W2:=Puts.ext p2 x1 b2
  refine Qaf ?_
  refine hK3 _ _ ?_
  refine wp_ret ?_
  exact (show bodyPost _ _ _ .ret _ _ from ret1 (.agg (ints .u8 (ordI))) rfl (QaC g2 23 _ r2_2 kj kj (isz (n:=32) kj ((Qae _ _).trans ordI_len))) ⟨rfl,x2⟩)
theorem Qq5 (A : Option Addr) (n c:Nat) (bs:List Int) (hbl:bs.length=n) (hn:n≤1000) (hb:Qal bs) (w:World)
  (hc:n=0∨∃ sb so,A=some ⟨sb,so,none⟩∧sb<w.heap.size∧∀ i,i<n→w.cell? ⟨sb,so+i,none⟩=some (.int .u8 (nth bs i))) :
  Calls Tryd.prog 77 #[.slice A n c] w fun e w'=>∃ v,e=.returned v∧Ext w w'∧∃ g,w.heap.size≤g∧v=.slice (some ⟨g,0,none⟩) n n∧w'.heap[g]? = some (.cells (ints .i64 bs) 3):=by
 refine enter 23 [(0,.slice A n c)] Tryd.func77 rfl rfl kj rfl ?_
 refine wp_seq_k fun K1 hK1=>?_
 refine Qac ?_
 refine Qab (.slice none 0 0) 2 rfl kj kj ?_
 refine Qaf ?_
 refine hK1 _ _ ?_
 refine wp_seq_k fun K2 hK2=>?_
 refine Qac ?_
 refine Qab (.slice A n c) 5 rfl kj kj ?_
 refine Qab (.int .i64 ((n:Nat):Int)) 6 rfl kj kj ?_
 refine QaR (ints .i64 (List.replicate n 0)) 3 n 7 rfl kj (Qex 100 _ _ .i64 .i64 n 3 rfl kj kj kj (.inl kj) (by omega)) fun g3 W1 l3 e1 r3_1=>?_
 have x1:Ext w W1:=Ext.tr (Rely.Ext.refl w) e1
 have b3:w.heap.size≤g3:=qT (Rely.Ext.refl w).size l3
 refine Qab (.slice (some ⟨g3,0,none⟩) n n) 3 rfl kj kj ?_
 refine Qaf ?_
 refine hK2 _ _ ?_
 refine wp_seq_k fun K4 hK4=>?_
 refine wp_seq_k fun K5 hK5=>?_
 refine Qac ?_
 refine Qab (.int .i64 0) 4 rfl kj kj ?_
 refine Qaf ?_
 refine hK5 _ _ ?_
 refine wp_block ?_
 refine QaI (fun (k:Nat)=>[(4,.int .i64 ((k:Nat):Int)),(0,.slice A n c),(3,.slice (some ⟨g3,0,none⟩) n n)]) (fun (k:Nat) W=>(k≤n)∧W.heap[g3]? = some (.cells (ints .i64 (fill bs n k)) 3)∧Ext w W) (fun (k:Nat)=>n-k) 0 ⟨rfl,rfl,rfl,trivial⟩ ⟨(by omega),(QaB r3_1 (Qgl bs n)),x1⟩ fun k X1 V1 hI=>?_
 obtain ⟨hkn,q3_1,xx1⟩:=hI
 refine wp_seq_k fun K6 hK6=>?_
 refine wp_seq_k fun K7 hK7=>?_
 refine Qac ?_
 refine Qab (.int .i64 ((k:Nat):Int)) 8 rfl kj kj ?_
 refine Qab (.slice A n c) 9 rfl kj kj ?_
 refine Qab (.int .i64 ((n:Nat):Int)) 10 rfl kj kj ?_
 refine Qab (.bool (decide (((k:Nat):Int)<((n:Nat):Int)))) 11 rfl kj kj ?_
 refine Qaf ?_
 refine hK7 _ _ ?_
 refine Qa5 (t:=decide (((k:Nat):Int)<((n:Nat):Int))) kj (fun c8=>?_) (fun c8=>?_)
 ·skip
  have hk:k<n:=by have:=of_decide_eq_true c8; omega
  obtain ⟨sb,so,hA,hsb,hcell⟩:=hc.resolve_left (by omega)
  subst hA
  refine wp_skip ?_
  refine hK6 _ _ ?_
  refine wp_seq_k fun K9 hK9=>?_
  refine wp_block ?_
  refine Qac ?_
  refine Qab (.slice (some ⟨g3,0,none⟩) n n) 14 rfl kj kj ?_
  refine Qab (.int .i64 ((k:Nat):Int)) 15 rfl kj kj ?_
  refine Qab (.slice (some ⟨sb,so,none⟩) n c) 16 rfl kj kj ?_
  refine Qab (.int .i64 ((k:Nat):Int)) 17 rfl kj kj ?_
  refine Qab (.pointer (some ⟨sb,so+k,none⟩)) 18 rfl kj (QdN 27 _ _ .i64 (k) sb so n c 5 rfl kj kj kj kj hk) ?_
  refine Qab (.int .u8 (nth (bs) (k))) 19 rfl kj (Qb7 5 _ _ (.int .u8 (nth (bs) (k))) ((Below.cell xx1 hsb).trans (hcell k hk)) rfl kj kj) ?_
  refine Qab (.int .i64 (nth bs k)) 20 rfl kj (Qan (u:=.int .i64 (IntKind.i64.wrap (nth (bs) (k)))) kj (congrArg (Value.int .i64) (Qjh (hb.nth k)))) ?_
  refine Qab (.pointer (some ⟨g3,k,none⟩)) 21 rfl kj (QaG 100 _ _ .i64 (k) g3 n n 3 rfl kj kj kj kj hk) ?_
  refine Qak g3 _ (ints .i64 ((fill bs n k).set k (nth bs k))) 3 q3_1 rfl kj (Qa1 3 _ _ g3 k 3 _ _ q3_1 rfl kj kj kj (Nat.lt_of_lt_of_eq hk (fill_len _ _ _).symm)) fun W3 p3 r3_3=>?_
  have x3:Ext w W3:=Puts.ext p3 xx1 b3
  refine Qaf ?_
  refine hK9 _ _ ?_
  refine Qac ?_
  refine Qab (.int .i64 ((k:Nat):Int)) 12 rfl kj kj ?_
  refine Qab (.int .i64 (((k+1:Nat):Int))) 13 rfl kj (Qan (u:=.int .i64 (IntKind.i64.wrap (((k:Nat):Int)+1))) kj (congrArg (Value.int .i64) (Qcg k (by omega)))) ?_
  refine Qab (.int .i64 (((k+1:Nat):Int))) 4 rfl kj kj ?_
  refine Qaf ?_
  repeat (first | with_reducible refine goX1 ?_ | with_reducible refine goX2 ?_ | with_reducible refine goX3 ?_)
  exact QaA (k+1) ⟨rfl,rfl,rfl,trivial⟩ ⟨(by omega),(QaB r3_3 (Qlo bs n k hk)),x3⟩ (by omega)
 ·skip
  have hk:k=n:=by have:=of_decide_eq_false c8; omega
  subst hk
  refine wp_exit ?_
  refine hK4 _ _ ?_
  refine wp_seq_k fun K10 hK10=>?_
  refine Qac ?_
  refine Qab (.slice (some ⟨g3,0,none⟩) k k) 22 rfl kj kj ?_
  refine Qab (.slice (some ⟨g3,0,none⟩) k k) 2 rfl kj kj ?_
  refine Qaf ?_
  refine hK10 _ _ ?_
  refine wp_ret ?_
  exact (show bodyPost _ _ _ .ret _ _ from ret1 (.slice (some ⟨g3,0,none⟩) k k) rfl (Qbr kj) ⟨_,rfl,xx1,g3,b3,rfl,(QaB q3_1 (QmY bs k hbl))⟩)
theorem Qns (ga gb:Nat) (xs ys:List Int) (hx:xs.length=34) (hy:ys.length=32) (hxb:Qal xs) (hyb:Qal ys) (w:World) (ha:w.heap[ga]? = some (.cells (ints .i64 xs) 3)) (hb:w.heap[gb]? = some (.cells (ints .i64 ys) 3)) :
  Calls Tryd.prog 90 #[.slice (some ⟨ga,0,none⟩) 34 34,.slice (some ⟨gb,0,none⟩) 32 32] w (Ret w (.bool (decide (leAt ys 0 34≤leAt xs 0 34)))):=by
 refine enter 34 [(0,.slice (some ⟨ga,0,none⟩) 34 34),(1,.slice (some ⟨gb,0,none⟩) 32 32)] Tryd.func90 rfl rfl kj rfl ?_
 refine wp_seq_k fun K3 hK3=>?_
 refine Qac ?_
 refine Qab (.bool false) 4 rfl kj kj ?_
 refine Qaf ?_
 refine hK3 _ _ ?_
 refine wp_seq_k fun K4 hK4=>?_
 refine wp_seq_k fun K5 hK5=>?_
 refine Qac ?_
 refine Qab (.slice (some ⟨ga,0,none⟩) 34 34) 7 rfl kj kj ?_
 refine Qab (.int .i64 34) 8 rfl kj kj ?_
 refine Qab (.int .i64 33) 9 rfl kj kj ?_
 refine Qab (.int .i64 33) 5 rfl kj kj ?_
 refine Qaf ?_
 refine hK5 _ _ ?_
 refine wp_block ?_
 refine QaI (fun (k:Nat)=>[(5,.int .i64 ((k:Int)-1)),(0,.slice (some ⟨ga,0,none⟩) 34 34),(1,.slice (some ⟨gb,0,none⟩) 32 32)]) (fun (k:Nat) W=>(k≤34)∧(∀ j,k≤j→j<34→nth xs j=nth ys j)∧Ext w W) (fun (k:Nat)=>k) 34 ⟨rfl,rfl,rfl,trivial⟩ ⟨(by omega),(fun j h1 h2=>by omega),(Rely.Ext.refl w)⟩ fun k X1 V1 hI=>?_
 obtain ⟨hk34,hs,xx1⟩:=hI
 rcases k with _ | j
 ·skip
  refine wp_seq_k fun K6 hK6=>?_
  refine wp_seq_k fun K7 hK7=>?_
  refine Qac ?_
  refine Qab (.int .i64 (-1)) 10 rfl kj kj ?_
  refine Qab (.bool false) 11 rfl kj kj ?_
  refine Qaf ?_
  refine hK7 _ _ ?_
  refine cond_false kj ?_
  refine wp_exit ?_
  refine hK4 _ _ ?_
  refine wp_seq_k fun K8 hK8=>?_
  refine Qac ?_
  refine Qab (.bool true) 4 rfl kj kj ?_
  refine Qaf ?_
  refine hK8 _ _ ?_
  refine wp_ret ?_
  exact (show bodyPost _ _ _ .ret _ _ from ret1 (.bool true) rfl (Qbr kj) ⟨congrArg (fun b=>Ending.returned (.bool b)) (Qpv xs ys 34 hs).symm,xx1⟩)
 ·rw [show (((j+1:Nat):Int)-1)=((j:Nat):Int) by omega]
  refine wp_seq_k fun K9 hK9=>?_
  refine wp_seq_k fun K10 hK10=>?_
  refine Qac ?_
  refine Qab (.int .i64 ((j:Nat):Int)) 10 rfl kj kj ?_
  refine Qab (.bool true) 11 rfl kj (Qan (u:=.bool (decide (((j:Nat):Int)≥0))) kj (congrArg Value.bool (decide_eq_true (by omega)))) ?_
  refine Qaf ?_
  refine hK10 _ _ ?_
  refine cond_true kj ?_
  refine wp_skip ?_
  refine hK9 _ _ ?_
  refine wp_seq_k fun K11 hK11=>?_
  refine wp_block ?_
  refine wp_seq_k fun K12 hK12=>?_
  refine Qac ?_
  refine Qab (.int .i64 0) 6 rfl kj kj ?_
  refine Qaf ?_
  refine hK12 _ _ ?_
  refine wp_seq_k fun K13 hK13=>?_
  refine wp_seq_k fun K14 hK14=>?_
  refine Qac ?_
  refine Qab (.int .i64 ((j:Nat):Int)) 14 rfl kj kj ?_
  refine Qab (.slice (some ⟨gb,0,none⟩) 32 32) 15 rfl kj kj ?_
  refine Qab (.int .i64 32) 16 rfl kj kj ?_
  refine Qab (.bool (decide (((j:Nat):Int)<32))) 17 rfl kj kj ?_
  refine Qaf ?_
  refine hK14 _ _ ?_
  refine Qa5 (t:=decide (((j:Nat):Int)<32)) kj (fun c15=>?_) (fun c15=>?_)
  ·skip
   have hj:j<32:=by have:=of_decide_eq_true c15; omega
   refine Qac ?_
   refine Qab (.slice (some ⟨gb,0,none⟩) 32 32) 18 rfl kj kj ?_
   refine Qab (.int .i64 ((j:Nat):Int)) 19 rfl kj kj ?_
   refine Qab (.pointer (some ⟨gb,j,none⟩)) 20 rfl kj (QaG 100 _ _ .i64 (j) gb 32 32 3 rfl kj kj kj kj (by omega)) ?_
   refine Qab (.int .i64 (nth (ys) j)) 21 rfl kj (Qam 3 _ gb j 3 _ (.int .i64 (nth (ys) j)) _ (Qaa hb xx1) rfl kj (Qas _ _ _ (Nat.lt_of_lt_of_eq (by omega) hy.symm)) kj) ?_
   refine Qab (.int .i64 (nth (ys) j)) 6 rfl kj kj ?_
   refine Qaf ?_
   refine hK13 _ _ ?_
   refine wp_seq_k fun K16 hK16=>?_
   refine Qac ?_
   refine Qab (.slice (some ⟨ga,0,none⟩) 34 34) 22 rfl kj kj ?_
   refine Qab (.int .i64 ((j:Nat):Int)) 23 rfl kj kj ?_
   refine Qab (.pointer (some ⟨ga,j,none⟩)) 24 rfl kj (QaG 100 _ _ .i64 (j) ga 34 34 3 rfl kj kj kj kj (by omega)) ?_
   refine Qab (.int .i64 (nth (xs) j)) 25 rfl kj (Qam 3 _ ga j 3 _ (.int .i64 (nth (xs) j)) _ (Qaa ha xx1) rfl kj (Qas _ _ _ (Nat.lt_of_lt_of_eq (by omega) hx.symm)) kj) ?_
   refine Qab (.int .i64 (nth (ys) j)) 26 rfl kj kj ?_
   refine Qab (.bool (nth xs j != nth ys j)) 27 rfl kj (Qan (u:=.bool (((nth (xs) j) != (nth (ys) j)))) kj (congrArg Value.bool rfl)) ?_
   refine Qaf ?_
   refine hK16 _ _ ?_
   refine Qa5 (t:=nth xs j != nth ys j) kj (fun c17=>?_) (fun c17=>?_)
   ·skip
    have hne:nth xs j≠nth ys j:=by intro e; rw [e] at c17; simp at c17
    refine wp_seq_k fun K18 hK18=>?_
    refine Qac ?_
    refine Qab (.slice (some ⟨ga,0,none⟩) 34 34) 28 rfl kj kj ?_
    refine Qab (.int .i64 ((j:Nat):Int)) 29 rfl kj kj ?_
    refine Qab (.pointer (some ⟨ga,j,none⟩)) 30 rfl kj (QaG 100 _ _ .i64 (j) ga 34 34 3 rfl kj kj kj kj (by omega)) ?_
    refine Qab (.int .i64 (nth (xs) j)) 31 rfl kj (Qam 3 _ ga j 3 _ (.int .i64 (nth (xs) j)) _ (Qaa ha xx1) rfl kj (Qas _ _ _ (Nat.lt_of_lt_of_eq (by omega) hx.symm)) kj) ?_
    refine Qab (.int .i64 (nth (ys) j)) 32 rfl kj kj ?_
    refine Qab (.bool (decide ((nth (xs) j)>(nth (ys) j)))) 33 rfl kj kj ?_
    refine Qab (.bool (decide ((nth (xs) j)>(nth (ys) j)))) 4 rfl kj kj ?_
    refine Qaf ?_
    refine hK18 _ _ ?_
    refine wp_ret ?_
    exact (show bodyPost _ _ _ .ret _ _ from ret1 (.bool (decide ((nth (xs) j)>(nth (ys) j)))) rfl (Qbr kj) ⟨congrArg (fun b=>Ending.returned (.bool b)) (QnK xs ys hxb hyb j 34 (by omega) hs hne),xx1⟩)
   ·skip
    have heq:nth xs j=nth ys j:=by simpa using c17
    refine wp_skip ?_
    refine hK11 _ _ ?_
    refine Qac ?_
    refine Qab (.int .i64 ((j:Nat):Int)) 12 rfl kj kj ?_
    refine Qab (.int .i64 ((j:Int)-1)) 13 rfl kj (Qan (u:=.int .i64 (IntKind.i64.wrap (((j:Nat):Int)-1))) kj (congrArg (Value.int .i64) (Qdz j (by omega)))) ?_
    refine Qab (.int .i64 ((j:Int)-1)) 5 rfl kj kj ?_
    refine Qaf ?_
    repeat (first | with_reducible refine goX1 ?_ | with_reducible refine goX2 ?_ | with_reducible refine goX3 ?_)
    exact QaA j ⟨rfl,rfl,rfl,trivial⟩ ⟨(by omega),(fun q h1 h2=>by rcases Nat.lt_or_ge j q with h | h; exact hs q (by omega) h2; rw [show q=j by omega]; exact heq),xx1⟩ (by omega)
  ·skip
   have hj:32≤j:=by have:=of_decide_eq_false c15; omega
   have hz:=Qgi ys j (by omega)
   refine wp_skip ?_
   refine hK13 _ _ ?_
   refine wp_seq_k fun K19 hK19=>?_
   refine Qac ?_
   refine Qab (.slice (some ⟨ga,0,none⟩) 34 34) 22 rfl kj kj ?_
   refine Qab (.int .i64 ((j:Nat):Int)) 23 rfl kj kj ?_
   refine Qab (.pointer (some ⟨ga,j,none⟩)) 24 rfl kj (QaG 100 _ _ .i64 (j) ga 34 34 3 rfl kj kj kj kj (by omega)) ?_
   refine Qab (.int .i64 (nth (xs) j)) 25 rfl kj (Qam 3 _ ga j 3 _ (.int .i64 (nth (xs) j)) _ (Qaa ha xx1) rfl kj (Qas _ _ _ (Nat.lt_of_lt_of_eq (by omega) hx.symm)) kj) ?_
   refine Qab (.int .i64 0) 26 rfl kj kj ?_
   refine Qab (.bool (nth xs j != 0)) 27 rfl kj (Qan (u:=.bool (((nth (xs) j) != 0))) kj (congrArg Value.bool rfl)) ?_
   refine Qaf ?_
   refine hK19 _ _ ?_
   refine Qa5 (t:=nth xs j != 0) kj (fun c20=>?_) (fun c20=>?_)
   ·skip
    have hne:nth xs j≠nth ys j:=by intro e; rw [e,hz] at c20; simp at c20
    refine wp_seq_k fun K21 hK21=>?_
    refine Qac ?_
    refine Qab (.slice (some ⟨ga,0,none⟩) 34 34) 28 rfl kj kj ?_
    refine Qab (.int .i64 ((j:Nat):Int)) 29 rfl kj kj ?_
    refine Qab (.pointer (some ⟨ga,j,none⟩)) 30 rfl kj (QaG 100 _ _ .i64 (j) ga 34 34 3 rfl kj kj kj kj (by omega)) ?_
    refine Qab (.int .i64 (nth (xs) j)) 31 rfl kj (Qam 3 _ ga j 3 _ (.int .i64 (nth (xs) j)) _ (Qaa ha xx1) rfl kj (Qas _ _ _ (Nat.lt_of_lt_of_eq (by omega) hx.symm)) kj) ?_
    refine Qab (.int .i64 0) 32 rfl kj kj ?_
    refine Qab (.bool (decide ((nth (xs) j)>0))) 33 rfl kj kj ?_
    refine Qab (.bool (decide ((nth (xs) j)>0))) 4 rfl kj kj ?_
    refine Qaf ?_
    refine hK21 _ _ ?_
    refine wp_ret ?_
    exact (show bodyPost _ _ _ .ret _ _ from ret1 (.bool (decide ((nth (xs) j)>0))) rfl (Qbr kj) ⟨congrArg (fun b=>Ending.returned (.bool b)) (by have:=QnK xs ys hxb hyb j 34 (by omega) hs hne; rwa [hz] at this),xx1⟩)
   ·skip
    have heq:nth xs j=nth ys j:=by rw [hz]; simpa using c20
    refine wp_skip ?_
    refine hK11 _ _ ?_
    refine Qac ?_
    refine Qab (.int .i64 ((j:Nat):Int)) 12 rfl kj kj ?_
    refine Qab (.int .i64 ((j:Int)-1)) 13 rfl kj (Qan (u:=.int .i64 (IntKind.i64.wrap (((j:Nat):Int)-1))) kj (congrArg (Value.int .i64) (Qdz j (by omega)))) ?_
    refine Qab (.int .i64 ((j:Int)-1)) 5 rfl kj kj ?_
    refine Qaf ?_
    repeat (first | with_reducible refine goX1 ?_ | with_reducible refine goX2 ?_ | with_reducible refine goX3 ?_)
    exact QaA j ⟨rfl,rfl,rfl,trivial⟩ ⟨(by omega),(fun q h1 h2=>by rcases Nat.lt_or_ge j q with h | h; exact hs q (by omega) h2; rw [show q=j by omega]; exact heq),xx1⟩ (by omega)
end Go.Proofs.YtdoadngmgmdlbaaDoor.Field
end
section
namespace Go.Proofs.YtdoadngmgmdlbaaDoor.Field
open Go Go.RowKit
open Rely Auto
set_option maxHeartbeats 16000000 in
theorem Qk4 (gl N:Nat) (xs:List Int) (hx:xs.length=N) (hN:N≤1000) (hxb:Qal xs) (w:World) (hl:w.heap[gl]? = some (.cells (ints .i64 xs) 3)) :
  Calls Tryd.prog 65 #[.slice (some ⟨gl,0,none⟩) N N] w (Ret w (.agg (ints .u8 (Qao (leAt xs 0 N%ordL))))):=by
 refine enter 83 [(0,.slice (some ⟨gl,0,none⟩) N N)] Tryd.func65 rfl rfl kj rfl ?_
 refine wp_seq_k fun K2 hK2=>?_
 refine Qac ?_
 refine Qaj (ints .u8 (List.replicate 32 0)) 23 2 rfl kj kj fun g3 W1 l3 e1 r3_1=>?_
 have x1:Ext w W1:=Ext.tr (Rely.Ext.refl w) e1
 have b3:w.heap.size≤g3:=qT (Rely.Ext.refl w).size l3
 refine Qaf ?_
 refine hK2 _ _ ?_
 refine wp_seq_k fun K4 hK4=>?_
 refine Qac ?_
 refine Qar (.agg (ints .u8 (ordI))) 18 #[] 13 rfl kj kj (orderI _) fun W2 e2=>?_
 have x2:Ext w W2:=Ext.tr x1 e2
 refine Qaj (ints .u8 (List.replicate 32 0)) 23 3 rfl kj kj fun g5 W3 l5 e3 r5_3=>?_
 have x3:Ext w W3:=Ext.tr x2 e3
 have b5:w.heap.size≤g5:=qT x2.size l5
 refine Qak g5 _ (ints .u8 (ordI)) 23 r5_3 rfl kj (Qah 23 _ _ g5 23 _ _ r5_3 rfl kj kj (isz (n:=32) kj ((Qae _ _).trans ordI_len)) (eqsz (n:=32) ((Qae _ _).trans zlen) ((Qae _ _).trans ordI_len)) (ints_one _ _)) fun W4 p4 r5_4=>?_
 have x4:Ext w W4:=Puts.ext p4 x3 b5
 refine Qaf ?_
 refine hK4 _ _ ?_
 refine wp_seq_k fun K6 hK6=>?_
 refine Qac ?_
 refine Qab (.slice (some ⟨g5,0,none⟩) 32 32) 14 rfl kj kj ?_
 refine Qb6 (fun v W'=>Ext W4 W'∧∃ g,W4.heap.size≤g∧v=.slice (some ⟨g,0,none⟩) 32 32∧W'.heap[g]? = some (.cells (ints .i64 ordI) 3)) 77 #[.slice (some ⟨g5,0,none⟩) 32 32] 15 rfl kj kj ((Qq5 _ 32 32 ordI ordI_len (by omega) Qgg _ (.inr ⟨g5,0,rfl,Qa3 r5_4,Qfs r5_4 ordI_len⟩)).mono fun e w' ⟨v,h1,h2,h3⟩=>⟨v,h1,h2,h3⟩) fun v W5 h=>?_
 obtain ⟨e5,gm,lm,rfl,r7_5⟩:=h
 have x5:Ext w W5:=Ext.tr x4 e5
 have bm:w.heap.size≤gm:=qT x4.size lm
 refine Qab (.slice (some ⟨gm,0,none⟩) 32 32) 4 rfl kj kj ?_
 refine Qaf ?_
 refine hK6 _ _ ?_
 refine wp_seq_k fun K8 hK8=>?_
 refine Qac ?_
 refine QaR (ints .i64 (List.replicate 34 0)) 3 34 16 rfl kj (Qex 100 _ _ .i64 .i64 34 3 rfl kj kj kj (.inl kj) (by decide)) fun g9 W6 l9 e6 r9_6=>?_
 have x6:Ext w W6:=Ext.tr x5 e6
 have b9:w.heap.size≤g9:=qT x5.size l9
 refine Qab (.slice (some ⟨g9,0,none⟩) 34 34) 5 rfl kj kj ?_
 refine Qaf ?_
 refine hK8 _ _ ?_
 refine wp_seq_k fun K10 hK10=>?_
 refine wp_seq_k fun K11 hK11=>?_
 refine Qac ?_
 refine Qab (.slice (some ⟨gl,0,none⟩) N N) 17 rfl kj kj ?_
 refine Qab (.int .i64 ((N:Nat):Int)) 18 rfl kj kj ?_
 refine Qab (.int .i64 ((N:Int)-1)) 19 rfl kj (Qan (u:=.int .i64 (IntKind.i64.wrap (((N:Nat):Int)-1))) kj (congrArg (Value.int .i64) (Qdz N (by omega)))) ?_
 refine Qab (.int .i64 ((N:Int)-1)) 6 rfl kj kj ?_
 refine Qaf ?_
 refine hK11 _ _ ?_
 refine wp_block ?_
 have r3_2:=(Qaa r3_1 e2)
 have n_3_5:g3≠g5:=(Qad r3_2 l5)
 have r3_4:=(Puts.row p4 (Qaa r3_2 e3) n_3_5)
 have n_3_7:g3≠gm:=(Qad r3_4 lm)
 have r3_5:=(Qaa r3_4 e5)
 have n_3_9:g3≠g9:=(Qad r3_5 l9)
 have n_5_3:g5≠g3:=(Qat r3_2 l5)
 have n_5_7:g5≠gm:=(Qad r5_4 lm)
 have r5_5:=(Qaa r5_4 e5)
 have n_5_9:g5≠g9:=(Qad r5_5 l9)
 have n_7_3:gm≠g3:=(Qat r3_4 lm)
 have n_7_5:gm≠g5:=(Qat r5_4 lm)
 have n_7_9:gm≠g9:=(Qad r7_5 l9)
 have n_9_3:g9≠g3:=(Qat r3_5 l9)
 have n_9_5:g9≠g5:=(Qat r5_5 l9)
 have n_9_7:g9≠gm:=(Qat r7_5 l9)
 have r3_6:=(Qaa r3_5 e6)
 have r5_6:=(Qaa r5_5 e6)
 have r7_6:=(Qaa r7_5 e6)
 refine QaI (fun (k:Nat)=>[(6,.int .i64 ((k:Int)-1)),(0,.slice (some ⟨gl,0,none⟩) N N),(2,.pointer (some ⟨g3,0,none⟩)),(3,.pointer (some ⟨g5,0,none⟩)),(4,.slice (some ⟨gm,0,none⟩) 32 32),(5,.slice (some ⟨g9,0,none⟩) 34 34)]) (fun (k:Nat) W=>(k≤N)∧W.heap[g3]? = some (.cells (ints .u8 (List.replicate 32 0)) 23)∧W.heap[g5]? = some (.cells (ints .u8 (ordI)) 23)∧W.heap[gm]? = some (.cells (ints .i64 (ordI)) 3)∧W.heap[g9]? = some (.cells (ints .i64 (dig (redT xs N (N-k)))) 3)∧Ext w W) (fun (k:Nat)=>k) N ⟨rfl,rfl,rfl,rfl,rfl,rfl,trivial⟩ ⟨(by omega),r3_6,r5_6,r7_6,(QaB r9_6 (by rw [Nat.sub_self]; exact Qne)),x6⟩ fun k X1 V1 hI=>?_
 obtain ⟨hkN,q3_1,q5_1,q7_1,q9_1,xx1⟩:=hI
 rcases k with _ | j
 ·skip
  refine wp_seq_k fun K12 hK12=>?_
  refine wp_seq_k fun K13 hK13=>?_
  refine Qac ?_
  refine Qab (.int .i64 (-1)) 20 rfl kj kj ?_
  refine Qab (.bool false) 21 rfl kj kj ?_
  refine Qaf ?_
  refine hK13 _ _ ?_
  refine cond_false kj ?_
  refine wp_exit ?_
  refine hK10 _ _ ?_
  refine wp_seq_k fun K14 hK14=>?_
  refine Qac ?_
  refine Qaj (ints .u8 (List.replicate 32 0)) 23 11 rfl kj kj fun g15 W8 l15 e8 r15_8=>?_
  have x8:Ext w W8:=Ext.tr xx1 e8
  have b15:w.heap.size≤g15:=qT xx1.size l15
  refine Qaf ?_
  refine hK14 _ _ ?_
  refine wp_seq_k fun K16 hK16=>?_
  refine wp_seq_k fun K17 hK17=>?_
  refine Qac ?_
  refine Qab (.int .i64 0) 12 rfl kj kj ?_
  refine Qaf ?_
  refine hK17 _ _ ?_
  refine wp_block ?_
  have n_3_15:g3≠g15:=(Qad q3_1 l15)
  have n_5_15:g5≠g15:=(Qad q5_1 l15)
  have n_7_15:gm≠g15:=(Qad q7_1 l15)
  have n_9_15:g9≠g15:=(Qad q9_1 l15)
  have n_15_3:g15≠g3:=(Qat q3_1 l15)
  have n_15_5:g15≠g5:=(Qat q5_1 l15)
  have n_15_7:g15≠gm:=(Qat q7_1 l15)
  have n_15_9:g15≠g9:=(Qat q9_1 l15)
  have r3_8:=(Qaa q3_1 e8)
  have r5_8:=(Qaa q5_1 e8)
  have r7_8:=(Qaa q7_1 e8)
  have r9_8:=(Qaa q9_1 e8)
  refine QaI (fun (k:Nat)=>[(12,.int .i64 ((k:Nat):Int)),(11,.pointer (some ⟨g15,0,none⟩)),(0,.slice (some ⟨gl,0,none⟩) N N),(2,.pointer (some ⟨g3,0,none⟩)),(3,.pointer (some ⟨g5,0,none⟩)),(4,.slice (some ⟨gm,0,none⟩) 32 32),(5,.slice (some ⟨g9,0,none⟩) 34 34)]) (fun (k:Nat) W=>(k≤32)∧W.heap[g3]? = some (.cells (ints .u8 (List.replicate 32 0)) 23)∧W.heap[g5]? = some (.cells (ints .u8 (ordI)) 23)∧W.heap[gm]? = some (.cells (ints .i64 (ordI)) 3)∧W.heap[g9]? = some (.cells (ints .i64 (dig (redT xs N (N-0)))) 3)∧W.heap[g15]? = some (.cells (ints .u8 (part (redT xs N (N-0)) k)) 23)∧Ext w W) (fun (k:Nat)=>32-k) 0 ⟨rfl,rfl,rfl,rfl,rfl,rfl,rfl,trivial⟩ ⟨(by omega),r3_8,r5_8,r7_8,r9_8,(QaB r15_8 (Qhy _)),x8⟩ fun k X2 V2 hI=>?_
  obtain ⟨hk32,q3_2,q5_2,q7_2,q9_2,q15_2,xx2⟩:=hI
  refine wp_seq_k fun K18 hK18=>?_
  refine wp_seq_k fun K19 hK19=>?_
  refine Qac ?_
  refine Qab (.int .i64 ((k:Nat):Int)) 71 rfl kj kj ?_
  refine Qab (.bool (decide (((k:Nat):Int)<32))) 72 rfl kj kj ?_
  refine Qaf ?_
  refine hK19 _ _ ?_
  refine Qa5 (t:=decide (((k:Nat):Int)<32)) kj (fun c20=>?_) (fun c20=>?_)
  ·skip
   have hk:k<32:=by have:=of_decide_eq_true c20; omega
   have hbr:=byteAt_range (redT xs N (N-0)) k
   refine wp_skip ?_
   refine hK18 _ _ ?_
   refine wp_seq_k fun K21 hK21=>?_
   refine wp_block ?_
   refine Qac ?_
   refine Qab (.int .i64 ((k:Nat):Int)) 75 rfl kj kj ?_
   refine Qab (.slice (some ⟨g9,0,none⟩) 34 34) 76 rfl kj kj ?_
   refine Qab (.int .i64 ((k:Nat):Int)) 77 rfl kj kj ?_
   refine Qab (.pointer (some ⟨g9,k,none⟩)) 78 rfl kj (QaG 100 _ _ .i64 (k) g9 34 34 3 rfl kj kj kj kj (by omega)) ?_
   refine Qab (.int .i64 (Qap (redT xs N (N-0)) k)) 79 rfl kj (Qam 3 _ g9 k 3 _ (.int .i64 (Qap (redT xs N (N-0)) k)) _ q9_2 rfl kj ((Qas _ _ _ (Nat.lt_of_lt_of_eq (by omega) (dig_len _).symm)).trans (congrArg (fun z=>some (Value.int .i64 z)) (Qlx _ k (by omega)))) kj) ?_
   refine Qab (.int .u8 (Qap (redT xs N (N-0)) k)) 80 rfl kj (Qan (u:=.int .u8 (IntKind.u8.wrap (Qap (redT xs N (N-0)) k))) kj (congrArg (Value.int .u8) (by rw [u8_mod]; omega))) ?_
   refine Qab (.pointer (some ⟨g15,k,none⟩)) 81 rfl kj (QaD _ _ _ .i64 (k) _ 32 5 rfl kj kj kj kj hk) ?_
   refine Qak g15 _ (ints .u8 ((part (redT xs N (N-0)) k).set k (Qap (redT xs N (N-0)) k))) 23 q15_2 rfl kj (Qa1 5 _ _ g15 k 23 _ _ q15_2 rfl kj kj kj (Nat.lt_of_lt_of_eq hk (QcE _ _).symm)) fun W10 p10 r15_10=>?_
   have x10:Ext w W10:=Puts.ext p10 xx2 b15
   refine Qaf ?_
   refine hK21 _ _ ?_
   refine Qac ?_
   refine Qab (.int .i64 ((k:Nat):Int)) 73 rfl kj kj ?_
   refine Qab (.int .i64 (((k+1:Nat):Int))) 74 rfl kj (Qan (u:=.int .i64 (IntKind.i64.wrap (((k:Nat):Int)+1))) kj (congrArg (Value.int .i64) (Qcg k (by omega)))) ?_
   refine Qab (.int .i64 (((k+1:Nat):Int))) 12 rfl kj kj ?_
   refine Qaf ?_
   have r3_10:=(Puts.row p10 q3_2 n_3_15)
   have r5_10:=(Puts.row p10 q5_2 n_5_15)
   have r7_10:=(Puts.row p10 q7_2 n_7_15)
   have r9_10:=(Puts.row p10 q9_2 n_9_15)
   repeat (first | with_reducible refine goX1 ?_ | with_reducible refine goX2 ?_ | with_reducible refine goX3 ?_)
   exact QaA (k+1) ⟨rfl,rfl,rfl,rfl,rfl,rfl,rfl,trivial⟩ ⟨(by omega),r3_10,r5_10,r7_10,r9_10,(QaB r15_10 (Qhz _ k hk)),x10⟩ (by omega)
  ·skip
   have hk:k=32:=by have:=of_decide_eq_false c20; omega
   subst hk
   refine wp_exit ?_
   refine hK16 _ _ ?_
   refine wp_seq_k fun K22 hK22=>?_
   refine Qac ?_
   refine Qab (.agg (ints .u8 (part (redT xs N (N-0)) 32))) 82 rfl kj (Qag 23 _ g15 23 _ _ q15_2 rfl kj kj (isz (n:=32) kj ((Qae _ _).trans (QcE _ _)))) ?_
   refine Qak g3 _ (ints .u8 (part (redT xs N (N-0)) 32)) 23 q3_2 rfl kj (Qah 23 _ _ g3 23 _ _ q3_2 rfl kj kj (isz (n:=32) kj ((Qae _ _).trans (QcE _ _))) (eqsz (n:=32) ((Qae _ _).trans zlen) ((Qae _ _).trans (QcE _ _))) (ints_one _ _)) fun W10 p10 r3_10=>?_
   have x10:Ext w W10:=Puts.ext p10 xx2 b3
   refine Qaf ?_
   refine hK22 _ _ ?_
   refine wp_ret ?_
   exact (show bodyPost _ _ _ .ret _ _ from ret1 (.agg (ints .u8 (part (redT xs N (N-0)) 32))) rfl (QaC g3 23 _ r3_10 kj kj (isz (n:=32) kj ((Qae _ _).trans (QcE _ _)))) ⟨by rw [Nat.sub_zero,QiO xs N N (qR _),Nat.sub_self]; rfl,x10⟩)
 ·rw [show (((j+1:Nat):Int)-1)=((j:Nat):Int) by omega]
  have hRT:redT xs N (N-j)=(256*redT xs N (N-(j+1))+nth xs j)%ordL:=by
   rw [show N-j=(N-(j+1))+1 by omega,redT,show N-1-(N-(j+1))=j by omega]
  have hRS:=Qmf xs N (N-(j+1))
  generalize redT xs N (N-(j+1))=R at hRT hRS q9_1
  refine wp_seq_k fun K23 hK23=>?_
  refine wp_seq_k fun K24 hK24=>?_
  refine Qac ?_
  refine Qab (.int .i64 ((j:Nat):Int)) 20 rfl kj kj ?_
  refine Qab (.bool true) 21 rfl kj (Qan (u:=.bool (decide (((j:Nat):Int)≥0))) kj (congrArg Value.bool (decide_eq_true (by omega)))) ?_
  refine Qaf ?_
  refine hK24 _ _ ?_
  refine cond_true kj ?_
  refine wp_skip ?_
  refine hK23 _ _ ?_
  refine wp_seq_k fun K25 hK25=>?_
  refine wp_block ?_
  refine wp_seq_k fun K26 hK26=>?_
  refine wp_seq_k fun K27 hK27=>?_
  refine Qac ?_
  refine Qab (.int .i64 33) 7 rfl kj kj ?_
  refine Qaf ?_
  refine hK27 _ _ ?_
  refine wp_block ?_
  refine QaI (fun (q:Nat)=>[(7,.int .i64 ((q:Nat):Int)),(6,.int .i64 ((j:Nat):Int)),(0,.slice (some ⟨gl,0,none⟩) N N),(2,.pointer (some ⟨g3,0,none⟩)),(3,.pointer (some ⟨g5,0,none⟩)),(4,.slice (some ⟨gm,0,none⟩) 32 32),(5,.slice (some ⟨g9,0,none⟩) 34 34)]) (fun (q:Nat) W=>(q≤33)∧W.heap[g3]? = some (.cells (ints .u8 (List.replicate 32 0)) 23)∧W.heap[g5]? = some (.cells (ints .u8 (ordI)) 23)∧W.heap[gm]? = some (.cells (ints .i64 (ordI)) 3)∧W.heap[g9]? = some (.cells (ints .i64 (sh R (q+1))) 3)∧Ext w W) (fun (q:Nat)=>q) 33 ⟨rfl,rfl,rfl,rfl,rfl,rfl,rfl,trivial⟩ ⟨(by omega),q3_1,q5_1,q7_1,(QaB q9_1 (QlU R)),xx1⟩ fun q X3 V3 hI=>?_
  obtain ⟨hq33,q3_3,q5_3,q7_3,q9_3,xx3⟩:=hI
  refine wp_seq_k fun K28 hK28=>?_
  refine wp_seq_k fun K29 hK29=>?_
  refine Qac ?_
  refine Qab (.int .i64 ((q:Nat):Int)) 24 rfl kj kj ?_
  refine Qab (.bool (decide (((q:Nat):Int)>0))) 25 rfl kj kj ?_
  refine Qaf ?_
  refine hK29 _ _ ?_
  refine Qa5 (t:=decide (((q:Nat):Int)>0)) kj (fun c30=>?_) (fun c30=>?_)
  ·skip
   have hq0:0<q:=by have:=of_decide_eq_true c30; omega
   refine wp_skip ?_
   refine hK28 _ _ ?_
   refine wp_seq_k fun K31 hK31=>?_
   refine wp_block ?_
   refine Qac ?_
   refine Qab (.slice (some ⟨g9,0,none⟩) 34 34) 28 rfl kj kj ?_
   refine Qab (.int .i64 ((q:Nat):Int)) 29 rfl kj kj ?_
   refine Qab (.slice (some ⟨g9,0,none⟩) 34 34) 30 rfl kj kj ?_
   refine Qab (.int .i64 ((q:Nat):Int)) 31 rfl kj kj ?_
   refine Qab (.int .i64 (((q-1:Nat):Int))) 32 rfl kj (Qan (u:=.int .i64 (IntKind.i64.wrap (((q:Nat):Int)-1))) kj (congrArg (Value.int .i64) (Qji q hq0 (by omega)))) ?_
   refine Qab (.pointer (some ⟨g9,(q-1),none⟩)) 33 rfl kj (QaG 100 _ _ .i64 (q-1) g9 34 34 3 rfl kj kj kj kj (by omega)) ?_
   refine Qab (.int .i64 (Qap R (q-1))) 34 rfl kj (Qam 3 _ g9 (q-1) 3 _ (.int .i64 (Qap R (q-1))) _ q9_3 rfl kj ((Qas _ _ _ (Nat.lt_of_lt_of_eq (by omega) (Qkq _ _).symm)).trans (congrArg (fun z=>some (Value.int .i64 z)) (QpQ R _ _ (by omega) (by omega)))) kj) ?_
   refine Qab (.pointer (some ⟨g9,q,none⟩)) 35 rfl kj (QaG 100 _ _ .i64 (q) g9 34 34 3 rfl kj kj kj kj (by omega)) ?_
   refine Qak g9 _ (ints .i64 ((sh R (q+1)).set q (Qap R (q-1)))) 3 q9_3 rfl kj (Qa1 3 _ _ g9 q 3 _ _ q9_3 rfl kj kj kj (Nat.lt_of_lt_of_eq (by omega) (Qkq _ _).symm)) fun W9 p9 r9_9=>?_
   have x9:Ext w W9:=Puts.ext p9 xx3 b9
   refine Qaf ?_
   refine hK31 _ _ ?_
   refine Qac ?_
   refine Qab (.int .i64 ((q:Nat):Int)) 26 rfl kj kj ?_
   refine Qab (.int .i64 (((q-1:Nat):Int))) 27 rfl kj (Qan (u:=.int .i64 (IntKind.i64.wrap (((q:Nat):Int)-1))) kj (congrArg (Value.int .i64) (Qji q hq0 (by omega)))) ?_
   refine Qab (.int .i64 (((q-1:Nat):Int))) 7 rfl kj kj ?_
   refine Qaf ?_
   have r3_9:=(Puts.row p9 q3_3 n_3_9)
   have r5_9:=(Puts.row p9 q5_3 n_5_9)
   have r7_9:=(Puts.row p9 q7_3 n_7_9)
   repeat (first | with_reducible refine goX1 ?_ | with_reducible refine goX2 ?_ | with_reducible refine goX3 ?_)
   exact QaA (q-1) ⟨rfl,rfl,rfl,rfl,rfl,rfl,rfl,trivial⟩ ⟨(by omega),r3_9,r5_9,r7_9,(QaB r9_9 (Qoh R q hq0 (by omega))),x9⟩ (by omega)
  ·skip
   have hq0:q=0:=by have:=of_decide_eq_false c30; omega
   subst hq0
   have hx0:0≤nth xs j∧nth xs j≤255:=hxb.nth j
   refine wp_exit ?_
   refine hK26 _ _ ?_
   refine wp_seq_k fun K32 hK32=>?_
   refine Qac ?_
   refine Qab (.slice (some ⟨g9,0,none⟩) 34 34) 36 rfl kj kj ?_
   refine Qab (.slice (some ⟨gl,0,none⟩) N N) 37 rfl kj kj ?_
   refine Qab (.int .i64 ((j:Nat):Int)) 38 rfl kj kj ?_
   refine Qab (.pointer (some ⟨gl,j,none⟩)) 39 rfl kj (QaG 100 _ _ .i64 (j) gl N N 3 rfl kj kj kj kj (by omega)) ?_
   refine Qab (.int .i64 (nth (xs) j)) 40 rfl kj (Qam 3 _ gl j 3 _ (.int .i64 (nth (xs) j)) _ (Qaa hl xx3) rfl kj (Qas _ _ _ (Nat.lt_of_lt_of_eq (by omega) hx.symm)) kj) ?_
   refine Qab (.pointer (some ⟨g9,0,none⟩)) 41 rfl kj (QaG 100 _ _ .i64 (0) g9 34 34 3 rfl kj kj kj kj (by decide)) ?_
   refine Qak g9 _ (ints .i64 ((sh R (0+1)).set 0 (nth (xs) j))) 3 q9_3 rfl kj (Qa1 3 _ _ g9 0 3 _ _ q9_3 rfl kj kj kj (Nat.lt_of_lt_of_eq (by decide) (Qkq _ _).symm)) fun W9 p9 r9_9=>?_
   have x9:Ext w W9:=Puts.ext p9 xx3 b9
   refine Qaf ?_
   refine hK32 _ _ ?_
   refine wp_block ?_
   have r3_9:=(Puts.row p9 q3_3 n_3_9)
   have r5_9:=(Puts.row p9 q5_3 n_5_9)
   have r7_9:=(Puts.row p9 q7_3 n_7_9)
   refine QaI (fun (V:Int)=>[(6,.int .i64 ((j:Nat):Int)),(0,.slice (some ⟨gl,0,none⟩) N N),(2,.pointer (some ⟨g3,0,none⟩)),(3,.pointer (some ⟨g5,0,none⟩)),(4,.slice (some ⟨gm,0,none⟩) 32 32),(5,.slice (some ⟨g9,0,none⟩) 34 34)]) (fun (V:Int) W=>(0≤V)∧(V%ordL=(256*R+nth xs j)%ordL)∧(V<256^34)∧W.heap[g3]? = some (.cells (ints .u8 (List.replicate 32 0)) 23)∧W.heap[g5]? = some (.cells (ints .u8 (ordI)) 23)∧W.heap[gm]? = some (.cells (ints .i64 (ordI)) 3)∧W.heap[g9]? = some (.cells (ints .i64 (dig V)) 3)∧Ext w W) (fun (V:Int)=>V.toNat) (256*R+nth xs j) ⟨rfl,rfl,rfl,rfl,rfl,rfl,trivial⟩ ⟨(by have:=hRS.1; omega),rfl,(QnY hRS hx0),r3_9,r5_9,r7_9,(QaB r9_9 (QpR R (nth xs j) hx0)),x9⟩ fun V X4 V4 hI=>?_
   obtain ⟨hV0,hVm,hV1,q3_4,q5_4,q7_4,q9_4,xx4⟩:=hI
   refine wp_seq_k fun K33 hK33=>?_
   refine wp_seq_k fun K34 hK34=>?_
   refine Qac ?_
   refine Qab (.slice (some ⟨g9,0,none⟩) 34 34) 42 rfl kj kj ?_
   refine Qab (.slice (some ⟨gm,0,none⟩) 32 32) 43 rfl kj kj ?_
   refine Qar (.bool (decide (ordL≤V))) 90 #[.slice (some ⟨g9,0,none⟩) 34 34,.slice (some ⟨gm,0,none⟩) 32 32] 44 rfl kj kj ((Qq9 V hV0 hV1)▸(Qns _ _ (dig V) ordI (dig_len V) ordI_len (dig_bytes V) Qgg _ q9_4 q7_4)) fun W11 e11=>?_
   have x11:Ext w W11:=Ext.tr xx4 e11
   refine Qaf ?_
   refine hK34 _ _ ?_
   refine Qa5 (t:=decide (ordL≤V)) kj (fun c35=>?_) (fun c35=>?_)
   ·skip
    have hge:ordL≤V:=of_decide_eq_true c35
    refine wp_skip ?_
    refine hK33 _ _ ?_
    refine wp_block ?_
    refine wp_seq_k fun K36 hK36=>?_
    refine Qac ?_
    refine Qab (.int .i64 0) 8 rfl kj kj ?_
    refine Qaf ?_
    refine hK36 _ _ ?_
    refine wp_seq_k fun K37 hK37=>?_
    refine Qac ?_
    refine Qab (.int .i64 0) 9 rfl kj kj ?_
    refine Qaf ?_
    refine hK37 _ _ ?_
    refine wp_block ?_
    have r3_11:=(Qaa q3_4 e11)
    have r5_11:=(Qaa q5_4 e11)
    have r7_11:=(Qaa q7_4 e11)
    have r9_11:=(Qaa q9_4 e11)
    refine QaI (fun (k:Nat)=>[(8,.int .i64 (bo V k)),(9,.int .i64 ((k:Nat):Int)),(6,.int .i64 ((j:Nat):Int)),(0,.slice (some ⟨gl,0,none⟩) N N),(2,.pointer (some ⟨g3,0,none⟩)),(3,.pointer (some ⟨g5,0,none⟩)),(4,.slice (some ⟨gm,0,none⟩) 32 32),(5,.slice (some ⟨g9,0,none⟩) 34 34)]) (fun (k:Nat) W=>(k≤34)∧W.heap[g3]? = some (.cells (ints .u8 (List.replicate 32 0)) 23)∧W.heap[g5]? = some (.cells (ints .u8 (ordI)) 23)∧W.heap[gm]? = some (.cells (ints .i64 (ordI)) 3)∧W.heap[g9]? = some (.cells (ints .i64 (sb V k)) 3)∧Ext w W) (fun (k:Nat)=>34-k) 0 ⟨(congrArg (Value.int .i64) (Qpy V).symm),rfl,rfl,rfl,rfl,rfl,rfl,rfl,trivial⟩ ⟨(by omega),r3_11,r5_11,r7_11,(QaB r9_11 (QlW V)),x11⟩ fun k X5 V5 hI=>?_
    obtain ⟨hk34,q3_5,q5_5,q7_5,q9_5,xx5⟩:=hI
    refine wp_seq_k fun K38 hK38=>?_
    refine wp_seq_k fun K39 hK39=>?_
    refine Qac ?_
    refine Qab (.int .i64 ((k:Nat):Int)) 45 rfl kj kj ?_
    refine Qab (.bool (decide (((k:Nat):Int)<34))) 46 rfl kj kj ?_
    refine Qaf ?_
    refine hK39 _ _ ?_
    refine Qa5 (t:=decide (((k:Nat):Int)<34)) kj (fun c40=>?_) (fun c40=>?_)
    ·skip
     have hk:k<34:=by have:=of_decide_eq_true c40; omega
     have hbr:=byteAt_range V k
     have hbo:=Qjx V k
     have hbl2:=byteAt_range ordL k
     refine wp_skip ?_
     refine hK38 _ _ ?_
     refine wp_seq_k fun K41 hK41=>?_
     refine wp_block ?_
     refine wp_seq_k fun K42 hK42=>?_
     refine Qac ?_
     refine Qab (.slice (some ⟨g9,0,none⟩) 34 34) 49 rfl kj kj ?_
     refine Qab (.int .i64 ((k:Nat):Int)) 50 rfl kj kj ?_
     refine Qab (.pointer (some ⟨g9,k,none⟩)) 51 rfl kj (QaG 100 _ _ .i64 (k) g9 34 34 3 rfl kj kj kj kj hk) ?_
     refine Qab (.int .i64 (Qap V k)) 52 rfl kj (Qam 3 _ g9 k 3 _ (.int .i64 (Qap V k)) _ q9_5 rfl kj ((Qas _ _ _ (Nat.lt_of_lt_of_eq hk (Qhk _ _).symm)).trans (congrArg (fun z=>some (Value.int .i64 z)) (QpS V k hk))) kj) ?_
     refine Qab (.int .i64 (bo V k)) 53 rfl kj kj ?_
     refine Qab (.int .i64 (Qap V k-bo V k)) 54 rfl kj (Qan (u:=.int .i64 (IntKind.i64.wrap ((Qap V k)-(bo V k)))) kj (congrArg (Value.int .i64) (Qe9 _ (by omega)))) ?_
     refine Qab (.int .i64 (Qap V k-bo V k)) 10 rfl kj kj ?_
     refine Qaf ?_
     refine hK42 _ _ ?_
     refine wp_seq_k fun K43 hK43=>?_
     refine wp_seq_k fun K44 hK44=>?_
     refine Qac ?_
     refine Qab (.int .i64 ((k:Nat):Int)) 55 rfl kj kj ?_
     refine Qab (.bool (decide (((k:Nat):Int)<32))) 56 rfl kj kj ?_
     refine Qaf ?_
     refine hK44 _ _ ?_
     refine Qa5 (t:=decide (((k:Nat):Int)<32)) kj (fun c45=>?_) (fun c45=>?_)
     ·skip
      have hk2:k<32:=by have:=of_decide_eq_true c45; omega
      have hdn:dn V k=Qap V k-bo V k-Qap ordL k:=rfl
      refine Qac ?_
      refine Qab (.int .i64 (Qap V k-bo V k)) 57 rfl kj kj ?_
      refine Qab (.slice (some ⟨gm,0,none⟩) 32 32) 58 rfl kj kj ?_
      refine Qab (.int .i64 ((k:Nat):Int)) 59 rfl kj kj ?_
      refine Qab (.pointer (some ⟨gm,k,none⟩)) 60 rfl kj (QaG 100 _ _ .i64 (k) gm 32 32 3 rfl kj kj kj kj (by omega)) ?_
      refine Qab (.int .i64 (Qap ordL k)) 61 rfl kj (Qam 3 _ gm k 3 _ (.int .i64 (Qap ordL k)) _ q7_5 rfl kj ((Qas _ _ _ (Nat.lt_of_lt_of_eq (by omega) ordI_len.symm)).trans (congrArg (fun z=>some (Value.int .i64 z)) (ordI_nth k hk2))) kj) ?_
      refine Qab (.int .i64 (Qap V k-bo V k-Qap ordL k)) 62 rfl kj (Qan (u:=.int .i64 (IntKind.i64.wrap ((Qap V k-bo V k)-(Qap ordL k)))) kj (congrArg (Value.int .i64) (Qe9 _ (by omega)))) ?_
      refine Qab (.int .i64 (Qap V k-bo V k-Qap ordL k)) 10 rfl kj kj ?_
      refine Qaf ?_
      refine hK43 _ _ ?_
      refine wp_seq_k fun K46 hK46=>?_
      refine Qac ?_
      refine Qab (.int .i64 0) 8 rfl kj kj ?_
      refine Qaf ?_
      refine hK46 _ _ ?_
      refine wp_seq_k fun K47 hK47=>?_
      refine wp_seq_k fun K48 hK48=>?_
      refine Qac ?_
      refine Qab (.int .i64 (Qap V k-bo V k-Qap ordL k)) 63 rfl kj kj ?_
      refine Qab (.bool (decide ((Qap V k-bo V k-Qap ordL k)<0))) 64 rfl kj kj ?_
      refine Qaf ?_
      refine hK48 _ _ ?_
      refine Qa5 (t:=decide ((Qap V k-bo V k-Qap ordL k)<0)) kj (fun c49=>?_) (fun c49=>?_)
      ·skip
       have hneg:dn V k<0:=by rw [hdn]; exact of_decide_eq_true c49
       obtain ⟨hd1,hd2⟩:=Qjt V k hneg
       rw [hdn] at hd1
       refine wp_seq_k fun K50 hK50=>?_
       refine Qac ?_
       refine Qab (.int .i64 (Qap V k-bo V k-Qap ordL k)) 65 rfl kj kj ?_
       refine Qab (.int .i64 ((Qap V k-bo V k-Qap ordL k)+256)) 66 rfl kj (Qan (u:=.int .i64 (IntKind.i64.wrap ((Qap V k-bo V k-Qap ordL k)+256))) kj (congrArg (Value.int .i64) (Qe9 _ (by omega)))) ?_
       refine Qab (.int .i64 ((Qap V k-bo V k-Qap ordL k)+256)) 10 rfl kj kj ?_
       refine Qaf ?_
       refine hK50 _ _ ?_
       refine Qac ?_
       refine Qab (.int .i64 1) 8 rfl kj kj ?_
       refine Qaf ?_
       refine hK47 _ _ ?_
       refine Qac ?_
       refine Qab (.slice (some ⟨g9,0,none⟩) 34 34) 67 rfl kj kj ?_
       refine Qab (.int .i64 ((k:Nat):Int)) 68 rfl kj kj ?_
       refine Qab (.int .i64 ((Qap V k-bo V k-Qap ordL k)+256)) 69 rfl kj kj ?_
       refine Qab (.pointer (some ⟨g9,k,none⟩)) 70 rfl kj (QaG 100 _ _ .i64 (k) g9 34 34 3 rfl kj kj kj kj hk) ?_
       refine Qak g9 _ (ints .i64 ((sb V k).set k ((Qap V k-bo V k-Qap ordL k)+256))) 3 q9_5 rfl kj (Qa1 3 _ _ g9 k 3 _ _ q9_5 rfl kj kj kj (Nat.lt_of_lt_of_eq hk (Qhk _ _).symm)) fun W13 p13 r9_13=>?_
       have x13:Ext w W13:=Puts.ext p13 xx5 b9
       refine Qaf ?_
       refine hK41 _ _ ?_
       refine Qac ?_
       refine Qab (.int .i64 ((k:Nat):Int)) 47 rfl kj kj ?_
       refine Qab (.int .i64 (((k+1:Nat):Int))) 48 rfl kj (Qan (u:=.int .i64 (IntKind.i64.wrap (((k:Nat):Int)+1))) kj (congrArg (Value.int .i64) (Qcg k (by omega)))) ?_
       refine Qab (.int .i64 (((k+1:Nat):Int))) 9 rfl kj kj ?_
       refine Qaf ?_
       have r3_13:=(Puts.row p13 q3_5 n_3_9)
       have r5_13:=(Puts.row p13 q5_5 n_5_9)
       have r7_13:=(Puts.row p13 q7_5 n_7_9)
       repeat (first | with_reducible refine goX1 ?_ | with_reducible refine goX2 ?_ | with_reducible refine goX3 ?_)
       exact QaA (k+1) ⟨(congrArg (Value.int .i64) hd2.symm),rfl,rfl,rfl,rfl,rfl,rfl,rfl,trivial⟩ ⟨(by omega),r3_13,r5_13,r7_13,(QaB r9_13 (Qg5 V k hk _ hd1)),x13⟩ (by omega)
      ·skip
       have hneg:¬ dn V k<0:=by rw [hdn]; exact of_decide_eq_false c49
       obtain ⟨hd1,hd2⟩:=Qjs V k hneg
       rw [hdn] at hd1
       refine wp_skip ?_
       refine hK47 _ _ ?_
       refine Qac ?_
       refine Qab (.slice (some ⟨g9,0,none⟩) 34 34) 67 rfl kj kj ?_
       refine Qab (.int .i64 ((k:Nat):Int)) 68 rfl kj kj ?_
       refine Qab (.int .i64 (Qap V k-bo V k-Qap ordL k)) 69 rfl kj kj ?_
       refine Qab (.pointer (some ⟨g9,k,none⟩)) 70 rfl kj (QaG 100 _ _ .i64 (k) g9 34 34 3 rfl kj kj kj kj hk) ?_
       refine Qak g9 _ (ints .i64 ((sb V k).set k (Qap V k-bo V k-Qap ordL k))) 3 q9_5 rfl kj (Qa1 3 _ _ g9 k 3 _ _ q9_5 rfl kj kj kj (Nat.lt_of_lt_of_eq hk (Qhk _ _).symm)) fun W13 p13 r9_13=>?_
       have x13:Ext w W13:=Puts.ext p13 xx5 b9
       refine Qaf ?_
       refine hK41 _ _ ?_
       refine Qac ?_
       refine Qab (.int .i64 ((k:Nat):Int)) 47 rfl kj kj ?_
       refine Qab (.int .i64 (((k+1:Nat):Int))) 48 rfl kj (Qan (u:=.int .i64 (IntKind.i64.wrap (((k:Nat):Int)+1))) kj (congrArg (Value.int .i64) (Qcg k (by omega)))) ?_
       refine Qab (.int .i64 (((k+1:Nat):Int))) 9 rfl kj kj ?_
       refine Qaf ?_
       have r3_13:=(Puts.row p13 q3_5 n_3_9)
       have r5_13:=(Puts.row p13 q5_5 n_5_9)
       have r7_13:=(Puts.row p13 q7_5 n_7_9)
       repeat (first | with_reducible refine goX1 ?_ | with_reducible refine goX2 ?_ | with_reducible refine goX3 ?_)
       exact QaA (k+1) ⟨(congrArg (Value.int .i64) hd2.symm),rfl,rfl,rfl,rfl,rfl,rfl,rfl,trivial⟩ ⟨(by omega),r3_13,r5_13,r7_13,(QaB r9_13 (Qg5 V k hk _ hd1)),x13⟩ (by omega)
     ·skip
      have hk2:32≤k:=by have:=of_decide_eq_false c45; omega
      have hdn:dn V k=Qap V k-bo V k:=by show _-Qap ordL k=_; rw [Qmy k hk2]; omega
      refine wp_skip ?_
      refine hK43 _ _ ?_
      refine wp_seq_k fun K51 hK51=>?_
      refine Qac ?_
      refine Qab (.int .i64 0) 8 rfl kj kj ?_
      refine Qaf ?_
      refine hK51 _ _ ?_
      refine wp_seq_k fun K52 hK52=>?_
      refine wp_seq_k fun K53 hK53=>?_
      refine Qac ?_
      refine Qab (.int .i64 (Qap V k-bo V k)) 63 rfl kj kj ?_
      refine Qab (.bool (decide ((Qap V k-bo V k)<0))) 64 rfl kj kj ?_
      refine Qaf ?_
      refine hK53 _ _ ?_
      refine Qa5 (t:=decide ((Qap V k-bo V k)<0)) kj (fun c54=>?_) (fun c54=>?_)
      ·skip
       have hneg:dn V k<0:=by rw [hdn]; exact of_decide_eq_true c54
       obtain ⟨hd1,hd2⟩:=Qjt V k hneg
       rw [hdn] at hd1
       refine wp_seq_k fun K55 hK55=>?_
       refine Qac ?_
       refine Qab (.int .i64 (Qap V k-bo V k)) 65 rfl kj kj ?_
       refine Qab (.int .i64 ((Qap V k-bo V k)+256)) 66 rfl kj (Qan (u:=.int .i64 (IntKind.i64.wrap ((Qap V k-bo V k)+256))) kj (congrArg (Value.int .i64) (Qe9 _ (by omega)))) ?_
       refine Qab (.int .i64 ((Qap V k-bo V k)+256)) 10 rfl kj kj ?_
       refine Qaf ?_
       refine hK55 _ _ ?_
       refine Qac ?_
       refine Qab (.int .i64 1) 8 rfl kj kj ?_
       refine Qaf ?_
       refine hK52 _ _ ?_
       refine Qac ?_
       refine Qab (.slice (some ⟨g9,0,none⟩) 34 34) 67 rfl kj kj ?_
       refine Qab (.int .i64 ((k:Nat):Int)) 68 rfl kj kj ?_
       refine Qab (.int .i64 ((Qap V k-bo V k)+256)) 69 rfl kj kj ?_
       refine Qab (.pointer (some ⟨g9,k,none⟩)) 70 rfl kj (QaG 100 _ _ .i64 (k) g9 34 34 3 rfl kj kj kj kj hk) ?_
       refine Qak g9 _ (ints .i64 ((sb V k).set k ((Qap V k-bo V k)+256))) 3 q9_5 rfl kj (Qa1 3 _ _ g9 k 3 _ _ q9_5 rfl kj kj kj (Nat.lt_of_lt_of_eq hk (Qhk _ _).symm)) fun W13 p13 r9_13=>?_
       have x13:Ext w W13:=Puts.ext p13 xx5 b9
       refine Qaf ?_
       refine hK41 _ _ ?_
       refine Qac ?_
       refine Qab (.int .i64 ((k:Nat):Int)) 47 rfl kj kj ?_
       refine Qab (.int .i64 (((k+1:Nat):Int))) 48 rfl kj (Qan (u:=.int .i64 (IntKind.i64.wrap (((k:Nat):Int)+1))) kj (congrArg (Value.int .i64) (Qcg k (by omega)))) ?_
       refine Qab (.int .i64 (((k+1:Nat):Int))) 9 rfl kj kj ?_
       refine Qaf ?_
       have r3_13:=(Puts.row p13 q3_5 n_3_9)
       have r5_13:=(Puts.row p13 q5_5 n_5_9)
       have r7_13:=(Puts.row p13 q7_5 n_7_9)
       repeat (first | with_reducible refine goX1 ?_ | with_reducible refine goX2 ?_ | with_reducible refine goX3 ?_)
       exact QaA (k+1) ⟨(congrArg (Value.int .i64) hd2.symm),rfl,rfl,rfl,rfl,rfl,rfl,rfl,trivial⟩ ⟨(by omega),r3_13,r5_13,r7_13,(QaB r9_13 (Qg5 V k hk _ hd1)),x13⟩ (by omega)
      ·skip
       have hneg:¬ dn V k<0:=by rw [hdn]; exact of_decide_eq_false c54
       obtain ⟨hd1,hd2⟩:=Qjs V k hneg
       rw [hdn] at hd1
       refine wp_skip ?_
       refine hK52 _ _ ?_
       refine Qac ?_
       refine Qab (.slice (some ⟨g9,0,none⟩) 34 34) 67 rfl kj kj ?_
       refine Qab (.int .i64 ((k:Nat):Int)) 68 rfl kj kj ?_
       refine Qab (.int .i64 (Qap V k-bo V k)) 69 rfl kj kj ?_
       refine Qab (.pointer (some ⟨g9,k,none⟩)) 70 rfl kj (QaG 100 _ _ .i64 (k) g9 34 34 3 rfl kj kj kj kj hk) ?_
       refine Qak g9 _ (ints .i64 ((sb V k).set k (Qap V k-bo V k))) 3 q9_5 rfl kj (Qa1 3 _ _ g9 k 3 _ _ q9_5 rfl kj kj kj (Nat.lt_of_lt_of_eq hk (Qhk _ _).symm)) fun W13 p13 r9_13=>?_
       have x13:Ext w W13:=Puts.ext p13 xx5 b9
       refine Qaf ?_
       refine hK41 _ _ ?_
       refine Qac ?_
       refine Qab (.int .i64 ((k:Nat):Int)) 47 rfl kj kj ?_
       refine Qab (.int .i64 (((k+1:Nat):Int))) 48 rfl kj (Qan (u:=.int .i64 (IntKind.i64.wrap (((k:Nat):Int)+1))) kj (congrArg (Value.int .i64) (Qcg k (by omega)))) ?_
       refine Qab (.int .i64 (((k+1:Nat):Int))) 9 rfl kj kj ?_
       refine Qaf ?_
       have r3_13:=(Puts.row p13 q3_5 n_3_9)
       have r5_13:=(Puts.row p13 q5_5 n_5_9)
       have r7_13:=(Puts.row p13 q7_5 n_7_9)
       repeat (first | with_reducible refine goX1 ?_ | with_reducible refine goX2 ?_ | with_reducible refine goX3 ?_)
       exact QaA (k+1) ⟨(congrArg (Value.int .i64) hd2.symm),rfl,rfl,rfl,rfl,rfl,rfl,rfl,trivial⟩ ⟨(by omega),r3_13,r5_13,r7_13,(QaB r9_13 (Qg5 V k hk _ hd1)),x13⟩ (by omega)
    ·skip
     have hk:k=34:=by have:=of_decide_eq_false c40; omega
     subst hk
     refine wp_exit ?_
     repeat (first | with_reducible refine goX1 ?_ | with_reducible refine goX2 ?_ | with_reducible refine goX3 ?_)
     exact QaA (V-ordL) ⟨rfl,rfl,rfl,rfl,rfl,rfl,trivial⟩ ⟨(by omega),(by rw [←hVm,Int.sub_emod_right]),(QpI hV1),q3_5,q5_5,q7_5,(QaB q9_5 (QpT V)),xx5⟩ (QqP hge)
   ·skip
    have hlt:¬ ordL≤V:=of_decide_eq_false c35
    have hVT:redT xs N (N-j)=V:=by rw [hRT,←hVm]; exact Int.emod_eq_of_lt hV0 (by omega)
    refine wp_exit ?_
    refine hK25 _ _ ?_
    refine Qac ?_
    refine Qab (.int .i64 ((j:Nat):Int)) 22 rfl kj kj ?_
    refine Qab (.int .i64 ((j:Int)-1)) 23 rfl kj (Qan (u:=.int .i64 (IntKind.i64.wrap (((j:Nat):Int)-1))) kj (congrArg (Value.int .i64) (Qdz j (by omega)))) ?_
    refine Qab (.int .i64 ((j:Int)-1)) 6 rfl kj kj ?_
    refine Qaf ?_
    have r3_11:=(Qaa q3_4 e11)
    have r5_11:=(Qaa q5_4 e11)
    have r7_11:=(Qaa q7_4 e11)
    have r9_11:=(Qaa q9_4 e11)
    repeat (first | with_reducible refine goX1 ?_ | with_reducible refine goX2 ?_ | with_reducible refine goX3 ?_)
    exact QaA j ⟨rfl,rfl,rfl,rfl,rfl,rfl,trivial⟩ ⟨(by omega),r3_11,r5_11,r7_11,(QaB r9_11 (by rw [hVT]) ),x11⟩ (by omega)
end Go.Proofs.YtdoadngmgmdlbaaDoor.Field
end
section
namespace Go.Proofs.YtdoadngmgmdlbaaDoor.Field
open Go Go.RowKit
open Rely Auto
theorem QeP (xs : List Int) (o a:Nat):∀ b,leAt xs o (a+b)=leAt xs o a+256^a*leAt xs (o+a) b
  | 0=>by simp [leAt]
  | b+1=>by
    rw [←Nat.add_assoc,leAt,QeP xs o a b,leAt,Int.pow_add,Nat.add_assoc]
    grind
theorem Qla (es : List Int) (hb:Qal es) (n q:Nat) (hq:q<n):leAt es 0 n/256^q%256=nth es q:=by
  have hB:(0:Int)<256^q:=Int.pow_pos (by decide)
  have e:=QeP es 0 q (n-q)
  rw [show q+(n-q)=n by omega,show n-q=(n-q-1)+1 by omega,QgP,Nat.zero_add] at e
  have r:=Qbv es hb 0 q
  rw [e]
  generalize (256:Int)^q=B at *
  generalize leAt es 0 q=a at *
  generalize leAt es (q+1) (n-q-1)=c
  rw [Int.add_mul_ediv_left _ _ (Int.ne_of_gt hB),Int.ediv_eq_zero_of_lt r.1 r.2]
  have:=hb.nth q
  omega
theorem QmF (m : Int) (r:Nat) (hr:r<8):m%256/2^r%2=m/2^r%2:=by
  rcases (by omega:r=0∨r=1∨r=2∨r=3∨r=4∨r=5∨r=6∨r=7) with rfl | rfl | rfl | rfl | rfl | rfl | rfl | rfl
  all_goals
    simp only [Int.reducePow]
    omega
theorem Qnq (es : List Int) (hb:Qal es) (n i:Nat) (hi:i<8*n):QcR es i=leAt es 0 n/2^i%2:=by
  unfold QcR
  rw [←Qla es hb n (i/8) (by omega),QmF _ _ (by omega),Int.ediv_ediv_of_nonneg (Int.pow_nonneg (by decide)),show (256:Int)=2^8 by decide,←Int.pow_mul,←Int.pow_add,show 8*(i/8)+i%8=i by omega]
def numS (es : List Int):Nat:=(leAt es 0 es.length).toNat
theorem Ql8 (es : List Int) (hb:Qal es) (i:Nat) (hi:i<8*es.length):(if bitB es i=true then 1 else 0)=numS es/2^i%2:=by
  have h:=Qnq es hb es.length i hi
  have hr:=Qbv es hb 0 es.length
  have e:((numS es:Nat):Int)=leAt es 0 es.length:=by unfold numS; omega
  rw [←e] at h
  have h2:QcR es i=((numS es/2^i%2:Nat):Int):=by
    rw [h]; rw [Int.natCast_emod,Int.natCast_ediv,Int.natCast_pow]; rfl
  unfold bitB
  rw [h2]
  have:numS es/2^i%2<2:=Nat.mod_lt _ (by decide)
  rcases (by omega:numS es/2^i%2=0∨numS es/2^i%2=1) with q | q <;> rw [q] <;> rfl
theorem Qgp (es : List Int) (hb:Qal es) (N:Nat) (hN:8*es.length=N):∀ k,k≤N→bval ((bitsS es).take k)=numS es/2^(N-k)
  | 0,_=>by
    have hr:=Qbv es hb 0 es.length
    have h1:((numS es:Nat):Int)<((2^N:Nat):Int):=by
      have e:((2^N:Nat):Int)=256^es.length:=by
        rw [←hN,Int.natCast_pow,show (256:Int)=2^8 by decide,←Int.pow_mul]; rfl
      unfold numS
      rw [e]; omega
    have h2:numS es<2^N:=by omega
    rw [Nat.sub_zero,Nat.div_eq_of_lt h2]
    rfl
  | k+1,hk=>by
    have e:=Qgr es (N-1-k) (by omega)
    rw [hN,show N-(N-1-k)=k+1 by omega,show N-(N-1-k+1)=k by omega] at e
    rw [e,QhY,Qgp es hb N hN k (by omega),Ql8 es hb _ (by omega),show N-k=(N-1-k)+1 by omega,show N-(k+1)=N-1-k by omega,Nat.pow_succ,←Nat.div_div_eq_div_mul]
    omega
theorem Qom (bs : List Int) (hb:Qal bs):resN bs=leAt bs 0 bs.length%ordL:=by
  unfold resN
  have h:=Qgp bs hb (8*bs.length) rfl (8*bs.length) (qR _)
  rw [List.take_of_length_le (by rw [QfP]; omega)] at h
  rw [QiM,h]
  have hr:=Qbv bs hb 0 bs.length
  congr 1
  unfold numS
  simp
  omega
theorem nth_set_ne (xs : List Int) (i j:Nat) (v:Int) (h:i≠j):nth (xs.set i v) j=nth xs j:=by
  unfold nth
  rw [List.getD_eq_getElem?_getD,List.getD_eq_getElem?_getD,List.getElem?_set_ne h]
theorem Qe7 (xs : List Int) (q:Nat) (v:Int):∀ N,N≤q→leAt (xs.set q v) 0 N=leAt xs 0 N
  | 0,_=>rfl
  | N+1,h=>by rw [leAt,leAt,Qe7 xs q v N (by omega),nth_set_ne _ _ _ _ (by omega)]
theorem Qfo (xs : List Int) (q:Nat) (v:Int) (hq:q<xs.length):∀ N,q<N→leAt (xs.set q v) 0 N=leAt xs 0 N+(v-nth xs q)*256^q
  | 0,h=>by omega
  | N+1,h=>by
    rw [leAt,leAt,Nat.zero_add]
    by_cases e:N=q
    · subst e
      rw [Qe7 xs N v N (qR _),nth_set_self _ _ _ hq]
      grind
    · rw [Qfo xs q v hq N (by omega),nth_set_ne _ _ _ _ (by omega)]
      grind
theorem i64_mid (v : Int) (h:-1000000000≤v∧v≤1000000000):IntKind.i64.wrap v=v:=IntWalk.i64_in _ (by omega)
theorem Qjj (a b:Nat) (h:a+b<1000000):IntKind.i64.wrap ((a:Int)+(b:Int))=((a+b:Nat):Int):=by
  rw [show ((a+b:Nat):Int)=(a:Int)+b by omega]
  exact IntWalk.i64_in _ (by omega)
theorem QpY (v : Int) (h:0≤v∧v≤1000000000):IntKind.i64.wrap (Int.tdiv v 256)=v/256:=by
  rw [Int.tdiv_eq_ediv_of_nonneg h.1]
  exact IntWalk.i64_in _ (by omega)
theorem QpW (v : Int) (h:0≤v):Int.tmod v 256=v%256:=Int.tmod_eq_emod_of_nonneg h
theorem QhO (xs : List Int) (N m:Nat) (i:Nat) (h:m≤i):nth (fill xs N m) i=0:=by
  by_cases hi:i<N
  · rw [fill,mix_nth _ _ _ _ _ hi,if_neg (by omega)]
  · exact Qgi _ _ (by rw [fill_len]; omega)
theorem Qjo (xs : List Int) (N m:Nat) (i:Nat) (h:i<m) (hm:m≤N):nth (fill xs N m) i=nth xs i:=by
  rw [fill,mix_nth _ _ _ _ _ (by omega),if_pos h]
theorem QhF (xs : List Int) (N m:Nat) (hm:m≤N):∀ k,k≤m→leAt (fill xs N m) 0 k=leAt xs 0 k
  | 0,_=>rfl
  | k+1,h=>by rw [leAt,leAt,QhF xs N m hm k (by omega),Nat.zero_add,Qjo _ _ _ _ (by omega) hm]
theorem Qi1 (xs : List Int):leAt (fill xs 66 32) 0 66=leAt xs 0 32:=by
  have h:=QeP (fill xs 66 32) 0 32 34
  rw [show 32+34=66 from rfl] at h
  rw [h,QhF xs 66 32 (by omega) 32 (qR _),QhE 34 (0+32) _ (fun i hi=>QhO _ _ _ _ (by omega))]
  simp
def Rows (za zb zc:List Int) (i:Nat) (ls:List Int):Prop :=
  leAt ls 0 66=leAt zc 0 32+leAt za 0 i*leAt zb 0 32∧∀ q,0≤nth ls q∧nth ls q≤255+65025*i
def RowJ (za zb zc:List Int) (i j:Nat) (ls:List Int):Prop :=
  leAt ls 0 66=leAt zc 0 32+leAt za 0 i*leAt zb 0 32+nth za i*256^i*leAt zb 0 j∧∀ q,0≤nth ls q∧(nth ls q≤255+65025*(i+1)∧(i+j≤q→nth ls q≤255+65025*i))
theorem QjF (za zb zc:List Int) (hc:Qal zc):Rows za zb zc 0 (fill zc 66 32):=by
  refine ⟨by rw [Qi1]; simp [leAt],fun q=>?_⟩
  by_cases h:q<32
  · rw [Qjo _ _ _ _ h (by omega)]; have:=hc.nth q; omega
  · rw [QhO _ _ _ _ (by omega)]; omega
theorem QjG {za zb zc:List Int} {i:Nat} {ls:List Int} (h:Rows za zb zc i ls):RowJ za zb zc i 0 ls:=by
  refine ⟨by rw [h.1]; simp [leAt],fun q=>?_⟩
  have:=h.2 q
  omega
theorem Qky {za zb zc:List Int} (ha:Qal za) (hb:Qal zb) {i j:Nat} {ls:List Int} (hl:ls.length=66) (hi:i<32) (hj:j<32) (h:RowJ za zb zc i j ls) :
    RowJ za zb zc i (j+1) (ls.set (i+j) (nth ls (i+j)+nth za i*nth zb j)):=by
  have hp:=Qge (ha.nth i) (hb.nth j)
  refine ⟨?_,fun q=>?_⟩
  · rw [Qfo _ _ _ (by omega) 66 (by omega),h.1,show leAt zb 0 (j+1)=leAt zb 0 j+nth zb (0+j)*256^j from rfl,Nat.zero_add,Int.pow_add]
    grind
  · have h0:=h.2 q
    by_cases e:i+j=q
    · subst e
      rw [nth_set_self _ _ _ (by omega)]
      have h1:=h0.2.2 (qR _)
      refine ⟨by omega,by omega,fun h=>by omega⟩
    · rw [nth_set_ne _ _ _ _ e]
      exact ⟨h0.1,h0.2.1,fun h=>h0.2.2 (by omega)⟩
theorem Qkx {za zb zc:List Int} {i:Nat} {ls:List Int} (h:RowJ za zb zc i 32 ls):Rows za zb zc (i+1) ls:=by
  refine ⟨by rw [h.1,show leAt za 0 (i+1)=leAt za 0 i+nth za (0+i)*256^i from rfl,Nat.zero_add]; grind,fun q=>?_⟩
  have:=h.2 q
  constructor
  · exact this.1
  · have h2:=this.2.1
    rw [show ((i+1:Nat):Int)=(i:Int)+1 by omega]
    exact h2
def CarT (T : Int) (k:Nat) (ls:List Int):Prop:=leAt ls 0 66=T∧∀ q,0≤nth ls q∧(q<k→nth ls q≤255)∧(q=k→nth ls q≤3000000)∧(k<q→nth ls q≤2081055)
theorem Ql3 {za zb zc:List Int} {ls:List Int} (h:Rows za zb zc 32 ls):CarT (leAt zc 0 32+leAt za 0 32*leAt zb 0 32) 0 ls:=by
  refine ⟨h.1,fun q=>?_⟩
  have:=h.2 q
  have e:((32:Nat):Int)=32:=rfl
  rw [e] at this
  refine ⟨this.1,fun h=>by omega,fun h=>by omega,fun h=>by omega⟩
theorem Qnk {T : Int} {k:Nat} {ls:List Int} (hl:ls.length=66) (hk:k<65) (h:CarT T k ls) :
    CarT T (k+1) ((ls.set (k+1) (nth ls (k+1)+nth ls k/256)).set k (nth ls k%256)):=by
  have h0:=h.2 k
  have h1:=h.2 (k+1)
  have b0:=h0.2.2.1 rfl
  have b1:=h1.2.2.2 (by omega)
  refine ⟨?_,fun q=>?_⟩
  · rw [Qfo _ _ _ (by rw [List.length_set]; omega) 66 (by omega),Qfo _ _ _ (by omega) 66 (by omega),nth_set_ne _ _ _ _ (by omega),h.1,Int.pow_succ]
    have e:nth ls k=256*(nth ls k/256)+nth ls k%256:=by omega
    generalize nth ls k/256=a at *
    generalize nth ls k%256=b at *
    rw [e]
    grind
  · by_cases e0:q=k
    · subst e0
      rw [nth_set_self _ _ _ (by rw [List.length_set]; omega)]
      refine ⟨by omega,fun _=>by omega,fun _=>by omega,fun _=>by omega⟩
    · rw [nth_set_ne _ _ _ _ (fun e=>e0 e.symm)]
      by_cases e1:q=k+1
      · subst e1
        rw [nth_set_self _ _ _ (by omega)]
        refine ⟨by omega,fun _=>by omega,fun _=>by omega,fun _=>by omega⟩
      · rw [nth_set_ne _ _ _ _ (fun e=>e1 e.symm)]
        have hq:=h.2 q
        exact ⟨hq.1,fun h=>hq.2.1 (by omega),fun h=>absurd h e1,fun h=>hq.2.2.2 (by omega)⟩
theorem Qpw {za zb zc:List Int} (ha:Qal za) (hb:Qal zb) (hc:Qal zc) {ls:List Int} (hl:ls.length=66) (h:CarT (leAt zc 0 32+leAt za 0 32*leAt zb 0 32) 65 ls):Qal ls:=by
  have ra:=Qbv za ha 0 32
  have rb:=Qbv zb hb 0 32
  have rc:=Qbv zc hc 0 32
  have hT:leAt zc 0 32+leAt za 0 32*leAt zb 0 32<256^65:=by
    have h1:leAt za 0 32*leAt zb 0 32≤256^32*leAt zb 0 32:=Int.mul_le_mul_of_nonneg_right (Int.le_of_lt ra.2) rb.1
    have h2:(256:Int)^32*leAt zb 0 32≤256^32*256^32:=Int.mul_le_mul_of_nonneg_left (Int.le_of_lt rb.2) (by decide)
    have h3:(256:Int)^32+256^32*256^32<256^65:=by decide
    have h4:=rc.2
    generalize (256:Int)^65=P at *
    generalize (256:Int)^32*256^32=Q at *
    generalize (256:Int)^32=R at *
    omega
  have hlo:∀ k,k≤65→0≤leAt ls 0 k:=by
    intro k
    induction k with
    | zero=>intro _; simp [leAt]
    | succ k ih =>
      intro hk
      rw [leAt]
      have h1:=ih (by omega)
      have h2:=Int.mul_nonneg (h.2 (0+k)).1 (show (0:Int)≤256^k from Int.pow_nonneg (by decide))
      omega
  have h65:nth ls 65=0:=by
    have e:=h.1
    rw [leAt,Nat.zero_add] at e
    have l:=hlo 65 (qR _)
    have p0:=(h.2 65).1
    apply Decidable.byContradiction
    intro hne
    have h1:1*256^65≤nth ls 65*256^65:=Int.mul_le_mul_of_nonneg_right (by omega) (by decide)
    generalize (256:Int)^65=P at *
    omega
  intro x hx
  obtain ⟨i,hi,rfl⟩:=List.getElem_of_mem hx
  have e:ls[i]=nth ls i:=by unfold nth; simp [hi]
  rw [e]
  have hq:=h.2 i
  by_cases h6:i=65
  · subst h6; omega
  · have:=hq.2.1 (by omega)
    exact ⟨hq.1,this⟩
theorem Qiw (es : List Int) (hb:Qal es):((numB es:Nat):Int)=leAt es 0 32:=by
  have:=(Qbv es hb 0 32).1
  unfold numB; omega
def mulR (za zb zc:List Int):Int:=(mulB (resN zb) (bitsB za)+resN zc)%ordL
theorem QoQ (za zb zc:List Int) (hab:Qal za) (hb:zb.length=32) (hbb:Qal zb) (hc:zc.length=32) (hcb:Qal zc):(leAt zc 0 32+leAt za 0 32*leAt zb 0 32)%ordL=mulR za zb zc:=by
  unfold mulR
  rw [mulAdd_val za zb zc hab hb hbb hc hcb,Qiw za hab,Qiw zb hbb,Qiw zc hcb,Int.add_comm]
end Go.Proofs.YtdoadngmgmdlbaaDoor.Field
end
section
namespace Go.Proofs.YtdoadngmgmdlbaaDoor.Field
open Go Go.RowKit
open Rely Auto
theorem bitsC (A : Option Addr) (n c:Nat) (bs:List Int) (hbl:bs.length=n) (hn:n≤1000) (hb:Qal bs) (w:World)
    (hc:n=0∨∃ sb so,A=some ⟨sb,so,none⟩∧sb<w.heap.size∧∀ i,i<n→w.cell? ⟨sb,so+i,none⟩=some (.int .u8 (nth bs i))) :
    Calls Tryd.prog 38 #[.slice A n c] w (Ret w (.agg (ints .u8 (Qao (resN bs))))):=by
  refine enter 6 [(0,.slice A n c)] Tryd.func38 rfl rfl kj rfl ?_
  refine wp_seq_k fun K1 hK1=>?_
  refine Qac ?_
  refine Qaj (ints .u8 (List.replicate 32 0)) 23 2 rfl kj kj fun g2 W1 l2 e1 r2_1=>?_
  have x1:Ext w W1:=Ext.tr (Rely.Ext.refl w) e1
  have b2:w.heap.size≤g2:=qT (Rely.Ext.refl w).size l2
  refine Qaf ?_
  refine hK1 _ _ ?_
  refine wp_seq_k fun K3 hK3=>?_
  refine Qac ?_
  refine Qab (.slice A n c) 3 rfl kj kj ?_
  refine Qb6 (fun v W'=>Ext W1 W'∧∃ g,W1.heap.size≤g∧v=.slice (some ⟨g,0,none⟩) n n∧W'.heap[g]? = some (.cells (ints .i64 bs) 3)) 77 #[.slice A n c] 4 rfl kj kj ((Qq5 A n c bs hbl hn hb _ (QhT hc x1)).mono fun e w' ⟨v,h1,h2,h3⟩=>⟨v,h1,h2,h3⟩) fun v W2 h=>?_
  obtain ⟨e2,gi,li,rfl,r4_2⟩:=h
  have x2:Ext w W2:=Ext.tr x1 e2
  refine Qar (.agg (ints .u8 (Qao (leAt bs 0 n%ordL)))) 65 #[.slice (some ⟨gi,0,none⟩) n n] 5 rfl kj kj (Qk4 _ n bs hbl hn hb _ r4_2) fun W3 e3=>?_
  have x3:Ext w W3:=Ext.tr x2 e3
  have r2_3:=(Qaa (Qaa r2_1 e2) e3)
  refine Qak g2 _ (ints .u8 (Qao (leAt bs 0 n%ordL))) 23 r2_3 rfl kj (Qah 23 _ _ g2 23 _ _ r2_3 rfl kj kj (isz (n:=32) kj ((Qae _ _).trans (bytes_len _))) (eqsz (n:=32) ((Qae _ _).trans zlen) ((Qae _ _).trans (bytes_len _))) (ints_one _ _)) fun W4 p4 r2_4=>?_
  have x4:Ext w W4:=Puts.ext p4 x3 b2
  refine Qaf ?_
  refine hK3 _ _ ?_
  refine wp_ret ?_
  exact (show bodyPost _ _ _ .ret _ _ from ret1 (.agg (ints .u8 (Qao (leAt bs 0 n%ordL)))) rfl (QaC g2 23 _ r2_4 kj kj (isz (n:=32) kj ((Qae _ _).trans (bytes_len _)))) ⟨by rw [Qom bs hb,hbl],x4⟩)
set_option maxHeartbeats 16000000 in
theorem rMulAddC (za zb zc:List Int) (ha:za.length=32) (hab:Qal za) (hb:zb.length=32) (hbb:Qal zb) (hc:zc.length=32) (hcb:Qal zc) (w:World):Calls Tryd.prog 32 #[.agg (ints .u8 za),.agg (ints .u8 zb),.agg (ints .u8 zc)] w (Ret w (.agg (ints .u8 (Qao (mulR za zb zc))))):=by
 refine enter 82 [(0,.agg (ints .u8 (za))),(1,.agg (ints .u8 (zb))),(2,.agg (ints .u8 (zc)))] Tryd.func32 rfl rfl kj rfl ?_
 refine wp_seq_k fun K1 hK1=>?_
 refine Qac ?_
 refine Qaj (ints .u8 (za)) 23 3 rfl kj kj fun g2 W1 l2 e1 r2_1=>?_
 have x1:Ext w W1:=Ext.tr (Rely.Ext.refl w) e1
 have b2:w.heap.size≤g2:=qT (Rely.Ext.refl w).size l2
 refine Qaj (ints .u8 (zb)) 23 4 rfl kj kj fun g3 W2 l3 e2 r3_2=>?_
 have x2:Ext w W2:=Ext.tr x1 e2
 have b3:w.heap.size≤g3:=qT x1.size l3
 refine Qaj (ints .u8 (zc)) 23 5 rfl kj kj fun g4 W3 l4 e3 r4_3=>?_
 have x3:Ext w W3:=Ext.tr x2 e3
 have b4:w.heap.size≤g4:=qT x2.size l4
 refine Qaj (ints .u8 (List.replicate 32 0)) 23 6 rfl kj kj fun g5 W4 l5 e4 r5_4=>?_
 have x4:Ext w W4:=Ext.tr x3 e4
 have b5:w.heap.size≤g5:=qT x3.size l5
 refine Qaf ?_
 refine hK1 _ _ ?_
 refine wp_seq_k fun K6 hK6=>?_
 refine Qac ?_
 refine QaR (ints .i64 (List.replicate 66 0)) 3 66 12 rfl kj (Qex 100 _ _ .i64 .i64 66 3 rfl kj kj kj (.inl kj) (by decide)) fun g7 W5 l7 e5 r7_5=>?_
 have x5:Ext w W5:=Ext.tr x4 e5
 have b7:w.heap.size≤g7:=qT x4.size l7
 refine Qab (.slice (some ⟨g7,0,none⟩) 66 66) 7 rfl kj kj ?_
 refine Qaf ?_
 refine hK6 _ _ ?_
 refine wp_seq_k fun K8 hK8=>?_
 refine wp_seq_k fun K9 hK9=>?_
 refine Qac ?_
 refine Qab (.int .i64 0) 8 rfl kj kj ?_
 refine Qaf ?_
 refine hK9 _ _ ?_
 refine wp_block ?_
 have n_2_3:g2≠g3:=(Qad r2_1 l3)
 have r2_2:=(Qaa r2_1 e2)
 have n_2_4:g2≠g4:=(Qad r2_2 l4)
 have r2_3:=(Qaa r2_2 e3)
 have n_2_5:g2≠g5:=(Qad r2_3 l5)
 have r2_4:=(Qaa r2_3 e4)
 have n_2_7:g2≠g7:=(Qad r2_4 l7)
 have n_3_2:g3≠g2:=(Qat r2_1 l3)
 have n_3_4:g3≠g4:=(Qad r3_2 l4)
 have r3_3:=(Qaa r3_2 e3)
 have n_3_5:g3≠g5:=(Qad r3_3 l5)
 have r3_4:=(Qaa r3_3 e4)
 have n_3_7:g3≠g7:=(Qad r3_4 l7)
 have n_4_2:g4≠g2:=(Qat r2_2 l4)
 have n_4_3:g4≠g3:=(Qat r3_2 l4)
 have n_4_5:g4≠g5:=(Qad r4_3 l5)
 have r4_4:=(Qaa r4_3 e4)
 have n_4_7:g4≠g7:=(Qad r4_4 l7)
 have n_5_2:g5≠g2:=(Qat r2_3 l5)
 have n_5_3:g5≠g3:=(Qat r3_3 l5)
 have n_5_4:g5≠g4:=(Qat r4_3 l5)
 have n_5_7:g5≠g7:=(Qad r5_4 l7)
 have n_7_2:g7≠g2:=(Qat r2_4 l7)
 have n_7_3:g7≠g3:=(Qat r3_4 l7)
 have n_7_4:g7≠g4:=(Qat r4_4 l7)
 have n_7_5:g7≠g5:=(Qat r5_4 l7)
 have r2_5:=(Qaa r2_4 e5)
 have r3_5:=(Qaa r3_4 e5)
 have r4_5:=(Qaa r4_4 e5)
 have r5_5:=(Qaa r5_4 e5)
 refine QaI (fun (k:Nat)=>[(8,.int .i64 ((k:Nat):Int)),(3,.pointer (some ⟨g2,0,none⟩)),(4,.pointer (some ⟨g3,0,none⟩)),(5,.pointer (some ⟨g4,0,none⟩)),(6,.pointer (some ⟨g5,0,none⟩)),(7,.slice (some ⟨g7,0,none⟩) 66 66)]) (fun (k:Nat) W=>(k≤32)∧W.heap[g2]? = some (.cells (ints .u8 (za)) 23)∧W.heap[g3]? = some (.cells (ints .u8 (zb)) 23)∧W.heap[g4]? = some (.cells (ints .u8 (zc)) 23)∧W.heap[g5]? = some (.cells (ints .u8 (List.replicate 32 0)) 23)∧W.heap[g7]? = some (.cells (ints .i64 (fill zc 66 k)) 3)∧Ext w W) (fun (k:Nat)=>32-k) 0 ⟨rfl,rfl,rfl,rfl,rfl,rfl,trivial⟩ ⟨(by omega),r2_5,r3_5,r4_5,r5_5,(QaB r7_5 (Qgl zc 66)),x5⟩ fun k X1 V1 hI=>?_
 obtain ⟨hk32,q2_1,q3_1,q4_1,q5_1,q7_1,xx1⟩:=hI
 refine wp_seq_k fun K10 hK10=>?_
 refine wp_seq_k fun K11 hK11=>?_
 refine Qac ?_
 refine Qab (.int .i64 ((k:Nat):Int)) 13 rfl kj kj ?_
 refine Qab (.bool (decide (((k:Nat):Int)<32))) 14 rfl kj kj ?_
 refine Qaf ?_
 refine hK11 _ _ ?_
 refine Qa5 (t:=decide (((k:Nat):Int)<32)) kj (fun c12=>?_) (fun c12=>?_)
 ·skip
  have hk:k<32:=by have:=of_decide_eq_true c12; omega
  refine wp_skip ?_
  refine hK10 _ _ ?_
  refine wp_seq_k fun K13 hK13=>?_
  refine wp_block ?_
  refine Qac ?_
  refine Qab (.slice (some ⟨g7,0,none⟩) 66 66) 17 rfl kj kj ?_
  refine Qab (.int .i64 ((k:Nat):Int)) 18 rfl kj kj ?_
  refine Qab (.int .i64 ((k:Nat):Int)) 19 rfl kj kj ?_
  refine Qab (.pointer (some ⟨g4,k,none⟩)) 20 rfl kj (QaD _ _ _ .i64 (k) _ 32 5 rfl kj kj kj kj hk) ?_
  refine Qab (.int .u8 (nth (zc) k)) 21 rfl kj (Qam 5 _ g4 k 23 _ (.int .u8 (nth (zc) k)) _ q4_1 rfl kj (Qas _ _ _ (Nat.lt_of_lt_of_eq hk hc.symm)) kj) ?_
  refine Qab (.int .i64 (nth zc k)) 22 rfl kj (Qan (u:=.int .i64 (IntKind.i64.wrap (nth (zc) k))) kj (congrArg (Value.int .i64) (Qjh (hcb.nth k)))) ?_
  refine Qab (.pointer (some ⟨g7,k,none⟩)) 23 rfl kj (QaG 100 _ _ .i64 (k) g7 66 66 3 rfl kj kj kj kj (by omega)) ?_
  refine Qak g7 _ (ints .i64 ((fill zc 66 k).set k (nth zc k))) 3 q7_1 rfl kj (Qa1 3 _ _ g7 k 3 _ _ q7_1 rfl kj kj kj (Nat.lt_of_lt_of_eq (by omega) (fill_len _ _ _).symm)) fun W7 p7 r7_7=>?_
  have x7:Ext w W7:=Puts.ext p7 xx1 b7
  refine Qaf ?_
  refine hK13 _ _ ?_
  refine Qac ?_
  refine Qab (.int .i64 ((k:Nat):Int)) 15 rfl kj kj ?_
  refine Qab (.int .i64 (((k+1:Nat):Int))) 16 rfl kj (Qan (u:=.int .i64 (IntKind.i64.wrap (((k:Nat):Int)+1))) kj (congrArg (Value.int .i64) (Qcg k (by omega)))) ?_
  refine Qab (.int .i64 (((k+1:Nat):Int))) 8 rfl kj kj ?_
  refine Qaf ?_
  have r2_7:=(Puts.row p7 q2_1 n_2_7)
  have r3_7:=(Puts.row p7 q3_1 n_3_7)
  have r4_7:=(Puts.row p7 q4_1 n_4_7)
  have r5_7:=(Puts.row p7 q5_1 n_5_7)
  repeat (first | with_reducible refine goX1 ?_ | with_reducible refine goX2 ?_ | with_reducible refine goX3 ?_)
  exact QaA (k+1) ⟨rfl,rfl,rfl,rfl,rfl,rfl,trivial⟩ ⟨(by omega),r2_7,r3_7,r4_7,r5_7,(QaB r7_7 (mix_set 66 (nth zc) (fun _=>0) k (by omega))),x7⟩ (by omega)
 ·skip
  have hk:k=32:=by have:=of_decide_eq_false c12; omega
  subst hk
  refine wp_exit ?_
  refine hK8 _ _ ?_
  refine wp_seq_k fun K14 hK14=>?_
  refine wp_seq_k fun K15 hK15=>?_
  refine Qac ?_
  refine Qab (.int .i64 0) 9 rfl kj kj ?_
  refine Qaf ?_
  refine hK15 _ _ ?_
  refine wp_block ?_
  refine QaI (fun (s:Nat×List Int)=>[(9,.int .i64 ((s.1:Nat):Int)),(3,.pointer (some ⟨g2,0,none⟩)),(4,.pointer (some ⟨g3,0,none⟩)),(5,.pointer (some ⟨g4,0,none⟩)),(6,.pointer (some ⟨g5,0,none⟩)),(7,.slice (some ⟨g7,0,none⟩) 66 66)]) (fun (s:Nat×List Int) W=>(s.1≤32)∧(s.2.length=66)∧(Rows za zb zc s.1 s.2)∧W.heap[g2]? = some (.cells (ints .u8 (za)) 23)∧W.heap[g3]? = some (.cells (ints .u8 (zb)) 23)∧W.heap[g4]? = some (.cells (ints .u8 (zc)) 23)∧W.heap[g5]? = some (.cells (ints .u8 (List.replicate 32 0)) 23)∧W.heap[g7]? = some (.cells (ints .i64 (s.2)) 3)∧Ext w W) (fun (s:Nat×List Int)=>32-s.1) (0,fill zc 66 32) ⟨rfl,rfl,rfl,rfl,rfl,rfl,trivial⟩ ⟨(Nat.zero_le _),(fill_len _ _ _),(QjF za zb zc hcb),q2_1,q3_1,q4_1,q5_1,q7_1,xx1⟩ fun s X2 V2 hI=>?_
  obtain ⟨hi32,hls,hs,q2_2,q3_2,q4_2,q5_2,q7_2,xx2⟩:=hI
  refine wp_seq_k fun K16 hK16=>?_
  refine wp_seq_k fun K17 hK17=>?_
  refine Qac ?_
  refine Qab (.int .i64 ((s.1:Nat):Int)) 24 rfl kj kj ?_
  refine Qab (.bool (decide (((s.1:Nat):Int)<32))) 25 rfl kj kj ?_
  refine Qaf ?_
  refine hK17 _ _ ?_
  refine Qa5 (t:=decide (((s.1:Nat):Int)<32)) kj (fun c18=>?_) (fun c18=>?_)
  ·skip
   have hi:s.1<32:=by have:=of_decide_eq_true c18; omega
   refine wp_skip ?_
   refine hK16 _ _ ?_
   refine wp_seq_k fun K19 hK19=>?_
   refine wp_block ?_
   refine wp_seq_k fun K20 hK20=>?_
   refine Qac ?_
   refine Qab (.int .i64 0) 10 rfl kj kj ?_
   refine Qaf ?_
   refine hK20 _ _ ?_
   refine wp_block ?_
   refine QaI (fun (t:Nat×List Int)=>[(10,.int .i64 ((t.1:Nat):Int)),(9,.int .i64 ((s.1:Nat):Int)),(3,.pointer (some ⟨g2,0,none⟩)),(4,.pointer (some ⟨g3,0,none⟩)),(5,.pointer (some ⟨g4,0,none⟩)),(6,.pointer (some ⟨g5,0,none⟩)),(7,.slice (some ⟨g7,0,none⟩) 66 66)]) (fun (t:Nat×List Int) W=>(t.1≤32)∧(t.2.length=66)∧(RowJ za zb zc s.1 t.1 t.2)∧W.heap[g2]? = some (.cells (ints .u8 (za)) 23)∧W.heap[g3]? = some (.cells (ints .u8 (zb)) 23)∧W.heap[g4]? = some (.cells (ints .u8 (zc)) 23)∧W.heap[g5]? = some (.cells (ints .u8 (List.replicate 32 0)) 23)∧W.heap[g7]? = some (.cells (ints .i64 (t.2)) 3)∧Ext w W) (fun (t:Nat×List Int)=>32-t.1) (0,s.2) ⟨rfl,rfl,rfl,rfl,rfl,rfl,rfl,trivial⟩ ⟨(Nat.zero_le _),hls,(QjG hs),q2_2,q3_2,q4_2,q5_2,q7_2,xx2⟩ fun t X3 V3 hI=>?_
   obtain ⟨hj32,hlt,ht,q2_3,q3_3,q4_3,q5_3,q7_3,xx3⟩:=hI
   refine wp_seq_k fun K21 hK21=>?_
   refine wp_seq_k fun K22 hK22=>?_
   refine Qac ?_
   refine Qab (.int .i64 ((t.1:Nat):Int)) 28 rfl kj kj ?_
   refine Qab (.bool (decide (((t.1:Nat):Int)<32))) 29 rfl kj kj ?_
   refine Qaf ?_
   refine hK22 _ _ ?_
   refine Qa5 (t:=decide (((t.1:Nat):Int)<32)) kj (fun c23=>?_) (fun c23=>?_)
   ·skip
    have hj:t.1<32:=by have:=of_decide_eq_true c23; omega
    have hpr:=Qge (hab.nth s.1) (hbb.nth t.1)
    have hq:=ht.2 (s.1+t.1)
    refine wp_skip ?_
    refine hK21 _ _ ?_
    refine wp_seq_k fun K24 hK24=>?_
    refine wp_block ?_
    refine QaK 21 [⟨none,[(7,none)]⟩,⟨none,[(9,none)]⟩,⟨none,[(10,none)]⟩,⟨none,[(33,some 1),(34,some 2)]⟩,⟨none,[(7,none)]⟩,⟨none,[(9,none)]⟩,⟨none,[(10,none)]⟩,⟨none,[(37,some 5),(38,some 6)]⟩,⟨none,[(36,some 4),(39,some 7)]⟩,⟨none,[(40,some 8)]⟩,⟨none,[(9,none)]⟩,⟨none,[(3,none),(42,some 10)]⟩,⟨none,[(43,some 11)]⟩,⟨none,[(44,some 12)]⟩,⟨none,[(10,none)]⟩,⟨none,[(4,none),(46,some 14)]⟩,⟨none,[(47,some 15)]⟩,⟨none,[(48,some 16)]⟩,⟨none,[(45,some 13),(49,some 17)]⟩,⟨none,[(41,some 9),(50,some 18)]⟩,⟨none,[(32,some 0),(35,some 3)]⟩] kj kj fun F hF=>?_
    refine Qav (.slice (some ⟨g7,0,none⟩) 66 66) kj kj (fun W=>kj) ?_
    refine Qav (.int .i64 ((s.1:Nat):Int)) kj kj (fun W=>kj) ?_
    refine Qav (.int .i64 ((t.1:Nat):Int)) kj kj (fun W=>kj) ?_
    refine Qav (.int .i64 (((s.1+t.1:Nat):Int))) kj kj (fun W=>(Qan (u:=.int .i64 (IntKind.i64.wrap (((s.1:Nat):Int)+((t.1:Nat):Int)))) kj (congrArg (Value.int .i64) (Qjj _ _ (by omega))))) ?_
    refine Qav (.slice (some ⟨g7,0,none⟩) 66 66) kj kj (fun W=>kj) ?_
    refine Qav (.int .i64 ((s.1:Nat):Int)) kj kj (fun W=>kj) ?_
    refine Qav (.int .i64 ((t.1:Nat):Int)) kj kj (fun W=>kj) ?_
    refine Qav (.int .i64 (((s.1+t.1:Nat):Int))) kj kj (fun W=>(Qan (u:=.int .i64 (IntKind.i64.wrap (((s.1:Nat):Int)+((t.1:Nat):Int)))) kj (congrArg (Value.int .i64) (Qjj _ _ (by omega))))) ?_
    refine Qav (.pointer (some ⟨g7,(s.1+t.1),none⟩)) kj kj (fun W=>(QaG 100 _ _ .i64 (s.1+t.1) g7 66 66 3 rfl kj kj kj kj (by omega))) ?_
    refine Qaq (.int .i64 (nth (t.2) (s.1+t.1))) kj kj (fun W hR=>(Qam 3 _ g7 (s.1+t.1) 3 _ (.int .i64 (nth (t.2) (s.1+t.1))) _ (Qaa (Qaa q7_3 (Qai _)) hR) rfl kj (Qas _ _ _ (Nat.lt_of_lt_of_eq (by omega) hlt.symm)) kj)) ?_
    refine Qav (.int .i64 ((s.1:Nat):Int)) kj kj (fun W=>kj) ?_
    refine Qav (.pointer (some ⟨g2,s.1,none⟩)) kj kj (fun W=>(QaD _ _ _ .i64 (s.1) _ 32 5 rfl kj kj kj kj hi)) ?_
    refine Qaq (.int .u8 (nth (za) s.1)) kj kj (fun W hR=>(Qam 5 _ g2 s.1 23 _ (.int .u8 (nth (za) s.1)) _ (Qaa (Qaa q2_3 (Qai _)) hR) rfl kj (Qas _ _ _ (Nat.lt_of_lt_of_eq hi ha.symm)) kj)) ?_
    refine Qav (.int .i64 (nth za s.1)) kj kj (fun W=>(Qan (u:=.int .i64 (IntKind.i64.wrap (nth (za) s.1))) kj (congrArg (Value.int .i64) (Qjh (hab.nth s.1))))) ?_
    refine Qav (.int .i64 ((t.1:Nat):Int)) kj kj (fun W=>kj) ?_
    refine Qav (.pointer (some ⟨g3,t.1,none⟩)) kj kj (fun W=>(QaD _ _ _ .i64 (t.1) _ 32 5 rfl kj kj kj kj hj)) ?_
    refine Qaq (.int .u8 (nth (zb) t.1)) kj kj (fun W hR=>(Qam 5 _ g3 t.1 23 _ (.int .u8 (nth (zb) t.1)) _ (Qaa (Qaa q3_3 (Qai _)) hR) rfl kj (Qas _ _ _ (Nat.lt_of_lt_of_eq hj hb.symm)) kj)) ?_
    refine Qav (.int .i64 (nth zb t.1)) kj kj (fun W=>(Qan (u:=.int .i64 (IntKind.i64.wrap (nth (zb) t.1))) kj (congrArg (Value.int .i64) (Qjh (hbb.nth t.1))))) ?_
    refine Qav (.int .i64 (nth za s.1*nth zb t.1)) kj kj (fun W=>(Qan (u:=.int .i64 (IntKind.i64.wrap ((nth za s.1)*(nth zb t.1)))) kj (congrArg (Value.int .i64) (i64_mid _ (by omega))))) ?_
    refine Qav (.int .i64 (nth t.2 (s.1+t.1)+nth za s.1*nth zb t.1)) kj kj (fun W=>(Qan (u:=.int .i64 (IntKind.i64.wrap ((nth (t.2) (s.1+t.1))+(nth za s.1*nth zb t.1)))) kj (congrArg (Value.int .i64) (i64_mid _ (by have:=hq.2.1; omega))))) ?_
    refine Qav (.pointer (some ⟨g7,(s.1+t.1),none⟩)) kj kj (fun W=>(QaG 100 _ _ .i64 (s.1+t.1) g7 66 66 3 rfl kj kj kj kj (by omega))) ?_
    refine Qa9 (hF _ kj fun W9 e9=>?_)
    simp only [ups,up,Kn.val,List.take_succ_cons,List.take_zero,List.drop_succ_cons,List.drop_zero,List.nil_append,List.cons_append]
    clear hF
    have x9:Ext w W9:=Ext.tr xx3 e9
    have r7_9:=(Qaa q7_3 e9)
    refine Qak g7 _ (ints .i64 ((t.2).set (s.1+t.1) (nth t.2 (s.1+t.1)+nth za s.1*nth zb t.1))) 3 r7_9 rfl kj (Qa1 3 _ _ g7 (s.1+t.1) 3 _ _ r7_9 rfl kj kj kj (Nat.lt_of_lt_of_eq (by omega) hlt.symm)) fun W10 p10 r7_10=>?_
    have x10:Ext w W10:=Puts.ext p10 x9 b7
    refine Qaf ?_
    refine hK24 _ _ ?_
    refine Qac ?_
    refine Qab (.int .i64 ((t.1:Nat):Int)) 30 rfl kj kj ?_
    refine Qab (.int .i64 (((t.1+1:Nat):Int))) 31 rfl kj (Qan (u:=.int .i64 (IntKind.i64.wrap (((t.1:Nat):Int)+1))) kj (congrArg (Value.int .i64) (Qcg t.1 (by omega)))) ?_
    refine Qab (.int .i64 (((t.1+1:Nat):Int))) 10 rfl kj kj ?_
    refine Qaf ?_
    have r2_10:=(Puts.row p10 (Qaa q2_3 e9) n_2_7)
    have r3_10:=(Puts.row p10 (Qaa q3_3 e9) n_3_7)
    have r4_10:=(Puts.row p10 (Qaa q4_3 e9) n_4_7)
    have r5_10:=(Puts.row p10 (Qaa q5_3 e9) n_5_7)
    repeat (first | with_reducible refine goX1 ?_ | with_reducible refine goX2 ?_ | with_reducible refine goX3 ?_)
    exact QaA (t.1+1,(t.2).set (s.1+t.1) (nth t.2 (s.1+t.1)+nth za s.1*nth zb t.1)) ⟨rfl,rfl,rfl,rfl,rfl,rfl,rfl,trivial⟩ ⟨(by show t.1+1≤32; omega),((List.length_set ..).trans hlt),(Qky hab hbb hlt hi hj ht),r2_10,r3_10,r4_10,r5_10,r7_10,x10⟩ (by show 32-(t.1+1)<32-t.1; omega)
   ·skip
    have hj:t.1=32:=by have:=of_decide_eq_false c23; omega
    refine wp_exit ?_
    refine hK19 _ _ ?_
    refine Qac ?_
    refine Qab (.int .i64 ((s.1:Nat):Int)) 26 rfl kj kj ?_
    refine Qab (.int .i64 (((s.1+1:Nat):Int))) 27 rfl kj (Qan (u:=.int .i64 (IntKind.i64.wrap (((s.1:Nat):Int)+1))) kj (congrArg (Value.int .i64) (Qcg s.1 (by omega)))) ?_
    refine Qab (.int .i64 (((s.1+1:Nat):Int))) 9 rfl kj kj ?_
    refine Qaf ?_
    repeat (first | with_reducible refine goX1 ?_ | with_reducible refine goX2 ?_ | with_reducible refine goX3 ?_)
    exact QaA (s.1+1,t.2) ⟨rfl,rfl,rfl,rfl,rfl,rfl,trivial⟩ ⟨(by show s.1+1≤32; omega),hlt,(by have ht:=ht; rw [hj] at ht; exact Qkx ht),q2_3,q3_3,q4_3,q5_3,q7_3,xx3⟩ (by show 32-(s.1+1)<32-s.1; omega)
  ·skip
   have hi:s.1=32:=by have:=of_decide_eq_false c18; omega
   rw [hi] at hs
   refine wp_exit ?_
   refine hK14 _ _ ?_
   refine wp_seq_k fun K25 hK25=>?_
   refine wp_seq_k fun K26 hK26=>?_
   refine Qac ?_
   refine Qab (.int .i64 0) 11 rfl kj kj ?_
   refine Qaf ?_
   refine hK26 _ _ ?_
   refine wp_block ?_
   refine QaI (fun (u:Nat×List Int)=>[(11,.int .i64 ((u.1:Nat):Int)),(3,.pointer (some ⟨g2,0,none⟩)),(4,.pointer (some ⟨g3,0,none⟩)),(5,.pointer (some ⟨g4,0,none⟩)),(6,.pointer (some ⟨g5,0,none⟩)),(7,.slice (some ⟨g7,0,none⟩) 66 66)]) (fun (u:Nat×List Int) W=>(u.1≤65)∧(u.2.length=66)∧(CarT (leAt zc 0 32+leAt za 0 32*leAt zb 0 32) u.1 u.2)∧W.heap[g2]? = some (.cells (ints .u8 (za)) 23)∧W.heap[g3]? = some (.cells (ints .u8 (zb)) 23)∧W.heap[g4]? = some (.cells (ints .u8 (zc)) 23)∧W.heap[g5]? = some (.cells (ints .u8 (List.replicate 32 0)) 23)∧W.heap[g7]? = some (.cells (ints .i64 (u.2)) 3)∧Ext w W) (fun (u:Nat×List Int)=>65-u.1) (0,s.2) ⟨rfl,rfl,rfl,rfl,rfl,rfl,trivial⟩ ⟨(Nat.zero_le _),hls,(Ql3 hs),q2_2,q3_2,q4_2,q5_2,q7_2,xx2⟩ fun u X4 V4 hI=>?_
   obtain ⟨hu65,hlu,hu,q2_4,q3_4,q4_4,q5_4,q7_4,xx4⟩:=hI
   refine wp_seq_k fun K27 hK27=>?_
   refine wp_seq_k fun K28 hK28=>?_
   refine Qac ?_
   refine Qab (.int .i64 ((u.1:Nat):Int)) 53 rfl kj kj ?_
   refine Qab (.bool (decide (((u.1:Nat):Int)<65))) 54 rfl kj kj ?_
   refine Qaf ?_
   refine hK28 _ _ ?_
   refine Qa5 (t:=decide (((u.1:Nat):Int)<65)) kj (fun c29=>?_) (fun c29=>?_)
   ·skip
    have hk:u.1<65:=by have:=of_decide_eq_true c29; omega
    have h0:=hu.2 u.1
    have h1:=hu.2 (u.1+1)
    have h0b:=h0.2.2.1 rfl
    have h1b:=h1.2.2.2 (by omega)
    refine wp_skip ?_
    refine hK27 _ _ ?_
    refine wp_seq_k fun K30 hK30=>?_
    refine wp_block ?_
    refine wp_seq_k fun K31 hK31=>?_
    refine QaK 15 [⟨none,[(7,none)]⟩,⟨none,[(11,none)]⟩,⟨none,[(58,some 1)]⟩,⟨none,[(7,none)]⟩,⟨none,[(11,none)]⟩,⟨none,[(61,some 4)]⟩,⟨none,[(60,some 3),(62,some 5)]⟩,⟨none,[(63,some 6)]⟩,⟨none,[(7,none)]⟩,⟨none,[(11,none)]⟩,⟨none,[(65,some 8),(66,some 9)]⟩,⟨none,[(67,some 10)]⟩,⟨none,[(68,some 11)]⟩,⟨none,[(64,some 7),(69,some 12)]⟩,⟨none,[(57,some 0),(59,some 2)]⟩] kj kj fun F hF=>?_
    refine Qav (.slice (some ⟨g7,0,none⟩) 66 66) kj kj (fun W=>kj) ?_
    refine Qav (.int .i64 ((u.1:Nat):Int)) kj kj (fun W=>kj) ?_
    refine Qav (.int .i64 (((u.1+1:Nat):Int))) kj kj (fun W=>(Qan (u:=.int .i64 (IntKind.i64.wrap (((u.1:Nat):Int)+1))) kj (congrArg (Value.int .i64) (Qcg u.1 (by omega))))) ?_
    refine Qav (.slice (some ⟨g7,0,none⟩) 66 66) kj kj (fun W=>kj) ?_
    refine Qav (.int .i64 ((u.1:Nat):Int)) kj kj (fun W=>kj) ?_
    refine Qav (.int .i64 (((u.1+1:Nat):Int))) kj kj (fun W=>(Qan (u:=.int .i64 (IntKind.i64.wrap (((u.1:Nat):Int)+1))) kj (congrArg (Value.int .i64) (Qcg u.1 (by omega))))) ?_
    refine Qav (.pointer (some ⟨g7,(u.1+1),none⟩)) kj kj (fun W=>(QaG 100 _ _ .i64 (u.1+1) g7 66 66 3 rfl kj kj kj kj (by omega))) ?_
    refine Qaq (.int .i64 (nth (u.2) (u.1+1))) kj kj (fun W hR=>(Qam 3 _ g7 (u.1+1) 3 _ (.int .i64 (nth (u.2) (u.1+1))) _ (Qaa (Qaa q7_4 (Qai _)) hR) rfl kj (Qas _ _ _ (Nat.lt_of_lt_of_eq (by omega) hlu.symm)) kj)) ?_
    refine Qav (.slice (some ⟨g7,0,none⟩) 66 66) kj kj (fun W=>kj) ?_
    refine Qav (.int .i64 ((u.1:Nat):Int)) kj kj (fun W=>kj) ?_
    refine Qav (.pointer (some ⟨g7,u.1,none⟩)) kj kj (fun W=>(QaG 100 _ _ .i64 (u.1) g7 66 66 3 rfl kj kj kj kj (by omega))) ?_
    refine Qaq (.int .i64 (nth (u.2) u.1)) kj kj (fun W hR=>(Qam 3 _ g7 u.1 3 _ (.int .i64 (nth (u.2) u.1)) _ (Qaa (Qaa q7_4 (Qai _)) hR) rfl kj (Qas _ _ _ (Nat.lt_of_lt_of_eq (by omega) hlu.symm)) kj)) ?_
    refine Qav (.int .i64 (nth u.2 u.1/256)) kj kj (fun W=>(Qan (u:=.int .i64 (IntKind.i64.wrap (Int.tdiv ((nth (u.2) u.1)) (256)))) kj (congrArg (Value.int .i64) (QpY _ (by omega))))) ?_
    refine Qav (.int .i64 (nth u.2 (u.1+1)+nth u.2 u.1/256)) kj kj (fun W=>(Qan (u:=.int .i64 (IntKind.i64.wrap ((nth (u.2) (u.1+1))+(nth u.2 u.1/256)))) kj (congrArg (Value.int .i64) (i64_mid _ (by omega))))) ?_
    refine Qav (.pointer (some ⟨g7,(u.1+1),none⟩)) kj kj (fun W=>(QaG 100 _ _ .i64 (u.1+1) g7 66 66 3 rfl kj kj kj kj (by omega))) ?_
    refine Qa9 (hF _ kj fun W9 e9=>?_)
    simp only [ups,up,Kn.val,List.take_succ_cons,List.take_zero,List.drop_succ_cons,List.drop_zero,List.nil_append,List.cons_append]
    clear hF
    have x9:Ext w W9:=Ext.tr xx4 e9
    have r7_9:=(Qaa q7_4 e9)
    refine Qak g7 _ (ints .i64 ((u.2).set (u.1+1) (nth u.2 (u.1+1)+nth u.2 u.1/256))) 3 r7_9 rfl kj (Qa1 3 _ _ g7 (u.1+1) 3 _ _ r7_9 rfl kj kj kj (Nat.lt_of_lt_of_eq (by omega) hlu.symm)) fun W10 p10 r7_10=>?_
    have x10:Ext w W10:=Puts.ext p10 x9 b7
    refine Qaf ?_
    refine hK31 _ _ ?_
    refine Qac ?_
    refine Qab (.slice (some ⟨g7,0,none⟩) 66 66) 72 rfl kj kj ?_
    refine Qab (.int .i64 ((u.1:Nat):Int)) 73 rfl kj kj ?_
    refine Qab (.slice (some ⟨g7,0,none⟩) 66 66) 74 rfl kj kj ?_
    refine Qab (.int .i64 ((u.1:Nat):Int)) 75 rfl kj kj ?_
    refine Qab (.pointer (some ⟨g7,u.1,none⟩)) 76 rfl kj (QaG 100 _ _ .i64 (u.1) g7 66 66 3 rfl kj kj kj kj (by omega)) ?_
    refine Qab (.int .i64 (nth u.2 u.1)) 77 rfl kj (Qam 3 _ g7 u.1 3 _ (.int .i64 (nth u.2 u.1)) _ r7_10 rfl kj ((Qas _ _ _ (Nat.lt_of_lt_of_eq (by omega) ((List.length_set ..).trans hlu).symm)).trans (congrArg (fun z=>some (Value.int .i64 z)) (nth_set_ne _ _ _ _ (by omega)))) kj) ?_
    refine Qab (.int .i64 (nth u.2 u.1%256)) 78 rfl kj (Qan (u:=.int .i64 (Int.tmod ((nth u.2 u.1)) (256))) kj (congrArg (Value.int .i64) (QpW _ h0.1))) ?_
    refine Qab (.pointer (some ⟨g7,u.1,none⟩)) 79 rfl kj (QaG 100 _ _ .i64 (u.1) g7 66 66 3 rfl kj kj kj kj (by omega)) ?_
    refine Qak g7 _ (ints .i64 (((u.2).set (u.1+1) (nth u.2 (u.1+1)+nth u.2 u.1/256)).set u.1 (nth u.2 u.1%256))) 3 r7_10 rfl kj (Qa1 3 _ _ g7 u.1 3 _ _ r7_10 rfl kj kj kj (Nat.lt_of_lt_of_eq (by omega) ((List.length_set ..).trans hlu).symm)) fun W11 p11 r7_11=>?_
    have x11:Ext w W11:=Puts.ext p11 x10 b7
    refine Qaf ?_
    refine hK30 _ _ ?_
    refine Qac ?_
    refine Qab (.int .i64 ((u.1:Nat):Int)) 55 rfl kj kj ?_
    refine Qab (.int .i64 (((u.1+1:Nat):Int))) 56 rfl kj (Qan (u:=.int .i64 (IntKind.i64.wrap (((u.1:Nat):Int)+1))) kj (congrArg (Value.int .i64) (Qcg u.1 (by omega)))) ?_
    refine Qab (.int .i64 (((u.1+1:Nat):Int))) 11 rfl kj kj ?_
    refine Qaf ?_
    have r2_11:=(Puts.row p11 (Puts.row p10 (Qaa q2_4 e9) n_2_7) n_2_7)
    have r3_11:=(Puts.row p11 (Puts.row p10 (Qaa q3_4 e9) n_3_7) n_3_7)
    have r4_11:=(Puts.row p11 (Puts.row p10 (Qaa q4_4 e9) n_4_7) n_4_7)
    have r5_11:=(Puts.row p11 (Puts.row p10 (Qaa q5_4 e9) n_5_7) n_5_7)
    repeat (first | with_reducible refine goX1 ?_ | with_reducible refine goX2 ?_ | with_reducible refine goX3 ?_)
    exact QaA (u.1+1,((u.2).set (u.1+1) (nth u.2 (u.1+1)+nth u.2 u.1/256)).set u.1 (nth u.2 u.1%256)) ⟨rfl,rfl,rfl,rfl,rfl,rfl,trivial⟩ ⟨(by show u.1+1≤65; omega),((List.length_set ..).trans ((List.length_set ..).trans hlu)),(Qnk hlu hk hu),r2_11,r3_11,r4_11,r5_11,r7_11,x11⟩ (by show 65-(u.1+1)<65-u.1; omega)
   ·skip
    have hk:u.1=65:=by have:=of_decide_eq_false c29; omega
    rw [hk] at hu
    refine wp_exit ?_
    refine hK25 _ _ ?_
    refine wp_seq_k fun K32 hK32=>?_
    refine Qac ?_
    refine Qab (.slice (some ⟨g7,0,none⟩) 66 66) 80 rfl kj kj ?_
    refine Qar (.agg (ints .u8 (Qao (leAt u.2 0 66%ordL)))) 65 #[.slice (some ⟨g7,0,none⟩) 66 66] 81 rfl kj kj (Qk4 _ 66 u.2 hlu (by omega) (Qpw hab hbb hcb hlu hu) _ q7_4) fun W9 e9=>?_
    have x9:Ext w W9:=Ext.tr xx4 e9
    have r5_9:=(Qaa q5_4 e9)
    refine Qak g5 _ (ints .u8 (Qao (leAt u.2 0 66%ordL))) 23 r5_9 rfl kj (Qah 23 _ _ g5 23 _ _ r5_9 rfl kj kj (isz (n:=32) kj ((Qae _ _).trans (bytes_len _))) (eqsz (n:=32) ((Qae _ _).trans zlen) ((Qae _ _).trans (bytes_len _))) (ints_one _ _)) fun W10 p10 r5_10=>?_
    have x10:Ext w W10:=Puts.ext p10 x9 b5
    refine Qaf ?_
    refine hK32 _ _ ?_
    refine wp_ret ?_
    exact (show bodyPost _ _ _ .ret _ _ from ret1 (.agg (ints .u8 (Qao (leAt u.2 0 66%ordL)))) rfl (QaC g5 23 _ r5_10 kj kj (isz (n:=32) kj ((Qae _ _).trans (bytes_len _)))) ⟨by rw [hu.1,QoQ za zb zc hab hb hbb hc hcb],x10⟩)
end Go.Proofs.YtdoadngmgmdlbaaDoor.Field
end
section
namespace Go.Proofs.YtdoadngmgmdlbaaDoor.Sgn
open Go Go.RowKit
open Rely Auto Own Sha5
open Ladder (clamp)
open Field (Qao resN numA num lims QbW ordL Qb0 QbH QbG QaQ encP Qbe pa Qdh pAdd pNeg mulP QcK okK xK zK mulR BP Qcb numB nmul OnP QcH)
@[irreducible] def secV (xs : List Int) : List Int := clamp ((dig xs).take 32)
@[irreducible] def preV (xs : List Int) : List Int := (dig xs).drop 32
@[irreducible] def pubV (xs : List Int) : List Int := encP (pa (secV xs))
@[irreducible] def resV (t : List Int) : List Int := Qao (resN (dig t))
@[irreducible] def sgR (xs t : List Int) : List Int := resV (preV xs ++ t)
@[irreducible] def sgF (xs t : List Int) : List Int := encP (pa (sgR xs t))
@[irreducible] def sgK (xs t : List Int) : List Int := resV (sgF xs t ++ pubV xs ++ t)
@[irreducible] def sgS (xs t : List Int) : List Int := Qao (mulR (sgK xs t) (secV xs) (sgR xs t))
@[irreducible] def sigV (xs t : List Int) : List Int := sgF xs t ++ sgS xs t
@[irreducible] def eqV (p f s k : List Int) : List Int := encP (pAdd (pa s) (pNeg (mulP p k)))
def canV (s : List Int):Bool:=decide (Qao (resN s)=s)
@[irreducible] def verV (p s t : List Int) : Bool := canV (s.drop 32) && (okK p && decide (eqV p (s.take 32) (s.drop 32) (resV (s.take 32 ++ p ++ t)) = s.take 32))
theorem Qi8 {xs : List Int} (h:Qal xs):Qal (clamp xs):=by
  have a0:=h.nth 0
  have a31:=h.nth 31
  intro x hx
  unfold clamp at hx
  rcases List.mem_or_eq_of_mem_set hx with hx | hx
  · rcases List.mem_or_eq_of_mem_set hx with hx | hx
    · exact h x hx
    · omega
  · omega
theorem QbC (xs : List Int):(secV xs).length=32:=by unfold secV; exact QeF (Qbt (dig_len xs))
theorem Qc8 (xs : List Int):Qal (secV xs):=by unfold secV; exact Qi8 (Qfj (dig_bytes xs))
theorem Qb8 (xs : List Int):(preV xs).length=32:=by unfold preV; exact Qby (dig_len xs)
theorem QeD {xs : List Int} (h:Qal xs) (n:Nat):Qal (xs.drop n):=fun x hx=>h x (List.mem_of_mem_drop hx)
theorem Qgf (xs : List Int):Qal (preV xs):=by unfold preV; exact QeD (dig_bytes xs) 32
theorem Qgn {P : Int×Int} (h:OnP P):Qal (encP P):=Field.enc_bytes h.y
theorem Qbn (xs : List Int):(pubV xs).length=32:=by unfold pubV; exact Qbe _
theorem Qdn (xs : List Int):Qal (pubV xs):=by unfold pubV; exact Qgn (Qdh _)
theorem QbV (t : List Int):(resV t).length=32:=by unfold resV; exact bytesOf_len _
theorem QdO (t : List Int):Qal (resV t):=by unfold resV; exact QaQ _
theorem QbT (xs t:List Int):(sgR xs t).length=32:=by unfold sgR; exact QbV _
theorem Qdi (xs t:List Int):Qal (sgR xs t):=by unfold sgR; exact QdO _
theorem Qbf (xs t:List Int):(sgF xs t).length=32:=by unfold sgF; exact Qbe _
theorem Qev (xs t:List Int):Qal (sgF xs t):=by unfold sgF; exact Qgn (Qdh _)
theorem Qg3 (xs t:List Int):(sgK xs t).length=32:=by unfold sgK; exact QbV _
theorem Qeu (xs t:List Int):Qal (sgK xs t):=by unfold sgK; exact QdO _
theorem Qdq (xs t:List Int):(sgS xs t).length=32:=by unfold sgS; exact bytesOf_len _
theorem Qkr (xs t:List Int):Qal (sgS xs t):=by unfold sgS; exact QaQ _
theorem QbB (xs t:List Int):(sigV xs t).length=64:=by unfold sigV; rw [List.length_append,Qbf,Qdq]
theorem Qgd (xs t:List Int):Qal (sigV xs t):=by
  unfold sigV
  intro x hx
  rcases List.mem_append.1 hx with h | h
  · exact Qev xs t x h
  · exact Qkr xs t x h
theorem Qhh (xs t:List Int):(sigV xs t).take 32=sgF xs t:=by unfold sigV; exact List.take_left' (Qbf xs t)
theorem Qhi (xs t:List Int):(sigV xs t).drop 32=sgS xs t:=by unfold sigV; exact List.drop_left' (Qbf xs t)
theorem QgQ (a b c:List Int):Field.isS (mulR a b c):=Field.isS_mod _
theorem Qjw (xs t:List Int):canV (sgS xs t)=true:=by
  unfold canV sgS
  refine decide_eq_true ?_
  have h:=QgQ (sgK xs t) (secV xs) (sgR xs t)
  rw [Field.resN_32 _ (bytesOf_len _) (QaQ _),Field.numB_bytes h,Int.toNat_of_nonneg h.1,Field.isS_self h]
theorem QnA (xs t:List Int):pa (sgS xs t)=pAdd (nmul (numB (sgK xs t)*numB (secV xs)) BP) (pa (sgR xs t)):=by
  unfold sgS pa
  rw [Field.climb_num Qcb _ (QaQ _),Field.numB_bytes (QgQ _ _ _)]
  unfold mulR
  rw [Field.mulAdd_val _ _ _ (Qeu xs t) (QbC xs) (Qc8 xs) (QbT xs t) (Qdi xs t),Field.climb_num Qcb _ (Qdi xs t),←Field.nmul_add Qcb]
  have e2:((((numB (sgK xs t):Int)*numB (secV xs)+numB (sgR xs t))%ordL)).toNat=(numB (sgK xs t)*numB (secV xs)+numB (sgR xs t))%ordL.toNat:=by
    have hL:((ordL.toNat:Nat):Int)=ordL:=by decide
    rw [←hL,←Int.natCast_mul,←Int.natCast_add,←Int.natCast_emod,Int.toNat_natCast]
    rfl
  rw [e2,Field.nmul_mod Qcb _ Field.order_mul]
theorem QgT (xs : List Int):okK (pubV xs)=true∧(xK (pubV xs),zK (pubV xs))=pa (secV xs):=by
  unfold pubV
  obtain ⟨h1,h2,h3⟩:=Field.from_enc (Qdh (secV xs))
  exact ⟨h1,by rw [h2,h3]⟩
theorem Qjb (xs k:List Int) (hk:Qal k):mulP (pubV xs) k=nmul (numB k*numB (secV xs)) BP:=by
  unfold mulP
  rw [(QgT xs).2,Field.climb_num (Qdh _) _ hk]
  unfold pa
  rw [Field.climb_num Qcb _ (Qc8 xs),←Field.nmul_mul Qcb]
theorem Qnb (xs t:List Int):eqV (pubV xs) (sgF xs t) (sgS xs t) (sgK xs t)=sgF xs t:=by
  unfold eqV
  rw [Qjb xs _ (Qeu xs t),QnA]
  have hA:OnP (nmul (numB (sgK xs t)*numB (secV xs)) BP):=Field.nmul_on Qcb _
  have hR:=Qdh (sgR xs t)
  rw [Field.pAdd_comm (nmul _ BP) (pa _),Field.pAdd_assoc hR hA (Field.pNeg_on hA),Field.pAdd_neg hA,Field.pAdd_zero hR]
  unfold sgF
  rfl
theorem QnV (xs t:List Int):verV (pubV xs) (sigV xs t) t=true:=by
  unfold verV
  rw [Qhh,Qhi,Qjw,(QgT xs).1]
  have e:resV (sgF xs t++pubV xs++t)=sgK xs t:=by unfold sgK; rfl
  rw [e,Qnb,decide_eq_true rfl]
  rfl
theorem QnW (p s t:List Int) (h:canV (s.drop 32)=false):verV p s t=false:=by
  unfold verV
  rw [h]
  rfl
end Go.Proofs.YtdoadngmgmdlbaaDoor.Sgn
end
section
namespace Go.Proofs.YtdoadngmgmdlbaaDoor.Field
open Go Go.RowKit
open Rely Auto
def ordG (fin : Nat→Nat→Nat→Nat→Nat) (E1 E2 E3 E4 e:Nat):Nat→Nat→Nat→Nat→Nat→Nat
  | 0,a,b,c,d=>fin a b c d
  | f+1,a,b,c,d=>ordS E1 E2 E3 E4 (Nat.beq (e/2^f%2) 1) (ordG fin E1 E2 E3 E4 e f) a b c d
theorem QkM (fin : Nat→Nat→Nat→Nat→Nat) (E1 E2 E3 E4 e a b c d:Nat):ordG fin E1 E2 E3 E4 e 0 a b c d=fin a b c d:=by rw [ordG]
theorem QkN (fin : Nat→Nat→Nat→Nat→Nat) (E1 E2 E3 E4 e f a b c d:Nat):ordG fin E1 E2 E3 E4 e (f+1) a b c d=ordS E1 E2 E3 E4 (Nat.beq (e/2^f%2) 1) (ordG fin E1 E2 E3 E4 e f) a b c d:=by rw [ordG]
theorem QkO (fin : Nat→Nat→Nat→Nat→Nat) (E1 E2 E3 E4 e:Nat) (h1:E1<PN) (h2:E2<PN) (h3:E3<PN) (h4:E4<PN) (E:W4) (hE:E=QdW (E1,E2,E3,E4)):∀ (f a b c d:Nat),a<PN→b<PN→c<PN→d<PN →
    ∃ r0 r1 r2 r3:Nat,ordG fin E1 E2 E3 E4 e f a b c d=fin r0 r1 r2 r3∧wrun E (QdW (a,b,c,d)) (Qc2 e f)=QdW (r0,r1,r2,r3):=by
  intro f
  induction f with
  | zero=>intro a b c d _ _ _ _; exact ⟨a,b,c,d,QkM ..,by rw [Qc2,QiD]⟩
  | succ f ih =>
    intro a b c d ha hb hc hd
    obtain ⟨q0,q1,q2,q3,l0,l1,l2,l3,e1,e2⟩:=Qh2 E1 E2 E3 E4 h1 h2 h3 h4 E hE (Nat.beq (e/2^f%2) 1) (ordG fin E1 E2 E3 E4 e f) a b c d ha hb hc hd
    obtain ⟨r0,r1,r2,r3,e3,e4⟩:=ih q0 q1 q2 q3 l0 l1 l2 l3
    exact ⟨r0,r1,r2,r3,(QkN ..).trans (e1.trans e3),by rw [Qc2,Qhf,e2,e4]⟩
theorem Qjy (fin : Nat→Nat→Nat→Nat→Nat) (ks:List Int) (n:Nat) (hbits:bitsB ks=Qc2 n 256) :
    ∃ a b c d:Nat,ordG fin 15112221349535400772501151409588531511454012693041857206046113283949847762202 46316835694926478169428394003475163141307993866256225615783033603165251855960 1 46827403850823179245072216630277197565144205554125654976674165829533817101731 n 256 0 1 1 0=fin a b c d∧Qfh (QdW (a,b,c,d)) (pa ks):=by
  have r:=Qen Qcb (Qgb Qcb) (bitsB ks) pZero_on Qie
  change Qfh _ (climbP BP (bitsB ks)) at r
  rw [Qkk,QiG] at r
  obtain ⟨r0,r1,r2,r3,h1,h2⟩:=QkO fin 15112221349535400772501151409588531511454012693041857206046113283949847762202 46316835694926478169428394003475163141307993866256225615783033603165251855960 1 46827403850823179245072216630277197565144205554125654976674165829533817101731 n (by decide) (by decide) (by decide) (by decide) _ rfl 256 0 1 1 0 (by decide) (by decide) (by decide) (by decide)
  rw [←hbits] at h2
  rw [h2] at r
  exact ⟨r0,r1,r2,r3,h1,r⟩
def atN (x y a b c d:Nat):Nat:=bif Nat.beq a (c*x%PN)&&Nat.beq b (c*y%PN) then 1 else 2
theorem base_at (ks : List Int) (n x y:Nat) (hbits:bitsB ks=Qc2 n 256) (hx:x<PN) (hy:y<PN) (hrun:ordG (atN x y) 15112221349535400772501151409588531511454012693041857206046113283949847762202 46316835694926478169428394003475163141307993866256225615783033603165251855960 1 46827403850823179245072216630277197565144205554125654976674165829533817101731 n 256 0 1 1 0=1):pa ks=((x:Int),(y:Int)):=by
  obtain ⟨a,b,c,d,h1,r⟩:=Qjy (atN x y) ks n hbits
  have on:=Qdh ks
  rw [hrun] at h1
  generalize pa ks=P at r on
  have hq:a=c*x%PN∧b=c*y%PN:=by
    unfold atN at h1
    cases ha:Nat.beq a (c*x%PN) with
    | false=>rw [ha] at h1; simp at h1
    | true =>
      cases hb:Nat.beq b (c*y%PN) with
      | false=>rw [ha,hb] at h1; simp at h1
      | true=>exact ⟨Nat.eq_of_beq_eq_true ha,Nat.eq_of_beq_eq_true hb⟩
  have n:=r.n
  change isN (c:Int) at n
  have hz:(c:Int)%p≠0:=by rw [QaZ n]; exact r.z
  have go:∀ (u:Int) (v t:Nat),isN u→v<PN→(t:Int)=(c:Int)*u%p→t=c*v%PN→u=(v:Int):=fun u v t hu hv e1 e2=>by
    have e3:((c*v%PN:Nat):Int)=(c:Int)*v%p:=QkV c v
    rw [e2,e3] at e1
    have e4:((c:Int)*(u-v))%p=0:=by
      rw [show (c:Int)*(u-v)=c*u-c*v by grind,Int.sub_emod,e1]
      simp
    have e5:=Qgw ((Qgx e4).resolve_left hz)
    have hvN:isN (v:Int):=⟨Int.natCast_nonneg v,by rw [←QgG]; exact Int.ofNat_lt.2 hv⟩
    rwa [QaZ hu,QaZ hvN] at e5
  exact Prod.ext (go P.1 x a on.x hx r.hx hq.1) (go P.2 y b on.y hy r.hy hq.2)
def neN (a b c d:Nat):Nat:=bif Nat.beq a 0&&Nat.beq b c then 1 else 2
theorem base_ne (ks : List Int) (n:Nat) (hbits:bitsB ks=Qc2 n 256) (hrun:ordG neN 15112221349535400772501151409588531511454012693041857206046113283949847762202 46316835694926478169428394003475163141307993866256225615783033603165251855960 1 46827403850823179245072216630277197565144205554125654976674165829533817101731 n 256 0 1 1 0=2):pa ks≠QcH:=by
  obtain ⟨a,b,c,d,h1,r⟩:=Qjy neN ks n hbits
  rw [hrun] at h1
  intro e
  rw [e] at r
  have hX:(a:Int)=(c:Int)*0%p:=r.hx
  have hY:(b:Int)=(c:Int)*1%p:=r.hy
  have n:=r.n
  change isN (c:Int) at n
  have ha:a=0:=by simp at hX; omega
  have hb:b=c:=by rw [Int.mul_one,QaZ n] at hY; exact Int.ofNat_inj.1 hY
  rw [ha,hb] at h1
  unfold neN at h1
  rw [show Nat.beq 0 0=true from rfl,show Nat.beq c c=true from Nat.beq_refl c] at h1
  exact absurd h1 (by decide)
theorem encP_inj {P Q:Int×Int} (h:OnP P) (k:OnP Q) (e:encP P=encP Q):P=Q:=by
  obtain ⟨h1,h2⟩:=Qpm h.y k.y e
  refine Prod.ext ?_ h1
  have hc:=k.c
  rw [←h1] at hc
  exact Qpr h.x k.x h.c hc h2
end Go.Proofs.YtdoadngmgmdlbaaDoor.Field
namespace Go.Proofs.YtdoadngmgmdlbaaDoor.Sgn
open Go Go.RowKit
open Rely Auto Own Sha5
open Ladder (clamp)
open Field (Qao resN numA num lims QbW ordL Qb0 QbH QbG QaQ encP Qbe pa Qdh pAdd pNeg mulP QcK okK xK zK mulR BP Qcb numB nmul OnP QcH)
def k7 : List Int:=[7,0,0,0,0,0,0,0,0,0,0,0,0,0,0,0,0,0,0,0,0,0,0,0,0,0,0,0,0,0,0,0]
theorem dig7 : dig k7=[30,99,235,65,17,182,247,76,178,83,156,158,43,100,56,169,221,155,58,236,127,8,57,33,240,97,130,41,171,190,109,223,133,0,0,169,105,225,93,50,128,27,49,80,119,34,43,201,50,214,165,55,186,99,169,213,1,248,60,63,148,211,115,144]:=by decide +kernel
theorem sec7 : secV k7=[24,99,235,65,17,182,247,76,178,83,156,158,43,100,56,169,221,155,58,236,127,8,57,33,240,97,130,41,171,190,109,95]:=by
  unfold secV
  rw [dig7]
  decide +kernel
theorem pre7 : preV k7=[133,0,0,169,105,225,93,50,128,27,49,80,119,34,43,201,50,214,165,55,186,99,169,213,1,248,60,63,148,211,115,144]:=by
  unfold preV
  rw [dig7]
  rfl
theorem pub7 : pubV k7=[162,250,47,74,53,91,162,233,7,165,48,9,233,227,124,173,223,122,199,230,106,8,186,7,99,31,85,48,114,179,242,76]:=by
  unfold pubV
  rw [sec7,Field.base_at [24,99,235,65,17,182,247,76,178,83,156,158,43,100,56,169,221,155,58,236,127,8,57,33,240,97,130,41,171,190,109,95] 43163622891799361314102505944223169546670986980999473268784120504132559397656 20187714700615140322123252784420260477325471643504923403589101600785086395188 34804591973124617498858403915480461027353086822251904420926902256832544242338 (by decide +kernel) (by decide) (by decide) (by decide +kernel)]
  decide +kernel
theorem r7 : sgR k7 [97,98]=[9,117,211,145,147,172,215,196,69,239,17,36,109,136,27,231,19,205,5,176,149,254,130,237,102,181,124,249,83,223,131,1]:=by
  unfold sgR resV
  rw [pre7]
  decide +kernel
theorem f7 : sgF k7 [97,98]=[88,220,12,51,109,77,26,43,33,238,75,152,247,173,26,48,67,116,127,246,2,8,1,74,205,1,113,229,229,248,66,68]:=by
  unfold sgF
  rw [r7,Field.base_at [9,117,211,145,147,172,215,196,69,239,17,36,109,136,27,231,19,205,5,176,149,254,130,237,102,181,124,249,83,223,131,1] 685311167454205173398291671160860818199994811073560760809443716574227952905 31334764600522950466539810408690655280232693241631767212220445267832540044198 30875603441022281803856730662798123229495602649832929132319990546114122931288 (by decide +kernel) (by decide) (by decide) (by decide +kernel)]
  decide +kernel
theorem k7a : sgK k7 [97,98]=[191,137,176,14,22,59,105,160,233,99,53,31,119,199,77,222,195,188,247,51,69,83,49,71,172,4,25,73,106,85,10,14]:=by
  unfold sgK resV
  rw [f7,pub7]
  decide +kernel
theorem k7b : resV (sgF k7 [97,98]++pubV k7++[98])=[11,213,220,147,118,118,129,91,60,181,33,253,36,225,179,172,154,80,193,99,192,147,214,240,152,74,160,78,233,133,128,5]:=by
  unfold resV
  rw [f7,pub7]
  decide +kernel
theorem m7 : pa [159,76,174,155,231,162,47,11,50,143,67,236,20,191,92,21,248,176,168,203,116,171,168,233,60,214,249,162,108,243,142,8]≠QcH:=Field.base_ne _ 3871075125064540017153249593565511684186084678562295577143101991501704350879 (by decide +kernel) (by decide +kernel)
theorem ver7 : verV (pubV k7) (sigV k7 [97,98]) [98]=false:=by
  unfold verV
  rw [Qhh,Qhi,Qjw,(QgT k7).1]
  have hne:eqV (pubV k7) (sgF k7 [97,98]) (sgS k7 [97,98]) (resV (sgF k7 [97,98]++pubV k7++[98]))≠sgF k7 [97,98]:=fun e=>by
    unfold eqV at e
    have hkb:=QdO (sgF k7 [97,98]++pubV k7++[98])
    rw [k7b] at e hkb
    rw [Qjb k7 _ hkb,QnA,k7a,sec7] at e
    generalize hu:numB [191,137,176,14,22,59,105,160,233,99,53,31,119,199,77,222,195,188,247,51,69,83,49,71,172,4,25,73,106,85,10,14]*numB [24,99,235,65,17,182,247,76,178,83,156,158,43,100,56,169,221,155,58,236,127,8,57,33,240,97,130,41,171,190,109,95]=u at e
    generalize hv:numB [11,213,220,147,118,118,129,91,60,181,33,253,36,225,179,172,154,80,193,99,192,147,214,240,152,74,160,78,233,133,128,5]*numB [24,99,235,65,17,182,247,76,178,83,156,158,43,100,56,169,221,155,58,236,127,8,57,33,240,97,130,41,171,190,109,95]=v at e
    have hR:=Qdh (sgR k7 [97,98])
    have hA:OnP (nmul u BP):=Field.nmul_on Qcb _
    have hB:OnP (nmul v BP):=Field.nmul_on Qcb _
    unfold sgF at e
    have e1:=Field.encP_inj (Field.pAdd_on (Field.pAdd_on hA hR) (Field.pNeg_on hB)) hR e
    generalize pa (sgR k7 [97,98])=R at e1 hR
    -- u B + R - v B = R
    have e2:nmul u BP=nmul v BP:=by
      have h1:=congrArg (fun z=>pAdd z (nmul v BP)) e1
      try simp only at h1
      rw [Field.pAdd_assoc (Field.pAdd_on hA hR) (Field.pNeg_on hB) hB,Field.pAdd_comm (pNeg _) (nmul v BP),Field.pAdd_neg hB,Field.pAdd_zero (Field.pAdd_on hA hR)] at h1
      have h2:=congrArg (fun z=>pAdd z (pNeg R)) h1
      try simp only at h2
      rw [Field.pAdd_assoc hA hR (Field.pNeg_on hR),Field.pAdd_neg hR,Field.pAdd_zero hA,Field.pAdd_comm R (nmul v BP),Field.pAdd_assoc hB hR (Field.pNeg_on hR),Field.pAdd_neg hR,Field.pAdd_zero hB] at h2
      exact h2
    have e3:nmul (u+204956450087291587675963500455654338431229587365018877447990055043383073448384096868951621298659618195474085489996022217861629608554041961735234344930096) BP=nmul (v+204956450087291587675963500455654338431229587365018877447990055043383073448384096868951621298659618195474085489996022217861629608554041961735234344930096) BP:=by
      rw [Field.nmul_add Qcb,Field.nmul_add Qcb,e2]
    have e4:(v+204956450087291587675963500455654338431229587365018877447990055043383073448384096868951621298659618195474085489996022217861629608554041961735234344930096)%ordL.toNat=0:=by
      rw [←hv]
      decide +kernel
    have e5:(u+204956450087291587675963500455654338431229587365018877447990055043383073448384096868951621298659618195474085489996022217861629608554041961735234344930096)%ordL.toNat=3871075125064540017153249593565511684186084678562295577143101991501704350879:=by
      rw [←hu]
      decide +kernel
    rw [←Field.nmul_mod Qcb _ Field.order_mul (v+_),e4,←Field.nmul_mod Qcb _ Field.order_mul (u+_),e5] at e3
    refine m7 ?_
    have hmb:Qal [159,76,174,155,231,162,47,11,50,143,67,236,20,191,92,21,248,176,168,203,116,171,168,233,60,214,249,162,108,243,142,8]:=by unfold Qal; decide
    unfold pa
    rw [Field.climb_num Qcb _ hmb,show numB [159,76,174,155,231,162,47,11,50,143,67,236,20,191,92,21,248,176,168,203,116,171,168,233,60,214,249,162,108,243,142,8]=3871075125064540017153249593565511684186084678562295577143101991501704350879 by decide +kernel,e3]
    rfl
  rw [decide_eq_false hne]
  rfl
end Go.Proofs.YtdoadngmgmdlbaaDoor.Sgn
end
section
namespace Go.Proofs.YtdoadngmgmdlbaaDoor.Own
open Go Go.RowKit
open Rely Auto
theorem Qjp (pl : Nat→Option (Nat×Nat)):∀ (ps:List (Nat×Nat×Value×Array Value)) (pre:List (Array Value)) (rest:Array Value) (off:Nat),(cat pre).size=off→okPl pl off ps→tot ps=rest.size →
    Instr.fill pl (cat pre++rest) (ps.map fun x=>(x.1,x.2.2.1))=some (cat (pre++ps.map fun x=>x.2.2.2))
  | [],pre,rest,off,_,_,ht=>by
    have:rest=#[]:=Array.eq_empty_of_size_eq_zero ht.symm
    subst this
    simp [Instr.fill]
  | (i,n,v,p)::r,pre,rest,off,hoff,⟨h1,h2,h3,h4⟩,ht=>by
    subst h2
    have hn:n≤rest.size:=by rw [←ht,tot]; omega
    simp only [List.map_cons,Instr.fill,h1,h3]
    rw [if_neg (by simp; omega)]
    have hz:(v.cells.zipIdx.foldl (fun cs (x:Value×Nat)=>cs.setIfInBounds (off+x.2) x.1) (cat pre++rest))=cat (pre++[v.cells])++rest.extract n rest.size:=by
      have e1:v.cells.zipIdx=(v.cells.toList.zipIdx 0).toArray:=by
        apply Array.ext'
        simp
      rw [e1,List.foldl_toArray',Qfb]
      · have e2:rest=rest.extract 0 n++rest.extract n rest.size:=by
          rw [Array.extract_append_extract,Nat.max_eq_right hn]
          simp
        have e3:(cat pre++rest)=cat (pre++([rest.extract 0 n]++[rest.extract n rest.size])):=by
          rw [QaX]
          congr 1
        rw [Nat.add_zero,e3]
        have:=Qka pre [rest.extract 0 n] [v.cells] [rest.extract n rest.size] off hoff (by show v.cells.size=(rest.extract 0 n).size; simp; omega)
        rw [show (cat [v.cells]).toList=v.cells.toList from rfl] at this
        rw [this,←List.append_assoc,QaX (pre++[v.cells])]
        rfl
      · rfl
    have key:=Qjp pl r (pre++[v.cells]) (rest.extract n rest.size) (off+n) (by rw [QaX]; show (cat pre++v.cells).size=_; simp; omega) h4 (by simp; rw [←ht,tot]; omega)
    rw [←hz] at key
    rw [List.append_assoc] at key
    exact key
theorem Qim {P : Program} {ρ:Operand→Value} {o:Oper} {w:World} (t e:TypeId) (len:Nat) (parts:Array (Nat×Operand)) (z:Value) (ps:List (Nat×Nat×Value×Array Value))
    (ho:o.op=.buildSlice t len parts) (hv:(parts.map fun (i,x)=>(i,ρ x)).toList=ps.map fun x=>(x.1,x.2.2.1)) (hu:P.underlying t=some (.slice e))
    (hi:(P.info? e).map (fun i=>(i.zero,i.size))=some (some z,32)) (hp:okPl (fun i=>some (i*32,32)) 0 ps) (ht:tot ps=len*32) (h0:0<len) (hl:len≤1000) :
    (execOp ρ o).run P w=.ok (.value (.slice (some ⟨w.heap.size,0,none⟩) len len)) (w.alloc (.cells (cat (ps.map fun x=>x.2.2.2)) e)):=by
  cases hq:P.info? e with
  | none=>rw [hq] at hi; cases hi
  | some i =>
    rw [hq] at hi
    simp only [Option.map_some,Option.some.injEq,Prod.mk.injEq] at hi
    obtain ⟨hz,hs⟩:=hi
    have hf:=Qjp (fun i=>some (i*32,32)) ps [] ((Array.range (len*32)).map (z.cells[·%z.cells.size]!)) 0 rfl hp (by rw [ht,Array.size_map,Array.size_range])
    rw [show cat []++(Array.range (len*32)).map (z.cells[·%z.cells.size]!)=(Array.range (len*32)).map (z.cells[·%z.cells.size]!) by simp [cat],List.nil_append,←hv] at hf
    have:=run_buildSlice (P:=P) w t e len (parts.map fun (i,x)=>(i,ρ x)) (cat (ps.map fun x=>x.2.2.2)) i z hu hq hz (by rw [hs]; omega) (by rw [hs]; omega) (by rw [hs]; exact hf)
    unfold execOp
    simp only [ho,Sem.run_bind,this,Result.andThen_ok,Sem.run_pure]
end Go.Proofs.YtdoadngmgmdlbaaDoor.Own
end
