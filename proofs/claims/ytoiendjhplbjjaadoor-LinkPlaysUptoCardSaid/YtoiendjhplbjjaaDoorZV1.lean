/- Texts of this claim, joined (V1). -/
import Derived.Test.YtoiendjhplbjjaaDoorZV0
import Derived.RangeFuncNested
import Derived.Scope
import Derived.Sort.LoopGhostIn

set_option linter.unusedVariables false
set_option linter.unusedSimpArgs false
set_option maxHeartbeats 4000000
section
namespace Go.Proofs.YtoiendjhplbjjaaDoor.Cha
open Go Go.RowKit
open Rely Auto Own Sha
open Sha
def qrt (x : List Wd) (i j k l:Nat):List Wd:=(((x.set i (qA2 (wget x i) (wget x j) (wget x k) (wget x l))).set j (qB2 (wget x i) (wget x j) (wget x k) (wget x l))).set k (qC2 (wget x i) (wget x j) (wget x k) (wget x l))).set l (qD2 (wget x i) (wget x j) (wget x k) (wget x l))
theorem QcL (x : List Wd) (i j k l:Nat):(qrt x i j k l).length=x.length:=by unfold qrt; simp only [List.length_set]
def dbl (x : List Wd):List Wd:=qrt (qrt (qrt (qrt (qrt (qrt (qrt (qrt (x) 0 4 8 12) 1 5 9 13) 2 6 10 14) 3 7 11 15) 0 5 10 15) 1 6 11 12) 2 7 8 13) 3 4 9 14
def qrow (j : Nat):List Int:=([0,4,8,12,1,5,9,13,2,6,10,14,3,7,11,15,0,5,10,15,1,6,11,12,2,7,8,13,3,4,9,14]:List Int).drop (4*j) |>.take 4
def qn (j k:Nat):Nat:=(nth (qrow j) k).toNat
theorem Qco {j : Nat} (h:j<8):(qrow j).length=4:=(by decide:∀ j:Fin 8,(qrow j.val).length=4) ⟨j,h⟩
theorem QiL {j : Nat} (h:j<8) (k:Nat) (hk:k<4):qn j k<16:=(by decide:∀ (j:Fin 8) (k:Fin 4),qn j.val k.val<16) ⟨j,h⟩ ⟨k,hk⟩
theorem Qem {j : Nat} (h:j<8) (k:Nat) (hk:k<4):nth (qrow j) k=((qn j k:Nat):Int):=(by decide:∀ (j:Fin 8) (k:Fin 4),nth (qrow j.val) k.val=((qn j.val k.val:Nat):Int)) ⟨j,h⟩ ⟨k,hk⟩
def qsN (x : List Wd):Nat→List Wd
  | 0=>x
  | j+1=>qrt (qsN x j) (qn j 0) (qn j 1) (qn j 2) (qn j 3)
theorem QcK (x : List Wd):∀ j,(qsN x j).length=x.length
  | 0=>rfl
  | j+1=>(QcL ..).trans (QcK x j)
theorem Qks (x : List Wd):(dbl x).length=x.length:=by unfold dbl; simp only [QcL]
def rounds (s : List Wd):Nat→List Wd
  | 0=>s
  | n+1=>dbl (rounds s n)
theorem QcR (s : List Wd):∀ n,(rounds s n).length=s.length
  | 0=>rfl
  | n+1=>(Qks _).trans (QcR s n)
theorem QaZ {x : List Wd} {n:Nat} (h:x.length=n):(x.map wv).length=n:=by rw [List.length_map,h]
def Qbo (xs : List Int) (n i:Nat):List Int:=xs.take i++List.replicate (n-i) 0
theorem Qb5 (xs : List Int) (n i:Nat) (h:xs.length=n) (hi:i≤n):(Qbo xs n i).length=n:=by unfold Qbo; rw [List.length_append,List.length_take,List.length_replicate]; omega
theorem Qb1 (xs : List Int) (n:Nat):List.replicate n 0=Qbo xs n 0:=by unfold Qbo; rw [List.take_zero,Nat.sub_zero]; rfl
theorem QbJ (xs : List Int) (n:Nat) (h:xs.length=n):Qbo xs n n=xs:=by unfold Qbo; rw [Nat.sub_self,List.replicate_zero,List.append_nil,List.take_of_length_le (by omega)]
theorem Qb2 (xs : List Int) (n i:Nat) (h:xs.length=n) (hi:i<n):(Qbo xs n i).set i (nth xs i)=Qbo xs n (i+1):=by
  have hl:(xs.take i).length=i:=by rw [List.length_take]; omega
  unfold Qbo
  rw [List.set_append_right _ _ (by omega),hl,Nat.sub_self,show n-i=(n-(i+1))+1 by omega,List.replicate_succ,List.set_cons_zero]
  have e:xs.take (i+1)=xs.take i++[nth xs i]:=by
    rw [List.take_add_one,List.getElem?_eq_getElem (by omega)]
    simp [nth,show i<xs.length by omega]
  rw [e,List.append_assoc]
  rfl
def Qb4 (x s:List Wd):List Int:=(List.range 64).map fun n=>wv ((wget x (n/4)+wget s (n/4))>>>(8*(n%4)))%256
theorem Qeb (x s:List Wd):(Qb4 x s).length=64:=by unfold Qb4; rw [List.length_map,List.length_range]
theorem QkS (x s:List Wd) (i j:Nat) (hi:i<16) (hj:j<4):IntKind.u8.wrap (wv ((wget x i+wget s i)>>>(8*j)))=nth (Qb4 x s) (4*i+j):=by
  have h1:(4*i+j)/4=i:=by omega
  have h2:(4*i+j)%4=j:=by omega
  have h3:∀ z:Int,IntKind.u8.wrap z=z%2^8:=fun _=>rfl
  unfold nth Qb4
  rw [h3,List.getD_eq_getElem?_getD,List.getElem?_map,List.getElem?_range (by omega),Option.map_some,Option.getD_some,h1,h2]
  rfl
def QaV (ws : List Wd) (number:Int):List Int:=Qb4 (rounds (ws.set 12 (BitVec.ofInt 32 number)) 10) (ws.set 12 (BitVec.ofInt 32 number))
set_option maxRecDepth 100000 in
theorem Qjy (ws : List Wd) (number:Int) (tq:TypeId) (w:World) (hq:w.heap[3]? = some (.cells (ints .i64 [0,4,8,12,1,5,9,13,2,6,10,14,3,7,11,15,0,5,10,15,1,6,11,12,2,7,8,13,3,4,9,14]) tq)) (hw:ws.length=16):Calls Tryd.prog 141 #[.agg (ints .u32 (ws.map wv)),.int .i64 number] w (Ret w (.agg (ints .u8 (QaV ws number)))):=by
 refine enter 84 [(0,.agg (ints .u32 (ws.map wv))),(1,.int .i64 number)] Tryd.func141 rfl rfl kj rfl <| sgC fun K2 hK2=>Qas (ints .u32 (ws.map wv)) 199 2 rfl kj kj fun g3 W1 l3 e1 r3_1=>?_
 have x1:=Ext.tr (Rely.Ext.refl w) e1
 refine Qas (ints .u8 (List.replicate 64 0)) 164 4 rfl kj kj fun g4 W2 l4 e2 r4_2=>sgN hK2 <| sgC fun K5 hK5=>sg 1 kj <| Qaa (.int .u32 (wv (BitVec.ofInt 32 number))) 13 rfl kj (Qad (u:=.int .u32 (IntKind.u32.wrap (number))) kj (congrArg (Value.int .u32) (by rw [Sha.wrap32,Qfc]))) <| sg 1 kj ?_
 have r3_2:=(Qab r3_1 e2)
 refine Qal g3 _ (ints .u32 ((ws.map wv).set 12 (wv (BitVec.ofInt 32 number)))) 199 r3_2 rfl kj (Qa1 162 _ _ g3 12 199 _ _ r3_2 rfl kj kj kj (Nat.lt_of_lt_of_eq (show 12<16 by decide) (QaZ hw).symm)) fun W3 p3 r3_3=>?_
 have x3:=Puts.ext p3 (Ext.tr x1 e2) (qT (Rely.Ext.refl w).size l3)
 obtain ⟨s,es⟩:∃ z:List Wd,z=ws.set 12 (BitVec.ofInt 32 number):=⟨_,rfl⟩
 have hs:s.length=16:=by rw [es,List.length_set,hw]
 have r3_3_6:W3.heap[g3]? = some (.cells (ints .u32 (s.map wv)) 199):=QaI r3_3 (by rw [es,List.map_set])
 refine sgN hK5 <| sgC fun K7 hK7=>Qaa (.agg (ints .u32 (s.map wv))) 15 rfl kj (Qao 199 _ g3 199 _ _ r3_3_6 rfl kj kj (isz (n:=16) kj ((Qaf _ _).trans (QaZ hs)))) <| Qas (ints .u32 ([0,0,0,0,0,0,0,0,0,0,0,0,0,0,0,0])) 199 5 rfl kj kj fun g8 W4 l8 e4 r8_4=>?_
 have b8:=qT x3.size l8
 refine Qal g8 _ (ints .u32 (s.map wv)) 199 r8_4 rfl kj (Qav 199 _ _ g8 199 _ _ r8_4 rfl kj kj (isz (n:=16) kj ((Qaf _ _).trans (QaZ hs))) (eqsz (n:=16) kj ((Qaf _ _).trans (QaZ hs))) (QaC _ _)) fun W5 p5 r8_5=>sgN hK7 <| wp_seq_k fun K9 hK9=>sgB kj <| wp_block <| QaB (fun (s1:Nat)=>[(2,.pointer (some ⟨g3,0,none⟩)),(4,.pointer (some ⟨g4,0,none⟩)),(5,.pointer (some ⟨g8,0,none⟩)),(16,.int .i64 ((s1:Nat):Int))]) (fun (s1:Nat) W=>(s1≤10)∧(W.heap[g8]? = some (.cells (ints .u32 ((rounds s s1).map wv)) 199))∧(Qa2 [g8] W5 W)∧(Ext w W)) (fun (s1:Nat)=>10-s1) 0 ⟨kj,kj,kj,kj,trivial⟩ ⟨(Nat.zero_le _),(QaI r8_5 rfl),(Qa2.refl [g8] W5),(Puts.ext p5 (Ext.tr x3 e4) b8)⟩ fun s1 X1 V1 hI1=>?_
 obtain ⟨i,hs1⟩:∃ z,z=s1:=⟨_,rfl⟩
 subst hs1
 obtain ⟨hi,q8_1,kk1,xx1⟩:=hI1
 replace hi:i≤10:=hi
 replace q8_1:V1.heap[g8]? = some (.cells (ints .u32 ((rounds s i).map wv)) 199):=q8_1
 replace kk1:Qa2 [g8] W5 V1:=kk1
 replace xx1:Ext w V1:=xx1
 have q6:=kk1
 refine sgB kj <| wp_seq_k fun K12 hK12=>Qa7 (t:=decide (((i:Nat):Int)<10)) kj (fun c13=>?_) (fun c13=>?_)
 ·skip
  have hlt17:i<10:=by have:=of_decide_eq_true c13; omega
  refine wp_skip <| hK12 _ _ <| wp_seq_k fun K14 hK14=>wp_block <| sgC fun K15 hK15=>?_
  have r1_3:=(Puts.row p3 (Qab (Qab hq e1) e2) (Qag hq l3))
  refine Qaa (.agg (ints .i64 ([0,4,8,12,1,5,9,13,2,6,10,14,3,7,11,15,0,5,10,15,1,6,11,12,2,7,8,13,3,4,9,14]))) 18 rfl kj (Qao 217 _ 3 tq _ _ (Qa2.row q6 (Puts.row p5 (Qab r1_3 e4) (Qag r1_3 l8)) (QaU (Qag r1_3 l8) Qbt)) rfl kj kj (isz (n:=32) kj kj)) <| sg 1 kj <| sgN hK15 <| wp_block ?_
  obtain ⟨x0,ex0⟩:∃ z:List Wd,z=rounds s i:=⟨_,rfl⟩
  have h0:x0.length=16:=by rw [ex0,QcR,hs]
  have r8_6_16:V1.heap[g8]? = some (.cells (ints .u32 (x0.map wv)) 199):=QaI q8_1 (by rw [ex0])
  refine QaB (fun (s2:Nat)=>[(2,.pointer (some ⟨g3,0,none⟩)),(4,.pointer (some ⟨g4,0,none⟩)),(5,.pointer (some ⟨g8,0,none⟩)),(16,.int .i64 ((i:Nat):Int)),(18,.agg (ints .i64 ([0,4,8,12,1,5,9,13,2,6,10,14,3,7,11,15,0,5,10,15,1,6,11,12,2,7,8,13,3,4,9,14]))),(19,.int .i64 ((s2:Nat):Int))]) (fun (s2:Nat) W=>(s2≤8)∧(W.heap[g8]? = some (.cells (ints .u32 ((qsN x0 s2).map wv)) 199))∧(Qa2 [g8] V1 W)∧(Ext w W)) (fun (s2:Nat)=>8-s2) 0 ⟨kj,kj,kj,kj,kj,kj,trivial⟩ ⟨(Nat.zero_le _),(QaI r8_6_16 (show x0.map wv=(qsN x0 0).map wv from rfl)),(Qa2.refl [g8] V1),xx1⟩ fun s2 X2 V2 hI2=>?_
  obtain ⟨j,hs2⟩:∃ z,z=s2:=⟨_,rfl⟩
  subst hs2
  obtain ⟨hj,q8_2,kk2,xx2⟩:=hI2
  replace hj:j≤8:=hj
  replace q8_2:V2.heap[g8]? = some (.cells (ints .u32 ((qsN x0 j).map wv)) 199):=q8_2
  replace kk2:Qa2 [g8] V1 V2:=kk2
  replace xx2:Ext w V2:=xx2
  have q7:=kk2
  refine sgB kj <| wp_seq_k fun K18 hK18=>Qa7 (t:=decide (((j:Nat):Int)<8)) kj (fun c19=>?_) (fun c19=>?_)
  ·skip
   have hlt20:j<8:=by have:=of_decide_eq_true c19; omega
   have hq0:qn j 0<16:=QiL hlt20 0 (by decide)
   have hq1:qn j 1<16:=QiL hlt20 1 (by decide)
   have hq2:qn j 2<16:=QiL hlt20 2 (by decide)
   have hq3:qn j 3<16:=QiL hlt20 3 (by decide)
   have hxj:(qsN x0 j).length=16:=(QcK x0 j).trans h0
   refine wp_skip <| hK18 _ _ <| wp_seq_k fun K20 hK20=>wp_block <| sgC fun K21 hK21=>Qaa (.agg (ints .i64 (qrow j))) 21 rfl kj (by rcases (show j=0∨j=1∨j=2∨j=3∨j=4∨j=5∨j=6∨j=7 by omega) with rfl | rfl | rfl | rfl | rfl | rfl | rfl | rfl <;> kernel_rfl) ?_
   refine Qas ((Array.replicate 4 (.int .i64 0))) 216 7 rfl kj kj fun g22 W8 l22 e8 r22_8=>Qal g22 _ (ints .i64 (qrow j)) 216 r22_8 rfl kj (Qav 216 _ _ g22 216 _ _ r22_8 rfl kj kj (isz (n:=4) kj ((Qaf _ _).trans (Qco hlt20))) (eqsz (n:=4) kj ((Qaf _ _).trans (Qco hlt20))) (QaC _ _)) fun W9 p9 r22_9=>?_
   have x9:=Puts.ext p9 (Ext.tr xx2 e8) (qT xx2.size l22)
   refine sgN hK21 <| Qdg (fun W=>W.heap[g22]? = some (.cells (ints .i64 (qrow j)) 216)) [⟨none,[(7,none)]⟩,⟨none,[(23,some 0)]⟩,⟨none,[(7,none)]⟩,⟨none,[(25,some 2)]⟩,⟨none,[(7,none)]⟩,⟨none,[(27,some 4)]⟩,⟨none,[(7,none)]⟩,⟨none,[(29,some 6)]⟩,⟨none,[(7,none)]⟩,⟨none,[(31,some 8)]⟩,⟨none,[(5,none),(32,some 9)]⟩,⟨none,[(33,some 10)]⟩,⟨none,[(7,none)]⟩,⟨none,[(35,some 12)]⟩,⟨none,[(5,none),(36,some 13)]⟩,⟨none,[(37,some 14)]⟩,⟨none,[(7,none)]⟩,⟨none,[(39,some 16)]⟩,⟨none,[(5,none),(40,some 17)]⟩,⟨none,[(41,some 18)]⟩,⟨none,[(7,none)]⟩,⟨none,[(43,some 20)]⟩,⟨none,[(5,none),(44,some 21)]⟩,⟨none,[(45,some 22)]⟩,⟨none,[(34,some 11),(38,some 15),(42,some 19),(46,some 23)]⟩,⟨none,[(47,some 24)]⟩,⟨none,[(22,some 25)]⟩,⟨none,[(22,some 25)]⟩,⟨none,[(22,some 25)]⟩,⟨none,[(22,some 25)]⟩,⟨none,[(5,none),(24,some 1)]⟩,⟨none,[(52,some 30),(48,some 26)]⟩,⟨none,[(5,none),(26,some 3)]⟩,⟨none,[(53,some 32),(49,some 27)]⟩,⟨none,[(5,none),(28,some 5)]⟩,⟨none,[(54,some 34),(50,some 28)]⟩,⟨none,[(5,none),(30,some 7)]⟩,⟨none,[(55,some 36),(51,some 29)]⟩] [] [2,3,4,5,6,7,27,28,29,32,34,36] kj kj kj (fun W hR=>Qab r22_9 hR) fun F hF=>Qbj (.pointer (some ⟨g22,0,none⟩)) kj kj rfl (fun W=>by kernel_rfl) <| Qc6 (.int .i64 (((qn j 0:Nat):Int))) kj kj kj rfl (fun W hR=>(Qah 3 _ g22 0 216 _ (.int .i64 (((qn j 0:Nat):Int))) _ (Qab (Qab r22_9 (Qak _)) hR) rfl kj ((QaJ _ _ _ (Nat.lt_of_lt_of_eq (by decide) (Qco hlt20).symm)).trans (congrArg (fun z=>some (Value.int .i64 z)) (Qem hlt20 0 (by decide)))) kj)) <| Qbj (.pointer (some ⟨g22,1,none⟩)) kj kj rfl (fun W=>by kernel_rfl) <| QfW (.int .i64 (((qn j 1:Nat):Int))) kj kj kj rfl (fun W hW=>(Qah 3 _ g22 1 216 _ (.int .i64 (((qn j 1:Nat):Int))) _ hW rfl kj ((QaJ _ _ _ (Nat.lt_of_lt_of_eq (by decide) (Qco hlt20).symm)).trans (congrArg (fun z=>some (Value.int .i64 z)) (Qem hlt20 1 (by decide)))) kj)) <| Qbj (.pointer (some ⟨g22,2,none⟩)) kj kj rfl (fun W=>by kernel_rfl) <| QfW (.int .i64 (((qn j 2:Nat):Int))) kj kj kj rfl (fun W hW=>(Qah 3 _ g22 2 216 _ (.int .i64 (((qn j 2:Nat):Int))) _ hW rfl kj ((QaJ _ _ _ (Nat.lt_of_lt_of_eq (by decide) (Qco hlt20).symm)).trans (congrArg (fun z=>some (Value.int .i64 z)) (Qem hlt20 2 (by decide)))) kj)) <| Qbj (.pointer (some ⟨g22,3,none⟩)) kj kj rfl (fun W=>by kernel_rfl) <| QfW (.int .i64 (((qn j 3:Nat):Int))) kj kj kj rfl (fun W hW=>(Qah 3 _ g22 3 216 _ (.int .i64 (((qn j 3:Nat):Int))) _ hW rfl kj ((QaJ _ _ _ (Nat.lt_of_lt_of_eq (by decide) (Qco hlt20).symm)).trans (congrArg (fun z=>some (Value.int .i64 z)) (Qem hlt20 3 (by decide)))) kj)) ?_
   refine Qbj (.pointer (some ⟨g22,0,none⟩)) kj kj rfl (fun W=>by kernel_rfl) <| Qc6 (.int .i64 (((qn j 0:Nat):Int))) kj kj kj rfl (fun W hR=>(Qah 3 _ g22 0 216 _ (.int .i64 (((qn j 0:Nat):Int))) _ (Qab (Qab r22_9 (Qak _)) hR) rfl kj ((QaJ _ _ _ (Nat.lt_of_lt_of_eq (by decide) (Qco hlt20).symm)).trans (congrArg (fun z=>some (Value.int .i64 z)) (Qem hlt20 0 (by decide)))) kj)) <| Qbj (.pointer (some ⟨g8,qn j 0,none⟩)) kj kj rfl (fun W=>(QaG _ _ _ .i64 (qn j 0) _ 16 162 rfl kj kj kj kj (by omega))) ?_
   have r8_8:=(Qab q8_2 e8)
   have r8_9:=(Puts.row p9 r8_8 (Qag q8_2 l22))
   refine Qc6 (.int .u32 (wv (wget (qsN x0 j) (qn j 0)))) kj kj kj rfl (fun W hR=>(Qah 162 _ g8 (qn j 0) 199 _ (.int .u32 (wv (wget (qsN x0 j) (qn j 0)))) _ (Qab (Qab r8_9 (Qak _)) hR) rfl kj ((QaJ _ _ _ (Nat.lt_of_lt_of_eq (by omega) (QaZ ((QcK x0 j).trans h0)).symm)).trans (congrArg (fun z=>some (Value.int .u32 z)) (Qbv (qsN x0 j) (qn j 0)))) kj)) <| Qbj (.pointer (some ⟨g22,1,none⟩)) kj kj rfl (fun W=>by kernel_rfl) <| Qc6 (.int .i64 (((qn j 1:Nat):Int))) kj kj kj rfl (fun W hR=>(Qah 3 _ g22 1 216 _ (.int .i64 (((qn j 1:Nat):Int))) _ (Qab (Qab r22_9 (Qak _)) hR) rfl kj ((QaJ _ _ _ (Nat.lt_of_lt_of_eq (by decide) (Qco hlt20).symm)).trans (congrArg (fun z=>some (Value.int .i64 z)) (Qem hlt20 1 (by decide)))) kj)) <| Qbj (.pointer (some ⟨g8,qn j 1,none⟩)) kj kj rfl (fun W=>(QaG _ _ _ .i64 (qn j 1) _ 16 162 rfl kj kj kj kj (by omega))) <| Qc6 (.int .u32 (wv (wget (qsN x0 j) (qn j 1)))) kj kj kj rfl (fun W hR=>(Qah 162 _ g8 (qn j 1) 199 _ (.int .u32 (wv (wget (qsN x0 j) (qn j 1)))) _ (Qab (Qab r8_9 (Qak _)) hR) rfl kj ((QaJ _ _ _ (Nat.lt_of_lt_of_eq (by omega) (QaZ ((QcK x0 j).trans h0)).symm)).trans (congrArg (fun z=>some (Value.int .u32 z)) (Qbv (qsN x0 j) (qn j 1)))) kj)) <| Qbj (.pointer (some ⟨g22,2,none⟩)) kj kj rfl (fun W=>by kernel_rfl) <| Qc6 (.int .i64 (((qn j 2:Nat):Int))) kj kj kj rfl (fun W hR=>(Qah 3 _ g22 2 216 _ (.int .i64 (((qn j 2:Nat):Int))) _ (Qab (Qab r22_9 (Qak _)) hR) rfl kj ((QaJ _ _ _ (Nat.lt_of_lt_of_eq (by decide) (Qco hlt20).symm)).trans (congrArg (fun z=>some (Value.int .i64 z)) (Qem hlt20 2 (by decide)))) kj)) <| Qbj (.pointer (some ⟨g8,qn j 2,none⟩)) kj kj rfl (fun W=>(QaG _ _ _ .i64 (qn j 2) _ 16 162 rfl kj kj kj kj (by omega))) <| Qc6 (.int .u32 (wv (wget (qsN x0 j) (qn j 2)))) kj kj kj rfl (fun W hR=>(Qah 162 _ g8 (qn j 2) 199 _ (.int .u32 (wv (wget (qsN x0 j) (qn j 2)))) _ (Qab (Qab r8_9 (Qak _)) hR) rfl kj ((QaJ _ _ _ (Nat.lt_of_lt_of_eq (by omega) (QaZ ((QcK x0 j).trans h0)).symm)).trans (congrArg (fun z=>some (Value.int .u32 z)) (Qbv (qsN x0 j) (qn j 2)))) kj)) <| Qbj (.pointer (some ⟨g22,3,none⟩)) kj kj rfl (fun W=>by kernel_rfl) ?_
   refine Qc6 (.int .i64 (((qn j 3:Nat):Int))) kj kj kj rfl (fun W hR=>(Qah 3 _ g22 3 216 _ (.int .i64 (((qn j 3:Nat):Int))) _ (Qab (Qab r22_9 (Qak _)) hR) rfl kj ((QaJ _ _ _ (Nat.lt_of_lt_of_eq (by decide) (Qco hlt20).symm)).trans (congrArg (fun z=>some (Value.int .i64 z)) (Qem hlt20 3 (by decide)))) kj)) <| Qbj (.pointer (some ⟨g8,qn j 3,none⟩)) kj kj rfl (fun W=>(QaG _ _ _ .i64 (qn j 3) _ 16 162 rfl kj kj kj kj (by omega))) <| Qc6 (.int .u32 (wv (wget (qsN x0 j) (qn j 3)))) kj kj kj rfl (fun W hR=>(Qah 162 _ g8 (qn j 3) 199 _ (.int .u32 (wv (wget (qsN x0 j) (qn j 3)))) _ (Qab (Qab r8_9 (Qak _)) hR) rfl kj ((QaJ _ _ _ (Nat.lt_of_lt_of_eq (by omega) (QaZ ((QcK x0 j).trans h0)).symm)).trans (congrArg (fun z=>some (Value.int .u32 z)) (Qbv (qsN x0 j) (qn j 3)))) kj)) <| Qk4 (.tuple #[.int .u32 (wv (qA2 (wget (qsN x0 j) (qn j 0)) (wget (qsN x0 j) (qn j 1)) (wget (qsN x0 j) (qn j 2)) (wget (qsN x0 j) (qn j 3)))),.int .u32 (wv (qB2 (wget (qsN x0 j) (qn j 0)) (wget (qsN x0 j) (qn j 1)) (wget (qsN x0 j) (qn j 2)) (wget (qsN x0 j) (qn j 3)))),.int .u32 (wv (qC2 (wget (qsN x0 j) (qn j 0)) (wget (qsN x0 j) (qn j 1)) (wget (qsN x0 j) (qn j 2)) (wget (qsN x0 j) (qn j 3)))),.int .u32 (wv (qD2 (wget (qsN x0 j) (qn j 0)) (wget (qsN x0 j) (qn j 1)) (wget (qsN x0 j) (qn j 2)) (wget (qsN x0 j) (qn j 3))))]) 156 #[.int .u32 (wv (wget (qsN x0 j) (qn j 0))),.int .u32 (wv (wget (qsN x0 j) (qn j 1))),.int .u32 (wv (wget (qsN x0 j) (qn j 2))),.int .u32 (wv (wget (qsN x0 j) (qn j 3)))] kj kj kj rfl (fun W=>by kernel_rfl) (fun W hR=>(QiK (wget (qsN x0 j) (qn j 0)) (wget (qsN x0 j) (qn j 1)) (wget (qsN x0 j) (qn j 2)) (wget (qsN x0 j) (qn j 3))) W) <| Qbj (.tuple #[.int .u32 (wv (qA2 (wget (qsN x0 j) (qn j 0)) (wget (qsN x0 j) (qn j 1)) (wget (qsN x0 j) (qn j 2)) (wget (qsN x0 j) (qn j 3)))),.int .u32 (wv (qB2 (wget (qsN x0 j) (qn j 0)) (wget (qsN x0 j) (qn j 1)) (wget (qsN x0 j) (qn j 2)) (wget (qsN x0 j) (qn j 3)))),.int .u32 (wv (qC2 (wget (qsN x0 j) (qn j 0)) (wget (qsN x0 j) (qn j 1)) (wget (qsN x0 j) (qn j 2)) (wget (qsN x0 j) (qn j 3)))),.int .u32 (wv (qD2 (wget (qsN x0 j) (qn j 0)) (wget (qsN x0 j) (qn j 1)) (wget (qsN x0 j) (qn j 2)) (wget (qsN x0 j) (qn j 3))))]) kj kj rfl (fun W=>by kernel_rfl) <| Qbj (.int .u32 (wv (qA2 (wget (qsN x0 j) (qn j 0)) (wget (qsN x0 j) (qn j 1)) (wget (qsN x0 j) (qn j 2)) (wget (qsN x0 j) (qn j 3))))) kj kj rfl (fun W=>by kernel_rfl) <| Qbj (.int .u32 (wv (qB2 (wget (qsN x0 j) (qn j 0)) (wget (qsN x0 j) (qn j 1)) (wget (qsN x0 j) (qn j 2)) (wget (qsN x0 j) (qn j 3))))) kj kj rfl (fun W=>by kernel_rfl) <| Qbj (.int .u32 (wv (qC2 (wget (qsN x0 j) (qn j 0)) (wget (qsN x0 j) (qn j 1)) (wget (qsN x0 j) (qn j 2)) (wget (qsN x0 j) (qn j 3))))) kj kj rfl (fun W=>by kernel_rfl) <| Qbj (.int .u32 (wv (qD2 (wget (qsN x0 j) (qn j 0)) (wget (qsN x0 j) (qn j 1)) (wget (qsN x0 j) (qn j 2)) (wget (qsN x0 j) (qn j 3))))) kj kj rfl (fun W=>by kernel_rfl) <| Qbj (.pointer (some ⟨g8,qn j 0,none⟩)) kj kj rfl (fun W=>(QaG _ _ _ .i64 (qn j 0) _ 16 162 rfl kj kj kj kj (by omega))) ?_
   refine Qd9 rfl <| Qbj (.pointer (some ⟨g8,qn j 1,none⟩)) kj kj rfl (fun W=>(QaG _ _ _ .i64 (qn j 1) _ 16 162 rfl kj kj kj kj (by omega))) <| Qd9 rfl <| Qbj (.pointer (some ⟨g8,qn j 2,none⟩)) kj kj rfl (fun W=>(QaG _ _ _ .i64 (qn j 2) _ 16 162 rfl kj kj kj kj (by omega))) <| Qd9 rfl <| Qbj (.pointer (some ⟨g8,qn j 3,none⟩)) kj kj rfl (fun W=>(QaG _ _ _ .i64 (qn j 3) _ 16 162 rfl kj kj kj kj (by omega))) <| Qd9 rfl <| QiA (hF _ kj fun W10 e10=>?_)
   simp only [List.nil_append,List.cons_append,fins,up]
   clear hF
   have r8_10:=(Qab r8_9 e10)
   have r22_10:=(Qab r22_9 e10)
   refine Qda _ g8 _ (ints .u32 (((qsN x0 j).map wv).set (qn j 0) (wv (qA2 (wget (qsN x0 j) (qn j 0)) (wget (qsN x0 j) (qn j 1)) (wget (qsN x0 j) (qn j 2)) (wget (qsN x0 j) (qn j 3)))))) 199 r8_10 rfl (Qa1 162 _ _ g8 (qn j 0) 199 _ _ r8_10 rfl kj kj kj (Nat.lt_of_lt_of_eq (by omega) (QaZ ((QcK x0 j).trans h0)).symm)) (fun W hp=>Puts.row hp r22_10 (QaA q8_2 l22)) fun W11 p11 r8_11=>?_
   have x11:=Puts.ext p11 (Ext.tr x9 e10) b8
   have r22_11:=(Puts.row p11 r22_10 (QaA q8_2 l22))
   refine Qda _ g8 _ (ints .u32 ((((qsN x0 j).map wv).set (qn j 0) (wv (qA2 (wget (qsN x0 j) (qn j 0)) (wget (qsN x0 j) (qn j 1)) (wget (qsN x0 j) (qn j 2)) (wget (qsN x0 j) (qn j 3))))).set (qn j 1) (wv (qB2 (wget (qsN x0 j) (qn j 0)) (wget (qsN x0 j) (qn j 1)) (wget (qsN x0 j) (qn j 2)) (wget (qsN x0 j) (qn j 3)))))) 199 r8_11 rfl (Qa1 162 _ _ g8 (qn j 1) 199 _ _ r8_11 rfl kj kj kj (Nat.lt_of_lt_of_eq (by omega) ((List.length_set ..).trans (QaZ ((QcK x0 j).trans h0))).symm)) (fun W hp=>Puts.row hp r22_11 (QaA q8_2 l22)) fun W12 p12 r8_12=>?_
   have r22_12:=(Puts.row p12 r22_11 (QaA q8_2 l22))
   refine Qda _ g8 _ (ints .u32 (((((qsN x0 j).map wv).set (qn j 0) (wv (qA2 (wget (qsN x0 j) (qn j 0)) (wget (qsN x0 j) (qn j 1)) (wget (qsN x0 j) (qn j 2)) (wget (qsN x0 j) (qn j 3))))).set (qn j 1) (wv (qB2 (wget (qsN x0 j) (qn j 0)) (wget (qsN x0 j) (qn j 1)) (wget (qsN x0 j) (qn j 2)) (wget (qsN x0 j) (qn j 3))))).set (qn j 2) (wv (qC2 (wget (qsN x0 j) (qn j 0)) (wget (qsN x0 j) (qn j 1)) (wget (qsN x0 j) (qn j 2)) (wget (qsN x0 j) (qn j 3)))))) 199 r8_12 rfl (Qa1 162 _ _ g8 (qn j 2) 199 _ _ r8_12 rfl kj kj kj (Nat.lt_of_lt_of_eq (by omega) ((List.length_set ..).trans ((List.length_set ..).trans (QaZ ((QcK x0 j).trans h0)))).symm)) (fun W hp=>Puts.row hp r22_12 (QaA q8_2 l22)) fun W13 p13 r8_13=>Qda _ g8 _ (ints .u32 ((((((qsN x0 j).map wv).set (qn j 0) (wv (qA2 (wget (qsN x0 j) (qn j 0)) (wget (qsN x0 j) (qn j 1)) (wget (qsN x0 j) (qn j 2)) (wget (qsN x0 j) (qn j 3))))).set (qn j 1) (wv (qB2 (wget (qsN x0 j) (qn j 0)) (wget (qsN x0 j) (qn j 1)) (wget (qsN x0 j) (qn j 2)) (wget (qsN x0 j) (qn j 3))))).set (qn j 2) (wv (qC2 (wget (qsN x0 j) (qn j 0)) (wget (qsN x0 j) (qn j 1)) (wget (qsN x0 j) (qn j 2)) (wget (qsN x0 j) (qn j 3))))).set (qn j 3) (wv (qD2 (wget (qsN x0 j) (qn j 0)) (wget (qsN x0 j) (qn j 1)) (wget (qsN x0 j) (qn j 2)) (wget (qsN x0 j) (qn j 3)))))) 199 r8_13 rfl (Qa1 162 _ _ g8 (qn j 3) 199 _ _ r8_13 rfl kj kj kj (Nat.lt_of_lt_of_eq (by omega) ((List.length_set ..).trans ((List.length_set ..).trans ((List.length_set ..).trans (QaZ ((QcK x0 j).trans h0))))).symm)) (fun W hp=>Puts.row hp (Puts.row p13 r22_12 (QaA q8_2 l22)) (QaA q8_2 l22)) fun W14 p14 r8_14=>Qgy <| hK20 _ _ <| Qac <| Qaa (.int .i64 ((j+1:Nat):Int)) 56 rfl kj (Qad (u:=.int .i64 (IntKind.i64.wrap (((j:Nat):Int)+1))) kj (congrArg (Value.int .i64) (i64n _ _ (by omega) (by omega)))) <| sg 1 kj <| Qae ?_
   repeat (first | with_reducible refine goX1 ?_ | with_reducible refine goX2 ?_ | with_reducible refine goX3 ?_)
   exact Qax (j+1) ⟨kj,kj,kj,kj,kj,kj,trivial⟩ ⟨(by omega),(QaI r8_14 (by rw [show qsN x0 (j+1)=qrt (qsN x0 j) (qn j 0) (qn j 1) (qn j 2) (qn j 3) from rfl]; unfold qrt; simp only [List.map_set])),(Qa2.puts (Qa2.puts (Qa2.puts (Qa2.puts (Qa2.step (Qa2.puts (Qa2.step q7 e8) p9 (.inr (qT (Qa2.size q7) (qT (qR _) l22)))) e10) p11 (.inl (by simp))) p12 (.inl (by simp))) p13 (.inl (by simp))) p14 (.inl (by simp))),(Puts.ext p14 (Puts.ext p13 (Puts.ext p12 x11 b8) b8) b8)⟩ (by show 8-(j+1)<8-j; omega)
  ·skip
   have heq20:j=8:=by have:=of_decide_eq_false c19; omega
   refine wp_exit <| hK14 _ _ <| Qac <| Qaa (.int .i64 ((i+1:Nat):Int)) 57 rfl kj (Qad (u:=.int .i64 (IntKind.i64.wrap (((i:Nat):Int)+1))) kj (congrArg (Value.int .i64) (i64n _ _ (by omega) (by omega)))) <| sg 1 kj <| Qae ?_
   repeat (first | with_reducible refine goX1 ?_ | with_reducible refine goX2 ?_ | with_reducible refine goX3 ?_)
   exact Qax (i+1) ⟨kj,kj,kj,kj,trivial⟩ ⟨(by omega),(QaI q8_2 (by rw [heq20,ex0]; rfl)),(Qa2.keeps q6 q7 (Qgi (.inl (by simp)) QhU)),xx2⟩ (by omega)
 ·skip
  have heq17:i=10:=by have:=of_decide_eq_false c13; omega
  obtain ⟨xF,exF⟩:∃ z:List Wd,z=rounds s 10:=⟨_,rfl⟩
  have hxF:xF.length=16:=by rw [exF,QcR,hs]
  subst heq17
  have r8_6_23:V1.heap[g8]? = some (.cells (ints .u32 (xF.map wv)) 199):=QaI q8_1 (by rw [exF])
  refine wp_exit <| hK9 _ _ <| sgC fun K24 hK24=>Qas (ints .u8 (List.replicate 64 0)) 164 8 rfl kj kj fun g25 W7 l25 e7 r25_7=>sgN hK24 <| wp_seq_k fun K26 hK26=>sgB kj <| wp_block ?_
  have hP:(Qb4 xF s).length=64:=Qeb _ _
  refine QaB (fun (s3:Nat)=>[(2,.pointer (some ⟨g3,0,none⟩)),(4,.pointer (some ⟨g4,0,none⟩)),(5,.pointer (some ⟨g8,0,none⟩)),(8,.pointer (some ⟨g25,0,none⟩)),(58,.int .i64 ((s3:Nat):Int))]) (fun (s3:Nat) W=>(s3≤16)∧(W.heap[g25]? = some (.cells (ints .u8 (Qbo (Qb4 xF s) 64 (4*s3))) 164))∧(Qa2 [g25] W7 W)∧(Ext w W)) (fun (s3:Nat)=>16-s3) 0 ⟨kj,kj,kj,kj,kj,trivial⟩ ⟨(Nat.zero_le _),(QaI r25_7 (Qb1 _ 64)),(Qa2.refl [g25] W7),(Ext.tr xx1 e7)⟩ fun s3 X3 V3 hI3=>?_
  obtain ⟨i,hs3⟩:∃ z,z=s3:=⟨_,rfl⟩
  subst hs3
  obtain ⟨hi,q25_3,kk3,xx3⟩:=hI3
  replace hi:i≤16:=hi
  replace q25_3:V3.heap[g25]? = some (.cells (ints .u8 (Qbo (Qb4 xF s) 64 (4*i))) 164):=q25_3
  replace kk3:Qa2 [g25] W7 V3:=kk3
  replace xx3:Ext w V3:=xx3
  have q8:=kk3
  refine sgB kj <| wp_seq_k fun K29 hK29=>Qa7 (t:=decide (((i:Nat):Int)<16)) kj (fun c30=>?_) (fun c30=>?_)
  ·skip
   have hlt59:i<16:=by have:=of_decide_eq_true c30; omega
   refine wp_skip <| hK29 _ _ <| wp_seq_k fun K31 hK31=>wp_block <| sgB kj <| wp_seq_k fun K33 hK33=>QaX 7 [⟨none,[(9,none)]⟩,⟨none,[(5,none),(61,some 0)]⟩,⟨none,[(62,some 1)]⟩,⟨none,[(9,none)]⟩,⟨none,[(2,none),(64,some 3)]⟩,⟨none,[(65,some 4)]⟩,⟨none,[(63,some 2),(66,some 5)]⟩] kj kj fun F hF=>Qam (.int .i64 ((i:Nat):Int)) kj kj (fun W=>by kernel_rfl) <| Qam (.pointer (some ⟨g8,i,none⟩)) kj kj (fun W=>(QaG _ _ _ .i64 (i) _ 16 162 rfl kj kj kj kj (by omega))) ?_
   have r8_8:=(Qa2.row q8 (Qab r8_6_23 e7) (QaU (Qag r8_6_23 l25) Qbt))
   refine QaN (.int .u32 (wv (wget xF i))) kj kj (fun W hR=>(Qah 162 _ g8 i 199 _ (.int .u32 (wv (wget xF i))) _ (Qab (Qab r8_8 (Qak _)) hR) rfl kj ((QaJ _ _ _ (Nat.lt_of_lt_of_eq (by omega) (QaZ hxF).symm)).trans (congrArg (fun z=>some (Value.int .u32 z)) (Qbv xF i))) kj)) <| Qam (.int .i64 ((i:Nat):Int)) kj kj (fun W=>by kernel_rfl) <| Qam (.pointer (some ⟨g3,i,none⟩)) kj kj (fun W=>(QaG _ _ _ .i64 (i) _ 16 162 rfl kj kj kj kj (by omega))) ?_
   have r3_6:=(Qa2.row q6 (Puts.row p5 (Qab r3_3_6 e4) (Qag r3_3_6 l8)) (QaU (Qag r3_3_6 l8) Qbt))
   refine QaN (.int .u32 (wv (wget s i))) kj kj (fun W hR=>(Qah 162 _ g3 i 199 _ (.int .u32 (wv (wget s i))) _ (Qab (Qab (Qa2.row q8 (Qab r3_6 e7) (QaU (Qag r3_6 l25) Qbt)) (Qak _)) hR) rfl kj ((QaJ _ _ _ (Nat.lt_of_lt_of_eq (by omega) (QaZ hs).symm)).trans (congrArg (fun z=>some (Value.int .u32 z)) (Qbv s i))) kj)) <| Qam (.int .u32 (wv (((wget xF i))+((wget s i))))) kj kj (fun W=>(Qad kj (congrArg (Value.int .u32) (QdF _ _)))) <| Qbf (hF _ kj fun W9 e9=>?_)
   simp only [ups,up,Kn.val,List.take_succ_cons,List.take_zero,List.drop_succ_cons,List.drop_zero,List.nil_append,List.cons_append]
   clear hF
   have x9:=Ext.tr xx3 e9
   refine sg 1 kj <| sgN hK33 <| sgB kj <| wp_block <| QaB (fun (s4:Nat)=>[(2,.pointer (some ⟨g3,0,none⟩)),(4,.pointer (some ⟨g4,0,none⟩)),(5,.pointer (some ⟨g8,0,none⟩)),(8,.pointer (some ⟨g25,0,none⟩)),(58,.int .i64 ((i:Nat):Int)),(9,.int .i64 ((i:Nat):Int)),(10,.int .u32 (wv (wget xF i+wget s i))),(68,.int .i64 ((s4:Nat):Int))]) (fun (s4:Nat) W=>(s4≤4)∧(W.heap[g25]? = some (.cells (ints .u8 (Qbo (Qb4 xF s) 64 (4*i+s4))) 164))∧(Qa2 [g25] W9 W)∧(Ext w W)) (fun (s4:Nat)=>4-s4) 0 ⟨kj,kj,kj,kj,kj,kj,kj,kj,trivial⟩ ⟨(Nat.zero_le _),(QaI (Qab q25_3 e9) rfl),(Qa2.refl [g25] W9),x9⟩ fun s4 X4 V4 hI4=>?_
   obtain ⟨j,hs4⟩:∃ z,z=s4:=⟨_,rfl⟩
   subst hs4
   obtain ⟨hj,q25_4,kk4,xx4⟩:=hI4
   replace hj:j≤4:=hj
   replace q25_4:V4.heap[g25]? = some (.cells (ints .u8 (Qbo (Qb4 xF s) 64 (4*i+j))) 164):=q25_4
   replace kk4:Qa2 [g25] W9 V4:=kk4
   replace xx4:Ext w V4:=xx4
   have q10:=kk4
   refine sgB kj <| wp_seq_k fun K36 hK36=>Qa7 (t:=decide (((j:Nat):Int)<4)) kj (fun c37=>?_) (fun c37=>?_)
   ·skip
    have hlt69:j<4:=by have:=of_decide_eq_true c37; omega
    refine wp_skip <| hK36 _ _ <| wp_seq_k fun K38 hK38=>wp_block <| sgB kj <| Qac <| sg 1 kj <| Qaa (.int .i64 ((4*i:Nat):Int)) 72 rfl kj (Qad (u:=.int .i64 (IntKind.i64.wrap (4*((i:Nat):Int)))) kj (congrArg (Value.int .i64) (i64n _ _ (by omega) (by omega)))) <| sg 1 kj <| Qaa (.int .i64 (((4*i)+j:Nat):Int)) 74 rfl kj (Qad (u:=.int .i64 (IntKind.i64.wrap (((4*i:Nat):Int)+((j:Nat):Int)))) kj (congrArg (Value.int .i64) (i64n _ _ (by omega) (by omega)))) ?_
    refine sg 2 kj <| Qaa (.int .i64 ((8*j:Nat):Int)) 77 rfl kj (Qad (u:=.int .i64 (IntKind.i64.wrap (8*((j:Nat):Int)))) kj (congrArg (Value.int .i64) (i64n _ _ (by omega) (by omega)))) <| Qaa (.int .u32 (wv ((wget xF i+wget s i)>>>(8*j)))) 78 rfl kj (QaP .shr _ _ _ _ .u32 .i64 _ _ _ rfl kj kj (Qdk _ _ _ _ _ _ (by omega) (Qi9 _ _ (8*j) rfl (by omega)))) <| Qaa (.int .u8 (nth (Qb4 xF s) (4*i+j))) 79 rfl kj (Qad (u:=.int .u8 (IntKind.u8.wrap (wv ((wget xF i+wget s i)>>>(8*j))))) kj (congrArg (Value.int .u8) (QkS xF s i j hlt59 hlt69))) <| Qaa (.pointer (some ⟨g25,(4*i)+j,none⟩)) 80 rfl kj (QaG _ _ _ .i64 ((4*i)+j) _ 64 5 rfl kj kj kj kj (by omega)) <| Qal g25 _ (ints .u8 ((Qbo (Qb4 xF s) 64 (4*i+j)).set ((4*i)+j) (nth (Qb4 xF s) (4*i+j)))) 164 q25_4 rfl kj (Qa1 5 _ _ g25 ((4*i)+j) 164 _ _ q25_4 rfl kj kj kj (Nat.lt_of_lt_of_eq (by omega) (Qb5 _ 64 _ hP (by omega)).symm)) fun W11 p11 r25_11=>?_
    have x11:=Puts.ext p11 xx4 (qT xx1.size l25)
    refine Qae <| hK38 _ _ <| Qac <| Qaa (.int .i64 ((j+1:Nat):Int)) 81 rfl kj (Qad (u:=.int .i64 (IntKind.i64.wrap (((j:Nat):Int)+1))) kj (congrArg (Value.int .i64) (i64n _ _ (by omega) (by omega)))) <| sg 1 kj <| Qae ?_
    repeat (first | with_reducible refine goX1 ?_ | with_reducible refine goX2 ?_ | with_reducible refine goX3 ?_)
    exact Qax (j+1) ⟨kj,kj,kj,kj,kj,kj,kj,kj,trivial⟩ ⟨(by omega),(QaI r25_11 (Qb2 _ 64 (4*i+j) hP (by omega))),(Qa2.puts q10 p11 (.inl (by simp))),x11⟩ (by omega)
   ·skip
    have heq69:j=4:=by have:=of_decide_eq_false c37; omega
    refine wp_exit <| hK31 _ _ <| Qac <| Qaa (.int .i64 ((i+1:Nat):Int)) 82 rfl kj (Qad (u:=.int .i64 (IntKind.i64.wrap (((i:Nat):Int)+1))) kj (congrArg (Value.int .i64) (i64n _ _ (by omega) (by omega)))) <| sg 1 kj <| Qae ?_
    repeat (first | with_reducible refine goX1 ?_ | with_reducible refine goX2 ?_ | with_reducible refine goX3 ?_)
    exact Qax (i+1) ⟨kj,kj,kj,kj,kj,trivial⟩ ⟨(by omega),(QaI q25_4 (by rw [heq69]; rfl)),(Qa2.keeps (Qa2.step q8 e9) q10 (Qgi (.inl (by simp)) QhU)),xx4⟩ (by omega)
  ·skip
   have heq59:i=16:=by have:=of_decide_eq_false c30; omega
   subst heq59
   have r25_8_40:V3.heap[g25]? = some (.cells (ints .u8 (Qb4 xF s)) 164):=QaI q25_3 (QbJ _ 64 hP)
   refine wp_exit <| hK26 _ _ <| sgC fun K41 hK41=>Qaa (.agg (ints .u8 (Qb4 xF s))) 83 rfl kj (Qao 164 _ g25 164 _ _ r25_8_40 rfl kj kj (isz (n:=64) kj ((Qaf _ _).trans hP))) ?_
   have r4_3:=(Puts.row p3 r4_2 (QaA r3_1 l4))
   have r4_6:=(Qa2.row q6 (Puts.row p5 (Qab r4_3 e4) (Qag r4_3 l8)) (QaU (Qag r4_3 l8) Qbt))
   have r4_8:=(Qa2.row q8 (Qab r4_6 e7) (QaU (Qag r4_6 l25) Qbt))
   refine Qal g4 _ (ints .u8 (Qb4 xF s)) 164 r4_8 rfl kj (Qav 164 _ _ g4 164 _ _ r4_8 rfl kj kj (isz (n:=64) kj ((Qaf _ _).trans hP)) (eqsz (n:=64) ((Qaf _ _).trans (List.length_replicate (n:=64))) ((Qaf _ _).trans hP)) (QaC _ _)) fun W9 p9 r4_9=>?_
   have x9:=Puts.ext p9 xx3 (qT x1.size l4)
   refine sgN hK41 <| wp_ret ?_
   repeat (first | with_reducible refine goR1 ?_ | with_reducible refine goR2 ?_)
   exact (show bodyPost _ _ _ .ret _ _ from ret1 (.agg (ints .u8 (Qb4 xF s))) rfl (Qbq g4 164 _ r4_9 kj kj (isz (n:=64) kj ((Qaf _ _).trans hP))) ⟨by unfold QaV; rw [exF,es],x9⟩)
end Go.Proofs.YtoiendjhplbjjaaDoor.Cha
end
section
namespace Go.Proofs.YtoiendjhplbjjaaDoor.Cha
open Go Go.RowKit
open Rely Auto Own Sha
open Sha
def QaF (key nonce:List Int):List Wd:=[1634760805,857760878,2036477234,1797285236,le4 (sub4 key 0),le4 (sub4 key 1),le4 (sub4 key 2),le4 (sub4 key 3),le4 (sub4 key 4),le4 (sub4 key 5),le4 (sub4 key 6),le4 (sub4 key 7),0,le4 (sub4 nonce 0),le4 (sub4 nonce 1),le4 (sub4 nonce 2)]
theorem Qdu (key nonce:List Int):(QaF key nonce).length=16:=rfl
theorem Qjt (key nonce:List Int):([1634760805,857760878,2036477234,1797285236,wv (le4 (sub4 key 0)),wv (le4 (sub4 key 1)),wv (le4 (sub4 key 2)),wv (le4 (sub4 key 3)),wv (le4 (sub4 key 4)),wv (le4 (sub4 key 5)),wv (le4 (sub4 key 6)),wv (le4 (sub4 key 7)),0,wv (le4 (sub4 nonce 0)),wv (le4 (sub4 nonce 1)),wv (le4 (sub4 nonce 2))]:List Int)=(QaF key nonce).map wv:=rfl
theorem Qbd (ws : List Wd) (n:Int):(QaV ws n).length=64:=Qeb _ _
set_option maxRecDepth 100000 in
theorem Qkw (key nonce:List Int) (v:Value) (B:Nat) (number:Int) (th tq:TypeId) (w:World) (hh:w.heap[2]? = some (.cells (ints .u32 [1634760805,857760878,2036477234,1797285236]) th)) (hq:w.heap[3]? = some (.cells (ints .i64 [0,4,8,12,1,5,9,13,2,6,10,14,3,7,11,15,0,5,10,15,1,6,11,12,2,7,8,13,3,4,9,14]) tq)) (hkl:key.length=32) (hn:RdK .u8 B nonce v w) (h:nonce.length=12) (h1:0≤number) (h2:number≤4294967295):Calls Tryd.prog 124 #[.agg (ints .u8 key),v,.int .i64 number] w (Ret w (.tuple #[.agg (ints .u8 (QaV (QaF key nonce) number)),.nilIface])):=by
  obtain ⟨a_n,c_n,rfl,-⟩:=id hn
  refine enter 21 [(0,.agg (ints .u8 (key))),(1,.slice a_n nonce.length c_n),(2,.int .i64 number)] Tryd.func124 rfl rfl kj rfl <| sgC fun K3 hK3=>Qas (ints .u8 (key)) 23 3 rfl kj kj fun g4 W1 l4 e1 r4_1=>?_
  have x1:=Ext.tr (Rely.Ext.refl w) e1
  have b4:=qT (Rely.Ext.refl w).size l4
  refine Qas (ints .u8 (List.replicate 64 0)) 164 6 rfl kj kj fun g5 W2 l5 e2 r5_2=>?_
  have x2:=Ext.tr x1 e2
  refine sg 1 kj <| sgN hK3 <| wp_seq_k fun K6 hK6=>sgC fun K7 hK7=>sg 2 kj <| Qan (.nilIface) 122 #[.slice a_n nonce.length c_n,.int .i64 number] 11 rfl kj kj ((check_D nonce _ _ number _ (RdK.ext hn x2) h h1 h2)) fun W3 e3=>?_
  have x3:=Ext.tr x2 e3
  refine sg 1 kj <| sgN hK7 <| sgB kj <| cond_false kj <| wp_skip <| hK6 _ _ <| sgC fun K9 hK9=>Qaa (.agg (ints .u8 (key))) 16 rfl kj (Qao 23 _ g4 23 _ _ (Qab (Qab r4_1 e2) e3) rfl kj kj (isz (n:=32) kj ((Qaf _ _).trans hkl))) <| sg 1 kj <| Qan (.agg (ints .u32 ((QaF key nonce).map wv))) 139 #[.agg (ints .u8 (key)),.slice a_n nonce.length c_n] 18 rfl kj kj ((by rw [←Qjt]; exact Qju key nonce _ _ th _ (Qab (Qab (Qab hh e1) e2) e3) hkl (RdK.ext hn x3) h)) fun W4 e4=>?_
  refine sg 1 kj <| Qan (.agg (ints .u8 (QaV (QaF key nonce) number))) 141 #[.agg (ints .u32 ((QaF key nonce).map wv)),.int .i64 number] 20 rfl kj kj ((Qjy (QaF key nonce) number tq _ (Qab (Qab (Qab (Qab hq e1) e2) e3) e4) (Qdu _ _))) fun W5 e5=>?_
  have r5_5:=(Qab (Qab (Qab r5_2 e3) e4) e5)
  refine Qal g5 _ (ints .u8 (QaV (QaF key nonce) number)) 164 r5_5 rfl kj (Qav 164 _ _ g5 164 _ _ r5_5 rfl kj kj (isz (n:=64) kj ((Qaf _ _).trans (Qbd _ _))) (eqsz (n:=64) ((Qaf _ _).trans (List.length_replicate (n:=64))) ((Qaf _ _).trans (Qbd _ _))) (QaC _ _)) fun W6 p6 r5_6=>sg 1 kj <| sgN hK9 <| wp_ret ?_
  repeat (first | with_reducible refine goR1 ?_ | with_reducible refine goR2 ?_)
  exact (show bodyPost _ _ _ .ret _ _ from ret2 (.agg (ints .u8 (QaV (QaF key nonce) number))) (.nilIface) rfl (Qbq g5 164 _ r5_6 kj kj (isz (n:=64) kj ((Qaf _ _).trans (Qbd _ _)))) (Qaq kj) ⟨rfl,(Puts.ext p6 (Ext.tr (Ext.tr x3 e4) e5) (qT x1.size l5))⟩)
end Go.Proofs.YtoiendjhplbjjaaDoor.Cha
end
section
namespace Go.Proofs.YtoiendjhplbjjaaDoor.Cha
open Go Go.RowKit
open Rely Auto Own Sha
open Sha
theorem Qa5 {b : List Int} (h:Qai b) (j:Nat):0≤nth b j∧nth b j<256:=by
  unfold nth
  rw [List.getD_eq_getElem?_getD]
  rcases Nat.lt_or_ge j b.length with hj | hj
  · rw [List.getElem?_eq_getElem hj]
    have h1:=h _ (List.getElem_mem hj)
    show 0≤b[j]∧b[j]<256
    omega
  · rw [List.getElem?_eq_none hj]; decide
def mxv (text : List Int) (ws:List Wd) (num:Int) (f:Nat→Nat) (m:Nat):List Int:=(List.range m).map fun i=>bits .xor .u8 (nth text i) (nth (QaV ws (num+((f (i/64):Nat):Int))) (i%64))
def mixV (ws : List Wd) (num:Int) (text:List Int):List Int:=mxv text ws num id text.length
theorem Qdp (text : List Int) (ws:List Wd) (num:Int) (f:Nat→Nat) (m:Nat):(mxv text ws num f m).length=m:=by simp [mxv]
theorem QiU (text : List Int) (ws:List Wd) (num:Int) (f:Nat→Nat) (m:Nat):mxv text ws num f (m+1)=mxv text ws num f m++[bits .xor .u8 (nth text m) (nth (QaV ws (num+((f (m/64):Nat):Int))) (m%64))]:=by simp [mxv,List.range_succ]
end Go.Proofs.YtoiendjhplbjjaaDoor.Cha
end
section
namespace Go.Proofs.YtoiendjhplbjjaaDoor.Sha
open Go Go.RowKit
open Rely Auto Own
theorem Qbr {k : IntKind} {B:Nat} {ys:List Int} {a:Option Addr} {n c:Nat} {W:World} (h:RdK k B ys (.slice a n c) W) (h0:0<ys.length):∃ g o,a=some ⟨g,o,none⟩∧g<B∧∀ i,i<ys.length→W.cell? ⟨g,o+i,none⟩=some (.int k (nth ys i)):=by
  obtain ⟨a',cap',e,h2,h3,h4,h5⟩:=h
  simp only [Value.slice.injEq] at e
  obtain ⟨rfl,-,-⟩:=e
  rcases h5 with h5 | ⟨g,o,q1,q2,q3,q4⟩
  · rw [h5] at h0; simp at h0
  · exact ⟨g,o,q1,q2,q4⟩
section
variable {P : Program} {ρ : Operand → Value} {o : Oper} {w : World}
theorem Qaw (t : TypeId) (x y:Operand) (k:IntKind) (n g off len cap:Nat) (e:TypeId) (a:Option Addr) (z:Int) (ha:a=some ⟨g,off,none⟩) (hz:z=(n:Int)) (ho:o.op=.indexAddr t x y) (hx:ρ x=.slice a len cap) (hy:ρ y=.int k z)
    (hu:P.underlying t=some (.slice e)) (hs:(P.info? e).map (·.size)=some 1) (hn:n<len):(execOp ρ o).run P w=.ok (.value (.pointer (some ⟨g,off+n,none⟩))) w:=by
  subst ha; subst hz
  exact Qc5 t x y k n g off len cap e ho hx hy hu hs hn
end
theorem QfM {v : Value}:∀ c∈([]:List Nat),v.ownBlock≠some c:=fun _ h=>by simp at h
theorem Qe9 {v : Value} {g:Nat} {gs:List Nat} (h:v.ownBlock≠some g) (h2:∀ c∈gs,v.ownBlock≠some c):∀ c∈g::gs,v.ownBlock≠some c:=fun c hc=>by
  rcases List.mem_cons.1 hc with e | e
  · rw [e]; exact h
  · exact h2 c e
theorem OwnN.keepsL {k : IntKind} {T:TypeId} {base:Nat} {gs:List Nat} {xs:List Int} {v:Value} {V W:World} (h:OwnN k T base xs v V) (q:Qa2 gs V W) (hn:∀ c∈gs,v.ownBlock≠some c):OwnN k T base xs v W :=
  h.keep fun g hg=>q.block g (h.lt hg) (fun hm=>hn g hm hg)
theorem Qba {P : Program} {ρ:Operand→Value} {o:Oper} {w:World} (x:Operand) (i:Nat) (vs:Array Value) (u:Value) (ho:o.op=.extract x i) (hx:ρ x=.tuple vs) (hi:vs[i]? = some u):(execOp ρ o).run P w=.ok (.value u) w:=by
  unfold execOp
  simp [ho,hx,Instr.extract,hi]
theorem QeV {k : IntKind} {T:TypeId} {base g:Nat} {xs:List Int} {v:Value} {W:World} (h:OwnN k T base xs v W) (hg:W.heap.size≤g):v.ownBlock≠some g:=fun e=>by have:=h.lt e; omega
theorem QaT {k : IntKind} {xs:List Int} {rest:Array Value} {i:Nat} (h:i<xs.length):(ints k xs++rest)[i]? = some (.int k (nth xs i)):=by
  rw [Array.getElem?_append_left (by rw [Qaf]; exact h)]
  exact QaJ k xs i h
theorem QiJ (k : IntKind) (xs:List Int) (rest:Array Value) (i:Nat) (v:Int) (h:i<xs.length):(ints k xs++rest).setIfInBounds i (.int k v)=ints k (xs.set i v)++rest:=by
  apply Array.ext'
  simp [ints,List.set_append_left,h]
theorem Qbk {W : World} {g:Nat} {k:IntKind} {a b:List Int} {rest:Array Value} {t:TypeId} (r:W.heap[g]? = some (.cells (ints k a++rest) t)) (h:a=b):W.heap[g]? = some (.cells (ints k b++rest) t):=h▸r
theorem Qbn {P : Program} {ρ:Operand→Value} {o:Oper} {w:World} {k:IntKind} (ty:TypeId) (x y:Operand) (g off:Nat) (t:TypeId) (rest:Array Value) (xs:List Int) (v:Int) (hg:w.heap[g]? = some (.cells (ints k xs++rest) t))
    (ho:o.op=.store ty x y) (hx:ρ x=.pointer (some ⟨g,off,none⟩)) (hy:ρ y=.int k v) (hi:(P.info? ty).map (·.size)=some 1) (hs:off<xs.length) :
    (execOp ρ o).run P w=.ok .skip (w.setRow g (ints k (xs.set off v)++rest)):=by
  rw [←QiJ k xs rest off v hs]
  exact Qb9 ty x y g off t _ _ hg ho hx hy hi (by rw [qS,Qaf]; simp; omega) rfl rfl
theorem Qby {P : Program} {ρ:Operand→Value} {o:Oper} {w:World} (ty:TypeId) (x y:Operand) (g off:Nat) (t:TypeId) (rest:Array Value) (ws:List Wd) (z:Wd) (hg:w.heap[g]? = some (.cells (ints .u32 (ws.map wv)++rest) t))
    (ho:o.op=.store ty x y) (hx:ρ x=.pointer (some ⟨g,off,none⟩)) (hy:ρ y=.int .u32 (wv z)) (hi:(P.info? ty).map (·.size)=some 1) (hs:off<(ws.map wv).length) :
    (execOp ρ o).run P w=.ok .skip (w.setRow g (ints .u32 ((ws.set off z).map wv)++rest)):=by
  rw [List.map_set]
  exact Qbn ty x y g off t rest _ _ hg ho hx hy hi hs
theorem Qdo {k : IntKind} {T:TypeId} {base n:Nat} {xs:List Int} {v:Value} {W:World} (h:OwnN k T base xs v W) (hn:xs.length=n) (h0:0<n) :
    ∃ g c rest,v=.slice (some ⟨g,0,none⟩) n c∧base≤g∧W.heap[g]? = some (.cells (ints k xs++rest) T)∧n+rest.size=c∧c≤maxLen:=by
  subst hn
  obtain ⟨g,c,cur,h1,h2,h3,h4,h5,h6,h7⟩:=QdL h h0
  have e:cur=ints k xs++(cur.toList.drop xs.length).toArray:=by
    apply Array.ext'
    rw [Array.toList_append]
    show cur.toList=xs.map (Value.int k)++cur.toList.drop xs.length
    rw [←h7,List.take_append_drop]
  refine ⟨g,c,(cur.toList.drop xs.length).toArray,h1,h2,e▸h3,?_,h6⟩
  have h8:((cur.toList.drop xs.length).toArray).size=cur.size-xs.length:=by simp
  omega
theorem Qdc {k : IntKind} {T:TypeId} {g n c:Nat} {xs:List Int} {rest:Array Value} {W:World} (hn:xs.length=n) (r:W.heap[g]? = some (.cells (ints k xs++rest) T)) (hc:n+rest.size=c∧c≤maxLen):RdK k W.heap.size xs (.slice (some ⟨g,0,none⟩) n c) W :=
  Qfo 0 hn r (fun i hi=>by rw [Nat.zero_add]; exact QaT (by omega)) (Qa0 r) (by omega) hc.2
theorem Qk5 (zs : List Int) (m:Nat) (y:Int) (h:m<zs.length):zs.take m++[y]++zs.drop (m+1)=zs.set m y:=by
  rw [List.set_eq_take_append_cons_drop,if_pos h,List.append_assoc]; rfl
theorem QfE {P : Program} {k:IntKind} {T:TypeId} {b:Nat} {ρ:Operand→Value} {o:Oper} {W:World} (s x:Operand) (t:TypeId) (ho:o.op=.call { callee:=.builtin .append,args:=#[s,x],argTypes:=#[t,t] })
    (ht:P.underlying t=some (.slice T)) (hi:(P.info? T).map (fun i=>(i.zero,i.size,i.bytes))=some (some (.int k 0),1,b)) {g m n gy:Nat} {zs:List Int} {y:Int} {Ty:TypeId} (hs:ρ s=.slice (some ⟨g,0,none⟩) m n) (hx:ρ x=.slice (some ⟨gy,0,none⟩) 1 1)
    (hg:W.heap[g]? = some (.cells (ints k zs) T)) (hz:zs.length=n) (hm:m<n) (hy:W.heap[gy]? = some (.cells (ints k [y]) Ty)) :
    (execOp ρ o).run P W=.ok (.value (.slice (some ⟨g,0,none⟩) (m+1) n)) (W.setRow g (ints k (zs.set m y))):=by
  obtain ⟨i,hq,hi1,hi2,hi3⟩:=Qkm hi
  have hr:=run_append_room (P:=P) W t o.type T i ht hq g m n (ints k zs) hg ⟨gy,0,none⟩ 1 1 ([y].map (Value.int k)) (by simp [hi2]) (QiS (k:=k) (ys:=[y]) fun j hj=>by rw [Nat.zero_add]; exact Qdw hy (QaJ k [y] j hj)) (QiQ _ [y]) (by omega) (by rw [hi2,Qaf]; simp; omega)
  have e:((ints k zs).toList.take (m*i.size)++[y].map (Value.int k)++(ints k zs).toList.drop (m*i.size+([y].map (Value.int k)).length)).toArray=ints k (zs.set m y):=by
    rw [←Qk5 zs m y (by omega),hi2,Nat.mul_one]
    simp [ints]
  rw [e] at hr
  unfold execOp
  simp only [ho,resolve,invoke,builtin,Sem.run_bind,Sem.run_pure,Result.andThen_ok,List.map_toArray,List.map_cons,List.map_nil,hs,hx,hr]
section
variable {ds : List Deferred} {Fe : Fence} {nf : Nat} {P : Program} {ops : Array Oper} {Q : Exit → Act → World → Prop} {rest : List Oper} {o : Oper} {N : Nat} {L : Env} {w : World}
theorem Qkn {g : Nat} {old cs:Array Value} {T:TypeId} (v:Value) (d:Nat) (hd:o.dst=some d) (hF:Free Fe nf P) (hnd:Qcj o=true) (hg:QbT ops o N L=some true) (r:w.heap[g]? = some (.cells old T)) (h:(execOp (Rely.look (envN N L)) o).run P w=.ok (.value v) (w.setRow g cs))
    (k:∀ W':World,Puts w g W'→W'.heap[g]? = some (.cells cs T)→WLI Fe nf P ops Q rest (Qaz ds N ((d,v)::L)) W'):WLI Fe nf P ops Q (o::rest) (Qaz ds N L) w :=
  Qil _ _ d hd hF hnd hg h (k _ (QbY _ _ _) (setRow_heap _ _ _ _ _ _ r))
end
section
variable {ds : List Deferred} {P : Program} {ops : Array Oper} {Q : Exit → Act → World → Prop} {rest : List Oper} {o : Oper} {N : Nat} {L : Env} {w : World}
theorem QhF (cs : Array Value) (T:TypeId) (m n d:Nat) (hd:o.dst=some d) (hg:QbT ops o N L=some true) (h:(execOp (Rely.look (envN N L)) o).run P w=.ok (.value (.slice (some ⟨w.heap.size,0,none⟩) m n)) (w.alloc (.cells cs T)))
    (k:∀ (g:Nat) (W:World),w.heap.size≤g→Ext w W→W.heap[g]? = some (.cells cs T)→WL P ops Q rest (Qaz ds N ((d,.slice (some ⟨g,0,none⟩) m n)::L)) W):WL P ops Q (o::rest) (Qaz ds N L) w :=
  Qcn _ _ d hd hg h (k _ _ (qR _) (QbU _ _) (heap_alloc_new _ _))
end
theorem QhJ {P : Program} {ρ:Operand→Value} {o:Oper} {w:World} {k:IntKind} (t:TypeId) (x y:Operand) (kl kc:IntKind) (m n:Nat) (e:TypeId) (ho:o.op=.makeSlice t x y) (hx:ρ x=.int kl m) (hy:ρ y=.int kc n)
    (hu:P.underlying t=some (.slice e)) (hi:(P.info? e).map (fun i=>(i.zero,i.size,i.bytes))=some (some (.int k 0),1,8)∨(P.info? e).map (fun i=>(i.zero,i.size,i.bytes))=some (some (.int k 0),1,1)) (hm:m≤n) (hn:n≤16777216) :
    (execOp ρ o).run P w=.ok (.value (.slice (some ⟨w.heap.size,0,none⟩) m n)) (w.alloc (.cells (ints k (List.replicate n 0)) e)):=by
  cases hq:P.info? e with
  | none=>rcases hi with hi | hi <;> simp [hq] at hi
  | some i =>
    have hz:i.zero=some (.int k 0)∧i.size=1∧i.bytes≤8:=by
      rcases hi with hi | hi <;> simp [hq] at hi <;> exact ⟨hi.1,hi.2.1,by omega⟩
    have hb:(i.bytes:Int)*(n:Int)≤281474976710656:=by
      have h1:(i.bytes:Int)*(n:Int)≤8*(n:Int):=Int.mul_le_mul_of_nonneg_right (by omega) (by omega)
      omega
    have h:=run_make w t e i (.int k 0) hu hq hz.1 kl kc (m:Int) (n:Int) (by omega) (by omega) hb (by omega)
    rw [hz.2.1,Int.toNat_natCast,Int.toNat_natCast,QeA] at h
    unfold execOp
    simp only [ho,hx,hy,Sem.run_bind,Sem.run_pure,h,Result.andThen_ok]
theorem Qen {gs : List Nat} {V W:World} (q:Qa2 gs V W) (h:∀ g∈gs,∃ cs t,V.heap[g]? = some (.cells cs t)):KeepsOthers V W :=
  ⟨q.size,fun k o hk ho=>by
    by_cases e:k∈gs
    · obtain ⟨cs,t,r⟩:=h k e
      rw [r] at hk
      cases hk
      cases ho
    · exact (q.block k (Qa0 hk) e).trans hk⟩
end Go.Proofs.YtoiendjhplbjjaaDoor.Sha
end
section
namespace Go.Proofs.YtoiendjhplbjjaaDoor.Auto
open Go Go.RowKit
open Rely Own
variable {ds : List Deferred}
section
variable {P : Program} {R : World → World → Prop} {w0 : World} {N : Nat} {L : Env} {F : List KE → Prop} {o : Oper} {os : List Oper} {s : Src} {ss : List Src} {C : List KE}
theorem x_op (k : KE) (hk0:k.ok R) (hs:seen (C.map KE.kn) o s=true) (hg:gOk s.guard (get (envS N L ((C.map KE.kn).map Kn.val) s.reads))=true)
    (h:∀ W,R w0 W→QbV P R W k.fact ((execOp (Rely.look (get (envS N L ((C.map KE.kn).map Kn.val) s.reads))) o).run P W))
    (hk:Qbm P R w0 N L F os ss (C++[k])):Qbm P R w0 N L F (o::os) (s::ss) C :=
  ⟨k,hk0,fun ρ W hR hh=>by
    have hh':Qcy (envN N L) ((C.map KE.kn).map (Kn.fact 0)) ρ W s.reads:=by
      refine QgM s.reads ?_ hh
      have:=hs
      simp only [seen,Bool.and_eq_true] at this
      exact this.1.1.2
    rw [Qc4 hs hh']
    refine Qca hg ?_
    unfold QcH
    rw [QcQ hs hh']
    exact h W hR,hk⟩
theorem Qi7 (hrf : ∀ W,R W W) (v:Value) (hs:seen (C.map KE.kn) o s=true) (hg:gOk s.guard (get (envS N L ((C.map KE.kn).map Kn.val) s.reads))=true)
    (h:∀ W,R w0 W→(execOp (Rely.look (get (envS N L ((C.map KE.kn).map Kn.val) s.reads))) o).run P W=.ok (.value v) W)
    (hk:Qbm P R w0 N L F os ss (C++[.is v])):Qbm P R w0 N L F (o::os) (s::ss) C :=
  x_op (.is v) trivial hs hg (fun W hR=>by rw [h W hR]; exact ⟨hrf _,rfl⟩) hk
end
theorem Qhz {P : Program} {Fe:Fence} {nf:Nat} {id:Nat} {Q:Exit→Act→World→Prop} {N:Nat} {L:Env} {w:World} {l:List Oper} (R:World→World→Prop) (hrf:∀ W,R W W) (htr:∀ {a b c:World},R a b→R b c→R a c) (n:Nat) (S:List Src) (hFr:Free Fe nf P) (hdf:(l.all Qcj)=true) (hm:P.follows .mixedOrders=true) (hok:ok l n N S=true)
    (h:∀ F:List KE→Prop,(∀ C,(∀ W,R w.drew W→finE (fun L W=>WLI Fe nf P l.toArray Q (l.drop n) (Qaz ds N L) W) (l.take n) C L W)→F C)→Qbm P R w.drew N L F (l.take n) S []) :
    (Code.region id l.toArray true).wpIn Fe nf P Q (Qaz ds N L) w:=by
  refine Qeq R n N S hFr.fn hFr.dp hFr.calls hdf hm hok (QcP N L) hrf (fun a b=>htr a b) fun F r0 hr hF=>?_
  rw [QbL] at hr
  subst hr
  have:=h (fun C=>∀ W,R w.drew W→finE (fun L W=>WLI Fe nf P l.toArray Q (l.drop n) (Qaz ds N L) W) (l.take n) C L W) (fun C h=>h)
  exact Qc0 (G:=F) (fun C h=>hF.out fun W hR=>Qir (Q:=fun a W=>wpListIn Fe nf P l.toArray Q (l.drop n) a W) _ _ _ (Qdq (fun L W h=>h.out) _ _ _ _ (h W hR))) _ _ [] this
def QeJ (g : Nat) (X Y:Obj) (A B:World):Prop:=ExtB g A B∧(B.heap[g]? = A.heap[g]?∨B.heap[g]? = some Y)
theorem Qiv (g : Nat) (A:World):ExtB g A A:=⟨rfl,rfl,rfl,qR _,fun _ _ _=>rfl⟩
theorem Qh1 {g : Nat} {A B C:World} (h:ExtB g A B) (k:ExtB g B C):ExtB g A C :=
  ⟨k.1.trans h.1,k.2.1.trans h.2.1,k.2.2.1.trans h.2.2.1,qT h.2.2.2.1 k.2.2.2.1,fun i hi hn=>(k.2.2.2.2 i (qL hi h.2.2.2.1) hn).trans (h.2.2.2.2 i hi hn)⟩
theorem QeJ.refl (g : Nat) (X Y:Obj) (A:World):QeJ g X Y A A:=⟨Qiv g A,.inl rfl⟩
theorem QeJ.trans {g : Nat} {X Y:Obj} {A B C:World} (h:QeJ g X Y A B) (k:QeJ g X Y B C):QeJ g X Y A C :=
  ⟨Qh1 h.1 k.1,by
    rcases k.2 with q | q
    · rcases h.2 with r | r
      · exact .inl (q.trans r)
      · exact .inr (q.trans r)
    · exact .inr q⟩
theorem QeJ.row {g : Nat} {X Y:Obj} {A B:World} (h:QeJ g X Y A B) (hX:A.heap[g]? = some X):B.heap[g]? = some X∨B.heap[g]? = some Y:=by
  rcases h.2 with q | q
  · exact .inl (q.trans hX)
  · exact .inr q
theorem QeJ.stable (g : Nat) (X Y:Obj) (v:Value):Qb8 (QeJ g X Y) (fun u W=>u=v∧W.heap[g]? = some Y):=fun _ _ _ hR h=>⟨h.1,by
  rcases hR.2 with q | q
  · exact q.trans h.2
  · exact q⟩
theorem RdK.keepC {k : IntKind} {B:Nat} {gs:List Nat} {ys:List Int} {v:Value} {V W:World} (h:RdK k B ys v V) (q:Qcl gs V W) (hc:∀ c∈gs,B≤c):RdK k B ys v W:=by
  obtain ⟨a,cap,rfl,h1,h2,h3,h4⟩:=h
  refine ⟨a,cap,rfl,h1,h2,h3,?_⟩
  rcases h4 with h4 | ⟨g,o,e,hB,hl,hcell⟩
  · exact .inl h4
  · exact .inr ⟨g,o,e,hB,qL hl q.1,fun i hi=>q.cell (hcell i hi) (fun hm=>by have:=hc g hm; omega)⟩
theorem OwnN.keepC {k : IntKind} {T:TypeId} {base:Nat} {gs:List Nat} {xs:List Int} {v:Value} {V W:World} (h:OwnN k T base xs v V) (q:Qcl gs V W) (hc:∀ c∈gs,c<base):OwnN k T base xs v W:=by
  refine h.keep fun g hg=>?_
  have hge:=h.ge hg
  rcases h.1.2 with ⟨rfl,_⟩ | ⟨g',c,cur,rfl,h2,h3,_⟩
  · cases hg
  · obtain rfl:g'=g:=by simpa [Value.ownBlock] using hg
    rw [h3]
    exact q.2 _ _ _ _ h3 (fun hm=>by have:=hc _ hm; omega)
end Go.Proofs.YtoiendjhplbjjaaDoor.Auto
end
section
namespace Go.Proofs.YtoiendjhplbjjaaDoor.Auto
open Go Go.RowKit
open Rely Own
variable {ds : List Deferred} {Fe : Fence} {nf : Nat}
section
variable {P : Program} {ops : Array Oper} {Q : Exit → Act → World → Prop} {rest : List Oper} {o : Oper} {N : Nat} {L : Env} {w : World}
theorem Qko (v : Value) (f:FuncId) (args:Array Value) (d:Nat) (hd:o.dst=some d) (hF:Free Fe nf P) (hnd:Qcj o=true) (hg:QbT ops o N L=some true) (h:(execOp (Rely.look (envN N L)) o).run P w=.ok (.enter f args) w)
    (hc:Calls P f args w (Ret w v)) (k:∀ W:World,Ext w W→WLI Fe nf P ops Q rest (Qaz ds N ((d,v)::L)) W):WLI Fe nf P ops Q (o::rest) (Qaz ds N L) w :=
  Qim hF hnd hg fun K hK=>by
    rw [h]
    refine ⟨hF.dp,(hF.calls hc).mono ?_⟩
    rintro e w' ⟨rfl,hw⟩
    show K _ _
    rw [hd,Qb3]
    exact hK _ _ (k _ hw)
end
section
variable {P : Program} {Q : Exit → Act → World → Prop} {w : World} {N : Nat} {L : Env}
end
theorem QfG (N : Nat) (L:Env) (p q:Nat) (v u:Value):({ tmps:=(#[p,q].zip #[v,u]).foldl (fun t (p,v)=>t.setIfInBounds p v) (Qaz ds N L).tmps,defers:=[] }:Act)=Qaz [] N ((q,u)::(p,v)::L):=by
  rw [←Qb3,←Qb3]
  simp [Act.put,Qaz]
theorem Qgf {α : Type} {P:Program} {g:Operand} {p q:Tmp} {assign body:Code} {Q:Exit→Act→World→Prop} {N:Nat} {L:Env} {w:World}
    {gf:Nat} {lb:Array Value} (hg:Rely.look (envN N L) g=.func (.func gf) #[] lb) (eg:∀ args w,(callFunc gf args).run P w=.ok (.enter gf args) w)
    {enc enc2:α→Value} {Kp:World→World→Prop} {S Sp:List α→Prop} {M:Nat} {w0:World} (hseq:SeqStopsK Fence.wide 2 P gf lb (fun x=>#[enc x,enc2 x]) Kp S Sp M w0)
    (hKt:∀ {A B C:World},Kp A B→Kp B C→Kp A C) (hKb:∀ (W:World) (l:Nat) (o o':Obj),w.heap.size≤l→W.heap[l]? = some o→o.isCells=false→o.isWalk=false→Kp W (W.putObj l o')) (hb0:Below w0.heap.size w0 w)
    (I:List α→World→Prop) (Ix:Code→List α→World→Prop) (hI:OwnFrom w.heap.size I) (hIx:∀ c,OwnFrom w.heap.size (Ix c)) (h0:I [] w)
    (hKe:∀ {A B:World},Ext A B→Kp A B) (hIe:∀ pre {A B:World},I pre A→Ext A B→I pre B) (hIs:∀ pre W,I pre W→w.heap.size≤W.heap.size)
    (asg:α→Nat→Env) (cs:α→Array Value) (T:TypeId)
    (hassign:∀ (l:Nat) (x:α) (W:World) (K:Act→World→Prop),(∀ g W',W.heap.size≤g→Ext W W'→W'.heap[g]? = some (.cells (cs x) T)→K (Qaz [] N (asg x g++L)) W')→assign.wpIn (Fence.wide.inRound l) 1 P (Exit.then K (fun _ _ _=>False)) (Qaz [] N ((q,enc2 x)::(p,enc x)::L)) W)
    (hbody:∀ (l:Nat) (pre:List α) (x:α) (g:Nat) (W:World),w.heap.size≤g→I pre W→W.heap[g]? = some (.cells (cs x) T)→pre.length<M→body.wpIn (Fence.wide.inRound l) 1 P (ownPostK Kp I Ix (pre++[x]) W) (Qaz [] N (asg x g++L)) W)
    (hdone:∀ (D:Nat) (xs:List α) (W:World),w.heap.size≤D→S xs→I xs W→W.heap[D]? = some (.deferred (some []))→Q .normal (Qaz (mark D::ds) N L) W)
    (hstop:∀ (D:Nat) (c:Code) (pre:List α) (W:World),w.heap.size≤D→Sp pre→Ix c pre W→W.heap[D]? = some (.deferred (some []))→c.wp P Q (Qaz (mark D::ds) N L) W) :
    (Code.rangeFunc g #[p,q] assign body).wp P Q (Qaz ds N L) w:=by
  refine (wpIn_wide (n:=3)).1 <| wpIn_rangeFunc_ownH rfl (by omega) (by rw [QbK]; exact hg) trivial eg (w0:=w0) hseq hKt hKb hb0 (fun _=>rfl) I Ix hI hIx h0
    (fun x a' W=>∃ g,a'=Qaz [] N (asg x g++L)∧w.heap.size≤g∧W.heap[g]? = some (.cells (cs x) T)) ?_ (fun l pre x W K hi hK=>?_) ?_ ?_ ?_
  · rintro x a' _ X Y row ⟨g,e,hl,r⟩ hgr hr
    exact ⟨g,e,hl,Qdb r hgr (fun q e=>(hr q e).2)⟩
  · rw [QfG]
    refine hassign l x W K fun g W' hg' e r=>hK _ _ ((Qij e).from _) (hKe e) (hIe pre hi e) ⟨g,rfl,qT (hIs pre W hi) hg',r⟩
  · rintro l pre x a' W _ _ hi ⟨g,rfl,hl,r⟩ hlen
    exact wpIn_mono (hbody l pre x g W hl hi r hlen) ownPostG_of_ownPostK
  · intro D xs W h1 h2 h3 h4
    exact hdone D xs W h1 h2 h3 h4
  · intro D c pre W h1 h2 h3 h4
    exact wpIn_wide.2 (hstop D c pre W h1 h2 h3 h4)
theorem Qgl {α : Type} {P:Program} {body:Code} {Q:Exit→Act→World→Prop} {N:Nat} {L:Env} {w:World} (live:α→Env) (I:α→World→Prop) (μ:α→Nat) (s0:α) (hL:Qgv L (live s0)) (h0:I s0 w)
    (round:∀ (s:α) (X:Env) (W:World),I s W→body.wpIn Fe nf P (Exit.then (Goes ds N live I μ s) Q) (Qaz ds N (live s++X)) W):(Code.loop body).wpIn Fe nf P Q (Qaz ds N L) w:=by
  rw [←QeF hL]
  refine Go.wpIn_loop_ghost (fun n a W=>∃ (s:α) (X:Env),a=Qaz ds N (live s++X)∧I s W∧μ s=n) (μ s0) ⟨s0,L,rfl,h0,rfl⟩ ?_
  rintro n a W ⟨s,X,rfl,hI,rfl⟩
  refine wpIn_mono (round s X W hI) fun e a' w' h=>?_
  cases e <;> try exact h
  obtain ⟨s',X',h1,h2,h3⟩:=h
  exact ⟨μ s',h3,s',X',h1,h2,rfl⟩
theorem Qh0 {P : Program} {id:Nat} {Q:Exit→Act→World→Prop} {N:Nat} {L:Env} {w:World} {l:List Oper} (n:Nat) (S:List Src) (hFr:Free Fe nf P) (hdf:(l.all Qcj)=true) (hm:P.follows .mixedOrders=true) (hok:ok l n N S=true)
    (h:∀ F:List KE→Prop,(∀ C,(∀ W,Ext w W→finE (fun L W=>WLI Fe nf P l.toArray Q (l.drop n) (Qaz ds N L) W) (l.take n) C L W)→F C)→Qbm P Ext w.drew N L F (l.take n) S []) :
    (Code.region id l.toArray true).wpIn Fe nf P Q (Qaz ds N L) w :=
  Qhz Ext Rely.Ext.refl Rely.Ext.trans n S hFr hdf hm hok fun F hF=>h F fun C hC=>hF C fun W hR=>hC W (Rely.Ext.trans (Qak w) hR)
section
variable {P : Program} {ops : Array Oper} {Q : Exit → Act → World → Prop} {rest : List Oper} {o : Oper} {N : Nat} {L : Env} {W : World}
end
theorem goXj {K : Act→World→Prop} {Q:Exit→Act→World→Prop} {a:Act} {w:World} {n m:Nat} (h:n≠m) (k:Q (.exit n) a w):Exit.inBlock m Q (.exit n) a w:=by
  unfold Exit.inBlock
  simp [h]
  exact k
end Go.Proofs.YtoiendjhplbjjaaDoor.Auto
end
section
namespace Go.Proofs.YtoiendjhplbjjaaDoor.Cha
open Go Go.RowKit
open Rely Auto Own Sha
open Sha
set_option maxRecDepth 100000 in
theorem QfJ (m : Nat) (gs:List Nat) (g1 g2:Nat) (ws:List Wd) (number:Int) (r:Nat) (tq:TypeId) (w:World) (hr:number+(r:Int)=4294967296) (h1:0≤number) (h2:number≤4294967295) (hw:ws.length=16)
  (hqw:w.heap[3]? = some (.cells (ints .i64 [0,4,8,12,1,5,9,13,2,6,10,14,3,7,11,15,0,5,10,15,1,6,11,12,2,7,8,13,3,4,9,14]) tq)) (r1w:w.heap[g1]? = some (.cells #[.int .i64 number] 3)) (r2w:w.heap[g2]? = some (.cells (ints .u32 (ws.map wv)) 199)) (n1:g1∉gs) (n2:g2∉gs) (nq:3∉gs) :
  SeqStopsK Fence.wide m Tryd.prog 140 #[.pointer (some ⟨g1,0,none⟩),.pointer (some ⟨g2,0,none⟩)] (fun i:Nat=>#[Value.int .i64 (number+((i:Nat):Int)),Value.agg (ints .u8 (QaV ws (number+((i:Nat):Int))))]) (Qcl gs) (fun ys=>ys=List.range r) (fun ys=>∃ k,ys=List.range k∧k≤r) r w:=fun l J Jx Wi hW hJ hJx hY h0=>by
 refine callsIn_wide.2 ?_
 have hqi:=Qab hqw hW
 have r1:=Qab r1w hW
 refine enter 17 [(0,.func (.yield l) #[] #[]),(1,.pointer (some ⟨g1,0,none⟩)),(2,.pointer (some ⟨g2,0,none⟩))] Tryd.func140 rfl rfl kj rfl <| sgC fun K4 hK4=>Qaa (.int .i64 number) 5 rfl kj (Qah 3 _ g1 0 3 _ (.int .i64 number) _ r1 rfl kj kj kj) <| sg 1 kj <| sgN hK4 <| wp_block <| QaB (fun (s1:Nat)=>[(0,.func (.yield l) #[] #[]),(1,.pointer (some ⟨g1,0,none⟩)),(2,.pointer (some ⟨g2,0,none⟩)),(4,.int .i64 (number+((s1:Nat):Int)))]) (fun (s1:Nat) W=>(s1≤r)∧(J (List.range s1) W)∧(W.heap[g1]? = some (.cells #[.int .i64 number] 3))∧(W.heap[g2]? = some (.cells (ints .u32 (ws.map wv)) 199))∧(W.heap[3]? = some (.cells (ints .i64 [0,4,8,12,1,5,9,13,2,6,10,14,3,7,11,15,0,5,10,15,1,6,11,12,2,7,8,13,3,4,9,14]) tq))∧(Grew Wi W)) (fun (s1:Nat)=>r-s1) 0 ⟨kj,kj,kj,(congrArg (Value.int .i64) (show number=number+((0:Nat):Int) by omega)),trivial⟩ ⟨(Nat.zero_le _),(show J (List.range 0) _ from h0),r1,(Qab r2w hW),hqi,(Grew.refl Wi)⟩ fun s1 X1 V1 hI1=>?_
 obtain ⟨k,hs1⟩:∃ z,z=s1:=⟨_,rfl⟩
 subst hs1
 obtain ⟨hkl_,hJ1,rr1,rr2,rrq,xx1⟩:=hI1
 replace hkl_:k≤r:=hkl_
 replace hJ1:J (List.range k) V1:=hJ1
 replace rr1:V1.heap[g1]? = some (.cells #[.int .i64 number] 3):=rr1
 replace rr2:V1.heap[g2]? = some (.cells (ints .u32 (ws.map wv)) 199):=rr2
 replace rrq:V1.heap[3]? = some (.cells (ints .i64 [0,4,8,12,1,5,9,13,2,6,10,14,3,7,11,15,0,5,10,15,1,6,11,12,2,7,8,13,3,4,9,14]) tq):=rrq
 replace xx1:Grew Wi V1:=xx1
 refine wp_seq_k fun K5 hK5=>sgB kj <| Qa7 (t:=decide ((number+((k:Nat):Int))≤4294967295)) kj (fun c7=>?_) (fun c7=>?_)
 ·skip
  have hlt:k<r:=by have:=of_decide_eq_true c7; omega
  refine wp_skip <| hK5 _ _ <| wp_seq_k fun K8 hK8=>wp_block <| wp_seq_k fun K9 hK9=>(wpIn_wide (n:=m)).1 <| QbM <| Qci (.func (.yield l) #[] #[]) 10 rfl (QbR _ _) rfl kj kj <| Qci (.int .i64 (number+((k:Nat):Int))) 11 rfl (QbR _ _) rfl kj kj <| Qci (.agg (ints .u32 (ws.map wv))) 12 rfl (QbR _ _) rfl kj (Qao 199 _ g2 199 _ _ rr2 rfl kj kj (isz (n:=16) kj ((Qaf _ _).trans (QaZ hw)))) ?_
  refine Qci (.int .i64 (number+((k:Nat):Int))) 13 rfl (QbR _ _) rfl kj kj <| Qko (.agg (ints .u8 (QaV ws (number+((k:Nat):Int))))) 141 #[.agg (ints .u32 (ws.map wv)),.int .i64 (number+((k:Nat):Int))] 14 rfl (QbR _ _) rfl kj kj ((Qjy ws (number+((k:Nat):Int)) tq _ rrq hw)) fun W2 e2=>QiX (m:=m) (l:=l) (args:=#[.int .i64 (number+((k:Nat):Int)),.agg (ints .u8 (QaV ws (number+((k:Nat):Int))))]) 15 rfl rfl kj kj (hY (List.range k) k W2 (Qh7 hJ hJ1 (Rely.Ext.trans (Rely.Ext.refl V1) e2)) (by rw [List.length_range]; omega)) (fun W' hA=>?_) (fun W' hA=>?_)
  ·skip
   obtain ⟨W3,hW3⟩:∃ z,z=W':=⟨_,rfl⟩
   rw [←hW3] at hA ⊢
   obtain ⟨hj10,hk10⟩:=hA
   refine Qci (.bool false) 16 rfl (QbR _ _) rfl kj kj <| QdQ <| hK9 _ _ <| cond_false kj <| wp_skip <| hK8 _ _ <| Qac <| sg 1 kj <| Qaa (.int .i64 (number+((k+1:Nat):Int))) 9 rfl kj (Qad (u:=.int .i64 (IntKind.i64.wrap ((number+((k:Nat):Int))+1))) kj (congrArg (Value.int .i64) (by rw [show number+((k:Nat):Int)+1=number+((k+1:Nat):Int) by omega]; exact IntWalk.i64_in _ (by omega)))) ?_
   refine sg 1 kj <| Qae ?_
   repeat (first | with_reducible refine goX1 ?_ | with_reducible refine goX2 ?_ | with_reducible refine goX3 ?_)
   exact Qax (k+1) ⟨kj,kj,kj,kj,trivial⟩ ⟨(by omega),(by rw [List.range_succ]; exact hj10),(Qcl.row hk10 (Qab rr1 e2) n1),(Qcl.row hk10 (Qab rr2 e2) n2),(Qcl.row hk10 (Qab rrq e2) nq),(Grew.keepC (Grew.ext xx1 e2) hk10)⟩ (by show r-(k+1)<r-k; omega)
  ·skip
   obtain ⟨W3,hW3⟩:∃ z,z=W':=⟨_,rfl⟩
   rw [←hW3] at hA ⊢
   refine Qci (.bool true) 16 rfl (QbR _ _) rfl kj kj <| QdQ <| hK9 _ _ <| cond_true kj <| wp_ret ?_
   repeat (first | with_reducible refine goR1 ?_ | with_reducible refine goR2 ?_)
   exact (show bodyPost _ _ _ .ret _ _ from ret0 rfl ⟨⟨_,rfl⟩,.inr ⟨_,⟨k+1,List.range_succ.symm,hlt⟩,hA⟩⟩)
 ·skip
  have hke:k=r:=by have:=of_decide_eq_false c7; omega
  refine wp_exit ?_
  repeat (first | with_reducible refine goX1 ?_ | with_reducible refine goX2 ?_ | with_reducible refine goX3 ?_)
  exact (show bodyPost _ _ _ .normal _ _ from end0 rfl ⟨⟨_,rfl⟩,.inl ⟨_,congrArg List.range hke,hJ1⟩⟩)
set_option maxRecDepth 100000 in
theorem QiM (key nonce:List Int) (v:Value) (B:Nat) (number:Int) (th tq:TypeId) (w:World) (hh:w.heap[2]? = some (.cells (ints .u32 [1634760805,857760878,2036477234,1797285236]) th)) (hq:w.heap[3]? = some (.cells (ints .i64 [0,4,8,12,1,5,9,13,2,6,10,14,3,7,11,15,0,5,10,15,1,6,11,12,2,7,8,13,3,4,9,14]) tq)) (hkl:key.length=32) (hn:RdK .u8 B nonce v w) (h:nonce.length=12) (h1:0≤number) (h2:number≤4294967295):Calls Tryd.prog 123 #[.agg (ints .u8 key),v,.int .i64 number] w (QbD w (fun v W=>∃ g1 g2,v=.func (.func 140) #[] #[.pointer (some ⟨g1,0,none⟩),.pointer (some ⟨g2,0,none⟩)]∧w.heap.size≤g1∧w.heap.size≤g2∧W.heap[g1]? = some (.cells #[.int .i64 number] 3)∧W.heap[g2]? = some (.cells (ints .u32 ((QaF key nonce).map wv)) 199))):=by
  obtain ⟨a_n,c_n,rfl,-⟩:=id hn
  refine enter 16 [(0,.agg (ints .u8 (key))),(1,.slice a_n nonce.length c_n),(2,.int .i64 number)] Tryd.func123 rfl rfl kj rfl <| sgC fun K3 hK3=>Qas (ints .u8 (key)) 23 3 rfl kj kj fun g4 W1 l4 e1 r4_1=>?_
  have x1:=Ext.tr (Rely.Ext.refl w) e1
  have b4:=qT (Rely.Ext.refl w).size l4
  refine Qas (#[.int .i64 number]) 3 5 rfl kj kj fun g5 W2 l5 e2 r5_2=>?_
  have x2:=Ext.tr x1 e2
  refine sg 1 kj <| sgN hK3 <| wp_seq_k fun K6 hK6=>sgC fun K7 hK7=>sg 1 kj <| Qaa (.int .i64 number) 9 rfl kj (Qah 3 _ g5 0 3 _ (.int .i64 number) _ r5_2 rfl kj kj kj) <| Qan (.nilIface) 122 #[.slice a_n nonce.length c_n,.int .i64 number] 10 rfl kj kj ((check_D nonce _ _ number _ (RdK.ext hn x2) h h1 h2)) fun W3 e3=>?_
  have x3:=Ext.tr x2 e3
  refine sg 1 kj <| sgN hK7 <| cond_false kj <| wp_skip <| hK6 _ _ <| sgC fun K8 hK8=>Qaa (.agg (ints .u8 (key))) 12 rfl kj (Qao 23 _ g4 23 _ _ (Qab (Qab r4_1 e2) e3) rfl kj kj (isz (n:=32) kj ((Qaf _ _).trans hkl))) <| sg 1 kj <| Qan (.agg (ints .u32 ((QaF key nonce).map wv))) 139 #[.agg (ints .u8 (key)),.slice a_n nonce.length c_n] 14 rfl kj kj ((by rw [←Qjt]; exact Qju key nonce _ _ th _ (Qab (Qab (Qab hh e1) e2) e3) hkl (RdK.ext hn x3) h)) fun W4 e4=>?_
  have x4:=Ext.tr x3 e4
  refine Qas (ints .u32 ([0,0,0,0,0,0,0,0,0,0,0,0,0,0,0,0])) 199 7 rfl kj kj fun g9 W5 l9 e5 r9_5=>?_
  have b9:=qT x4.size l9
  refine Qal g9 _ (ints .u32 ((QaF key nonce).map wv)) 199 r9_5 rfl kj (Qav 199 _ _ g9 199 _ _ r9_5 rfl kj kj (isz (n:=16) kj ((Qaf _ _).trans (QaZ (Qdu _ _)))) (eqsz (n:=16) kj ((Qaf _ _).trans (QaZ (Qdu _ _)))) (QaC _ _)) fun W6 p6 r9_6=>sgN hK8 <| sgB kj <| wp_ret ?_
  repeat (first | with_reducible refine goR1 ?_ | with_reducible refine goR2 ?_)
  have r5_4:=(Qab (Qab r5_2 e3) e4)
  exact (show bodyPost _ _ _ .ret _ _ from ret1 (.func (.func 140) #[] #[.pointer (some ⟨g5,0,none⟩),.pointer (some ⟨g9,0,none⟩)]) rfl (Qaq kj) ⟨_,rfl,(Puts.ext p6 (Ext.tr x4 e5) b9),_,_,rfl,(qT x1.size l5),b9,(Puts.row p6 (Qab r5_4 e5) (Qag r5_4 l9)),r9_6⟩)
end Go.Proofs.YtoiendjhplbjjaaDoor.Cha
end
section
namespace Go.Proofs.YtoiendjhplbjjaaDoor.Cha
open Go Go.RowKit
open Rely Auto Own Sha
open Sha
def pg (pre : List Nat) (j:Nat):Nat:=pre.getD j 0
theorem Qka (pre : List Nat) (x:Nat):pg (pre++[x]) pre.length=x:=by simp [pg]
theorem Qli (pre : List Nat) (x j:Nat) (h:j<pre.length):pg (pre++[x]) j=pg pre j:=by
  unfold pg
  rw [List.getD_eq_getElem?_getD,List.getD_eq_getElem?_getD,List.getElem?_append_left h]
theorem QiN (k j:Nat) (h:j<k):pg (List.range k) j=j:=by
  unfold pg
  rw [List.getD_eq_getElem?_getD,List.getElem?_range h]; rfl
theorem QgD (text : List Int) (ws:List Wd) (num:Int) (f g:Nat→Nat) (n m:Nat) (h:∀ i,i<m→f (i/64)=g (i/64)):(mxv text ws num f n).take m=(mxv text ws num g n).take m:=by
  unfold mxv
  rw [←List.map_take,←List.map_take,List.take_range]
  refine List.map_congr_left fun i hi=>?_
  rw [List.mem_range] at hi
  rw [h i (by omega)]
theorem Qke (text : List Int) (ws:List Wd) (num:Int) (f:Nat→Nat) (n m:Nat) (h:m<n):nth (mxv text ws num f n) m=bits .xor .u8 (nth text m) (nth (QaV ws (num+((f (m/64):Nat):Int))) (m%64)):=by
  rw [show nth (mxv text ws num f n) m=(mxv text ws num f n).getD m 0 from rfl]
  unfold mxv
  rw [List.getD_eq_getElem?_getD,List.getElem?_map,List.getElem?_range h]; rfl
theorem Qkd (text : List Int) (ws:List Wd) (num:Int) (pre:List Nat) (x n:Nat):Qbo (mxv text ws num (pg pre) n) n (64*pre.length)=Qbo (mxv text ws num (pg (pre++[x])) n) n (64*pre.length):=by
  unfold Qbo
  rw [QgD text ws num (pg pre) (pg (pre++[x])) n _ fun i hi=>(Qli pre x (i/64) (by omega)).symm]
theorem QkJ (text : List Int) (ws:List Wd) (num:Int) (pre:List Nat) (x n j:Nat) (hj:j<64) (h:64*pre.length+j<n):nth (mxv text ws num (pg (pre++[x])) n) (64*pre.length+j)=bits .xor .u8 (nth text (64*pre.length+j)) (nth (QaV ws (num+((x:Nat):Int))) j):=by
  rw [Qke _ _ _ _ _ _ h,show (64*pre.length+j)/64=pre.length by omega,show (64*pre.length+j)%64=j by omega,Qka]
theorem QhZ (text : List Int) (ws:List Wd) (num:Int) (k:Nat) (h:text.length≤64*k):mxv text ws num (pg (List.range k)) text.length=mixV ws num text:=by
  have h2:=QgD text ws num (pg (List.range k)) id text.length text.length fun i hi=>QiN k (i/64) (by omega)
  rw [List.take_of_length_le (by rw [Qdp]; omega),List.take_of_length_le (by rw [Qdp]; omega)] at h2
  exact h2
theorem Qd2 (ws : List Wd) (num:Int) (text:List Int):(mixV ws num text).length=text.length:=Qdp _ _ _ _ _
set_option maxRecDepth 100000 in
theorem Qlq (key nonce text:List Int) (v v2:Value) (B B2:Nat) (number:Int) (th tq:TypeId) (w:World) (hh:w.heap[2]? = some (.cells (ints .u32 [1634760805,857760878,2036477234,1797285236]) th)) (hq:w.heap[3]? = some (.cells (ints .i64 [0,4,8,12,1,5,9,13,2,6,10,14,3,7,11,15,0,5,10,15,1,6,11,12,2,7,8,13,3,4,9,14]) tq)) (hkl:key.length=32) (hn:RdK .u8 B nonce v w) (ht:RdK .u8 B2 text v2 w) (h:nonce.length=12) (r:Nat) (hr:number+(r:Int)=4294967296) (h1:0≤number) (h2:number≤4294967295) (hfit:text.length≤64*r) (htl:text.length≤2000000):Calls Tryd.prog 103 #[.agg (ints .u8 key),v,.int .i64 number,v2] w (QbD w (fun v W=>∃ u,v=.tuple #[u,.nilIface]∧OwnN .u8 5 w.heap.size (mixV (QaF key nonce) number text) u W)):=by
 obtain ⟨a_n,c_n,rfl,-⟩:=id hn
 obtain ⟨a_t,c_t,rfl,-⟩:=id ht
 refine QkQ 64 [(0,.agg (ints .u8 (key))),(1,.slice a_n nonce.length c_n),(2,.int .i64 number),(3,.slice a_t text.length c_t)] Tryd.func103 rfl rfl kj rfl <| sgC fun K3 hK3=>Qas (ints .u8 (key)) 23 4 rfl kj kj fun g4 W1 l4 e1 r4_1=>?_
 have x1:=Ext.tr (Rely.Ext.refl w) e1
 have b4:=qT (Rely.Ext.refl w).size l4
 refine Qas (#[.slice a_t text.length c_t]) 33 7 rfl kj kj fun g5 W2 l5 e2 r5_2=>?_
 have x2:=Ext.tr x1 e2
 have b5:=qT x1.size l5
 refine sg 2 kj <| sgN hK3 <| wp_scope_straight <| wp_seq_k fun K6 hK6=>sgC fun K7 hK7=>sg 2 kj <| Qan (.nilIface) 122 #[.slice a_n nonce.length c_n,.int .i64 number] 19 rfl kj kj ((check_D nonce _ _ number _ (RdK.ext hn x2) h h1 h2)) fun W3 e3=>?_
 have x3:=Ext.tr x2 e3
 refine sg 1 kj <| sgN hK7 <| sgB kj <| cond_false kj <| wp_skip <| hK6 _ _ <| wp_seq_k fun K9 hK9=>sgC fun K10 hK10=>?_
 have r5_3:=(Qab r5_2 e3)
 refine Qaa (.slice a_t text.length c_t) 23 rfl kj (Qah 33 _ g5 0 33 _ (.slice a_t text.length c_t) _ r5_3 rfl kj kj kj) <| sg 1 kj <| Qaa (.int .i64 ((text.length+64:Nat):Int)) 25 rfl kj (Qad (u:=.int .i64 (IntKind.i64.wrap (((text.length:Nat):Int)+64))) kj (congrArg (Value.int .i64) (i64n _ _ (by omega) (by omega)))) <| Qaa (.int .i64 (((text.length+64)-1:Nat):Int)) 26 rfl kj (Qad (u:=.int .i64 (IntKind.i64.wrap (((text.length+64:Nat):Int)-1))) kj (congrArg (Value.int .i64) (i64n _ _ (by omega) (by omega)))) <| Qaa (.int .i64 ((((text.length+64)-1)/64:Nat):Int)) 27 rfl kj (Qad (u:=.int .i64 (IntKind.i64.wrap (Int.tdiv ((((text.length+64)-1:Nat):Int)) (64)))) kj (congrArg (Value.int .i64) (Qcu _ 64 (by omega)))) <| sg 1 kj <| sgN hK10 <| sgC fun K11 hK11=>sg 2 kj <| Qaa (.int .i64 (((r-1:Nat):Int))) 30 rfl kj (Qad (u:=.int .i64 (IntKind.i64.wrap (4294967295-number))) kj (congrArg (Value.int .i64) (by rw [show (4294967295-number:Int)=((r-1:Nat):Int) by omega]; exact IntWalk.i64_in _ (by omega)))) ?_
 refine Qaa (.int .i64 (((r-1)+1:Nat):Int)) 31 rfl kj (Qad (u:=.int .i64 (IntKind.i64.wrap ((((r-1:Nat):Int))+1))) kj (congrArg (Value.int .i64) (i64n _ _ (by omega) (by omega)))) <| Qaa (.bool false) 32 rfl kj (Qad (u:=.bool (decide (((((text.length+64)-1)/64:Nat):Int)>(((r-1)+1:Nat):Int)))) kj (congrArg Value.bool (decide_eq_false (by omega)))) <| sgN hK11 <| cond_false kj <| wp_skip <| hK9 _ _ <| sgC fun K12 hK12=>Qaa (.slice a_t text.length c_t) 34 rfl kj (Qah 33 _ g5 0 33 _ (.slice a_t text.length c_t) _ r5_3 rfl kj kj kj) <| sg 1 kj <| QhF (ints .u8 (List.replicate (text.length) 0)) 5 0 (text.length) 36 rfl kj (QhJ 33 _ _ .i64 .i64 0 (text.length) 5 rfl kj kj kj (.inr kj) (Nat.zero_le _) (by omega)) fun g13 W4 l13 e4 r13_4=>?_
 have x4:=Ext.tr x3 e4
 have b13:=qT x3.size l13
 refine Qas (#[.slice none 0 0]) 33 12 rfl kj kj fun g14 W5 l14 e5 r14_5=>?_
 have b14:=qT x4.size l14
 refine Qal g14 _ (#[.slice (some ⟨g13,0,none⟩) 0 text.length]) 33 r14_5 rfl kj (Qb9 33 _ _ g14 0 33 _ (.slice (some ⟨g13,0,none⟩) 0 text.length) r14_5 rfl kj kj kj kj kj rfl) fun W6 p6 r14_6=>?_
 have x6:=Puts.ext p6 (Ext.tr x4 e5) b14
 refine sgN hK12 <| wp_seq_k fun K15 hK15=>wp_label <| hK15 _ _ <| wp_seq_k fun K16 hK16=>sgC fun K17 hK17=>?_
 have r4_4:=(Qab (Qab (Qab r4_1 e2) e3) e4)
 refine Qaa (.agg (ints .u8 (key))) 37 rfl kj (Qao 23 _ g4 23 _ _ (Puts.row p6 (Qab r4_4 e5) (Qag r4_4 l14)) rfl kj kj (isz (n:=32) kj ((Qaf _ _).trans hkl))) <| sg 2 kj ?_
 have r2_4:=(Qab (Qab (Qab (Qab hh e1) e2) e3) e4)
 have r1_4:=(Qab (Qab (Qab (Qab hq e1) e2) e3) e4)
 have r1_6:=(Puts.row p6 (Qab r1_4 e5) (Qag r1_4 l14))
 refine Qat (fun v W'=>(fun v W=>∃ g1 g2,v=.func (.func 140) #[] #[.pointer (some ⟨g1,0,none⟩),.pointer (some ⟨g2,0,none⟩)]∧W6.heap.size≤g1∧W6.heap.size≤g2∧W.heap[g1]? = some (.cells #[.int .i64 number] 3)∧W.heap[g2]? = some (.cells (ints .u32 ((QaF key nonce).map wv)) 199)) v W'∧Ext W6 W') 123 #[.agg (ints .u8 (key)),.slice a_n nonce.length c_n,.int .i64 number] 40 rfl kj kj ((QiM key nonce _ _ number th tq _ (Puts.row p6 (Qab r2_4 e5) (Qag r2_4 l14)) r1_6 hkl (RdK.ext hn x6) h h1 h2).mono (by rintro e w' ⟨v,rfl,e1,hv⟩; exact ⟨v,rfl,hv,e1⟩)) fun vv18 W7 hh18=>?_
 obtain ⟨hv18,e7⟩:=hh18
 have x7:=Ext.tr x6 e7
 obtain ⟨gp1,gp2,rfl,lp1,lp2,rp1,rp2⟩:=hv18
 refine sgN hK17 <| wp_block ?_
 have r5_4:=(Qab r5_3 e4)
 have r5_7:=(Qab (Puts.row p6 (Qab r5_4 e5) (Qag r5_4 l14)) e7)
 have r14_7:=(Qab r14_6 e7)
 have r13_6:=(Puts.row p6 (Qab r13_4 e5) (Qag r13_4 l14))
 have r13_7:=(Qab r13_6 e7)
 have nb712:g5≠g14:=(Qag r5_4 l14)
 have nb7O:g5≠g13:=(Qag r5_3 l13)
 have nb127:g14≠g5:=(QaA r5_4 l14)
 have nb12O:g14≠g13:=(QaA r13_4 l14)
 have nbO7:g13≠g5:=(QaA r5_3 l13)
 have nbO12:g13≠g14:=(Qag r13_4 l14)
 have hgs:∀ c∈([g14,g13]:List Nat),w.heap.size≤c:=(fun c hc=>by simp only [List.mem_cons,List.not_mem_nil,or_false] at hc; rcases hc with rfl | rfl; exact b14; exact b13)
 have hgp:∀ c∈([g14,g13]:List Nat),c<W6.heap.size:=(fun c hc=>by simp only [List.mem_cons,List.not_mem_nil,or_false] at hc; rcases hc with rfl | rfl; exact Qa0 r14_6; exact Qa0 r13_6)
 refine Qgf (gf:=140) (lb:=#[.pointer (some ⟨gp1,0,none⟩),.pointer (some ⟨gp2,0,none⟩)]) (enc:=fun x:Nat=>.int .i64 (number+((x:Nat):Int))) (enc2:=fun x:Nat=>.agg (ints .u8 (QaV (QaF key nonce) (number+((x:Nat):Int))))) kj (enters_of Tryd.func140 kj rfl) (QfJ 2 [g14,g13] gp1 gp2 (QaF key nonce) number r tq W7 hr h1 h2 (Qdu _ _) (Qab r1_6 e7) rp1 rp2 (fun hm=>by have:=hgp _ hm; omega) (fun hm=>by have:=hgp _ hm; omega) (fun hm=>by have h1:=hgs _ hm; have h2:=Qa0 hq; omega)) (fun h k=>Qcl.trans h k) Qcl.book (Below.refl _ _)
   (fun pre W=>((W.heap[g5]? = some (.cells (#[.slice a_t text.length c_t]) 33))∧(W.heap[g14]? = some (.cells (#[.slice (some ⟨g13,0,none⟩) (64*pre.length) text.length]) 33))∧(W.heap[g13]? = some (.cells (ints .u8 (Qbo (mxv text (QaF key nonce) number (pg pre) text.length) text.length (64*pre.length))) 5))∧64*pre.length≤text.length∧W7.heap.size≤W.heap.size)∧Ext w W)
   (fun c pre W=>(c=.exit 0∧text.length≤64*pre.length∧(W.heap[g14]? = some (.cells (#[.slice (some ⟨g13,0,none⟩) (text.length) text.length]) 33))∧(W.heap[g13]? = some (.cells (ints .u8 (Qbo (mxv text (QaF key nonce) number (pg pre) text.length) text.length (text.length))) 5)))∧Ext w W) (OwnFrom.and (Own.from (fun s A B row hs hg hr=>⟨Qdb hs.1 hg hr,Qdb hs.2.1 hg hr,Qdb hs.2.2.1 hg hr,hs.2.2.2.1,qT hs.2.2.2.2 hg.size⟩) _) (ownFrom_below (qR _) x7.size)) (fun c=>OwnFrom.and (Own.from (fun s A B row hs hg hr=>⟨hs.1,hs.2.1,Qdb hs.2.2.1 hg hr,Qdb hs.2.2.2 hg hr⟩) _) (ownFrom_below (qR _) x7.size)) ⟨⟨r5_7,r14_7,QaI r13_7 (Qb1 _ _),Nat.zero_le _,qR _⟩,x7⟩ (fun e=>Qcl.ext e) (fun pre A B h e=>⟨⟨Qab h.1.1 e,Qab h.1.2.1 e,Qab h.1.2.2.1 e,h.1.2.2.2.1,qT h.1.2.2.2.2 e.size⟩,Rely.Ext.trans h.2 e⟩) (fun pre W h=>h.1.2.2.2.2) (fun x g=>[(14,.pointer (some ⟨g,0,none⟩)),(42,.agg (ints .u8 (QaV (QaF key nonce) (number+((x:Nat):Int))))),(41,.int .i64 (number+((x:Nat):Int)))]) (fun x=>ints .u8 (QaV (QaF key nonce) (number+((x:Nat):Int)))) 164 (fun l x W K hK=>?_) (fun l pre x gP Wr hgP hI rP hp=>?_) (fun D ys W lD hS hI rD=>?_) (fun D c pre W lD hSp hIx rD=>?_)
 ·skip
  refine QbM <| QiZ (ints .u8 (List.replicate 64 0)) 164 14 rfl (Qbp l 1 _) rfl kj kj fun g301 W1 l301 e1 r301_1=>?_
  have x1:=Ext.tr (Rely.Ext.refl W) e1
  refine QgL g301 _ (ints .u8 (QaV (QaF key nonce) (number+((x:Nat):Int)))) 164 r301_1 rfl (Qbp l 1 _) rfl kj (Qav 164 _ _ g301 164 _ _ r301_1 rfl kj kj (isz (n:=64) kj ((Qaf _ _).trans (Qbd _ _))) (eqsz (n:=64) ((Qaf _ _).trans (List.length_replicate (n:=64))) ((Qaf _ _).trans (Qbd _ _))) (QaC _ _)) fun W2 p2 r301_2=>?_
  have x2:=Puts.ext p2 x1 (qT (Rely.Ext.refl W).size l301)
  refine QdQ ?_
  exact hK _ _ l301 (Puts.ext p2 (Rely.Ext.trans (Rely.Ext.refl W) e1) l301) r301_2
 ·skip
  obtain ⟨⟨q7,q12,qO,hml,hsz⟩,xx⟩:=hI
  replace qO:=QaI qO (Qkd text (QaF key nonce) number pre x text.length)
  have hl1:(pre++[x]).length=pre.length+1:=by simp
  have n147:gP≠g5:=by have h1:=Qa0 r5_7; omega
  have n1412:gP≠g14:=by have h1:=Qa0 r14_7; omega
  have n14O:gP≠g13:=by have h1:=Qa0 r13_7; omega
  refine wpIn_block <| wpIn_seq_k fun K505 hK505=>QbM <| Qci (.agg (ints .u8 (QaV (QaF key nonce) (number+((x:Nat):Int))))) 43 rfl (Qbp l 1 _) rfl kj (Qao 164 _ gP 164 _ _ rP rfl kj kj (isz (n:=64) kj ((Qaf _ _).trans (Qbd _ _)))) <| Qci (.int .i64 0) 44 rfl (Qbp l 1 _) rfl kj kj <| QdQ <| hK505 _ _ <| wpIn_block <| Qgl (fun (s1:Nat)=>[(7,.pointer (some ⟨g5,0,none⟩)),(12,.pointer (some ⟨g14,0,none⟩)),(43,.agg (ints .u8 (QaV (QaF key nonce) (number+((x:Nat):Int))))),(44,.int .i64 ((s1:Nat):Int))]) (fun (s1:Nat) W=>(s1≤64)∧(64*pre.length+s1≤text.length)∧(W.heap[g14]? = some (.cells (#[.slice (some ⟨g13,0,none⟩) (64*pre.length+s1) text.length]) 33))∧(W.heap[g13]? = some (.cells (ints .u8 (Qbo (mxv text (QaF key nonce) number (pg (pre++[x])) text.length) text.length (64*pre.length+s1))) 5))∧(Qa2 [g14,g13] Wr W)∧(Ext w W)) (fun (s1:Nat)=>64-s1) 0 ⟨rfl,rfl,rfl,rfl,trivial⟩ ⟨(Nat.zero_le _),(by omega),q12,qO,(Qa2.refl [g14,g13] Wr),xx⟩ fun s1 X1 V1 hI1=>?_
  obtain ⟨j,hs1⟩:∃ z,z=s1:=⟨_,rfl⟩
  subst hs1
  obtain ⟨hj,hmj,q503_1,q501_1,kk1,xx1⟩:=hI1
  replace hj:j≤64:=hj
  replace hmj:64*pre.length+j≤text.length:=hmj
  replace q503_1:V1.heap[g14]? = some (.cells (#[.slice (some ⟨g13,0,none⟩) (64*pre.length+j) text.length]) 33):=q503_1
  replace q501_1:V1.heap[g13]? = some (.cells (ints .u8 (Qbo (mxv text (QaF key nonce) number (pg (pre++[x])) text.length) text.length (64*pre.length+j))) 5):=q501_1
  replace kk1:Qa2 [g14,g13] Wr V1:=kk1
  replace xx1:Ext w V1:=xx1
  have q1:=kk1
  refine wpIn_seq_k fun K506 hK506=>QbM <| Qci (.bool (decide (((j:Nat):Int)<64))) 45 rfl (Qbp l 1 _) rfl kj kj <| QdQ <| hK506 _ _ <| wpIn_seq_k fun K507 hK507=>QdR (t:=decide (((j:Nat):Int)<64)) kj (fun c508=>?_) (fun c508=>?_)
  ·skip
   have hlt45:j<64:=by have:=of_decide_eq_true c508; omega
   refine wpIn_skip <| hK507 _ _ <| wpIn_seq_k fun K509 hK509=>wpIn_block <| wpIn_seq_k fun K510 hK510=>QbM <| Qci (.int .u8 (nth (QaV (QaF key nonce) (number+((x:Nat):Int))) j)) 46 rfl (Qbp l 1 _) rfl kj (QaH 164 _ _ .i64 .u8 (QaV (QaF key nonce) (number+((x:Nat):Int))) j 64 5 (nth (QaV (QaF key nonce) (number+((x:Nat):Int))) j) rfl kj kj kj kj kj (Qbd _ _) (by omega) rfl) <| Qci (.int .u8 (nth (QaV (QaF key nonce) (number+((x:Nat):Int))) j)) 16 rfl (Qbp l 1 _) rfl kj kj <| QdQ <| hK510 _ _ ?_
   refine wpIn_seq_k fun K511 hK511=>wpIn_seq_k fun K512 hK512=>QbM <| Qci (.slice (some ⟨g13,0,none⟩) (64*pre.length+j) text.length) 47 rfl (Qbp l 1 _) rfl kj (Qah 33 _ g14 0 33 _ (.slice (some ⟨g13,0,none⟩) (64*pre.length+j) text.length) _ q503_1 rfl kj kj kj) <| Qci (.int .i64 ((64*pre.length+j:Nat):Int)) 48 rfl (Qbp l 1 _) rfl kj kj ?_
   have r502_1:=(Qa2.row q1 q7 (QaU nb712 (QaU nb7O Qbt)))
   refine Qci (.slice a_t text.length c_t) 49 rfl (Qbp l 1 _) rfl kj (Qah 33 _ g5 0 33 _ (.slice a_t text.length c_t) _ r502_1 rfl kj kj kj) <| Qci (.int .i64 ((text.length:Nat):Int)) 50 rfl (Qbp l 1 _) rfl kj kj <| Qci (.bool ((((64*pre.length+j:Nat):Int)==((text.length:Nat):Int)))) 51 rfl (Qbp l 1 _) rfl kj kj <| QdQ <| hK512 _ _ <| QdR (t:=(((64*pre.length+j:Nat):Int)==((text.length:Nat):Int))) kj (fun c513=>?_) (fun c513=>?_)
   ·skip
    have hmn:64*pre.length+j=text.length:=by have:=eq_of_beq c513; omega
    refine wpIn_exit ?_
    repeat (first | with_reducible refine goX1 ?_ | with_reducible refine goXj (by decide) ?_)
    have hq12:=q503_1
    have hqO:=q501_1
    rw [hmn] at hq12 hqO
    exact ⟨(Qen q1 (fun c hc=>by simp only [List.mem_cons,List.not_mem_nil,or_false] at hc; rcases hc with rfl | rfl; exact ⟨_,_,q12⟩; exact ⟨_,_,qO⟩)),⟨rfl,by rw [hl1]; omega,hq12,hqO⟩,xx1⟩
   ·skip
    have hmn:64*pre.length+j<text.length:=by
     rcases Nat.lt_or_ge (64*pre.length+j) text.length with hh | hh
     ·exact hh
     ·exfalso; have e:(((64*pre.length+j:Nat):Int)==((text.length:Nat):Int))=true:=by rw [beq_iff_eq]; omega
      rw [e] at c513; cases c513
    obtain ⟨gt,ot,hat,-,hlt_,hct⟩:=Qb0 (RdK.ext ht xx1) (by omega)
    refine wpIn_skip <| hK511 _ _ <| Qh0 9 [⟨none,[(12,none)]⟩,⟨none,[(7,none)]⟩,⟨none,[(12,none)]⟩,⟨none,[(54,some 2)]⟩,⟨none,[(53,some 1),(55,some 3)]⟩,⟨none,[(56,some 4)]⟩,⟨none,[(16,none)]⟩,⟨none,[(57,some 5),(58,some 6)]⟩,⟨none,[(59,some 7)]⟩] (Qbp l 1 _) rfl kj kj fun F hF=>Qbi (Qaj _) (.slice (some ⟨g13,0,none⟩) (64*pre.length+j) text.length) kj kj (fun W hR=>(Qah 33 _ g14 0 33 _ (.slice (some ⟨g13,0,none⟩) (64*pre.length+j) text.length) _ (Qab (Qab q503_1 (Qak _)) hR) rfl kj kj kj)) <| Qbi (Qaj _) (.slice a_t text.length c_t) kj kj (fun W hR=>(Qah 33 _ g5 0 33 _ (.slice a_t text.length c_t) _ (Qab (Qab r502_1 (Qak _)) hR) rfl kj kj kj)) <| Qbi (Qaj _) (.slice (some ⟨g13,0,none⟩) (64*pre.length+j) text.length) kj kj (fun W hR=>(Qah 33 _ g14 0 33 _ (.slice (some ⟨g13,0,none⟩) (64*pre.length+j) text.length) _ (Qab (Qab q503_1 (Qak _)) hR) rfl kj kj kj)) <| Qay (Qaj _) (.int .i64 ((64*pre.length+j:Nat):Int)) kj kj (fun W=>by kernel_rfl) <| Qay (Qaj _) (.pointer (some ⟨gt,ot+(64*pre.length+j),none⟩)) kj kj (fun W=>(Qaw 33 _ _ .i64 (64*pre.length+j) gt ot text.length c_t 5 a_t _ hat rfl rfl kj kj kj kj (Nat.lt_of_lt_of_eq (show 64*pre.length+j<text.length by omega) (rfl:text.length=text.length).symm))) <| Qbi (Qaj _) (.int .u8 (nth (text) ((64*pre.length+j)))) kj kj (fun W hR=>(Qap 5 _ _ (.int .u8 (nth (text) ((64*pre.length+j)))) ((Below.cell (Rely.Ext.trans (Qak _) hR) hlt_).trans (hct (64*pre.length+j) (Nat.lt_of_lt_of_eq (show 64*pre.length+j<text.length by omega) (rfl:text.length=text.length).symm))) rfl kj kj)) <| Qay (Qaj _) (.int .u8 (nth (QaV (QaF key nonce) (number+((x:Nat):Int))) j)) kj kj (fun W=>by kernel_rfl) ?_
    refine Qay (Qaj _) (.int .u8 (bits .xor .u8 ((nth (text) ((64*pre.length+j)))) ((nth (QaV (QaF key nonce) (number+((x:Nat):Int))) j)))) kj kj (fun W=>by kernel_rfl) <| QgT (Qaj _) (ints .u8 ([(bits .xor .u8 ((nth (text) ((64*pre.length+j)))) ((nth (QaV (QaF key nonce) (number+((x:Nat):Int))) j)))])) 5 1 (NewS.stable _ _ _ _) kj kj (fun W=>by kernel_rfl) <| Qck (hF _ fun W2 e2=>?_)
    simp only [List.nil_append,List.cons_append,List.take_succ_cons,List.take_zero,List.drop_succ_cons,List.drop_zero,finE,up]
    intro vv514 hv514
    clear hF
    have x2:=Ext.tr xx1 e2
    obtain ⟨g514,rfl,l514,r514_2⟩:=hv514
    have b514:=qT xx1.size l514
    have r501_2:=(Qab q501_1 e2)
    refine Qkn (.slice (some ⟨g13,0,none⟩) (64*pre.length+j+1) text.length) 61 rfl (Qbp l 1 _) rfl kj r501_2 (QfE (k:=.u8) (b:=1) (.tmp 52) (.tmp 60) 33 rfl kj kj kj kj r501_2 (Qb5 _ _ _ (Qdp _ _ _ _ _) (by omega)) (by omega) r514_2) fun W3 p3 r501_3=>?_
    have x3:=Puts.ext p3 x2 b13
    have r501_3_515:W3.heap[g13]? = some (.cells (ints .u8 (Qbo (mxv text (QaF key nonce) number (pg (pre++[x])) text.length) text.length (64*pre.length+(j+1)))) 5):=QaI r501_3 (by rw [←QkJ text (QaF key nonce) number pre x text.length j hlt45 hmn]; exact Qb2 _ text.length (64*pre.length+j) (Qdp _ _ _ _ _) hmn)
    have r503_3:=(Puts.row p3 (Qab q503_1 e2) nb12O)
    refine QgL g14 _ (#[.slice (some ⟨g13,0,none⟩) (64*pre.length+j+1) text.length]) 33 r503_3 rfl (Qbp l 1 _) rfl kj (Qb9 33 _ _ g14 0 33 _ (.slice (some ⟨g13,0,none⟩) (64*pre.length+j+1) text.length) r503_3 rfl kj kj kj kj kj rfl) fun W4 p4 r503_4=>?_
    have x4:=Puts.ext p4 x3 b14
    refine QdQ <| hK509 _ _ <| QbM <| Qci (.int .i64 ((j+1:Nat):Int)) 62 rfl (Qbp l 1 _) rfl kj (Qad (u:=.int .i64 (IntKind.i64.wrap (((j:Nat):Int)+1))) kj (congrArg (Value.int .i64) (i64n _ _ (by omega) (by omega)))) <| Qci (.int .i64 ((j+1:Nat):Int)) 44 rfl (Qbp l 1 _) rfl kj kj <| QdQ ?_
    repeat (first | with_reducible refine goX1 ?_ | with_reducible refine goX2 ?_ | with_reducible refine goX3 ?_)
    exact Qax (j+1) ⟨kj,kj,kj,kj,trivial⟩ ⟨(by omega),(by omega),r503_4,(Puts.row p4 r501_3_515 nbO12),(Qa2.puts (Qa2.puts (Qa2.step q1 e2) p3 (.inl (by simp))) p4 (.inl (by simp))),x4⟩ (by show 64-(j+1)<64-j; omega)
  ·skip
   have heq45:j=64:=by have:=of_decide_eq_false c508; omega
   refine wpIn_exit ?_
   subst heq45
   repeat (first | with_reducible refine goX1 ?_ | with_reducible refine goX2 ?_ | with_reducible refine goX3 ?_)
   have r502_1:=(Qa2.row q1 q7 (QaU nb712 (QaU nb7O Qbt)))
   exact ⟨(Qen q1 (fun c hc=>by simp only [List.mem_cons,List.not_mem_nil,or_false] at hc; rcases hc with rfl | rfl; exact ⟨_,_,q12⟩; exact ⟨_,_,qO⟩)),(Qcl.keeps q1),⟨r502_1,by rw [hl1,Nat.mul_add]; exact q503_1,by rw [hl1,Nat.mul_add]; exact q501_1,by rw [hl1]; omega,qT hsz (qT (qR _) (Qa2.size q1))⟩,xx1⟩
 ·obtain ⟨⟨-,q12,qO,hml,-⟩,xx⟩:=hI
  subst hS
  rw [List.length_range] at q12 qO hml
  have hge:text.length≤64*r:=by omega
  have hee:64*r=text.length:=by omega
  rw [hee] at q12 qO
  have qO2:=QaI (QaI qO (QbJ _ _ (Qdp _ _ _ _ _))) (QhZ text (QaF key nonce) number r hge)
  have bD:w.heap.size≤D:=qT x7.size lD
  refine hK16 _ _ <| sgC fun K20 hK20=>Qaa (.slice (some ⟨g13,0,none⟩) text.length text.length) 63 rfl kj (Qah 33 _ g14 0 33 _ (.slice (some ⟨g13,0,none⟩) text.length text.length) _ q12 rfl kj kj kj) <| sg 2 kj <| sgN hK20 <| wp_ret ?_
  repeat (first | with_reducible refine goR1 ?_ | with_reducible refine goR2 ?_)
  exact (show bodyPostM _ _ _ _ _ .ret _ _ from QkA (.slice (some ⟨g13,0,none⟩) text.length text.length) (.nilIface) rfl rD (Qaq kj) (Qaq kj) ⟨_,rfl,Qg8 xx bD rD _,_,rfl,QbW (Qd2 _ _ _) b13 (Qg7 qO2 rD _) (by simp only [maxLen]; omega)⟩)
 ·obtain ⟨⟨rfl,hge,q12,qO⟩,xx⟩:=hIx
  obtain ⟨kR,rfl,-⟩:=hSp
  rw [List.length_range] at hge
  have qO2:=QaI (QaI qO (QbJ _ _ (Qdp _ _ _ _ _))) (QhZ text (QaF key nonce) number kR hge)
  have bD:w.heap.size≤D:=qT x7.size lD
  refine wp_exit <| hK16 _ _ <| sgC fun K22 hK22=>Qaa (.slice (some ⟨g13,0,none⟩) text.length text.length) 63 rfl kj (Qah 33 _ g14 0 33 _ (.slice (some ⟨g13,0,none⟩) text.length text.length) _ q12 rfl kj kj kj) <| sg 2 kj <| sgN hK22 <| wp_ret ?_
  repeat (first | with_reducible refine goR1 ?_ | with_reducible refine goR2 ?_)
  exact (show bodyPostM _ _ _ _ _ .ret _ _ from QkA (.slice (some ⟨g13,0,none⟩) text.length text.length) (.nilIface) rfl rD (Qaq kj) (Qaq kj) ⟨_,rfl,Qg8 xx bD rD _,_,rfl,QbW (Qd2 _ _ _) b13 (Qg7 qO2 rD _) (by simp only [maxLen]; omega)⟩)
end Go.Proofs.YtoiendjhplbjjaaDoor.Cha
end
section
namespace Go.Proofs.YtoiendjhplbjjaaDoor.Sha
open Go Go.RowKit
open Rely Auto Own
section
variable {P : Program} {ρ : Operand → Value} {o : Oper} {w : World}
theorem Qhq {k : IntKind} (t:TypeId) (x y:Operand) (kl kc:IntKind) (n:Nat) (e:TypeId) (ho:o.op=.makeSlice t x y) (hx:ρ x=.int kl 0) (hy:ρ y=.int kc n)
    (hu:P.underlying t=some (.slice e)) (hi:(P.info? e).map (fun i=>(i.zero,i.size,i.bytes))=some (some (.int k 0),1,1)) (hn:n≤1000000000) :
    (execOp ρ o).run P w=.ok (.value (.slice (some ⟨w.heap.size,0,none⟩) 0 n)) (w.alloc (.cells (ints k (List.replicate n 0)) e)):=by
  cases hq:P.info? e with
  | none=>simp [hq] at hi
  | some i =>
    have hz:i.zero=some (.int k 0)∧i.size=1∧i.bytes=1:=by simpa [hq] using hi
    have hb:(i.bytes:Int)*(n:Int)≤281474976710656:=by rw [hz.2.2]; omega
    have h:=run_make w t e i (.int k 0) hu hq hz.1 kl kc 0 (n:Int) (by omega) (by omega) hb (by omega)
    rw [hz.2.1,Int.toNat_natCast,QeA] at h
    unfold execOp
    simp only [ho,hx,hy,Sem.run_bind,Sem.run_pure,h,Result.andThen_ok]
    rfl
theorem Qbl (t : TypeId) (x z:Operand) (h:Nat) (e:TypeId) (ho:o.op=.slice t x none (some z) none) {a:Option Addr} {len cap:Nat} (hx:ρ x=.slice a len cap)
    (hu:P.underlying t=some (.slice e)) (hs:(P.info? e).map (·.size)=some 1) (kz:IntKind) (hz:ρ z=.int kz (h:Int)) (h2:h≤cap) :
    (execOp ρ o).run P w=.ok (.value (.slice a h cap)) w:=by
  cases hq:P.info? e with
  | none=>simp [hq] at hs
  | some i =>
    have hs':i.size=1:=by simpa [hq] using hs
    unfold execOp
    have hadd:∀ a:Option Addr,Option.map (fun x=>x.add 0) a=a:=fun a=>by
      cases a with
      | none=>rfl
      | some a=>obtain ⟨b,o,s⟩:=a; cases s <;> simp [Addr.add]
    simp [ho,hx,hz,Instr.sliceAt,Instr.slice,Instr.sliceBounds,run_sliceBound,run_underlying hu,sizeOf,typeInfo,hq,hs',h2,hadd]
end
section
variable {ds : List Deferred} {P : Program} {ops : Array Oper} {Q : Exit → Act → World → Prop} {rest : List Oper} {o : Oper} {N : Nat} {L : Env} {w : World}
theorem Qhm (cs : Array Value) (T:TypeId) (n d:Nat) (hd:o.dst=some d) (hg:QbT ops o N L=some true) (h:(execOp (Rely.look (envN N L)) o).run P w=.ok (.value (.slice (some ⟨w.heap.size,0,none⟩) 0 n)) (w.alloc (.cells cs T)))
    (k:∀ (g:Nat) (W:World),w.heap.size≤g→Ext w W→W.heap[g]? = some (.cells cs T)→WL P ops Q rest (Qaz ds N ((d,.slice (some ⟨g,0,none⟩) 0 n)::L)) W):WL P ops Q (o::rest) (Qaz ds N L) w :=
  Qcn _ _ d hd hg h (k _ _ (qR _) (QbU _ _) (heap_alloc_new _ _))
end
def QbS (T : TypeId) (base:Nat) (t:List Int) (v:Value) (W:World):Prop:=∃ g c,v=.slice (some ⟨g,0,none⟩) t.length c∧OwnN .u8 T base (t++[165,90]) (.slice (some ⟨g,0,none⟩) (t++[165,90]).length c) W
theorem QbS.ext {T : TypeId} {base:Nat} {t:List Int} {v:Value} {W W':World} (h:QbS T base t v W) (e:Ext W W'):QbS T base t v W':=by
  obtain ⟨g,c,rfl,h2⟩:=h
  exact ⟨g,c,rfl,h2.ext e⟩
theorem QbS.rd {T : TypeId} {base:Nat} {t:List Int} {v:Value} {W:World} (h:QbS T base t v W):RdK .u8 W.heap.size t v W:=by
  obtain ⟨g,c,rfl,h2⟩:=h
  obtain ⟨a,cap,e,q2,q3,q4,q5⟩:=OwnN.rd h2
  simp only [Value.slice.injEq] at e
  obtain ⟨rfl,-,rfl⟩:=e
  rw [List.length_append] at q2
  refine ⟨_,_,rfl,by omega,q3,q4,.inr ?_⟩
  rcases q5 with q5 | ⟨g',o,e1,e2,e3,e4⟩
  · simp at q5
  · refine ⟨g',o,e1,e2,e3,fun i hi=>?_⟩
    rw [e4 i (by rw [List.length_append]; omega)]
    simp [nth,List.getElem?_append_left hi]
theorem QhW (t : List Int):nth (t++[165,90]) t.length=165:=by simp [nth]
theorem QhV (t : List Int):nth (t++[165,90]) (t.length+1)=90:=by simp [nth]
theorem Qje (t : List Int) (v:Value) (B:Nat) (w:World) (hlen:t.length≤900000000) (hr:RdK .u8 B t v w):Calls Tryd.prog 20 #[v] w (QbD w (QbS 5 w.heap.size t)):=by
  obtain ⟨a_t,c_t,rfl,-⟩:=id hr
  refine enter 14 [(0,.slice a_t t.length c_t)] Tryd.func20 rfl rfl kj rfl <| sgB kj <| sgC fun K2 hK2=>sg 2 kj <| Qaa (.int .i64 ((t.length+2:Nat):Int)) 5 rfl kj (Qad (u:=.int .i64 (IntKind.i64.wrap (((t.length:Nat):Int)+2))) kj (congrArg (Value.int .i64) (i64n _ _ (by omega) (by omega)))) <| Qhm (ints .u8 (List.replicate (t.length+2) 0)) 5 (t.length+2) 6 rfl kj (Qhq 33 _ _ .i64 .i64 (t.length+2) 5 rfl kj kj kj kj (by omega)) fun g3 W1 l3 e1 r3_1=>?_
  have x1:=Ext.tr (Rely.Ext.refl w) e1
  have b3:=qT (Rely.Ext.refl w).size l3
  have hz0:OwnN .u8 5 w.heap.size [] (.slice (some ⟨g3,0,none⟩) 0 (t.length+2)) W1:=Qgh (n:=0) rfl l3 r3_1 (by rw [Qaf,List.length_replicate]) (Nat.zero_le _) (by simp only [maxLen]; omega) rfl
  refine sg 1 kj <| Qa9 (k:=.u8) (T:=5) (xs:=[]) (ys:=t) (V:=w) 1 (.tmp 6) (.tmp 7) 33 rfl kj kj (by decide) 8 rfl kj kj kj hz0 (RdK.ext hr x1) (by simp only [List.length_nil]; omega) (Rely.Ext.trans (Rely.Ext.refl w) e1) fun z1 W2 f4 y2 l2=>?_
  have x2:=Ext.low x1 l2 (Rely.Ext.refl w).size
  have hu6:OwnN .u8 5 w.heap.size (t) z1 W2:=f4
  refine QaD (ints .u8 ([165,90])) 5 2 9 rfl kj kj fun g7 W3 l7 e3 r7_3=>?_
  have b7:=qT x2.size l7
  refine Qa9 (k:=.u8) (T:=5) (xs:=t) (ys:=[165,90]) (V:=w) 1 (.tmp 8) (.tmp 9) 33 rfl kj kj (by decide) 10 rfl kj kj kj (hu6.ext e3) (QaM (xs:=[165,90]) (n:=2) rfl r7_3 (Qa0 r7_3) (show 2≤maxLen from by decide)) (by simp only [List.length_cons,List.length_nil]; omega) (Rely.Ext.trans y2 e3) fun z2 W4 f9 y4 l4=>?_
  have hu11:OwnN .u8 5 w.heap.size (t++[165,90]) z2 W4:=f9
  refine sg 2 kj ?_
  obtain ⟨gz,cz,cur,hzz,hz3,hz4,hz5,hz6,-,-⟩:=QdL hu11 (by simp)
  subst hzz
  rw [List.length_append] at hz6
  refine Qaa (.slice (some ⟨gz,0,none⟩) t.length cz) 13 rfl kj (Qbl (len:=(t++[165,90]).length) 33 _ _ t.length 5 rfl kj kj kj .i64 kj (by omega)) <| sg 1 kj <| sgN hK2 <| wp_ret ?_
  repeat (first | with_reducible refine goR1 ?_ | with_reducible refine goR2 ?_)
  exact (show bodyPost _ _ _ .ret _ _ from ret1 (.slice (some ⟨gz,0,none⟩) t.length cz) rfl (Qaq kj) ⟨_,rfl,(Ext.low (Ext.tr x2 e3) l4 (Rely.Ext.refl w).size),gz,cz,rfl,hu11⟩)
theorem Qlg (x y:Value) (xs ys:List Int) (w:World) (hx:QcE w x xs) (hy:QcE w y ys):Calls Tryd.prog 26 #[x,y] w (Ret w (.bool (decide (xs=ys)))):=by
  have hse:((Qcp xs).toList==(Qcp ys).toList)=decide (xs=ys):=by
    obtain ⟨_,_,_,_,bx,_⟩:=hx
    obtain ⟨_,_,_,_,by',_⟩:=hy
    exact Qe0 bx by'
  refine enter 10 [(0,x),(1,y)] Tryd.func26 rfl rfl kj rfl <| sgB kj <| sgC fun K2 hK2=>sg 1 kj <| Qaa (.string (Qcp xs)) 6 rfl kj (Qcq _ x rfl kj xs hx) <| sg 1 kj <| Qaa (.string (Qcp ys)) 8 rfl kj (Qcq _ y rfl kj ys hy) <| Qaa (.bool (decide (xs=ys))) 9 rfl kj (Qad (u:=.bool ((Qcp xs).toList==(Qcp ys).toList)) kj (congrArg Value.bool hse)) <| sg 1 kj <| sgN hK2 ?_
  refine wp_ret ?_
  repeat (first | with_reducible refine goR1 ?_ | with_reducible refine goR2 ?_)
  exact (show bodyPost _ _ _ .ret _ _ from ret1 (.bool (decide (xs=ys))) rfl (Qaq kj) ⟨rfl,(Rely.Ext.refl w)⟩)
theorem QfA (x y:Value) (xs ys:List Int) (w:World) (e:xs=ys) (hx:QcE w x xs) (hy:QcE w y ys):Calls Tryd.prog 26 #[x,y] w (Ret w (.bool true)):=by
  have h:=Qlg x y xs ys w hx hy
  rw [decide_eq_true e] at h
  exact h
def QbN (a : Option Addr) (c l:Nat):Option Addr:=if c=l then a else a.map fun z=>z.add l
theorem QbH {P : Program} {ρ:Operand→Value} {o:Oper} {w:World} (t:TypeId) (x z:Operand) (l:Nat) (e:TypeId) (ho:o.op=.slice t x (some z) none none) {a:Option Addr} {len cap:Nat} (hx:ρ x=.slice a len cap)
    (hu:P.underlying t=some (.slice e)) (hs:(P.info? e).map (·.size)=some 1) (kz:IntKind) (hz:ρ z=.int kz (l:Int)) (h1:l≤len) (h2:len≤cap) :
    (execOp ρ o).run P w=.ok (.value (.slice (QbN a cap l) (len-l) (cap-l))) w:=by
  cases hq:P.info? e with
  | none=>simp [hq] at hs
  | some i =>
    have hs':i.size=1:=by simpa [hq] using hs
    unfold execOp QbN
    have hadd:∀ a:Option Addr,Option.map (fun x=>x.add 0) a=a:=fun a=>by
      cases a with
      | none=>rfl
      | some a=>obtain ⟨b,o,s⟩:=a; cases s <;> simp [Addr.add]
    by_cases hc:cap=l
    · simp [ho,hx,hz,Instr.sliceAt,Instr.slice,Instr.sliceBounds,run_sliceBound,run_underlying hu,sizeOf,typeInfo,hq,hs',h1,h2,hadd,hc]
    · simp [ho,hx,hz,Instr.sliceAt,Instr.slice,Instr.sliceBounds,run_sliceBound,run_underlying hu,sizeOf,typeInfo,hq,hs',h1,h2,hadd,hc]
theorem Qc1 {k : IntKind} {B n c:Nat} {ys:List Int} {a:Option Addr} {W:World} (h:RdK k B ys (.slice a n c) W) (l:Nat) (hl:l≤ys.length):RdK k B (ys.drop l) (.slice (QbN a c l) (n-l) (c-l)) W:=by
  obtain ⟨a',cap,e,h2,h3,h4,h5⟩:=h
  simp only [Value.slice.injEq] at e
  obtain ⟨rfl,rfl,rfl⟩:=e
  refine ⟨_,_,by rw [List.length_drop],by rw [List.length_drop]; omega,by omega,?_,?_⟩
  · intro e
    unfold QbN at e
    split at e
    · omega
    · have:=h4 (by cases a <;> simp_all); omega
  · rcases h5 with h5 | ⟨g,o,rfl,q2,q3,q4⟩
    · left; rw [h5]; simp
    · rcases Nat.lt_or_ge l ys.length with hlt | hge
      · right
        refine ⟨g,o+l,?_,q2,q3,fun i hi=>?_⟩
        · unfold QbN
          rw [if_neg (by omega),Option.map_some]
          simp [Addr.add]
        · rw [List.length_drop] at hi
          rw [Nat.add_assoc,q4 (l+i) (by omega)]
          simp [nth]
      · left; exact List.drop_of_length_le hge
theorem QbC {k : IntKind} {B n c:Nat} {ys:List Int} {a:Option Addr} {W:World} (h:RdK k B ys (.slice a n c) W) (l:Nat) (hl:l≤ys.length):RdK k B (ys.take l) (.slice a l c) W:=by
  obtain ⟨a',cap,e,h2,h3,h4,h5⟩:=h
  simp only [Value.slice.injEq] at e
  obtain ⟨rfl,rfl,rfl⟩:=e
  have hlen:(ys.take l).length=l:=by rw [List.length_take]; omega
  refine ⟨_,_,by rw [hlen],by omega,h3,h4,?_⟩
  rcases h5 with rfl | ⟨g,off,rfl,q2,q3,q4⟩
  · exact .inl (by simp)
  · refine .inr ⟨g,off,rfl,q2,q3,fun i hi=>?_⟩
    rw [hlen] at hi
    rw [q4 i (by omega)]
    simp [nth,List.getElem?_take,hi]
theorem QfQ (t : List Int) (v y:Value) (B base:Nat) (w:World) (hlen:t.length≤900000000) (hb:Qai t) (hv:QbS 5 base t v w) (hr:RdK .u8 B t y w):Calls Tryd.prog 28 #[v,y] w (Ret w (.bool true)):=by
  have hrc:=hv.rd
  obtain ⟨g,c,rfl,hK⟩:=hv
  obtain ⟨a_t,c_t,rfl,-⟩:=id hr
  have hl2:(t++[165,90]).length=t.length+2:=by simp
  have hcap:(t++[165,90]).length≤c:=by
    obtain ⟨_,_,e,q2,_⟩:=OwnN.rd hK
    simp only [Value.slice.injEq] at e
    obtain ⟨-,-,rfl⟩:=e
    exact q2
  have hcap2:t.length+2≤c:=by rw [←hl2]; exact hcap
  refine enter 39 [(0,.slice (some ⟨g,0,none⟩) t.length c),(1,.slice a_t t.length c_t)] Tryd.func28 rfl rfl kj rfl <| sgB kj <| wp_seq_k fun K2 hK2=>sgC fun K3 hK3=>sg 1 kj <| Qaa (.string (Qcp t)) 7 rfl kj (Qcq _ _ rfl kj t (hrc.bytes hb)) <| sg 1 kj <| Qaa (.string (Qcp t)) 9 rfl kj (Qcq _ _ rfl kj t (hr.bytes hb)) <| Qaa (.bool false) 10 rfl kj (Qad (u:=.bool (!((Qcp t).toList==(Qcp t).toList))) kj (congrArg Value.bool (by simp))) <| sg 5 kj ?_
  refine Qaa (.int .i64 ((t.length+2:Nat):Int)) 16 rfl kj (Qad (u:=.int .i64 (IntKind.i64.wrap (((t.length:Nat):Int)+2))) kj (congrArg (Value.int .i64) (i64n _ _ (by omega) (by omega)))) <| Qaa (.bool false) 17 rfl kj (Qad (u:=.bool (decide (((c:Nat):Int)<((t.length+2:Nat):Int)))) kj (congrArg Value.bool (decide_eq_false (by omega)))) <| sg 1 kj <| sgN hK3 <| cond_false kj <| wp_skip <| hK2 _ _ <| sgC fun K4 hK4=>sg 3 kj <| Qaa (.int .i64 ((((t++[165,90]).length:Nat):Int))) 22 rfl kj (Qad (u:=.int .i64 (IntKind.i64.wrap (((t.length:Nat):Int)+2))) kj (congrArg (Value.int .i64) (i64n _ _ (by rw [hl2]; omega) (by rw [hl2]; omega)))) ?_
  refine Qaa (.slice (some ⟨g,0,none⟩) (t++[165,90]).length c) 23 rfl kj (Qbl (len:=t.length) 33 _ _ (t++[165,90]).length 5 rfl kj kj kj .i64 kj hcap) <| sg 1 kj ?_
  have hns_5:(t++[165,90]).length=t.length+2:=hl2
  obtain ⟨gcs_5,ocs_5,has_5,hls_5,hcs_5⟩:=Qbr (OwnN.rd hK) (by rw [hns_5]; omega)
  refine sgN hK4 <| sgC fun K6 hK6=>sg 3 kj <| Qaa (.pointer (some ⟨gcs_5,ocs_5+t.length,none⟩)) 27 rfl kj (Qaw 33 _ _ .i64 t.length gcs_5 ocs_5 ((t++[165,90]).length) c 5 (some ⟨g,0,none⟩) _ has_5 rfl rfl kj kj kj kj (Nat.lt_of_lt_of_eq (show t.length<t.length+2 by omega) hns_5.symm)) <| Qaa (.int .u8 (165)) 28 rfl kj (Qap 5 _ _ (.int .u8 (165)) ((hcs_5 t.length (Nat.lt_of_lt_of_eq (show t.length<t.length+2 by omega) hns_5.symm)).trans (congrArg (fun z=>some (Value.int .u8 z)) (QhW t))) rfl kj kj) <| sg 5 kj <| Qaa (.int .i64 ((t.length+1:Nat):Int)) 34 rfl kj (Qad (u:=.int .i64 (IntKind.i64.wrap (((t.length:Nat):Int)+1))) kj (congrArg (Value.int .i64) (i64n _ _ (by omega) (by omega)))) <| Qaa (.pointer (some ⟨gcs_5,ocs_5+(t.length+1),none⟩)) 35 rfl kj (Qaw 33 _ _ .i64 (t.length+1) gcs_5 ocs_5 ((t++[165,90]).length) c 5 (some ⟨g,0,none⟩) _ has_5 rfl rfl kj kj kj kj (Nat.lt_of_lt_of_eq (show t.length+1<t.length+2 by omega) hns_5.symm)) <| Qaa (.int .u8 (90)) 36 rfl kj (Qap 5 _ _ (.int .u8 (90)) ((hcs_5 (t.length+1) (Nat.lt_of_lt_of_eq (show t.length+1<t.length+2 by omega) hns_5.symm)).trans (congrArg (fun z=>some (Value.int .u8 z)) (QhV t))) rfl kj kj) <| sg 3 kj ?_
  refine sgN hK6 <| wp_ret ?_
  repeat (first | with_reducible refine goR1 ?_ | with_reducible refine goR2 ?_)
  exact (show bodyPost _ _ _ .ret _ _ from ret1 (.bool true) rfl (Qaq kj) ⟨rfl,(Rely.Ext.refl w)⟩)
theorem numZ (w : World):Calls Tryd.prog 25 #[.nilIface] w (Ret w (.int .i64 0)):=by
  refine enter 19 [(0,.nilIface)] Tryd.func25 rfl rfl kj rfl <| sgB kj <| wp_seq_k fun K2 hK2=>sgB kj <| cond_true kj <| sgB kj <| wp_ret ?_
  repeat (first | with_reducible refine goR1 ?_ | with_reducible refine goR2 ?_)
  exact (show bodyPost _ _ _ .ret _ _ from ret1 (.int .i64 0) rfl (Qaq kj) ⟨rfl,(Rely.Ext.refl w)⟩)
theorem numE (n : Int) (h0:n≠0) (w:World):Calls Tryd.prog 25 #[.iface 60 (.int .i64 n)] w (Ret w (.int .i64 n)):=by
  refine enter 19 [(0,.iface 60 (.int .i64 n))] Tryd.func25 rfl rfl kj rfl <| sgB kj <| wp_seq_k fun K2 hK2=>sgB kj <| cond_false kj <| wp_skip <| hK2 _ _ <| sgB kj <| wp_seq_k fun K5 hK5=>sgC fun K6 hK6=>?_
  refine sg 4 kj <| Qaa (.bool false) 16 rfl kj (Qad (u:=.bool ((n==0))) kj (congrArg Value.bool (beq_eq_false_iff_ne.2 h0))) <| sg 1 kj <| sgN hK6 <| cond_false kj <| wp_skip <| hK5 _ _ <| sgB kj <| wp_ret ?_
  repeat (first | with_reducible refine goR1 ?_ | with_reducible refine goR2 ?_)
  exact (show bodyPost _ _ _ .ret _ _ from ret1 (.int .i64 n) rfl (Qaq kj) ⟨rfl,(Rely.Ext.refl w)⟩)
end Go.Proofs.YtoiendjhplbjjaaDoor.Sha
end
section
namespace Go.Proofs.YtoiendjhplbjjaaDoor.Cha
open Go Go.RowKit
open Rely Auto Own Sha
open Sha
theorem Qi2 (x y:Int):bits .xor .u8 x y=(((BitVec.ofInt 8 x)^^^(BitVec.ofInt 8 y)).toNat:Int):=by
  have h:bits .xor .u8 x y=IntKind.u8.wrap (((BitVec.ofInt 8 x)^^^(BitVec.ofInt 8 y)).toNat:Int):=rfl
  have h3:∀ z:Int,IntKind.u8.wrap z=z%256:=fun _=>rfl
  rw [h,h3]
  have:=((BitVec.ofInt 8 x)^^^(BitVec.ofInt 8 y)).isLt
  omega
theorem QeZ (a b:Int) (h0:0≤a) (h1:a≤255):bits .xor .u8 (bits .xor .u8 a b) b=a:=by
  rw [Qi2,Qi2]
  have e:BitVec.ofInt 8 (((BitVec.ofInt 8 a)^^^(BitVec.ofInt 8 b)).toNat:Int)=(BitVec.ofInt 8 a)^^^(BitVec.ofInt 8 b):=by
    apply BitVec.eq_of_toNat_eq
    rw [BitVec.toNat_ofInt]
    have:=((BitVec.ofInt 8 a)^^^(BitVec.ofInt 8 b)).isLt
    omega
  rw [e,BitVec.xor_assoc,BitVec.xor_self,BitVec.xor_zero,BitVec.toNat_ofInt]
  omega
theorem Qd3 (ws : List Wd) (num:Int) (text:List Int):Qai (mixV ws num text):=fun n hn=>by
  unfold mixV mxv at hn
  obtain ⟨i,-,rfl⟩:=List.mem_map.1 hn
  rw [Qi2]
  have:=((BitVec.ofInt 8 (nth text i))^^^(BitVec.ofInt 8 (nth (QaV ws (num+((id (i/64):Nat):Int))) (i%64)))).isLt
  omega
theorem QhX {xs ys:List Int} (hl:xs.length=ys.length) (h:∀ i,i<xs.length→nth xs i=nth ys i):xs=ys:=by
  apply List.ext_getElem? 
  intro i
  rcases Nat.lt_or_ge i xs.length with hi | hi
  · have h1:=h i hi
    unfold nth at h1
    rw [List.getD_eq_getElem?_getD,List.getD_eq_getElem?_getD,List.getElem?_eq_getElem hi,List.getElem?_eq_getElem (by omega)] at h1
    rw [List.getElem?_eq_getElem hi,List.getElem?_eq_getElem (by omega)]
    exact congrArg some h1
  · rw [List.getElem?_eq_none hi,List.getElem?_eq_none (by omega)]
theorem Qd0 (xs : List Int) (k i:Nat) (h:i<k):nth (xs.take k) i=nth xs i:=by
  unfold nth; rw [List.getD_eq_getElem?_getD,List.getD_eq_getElem?_getD,List.getElem?_take,if_pos h]
theorem QdN (xs : List Int) (k i:Nat):nth (xs.drop k) i=nth xs (k+i):=by
  unfold nth; rw [List.getD_eq_getElem?_getD,List.getD_eq_getElem?_getD,List.getElem?_drop]
def MixR (base : Nat) (xs:List Int):Value→World→Prop:=fun v W=>∃ u,v=.tuple #[u,.nilIface]∧OwnN .u8 5 base xs u W
theorem Qdd (base : Nat) (xs:List Int):Qb8 Ext (MixR base xs):=fun _ _ _ hR ⟨u,e,h⟩=>⟨u,e,h.ext hR⟩
theorem MixG (n0 : Nat) (key nonce text:List Int) (v v2:Value) (B B2:Nat) (number:Int) (th tq:TypeId) (w:World) (hh:w.heap[2]? = some (.cells (ints .u32 [1634760805,857760878,2036477234,1797285236]) th)) (hq:w.heap[3]? = some (.cells (ints .i64 [0,4,8,12,1,5,9,13,2,6,10,14,3,7,11,15,0,5,10,15,1,6,11,12,2,7,8,13,3,4,9,14]) tq)) (hkl:key.length=32) (hn:RdK .u8 B nonce v w) (ht:RdK .u8 B2 text v2 w) (h:nonce.length=12) (r:Nat) (hr:number+(r:Int)=4294967296) (h1:0≤number) (h2:number≤4294967295) (hfit:text.length≤64*r) (htl:text.length≤2000000) (hn0:n0≤w.heap.size) :
    Calls Tryd.prog 103 #[.agg (ints .u8 key),v,.int .i64 number,v2] w (QbD w (MixR n0 (mixV (QaF key nonce) number text))) :=
  (Qlq key nonce text v v2 B B2 number th tq w hh hq hkl hn ht h r hr h1 h2 hfit htl).mono fun e W' hg=>by
    obtain ⟨v',e1,e2,u,e3,e4⟩:=hg
    exact ⟨v',e1,e2,u,e3,e4.base hn0⟩
theorem u64n (n : Nat) (hn:n<18446744073709551616):IntKind.u64.wrap ((n:Nat):Int)=((n:Nat):Int):=by
  have:∀ z:Int,IntKind.u64.wrap z=z%2^64:=fun _=>rfl
  rw [this]; omega
end Go.Proofs.YtoiendjhplbjjaaDoor.Cha
end
section
namespace Go.Proofs.YtoiendjhplbjjaaDoor.Ae
open Go Go.RowKit
open Rely Auto Own Sha Cha
def lev : List Int→Int
  | []=>0
  | a::t=>a+256*lev t
def p256 (n : Nat):Int:=256^n
theorem QeS : p256 0=1:=rfl
theorem QbF (n : Nat):p256 (n+1)=256*p256 n:=by unfold p256; rw [Int.pow_succ,Int.mul_comm]
theorem Qc3 (m n:Nat):p256 (m+n)=p256 m*p256 n:=by unfold p256; rw [Int.pow_add]
theorem QbQ (n : Nat):0<p256 n:=Int.pow_pos (by decide)
theorem Qde : ∀ (xs:List Int) (x:Int),lev (xs++[x])=lev xs+x*p256 xs.length
  | [],x=>by simp [lev,QeS]
  | a::t,x=>by
    rw [List.cons_append,lev,Qde t x,lev,List.length_cons,QbF]
    grind
theorem Qgp : ∀ (xs ys:List Int),lev (xs++ys)=lev xs+p256 xs.length*lev ys
  | [],ys=>by simp [lev,QeS]
  | a::t,ys=>by
    rw [List.cons_append,lev,Qgp t ys,lev,List.length_cons,QbF]
    grind
theorem Qbh : ∀ {xs:List Int},Qai xs→0≤lev xs
  | [],_=>by simp [lev]
  | a::t,h=>by
    have h1:=h a (List.mem_cons_self ..)
    have h2:=Qbh (xs:=t) fun x hx=>h x (List.mem_cons_of_mem _ hx)
    rw [lev]; omega
theorem Qd7 : ∀ {xs:List Int},Qai xs→lev xs<p256 xs.length
  | [],_=>by simp [lev,QeS]
  | a::t,h=>by
    have h1:=h a (List.mem_cons_self ..)
    have h2:=Qd7 (xs:=t) fun x hx=>h x (List.mem_cons_of_mem _ hx)
    rw [lev,List.length_cons,QbF]; omega
theorem Qbe (xs : List Int) (i:Nat) (h:i<xs.length):lev (xs.take (i+1))=lev (xs.take i)+nth xs i*p256 i:=by
  have e:xs.take (i+1)=xs.take i++[nth xs i]:=by
    rw [List.take_add_one,List.getElem?_eq_getElem h]
    simp [nth,h]
  rw [e,Qde,List.length_take,Nat.min_eq_left (by omega)]
theorem QcB (xs : List Int) (i:Nat) (h:xs.length≤i):lev (xs.take i)=lev xs:=by rw [List.take_of_length_le h]
theorem Qgo : ∀ (xs:List Int) (m:Nat) (d:Int),m<xs.length→lev (xs.set m d)=lev xs+(d-nth xs m)*p256 m
  | [],m,d,h=>by simp at h
  | a::t,0,d,_=>by simp only [List.set_cons_zero,lev,QeS]; show d+256*lev t=a+256*lev t+(d-a)*1; omega
  | a::t,m+1,d,h=>by
    rw [List.set_cons_succ,lev,Qgo t m d (by simpa using h),lev,QbF]
    show a+256*(lev t+(d-nth t m)*p256 m)=a+256*lev t+(d-nth t m)*(256*p256 m)
    grind
theorem Qif (n : Nat):lev (List.replicate n 0)=0:=by
  induction n with
  | zero=>rfl
  | succ n ih=>rw [List.replicate_succ,lev,ih]; rfl
theorem Qjc (a b:Int):a/256/b=a/(256*b):=by rw [Int.ediv_ediv,if_neg (by omega)]; exact Int.sub_zero _
theorem QcV : ∀ (xs:List Int) (i:Nat),Qai xs→nth xs i=lev xs/p256 i%256
  | [],i,_=>by
    have:nth ([]:List Int) i=0:=by simp [nth]
    rw [this]; simp [lev]
  | a::t,0,h=>by
    have h1:=h a (List.mem_cons_self ..)
    show a=lev (a::t)/1%256
    rw [lev]; omega
  | a::t,i+1,h=>by
    have h1:=h a (List.mem_cons_self ..)
    show nth t i=_
    rw [QcV t i fun x hx=>h x (List.mem_cons_of_mem _ hx),lev,QbF,←Qjc,show (a+256*lev t)/256=lev t by omega]
theorem QaR {a b:List Int} (ha:Qai a) (hb:Qai b):Qai (a++b):=fun x hx=>by
  rcases List.mem_append.1 hx with h | h
  · exact ha x h
  · exact hb x h
theorem Qbz {x : Int} (h0:0≤x) (h1:x≤255):Qai [x]:=fun y hy=>by rw [List.mem_singleton] at hy; subst hy; exact ⟨h0,h1⟩
theorem Qa4 {a : List Int} (ha:Qai a) (n:Nat):Qai (a.take n):=fun x hx=>ha x (List.mem_of_mem_take hx)
theorem QaK {a : List Int} (ha:Qai a) (n:Nat):Qai (a.drop n):=fun x hx=>ha x (List.mem_of_mem_drop hx)
theorem QaY {a : List Int} (ha:Qai a) (n:Nat) {x:Int} (h0:0≤x) (h1:x≤255):Qai (a.set n x):=fun y hy=>by
  rcases List.mem_or_eq_of_mem_set hy with h | h
  · exact ha y h
  · subst h; exact ⟨h0,h1⟩
def PP : Int:=1361129467683753853853498429727072845819
def Qc8 (r : Int) (t:List Int):Nat→Int
  | 0=>0
  | n+1=>(Qc8 r t n+lev (((t.drop (16*n)).take 16)++[1]))*r%PP
def Qdj (r : Int) (t:List Int):Int:=Qc8 r t ((t.length+15)/16)
def by16 (v : Int):List Int:=(List.range 16).map fun i=>v/p256 i%256
def tagV (r s:Int) (t:List Int):List Int:=by16 (Qdj r t+s)
theorem Qa6 (v : Int):(by16 v).length=16:=by simp [by16]
theorem Qh3 (v : Int):Qai (by16 v):=fun x hx=>by
  obtain ⟨i,-,rfl⟩:=List.mem_map.1 hx
  omega
theorem Qfx (v : Int) (i:Nat) (h:i<16):nth (by16 v) i=v/p256 i%256:=by
  unfold nth by16
  rw [List.getD_eq_getElem?_getD,List.getElem?_map,List.getElem?_range h]; rfl
end Go.Proofs.YtoiendjhplbjjaaDoor.Ae
end
section
namespace Go.Proofs.YtoiendjhplbjjaaDoor.Ae
open Go Go.RowKit
open Rely Auto Own Sha
open Sha Cha
theorem QcA (a : List Int) (i:Nat) (h:a.length≤i):lev (a.take (i+1))=lev (a.take i)+0*p256 i:=by
  rw [QcB a i h,QcB a (i+1) (by omega)]; omega
theorem QdI {zs a b:List Int} {c n da db:Int} {i:Nat} (hl:zs.length=i) (hv:lev zs+c*p256 i=lev (a.take i)+lev (b.take i)) (hn:n=c+da+db) (ha:lev (a.take (i+1))=lev (a.take i)+da*p256 i) (hb:lev (b.take (i+1))=lev (b.take i)+db*p256 i) :
    lev (zs++[n%256])+n/256*p256 (i+1)=lev (a.take (i+1))+lev (b.take (i+1)):=by
  rw [ha,hb,Qde,hl,QbF]
  have h1:n=256*(n/256)+n%256:=by omega
  have h2:n*p256 i=256*(n/256)*p256 i+n%256*p256 i:=by rw [←Int.add_mul,←h1]
  have h3:n*p256 i=c*p256 i+da*p256 i+db*p256 i:=by rw [hn,Int.add_mul,Int.add_mul]
  grind
def DigR (base : Nat) (n:Int) (m:Nat):Value→World→Prop:=fun v W=>∃ zs:List Int,Qai zs∧lev zs=n∧zs.length≤m∧OwnN .i64 3 base zs v W
theorem QcO (b : List Int) (i:Nat) (h:i<b.length):b.take (i+1)=b.take i++[nth b i]:=by
  rw [List.take_add_one,List.getElem?_eq_getElem h]
  simp [nth,h]
theorem Qdz (b : List Int) (v:Value) (B:Nat) (w:World) (hb:RdK .u8 B b v w) (hl:b.length≤1000000) (hbb:Qai b):Calls Tryd.prog 147 #[v] w (QbD w (OwnN .i64 3 w.heap.size b)):=by
 obtain ⟨a_b,c_b,rfl,-⟩:=id hb
 refine enter 20 [(0,.slice a_b b.length c_b)] Tryd.func147 rfl rfl kj rfl <| sgB kj <| sgB kj <| wp_seq_k fun K3 hK3=>sgB kj <| wp_block <| QaB (fun (s1:Nat×Value)=>[(0,.slice a_b b.length c_b),(3,s1.2),(4,.int .i64 ((s1.1:Nat):Int))]) (fun (s1:Nat×Value) W=>(s1.1≤b.length)∧(OwnN .i64 3 w.heap.size (b.take s1.1) s1.2 W)∧(Ext w W)∧(Ext w W)) (fun (s1:Nat×Value)=>b.length-s1.1) (0,(.slice none 0 0)) ⟨kj,kj,kj,trivial⟩ ⟨(Nat.zero_le _),(by rw [List.take_zero]; exact Qbb _ _ _ _),(Rely.Ext.refl w),(Rely.Ext.refl w)⟩ fun s1 X1 V1 hI1=>?_
 obtain ⟨i,u⟩:=s1
 obtain ⟨hi,hu,kk1,xx1⟩:=hI1
 replace hi:i≤b.length:=hi
 replace hu:OwnN .i64 3 w.heap.size (b.take i) u V1:=hu
 replace kk1:Ext w V1:=kk1
 replace xx1:Ext w V1:=xx1
 have e1:=kk1
 refine wp_seq_k fun K5 hK5=>sgB kj <| Qa7 (t:=decide (((i:Nat):Int)<((b.length:Nat):Int))) kj (fun c7=>?_) (fun c7=>?_)
 ·skip
  have hlt8:i<b.length:=by have:=of_decide_eq_true c7; omega
  obtain ⟨grb8,orb8,harb8,-,hlrb8,hcrb8⟩:=Qb0 (RdK.ext hb xx1) (by omega)
  have hbi:=Qa5 hbb i
  refine wp_skip <| hK5 _ _ <| wp_seq_k fun K9 hK9=>wp_block <| Qac <| sg 3 kj <| Qaa (.pointer (some ⟨grb8,orb8+i,none⟩)) 14 rfl kj (Qaw 33 _ _ .i64 i grb8 orb8 b.length c_b 5 a_b _ harb8 rfl rfl kj kj kj kj (Nat.lt_of_lt_of_eq (show i<(b).length by omega) (rfl:(b).length=(b).length).symm)) <| Qaa (.int .u8 (nth (b) (i))) 15 rfl kj (Qap 5 _ _ (.int .u8 (nth (b) (i))) (hcrb8 i (Nat.lt_of_lt_of_eq (show i<(b).length by omega) (rfl:(b).length=(b).length).symm)) rfl kj kj) <| Qaa (.int .i64 (nth b i)) 16 rfl kj (Qad (u:=.int .i64 (IntKind.i64.wrap (nth (b) (i)))) kj (congrArg (Value.int .i64) (IntWalk.i64_in _ (by omega)))) <| QaD (ints .i64 ([(nth b i)])) 3 1 17 rfl kj kj fun g10 W2 l10 e2 r10_2=>?_
  have b10:=qT xx1.size l10
  refine Qa9 (k:=.i64) (T:=3) (xs:=b.take i) (ys:=[(nth b i)]) (V:=w) 8 (.tmp 11) (.tmp 17) 66 rfl kj kj (by decide) 18 rfl kj kj kj (hu.ext e2) (QaM (xs:=[(nth b i)]) (n:=1) rfl r10_2 (Qa0 r10_2) (show 1≤maxLen from by decide)) (by rw [List.length_take]; show _+1≤_; omega) (Rely.Ext.trans e1 e2) fun z1 W3 f12 y3 l3=>?_
  refine sg 1 kj <| Qae <| hK9 _ _ <| Qac <| sg 1 kj <| Qaa (.int .i64 ((i+1:Nat):Int)) 10 rfl kj (Qad (u:=.int .i64 (IntKind.i64.wrap (((i:Nat):Int)+1))) kj (congrArg (Value.int .i64) (i64n _ _ (by omega) (by omega)))) <| sg 1 kj <| Qae ?_
  repeat (first | with_reducible refine goX1 ?_ | with_reducible refine goX2 ?_ | with_reducible refine goX3 ?_)
  exact Qax ((i+1),z1) ⟨kj,kj,kj,trivial⟩ ⟨(by omega),(by rw [QcO b i hlt8]; exact f12),y3,(Ext.low (Ext.tr xx1 e2) l3 (Rely.Ext.refl w).size)⟩ (by show b.length-(i+1)<b.length-i; omega)
 ·skip
  have heq8:i=b.length:=by have:=of_decide_eq_false c7; omega
  refine wp_exit <| hK3 _ _ <| sgB kj <| wp_ret ?_
  repeat (first | with_reducible refine goR1 ?_ | with_reducible refine goR2 ?_)
  exact (show bodyPost _ _ _ .ret _ _ from ret1 (u) rfl (Qaq kj) ⟨u,rfl,xx1,OwnN.base (Rely.Ext.refl w).size (by have h9:=hu; rw [heq8,List.take_length] at h9; exact h9)⟩)
theorem Qek (a b:List Int) (v v2:Value) (B B2:Nat) (w:World) (ha:RdK .i64 B a v w) (hb:RdK .i64 B2 b v2 w) (hal:a.length≤1000000) (hbl:b.length≤1000000) (haa:Qai a) (hbb:Qai b) :
  Calls Tryd.prog 151 #[v,v2] w (QbD w (DigR w.heap.size (lev a+lev b) (max a.length b.length+1))):=by
 obtain ⟨a_a,c_a,rfl,-⟩:=id ha
 obtain ⟨a_b,c_b,rfl,-⟩:=id hb
 refine enter 54 [(0,.slice a_a a.length c_a),(1,.slice a_b b.length c_b)] Tryd.func151 rfl rfl kj rfl <| sgB kj <| sgB kj <| sgB kj <| wp_seq_k fun K4 hK4=>sgB kj <| wp_block <| QaB (fun (s1:Nat×Int×List Int×Value)=>[(0,.slice a_a a.length c_a),(1,.slice a_b b.length c_b),(5,s1.2.2.2),(6,.int .i64 (s1.2.1)),(7,.int .i64 ((s1.1:Nat):Int))]) (fun (s1:Nat×Int×List Int×Value) W=>(s1.2.2.1.length=s1.1)∧(Qai s1.2.2.1)∧(lev s1.2.2.1+s1.2.1*p256 s1.1=lev (a.take s1.1)+lev (b.take s1.1))∧(0≤s1.2.1∧s1.2.1≤1)∧(s1.1≤max a.length b.length+1)∧(s1.1=max a.length b.length+1→s1.2.1=0)∧(OwnN .i64 3 w.heap.size s1.2.2.1 s1.2.2.2 W)∧(Ext w W)∧(Ext w W)) (fun (s1:Nat×Int×List Int×Value)=>max a.length b.length+1-s1.1) (0,0,[],(.slice none 0 0)) ⟨kj,kj,kj,kj,kj,trivial⟩ ⟨rfl,(fun x hx=>by cases hx),(by simp [lev]),⟨Int.le_refl _,by decide⟩,(Nat.zero_le _),(fun _=>rfl),(Qbb _ _ _ _),(Rely.Ext.refl w),(Rely.Ext.refl w)⟩ fun s1 X1 V1 hI1=>?_
 obtain ⟨i,c,zs,u⟩:=s1
 obtain ⟨hzl,hzb,hv,hc,him,hm0,hu,kk1,xx1⟩:=hI1
 replace hzl:zs.length=i:=hzl
 replace hzb:Qai zs:=hzb
 replace hv:lev zs+c*p256 i=lev (a.take i)+lev (b.take i):=hv
 replace hc:0≤c∧c≤1:=hc
 replace him:i≤max a.length b.length+1:=him
 replace hm0:i=max a.length b.length+1→c=0:=hm0
 replace hu:OwnN .i64 3 w.heap.size zs u V1:=hu
 replace kk1:Ext w V1:=kk1
 replace xx1:Ext w V1:=xx1
 have e1:=kk1
 refine wp_seq_k fun K6 hK6=>wp_seq_k fun K7 hK7=>?_
 rcases (show i<a.length∨(a.length≤i∧i<b.length)∨(a.length≤i∧b.length≤i∧0<c)∨(a.length≤i∧b.length≤i∧¬ 0<c) by omega) with hq | hq | hq | hq
 ·skip
  have hia:i<a.length:=hq
  have hai:=Qa5 haa i
  refine Qac <| sg 3 kj <| Qaa (.bool true) 12 rfl kj (Qad (u:=.bool (decide (((i:Nat):Int)<((a.length:Nat):Int)))) kj (congrArg Value.bool (decide_eq_true (by omega)))) <| sg 10 kj <| sgN hK7 <| cond_true kj <| wp_skip <| hK6 _ _ <| wp_seq_k fun K8 hK8=>wp_block ?_
  refine sgB kj <| wp_seq_k fun K10 hK10=>sgC fun K11 hK11=>sg 3 kj <| Qaa (.bool true) 29 rfl kj (Qad (u:=.bool (decide (((i:Nat):Int)<((a.length:Nat):Int)))) kj (congrArg Value.bool (decide_eq_true (by omega)))) <| sgN hK11 <| cond_true kj <| Qac <| sg 1 kj ?_
  obtain ⟨gra12,ora12,hara12,-,hlra12,hcra12⟩:=Qb0 (RdK.ext ha xx1) (by omega)
  refine sg 2 kj <| Qaa (.pointer (some ⟨gra12,ora12+i,none⟩)) 33 rfl kj (Qaw 66 _ _ .i64 i gra12 ora12 a.length c_a 3 a_a _ hara12 rfl rfl kj kj kj kj (Nat.lt_of_lt_of_eq (show i<(a).length by omega) (rfl:(a).length=(a).length).symm)) <| Qaa (.int .i64 (nth (a) (i))) 34 rfl kj (Qap 3 _ _ (.int .i64 (nth (a) (i))) (hcra12 i (Nat.lt_of_lt_of_eq (show i<(a).length by omega) (rfl:(a).length=(a).length).symm)) rfl kj kj) <| Qaa (.int .i64 (c+nth (a) (i))) 35 rfl kj (Qad (u:=.int .i64 (IntKind.i64.wrap (c+(nth (a) (i))))) kj (congrArg (Value.int .i64) (IntWalk.i64_in _ (by omega)))) <| sg 1 kj <| Qae <| hK10 _ _ <| wp_seq_k fun K13 hK13=>sgB kj <| Qa7 (t:=decide (((i:Nat):Int)<((b.length:Nat):Int))) kj (fun c15=>?_) (fun c15=>?_)
  ·skip
   have hib:i<b.length:=by have:=of_decide_eq_true c15; omega
   have hbi:=Qa5 hbb i
   refine Qac <| sg 1 kj ?_
   obtain ⟨grb16,orb16,harb16,-,hlrb16,hcrb16⟩:=Qb0 (RdK.ext hb xx1) (by omega)
   refine sg 2 kj <| Qaa (.pointer (some ⟨grb16,orb16+i,none⟩)) 43 rfl kj (Qaw 66 _ _ .i64 i grb16 orb16 b.length c_b 3 a_b _ harb16 rfl rfl kj kj kj kj (Nat.lt_of_lt_of_eq (show i<(b).length by omega) (rfl:(b).length=(b).length).symm)) <| Qaa (.int .i64 (nth (b) (i))) 44 rfl kj (Qap 3 _ _ (.int .i64 (nth (b) (i))) (hcrb16 i (Nat.lt_of_lt_of_eq (show i<(b).length by omega) (rfl:(b).length=(b).length).symm)) rfl kj kj) <| Qaa (.int .i64 (c+nth (a) (i)+nth (b) (i))) 45 rfl kj (Qad (u:=.int .i64 (IntKind.i64.wrap ((c+nth (a) (i))+(nth (b) (i))))) kj (congrArg (Value.int .i64) (IntWalk.i64_in _ (by omega)))) <| sg 1 kj <| Qae <| hK13 _ _ <| sgC fun K17 hK17=>sg 2 kj <| Qaa (.int .i64 ((c+nth (a) (i)+nth (b) (i))%256)) 48 rfl kj (Qad (u:=.int .i64 (Int.tmod ((c+nth (a) (i)+nth (b) (i))) (256))) kj (congrArg (Value.int .i64) (show Int.tmod (c+nth (a) (i)+nth (b) (i)) 256=(c+nth (a) (i)+nth (b) (i))%256 from Int.tmod_eq_emod_of_nonneg (by omega)))) ?_
   refine QaD (ints .i64 ([((c+nth (a) (i)+nth (b) (i))%256)])) 3 1 49 rfl kj kj fun g18 W2 l18 e2 r18_2=>?_
   have x2:=Ext.tr xx1 e2
   have b18:=qT xx1.size l18
   have y0_2:=(Rely.Ext.trans e1 e2)
   refine Qa9 (k:=.i64) (T:=3) (xs:=zs) (ys:=[((c+nth (a) (i)+nth (b) (i))%256)]) (V:=w) 8 (.tmp 46) (.tmp 49) 66 rfl kj kj (by decide) 50 rfl kj kj kj (hu.ext e2) (QaM (xs:=[((c+nth (a) (i)+nth (b) (i))%256)]) (n:=1) rfl r18_2 (Qa0 r18_2) (show 1≤maxLen from by decide)) (by show zs.length+1≤_; omega) y0_2 fun z1 W3 f20 y3 l3=>?_
   have x3:=Ext.low x2 l3 (Rely.Ext.refl w).size
   refine sg 1 kj <| sgN hK17 <| Qac <| sg 1 kj <| Qaa (.int .i64 ((c+nth (a) (i)+nth (b) (i))/256)) 52 rfl kj (Qad (u:=.int .i64 (IntKind.i64.wrap (Int.tdiv ((c+nth (a) (i)+nth (b) (i))) (256)))) kj (congrArg (Value.int .i64) (by rw [show Int.tdiv (c+nth (a) (i)+nth (b) (i)) 256=(c+nth (a) (i)+nth (b) (i))/256 from Int.tdiv_eq_ediv_of_nonneg (by omega)]; exact IntWalk.i64_in _ (by omega)))) ?_
   refine sg 1 kj <| Qae <| hK8 _ _ <| Qac <| sg 1 kj <| Qaa (.int .i64 ((i+1:Nat):Int)) 24 rfl kj (Qad (u:=.int .i64 (IntKind.i64.wrap (((i:Nat):Int)+1))) kj (congrArg (Value.int .i64) (i64n _ _ (by omega) (by omega)))) <| sg 1 kj <| Qae ?_
   repeat (first | with_reducible refine goX1 ?_ | with_reducible refine goX2 ?_ | with_reducible refine goX3 ?_)
   exact Qax ((i+1),((c+nth (a) (i)+nth (b) (i))/256),(zs++[(c+nth (a) (i)+nth (b) (i))%256]),z1) ⟨kj,kj,kj,kj,kj,trivial⟩ ⟨(by rw [List.length_append,hzl]; rfl),(QaR hzb (Qbz (by omega) (by omega))),(QdI (c:=c) (n:=c+nth (a) (i)+nth (b) (i)) (da:=nth a i) (db:=nth b i) hzl hv (by omega) (Qbe a i hia) (Qbe b i hib)),(show 0≤(c+nth (a) (i)+nth (b) (i))/256∧(c+nth (a) (i)+nth (b) (i))/256≤1 by omega),(show i+1≤max a.length b.length+1 by omega),(show i+1=max a.length b.length+1→(c+nth (a) (i)+nth (b) (i))/256=0 by intro h8; omega),f20,y3,x3⟩ (by show max a.length b.length+1-(i+1)<max a.length b.length+1-i; omega)
  ·skip
   have hnb:b.length≤i:=by have:=of_decide_eq_false c15; omega
   refine wp_skip <| hK13 _ _ <| sgC fun K22 hK22=>sg 2 kj <| Qaa (.int .i64 ((c+nth (a) (i))%256)) 48 rfl kj (Qad (u:=.int .i64 (Int.tmod ((c+nth (a) (i))) (256))) kj (congrArg (Value.int .i64) (show Int.tmod (c+nth (a) (i)) 256=(c+nth (a) (i))%256 from Int.tmod_eq_emod_of_nonneg (by omega)))) <| QaD (ints .i64 ([((c+nth (a) (i))%256)])) 3 1 49 rfl kj kj fun g23 W2 l23 e2 r23_2=>?_
   have x2:=Ext.tr xx1 e2
   have b23:=qT xx1.size l23
   have y0_2:=(Rely.Ext.trans e1 e2)
   refine Qa9 (k:=.i64) (T:=3) (xs:=zs) (ys:=[((c+nth (a) (i))%256)]) (V:=w) 8 (.tmp 46) (.tmp 49) 66 rfl kj kj (by decide) 50 rfl kj kj kj (hu.ext e2) (QaM (xs:=[((c+nth (a) (i))%256)]) (n:=1) rfl r23_2 (Qa0 r23_2) (show 1≤maxLen from by decide)) (by show zs.length+1≤_; omega) y0_2 fun z2 W3 f25 y3 l3=>?_
   have x3:=Ext.low x2 l3 (Rely.Ext.refl w).size
   refine sg 1 kj <| sgN hK22 <| Qac <| sg 1 kj <| Qaa (.int .i64 ((c+nth (a) (i))/256)) 52 rfl kj (Qad (u:=.int .i64 (IntKind.i64.wrap (Int.tdiv ((c+nth (a) (i))) (256)))) kj (congrArg (Value.int .i64) (by rw [show Int.tdiv (c+nth (a) (i)) 256=(c+nth (a) (i))/256 from Int.tdiv_eq_ediv_of_nonneg (by omega)]; exact IntWalk.i64_in _ (by omega)))) ?_
   refine sg 1 kj <| Qae <| hK8 _ _ <| Qac <| sg 1 kj <| Qaa (.int .i64 ((i+1:Nat):Int)) 24 rfl kj (Qad (u:=.int .i64 (IntKind.i64.wrap (((i:Nat):Int)+1))) kj (congrArg (Value.int .i64) (i64n _ _ (by omega) (by omega)))) <| sg 1 kj <| Qae ?_
   repeat (first | with_reducible refine goX1 ?_ | with_reducible refine goX2 ?_ | with_reducible refine goX3 ?_)
   exact Qax ((i+1),((c+nth (a) (i))/256),(zs++[(c+nth (a) (i))%256]),z2) ⟨kj,kj,kj,kj,kj,trivial⟩ ⟨(by rw [List.length_append,hzl]; rfl),(QaR hzb (Qbz (by omega) (by omega))),(QdI (c:=c) (n:=c+nth (a) (i)) (da:=nth a i) (db:=0) hzl hv (by omega) (Qbe a i hia) (QcA b i hnb)),(show 0≤(c+nth (a) (i))/256∧(c+nth (a) (i))/256≤1 by omega),(show i+1≤max a.length b.length+1 by omega),(show i+1=max a.length b.length+1→(c+nth (a) (i))/256=0 by intro h8; omega),f25,y3,x3⟩ (by show max a.length b.length+1-(i+1)<max a.length b.length+1-i; omega)
 ·skip
  have hna:a.length≤i:=hq.1
  have hib:i<b.length:=hq.2
  have hbi:=Qa5 hbb i
  refine Qac <| sg 3 kj <| Qaa (.bool false) 12 rfl kj (Qad (u:=.bool (decide (((i:Nat):Int)<((a.length:Nat):Int)))) kj (congrArg Value.bool (decide_eq_false (by omega)))) <| sg 4 kj <| Qaa (.bool true) 17 rfl kj (Qad (u:=.bool (decide (((i:Nat):Int)<((b.length:Nat):Int)))) kj (congrArg Value.bool (decide_eq_true (by omega)))) <| sg 5 kj <| sgN hK7 <| cond_true kj <| wp_skip <| hK6 _ _ ?_
  refine wp_seq_k fun K27 hK27=>wp_block <| sgB kj <| wp_seq_k fun K29 hK29=>sgC fun K30 hK30=>sg 3 kj <| Qaa (.bool false) 29 rfl kj (Qad (u:=.bool (decide (((i:Nat):Int)<((a.length:Nat):Int)))) kj (congrArg Value.bool (decide_eq_false (by omega)))) <| sgN hK30 <| cond_false kj <| wp_skip ?_
  refine hK29 _ _ <| wp_seq_k fun K31 hK31=>sgC fun K32 hK32=>sg 3 kj <| Qaa (.bool true) 39 rfl kj (Qad (u:=.bool (decide (((i:Nat):Int)<((b.length:Nat):Int)))) kj (congrArg Value.bool (decide_eq_true (by omega)))) <| sgN hK32 <| cond_true kj <| Qac <| sg 1 kj ?_
  obtain ⟨grb33,orb33,harb33,-,hlrb33,hcrb33⟩:=Qb0 (RdK.ext hb xx1) (by omega)
  refine sg 2 kj <| Qaa (.pointer (some ⟨grb33,orb33+i,none⟩)) 43 rfl kj (Qaw 66 _ _ .i64 i grb33 orb33 b.length c_b 3 a_b _ harb33 rfl rfl kj kj kj kj (Nat.lt_of_lt_of_eq (show i<(b).length by omega) (rfl:(b).length=(b).length).symm)) <| Qaa (.int .i64 (nth (b) (i))) 44 rfl kj (Qap 3 _ _ (.int .i64 (nth (b) (i))) (hcrb33 i (Nat.lt_of_lt_of_eq (show i<(b).length by omega) (rfl:(b).length=(b).length).symm)) rfl kj kj) <| Qaa (.int .i64 (c+nth (b) (i))) 45 rfl kj (Qad (u:=.int .i64 (IntKind.i64.wrap (c+(nth (b) (i))))) kj (congrArg (Value.int .i64) (IntWalk.i64_in _ (by omega)))) <| sg 1 kj <| Qae <| hK31 _ _ <| sgC fun K34 hK34=>sg 2 kj <| Qaa (.int .i64 ((c+nth (b) (i))%256)) 48 rfl kj (Qad (u:=.int .i64 (Int.tmod ((c+nth (b) (i))) (256))) kj (congrArg (Value.int .i64) (show Int.tmod (c+nth (b) (i)) 256=(c+nth (b) (i))%256 from Int.tmod_eq_emod_of_nonneg (by omega)))) ?_
  refine QaD (ints .i64 ([((c+nth (b) (i))%256)])) 3 1 49 rfl kj kj fun g35 W2 l35 e2 r35_2=>?_
  have x2:=Ext.tr xx1 e2
  have b35:=qT xx1.size l35
  have y0_2:=(Rely.Ext.trans e1 e2)
  refine Qa9 (k:=.i64) (T:=3) (xs:=zs) (ys:=[((c+nth (b) (i))%256)]) (V:=w) 8 (.tmp 46) (.tmp 49) 66 rfl kj kj (by decide) 50 rfl kj kj kj (hu.ext e2) (QaM (xs:=[((c+nth (b) (i))%256)]) (n:=1) rfl r35_2 (Qa0 r35_2) (show 1≤maxLen from by decide)) (by show zs.length+1≤_; omega) y0_2 fun z3 W3 f37 y3 l3=>?_
  have x3:=Ext.low x2 l3 (Rely.Ext.refl w).size
  refine sg 1 kj <| sgN hK34 <| Qac <| sg 1 kj <| Qaa (.int .i64 ((c+nth (b) (i))/256)) 52 rfl kj (Qad (u:=.int .i64 (IntKind.i64.wrap (Int.tdiv ((c+nth (b) (i))) (256)))) kj (congrArg (Value.int .i64) (by rw [show Int.tdiv (c+nth (b) (i)) 256=(c+nth (b) (i))/256 from Int.tdiv_eq_ediv_of_nonneg (by omega)]; exact IntWalk.i64_in _ (by omega)))) ?_
  refine sg 1 kj <| Qae <| hK27 _ _ <| Qac <| sg 1 kj <| Qaa (.int .i64 ((i+1:Nat):Int)) 24 rfl kj (Qad (u:=.int .i64 (IntKind.i64.wrap (((i:Nat):Int)+1))) kj (congrArg (Value.int .i64) (i64n _ _ (by omega) (by omega)))) <| sg 1 kj <| Qae ?_
  repeat (first | with_reducible refine goX1 ?_ | with_reducible refine goX2 ?_ | with_reducible refine goX3 ?_)
  exact Qax ((i+1),((c+nth (b) (i))/256),(zs++[(c+nth (b) (i))%256]),z3) ⟨kj,kj,kj,kj,kj,trivial⟩ ⟨(by rw [List.length_append,hzl]; rfl),(QaR hzb (Qbz (by omega) (by omega))),(QdI (c:=c) (n:=c+nth (b) (i)) (da:=0) (db:=nth b i) hzl hv (by omega) (QcA a i hna) (Qbe b i hib)),(show 0≤(c+nth (b) (i))/256∧(c+nth (b) (i))/256≤1 by omega),(show i+1≤max a.length b.length+1 by omega),(show i+1=max a.length b.length+1→(c+nth (b) (i))/256=0 by intro h8; omega),f37,y3,x3⟩ (by show max a.length b.length+1-(i+1)<max a.length b.length+1-i; omega)
 ·skip
  have hna:a.length≤i:=hq.1
  have hnb:b.length≤i:=hq.2.1
  have hc0:0<c:=hq.2.2
  refine Qac <| sg 3 kj <| Qaa (.bool false) 12 rfl kj (Qad (u:=.bool (decide (((i:Nat):Int)<((a.length:Nat):Int)))) kj (congrArg Value.bool (decide_eq_false (by omega)))) <| sg 4 kj <| Qaa (.bool false) 17 rfl kj (Qad (u:=.bool (decide (((i:Nat):Int)<((b.length:Nat):Int)))) kj (congrArg Value.bool (decide_eq_false (by omega)))) <| sg 3 kj <| Qaa (.bool true) 21 rfl kj (Qad (u:=.bool (decide (c>0))) kj (congrArg Value.bool (decide_eq_true (by omega)))) <| sg 1 kj <| sgN hK7 <| cond_true kj ?_
  refine wp_skip <| hK6 _ _ <| wp_seq_k fun K39 hK39=>wp_block <| sgB kj <| wp_seq_k fun K41 hK41=>sgC fun K42 hK42=>sg 3 kj <| Qaa (.bool false) 29 rfl kj (Qad (u:=.bool (decide (((i:Nat):Int)<((a.length:Nat):Int)))) kj (congrArg Value.bool (decide_eq_false (by omega)))) <| sgN hK42 ?_
  refine cond_false kj <| wp_skip <| hK41 _ _ <| wp_seq_k fun K43 hK43=>sgC fun K44 hK44=>sg 3 kj <| Qaa (.bool false) 39 rfl kj (Qad (u:=.bool (decide (((i:Nat):Int)<((b.length:Nat):Int)))) kj (congrArg Value.bool (decide_eq_false (by omega)))) <| sgN hK44 <| cond_false kj <| wp_skip ?_
  refine hK43 _ _ <| sgC fun K45 hK45=>sg 2 kj <| Qaa (.int .i64 ((c)%256)) 48 rfl kj (Qad (u:=.int .i64 (Int.tmod (c) (256))) kj (congrArg (Value.int .i64) (show Int.tmod (c) 256=(c)%256 from Int.tmod_eq_emod_of_nonneg (by omega)))) <| QaD (ints .i64 ([((c)%256)])) 3 1 49 rfl kj kj fun g46 W2 l46 e2 r46_2=>?_
  have x2:=Ext.tr xx1 e2
  have b46:=qT xx1.size l46
  have y0_2:=(Rely.Ext.trans e1 e2)
  refine Qa9 (k:=.i64) (T:=3) (xs:=zs) (ys:=[((c)%256)]) (V:=w) 8 (.tmp 46) (.tmp 49) 66 rfl kj kj (by decide) 50 rfl kj kj kj (hu.ext e2) (QaM (xs:=[((c)%256)]) (n:=1) rfl r46_2 (Qa0 r46_2) (show 1≤maxLen from by decide)) (by show zs.length+1≤_; omega) y0_2 fun z4 W3 f48 y3 l3=>?_
  have x3:=Ext.low x2 l3 (Rely.Ext.refl w).size
  refine sg 1 kj <| sgN hK45 <| Qac <| sg 1 kj <| Qaa (.int .i64 ((c)/256)) 52 rfl kj (Qad (u:=.int .i64 (IntKind.i64.wrap (Int.tdiv (c) (256)))) kj (congrArg (Value.int .i64) (by rw [show Int.tdiv (c) 256=(c)/256 from Int.tdiv_eq_ediv_of_nonneg (by omega)]; exact IntWalk.i64_in _ (by omega)))) ?_
  refine sg 1 kj <| Qae <| hK39 _ _ <| Qac <| sg 1 kj <| Qaa (.int .i64 ((i+1:Nat):Int)) 24 rfl kj (Qad (u:=.int .i64 (IntKind.i64.wrap (((i:Nat):Int)+1))) kj (congrArg (Value.int .i64) (i64n _ _ (by omega) (by omega)))) <| sg 1 kj <| Qae ?_
  repeat (first | with_reducible refine goX1 ?_ | with_reducible refine goX2 ?_ | with_reducible refine goX3 ?_)
  exact Qax ((i+1),((c)/256),(zs++[(c)%256]),z4) ⟨kj,kj,kj,kj,kj,trivial⟩ ⟨(by rw [List.length_append,hzl]; rfl),(QaR hzb (Qbz (by omega) (by omega))),(QdI (c:=c) (n:=c) (da:=0) (db:=0) hzl hv (by omega) (QcA a i hna) (QcA b i hnb)),(show 0≤(c)/256∧(c)/256≤1 by omega),(show i+1≤max a.length b.length+1 by omega),(show i+1=max a.length b.length+1→(c)/256=0 by intro h8; omega),f48,y3,x3⟩ (by show max a.length b.length+1-(i+1)<max a.length b.length+1-i; omega)
 ·skip
  have hna:a.length≤i:=hq.1
  have hnb:b.length≤i:=hq.2.1
  have hc0:c=0:=by omega
  refine Qac <| sg 3 kj <| Qaa (.bool false) 12 rfl kj (Qad (u:=.bool (decide (((i:Nat):Int)<((a.length:Nat):Int)))) kj (congrArg Value.bool (decide_eq_false (by omega)))) <| sg 4 kj <| Qaa (.bool false) 17 rfl kj (Qad (u:=.bool (decide (((i:Nat):Int)<((b.length:Nat):Int)))) kj (congrArg Value.bool (decide_eq_false (by omega)))) <| sg 3 kj <| Qaa (.bool false) 21 rfl kj (Qad (u:=.bool (decide (c>0))) kj (congrArg Value.bool (decide_eq_false (by omega)))) <| sg 1 kj <| sgN hK7 <| cond_false kj ?_
  refine wp_exit <| hK4 _ _ <| sgB kj <| wp_ret ?_
  repeat (first | with_reducible refine goR1 ?_ | with_reducible refine goR2 ?_)
  exact (show bodyPost _ _ _ .ret _ _ from ret1 (u) rfl (Qaq kj) ⟨u,rfl,xx1,zs,hzb,(by rw [hc0,QcB a i hna,QcB b i hnb] at hv; omega),(by omega),OwnN.base (Rely.Ext.refl w).size hu⟩)
theorem QeQ (a : List Int) (a_a:Option Addr) (c_a:Nat) (B:Nat) (w:World) (ha:RdK .i64 B a (.slice a_a a.length c_a) w) (hal:a.length≤1000000) :
  Calls Tryd.prog 149 #[.slice a_a a.length c_a] w (QbD w (fun v W=>∃ m,m≤a.length∧v=.slice a_a m c_a∧lev (a.take m)=lev a∧(m=0∨nth a (m-1)≠0))):=by
 have hcap:a.length≤c_a:=by
  obtain ⟨_,_,e,q2,_⟩:=id ha
  simp only [Value.slice.injEq] at e
  obtain ⟨-,-,rfl⟩:=e
  exact q2
 refine enter 21 [(0,.slice a_a a.length c_a)] Tryd.func149 rfl rfl kj rfl <| sgB kj <| wp_seq_k fun K2 hK2=>wp_block <| QaB (fun (s1:Nat)=>[(0,.slice a_a s1 c_a)]) (fun (s1:Nat) W=>(s1≤a.length)∧(lev (a.take s1)=lev a)∧(Ext w W)∧(Ext w W)) (fun (s1:Nat)=>s1) a.length ⟨kj,trivial⟩ ⟨(qR _),(by rw [List.take_length]),(Rely.Ext.refl w),(Rely.Ext.refl w)⟩ fun s1 X1 V1 hI1=>?_
 obtain ⟨m,hs1⟩:∃ z,z=s1:=⟨_,rfl⟩
 subst hs1
 obtain ⟨hm,hv,kk1,xx1⟩:=hI1
 replace hm:m≤a.length:=hm
 replace hv:lev (a.take m)=lev a:=hv
 replace kk1:Ext w V1:=kk1
 replace xx1:Ext w V1:=xx1
 have e1:=kk1
 refine wp_seq_k fun K3 hK3=>wp_seq_k fun K4 hK4=>?_
 rcases (show m=0∨(0<m∧nth a (m-1)=0)∨(0<m∧nth a (m-1)≠0) by by_cases h1:nth a (m-1)=0 <;> omega) with hq | hq | hq
 ·skip
  have hm0:m=0:=hq
  refine Qac <| sg 2 kj <| Qaa (.bool false) 5 rfl kj (Qad (u:=.bool (decide (((m:Nat):Int)>0))) kj (congrArg Value.bool (decide_eq_false (by omega)))) <| sg 9 kj <| sgN hK4 <| cond_false kj <| wp_exit <| hK2 _ _ <| sgB kj <| wp_ret ?_
  repeat (first | with_reducible refine goR1 ?_ | with_reducible refine goR2 ?_)
  exact (show bodyPost _ _ _ .ret _ _ from ret1 (.slice a_a m c_a) rfl (Qaq kj) ⟨_,rfl,xx1,m,hm,rfl,hv,.inl hm0⟩)
 ·skip
  have hm1:0<m:=hq.1
  obtain ⟨gx,ox,hax,-,hlx,hcx⟩:=Qb0 (RdK.ext ha xx1) (by omega)
  refine Qac <| sg 2 kj <| Qaa (.bool true) 5 rfl kj (Qad (u:=.bool (decide (((m:Nat):Int)>0))) kj (congrArg Value.bool (decide_eq_true (by omega)))) <| sg 4 kj <| Qaa (.int .i64 (((m-1:Nat):Int))) 10 rfl kj (Qad (u:=.int .i64 (IntKind.i64.wrap (((m:Nat):Int)-1))) kj (congrArg (Value.int .i64) (by rw [show (((m:Nat):Int)-1)=((m-1:Nat):Int) by omega]; exact IntWalk.i64_in _ (by omega)))) ?_
  refine Qaa (.pointer (some ⟨gx,ox+(m-1),none⟩)) 11 rfl kj (Qaw 66 _ _ .i64 (m-1) gx ox m c_a 3 a_a _ hax rfl rfl kj kj kj kj (by omega)) <| Qaa (.int .i64 (nth a (m-1))) 12 rfl kj (Qap 3 _ _ (.int .i64 (nth a (m-1))) (hcx (m-1) (by omega)) rfl kj kj) <| Qaa (.bool true) 13 rfl kj (Qad (u:=.bool (((nth a (m-1))==0))) kj (congrArg Value.bool (by rw [hq.2]; rfl))) ?_
  refine sg 1 kj <| sgN hK4 <| cond_true kj <| wp_skip <| hK3 _ _ <| wp_block <| Qac <| sg 3 kj <| Qaa (.int .i64 (((m-1:Nat):Int))) 18 rfl kj (Qad (u:=.int .i64 (IntKind.i64.wrap (((m:Nat):Int)-1))) kj (congrArg (Value.int .i64) (by rw [show (((m:Nat):Int)-1)=((m-1:Nat):Int) by omega]; exact IntWalk.i64_in _ (by omega)))) ?_
  refine Qaa (.slice a_a (m-1) c_a) 19 rfl kj (Qbl (len:=m) 66 _ _ (m-1) 3 rfl kj kj kj .i64 kj (by omega)) <| sg 1 kj <| Qae ?_
  repeat (first | with_reducible refine goX1 ?_ | with_reducible refine goX2 ?_ | with_reducible refine goX3 ?_)
  exact Qax (m-1) ⟨kj,trivial⟩ ⟨(by omega),(by have h9:=Qbe a (m-1) (by omega); rw [show m-1+1=m by omega,hq.2] at h9; rw [←hv,h9]; omega),e1,xx1⟩ (by show m-1<m; omega)
 ·skip
  have hm1:0<m:=hq.1
  obtain ⟨gx,ox,hax,-,hlx,hcx⟩:=Qb0 (RdK.ext ha xx1) (by omega)
  refine Qac <| sg 2 kj <| Qaa (.bool true) 5 rfl kj (Qad (u:=.bool (decide (((m:Nat):Int)>0))) kj (congrArg Value.bool (decide_eq_true (by omega)))) <| sg 4 kj <| Qaa (.int .i64 (((m-1:Nat):Int))) 10 rfl kj (Qad (u:=.int .i64 (IntKind.i64.wrap (((m:Nat):Int)-1))) kj (congrArg (Value.int .i64) (by rw [show (((m:Nat):Int)-1)=((m-1:Nat):Int) by omega]; exact IntWalk.i64_in _ (by omega)))) ?_
  refine Qaa (.pointer (some ⟨gx,ox+(m-1),none⟩)) 11 rfl kj (Qaw 66 _ _ .i64 (m-1) gx ox m c_a 3 a_a _ hax rfl rfl kj kj kj kj (by omega)) <| Qaa (.int .i64 (nth a (m-1))) 12 rfl kj (Qap 3 _ _ (.int .i64 (nth a (m-1))) (hcx (m-1) (by omega)) rfl kj kj) <| Qaa (.bool false) 13 rfl kj (Qad (u:=.bool (((nth a (m-1))==0))) kj (congrArg Value.bool (beq_eq_false_iff_ne.2 hq.2))) <| sg 1 kj <| sgN hK4 <| cond_false kj <| wp_exit <| hK2 _ _ <| sgB kj <| wp_ret ?_
  repeat (first | with_reducible refine goR1 ?_ | with_reducible refine goR2 ?_)
  exact (show bodyPost _ _ _ .ret _ _ from ret1 (.slice a_a m c_a) rfl (Qaq kj) ⟨_,rfl,xx1,m,hm,rfl,hv,.inr hq.2⟩)
end Go.Proofs.YtoiendjhplbjjaaDoor.Ae
end
section
namespace Go.Proofs.YtoiendjhplbjjaaDoor.Ae
open Go Go.RowKit
open Rely Auto Own Sha
open Sha Cha
theorem Qib {x y:Int} (hx:0≤x∧x<256) (hy:0≤y∧y<256):0≤x*y∧x*y≤65025:=by
  refine ⟨Int.mul_nonneg hx.1 hy.1,?_⟩
  have h1:x*y≤255*y:=Int.mul_le_mul_of_nonneg_right (by omega) hy.1
  omega
theorem QeM {qs os b:List Int} {c n x y:Int} {i j:Nat} (hl:i+j<qs.length) (hv:lev qs+c*p256 (i+j)=lev os+x*p256 i*lev (b.take j)) (hn:n=nth qs (i+j)+c+x*y) (hb:lev (b.take (j+1))=lev (b.take j)+y*p256 j) :
    lev (qs.set (i+j) (n%256))+n/256*p256 (i+(j+1))=lev os+x*p256 i*lev (b.take (j+1)):=by
  rw [Qgo qs (i+j) _ hl,hb,←Nat.add_assoc,QbF]
  have hp:=Qc3 i j
  have h1:n=256*(n/256)+n%256:=by omega
  have h2:n*p256 (i+j)=256*(n/256)*p256 (i+j)+n%256*p256 (i+j):=by rw [←Int.add_mul,←h1]
  have h3:n*p256 (i+j)=nth qs (i+j)*p256 (i+j)+c*p256 (i+j)+x*y*p256 (i+j):=by rw [hn,Int.add_mul,Int.add_mul]
  have h4:x*y*p256 (i+j)=x*p256 i*(y*p256 j):=by rw [hp]; grind
  have h5:x*p256 i*(lev (b.take j)+y*p256 j)=x*p256 i*lev (b.take j)+x*p256 i*(y*p256 j):=Int.mul_add ..
  rw [h5,Int.sub_mul]
  grind
theorem Qhh {a b os:List Int} {i:Nat} (ha:Qai a) (hb:Qai b) (ho:Qai os) (hi:i≤a.length) (hv:lev os=lev (a.take i)*lev b):nth os (i+b.length)=0:=by
  rw [QcV os _ ho]
  have h1:=Qd7 (Qa4 ha i)
  have h2:=Qd7 hb
  have h3:=Qbh (Qa4 ha i)
  have h4:=Qbh hb
  rw [List.length_take,Nat.min_eq_left hi] at h1
  have h5:lev os<p256 (i+b.length):=by
    rw [hv,Qc3]
    exact Int.lt_of_le_of_lt (Int.mul_le_mul_of_nonneg_left (Int.le_of_lt h2) h3) (Int.mul_lt_mul_of_pos_right h1 (QbQ _))
  rw [Int.ediv_eq_zero_of_lt (Qbh ho) h5]; rfl
theorem QhB {a b os qs:List Int} {c:Int} {i j:Nat} (hi:i<a.length) (ho:lev os=lev (a.take i)*lev b) (hq:lev qs+c*p256 (i+j)=lev os+nth a i*p256 i*lev (b.take j)) (hc:c=0) (hj:b.length≤j):lev qs=lev (a.take (i+1))*lev b:=by
  rw [QcB b j hj,hc,ho] at hq
  rw [Qbe a i hi,Int.add_mul]
  omega
theorem QdM (xs : List Int) (m k:Nat) (d:Int) (h:m≠k):nth (xs.set m d) k=nth xs k:=by
  unfold nth; rw [List.getD_eq_getElem?_getD,List.getD_eq_getElem?_getD,List.getElem?_set_ne h]
theorem Qfk (a b:List Int) (v v2:Value) (B B2:Nat) (w:World) (ha:RdK .i64 B a v w) (hb:RdK .i64 B2 b v2 w) (hal:a.length≤1000000) (hbl:b.length≤1000000) (haa:Qai a) (hbb:Qai b) :
  Calls Tryd.prog 150 #[v,v2] w (QbD w (DigR w.heap.size (lev a*lev b) (a.length+b.length+1))):=by
 obtain ⟨a_a,c_a,rfl,-⟩:=id ha
 obtain ⟨a_b,c_b,rfl,-⟩:=id hb
 refine enter 66 [(0,.slice a_a a.length c_a),(1,.slice a_b b.length c_b)] Tryd.func150 rfl rfl kj rfl <| sgB kj <| sgC fun K2 hK2=>sg 4 kj <| Qaa (.int .i64 ((a.length+b.length:Nat):Int)) 14 rfl kj (Qad (u:=.int .i64 (IntKind.i64.wrap (((a.length:Nat):Int)+((b.length:Nat):Int)))) kj (congrArg (Value.int .i64) (i64n _ _ (by omega) (by omega)))) <| Qaa (.int .i64 (((a.length+b.length)+1:Nat):Int)) 15 rfl kj (Qad (u:=.int .i64 (IntKind.i64.wrap (((a.length+b.length:Nat):Int)+1))) kj (congrArg (Value.int .i64) (i64n _ _ (by omega) (by omega)))) <| QaD (ints .i64 (List.replicate ((a.length+b.length)+1) 0)) 3 ((a.length+b.length)+1) 16 rfl kj (Qe3 66 _ _ .i64 .i64 ((a.length+b.length)+1) 3 rfl kj kj kj (.inl kj) (by omega)) fun g3 W1 l3 e1 r3_1=>?_
 have b3:=qT (Rely.Ext.refl w).size l3
 refine sg 1 kj <| sgN hK2 <| wp_seq_k fun K4 hK4=>sgB kj <| wp_block <| QaB (fun (s1:Nat×List Int)=>[(0,.slice a_a a.length c_a),(1,.slice a_b b.length c_b),(5,.slice (some ⟨g3,0,none⟩) ((a.length+b.length)+1) ((a.length+b.length)+1)),(6,.int .i64 ((s1.1:Nat):Int))]) (fun (s1:Nat×List Int) W=>(s1.2.length=(a.length+b.length)+1)∧(Qai s1.2)∧(lev s1.2=lev (a.take s1.1)*lev b)∧(s1.1≤a.length)∧(W.heap[g3]? = some (.cells (ints .i64 (s1.2)) 3))∧(Qa2 [g3] W1 W)∧(Ext w W)) (fun (s1:Nat×List Int)=>a.length-s1.1) (0,(List.replicate ((a.length+b.length)+1) 0)) ⟨kj,kj,kj,kj,trivial⟩ ⟨(List.length_replicate),(fun x hx=>by rw [List.mem_replicate] at hx; omega),(by rw [Qif,List.take_zero]; simp [lev]),(Nat.zero_le _),r3_1,(Qa2.refl [g3] W1),(Ext.tr (Rely.Ext.refl w) e1)⟩ fun s1 X1 V1 hI1=>?_
 obtain ⟨i,os⟩:=s1
 obtain ⟨hol,hob,hov,hi,q3_1,kk1,xx1⟩:=hI1
 replace hol:os.length=(a.length+b.length)+1:=hol
 replace hob:Qai os:=hob
 replace hov:lev os=lev (a.take i)*lev b:=hov
 replace hi:i≤a.length:=hi
 replace q3_1:V1.heap[g3]? = some (.cells (ints .i64 (os)) 3):=q3_1
 replace kk1:Qa2 [g3] W1 V1:=kk1
 replace xx1:Ext w V1:=xx1
 have q2:=kk1
 refine wp_seq_k fun K6 hK6=>sgB kj <| Qa7 (t:=decide (((i:Nat):Int)<((a.length:Nat):Int))) kj (fun c8=>?_) (fun c8=>?_)
 ·skip
  have hlt20:i<a.length:=by have:=of_decide_eq_true c8; omega
  obtain ⟨gra9,ora9,hara9,-,hlra9,hcra9⟩:=Qb0 (RdK.ext ha xx1) (by omega)
  have hai:=Qa5 haa i
  refine wp_skip <| hK6 _ _ <| wp_seq_k fun K10 hK10=>wp_block <| sgB kj <| sgB kj <| wp_block <| QaB (fun (s2:Nat×Int×List Int)=>[(0,.slice a_a a.length c_a),(1,.slice a_b b.length c_b),(5,.slice (some ⟨g3,0,none⟩) ((a.length+b.length)+1) ((a.length+b.length)+1)),(6,.int .i64 ((i:Nat):Int)),(7,.int .i64 (s2.2.1)),(8,.int .i64 ((s2.1:Nat):Int))]) (fun (s2:Nat×Int×List Int) W=>(s2.2.2.length=(a.length+b.length)+1)∧(Qai s2.2.2)∧(0≤s2.2.1∧s2.2.1≤255)∧(s2.1≤b.length+1)∧(s2.1=b.length+1→s2.2.1=0)∧(lev s2.2.2+s2.2.1*p256 (i+s2.1)=lev os+nth a i*p256 i*lev (b.take s2.1))∧(s2.1≤b.length→nth s2.2.2 (i+b.length)=0)∧(W.heap[g3]? = some (.cells (ints .i64 (s2.2.2)) 3))∧(Qa2 [g3] V1 W)∧(Ext w W)) (fun (s2:Nat×Int×List Int)=>b.length+1-s2.1) (0,0,os) ⟨kj,kj,kj,kj,kj,kj,trivial⟩ ⟨hol,hob,(show (0:Int)≤0∧(0:Int)≤255 by decide),(Nat.zero_le _),(fun _=>rfl),(by simp [lev]),(fun _=>Qhh haa hbb hob hi hov),q3_1,(Qa2.refl [g3] V1),xx1⟩ fun s2 X2 V2 hI2=>?_
  obtain ⟨j,c,qs⟩:=s2
  obtain ⟨hql,hqb,hc,hj,hjc,hqv,hqz,q3_2,kk2,xx2⟩:=hI2
  replace hql:qs.length=(a.length+b.length)+1:=hql
  replace hqb:Qai qs:=hqb
  replace hc:0≤c∧c≤255:=hc
  replace hj:j≤b.length+1:=hj
  replace hjc:j=b.length+1→c=0:=hjc
  replace hqv:lev qs+c*p256 (i+j)=lev os+nth a i*p256 i*lev (b.take j):=hqv
  replace hqz:j≤b.length→nth qs (i+b.length)=0:=hqz
  replace q3_2:V2.heap[g3]? = some (.cells (ints .i64 (qs)) 3):=q3_2
  replace kk2:Qa2 [g3] V1 V2:=kk2
  replace xx2:Ext w V2:=xx2
  have q3:=kk2
  refine wp_seq_k fun K13 hK13=>wp_seq_k fun K14 hK14=>?_
  rcases (show j<b.length∨(b.length≤j∧0<c)∨(b.length≤j∧¬ 0<c) by omega) with hq | hq | hq
  ·skip
   have hjb:j<b.length:=hq
   have hbj:=Qa5 hbb j
   have hxy:=Qib hai hbj
   have hqi:=Qa5 hqb (i+j)
   refine Qac <| sg 3 kj <| Qaa (.bool true) 26 rfl kj (Qad (u:=.bool (decide (((j:Nat):Int)<((b.length:Nat):Int)))) kj (congrArg Value.bool (decide_eq_true (by omega)))) <| sg 4 kj <| sgN hK14 <| cond_true kj <| wp_skip <| hK13 _ _ <| wp_seq_k fun K15 hK15=>wp_block ?_
   refine sgC fun K16 hK16=>sg 3 kj <| Qaa (.int .i64 ((i+j:Nat):Int)) 36 rfl kj (Qad (u:=.int .i64 (IntKind.i64.wrap (((i:Nat):Int)+((j:Nat):Int)))) kj (congrArg (Value.int .i64) (i64n _ _ (by omega) (by omega)))) <| Qaa (.pointer (some ⟨g3,(i+j),none⟩)) 37 rfl kj (Qau 66 _ _ .i64 (i+j) g3 ((a.length+b.length)+1) ((a.length+b.length)+1) 3 rfl kj kj kj kj (by omega)) <| Qaa (.int .i64 (nth (qs) (i+j))) 38 rfl kj (Qah 3 _ g3 (i+j) 3 _ (.int .i64 (nth (qs) (i+j))) _ q3_2 rfl kj (QaJ _ _ _ (Nat.lt_of_lt_of_eq (by omega) hql.symm)) kj) <| sg 1 kj <| Qaa (.int .i64 (nth qs (i+j)+c)) 40 rfl kj (Qad (u:=.int .i64 (IntKind.i64.wrap ((nth (qs) (i+j))+c))) kj (congrArg (Value.int .i64) (IntWalk.i64_in _ (by omega)))) <| sg 1 kj <| sgN hK16 <| wp_seq_k fun K17 hK17=>?_
   refine sgC fun K18 hK18=>sg 3 kj <| Qaa (.bool true) 44 rfl kj (Qad (u:=.bool (decide (((j:Nat):Int)<((b.length:Nat):Int)))) kj (congrArg Value.bool (decide_eq_true (by omega)))) <| sgN hK18 <| cond_true kj ?_
   obtain ⟨gra19,ora19,hara19,-,hlra19,hcra19⟩:=Qb0 (RdK.ext ha xx2) (by omega)
   obtain ⟨grb20,orb20,harb20,-,hlrb20,hcrb20⟩:=Qb0 (RdK.ext hb xx2) (by omega)
   refine QaL 10 [⟨none,[(9,none)]⟩,⟨none,[(0,none)]⟩,⟨none,[(6,none)]⟩,⟨none,[(46,some 1),(47,some 2)]⟩,⟨none,[(48,some 3)]⟩,⟨none,[(1,none)]⟩,⟨none,[(8,none)]⟩,⟨none,[(50,some 5),(51,some 6)]⟩,⟨none,[(52,some 7)]⟩,⟨none,[(49,some 4),(53,some 8)]⟩] kj kj fun F hF=>Qay (Qaj _) (.int .i64 (nth qs (i+j)+c)) kj kj (fun W=>by kernel_rfl) <| Qay (Qaj _) (.slice a_a a.length c_a) kj kj (fun W=>by kernel_rfl) <| Qay (Qaj _) (.int .i64 ((i:Nat):Int)) kj kj (fun W=>by kernel_rfl) <| Qay (Qaj _) (.pointer (some ⟨gra19,ora19+i,none⟩)) kj kj (fun W=>(Qaw 66 _ _ .i64 i gra19 ora19 a.length c_a 3 a_a _ hara19 rfl rfl kj kj kj kj (Nat.lt_of_lt_of_eq (show i<(a).length by omega) (rfl:(a).length=(a).length).symm))) <| Qbi (Qaj _) (.int .i64 (nth (a) (i))) kj kj (fun W hR=>(Qap 3 _ _ (.int .i64 (nth (a) (i))) ((Below.cell (Rely.Ext.trans (Qak _) hR) hlra19).trans (hcra19 i (Nat.lt_of_lt_of_eq (show i<(a).length by omega) (rfl:(a).length=(a).length).symm))) rfl kj kj)) <| Qay (Qaj _) (.slice a_b b.length c_b) kj kj (fun W=>by kernel_rfl) <| Qay (Qaj _) (.int .i64 ((j:Nat):Int)) kj kj (fun W=>by kernel_rfl) <| Qay (Qaj _) (.pointer (some ⟨grb20,orb20+j,none⟩)) kj kj (fun W=>(Qaw 66 _ _ .i64 j grb20 orb20 b.length c_b 3 a_b _ harb20 rfl rfl kj kj kj kj (Nat.lt_of_lt_of_eq (show j<(b).length by omega) (rfl:(b).length=(b).length).symm))) <| Qbi (Qaj _) (.int .i64 (nth (b) (j))) kj kj (fun W hR=>(Qap 3 _ _ (.int .i64 (nth (b) (j))) ((Below.cell (Rely.Ext.trans (Qak _) hR) hlrb20).trans (hcrb20 j (Nat.lt_of_lt_of_eq (show j<(b).length by omega) (rfl:(b).length=(b).length).symm))) rfl kj kj)) ?_
   refine Qay (Qaj _) (.int .i64 (nth a i*nth b j)) kj kj (fun W=>(Qad (u:=.int .i64 (IntKind.i64.wrap ((nth (a) (i))*(nth (b) (j))))) kj (congrArg (Value.int .i64) (IntWalk.i64_in _ (by omega))))) <| Qck (hF _ fun W4 e4=>?_)
   simp only [List.nil_append,List.cons_append,List.take_succ_cons,List.take_zero,List.drop_succ_cons,List.drop_zero,finE,up]
   clear hF
   have x4:=Ext.tr xx2 e4
   refine Qaa (.int .i64 (nth qs (i+j)+c+nth a i*nth b j)) 55 rfl kj (Qad (u:=.int .i64 (IntKind.i64.wrap ((nth qs (i+j)+c)+(nth a i*nth b j)))) kj (congrArg (Value.int .i64) (IntWalk.i64_in _ (by omega)))) <| sg 1 kj <| Qae <| hK17 _ _ <| sgC fun K21 hK21=>sg 3 kj <| Qaa (.int .i64 ((i+j:Nat):Int)) 59 rfl kj (Qad (u:=.int .i64 (IntKind.i64.wrap (((i:Nat):Int)+((j:Nat):Int)))) kj (congrArg (Value.int .i64) (i64n _ _ (by omega) (by omega)))) <| sg 1 kj <| Qaa (.int .i64 ((nth qs (i+j)+c+nth a i*nth b j)%256)) 61 rfl kj (Qad (u:=.int .i64 (Int.tmod ((nth qs (i+j)+c+nth a i*nth b j)) (256))) kj (congrArg (Value.int .i64) (show Int.tmod (nth qs (i+j)+c+nth a i*nth b j) 256=(nth qs (i+j)+c+nth a i*nth b j)%256 from Int.tmod_eq_emod_of_nonneg (by omega)))) <| Qaa (.pointer (some ⟨g3,(i+j),none⟩)) 62 rfl kj (Qau 66 _ _ .i64 (i+j) g3 ((a.length+b.length)+1) ((a.length+b.length)+1) 3 rfl kj kj kj kj (by omega)) ?_
   have r3_4:=(Qab q3_2 e4)
   refine Qal g3 _ (ints .i64 ((qs).set (i+j) ((nth qs (i+j)+c+nth a i*nth b j)%256))) 3 r3_4 rfl kj (Qa1 3 _ _ g3 (i+j) 3 _ _ r3_4 rfl kj kj kj (Nat.lt_of_lt_of_eq (by omega) hql.symm)) fun W5 p5 r3_5=>sgN hK21 <| Qac <| sg 1 kj <| Qaa (.int .i64 ((nth qs (i+j)+c+nth a i*nth b j)/256)) 64 rfl kj (Qad (u:=.int .i64 (IntKind.i64.wrap (Int.tdiv ((nth qs (i+j)+c+nth a i*nth b j)) (256)))) kj (congrArg (Value.int .i64) (by rw [show Int.tdiv (nth qs (i+j)+c+nth a i*nth b j) 256=(nth qs (i+j)+c+nth a i*nth b j)/256 from Int.tdiv_eq_ediv_of_nonneg (by omega)]; exact IntWalk.i64_in _ (by omega)))) ?_
   refine sg 1 kj <| Qae <| hK15 _ _ <| Qac <| sg 1 kj <| Qaa (.int .i64 ((j+1:Nat):Int)) 32 rfl kj (Qad (u:=.int .i64 (IntKind.i64.wrap (((j:Nat):Int)+1))) kj (congrArg (Value.int .i64) (i64n _ _ (by omega) (by omega)))) <| sg 1 kj <| Qae ?_
   repeat (first | with_reducible refine goX1 ?_ | with_reducible refine goX2 ?_ | with_reducible refine goX3 ?_)
   exact Qax ((j+1),((nth qs (i+j)+c+nth a i*nth b j)/256),((qs).set (i+j) ((nth qs (i+j)+c+nth a i*nth b j)%256))) ⟨kj,kj,kj,kj,kj,kj,trivial⟩ ⟨(by rw [List.length_set]; exact hql),(QaY hqb _ (by omega) (by omega)),(show 0≤(nth qs (i+j)+c+nth a i*nth b j)/256∧(nth qs (i+j)+c+nth a i*nth b j)/256≤255 by omega),(show j+1≤b.length+1 by omega),(show j+1=b.length+1→(nth qs (i+j)+c+nth a i*nth b j)/256=0 by intro h8; omega),(QeM (c:=c) (n:=nth qs (i+j)+c+nth a i*nth b j) (x:=nth a i) (y:=nth b j) (by omega) hqv (by omega) (Qbe b j hjb)),(show j+1≤b.length→nth ((qs).set (i+j) ((nth qs (i+j)+c+nth a i*nth b j)%256)) (i+b.length)=0 by intro h8; rw [QdM qs _ _ _ (by omega)]; exact hqz (by omega)),r3_5,(Qa2.puts (Qa2.step q3 e4) p5 (.inl (by simp))),(Puts.ext p5 x4 b3)⟩ (by show b.length+1-(j+1)<b.length+1-j; omega)
  ·skip
   have hjb:b.length≤j:=hq.1
   have hc0:0<c:=hq.2
   have hje:j=b.length:=by omega
   have hqi:nth qs (i+j)=0:=by rw [hje]; exact hqz (by omega)
   refine Qac <| sg 3 kj <| Qaa (.bool false) 26 rfl kj (Qad (u:=.bool (decide (((j:Nat):Int)<((b.length:Nat):Int)))) kj (congrArg Value.bool (decide_eq_false (by omega)))) <| sg 2 kj <| Qaa (.bool true) 29 rfl kj (Qad (u:=.bool (decide (c>0))) kj (congrArg Value.bool (decide_eq_true (by omega)))) <| sg 1 kj <| sgN hK14 <| cond_true kj <| wp_skip <| hK13 _ _ ?_
   refine wp_seq_k fun K22 hK22=>wp_block <| sgC fun K23 hK23=>sg 3 kj <| Qaa (.int .i64 ((i+j:Nat):Int)) 36 rfl kj (Qad (u:=.int .i64 (IntKind.i64.wrap (((i:Nat):Int)+((j:Nat):Int)))) kj (congrArg (Value.int .i64) (i64n _ _ (by omega) (by omega)))) <| Qaa (.pointer (some ⟨g3,(i+j),none⟩)) 37 rfl kj (Qau 66 _ _ .i64 (i+j) g3 ((a.length+b.length)+1) ((a.length+b.length)+1) 3 rfl kj kj kj kj (by omega)) <| Qaa (.int .i64 (nth (qs) (i+j))) 38 rfl kj (Qah 3 _ g3 (i+j) 3 _ (.int .i64 (nth (qs) (i+j))) _ q3_2 rfl kj (QaJ _ _ _ (Nat.lt_of_lt_of_eq (by omega) hql.symm)) kj) <| sg 1 kj <| Qaa (.int .i64 (nth qs (i+j)+c)) 40 rfl kj (Qad (u:=.int .i64 (IntKind.i64.wrap ((nth (qs) (i+j))+c))) kj (congrArg (Value.int .i64) (IntWalk.i64_in _ (by omega)))) <| sg 1 kj ?_
   refine sgN hK23 <| wp_seq_k fun K24 hK24=>sgC fun K25 hK25=>sg 3 kj <| Qaa (.bool false) 44 rfl kj (Qad (u:=.bool (decide (((j:Nat):Int)<((b.length:Nat):Int)))) kj (congrArg Value.bool (decide_eq_false (by omega)))) <| sgN hK25 <| cond_false kj <| wp_skip <| hK24 _ _ <| sgC fun K26 hK26=>?_
   refine sg 3 kj <| Qaa (.int .i64 ((i+j:Nat):Int)) 59 rfl kj (Qad (u:=.int .i64 (IntKind.i64.wrap (((i:Nat):Int)+((j:Nat):Int)))) kj (congrArg (Value.int .i64) (i64n _ _ (by omega) (by omega)))) <| sg 1 kj <| Qaa (.int .i64 ((nth qs (i+j)+c)%256)) 61 rfl kj (Qad (u:=.int .i64 (Int.tmod ((nth qs (i+j)+c)) (256))) kj (congrArg (Value.int .i64) (show Int.tmod (nth qs (i+j)+c) 256=(nth qs (i+j)+c)%256 from Int.tmod_eq_emod_of_nonneg (by omega)))) <| Qaa (.pointer (some ⟨g3,(i+j),none⟩)) 62 rfl kj (Qau 66 _ _ .i64 (i+j) g3 ((a.length+b.length)+1) ((a.length+b.length)+1) 3 rfl kj kj kj kj (by omega)) <| Qal g3 _ (ints .i64 ((qs).set (i+j) ((nth qs (i+j)+c)%256))) 3 q3_2 rfl kj (Qa1 3 _ _ g3 (i+j) 3 _ _ q3_2 rfl kj kj kj (Nat.lt_of_lt_of_eq (by omega) hql.symm)) fun W4 p4 r3_4=>?_
   have x4:=Puts.ext p4 xx2 b3
   refine sgN hK26 <| Qac <| sg 1 kj <| Qaa (.int .i64 ((nth qs (i+j)+c)/256)) 64 rfl kj (Qad (u:=.int .i64 (IntKind.i64.wrap (Int.tdiv ((nth qs (i+j)+c)) (256)))) kj (congrArg (Value.int .i64) (by rw [show Int.tdiv (nth qs (i+j)+c) 256=(nth qs (i+j)+c)/256 from Int.tdiv_eq_ediv_of_nonneg (by omega)]; exact IntWalk.i64_in _ (by omega)))) ?_
   refine sg 1 kj <| Qae <| hK22 _ _ <| Qac <| sg 1 kj <| Qaa (.int .i64 ((j+1:Nat):Int)) 32 rfl kj (Qad (u:=.int .i64 (IntKind.i64.wrap (((j:Nat):Int)+1))) kj (congrArg (Value.int .i64) (i64n _ _ (by omega) (by omega)))) <| sg 1 kj <| Qae ?_
   repeat (first | with_reducible refine goX1 ?_ | with_reducible refine goX2 ?_ | with_reducible refine goX3 ?_)
   exact Qax ((j+1),((nth qs (i+j)+c)/256),((qs).set (i+j) ((nth qs (i+j)+c)%256))) ⟨kj,kj,kj,kj,kj,kj,trivial⟩ ⟨(by rw [List.length_set]; exact hql),(QaY hqb _ (by omega) (by omega)),(show 0≤(nth qs (i+j)+c)/256∧(nth qs (i+j)+c)/256≤255 by omega),(show j+1≤b.length+1 by omega),(show j+1=b.length+1→(nth qs (i+j)+c)/256=0 by intro h8; omega),(QeM (c:=c) (n:=nth qs (i+j)+c) (x:=nth a i) (y:=0) (by omega) hqv (by omega) (QcA b j hjb)),(show j+1≤b.length→nth ((qs).set (i+j) ((nth qs (i+j)+c)%256)) (i+b.length)=0 by intro h8; rw [QdM qs _ _ _ (by omega)]; exact hqz (by omega)),r3_4,(Qa2.puts q3 p4 (.inl (by simp))),x4⟩ (by show b.length+1-(j+1)<b.length+1-j; omega)
  ·skip
   have hjb:b.length≤j:=hq.1
   have hc0:c=0:=by omega
   have hend:=QhB hlt20 hov hqv hc0 hjb
   refine Qac <| sg 3 kj <| Qaa (.bool false) 26 rfl kj (Qad (u:=.bool (decide (((j:Nat):Int)<((b.length:Nat):Int)))) kj (congrArg Value.bool (decide_eq_false (by omega)))) <| sg 2 kj <| Qaa (.bool false) 29 rfl kj (Qad (u:=.bool (decide (c>0))) kj (congrArg Value.bool (decide_eq_false (by omega)))) <| sg 1 kj <| sgN hK14 <| cond_false kj <| wp_exit <| hK10 _ _ ?_
   refine Qac <| sg 1 kj <| Qaa (.int .i64 ((i+1:Nat):Int)) 22 rfl kj (Qad (u:=.int .i64 (IntKind.i64.wrap (((i:Nat):Int)+1))) kj (congrArg (Value.int .i64) (i64n _ _ (by omega) (by omega)))) <| sg 1 kj <| Qae ?_
   repeat (first | with_reducible refine goX1 ?_ | with_reducible refine goX2 ?_ | with_reducible refine goX3 ?_)
   exact Qax ((i+1),qs) ⟨kj,kj,kj,kj,trivial⟩ ⟨hql,hqb,hend,(show i+1≤a.length by omega),q3_2,(Qa2.keeps q2 q3 (Qgi (.inl (by simp)) QhU)),xx2⟩ (by show a.length-(i+1)<a.length-i; omega)
 ·skip
  have heq20:i=a.length:=by have:=of_decide_eq_false c8; omega
  refine wp_exit <| hK4 _ _ <| sgB kj <| wp_ret ?_
  repeat (first | with_reducible refine goR1 ?_ | with_reducible refine goR2 ?_)
  exact (show bodyPost _ _ _ .ret _ _ from ret1 (.slice (some ⟨g3,0,none⟩) ((a.length+b.length)+1) ((a.length+b.length)+1)) rfl (Qaq kj) ⟨_,rfl,xx1,os,hob,(by rw [hov,heq20,List.take_length]),(by omega),QbW hol b3 q3_1 (by simp only [maxLen]; omega)⟩)
end Go.Proofs.YtoiendjhplbjjaaDoor.Ae
end
section
namespace Go.Proofs.YtoiendjhplbjjaaDoor.Ae
open Go Go.RowKit
open Rely Auto Own Sha
open Sha Cha
theorem p16 : p256 16=340282366920938463463374607431768211456:=by decide +kernel
theorem QgG (xs : List Int) (i:Nat) (h:i<16) (hi:i<xs.length):xs.take (min (i+1) 16)=xs.take (min i 16)++[nth xs i]:=by
  rw [show min (i+1) 16=i+1 by omega,show min i 16=i by omega,QcO xs i hi]
theorem QgH (xs : List Int) (i:Nat) (h:16≤i):xs.take (min (i+1) 16)=xs.take (min i 16):=by
  rw [show min (i+1) 16=16 by omega,show min i 16=16 by omega]
theorem QeU (xs : List Int) (i:Nat) (h:xs.length≤i):nth xs i=0:=by
  unfold nth; rw [List.getD_eq_getElem?_getD,List.getElem?_eq_none h]; rfl
theorem QdS {xs hs:List Int} {k:Nat} {x y d:Int} (hx:x=nth xs (16+k)) (hy:y=nth xs (16+(k+1))) (hl:hs.length=k) (hk:16+k<xs.length) (hd:d=x/4+y%4*64)
    (hv:4*lev hs+nth xs 16%4=lev ((xs.drop 16).take k)+x%4*p256 k):4*lev (hs++[d])+nth xs 16%4=lev ((xs.drop 16).take (k+1))+y%4*p256 (k+1):=by
  rw [Qde,hl,Qbe _ k (by rw [List.length_drop]; omega),QdN,←hx,QbF]
  have h1:x=4*(x/4)+x%4:=by omega
  have h2:x*p256 k=4*(x/4)*p256 k+x%4*p256 k:=by rw [←Int.add_mul,←h1]
  have h3:d*p256 k=x/4*p256 k+y%4*64*p256 k:=by rw [hd,Int.add_mul]
  grind
theorem Qe1 {xs low hs:List Int} (hl:17≤xs.length) (hlow:low=xs.take 16++[nth xs 16%4]) (hv:4*lev hs+nth xs 16%4=lev (xs.drop 16)):lev xs=lev low+1361129467683753853853498429727072845824*lev hs:=by
  have h1:lev xs=lev (xs.take 16)+p256 16*lev (xs.drop 16):=by
    have h:=Qgp (xs.take 16) (xs.drop 16)
    rwa [List.take_append_drop,List.length_take,Nat.min_eq_left (by omega)] at h
  have h2:lev low=lev (xs.take 16)+nth xs 16%4*p256 16:=by rw [hlow,Qde,List.length_take,Nat.min_eq_left (by omega)]
  rw [p16] at h1 h2
  omega
theorem Qf5 {xs low:List Int} (hb:Qai xs) (hl:17≤xs.length) (hlow:low=xs.take 16++[nth xs 16%4]):0≤lev low∧lev low<1361129467683753853853498429727072845824:=by
  have h2:lev low=lev (xs.take 16)+nth xs 16%4*p256 16:=by rw [hlow,Qde,List.length_take,Nat.min_eq_left (by omega)]
  have h3:=Qd7 (Qa4 hb 16)
  have h4:=Qbh (Qa4 hb 16)
  rw [List.length_take,Nat.min_eq_left (by omega)] at h3
  rw [p16] at h2 h3
  omega
theorem Qf7 {xs : List Int} (hb:Qai xs) (ht:xs=[]∨nth xs (xs.length-1)≠0) (h:17<xs.length∨(xs.length=17∧3<nth xs 16)):1361129467683753853853498429727072845824≤lev xs:=by
  have h1:lev xs=lev (xs.take 16)+p256 16*lev (xs.drop 16):=by
    have h:=Qgp (xs.take 16) (xs.drop 16)
    rwa [List.take_append_drop,List.length_take,Nat.min_eq_left (by omega)] at h
  have h4:=Qbh (Qa4 hb 16)
  have h5:4≤lev (xs.drop 16):=by
    rcases h with h | ⟨h,h6⟩
    · have h7:nth xs (xs.length-1)≠0:=by
        rcases ht with e | e
        · rw [e] at h; simp at h
        · exact e
      have h8:lev (xs.drop 16)=lev ((xs.drop 16).take (xs.length-17))+nth (xs.drop 16) (xs.length-17)*p256 (xs.length-17):=by
        have h9:=Qbe (xs.drop 16) (xs.length-17) (by rw [List.length_drop]; omega)
        rw [←h9,List.take_of_length_le (by rw [List.length_drop]; omega)]
      rw [QdN,show 16+(xs.length-17)=xs.length-1 by omega] at h8
      have h10:=Qa5 hb (xs.length-1)
      have h11:=Qbh (Qa4 (QaK hb 16) (xs.length-17))
      have h12:p256 (xs.length-17)=256*p256 (xs.length-18):=by rw [show xs.length-17=(xs.length-18)+1 by omega,QbF]
      have h13:=QbQ (xs.length-18)
      have h14:1*p256 (xs.length-17)≤nth xs (xs.length-1)*p256 (xs.length-17):=Int.mul_le_mul_of_nonneg_right (by omega) (by omega)
      omega
    · have h8:xs.drop 16=[nth xs 16]:=by
        apply QhX
        · rw [List.length_drop,h]; rfl
        · intro i hi
          rw [List.length_drop] at hi
          obtain rfl:i=0:=by omega
          rw [QdN]; rfl
      rw [h8]; simp only [lev]; omega
  rw [p16] at h1
  omega
theorem Qf6 {xs : List Int} (hb:Qai xs) (h:xs.length<17∨(xs.length=17∧nth xs 16≤3)):lev xs<1361129467683753853853498429727072845824:=by
  rcases h with h | ⟨h,h6⟩
  · have h1:=Qd7 hb
    have h2:p256 16=p256 xs.length*p256 (16-xs.length):=by rw [←Qc3]; congr 1; omega
    have h3:=QbQ (16-xs.length)
    have h4:p256 xs.length*1≤p256 xs.length*p256 (16-xs.length):=Int.mul_le_mul_of_nonneg_left (by omega) (Int.le_of_lt (QbQ _))
    rw [p16] at h2
    omega
  · have h1:=Qbe xs 16 (by omega)
    rw [List.take_of_length_le (by omega)] at h1
    have h3:=Qd7 (Qa4 hb 16)
    have h7:=Qa5 hb 16
    rw [List.length_take,Nat.min_eq_left (by omega),p16] at h3
    rw [p16] at h1
    omega
theorem Qf4 {x n h v:Int} (e:x=n+1361129467683753853853498429727072845819*h) (hv:x%PP=v%PP):n%PP=v%PP:=by
  rw [←hv,e]
  unfold PP
  omega
theorem QcF {ys : List Int} {m:Nat} (hm:m≤ys.length) (h:m=0∨nth ys (m-1)≠0):ys.take m=[]∨nth (ys.take m) ((ys.take m).length-1)≠0:=by
  rcases Nat.eq_zero_or_pos m with h0 | h0
  · left; rw [h0]; rfl
  · right
    rw [List.length_take,Nat.min_eq_left hm,Qd0 _ _ _ (by omega)]
    rcases h with h | h
    · omega
    · exact h
set_option maxRecDepth 100000 in
theorem QhK (a : List Int) (v:Value) (B:Nat) (w:World) (ha:RdK .i64 B a v w) (hal:a.length≤1000) (hab:Qai a) (hat:a=[]∨nth a (a.length-1)≠0) :
  Calls Tryd.prog 148 #[v] w (QbD w (fun v W=>∃ zs:List Int,Qai zs∧lev zs%PP=lev a%PP∧lev zs<1361129467683753853853498429727072845824∧zs.length≤17∧RdK .i64 W.heap.size zs v W)):=by
 obtain ⟨a_a,c_a,rfl,-⟩:=id ha
 refine enter 80 [(0,.slice a_a a.length c_a)] Tryd.func148 rfl rfl kj rfl <| sgB kj <| wp_seq_k fun K2 hK2=>wp_block <| QaB (fun (s1:List Int×Value)=>[(0,s1.2)]) (fun (s1:List Int×Value) W=>(Qai s1.1)∧(s1.1=[]∨nth s1.1 (s1.1.length-1)≠0)∧(lev s1.1%PP=lev a%PP)∧(s1.1.length≤max 18 a.length)∧(RdK .i64 W.heap.size s1.1 s1.2 W)∧(Ext w W)∧(Ext w W)) (fun (s1:List Int×Value)=>(lev s1.1).toNat) (a,.slice a_a a.length c_a) ⟨kj,trivial⟩ ⟨hab,hat,rfl,(Nat.le_max_right _ _),(RdK.here (RdK.ext ha (Rely.Ext.refl w))),(Rely.Ext.refl w),(Rely.Ext.refl w)⟩ fun s1 X1 V1 hI1=>?_
 obtain ⟨xs,v⟩:=s1
 obtain ⟨hxb,hxt,hxm,hxl,hrx,kk1,xx1⟩:=hI1
 replace hxb:Qai xs:=hxb
 replace hxt:xs=[]∨nth xs (xs.length-1)≠0:=hxt
 replace hxm:lev xs%PP=lev a%PP:=hxm
 replace hxl:xs.length≤max 18 a.length:=hxl
 replace hrx:RdK .i64 V1.heap.size xs v V1:=hrx
 replace kk1:Ext w V1:=kk1
 replace xx1:Ext w V1:=xx1
 have e1:=kk1
 obtain ⟨ax,cx,rfl,-⟩:=id hrx
 refine wp_seq_k fun K3 hK3=>wp_seq_k fun K4 hK4=>?_
 rcases (show 17<xs.length∨(xs.length=17∧3<nth xs 16)∨(xs.length=17∧nth xs 16≤3)∨xs.length<17 by omega) with hq | hq | hq | hq
 ·skip
  have h17:17≤xs.length:=by omega
  have hbig:=Qf7 hxb hxt (.inl hq)
  refine Qac <| sg 2 kj <| Qaa (.bool true) 10 rfl kj (Qad (u:=.bool (decide (((xs.length:Nat):Int)>17))) kj (congrArg Value.bool (decide_eq_true (by omega)))) <| sg 11 kj <| sgN hK4 <| cond_true kj <| wp_skip <| hK3 _ _ <| wp_block <| sgB kj ?_
  refine sgB kj <| wp_seq_k fun K7 hK7=>sgB kj <| wp_block <| QaB (fun (s2:Nat×Value)=>[(0,.slice ax xs.length cx),(3,s2.2),(4,.slice none 0 0),(5,.int .i64 ((s2.1:Nat):Int))]) (fun (s2:Nat×Value) W=>(s2.1≤xs.length)∧(OwnN .i64 3 V1.heap.size (xs.take (min s2.1 16)) s2.2 W)∧(Ext V1 W)∧(Ext w W)) (fun (s2:Nat×Value)=>xs.length-s2.1) (0,(.slice none 0 0)) ⟨kj,kj,kj,kj,trivial⟩ ⟨(Nat.zero_le _),(by rw [show min 0 16=0 from rfl,List.take_zero]; exact Qbb _ _ _ _),(Rely.Ext.refl V1),xx1⟩ fun s2 X2 V2 hI2=>?_
  obtain ⟨i,u⟩:=s2
  obtain ⟨hi,hu,kk2,xx2⟩:=hI2
  replace hi:i≤xs.length:=hi
  replace hu:OwnN .i64 3 V1.heap.size (xs.take (min i 16)) u V2:=hu
  replace kk2:Ext V1 V2:=kk2
  replace xx2:Ext w V2:=xx2
  have e2:=kk2
  refine wp_seq_k fun K9 hK9=>sgB kj <| Qa7 (t:=decide (((i:Nat):Int)<((xs.length:Nat):Int))) kj (fun c11=>?_) (fun c11=>?_)
  ·skip
   have hlt25:i<xs.length:=by have:=of_decide_eq_true c11; omega
   refine wp_skip <| hK9 _ _ <| wp_seq_k fun K12 hK12=>wp_block <| sgB kj <| Qa7 (t:=decide (((i:Nat):Int)<16)) kj (fun c14=>?_) (fun c14=>?_)
   ·skip
    have hi16:i<16:=by have:=of_decide_eq_true c14; omega
    obtain ⟨grx15,orx15,harx15,-,hlrx15,hcrx15⟩:=Qb0 (hrx.ext e2) (by omega)
    refine Qac <| sg 3 kj <| Qaa (.pointer (some ⟨grx15,orx15+i,none⟩)) 33 rfl kj (Qaw 66 _ _ .i64 i grx15 orx15 xs.length cx 3 ax _ harx15 rfl rfl kj kj kj kj (Nat.lt_of_lt_of_eq (show i<(xs).length by omega) (rfl:(xs).length=(xs).length).symm)) <| Qaa (.int .i64 (nth (xs) (i))) 34 rfl kj (Qap 3 _ _ (.int .i64 (nth (xs) (i))) (hcrx15 i (Nat.lt_of_lt_of_eq (show i<(xs).length by omega) (rfl:(xs).length=(xs).length).symm)) rfl kj kj) <| QaD (ints .i64 ([(nth (xs) (i))])) 3 1 35 rfl kj kj fun g17 W3 l17 e3 r17_3=>?_
    have x3:=Ext.tr xx2 e3
    have b17:=qT xx2.size l17
    have y1_3:=(Rely.Ext.trans e2 e3)
    refine Qa9 (k:=.i64) (T:=3) (xs:=xs.take (min i 16)) (ys:=[(nth (xs) (i))]) (V:=V1) 8 (.tmp 30) (.tmp 35) 66 rfl kj kj (by decide) 36 rfl kj kj kj (hu.ext e3) (QaM (xs:=[(nth (xs) (i))]) (n:=1) rfl r17_3 (Qa0 r17_3) (show 1≤maxLen from by decide)) (by rw [List.length_take]; show _+1≤_; omega) y1_3 fun y1_ W4 f19 y4 l4=>?_
    have x4:=Ext.low x3 l4 xx1.size
    refine sg 1 kj <| Qae <| hK12 _ _ <| Qac <| sg 1 kj <| Qaa (.int .i64 ((i+1:Nat):Int)) 27 rfl kj (Qad (u:=.int .i64 (IntKind.i64.wrap (((i:Nat):Int)+1))) kj (congrArg (Value.int .i64) (i64n _ _ (by omega) (by omega)))) <| sg 1 kj <| Qae ?_
    repeat (first | with_reducible refine goX1 ?_ | with_reducible refine goX2 ?_ | with_reducible refine goX3 ?_)
    exact Qax ((i+1),y1_) ⟨kj,kj,kj,kj,trivial⟩ ⟨(show i+1≤xs.length by omega),(by rw [QgG xs i hi16 hlt25]; exact f19),y4,x4⟩ (by show xs.length-(i+1)<xs.length-i; omega)
   ·skip
    have hi16:16≤i:=by have:=of_decide_eq_false c14; omega
    refine wp_skip <| hK12 _ _ <| Qac <| sg 1 kj <| Qaa (.int .i64 ((i+1:Nat):Int)) 27 rfl kj (Qad (u:=.int .i64 (IntKind.i64.wrap (((i:Nat):Int)+1))) kj (congrArg (Value.int .i64) (i64n _ _ (by omega) (by omega)))) <| sg 1 kj <| Qae ?_
    repeat (first | with_reducible refine goX1 ?_ | with_reducible refine goX2 ?_ | with_reducible refine goX3 ?_)
    exact Qax ((i+1),u) ⟨kj,kj,kj,kj,trivial⟩ ⟨(show i+1≤xs.length by omega),(by rw [QgH xs i hi16]; exact hu),e2,xx2⟩ (by show xs.length-(i+1)<xs.length-i; omega)
  ·skip
   have heq25:i=xs.length:=by have:=of_decide_eq_false c11; omega
   have hu16:OwnN .i64 3 V1.heap.size (xs.take 16) u V2:=by have h9:=hu; rw [show min i 16=16 by omega] at h9; exact h9
   refine wp_exit <| hK7 _ _ <| sgC fun K21 hK21=>?_
   have f23_2:=(hrx.ext e2)
   obtain ⟨grx22,orx22,harx22,-,hlrx22,hcrx22⟩:=Qb0 f23_2 (by omega)
   refine sg 2 kj <| Qaa (.pointer (some ⟨grx22,orx22+16,none⟩)) 39 rfl kj (Qaw 66 _ _ .i64 16 grx22 orx22 xs.length cx 3 ax _ harx22 rfl rfl kj kj kj kj (Nat.lt_of_lt_of_eq (show 16<(xs).length by omega) (rfl:(xs).length=(xs).length).symm)) <| Qaa (.int .i64 (nth (xs) (16))) 40 rfl kj (Qap 3 _ _ (.int .i64 (nth (xs) (16))) (hcrx22 16 (Nat.lt_of_lt_of_eq (show 16<(xs).length by omega) (rfl:(xs).length=(xs).length).symm)) rfl kj kj) <| Qaa (.int .i64 (nth xs 16%4)) 41 rfl kj (Qad (u:=.int .i64 (Int.tmod ((nth (xs) (16))) (4))) kj (congrArg (Value.int .i64) (show Int.tmod (nth xs 16) 4=nth xs 16%4 from Int.tmod_eq_emod_of_nonneg (by have:=Qa5 hxb 16; omega)))) ?_
   refine QaD (ints .i64 ([(nth xs 16%4)])) 3 1 42 rfl kj kj fun g24 W3 l24 e3 r24_3=>?_
   have x3:=Ext.tr xx2 e3
   have b24:=qT xx2.size l24
   have y1_3:=(Rely.Ext.trans e2 e3)
   refine Qa9 (k:=.i64) (T:=3) (xs:=xs.take 16) (ys:=[(nth xs 16%4)]) (V:=V1) 8 (.tmp 37) (.tmp 42) 66 rfl kj kj (by decide) 43 rfl kj kj kj (hu16.ext e3) (QaM (xs:=[(nth xs 16%4)]) (n:=1) rfl r24_3 (Qa0 r24_3) (show 1≤maxLen from by decide)) (by rw [List.length_take]; show _+1≤_; omega) y1_3 fun y2_ W4 f26 y4 l4=>?_
   have x4:=Ext.low x3 l4 xx1.size
   refine sg 1 kj <| sgN hK21 <| wp_seq_k fun K28 hK28=>sgB kj <| wp_block <| QaB (fun (s3:Nat×List Int×Value)=>[(0,.slice ax xs.length cx),(3,y2_),(4,s3.2.2),(6,.int .i64 ((16+s3.1:Nat):Int))]) (fun (s3:Nat×List Int×Value) W=>(16+s3.1≤xs.length)∧(s3.2.1.length=s3.1)∧(Qai s3.2.1)∧(4*lev s3.2.1+nth xs 16%4=lev ((xs.drop 16).take s3.1)+nth xs (16+s3.1)%4*p256 s3.1)∧(OwnN .i64 3 W4.heap.size s3.2.1 s3.2.2 W)∧(Ext W4 W)∧(Ext w W)) (fun (s3:Nat×List Int×Value)=>xs.length-(16+s3.1)) (0,[],(.slice none 0 0)) ⟨kj,kj,kj,kj,trivial⟩ ⟨(show 16+0≤xs.length by omega),rfl,(fun x hx=>by cases hx),(by show 4*0+nth xs 16%4=0+nth xs 16%4*1; omega),(Qbb _ _ _ _),(Rely.Ext.refl W4),x4⟩ fun s3 X3 V3 hI3=>?_
   obtain ⟨k,hs,u2⟩:=s3
   obtain ⟨hk,hhl,hhb,hhv,hu2,kk3,xx3⟩:=hI3
   replace hk:16+k≤xs.length:=hk
   replace hhl:hs.length=k:=hhl
   replace hhb:Qai hs:=hhb
   replace hhv:4*lev hs+nth xs 16%4=lev ((xs.drop 16).take k)+nth xs (16+k)%4*p256 k:=hhv
   replace hu2:OwnN .i64 3 W4.heap.size hs u2 V3:=hu2
   replace kk3:Ext W4 V3:=kk3
   replace xx3:Ext w V3:=xx3
   have e5:=kk3
   refine wp_seq_k fun K30 hK30=>sgB kj <| Qa7 (t:=decide (((16+k:Nat):Int)<((xs.length:Nat):Int))) kj (fun c32=>?_) (fun c32=>?_)
   ·skip
    have hlt47:16+k<xs.length:=by have:=of_decide_eq_true c32; omega
    have f36_5:=((RdK.low (f23_2.ext e3) hrx l4).ext e5)
    obtain ⟨grx33,orx33,harx33,-,hlrx33,hcrx33⟩:=Qb0 f36_5 (by omega)
    have hxk:=Qa5 hxb (16+k)
    have hxk1:=Qa5 hxb (16+(k+1))
    have hxk2:=Qa5 hxb ((16+k)+1)
    refine wp_skip <| hK30 _ _ <| wp_seq_k fun K37 hK37=>wp_block <| sgC fun K38 hK38=>sg 2 kj <| Qaa (.pointer (some ⟨grx33,orx33+(16+k),none⟩)) 52 rfl kj (Qaw 66 _ _ .i64 (16+k) grx33 orx33 xs.length cx 3 ax _ harx33 rfl rfl kj kj kj kj (Nat.lt_of_lt_of_eq (show 16+k<(xs).length by omega) (rfl:(xs).length=(xs).length).symm)) <| Qaa (.int .i64 (nth (xs) ((16+k)))) 53 rfl kj (Qap 3 _ _ (.int .i64 (nth (xs) ((16+k)))) (hcrx33 (16+k) (Nat.lt_of_lt_of_eq (show 16+k<(xs).length by omega) (rfl:(xs).length=(xs).length).symm)) rfl kj kj) <| Qaa (.int .i64 (nth xs (16+k)/4)) 54 rfl kj (Qad (u:=.int .i64 (IntKind.i64.wrap (Int.tdiv ((nth (xs) ((16+k)))) (4)))) kj (congrArg (Value.int .i64) (by rw [show Int.tdiv (nth xs (16+k)) 4=(nth xs (16+k))/4 from Int.tdiv_eq_ediv_of_nonneg (by omega)]; exact IntWalk.i64_in _ (by omega)))) ?_
    refine sg 1 kj <| sgN hK38 <| wp_seq_k fun K39 hK39=>sgC fun K40 hK40=>sg 1 kj <| Qaa (.int .i64 (((16+k)+1:Nat):Int)) 56 rfl kj (Qad (u:=.int .i64 (IntKind.i64.wrap (((16+k:Nat):Int)+1))) kj (congrArg (Value.int .i64) (i64n _ _ (by omega) (by omega)))) <| sg 3 kj <| sgN hK40 <| Qa7 (t:=decide ((((16+k)+1:Nat):Int)<((xs.length:Nat):Int))) kj (fun c41=>?_) (fun c41=>?_)
    ·skip
     have hk1:16+(k+1)<xs.length:=by have:=of_decide_eq_true c41; omega
     obtain ⟨grx42,orx42,harx42,-,hlrx42,hcrx42⟩:=Qb0 f36_5 (by omega)
     refine Qac <| sg 3 kj <| Qaa (.int .i64 (((16+k)+1:Nat):Int)) 63 rfl kj (Qad (u:=.int .i64 (IntKind.i64.wrap (((16+k:Nat):Int)+1))) kj (congrArg (Value.int .i64) (i64n _ _ (by omega) (by omega)))) <| Qaa (.pointer (some ⟨grx42,orx42+((16+k)+1),none⟩)) 64 rfl kj (Qaw 66 _ _ .i64 ((16+k)+1) grx42 orx42 xs.length cx 3 ax _ harx42 rfl rfl kj kj kj kj (Nat.lt_of_lt_of_eq (show (16+k)+1<(xs).length by omega) (rfl:(xs).length=(xs).length).symm)) <| Qaa (.int .i64 (nth (xs) (((16+k)+1)))) 65 rfl kj (Qap 3 _ _ (.int .i64 (nth (xs) (((16+k)+1)))) (hcrx42 ((16+k)+1) (Nat.lt_of_lt_of_eq (show (16+k)+1<(xs).length by omega) (rfl:(xs).length=(xs).length).symm)) rfl kj kj) <| Qaa (.int .i64 (nth xs ((16+k)+1)%4)) 66 rfl kj (Qad (u:=.int .i64 (Int.tmod ((nth (xs) (((16+k)+1)))) (4))) kj (congrArg (Value.int .i64) (show Int.tmod (nth xs ((16+k)+1)) 4=(nth xs ((16+k)+1))%4 from Int.tmod_eq_emod_of_nonneg (by omega)))) <| Qaa (.int .i64 (nth xs ((16+k)+1)%4*64)) 67 rfl kj (Qad (u:=.int .i64 (IntKind.i64.wrap ((nth xs ((16+k)+1)%4)*64))) kj (congrArg (Value.int .i64) (IntWalk.i64_in _ (by omega)))) <| Qaa (.int .i64 (nth xs (16+k)/4+nth xs ((16+k)+1)%4*64)) 68 rfl kj (Qad (u:=.int .i64 (IntKind.i64.wrap ((nth xs (16+k)/4)+(nth xs ((16+k)+1)%4*64)))) kj (congrArg (Value.int .i64) (IntWalk.i64_in _ (by omega)))) <| sg 1 kj <| Qae ?_
     refine hK39 _ _ <| Qac <| sg 2 kj <| QaD (ints .i64 ([(nth xs (16+k)/4+nth xs ((16+k)+1)%4*64)])) 3 1 71 rfl kj kj fun g43 W6 l43 e6 r43_6=>?_
     have x6:=Ext.tr xx3 e6
     have b43:=qT xx3.size l43
     have y4_6:=(Rely.Ext.trans e5 e6)
     refine Qa9 (k:=.i64) (T:=3) (xs:=hs) (ys:=[(nth xs (16+k)/4+nth xs ((16+k)+1)%4*64)]) (V:=W4) 8 (.tmp 69) (.tmp 71) 66 rfl kj kj (by decide) 72 rfl kj kj kj (hu2.ext e6) (QaM (xs:=[(nth xs (16+k)/4+nth xs ((16+k)+1)%4*64)]) (n:=1) rfl r43_6 (Qa0 r43_6) (show 1≤maxLen from by decide)) (by show hs.length+1≤_; omega) y4_6 fun y3_ W7 f45 y7 l7=>?_
     have x7:=Ext.low x6 l7 x4.size
     refine sg 1 kj <| Qae <| hK37 _ _ <| Qac <| sg 1 kj <| Qaa (.int .i64 (((16+k)+1:Nat):Int)) 49 rfl kj (Qad (u:=.int .i64 (IntKind.i64.wrap (((16+k:Nat):Int)+1))) kj (congrArg (Value.int .i64) (i64n _ _ (by omega) (by omega)))) <| sg 1 kj <| Qae ?_
     repeat (first | with_reducible refine goX1 ?_ | with_reducible refine goX2 ?_ | with_reducible refine goX3 ?_)
     exact Qax ((k+1),hs++[(nth xs (16+k)/4+nth xs ((16+k)+1)%4*64)],y3_) ⟨kj,kj,kj,kj,trivial⟩ ⟨(show 16+(k+1)≤xs.length by omega),(show (hs++[(nth xs (16+k)/4+nth xs ((16+k)+1)%4*64)]).length=k+1 by rw [List.length_append,hhl]; rfl),(show Qai (hs++[(nth xs (16+k)/4+nth xs ((16+k)+1)%4*64)]) from QaR hhb (Qbz (by omega) (by omega))),(QdS (d:=(nth xs (16+k)/4+nth xs ((16+k)+1)%4*64)) rfl rfl hhl hlt47 (by first | rfl | (rw [hy0]; omega)) hhv),f45,y7,x7⟩ (by show xs.length-(16+(k+1))<xs.length-(16+k); omega)
    ·skip
     have hk1:xs.length≤16+(k+1):=by have:=of_decide_eq_false c41; omega
     have hy0:=QeU xs _ hk1
     refine wp_skip <| hK39 _ _ <| Qac <| sg 2 kj <| QaD (ints .i64 ([(nth xs (16+k)/4)])) 3 1 71 rfl kj kj fun g47 W6 l47 e6 r47_6=>?_
     have x6:=Ext.tr xx3 e6
     have b47:=qT xx3.size l47
     have y4_6:=(Rely.Ext.trans e5 e6)
     refine Qa9 (k:=.i64) (T:=3) (xs:=hs) (ys:=[(nth xs (16+k)/4)]) (V:=W4) 8 (.tmp 69) (.tmp 71) 66 rfl kj kj (by decide) 72 rfl kj kj kj (hu2.ext e6) (QaM (xs:=[(nth xs (16+k)/4)]) (n:=1) rfl r47_6 (Qa0 r47_6) (show 1≤maxLen from by decide)) (by show hs.length+1≤_; omega) y4_6 fun y4_ W7 f49 y7 l7=>?_
     have x7:=Ext.low x6 l7 x4.size
     refine sg 1 kj <| Qae <| hK37 _ _ <| Qac <| sg 1 kj <| Qaa (.int .i64 (((16+k)+1:Nat):Int)) 49 rfl kj (Qad (u:=.int .i64 (IntKind.i64.wrap (((16+k:Nat):Int)+1))) kj (congrArg (Value.int .i64) (i64n _ _ (by omega) (by omega)))) <| sg 1 kj <| Qae ?_
     repeat (first | with_reducible refine goX1 ?_ | with_reducible refine goX2 ?_ | with_reducible refine goX3 ?_)
     exact Qax ((k+1),hs++[(nth xs (16+k)/4)],y4_) ⟨kj,kj,kj,kj,trivial⟩ ⟨(show 16+(k+1)≤xs.length by omega),(show (hs++[(nth xs (16+k)/4)]).length=k+1 by rw [List.length_append,hhl]; rfl),(show Qai (hs++[(nth xs (16+k)/4)]) from QaR hhb (Qbz (by omega) (by omega))),(QdS (d:=(nth xs (16+k)/4)) rfl rfl hhl hlt47 (by first | rfl | (rw [hy0]; omega)) hhv),f49,y7,x7⟩ (by show xs.length-(16+(k+1))<xs.length-(16+k); omega)
   ·skip
    have heq47:16+k=xs.length:=by have:=of_decide_eq_false c32; omega
    have hhe:4*lev hs+nth xs 16%4=lev (xs.drop 16):=by
     rw [hhv,List.take_of_length_le (by rw [List.length_drop]; omega),QeU xs _ (by omega)]; omega
    refine wp_exit <| hK28 _ _ <| Qac ?_
    obtain ⟨low,elow⟩:∃ z,z=xs.take 16++[nth xs 16%4]:=⟨_,rfl⟩
    have hlw:OwnN .i64 3 V1.heap.size low y2_ V3:=elow▸(f26.ext e5)
    obtain ⟨al,cl,rfl,-⟩:=id (OwnN.rd hlw)
    have hll:low.length=17:=by rw [elow,List.length_append,List.length_take]; show min 16 xs.length+1=17; omega
    have hlb:Qai low:=elow▸QaR (Qa4 hxb 16) (Qbz (by have:=Qa5 hxb 16; omega) (by omega))
    have hsp:=Qe1 h17 elow hhe
    have hlo:=Qf5 hxb h17 elow
    obtain ⟨ah,ch,rfl,-⟩:=id (OwnN.rd hu2)
    refine sg 2 kj <| QaD (ints .i64 ([5])) 3 1 75 rfl kj kj fun g52 W6 l52 e6 r52_6=>?_
    have x6:=Ext.tr xx3 e6
    have b52:=qT xx3.size l52
    refine Qat (fun v W'=>(DigR W6.heap.size (lev hs*lev [5]) (hs.length+1+1)) v W'∧Ext W6 W') 150 #[.slice ah hs.length ch,.slice (some ⟨g52,0,none⟩) 1 1] 76 rfl kj kj ((Qfk hs [5] _ _ _ _ _ (OwnN.rd (hu2.ext e6)) (QaM (xs:=[5]) (n:=1) rfl r52_6 (Qa0 r52_6) (show 1≤maxLen from by decide)) (by omega) (by decide) hhb (Qbz (by decide) (by decide))).mono (by rintro e w' ⟨v,rfl,e1,hv⟩; exact ⟨v,rfl,hv,e1⟩)) fun vv55 W7 hh55=>?_
    obtain ⟨hv55,e7⟩:=hh55
    have x7:=Ext.tr x6 e7
    obtain ⟨zs53,hzb53,hzv53,hzl53,hzo53⟩:=hv55
    obtain ⟨az53,cz53,rfl,-⟩:=id (OwnN.rd hzo53)
    refine Qat (fun v W'=>(DigR W7.heap.size (lev low+lev zs53) (max low.length zs53.length+1)) v W'∧Ext W7 W') 151 #[.slice al low.length cl,.slice az53 zs53.length cz53] 77 rfl kj kj ((Qek low zs53 _ _ _ _ _ (OwnN.rd ((hlw.ext e6).ext e7)) (OwnN.rd hzo53) (by omega) (by omega) hlb hzb53).mono (by rintro e w' ⟨v,rfl,e1,hv⟩; exact ⟨v,rfl,hv,e1⟩)) fun vv59 W8 hh59=>?_
    obtain ⟨hv59,e8⟩:=hh59
    have x8:=Ext.tr x7 e8
    obtain ⟨zs56,hzb56,hzv56,hzl56,hzo56⟩:=hv59
    obtain ⟨az56,cz56,rfl,-⟩:=id (OwnN.rd hzo56)
    refine Qat (fun v W'=>(fun v W=>∃ m,m≤zs56.length∧v=.slice az56 m cz56∧lev (zs56.take m)=lev zs56∧(m=0∨nth zs56 (m-1)≠0)) v W'∧Ext W8 W') 149 #[.slice az56 zs56.length cz56] 78 rfl kj kj ((QeQ zs56 _ _ _ _ (OwnN.rd hzo56) (by omega)).mono (by rintro e w' ⟨v,rfl,e1,hv⟩; exact ⟨v,rfl,hv,e1⟩)) fun vv61 W9 hh61=>?_
    obtain ⟨hv61,e9⟩:=hh61
    have x9:=Ext.tr x8 e9
    obtain ⟨m60,hm60,rfl,hv60,ht60⟩:=hv61
    have htl60:(zs56.take m60).length=m60:=by rw [List.length_take]; omega
    refine sg 1 kj <| Qae ?_
    have hnew:lev (zs56.take m60)=lev low+5*lev hs:=by rw [hv60,hzv56,hzv53]; simp only [lev]; omega
    have hhp:=Qbh hhb
    have y0_2:=(Rely.Ext.trans e1 e2)
    have y0_3:=(Rely.Ext.trans y0_2 e3)
    have y0_4:=(Ext.low y0_3 l4 e1.size)
    have y0_5:=(Rely.Ext.trans y0_4 e5)
    have y0_6:=(Rely.Ext.trans y0_5 e6)
    have y0_7:=(Rely.Ext.trans y0_6 e7)
    have y0_8:=(Rely.Ext.trans y0_7 e8)
    have y0_9:=(Rely.Ext.trans y0_8 e9)
    repeat (first | with_reducible refine goX1 ?_ | with_reducible refine goX2 ?_ | with_reducible refine goX3 ?_)
    exact Qax ((zs56.take m60),(.slice az56 m60 cz56)) ⟨kj,trivial⟩ ⟨(Qa4 hzb56 m60),(QcF hm60 ht60),(Qf4 (h:=lev hs) (by rw [hnew]; omega) hxm),(by show (zs56.take m60).length≤_; rw [List.length_take]; omega),(RdK.here (QbC (OwnN.rd (hzo56.ext e9)) m60 hm60)),y0_9,x9⟩ (by show (lev (zs56.take m60)).toNat<(lev xs).toNat; omega)
 ·skip
  obtain ⟨grx63,orx63,harx63,-,hlrx63,hcrx63⟩:=Qb0 hrx (by omega)
  have h17:17≤xs.length:=by omega
  have hbig:=Qf7 hxb hxt (.inr hq)
  refine Qac <| sg 2 kj <| Qaa (.bool false) 10 rfl kj (Qad (u:=.bool (decide (((xs.length:Nat):Int)>17))) kj (congrArg Value.bool (decide_eq_false (by omega)))) <| sg 3 kj <| Qaa (.bool true) 14 rfl kj (Qad (u:=.bool ((((xs.length:Nat):Int)==17))) kj (congrArg Value.bool (by rw [hq.1]; rfl))) ?_
  refine sg 2 kj <| Qaa (.pointer (some ⟨grx63,orx63+16,none⟩)) 17 rfl kj (Qaw 66 _ _ .i64 16 grx63 orx63 xs.length cx 3 ax _ harx63 rfl rfl kj kj kj kj (Nat.lt_of_lt_of_eq (show 16<(xs).length by omega) (rfl:(xs).length=(xs).length).symm)) <| Qaa (.int .i64 (nth (xs) (16))) 18 rfl kj (Qap 3 _ _ (.int .i64 (nth (xs) (16))) (hcrx63 16 (Nat.lt_of_lt_of_eq (show 16<(xs).length by omega) (rfl:(xs).length=(xs).length).symm)) rfl kj kj) <| Qaa (.bool true) 19 rfl kj (Qad (u:=.bool (decide ((nth (xs) (16))>3))) kj (congrArg Value.bool (decide_eq_true (by omega)))) <| sg 2 kj <| sgN hK4 <| cond_true kj <| wp_skip <| hK3 _ _ <| wp_block ?_
  refine sgB kj <| sgB kj <| wp_seq_k fun K66 hK66=>sgB kj <| wp_block <| QaB (fun (s4:Nat×Value)=>[(0,.slice ax xs.length cx),(3,s4.2),(4,.slice none 0 0),(5,.int .i64 ((s4.1:Nat):Int))]) (fun (s4:Nat×Value) W=>(s4.1≤xs.length)∧(OwnN .i64 3 V1.heap.size (xs.take (min s4.1 16)) s4.2 W)∧(Ext V1 W)∧(Ext w W)) (fun (s4:Nat×Value)=>xs.length-s4.1) (0,(.slice none 0 0)) ⟨kj,kj,kj,kj,trivial⟩ ⟨(Nat.zero_le _),(by rw [show min 0 16=0 from rfl,List.take_zero]; exact Qbb _ _ _ _),(Rely.Ext.refl V1),xx1⟩ fun s4 X4 V4 hI4=>?_
  obtain ⟨i,u⟩:=s4
  obtain ⟨hi,hu,kk4,xx4⟩:=hI4
  replace hi:i≤xs.length:=hi
  replace hu:OwnN .i64 3 V1.heap.size (xs.take (min i 16)) u V4:=hu
  replace kk4:Ext V1 V4:=kk4
  replace xx4:Ext w V4:=xx4
  have e2:=kk4
  refine wp_seq_k fun K68 hK68=>sgB kj <| Qa7 (t:=decide (((i:Nat):Int)<((xs.length:Nat):Int))) kj (fun c70=>?_) (fun c70=>?_)
  ·skip
   have hlt25:i<xs.length:=by have:=of_decide_eq_true c70; omega
   refine wp_skip <| hK68 _ _ <| wp_seq_k fun K71 hK71=>wp_block <| sgB kj <| Qa7 (t:=decide (((i:Nat):Int)<16)) kj (fun c73=>?_) (fun c73=>?_)
   ·skip
    have hi16:i<16:=by have:=of_decide_eq_true c73; omega
    obtain ⟨grx74,orx74,harx74,-,hlrx74,hcrx74⟩:=Qb0 (hrx.ext e2) (by omega)
    refine Qac <| sg 3 kj <| Qaa (.pointer (some ⟨grx74,orx74+i,none⟩)) 33 rfl kj (Qaw 66 _ _ .i64 i grx74 orx74 xs.length cx 3 ax _ harx74 rfl rfl kj kj kj kj (Nat.lt_of_lt_of_eq (show i<(xs).length by omega) (rfl:(xs).length=(xs).length).symm)) <| Qaa (.int .i64 (nth (xs) (i))) 34 rfl kj (Qap 3 _ _ (.int .i64 (nth (xs) (i))) (hcrx74 i (Nat.lt_of_lt_of_eq (show i<(xs).length by omega) (rfl:(xs).length=(xs).length).symm)) rfl kj kj) <| QaD (ints .i64 ([(nth (xs) (i))])) 3 1 35 rfl kj kj fun g76 W3 l76 e3 r76_3=>?_
    have x3:=Ext.tr xx4 e3
    have b76:=qT xx4.size l76
    have y1_3:=(Rely.Ext.trans e2 e3)
    refine Qa9 (k:=.i64) (T:=3) (xs:=xs.take (min i 16)) (ys:=[(nth (xs) (i))]) (V:=V1) 8 (.tmp 30) (.tmp 35) 66 rfl kj kj (by decide) 36 rfl kj kj kj (hu.ext e3) (QaM (xs:=[(nth (xs) (i))]) (n:=1) rfl r76_3 (Qa0 r76_3) (show 1≤maxLen from by decide)) (by rw [List.length_take]; show _+1≤_; omega) y1_3 fun y5_ W4 f78 y4 l4=>?_
    have x4:=Ext.low x3 l4 xx1.size
    refine sg 1 kj <| Qae <| hK71 _ _ <| Qac <| sg 1 kj <| Qaa (.int .i64 ((i+1:Nat):Int)) 27 rfl kj (Qad (u:=.int .i64 (IntKind.i64.wrap (((i:Nat):Int)+1))) kj (congrArg (Value.int .i64) (i64n _ _ (by omega) (by omega)))) <| sg 1 kj <| Qae ?_
    repeat (first | with_reducible refine goX1 ?_ | with_reducible refine goX2 ?_ | with_reducible refine goX3 ?_)
    exact Qax ((i+1),y5_) ⟨kj,kj,kj,kj,trivial⟩ ⟨(show i+1≤xs.length by omega),(by rw [QgG xs i hi16 hlt25]; exact f78),y4,x4⟩ (by show xs.length-(i+1)<xs.length-i; omega)
   ·skip
    have hi16:16≤i:=by have:=of_decide_eq_false c73; omega
    refine wp_skip <| hK71 _ _ <| Qac <| sg 1 kj <| Qaa (.int .i64 ((i+1:Nat):Int)) 27 rfl kj (Qad (u:=.int .i64 (IntKind.i64.wrap (((i:Nat):Int)+1))) kj (congrArg (Value.int .i64) (i64n _ _ (by omega) (by omega)))) <| sg 1 kj <| Qae ?_
    repeat (first | with_reducible refine goX1 ?_ | with_reducible refine goX2 ?_ | with_reducible refine goX3 ?_)
    exact Qax ((i+1),u) ⟨kj,kj,kj,kj,trivial⟩ ⟨(show i+1≤xs.length by omega),(by rw [QgH xs i hi16]; exact hu),e2,xx4⟩ (by show xs.length-(i+1)<xs.length-i; omega)
  ·skip
   have heq25:i=xs.length:=by have:=of_decide_eq_false c70; omega
   have hu16:OwnN .i64 3 V1.heap.size (xs.take 16) u V4:=by have h9:=hu; rw [show min i 16=16 by omega] at h9; exact h9
   refine wp_exit <| hK66 _ _ <| sgC fun K80 hK80=>?_
   have f82_2:=(hrx.ext e2)
   obtain ⟨grx81,orx81,harx81,-,hlrx81,hcrx81⟩:=Qb0 f82_2 (by omega)
   refine sg 2 kj <| Qaa (.pointer (some ⟨grx81,orx81+16,none⟩)) 39 rfl kj (Qaw 66 _ _ .i64 16 grx81 orx81 xs.length cx 3 ax _ harx81 rfl rfl kj kj kj kj (Nat.lt_of_lt_of_eq (show 16<(xs).length by omega) (rfl:(xs).length=(xs).length).symm)) <| Qaa (.int .i64 (nth (xs) (16))) 40 rfl kj (Qap 3 _ _ (.int .i64 (nth (xs) (16))) (hcrx81 16 (Nat.lt_of_lt_of_eq (show 16<(xs).length by omega) (rfl:(xs).length=(xs).length).symm)) rfl kj kj) <| Qaa (.int .i64 (nth xs 16%4)) 41 rfl kj (Qad (u:=.int .i64 (Int.tmod ((nth (xs) (16))) (4))) kj (congrArg (Value.int .i64) (show Int.tmod (nth xs 16) 4=nth xs 16%4 from Int.tmod_eq_emod_of_nonneg (by have:=Qa5 hxb 16; omega)))) ?_
   refine QaD (ints .i64 ([(nth xs 16%4)])) 3 1 42 rfl kj kj fun g83 W3 l83 e3 r83_3=>?_
   have x3:=Ext.tr xx4 e3
   have b83:=qT xx4.size l83
   have y1_3:=(Rely.Ext.trans e2 e3)
   refine Qa9 (k:=.i64) (T:=3) (xs:=xs.take 16) (ys:=[(nth xs 16%4)]) (V:=V1) 8 (.tmp 37) (.tmp 42) 66 rfl kj kj (by decide) 43 rfl kj kj kj (hu16.ext e3) (QaM (xs:=[(nth xs 16%4)]) (n:=1) rfl r83_3 (Qa0 r83_3) (show 1≤maxLen from by decide)) (by rw [List.length_take]; show _+1≤_; omega) y1_3 fun y6_ W4 f85 y4 l4=>?_
   have x4:=Ext.low x3 l4 xx1.size
   refine sg 1 kj <| sgN hK80 <| wp_seq_k fun K87 hK87=>sgB kj <| wp_block <| QaB (fun (s5:Nat×List Int×Value)=>[(0,.slice ax xs.length cx),(3,y6_),(4,s5.2.2),(6,.int .i64 ((16+s5.1:Nat):Int))]) (fun (s5:Nat×List Int×Value) W=>(16+s5.1≤xs.length)∧(s5.2.1.length=s5.1)∧(Qai s5.2.1)∧(4*lev s5.2.1+nth xs 16%4=lev ((xs.drop 16).take s5.1)+nth xs (16+s5.1)%4*p256 s5.1)∧(OwnN .i64 3 W4.heap.size s5.2.1 s5.2.2 W)∧(Ext W4 W)∧(Ext w W)) (fun (s5:Nat×List Int×Value)=>xs.length-(16+s5.1)) (0,[],(.slice none 0 0)) ⟨kj,kj,kj,kj,trivial⟩ ⟨(show 16+0≤xs.length by omega),rfl,(fun x hx=>by cases hx),(by show 4*0+nth xs 16%4=0+nth xs 16%4*1; omega),(Qbb _ _ _ _),(Rely.Ext.refl W4),x4⟩ fun s5 X5 V5 hI5=>?_
   obtain ⟨k,hs,u2⟩:=s5
   obtain ⟨hk,hhl,hhb,hhv,hu2,kk5,xx5⟩:=hI5
   replace hk:16+k≤xs.length:=hk
   replace hhl:hs.length=k:=hhl
   replace hhb:Qai hs:=hhb
   replace hhv:4*lev hs+nth xs 16%4=lev ((xs.drop 16).take k)+nth xs (16+k)%4*p256 k:=hhv
   replace hu2:OwnN .i64 3 W4.heap.size hs u2 V5:=hu2
   replace kk5:Ext W4 V5:=kk5
   replace xx5:Ext w V5:=xx5
   have e5:=kk5
   refine wp_seq_k fun K89 hK89=>sgB kj <| Qa7 (t:=decide (((16+k:Nat):Int)<((xs.length:Nat):Int))) kj (fun c91=>?_) (fun c91=>?_)
   ·skip
    have hlt47:16+k<xs.length:=by have:=of_decide_eq_true c91; omega
    have f95_5:=((RdK.low (f82_2.ext e3) hrx l4).ext e5)
    obtain ⟨grx92,orx92,harx92,-,hlrx92,hcrx92⟩:=Qb0 f95_5 (by omega)
    have hxk:=Qa5 hxb (16+k)
    have hxk1:=Qa5 hxb (16+(k+1))
    have hxk2:=Qa5 hxb ((16+k)+1)
    refine wp_skip <| hK89 _ _ <| wp_seq_k fun K96 hK96=>wp_block <| sgC fun K97 hK97=>sg 2 kj <| Qaa (.pointer (some ⟨grx92,orx92+(16+k),none⟩)) 52 rfl kj (Qaw 66 _ _ .i64 (16+k) grx92 orx92 xs.length cx 3 ax _ harx92 rfl rfl kj kj kj kj (Nat.lt_of_lt_of_eq (show 16+k<(xs).length by omega) (rfl:(xs).length=(xs).length).symm)) <| Qaa (.int .i64 (nth (xs) ((16+k)))) 53 rfl kj (Qap 3 _ _ (.int .i64 (nth (xs) ((16+k)))) (hcrx92 (16+k) (Nat.lt_of_lt_of_eq (show 16+k<(xs).length by omega) (rfl:(xs).length=(xs).length).symm)) rfl kj kj) <| Qaa (.int .i64 (nth xs (16+k)/4)) 54 rfl kj (Qad (u:=.int .i64 (IntKind.i64.wrap (Int.tdiv ((nth (xs) ((16+k)))) (4)))) kj (congrArg (Value.int .i64) (by rw [show Int.tdiv (nth xs (16+k)) 4=(nth xs (16+k))/4 from Int.tdiv_eq_ediv_of_nonneg (by omega)]; exact IntWalk.i64_in _ (by omega)))) ?_
    refine sg 1 kj <| sgN hK97 <| wp_seq_k fun K98 hK98=>sgC fun K99 hK99=>sg 1 kj <| Qaa (.int .i64 (((16+k)+1:Nat):Int)) 56 rfl kj (Qad (u:=.int .i64 (IntKind.i64.wrap (((16+k:Nat):Int)+1))) kj (congrArg (Value.int .i64) (i64n _ _ (by omega) (by omega)))) <| sg 3 kj <| sgN hK99 <| Qa7 (t:=decide ((((16+k)+1:Nat):Int)<((xs.length:Nat):Int))) kj (fun c100=>?_) (fun c100=>?_)
    ·skip
     have hk1:16+(k+1)<xs.length:=by have:=of_decide_eq_true c100; omega
     obtain ⟨grx101,orx101,harx101,-,hlrx101,hcrx101⟩:=Qb0 f95_5 (by omega)
     refine Qac <| sg 3 kj <| Qaa (.int .i64 (((16+k)+1:Nat):Int)) 63 rfl kj (Qad (u:=.int .i64 (IntKind.i64.wrap (((16+k:Nat):Int)+1))) kj (congrArg (Value.int .i64) (i64n _ _ (by omega) (by omega)))) <| Qaa (.pointer (some ⟨grx101,orx101+((16+k)+1),none⟩)) 64 rfl kj (Qaw 66 _ _ .i64 ((16+k)+1) grx101 orx101 xs.length cx 3 ax _ harx101 rfl rfl kj kj kj kj (Nat.lt_of_lt_of_eq (show (16+k)+1<(xs).length by omega) (rfl:(xs).length=(xs).length).symm)) <| Qaa (.int .i64 (nth (xs) (((16+k)+1)))) 65 rfl kj (Qap 3 _ _ (.int .i64 (nth (xs) (((16+k)+1)))) (hcrx101 ((16+k)+1) (Nat.lt_of_lt_of_eq (show (16+k)+1<(xs).length by omega) (rfl:(xs).length=(xs).length).symm)) rfl kj kj) <| Qaa (.int .i64 (nth xs ((16+k)+1)%4)) 66 rfl kj (Qad (u:=.int .i64 (Int.tmod ((nth (xs) (((16+k)+1)))) (4))) kj (congrArg (Value.int .i64) (show Int.tmod (nth xs ((16+k)+1)) 4=(nth xs ((16+k)+1))%4 from Int.tmod_eq_emod_of_nonneg (by omega)))) <| Qaa (.int .i64 (nth xs ((16+k)+1)%4*64)) 67 rfl kj (Qad (u:=.int .i64 (IntKind.i64.wrap ((nth xs ((16+k)+1)%4)*64))) kj (congrArg (Value.int .i64) (IntWalk.i64_in _ (by omega)))) <| Qaa (.int .i64 (nth xs (16+k)/4+nth xs ((16+k)+1)%4*64)) 68 rfl kj (Qad (u:=.int .i64 (IntKind.i64.wrap ((nth xs (16+k)/4)+(nth xs ((16+k)+1)%4*64)))) kj (congrArg (Value.int .i64) (IntWalk.i64_in _ (by omega)))) <| sg 1 kj <| Qae ?_
     refine hK98 _ _ <| Qac <| sg 2 kj <| QaD (ints .i64 ([(nth xs (16+k)/4+nth xs ((16+k)+1)%4*64)])) 3 1 71 rfl kj kj fun g102 W6 l102 e6 r102_6=>?_
     have x6:=Ext.tr xx5 e6
     have b102:=qT xx5.size l102
     have y4_6:=(Rely.Ext.trans e5 e6)
     refine Qa9 (k:=.i64) (T:=3) (xs:=hs) (ys:=[(nth xs (16+k)/4+nth xs ((16+k)+1)%4*64)]) (V:=W4) 8 (.tmp 69) (.tmp 71) 66 rfl kj kj (by decide) 72 rfl kj kj kj (hu2.ext e6) (QaM (xs:=[(nth xs (16+k)/4+nth xs ((16+k)+1)%4*64)]) (n:=1) rfl r102_6 (Qa0 r102_6) (show 1≤maxLen from by decide)) (by show hs.length+1≤_; omega) y4_6 fun y7_ W7 f104 y7 l7=>?_
     have x7:=Ext.low x6 l7 x4.size
     refine sg 1 kj <| Qae <| hK96 _ _ <| Qac <| sg 1 kj <| Qaa (.int .i64 (((16+k)+1:Nat):Int)) 49 rfl kj (Qad (u:=.int .i64 (IntKind.i64.wrap (((16+k:Nat):Int)+1))) kj (congrArg (Value.int .i64) (i64n _ _ (by omega) (by omega)))) <| sg 1 kj <| Qae ?_
     repeat (first | with_reducible refine goX1 ?_ | with_reducible refine goX2 ?_ | with_reducible refine goX3 ?_)
     exact Qax ((k+1),hs++[(nth xs (16+k)/4+nth xs ((16+k)+1)%4*64)],y7_) ⟨kj,kj,kj,kj,trivial⟩ ⟨(show 16+(k+1)≤xs.length by omega),(show (hs++[(nth xs (16+k)/4+nth xs ((16+k)+1)%4*64)]).length=k+1 by rw [List.length_append,hhl]; rfl),(show Qai (hs++[(nth xs (16+k)/4+nth xs ((16+k)+1)%4*64)]) from QaR hhb (Qbz (by omega) (by omega))),(QdS (d:=(nth xs (16+k)/4+nth xs ((16+k)+1)%4*64)) rfl rfl hhl hlt47 (by first | rfl | (rw [hy0]; omega)) hhv),f104,y7,x7⟩ (by show xs.length-(16+(k+1))<xs.length-(16+k); omega)
    ·skip
     have hk1:xs.length≤16+(k+1):=by have:=of_decide_eq_false c100; omega
     have hy0:=QeU xs _ hk1
     refine wp_skip <| hK98 _ _ <| Qac <| sg 2 kj <| QaD (ints .i64 ([(nth xs (16+k)/4)])) 3 1 71 rfl kj kj fun g106 W6 l106 e6 r106_6=>?_
     have x6:=Ext.tr xx5 e6
     have b106:=qT xx5.size l106
     have y4_6:=(Rely.Ext.trans e5 e6)
     refine Qa9 (k:=.i64) (T:=3) (xs:=hs) (ys:=[(nth xs (16+k)/4)]) (V:=W4) 8 (.tmp 69) (.tmp 71) 66 rfl kj kj (by decide) 72 rfl kj kj kj (hu2.ext e6) (QaM (xs:=[(nth xs (16+k)/4)]) (n:=1) rfl r106_6 (Qa0 r106_6) (show 1≤maxLen from by decide)) (by show hs.length+1≤_; omega) y4_6 fun y8_ W7 f108 y7 l7=>?_
     have x7:=Ext.low x6 l7 x4.size
     refine sg 1 kj <| Qae <| hK96 _ _ <| Qac <| sg 1 kj <| Qaa (.int .i64 (((16+k)+1:Nat):Int)) 49 rfl kj (Qad (u:=.int .i64 (IntKind.i64.wrap (((16+k:Nat):Int)+1))) kj (congrArg (Value.int .i64) (i64n _ _ (by omega) (by omega)))) <| sg 1 kj <| Qae ?_
     repeat (first | with_reducible refine goX1 ?_ | with_reducible refine goX2 ?_ | with_reducible refine goX3 ?_)
     exact Qax ((k+1),hs++[(nth xs (16+k)/4)],y8_) ⟨kj,kj,kj,kj,trivial⟩ ⟨(show 16+(k+1)≤xs.length by omega),(show (hs++[(nth xs (16+k)/4)]).length=k+1 by rw [List.length_append,hhl]; rfl),(show Qai (hs++[(nth xs (16+k)/4)]) from QaR hhb (Qbz (by omega) (by omega))),(QdS (d:=(nth xs (16+k)/4)) rfl rfl hhl hlt47 (by first | rfl | (rw [hy0]; omega)) hhv),f108,y7,x7⟩ (by show xs.length-(16+(k+1))<xs.length-(16+k); omega)
   ·skip
    have heq47:16+k=xs.length:=by have:=of_decide_eq_false c91; omega
    have hhe:4*lev hs+nth xs 16%4=lev (xs.drop 16):=by
     rw [hhv,List.take_of_length_le (by rw [List.length_drop]; omega),QeU xs _ (by omega)]; omega
    refine wp_exit <| hK87 _ _ <| Qac ?_
    obtain ⟨low,elow⟩:∃ z,z=xs.take 16++[nth xs 16%4]:=⟨_,rfl⟩
    have hlw:OwnN .i64 3 V1.heap.size low y6_ V5:=elow▸(f85.ext e5)
    obtain ⟨al,cl,rfl,-⟩:=id (OwnN.rd hlw)
    have hll:low.length=17:=by rw [elow,List.length_append,List.length_take]; show min 16 xs.length+1=17; omega
    have hlb:Qai low:=elow▸QaR (Qa4 hxb 16) (Qbz (by have:=Qa5 hxb 16; omega) (by omega))
    have hsp:=Qe1 h17 elow hhe
    have hlo:=Qf5 hxb h17 elow
    obtain ⟨ah,ch,rfl,-⟩:=id (OwnN.rd hu2)
    refine sg 2 kj <| QaD (ints .i64 ([5])) 3 1 75 rfl kj kj fun g111 W6 l111 e6 r111_6=>?_
    have x6:=Ext.tr xx5 e6
    have b111:=qT xx5.size l111
    refine Qat (fun v W'=>(DigR W6.heap.size (lev hs*lev [5]) (hs.length+1+1)) v W'∧Ext W6 W') 150 #[.slice ah hs.length ch,.slice (some ⟨g111,0,none⟩) 1 1] 76 rfl kj kj ((Qfk hs [5] _ _ _ _ _ (OwnN.rd (hu2.ext e6)) (QaM (xs:=[5]) (n:=1) rfl r111_6 (Qa0 r111_6) (show 1≤maxLen from by decide)) (by omega) (by decide) hhb (Qbz (by decide) (by decide))).mono (by rintro e w' ⟨v,rfl,e1,hv⟩; exact ⟨v,rfl,hv,e1⟩)) fun vv114 W7 hh114=>?_
    obtain ⟨hv114,e7⟩:=hh114
    have x7:=Ext.tr x6 e7
    obtain ⟨zs112,hzb112,hzv112,hzl112,hzo112⟩:=hv114
    obtain ⟨az112,cz112,rfl,-⟩:=id (OwnN.rd hzo112)
    refine Qat (fun v W'=>(DigR W7.heap.size (lev low+lev zs112) (max low.length zs112.length+1)) v W'∧Ext W7 W') 151 #[.slice al low.length cl,.slice az112 zs112.length cz112] 77 rfl kj kj ((Qek low zs112 _ _ _ _ _ (OwnN.rd ((hlw.ext e6).ext e7)) (OwnN.rd hzo112) (by omega) (by omega) hlb hzb112).mono (by rintro e w' ⟨v,rfl,e1,hv⟩; exact ⟨v,rfl,hv,e1⟩)) fun vv118 W8 hh118=>?_
    obtain ⟨hv118,e8⟩:=hh118
    have x8:=Ext.tr x7 e8
    obtain ⟨zs115,hzb115,hzv115,hzl115,hzo115⟩:=hv118
    obtain ⟨az115,cz115,rfl,-⟩:=id (OwnN.rd hzo115)
    refine Qat (fun v W'=>(fun v W=>∃ m,m≤zs115.length∧v=.slice az115 m cz115∧lev (zs115.take m)=lev zs115∧(m=0∨nth zs115 (m-1)≠0)) v W'∧Ext W8 W') 149 #[.slice az115 zs115.length cz115] 78 rfl kj kj ((QeQ zs115 _ _ _ _ (OwnN.rd hzo115) (by omega)).mono (by rintro e w' ⟨v,rfl,e1,hv⟩; exact ⟨v,rfl,hv,e1⟩)) fun vv120 W9 hh120=>?_
    obtain ⟨hv120,e9⟩:=hh120
    have x9:=Ext.tr x8 e9
    obtain ⟨m119,hm119,rfl,hv119,ht119⟩:=hv120
    have htl119:(zs115.take m119).length=m119:=by rw [List.length_take]; omega
    refine sg 1 kj <| Qae ?_
    have hnew:lev (zs115.take m119)=lev low+5*lev hs:=by rw [hv119,hzv115,hzv112]; simp only [lev]; omega
    have hhp:=Qbh hhb
    have y0_2:=(Rely.Ext.trans e1 e2)
    have y0_3:=(Rely.Ext.trans y0_2 e3)
    have y0_4:=(Ext.low y0_3 l4 e1.size)
    have y0_5:=(Rely.Ext.trans y0_4 e5)
    have y0_6:=(Rely.Ext.trans y0_5 e6)
    have y0_7:=(Rely.Ext.trans y0_6 e7)
    have y0_8:=(Rely.Ext.trans y0_7 e8)
    have y0_9:=(Rely.Ext.trans y0_8 e9)
    repeat (first | with_reducible refine goX1 ?_ | with_reducible refine goX2 ?_ | with_reducible refine goX3 ?_)
    exact Qax ((zs115.take m119),(.slice az115 m119 cz115)) ⟨kj,trivial⟩ ⟨(Qa4 hzb115 m119),(QcF hm119 ht119),(Qf4 (h:=lev hs) (by rw [hnew]; omega) hxm),(by show (zs115.take m119).length≤_; rw [List.length_take]; omega),(RdK.here (QbC (OwnN.rd (hzo115.ext e9)) m119 hm119)),y0_9,x9⟩ (by show (lev (zs115.take m119)).toNat<(lev xs).toNat; omega)
 ·skip
  obtain ⟨grx122,orx122,harx122,-,hlrx122,hcrx122⟩:=Qb0 hrx (by omega)
  have h17:17≤xs.length:=by omega
  have hend:=Qf6 hxb (.inr hq)
  refine Qac <| sg 2 kj <| Qaa (.bool false) 10 rfl kj (Qad (u:=.bool (decide (((xs.length:Nat):Int)>17))) kj (congrArg Value.bool (decide_eq_false (by omega)))) <| sg 3 kj <| Qaa (.bool true) 14 rfl kj (Qad (u:=.bool ((((xs.length:Nat):Int)==17))) kj (congrArg Value.bool (by rw [hq.1]; rfl))) ?_
  refine sg 2 kj <| Qaa (.pointer (some ⟨grx122,orx122+16,none⟩)) 17 rfl kj (Qaw 66 _ _ .i64 16 grx122 orx122 xs.length cx 3 ax _ harx122 rfl rfl kj kj kj kj (Nat.lt_of_lt_of_eq (show 16<(xs).length by omega) (rfl:(xs).length=(xs).length).symm)) <| Qaa (.int .i64 (nth (xs) (16))) 18 rfl kj (Qap 3 _ _ (.int .i64 (nth (xs) (16))) (hcrx122 16 (Nat.lt_of_lt_of_eq (show 16<(xs).length by omega) (rfl:(xs).length=(xs).length).symm)) rfl kj kj) <| Qaa (.bool false) 19 rfl kj (Qad (u:=.bool (decide ((nth (xs) (16))>3))) kj (congrArg Value.bool (decide_eq_false (by omega)))) <| sg 2 kj <| sgN hK4 <| cond_false kj <| wp_exit <| hK2 _ _ <| sgB kj ?_
  refine wp_ret ?_
  repeat (first | with_reducible refine goR1 ?_ | with_reducible refine goR2 ?_)
  exact (show bodyPost _ _ _ .ret _ _ from ret1 (.slice ax xs.length cx) rfl (Qaq kj) ⟨_,rfl,xx1,xs,hxb,hxm,hend,(by omega),RdK.here hrx⟩)
 ·skip
  have hend:=Qf6 hxb (.inl hq)
  refine Qac <| sg 2 kj <| Qaa (.bool false) 10 rfl kj (Qad (u:=.bool (decide (((xs.length:Nat):Int)>17))) kj (congrArg Value.bool (decide_eq_false (by omega)))) <| sg 3 kj <| Qaa (.bool false) 14 rfl kj (Qad (u:=.bool ((((xs.length:Nat):Int)==17))) kj (congrArg Value.bool (beq_eq_false_iff_ne.2 (by omega)))) <| sg 7 kj <| sgN hK4 <| cond_false kj <| wp_exit <| hK2 _ _ ?_
  refine sgB kj <| wp_ret ?_
  repeat (first | with_reducible refine goR1 ?_ | with_reducible refine goR2 ?_)
  exact (show bodyPost _ _ _ .ret _ _ from ret1 (.slice ax xs.length cx) rfl (Qaq kj) ⟨_,rfl,xx1,xs,hxb,hxm,hend,(by omega),RdK.here hrx⟩)
end Go.Proofs.YtoiendjhplbjjaaDoor.Ae
end
section
namespace Go.Proofs.YtoiendjhplbjjaaDoor.Ae
open Go Go.RowKit
open Rely Auto Own Sha
open Sha Cha
theorem QeO {P : Program} {ρ:Operand→Value} {o:Oper} {w:World} (t:TypeId) (x y z:Operand) (l h:Nat) (e:TypeId) (ho:o.op=.slice t x (some y) (some z) none) {a:Option Addr} {len cap:Nat} (hx:ρ x=.slice a len cap)
    (hu:P.underlying t=some (.slice e)) (hs:(P.info? e).map (·.size)=some 1) (ky kz:IntKind) (hy:ρ y=.int ky (l:Int)) (hz:ρ z=.int kz (h:Int)) (h1:l≤h) (h2:h≤cap) :
    (execOp ρ o).run P w=.ok (.value (.slice (QbN a cap l) (h-l) (cap-l))) w:=by
  cases hq:P.info? e with
  | none=>simp [hq] at hs
  | some i =>
    have hs':i.size=1:=by simpa [hq] using hs
    unfold execOp QbN
    have hadd:∀ a:Option Addr,Option.map (fun x=>x.add 0) a=a:=fun a=>by
      cases a with
      | none=>rfl
      | some a=>obtain ⟨b,o,s⟩:=a; cases s <;> simp [Addr.add]
    by_cases hc:cap=l
    · have h3:h=l:=by omega
      subst h3
      simp [ho,hx,hy,hz,Instr.sliceAt,Instr.slice,Instr.sliceBounds,run_sliceBound,run_underlying hu,sizeOf,typeInfo,hq,hs',hadd,hc]
    · simp [ho,hx,hy,hz,Instr.sliceAt,Instr.slice,Instr.sliceBounds,run_sliceBound,run_underlying hu,sizeOf,typeInfo,hq,hs',h1,h2,hadd,hc]
theorem Qea {k : IntKind} {T:TypeId} {g n l h:Nat} {xs:List Int} {W:World} (hn:xs.length=n) (r:W.heap[g]? = some (.cells (ints k xs) T)) (h1:l≤h) (h2:h≤n) (h3:n≤maxLen):RdK k W.heap.size ((xs.drop l).take (h-l)) (.slice (some ⟨g,l,none⟩) (h-l) (n-l)) W :=
  Qfo l (by rw [List.length_take,List.length_drop]; omega) r (fun i hi=>by rw [Qd0 _ _ _ hi,QdN]; exact QaJ k xs (l+i) (by omega)) (Qa0 r) (by omega) (by omega)
def QdV (b : List Int):List Int :=
  let b1:=b.set 3 (nth b 3%16)
  let b2:=b1.set 7 (nth b1 7%16)
  let b3:=b2.set 11 (nth b2 11%16)
  let b4:=b3.set 15 (nth b3 15%16)
  let b5:=b4.set 4 (nth b4 4/4*4)
  let b6:=b5.set 8 (nth b5 8/4*4)
  b6.set 12 (nth b6 12/4*4)
def rOf (key : List Int):Int:=lev (QdV ((key.drop 0).take (16-0)))
def sOf (key : List Int):Int:=lev ((key.drop 16).take (32-16))
theorem Qdv {x c r q y:Int} (h:x%PP=q) (hy:y%PP=(x+c)*r%PP):y%PP=(q+c)*r%PP:=by
  rw [hy,←h,Int.mul_emod (x+c),Int.add_emod x c,Int.mul_emod (x%PP+c),Int.add_emod (x%PP) c,Int.emod_emod_of_dvd x (Int.dvd_refl PP)]
theorem QkK {xs zs:List Int} (hx:lev xs<1361129467683753853853498429727072845824) (hb:Qai zs) (hv:lev zs=lev xs+lev [5]) (h17:17≤zs.length) (h4:4≤nth zs 16):lev (zs.set 16 (nth zs 16%4))=lev xs%PP:=by
  have h1:=QcV zs 16 hb
  rw [p16] at h1
  have h2:lev [5]=5:=rfl
  rw [h2] at hv
  have h3:=Qbh hb
  have h6:nth zs 16=4:=by omega
  have h7:1361129467683753853853498429727072845819≤lev xs:=by omega
  rw [Qgo zs 16 _ (by omega),p16,h6]
  unfold PP
  omega
theorem Qj0 {xs zs:List Int} (hx0:0≤lev xs) (hb:Qai zs) (hv:lev zs=lev xs+lev [5]) (hlt:lev xs<1361129467683753853853498429727072845824) (h:zs.length<17∨nth zs 16<4):lev xs=lev xs%PP:=by
  have h2:lev [5]=5:=rfl
  rw [h2] at hv
  have h1:=QcV zs 16 hb
  rw [p16] at h1
  have h5:zs.length<17→nth zs 16=0:=fun h=>QeU zs 16 (by omega)
  unfold PP
  rcases h with h | h
  · have:=h5 h; omega
  · omega
theorem QcX {zs : List Int} (hb:Qai zs) {i:Nat} (hi:i≤16) (h:i=16∨zs.length≤i):Qbo (by16 (lev zs)) 16 i=by16 (lev zs):=by
  apply QhX
  · rw [Qb5 _ 16 _ (Qa6 _) hi,Qa6]
  · intro j hj
    rw [Qb5 _ 16 _ (Qa6 _) hi] at hj
    unfold Qbo
    rcases Nat.lt_or_ge j i with hji | hji
    · have e:nth ((by16 (lev zs)).take i++List.replicate (16-i) 0) j=nth ((by16 (lev zs)).take i) j:=by
        unfold nth; rw [List.getD_eq_getElem?_getD,List.getD_eq_getElem?_getD,List.getElem?_append_left (by rw [List.length_take,Qa6]; omega)]
      rw [e,Qd0 _ _ _ hji]
    · rcases h with h | h
      · omega
      · rw [Qfx _ _ hj,←QcV zs j hb,QeU zs j (by omega)]
        unfold nth
        rw [List.getD_eq_getElem?_getD,List.getElem?_append_right (by rw [List.length_take,Qa6]; omega),List.getElem?_replicate]
        split <;> rfl
theorem QeE {zs : List Int} (hb:Qai zs) {i:Nat} (hi:i<16):IntKind.u8.wrap (nth zs i)=nth (by16 (lev zs)) i:=by
  have h:=Qa5 hb i
  have h3:∀ z:Int,IntKind.u8.wrap z=z%256:=fun _=>rfl
  rw [Qfx _ _ hi,←QcV zs i hb,h3]
  omega
theorem QhQ (t : List Int) (n e:Nat) (h:e=16*n+16∨(e=t.length∧t.length<16*n+16)):(t.drop (16*n)).take (e-16*n)=(t.drop (16*n)).take 16:=by
  rcases h with h | ⟨h,h2⟩
  · rw [h,show 16*n+16-16*n=16 by omega]
  · rw [List.take_of_length_le (by rw [List.length_drop]; omega),List.take_of_length_le (by rw [List.length_drop]; omega)]
set_option maxRecDepth 100000 in
theorem Qk8 (key text:List Int) (v:Value) (B:Nat) (w:World) (hkl:key.length=32) (hkb:Qai key) (htb:Qai text) (ht:RdK .u8 B text v w) (hl:text.length≤3000000) :
  Calls Tryd.prog 129 #[.agg (ints .u8 key),v] w (Ret w (.agg (ints .u8 (tagV (rOf key) (sOf key) text)))):=by
 obtain ⟨a_t,c_t,rfl,-⟩:=id ht
 have hcap:text.length≤c_t:=by
  obtain ⟨_,_,e,q2,_⟩:=id ht
  simp only [Value.slice.injEq] at e
  obtain ⟨-,-,rfl⟩:=e
  exact q2
 refine enter 113 [(0,.agg (ints .u8 (key))),(1,.slice a_t text.length c_t)] Tryd.func129 rfl rfl kj rfl <| sgC fun K1 hK1=>Qas (ints .u8 (key)) 23 2 rfl kj kj fun g2 W1 l2 e1 r2_1=>?_
 have x1:=Ext.tr (Rely.Ext.refl w) e1
 have b2:=qT (Rely.Ext.refl w).size l2
 refine Qas (ints .u8 (List.replicate 16 0)) 157 4 rfl kj kj fun g3 W2 l3 e2 r3_2=>?_
 have x2:=Ext.tr x1 e2
 have b3:=qT x1.size l3
 refine sgN hK1 <| sgC fun K4 hK4=>Qaa (.slice (some ⟨g2,0+0,none⟩) (16-0) (32-0)) 16 rfl kj (QbA 23 _ _ _ 0 16 32 g2 0 5 rfl kj kj kj rfl ⟨.i64,by kernel_rfl⟩ (by omega) (by omega) (by omega)) ?_
 have r2_2:=(Qab r2_1 e2)
 refine Qat (fun v W'=>(OwnN .i64 3 W2.heap.size ((key.drop 0).take (16-0))) v W'∧Ext W2 W') 147 #[.slice (some ⟨g2,0+0,none⟩) (16-0) (32-0)] 17 rfl kj kj ((Qdz ((key.drop 0).take (16-0)) _ _ _ (Qea (l:=0) (h:=16) hkl r2_2 (by decide) (by decide) (by decide)) (by rw [List.length_take]; omega) (Qa4 (QaK hkb 0) _)).mono (by rintro e w' ⟨v,rfl,e1,hv⟩; exact ⟨v,rfl,hv,e1⟩)) fun vv6 W3 hh6=>?_
 obtain ⟨hv6,e3⟩:=hh6
 obtain ⟨an5,cn5,hvn5,-⟩:=id (OwnN.rd hv6)
 subst hvn5
 refine sg 1 kj ?_
 obtain ⟨r0,er0⟩:∃ z,z=(key.drop 0).take (16-0):=⟨_,rfl⟩
 have hr0:r0.length=16:=by rw [er0,List.length_take,List.length_drop,hkl]; rfl
 have hr0b:Qai r0:=er0▸Qa4 (QaK hkb 0) _
 have hor:OwnN .i64 3 W2.heap.size r0 (.slice an5 (((key.drop 0).take (16-0)).length) cn5) W3:=er0▸hv6
 obtain ⟨gr,cr,rr_,evr,lr,rowr,hcr⟩:=Qdo hor hr0 (by decide)
 rw [evr]
 refine sgN hK4 <| wp_seq_k fun K8 hK8=>sgB kj <| wp_block <| wp_loop_rounds 5 ?_
 show Code.wp _ _ (Exit.then (Code.rounds _ _ _ 4) _) _ _
 refine wp_seq_k fun K10 hK10=>sgB kj <| cond_true kj <| wp_skip <| hK10 _ _ <| wp_seq_k fun K12 hK12=>wp_block ?_
 have hxr0:=Qa5 hr0b 3
 refine Qac <| sg 4 kj <| Qaa (.pointer (some ⟨gr,3,none⟩)) 26 rfl kj (Qau 66 _ _ .i64 (3) gr 16 cr 3 rfl kj kj kj kj (by decide)) <| Qaa (.int .i64 (nth (r0) 3)) 27 rfl kj (Qah 3 _ gr 3 3 _ (.int .i64 (nth (r0) 3)) _ rowr rfl kj (QaT (Nat.lt_of_lt_of_eq (by decide) hr0.symm)) kj) <| Qaa (.int .i64 (nth r0 3%16)) 28 rfl kj (Qad (u:=.int .i64 (Int.tmod ((nth (r0) 3)) (16))) kj (congrArg (Value.int .i64) (show Int.tmod (nth r0 3) 16=nth r0 3%16 from Int.tmod_eq_emod_of_nonneg (by omega)))) <| Qaa (.pointer (some ⟨gr,3,none⟩)) 29 rfl kj (Qau 66 _ _ .i64 (3) gr 16 cr 3 rfl kj kj kj kj (by decide)) <| Qal gr _ (ints .i64 ((r0).set 3 (nth r0 3%16))++rr_) 3 rowr rfl kj (Qbn 3 _ _ gr 3 3 _ _ _ rowr rfl kj kj kj (Nat.lt_of_lt_of_eq (by decide) hr0.symm)) fun W4 p4 r7_4=>?_
 obtain ⟨r1,er1⟩:∃ z,z=(r0).set 3 (nth r0 3%16):=⟨_,rfl⟩
 have hr1:r1.length=16:=by rw [er1,List.length_set,hr0]
 have hbr1:=Qa5 hr0b 3
 have hr1b:Qai r1:=er1▸QaY hr0b _ (by omega) (by omega)
 have r7_4_13:W4.heap[gr]? = some (.cells (ints .i64 (r1)++rr_) 3):=Qbk r7_4 (by rw [er1])
 refine Qae <| hK12 _ _ <| sgA kj ?_
 show Code.rounds _ _ _ 4 _ _
 show Code.wp _ _ (Exit.then (Code.rounds _ _ _ 3) _) _ _
 refine wp_seq_k fun K14 hK14=>sgB kj <| cond_true kj <| wp_skip <| hK14 _ _ <| wp_seq_k fun K16 hK16=>wp_block ?_
 have hxr1:=Qa5 hr1b 7
 refine Qac <| sg 4 kj <| Qaa (.pointer (some ⟨gr,7,none⟩)) 26 rfl kj (Qau 66 _ _ .i64 (7) gr 16 cr 3 rfl kj kj kj kj (by decide)) <| Qaa (.int .i64 (nth (r1) 7)) 27 rfl kj (Qah 3 _ gr 7 3 _ (.int .i64 (nth (r1) 7)) _ r7_4_13 rfl kj (QaT (Nat.lt_of_lt_of_eq (by decide) hr1.symm)) kj) <| Qaa (.int .i64 (nth r1 7%16)) 28 rfl kj (Qad (u:=.int .i64 (Int.tmod ((nth (r1) 7)) (16))) kj (congrArg (Value.int .i64) (show Int.tmod (nth r1 7) 16=nth r1 7%16 from Int.tmod_eq_emod_of_nonneg (by omega)))) <| Qaa (.pointer (some ⟨gr,7,none⟩)) 29 rfl kj (Qau 66 _ _ .i64 (7) gr 16 cr 3 rfl kj kj kj kj (by decide)) <| Qal gr _ (ints .i64 ((r1).set 7 (nth r1 7%16))++rr_) 3 r7_4_13 rfl kj (Qbn 3 _ _ gr 7 3 _ _ _ r7_4_13 rfl kj kj kj (Nat.lt_of_lt_of_eq (by decide) hr1.symm)) fun W5 p5 r7_5=>?_
 obtain ⟨r2,er2⟩:∃ z,z=(r1).set 7 (nth r1 7%16):=⟨_,rfl⟩
 have hr2:r2.length=16:=by rw [er2,List.length_set,hr1]
 have hbr2:=Qa5 hr1b 7
 have hr2b:Qai r2:=er2▸QaY hr1b _ (by omega) (by omega)
 have r7_5_17:W5.heap[gr]? = some (.cells (ints .i64 (r2)++rr_) 3):=Qbk r7_5 (by rw [er2])
 refine Qae <| hK16 _ _ <| sgA kj ?_
 show Code.rounds _ _ _ 3 _ _
 show Code.wp _ _ (Exit.then (Code.rounds _ _ _ 2) _) _ _
 refine wp_seq_k fun K18 hK18=>sgB kj <| cond_true kj <| wp_skip <| hK18 _ _ <| wp_seq_k fun K20 hK20=>wp_block ?_
 have hxr2:=Qa5 hr2b 11
 refine Qac <| sg 4 kj <| Qaa (.pointer (some ⟨gr,11,none⟩)) 26 rfl kj (Qau 66 _ _ .i64 (11) gr 16 cr 3 rfl kj kj kj kj (by decide)) <| Qaa (.int .i64 (nth (r2) 11)) 27 rfl kj (Qah 3 _ gr 11 3 _ (.int .i64 (nth (r2) 11)) _ r7_5_17 rfl kj (QaT (Nat.lt_of_lt_of_eq (by decide) hr2.symm)) kj) <| Qaa (.int .i64 (nth r2 11%16)) 28 rfl kj (Qad (u:=.int .i64 (Int.tmod ((nth (r2) 11)) (16))) kj (congrArg (Value.int .i64) (show Int.tmod (nth r2 11) 16=nth r2 11%16 from Int.tmod_eq_emod_of_nonneg (by omega)))) <| Qaa (.pointer (some ⟨gr,11,none⟩)) 29 rfl kj (Qau 66 _ _ .i64 (11) gr 16 cr 3 rfl kj kj kj kj (by decide)) <| Qal gr _ (ints .i64 ((r2).set 11 (nth r2 11%16))++rr_) 3 r7_5_17 rfl kj (Qbn 3 _ _ gr 11 3 _ _ _ r7_5_17 rfl kj kj kj (Nat.lt_of_lt_of_eq (by decide) hr2.symm)) fun W6 p6 r7_6=>?_
 obtain ⟨r3,er3⟩:∃ z,z=(r2).set 11 (nth r2 11%16):=⟨_,rfl⟩
 have hr3:r3.length=16:=by rw [er3,List.length_set,hr2]
 have hbr3:=Qa5 hr2b 11
 have hr3b:Qai r3:=er3▸QaY hr2b _ (by omega) (by omega)
 have r7_6_21:W6.heap[gr]? = some (.cells (ints .i64 (r3)++rr_) 3):=Qbk r7_6 (by rw [er3])
 refine Qae <| hK20 _ _ <| sgA kj ?_
 show Code.rounds _ _ _ 2 _ _
 show Code.wp _ _ (Exit.then (Code.rounds _ _ _ 1) _) _ _
 refine wp_seq_k fun K22 hK22=>sgB kj <| cond_true kj <| wp_skip <| hK22 _ _ <| wp_seq_k fun K24 hK24=>wp_block ?_
 have hxr3:=Qa5 hr3b 15
 refine Qac <| sg 4 kj <| Qaa (.pointer (some ⟨gr,15,none⟩)) 26 rfl kj (Qau 66 _ _ .i64 (15) gr 16 cr 3 rfl kj kj kj kj (by decide)) <| Qaa (.int .i64 (nth (r3) 15)) 27 rfl kj (Qah 3 _ gr 15 3 _ (.int .i64 (nth (r3) 15)) _ r7_6_21 rfl kj (QaT (Nat.lt_of_lt_of_eq (by decide) hr3.symm)) kj) <| Qaa (.int .i64 (nth r3 15%16)) 28 rfl kj (Qad (u:=.int .i64 (Int.tmod ((nth (r3) 15)) (16))) kj (congrArg (Value.int .i64) (show Int.tmod (nth r3 15) 16=nth r3 15%16 from Int.tmod_eq_emod_of_nonneg (by omega)))) <| Qaa (.pointer (some ⟨gr,15,none⟩)) 29 rfl kj (Qau 66 _ _ .i64 (15) gr 16 cr 3 rfl kj kj kj kj (by decide)) <| Qal gr _ (ints .i64 ((r3).set 15 (nth r3 15%16))++rr_) 3 r7_6_21 rfl kj (Qbn 3 _ _ gr 15 3 _ _ _ r7_6_21 rfl kj kj kj (Nat.lt_of_lt_of_eq (by decide) hr3.symm)) fun W7 p7 r7_7=>?_
 obtain ⟨r4,er4⟩:∃ z,z=(r3).set 15 (nth r3 15%16):=⟨_,rfl⟩
 have hr4:r4.length=16:=by rw [er4,List.length_set,hr3]
 have hbr4:=Qa5 hr3b 15
 have hr4b:Qai r4:=er4▸QaY hr3b _ (by omega) (by omega)
 have r7_7_25:W7.heap[gr]? = some (.cells (ints .i64 (r4)++rr_) 3):=Qbk r7_7 (by rw [er4])
 refine Qae <| hK24 _ _ <| sgA kj ?_
 show Code.rounds _ _ _ 1 _ _
 show Code.wp _ _ (Exit.then (Code.rounds _ _ _ 0) _) _ _
 refine wp_seq_k fun K26 hK26=>sgB kj <| cond_false kj <| wp_exit <| hK8 _ _ <| wp_seq_k fun K28 hK28=>sgB kj <| wp_block <| wp_loop_rounds 4 ?_
 show Code.wp _ _ (Exit.then (Code.rounds _ _ _ 3) _) _ _
 refine wp_seq_k fun K30 hK30=>sgB kj <| cond_true kj <| wp_skip <| hK30 _ _ <| wp_seq_k fun K32 hK32=>wp_block ?_
 have hxr4:=Qa5 hr4b 4
 refine Qac <| sg 4 kj <| Qaa (.pointer (some ⟨gr,4,none⟩)) 38 rfl kj (Qau 66 _ _ .i64 (4) gr 16 cr 3 rfl kj kj kj kj (by decide)) <| Qaa (.int .i64 (nth (r4) 4)) 39 rfl kj (Qah 3 _ gr 4 3 _ (.int .i64 (nth (r4) 4)) _ r7_7_25 rfl kj (QaT (Nat.lt_of_lt_of_eq (by decide) hr4.symm)) kj) <| Qaa (.int .i64 (nth r4 4/4)) 40 rfl kj (Qad (u:=.int .i64 (IntKind.i64.wrap (Int.tdiv ((nth (r4) 4)) (4)))) kj (congrArg (Value.int .i64) (by rw [show Int.tdiv (nth r4 4) 4=nth r4 4/4 from Int.tdiv_eq_ediv_of_nonneg (by omega)]; exact IntWalk.i64_in _ (by omega)))) ?_
 refine Qaa (.int .i64 (nth r4 4/4*4)) 41 rfl kj (Qad (u:=.int .i64 (IntKind.i64.wrap ((nth r4 4/4)*4))) kj (congrArg (Value.int .i64) (IntWalk.i64_in _ (by omega)))) <| Qaa (.pointer (some ⟨gr,4,none⟩)) 42 rfl kj (Qau 66 _ _ .i64 (4) gr 16 cr 3 rfl kj kj kj kj (by decide)) <| Qal gr _ (ints .i64 ((r4).set 4 (nth r4 4/4*4))++rr_) 3 r7_7_25 rfl kj (Qbn 3 _ _ gr 4 3 _ _ _ r7_7_25 rfl kj kj kj (Nat.lt_of_lt_of_eq (by decide) hr4.symm)) fun W8 p8 r7_8=>?_
 obtain ⟨r5,er5⟩:∃ z,z=(r4).set 4 (nth r4 4/4*4):=⟨_,rfl⟩
 have hr5:r5.length=16:=by rw [er5,List.length_set,hr4]
 have hbr5:=Qa5 hr4b 4
 have hr5b:Qai r5:=er5▸QaY hr4b _ (by omega) (by omega)
 have r7_8_33:W8.heap[gr]? = some (.cells (ints .i64 (r5)++rr_) 3):=Qbk r7_8 (by rw [er5])
 refine Qae <| hK32 _ _ <| sgA kj ?_
 show Code.rounds _ _ _ 3 _ _
 show Code.wp _ _ (Exit.then (Code.rounds _ _ _ 2) _) _ _
 refine wp_seq_k fun K34 hK34=>sgB kj <| cond_true kj <| wp_skip <| hK34 _ _ <| wp_seq_k fun K36 hK36=>wp_block ?_
 have hxr5:=Qa5 hr5b 8
 refine Qac <| sg 4 kj <| Qaa (.pointer (some ⟨gr,8,none⟩)) 38 rfl kj (Qau 66 _ _ .i64 (8) gr 16 cr 3 rfl kj kj kj kj (by decide)) <| Qaa (.int .i64 (nth (r5) 8)) 39 rfl kj (Qah 3 _ gr 8 3 _ (.int .i64 (nth (r5) 8)) _ r7_8_33 rfl kj (QaT (Nat.lt_of_lt_of_eq (by decide) hr5.symm)) kj) <| Qaa (.int .i64 (nth r5 8/4)) 40 rfl kj (Qad (u:=.int .i64 (IntKind.i64.wrap (Int.tdiv ((nth (r5) 8)) (4)))) kj (congrArg (Value.int .i64) (by rw [show Int.tdiv (nth r5 8) 4=nth r5 8/4 from Int.tdiv_eq_ediv_of_nonneg (by omega)]; exact IntWalk.i64_in _ (by omega)))) ?_
 refine Qaa (.int .i64 (nth r5 8/4*4)) 41 rfl kj (Qad (u:=.int .i64 (IntKind.i64.wrap ((nth r5 8/4)*4))) kj (congrArg (Value.int .i64) (IntWalk.i64_in _ (by omega)))) <| Qaa (.pointer (some ⟨gr,8,none⟩)) 42 rfl kj (Qau 66 _ _ .i64 (8) gr 16 cr 3 rfl kj kj kj kj (by decide)) <| Qal gr _ (ints .i64 ((r5).set 8 (nth r5 8/4*4))++rr_) 3 r7_8_33 rfl kj (Qbn 3 _ _ gr 8 3 _ _ _ r7_8_33 rfl kj kj kj (Nat.lt_of_lt_of_eq (by decide) hr5.symm)) fun W9 p9 r7_9=>?_
 obtain ⟨r6,er6⟩:∃ z,z=(r5).set 8 (nth r5 8/4*4):=⟨_,rfl⟩
 have hr6:r6.length=16:=by rw [er6,List.length_set,hr5]
 have hbr6:=Qa5 hr5b 8
 have hr6b:Qai r6:=er6▸QaY hr5b _ (by omega) (by omega)
 have r7_9_37:W9.heap[gr]? = some (.cells (ints .i64 (r6)++rr_) 3):=Qbk r7_9 (by rw [er6])
 refine Qae <| hK36 _ _ <| sgA kj ?_
 show Code.rounds _ _ _ 2 _ _
 show Code.wp _ _ (Exit.then (Code.rounds _ _ _ 1) _) _ _
 refine wp_seq_k fun K38 hK38=>sgB kj <| cond_true kj <| wp_skip <| hK38 _ _ <| wp_seq_k fun K40 hK40=>wp_block ?_
 have hxr6:=Qa5 hr6b 12
 refine Qac <| sg 4 kj <| Qaa (.pointer (some ⟨gr,12,none⟩)) 38 rfl kj (Qau 66 _ _ .i64 (12) gr 16 cr 3 rfl kj kj kj kj (by decide)) <| Qaa (.int .i64 (nth (r6) 12)) 39 rfl kj (Qah 3 _ gr 12 3 _ (.int .i64 (nth (r6) 12)) _ r7_9_37 rfl kj (QaT (Nat.lt_of_lt_of_eq (by decide) hr6.symm)) kj) <| Qaa (.int .i64 (nth r6 12/4)) 40 rfl kj (Qad (u:=.int .i64 (IntKind.i64.wrap (Int.tdiv ((nth (r6) 12)) (4)))) kj (congrArg (Value.int .i64) (by rw [show Int.tdiv (nth r6 12) 4=nth r6 12/4 from Int.tdiv_eq_ediv_of_nonneg (by omega)]; exact IntWalk.i64_in _ (by omega)))) ?_
 refine Qaa (.int .i64 (nth r6 12/4*4)) 41 rfl kj (Qad (u:=.int .i64 (IntKind.i64.wrap ((nth r6 12/4)*4))) kj (congrArg (Value.int .i64) (IntWalk.i64_in _ (by omega)))) <| Qaa (.pointer (some ⟨gr,12,none⟩)) 42 rfl kj (Qau 66 _ _ .i64 (12) gr 16 cr 3 rfl kj kj kj kj (by decide)) <| Qal gr _ (ints .i64 ((r6).set 12 (nth r6 12/4*4))++rr_) 3 r7_9_37 rfl kj (Qbn 3 _ _ gr 12 3 _ _ _ r7_9_37 rfl kj kj kj (Nat.lt_of_lt_of_eq (by decide) hr6.symm)) fun W10 p10 r7_10=>?_
 obtain ⟨r7,er7⟩:∃ z,z=(r6).set 12 (nth r6 12/4*4):=⟨_,rfl⟩
 have hr7:r7.length=16:=by rw [er7,List.length_set,hr6]
 have hbr7:=Qa5 hr6b 12
 have hr7b:Qai r7:=er7▸QaY hr6b _ (by omega) (by omega)
 have r7_10_41:W10.heap[gr]? = some (.cells (ints .i64 (r7)++rr_) 3):=Qbk r7_10 (by rw [er7])
 refine Qae <| hK40 _ _ <| sgA kj ?_
 show Code.rounds _ _ _ 1 _ _
 show Code.wp _ _ (Exit.then (Code.rounds _ _ _ 0) _) _ _
 refine wp_seq_k fun K42 hK42=>sgB kj <| cond_false kj <| wp_exit <| hK28 _ _ <| sgB kj <| wp_seq_k fun K45 hK45=>sgB kj <| wp_block ?_
 obtain ⟨rl,erl⟩:∃ z,z=r7:=⟨_,rfl⟩
 have hrl:rl.length=16:=erl▸hr7
 have hrlb:Qai rl:=erl▸hr7b
 have hrOf:lev rl=rOf key:=by unfold rOf QdV; rw [←er0,erl,er7,er6,er5,er4,er3,er2,er1]
 have r7_10_47:W10.heap[gr]? = some (.cells (ints .i64 (rl)++rr_) 3):=Qbk r7_10_41 (by rw [erl])
 refine QaB (fun (s1:Nat×List Int×Value)=>[(1,.slice a_t text.length c_t),(2,.pointer (some ⟨g2,0,none⟩)),(4,.pointer (some ⟨g3,0,none⟩)),(5,.slice (some ⟨gr,0,none⟩) 16 cr),(8,s1.2.2),(9,.int .i64 ((16*s1.1:Nat):Int))]) (fun (s1:Nat×List Int×Value) W=>(Qai s1.2.1)∧(lev s1.2.1%PP=Qc8 (rOf key) text s1.1)∧(lev s1.2.1<1361129467683753853853498429727072845824)∧(s1.2.1.length≤17)∧(16*s1.1<text.length+16)∧(RdK .i64 W.heap.size s1.2.1 s1.2.2 W)∧(Ext W10 W)∧(Ext w W)) (fun (s1:Nat×List Int×Value)=>text.length+16-16*s1.1) (0,[],(.slice none 0 0)) ⟨kj,kj,kj,kj,kj,kj,trivial⟩ ⟨(fun x hx=>by cases hx),(by show (0:Int)%PP=0; rfl),(by show (0:Int)<_; decide),(Nat.zero_le _),(show 16*0<text.length+16 by omega),(OwnN.rd (Qbb .i64 0 0 _)),(Rely.Ext.refl W10),(Puts.ext p10 (Puts.ext p9 (Puts.ext p8 (Puts.ext p7 (Puts.ext p6 (Puts.ext p5 (Puts.ext p4 (Ext.tr x2 e3) (qT x2.size lr)) (qT x2.size lr)) (qT x2.size lr)) (qT x2.size lr)) (qT x2.size lr)) (qT x2.size lr)) (qT x2.size lr))⟩ fun s1 X1 V1 hI1=>?_
 obtain ⟨n,xs,v⟩:=s1
 obtain ⟨hsb,hsm,hslt,hsl,hn,hrs,kk1,xx1⟩:=hI1
 replace hsb:Qai xs:=hsb
 replace hsm:lev xs%PP=Qc8 (rOf key) text n:=hsm
 replace hslt:lev xs<1361129467683753853853498429727072845824:=hslt
 replace hsl:xs.length≤17:=hsl
 replace hn:16*n<text.length+16:=hn
 replace hrs:RdK .i64 V1.heap.size xs v V1:=hrs
 replace kk1:Ext W10 V1:=kk1
 replace xx1:Ext w V1:=xx1
 have e11:=kk1
 obtain ⟨ax,cx,rfl,-⟩:=id hrs
 refine wp_seq_k fun K48 hK48=>sgB kj <| Qa7 (t:=decide (((16*n:Nat):Int)<((text.length:Nat):Int))) kj (fun c50=>?_) (fun c50=>?_)
 ·skip
  have hlt46:16*n<text.length:=by have:=of_decide_eq_true c50; omega
  refine wp_skip <| hK48 _ _ <| wp_seq_k fun K51 hK51=>wp_block <| sgC fun K52 hK52=>sg 1 kj <| Qaa (.int .i64 (((16*n)+16:Nat):Int)) 50 rfl kj (Qad (u:=.int .i64 (IntKind.i64.wrap (((16*n:Nat):Int)+16))) kj (congrArg (Value.int .i64) (i64n _ _ (by omega) (by omega)))) <| sg 1 kj <| sgN hK52 <| wp_seq_k fun K53 hK53=>?_
  refine sgB kj <| Qa7 (t:=decide ((((16*n)+16:Nat):Int)>((text.length:Nat):Int))) kj (fun c55=>?_) (fun c55=>?_)
  ·skip
   have hpe:text.length<16*n+16:=by have:=of_decide_eq_true c55; omega
   have hpart:=QhQ text n text.length (.inr ⟨rfl,hpe⟩)
   refine sgA kj <| hK53 _ _ <| sgC fun K56 hK56=>sg 3 kj <| Qaa (.slice (QbN a_t c_t (16*n)) (text.length-16*n) (c_t-16*n)) 60 rfl kj (QeO (len:=text.length) 33 _ _ _ (16*n) (text.length) 5 rfl kj kj kj .i64 .i64 kj kj (by omega) (by omega)) <| Qat (fun v W'=>(OwnN .i64 3 V1.heap.size ((text.drop (16*n)).take (text.length-(16*n)))) v W'∧Ext V1 W') 147 #[.slice (QbN a_t c_t (16*n)) (text.length-16*n) (c_t-16*n)] 61 rfl kj kj ((Qdz ((text.drop (16*n)).take (text.length-(16*n))) _ _ _ (QbC (Qc1 (RdK.ext ht xx1) (16*n) (by omega)) (text.length-(16*n)) (by rw [List.length_drop]; omega)) (by rw [List.length_take]; omega) (Qa4 (QaK htb _) _)).mono (by rintro e w' ⟨v,rfl,e1,hv⟩; exact ⟨v,rfl,hv,e1⟩)) fun vv58 W12 hh58=>?_
   obtain ⟨hv58,e12⟩:=hh58
   have x12:=Ext.tr xx1 e12
   obtain ⟨an57,cn57,hvn57,-⟩:=id (OwnN.rd hv58)
   subst hvn57
   refine QaD (ints .i64 ([1])) 3 1 62 rfl kj kj fun g59 W13 l59 e13 r59_13=>?_
   have x13:=Ext.tr x12 e13
   have b59:=qT x12.size l59
   have y11_12:=(Rely.Ext.trans (Rely.Ext.refl V1) e12)
   have y11_13:=(Rely.Ext.trans y11_12 e13)
   refine Qa9 (k:=.i64) (T:=3) (xs:=(text.drop (16*n)).take (text.length-(16*n))) (ys:=[1]) (V:=V1) 8 (.tmp 61) (.tmp 62) 66 rfl kj kj (by decide) 63 rfl kj kj kj (hv58.ext e13) (QaM (xs:=[1]) (n:=1) rfl r59_13 (Qa0 r59_13) (show 1≤maxLen from by decide)) (by rw [List.length_take]; show _+1≤_; omega) y11_13 fun y1_ W14 f61 y14 l14=>?_
   have x14:=Ext.low x13 l14 xx1.size
   obtain ⟨pc,epc⟩:∃ z:List Int,z=(text.drop (16*n)).take (text.length-(16*n))++[1]:=⟨_,rfl⟩
   have hpcb:Qai pc:=epc▸QaR (Qa4 (QaK htb _) _) (Qbz (by decide) (by decide))
   have hpcl:pc.length≤17:=by rw [epc,List.length_append,List.length_take]; show _+1≤17; omega
   have hap63:OwnN .i64 3 V1.heap.size pc y1_ W14:=epc▸f61
   obtain ⟨ap63,cp63,hvp63,-⟩:=id (OwnN.rd hap63)
   subst hvp63
   refine sg 1 kj <| sgN hK56 <| Qac <| sg 2 kj <| Qat (fun v W'=>(DigR W14.heap.size (lev (xs)+lev (pc)) (max (xs).length (pc).length+1)) v W'∧Ext W14 W') 151 #[.slice ax xs.length cx,.slice ap63 pc.length cp63] 66 rfl kj kj ((Qek (xs) (pc) _ _ _ _ _ (RdK.low ((hrs.ext e12).ext e13) hrs l14) (OwnN.rd hap63) (by first | omega | (rw [List.length_take]; omega)) (by first | omega | (rw [List.length_take]; omega)) hsb hpcb).mono (by rintro e w' ⟨v,rfl,e1,hv⟩; exact ⟨v,rfl,hv,e1⟩)) fun vv68 W15 hh68=>?_
   obtain ⟨hv68,e15⟩:=hh68
   have x15:=Ext.tr x14 e15
   obtain ⟨zs64,hzb64,hzv64,hzl64,hzo64⟩:=hv68
   obtain ⟨az64,cz64,rfl,-⟩:=id (OwnN.rd hzo64)
   refine Qat (fun v W'=>(fun v W=>∃ m,m≤zs64.length∧v=.slice az64 m cz64∧lev (zs64.take m)=lev zs64∧(m=0∨nth zs64 (m-1)≠0)) v W'∧Ext W15 W') 149 #[.slice az64 zs64.length cz64] 67 rfl kj kj ((QeQ zs64 _ _ _ _ (OwnN.rd hzo64) (by omega)).mono (by rintro e w' ⟨v,rfl,e1,hv⟩; exact ⟨v,rfl,hv,e1⟩)) fun vv70 W16 hh70=>?_
   obtain ⟨hv70,e16⟩:=hh70
   have x16:=Ext.tr x15 e16
   obtain ⟨m69,hm69,rfl,hv69,ht69⟩:=hv70
   have htl69:(zs64.take m69).length=m69:=by rw [List.length_take]; omega
   refine sg 1 kj ?_
   have r7_11:=(Qab r7_10_47 e11)
   have r7_12:=(Qab r7_11 e12)
   have r7_13:=(Qab r7_12 e13)
   have r7_14:=(Qbw l14 r7_13 (Qa0 r7_11))
   have r7_15:=(Qab r7_14 e15)
   have r7_16:=(Qab r7_15 e16)
   refine Qat (fun v W'=>(DigR W16.heap.size (lev (zs64.take m69)*lev rl) ((zs64.take m69).length+rl.length+1)) v W'∧Ext W16 W') 150 #[.slice az64 m69 cz64,.slice (some ⟨gr,0,none⟩) 16 cr] 69 rfl kj kj ((Qfk (zs64.take m69) rl _ _ _ _ _ (QbC (OwnN.rd (hzo64.ext e16)) m69 hm69) (Qdc hrl r7_16 hcr) (by first | omega | (rw [List.length_take]; omega)) (by omega) (Qa4 hzb64 m69) hrlb).mono (by rintro e w' ⟨v,rfl,e1,hv⟩; exact ⟨v,rfl,hv,e1⟩)) fun vv73 W17 hh73=>?_
   obtain ⟨hv73,e17⟩:=hh73
   have x17:=Ext.tr x16 e17
   obtain ⟨zs71,hzb71,hzv71,hzl71,hzo71⟩:=hv73
   obtain ⟨az71,cz71,rfl,-⟩:=id (OwnN.rd hzo71)
   refine Qat (fun v W'=>(fun v W=>∃ m,m≤zs71.length∧v=.slice az71 m cz71∧lev (zs71.take m)=lev zs71∧(m=0∨nth zs71 (m-1)≠0)) v W'∧Ext W17 W') 149 #[.slice az71 zs71.length cz71] 70 rfl kj kj ((QeQ zs71 _ _ _ _ (OwnN.rd hzo71) (by omega)).mono (by rintro e w' ⟨v,rfl,e1,hv⟩; exact ⟨v,rfl,hv,e1⟩)) fun vv75 W18 hh75=>?_
   obtain ⟨hv75,e18⟩:=hh75
   have x18:=Ext.tr x17 e18
   obtain ⟨m74,hm74,rfl,hv74,ht74⟩:=hv75
   have htl74:(zs71.take m74).length=m74:=by rw [List.length_take]; omega
   refine Qat (fun v W'=>(fun v W=>∃ zs:List Int,Qai zs∧lev zs%PP=lev (zs71.take m74)%PP∧lev zs<1361129467683753853853498429727072845824∧zs.length≤17∧RdK .i64 W.heap.size zs v W) v W'∧Ext W18 W') 148 #[.slice az71 m74 cz71] 71 rfl kj kj ((QhK (zs71.take m74) _ _ _ (QbC (OwnN.rd (hzo71.ext e18)) m74 hm74) (by rw [List.length_take]; omega) (Qa4 hzb71 m74) (QcF hm74 ht74)).mono (by rintro e w' ⟨v,rfl,e1,hv⟩; exact ⟨v,rfl,hv,e1⟩)) fun vv78 W19 hh78=>?_
   obtain ⟨hv78,e19⟩:=hh78
   have x19:=Ext.tr x18 e19
   obtain ⟨xs2,hsb2,hsm2,hslt2,hsl2,hrs2⟩:=hv78
   refine sg 1 kj <| Qae <| hK51 _ _ <| Qac <| sg 1 kj <| Qaa (.int .i64 (((16*n)+16:Nat):Int)) 48 rfl kj (Qad (u:=.int .i64 (IntKind.i64.wrap (((16*n:Nat):Int)+16))) kj (congrArg (Value.int .i64) (i64n _ _ (by omega) (by omega)))) <| sg 1 kj <| Qae ?_
   have hstep:lev xs2%PP=Qc8 (rOf key) text (n+1):=by
    unfold Qc8
    refine Qdv hsm ?_
    rw [hsm2]
    congr 1
    rw [hv74,hzv71,hv69,hzv64,hrOf,epc,hpart]
   have y10_12:=(Rely.Ext.trans e11 e12)
   have y10_13:=(Rely.Ext.trans y10_12 e13)
   have y10_14:=(Ext.low y10_13 l14 e11.size)
   have y10_15:=(Rely.Ext.trans y10_14 e15)
   have y10_16:=(Rely.Ext.trans y10_15 e16)
   have y10_17:=(Rely.Ext.trans y10_16 e17)
   have y10_18:=(Rely.Ext.trans y10_17 e18)
   have y10_19:=(Rely.Ext.trans y10_18 e19)
   repeat (first | with_reducible refine goX1 ?_ | with_reducible refine goX2 ?_ | with_reducible refine goX3 ?_)
   exact Qax ((n+1),xs2,vv78) ⟨kj,kj,kj,kj,kj,kj,trivial⟩ ⟨hsb2,hstep,hslt2,hsl2,(show 16*(n+1)<text.length+16 by omega),(RdK.here (RdK.ext hrs2 (Rely.Ext.refl W19))),y10_19,x19⟩ (by show text.length+16-16*(n+1)<text.length+16-16*n; omega)
  ·skip
   have hpe:16*n+16≤text.length:=by have:=of_decide_eq_false c55; omega
   have hpart:=QhQ text n (16*n+16) (.inl rfl)
   refine wp_skip <| hK53 _ _ <| sgC fun K79 hK79=>sg 3 kj <| Qaa (.slice (QbN a_t c_t (16*n)) ((16*n)+16-16*n) (c_t-16*n)) 60 rfl kj (QeO (len:=text.length) 33 _ _ _ (16*n) ((16*n)+16) 5 rfl kj kj kj .i64 .i64 kj kj (by omega) (by omega)) <| Qat (fun v W'=>(OwnN .i64 3 V1.heap.size ((text.drop (16*n)).take (((16*n)+16)-(16*n)))) v W'∧Ext V1 W') 147 #[.slice (QbN a_t c_t (16*n)) ((16*n)+16-16*n) (c_t-16*n)] 61 rfl kj kj ((Qdz ((text.drop (16*n)).take (((16*n)+16)-(16*n))) _ _ _ (QbC (Qc1 (RdK.ext ht xx1) (16*n) (by omega)) (((16*n)+16)-(16*n)) (by rw [List.length_drop]; omega)) (by rw [List.length_take]; omega) (Qa4 (QaK htb _) _)).mono (by rintro e w' ⟨v,rfl,e1,hv⟩; exact ⟨v,rfl,hv,e1⟩)) fun vv81 W12 hh81=>?_
   obtain ⟨hv81,e12⟩:=hh81
   have x12:=Ext.tr xx1 e12
   obtain ⟨an80,cn80,hvn80,-⟩:=id (OwnN.rd hv81)
   subst hvn80
   refine QaD (ints .i64 ([1])) 3 1 62 rfl kj kj fun g82 W13 l82 e13 r82_13=>?_
   have x13:=Ext.tr x12 e13
   have b82:=qT x12.size l82
   have y11_12:=(Rely.Ext.trans (Rely.Ext.refl V1) e12)
   have y11_13:=(Rely.Ext.trans y11_12 e13)
   refine Qa9 (k:=.i64) (T:=3) (xs:=(text.drop (16*n)).take (((16*n)+16)-(16*n))) (ys:=[1]) (V:=V1) 8 (.tmp 61) (.tmp 62) 66 rfl kj kj (by decide) 63 rfl kj kj kj (hv81.ext e13) (QaM (xs:=[1]) (n:=1) rfl r82_13 (Qa0 r82_13) (show 1≤maxLen from by decide)) (by rw [List.length_take]; show _+1≤_; omega) y11_13 fun y2_ W14 f84 y14 l14=>?_
   have x14:=Ext.low x13 l14 xx1.size
   obtain ⟨pc,epc⟩:∃ z:List Int,z=(text.drop (16*n)).take (((16*n)+16)-(16*n))++[1]:=⟨_,rfl⟩
   have hpcb:Qai pc:=epc▸QaR (Qa4 (QaK htb _) _) (Qbz (by decide) (by decide))
   have hpcl:pc.length≤17:=by rw [epc,List.length_append,List.length_take]; show _+1≤17; omega
   have hap86:OwnN .i64 3 V1.heap.size pc y2_ W14:=epc▸f84
   obtain ⟨ap86,cp86,hvp86,-⟩:=id (OwnN.rd hap86)
   subst hvp86
   refine sg 1 kj <| sgN hK79 <| Qac <| sg 2 kj <| Qat (fun v W'=>(DigR W14.heap.size (lev (xs)+lev (pc)) (max (xs).length (pc).length+1)) v W'∧Ext W14 W') 151 #[.slice ax xs.length cx,.slice ap86 pc.length cp86] 66 rfl kj kj ((Qek (xs) (pc) _ _ _ _ _ (RdK.low ((hrs.ext e12).ext e13) hrs l14) (OwnN.rd hap86) (by first | omega | (rw [List.length_take]; omega)) (by first | omega | (rw [List.length_take]; omega)) hsb hpcb).mono (by rintro e w' ⟨v,rfl,e1,hv⟩; exact ⟨v,rfl,hv,e1⟩)) fun vv91 W15 hh91=>?_
   obtain ⟨hv91,e15⟩:=hh91
   have x15:=Ext.tr x14 e15
   obtain ⟨zs87,hzb87,hzv87,hzl87,hzo87⟩:=hv91
   obtain ⟨az87,cz87,rfl,-⟩:=id (OwnN.rd hzo87)
   refine Qat (fun v W'=>(fun v W=>∃ m,m≤zs87.length∧v=.slice az87 m cz87∧lev (zs87.take m)=lev zs87∧(m=0∨nth zs87 (m-1)≠0)) v W'∧Ext W15 W') 149 #[.slice az87 zs87.length cz87] 67 rfl kj kj ((QeQ zs87 _ _ _ _ (OwnN.rd hzo87) (by omega)).mono (by rintro e w' ⟨v,rfl,e1,hv⟩; exact ⟨v,rfl,hv,e1⟩)) fun vv93 W16 hh93=>?_
   obtain ⟨hv93,e16⟩:=hh93
   have x16:=Ext.tr x15 e16
   obtain ⟨m92,hm92,rfl,hv92,ht92⟩:=hv93
   have htl92:(zs87.take m92).length=m92:=by rw [List.length_take]; omega
   refine sg 1 kj ?_
   have r7_11:=(Qab r7_10_47 e11)
   have r7_12:=(Qab r7_11 e12)
   have r7_13:=(Qab r7_12 e13)
   have r7_14:=(Qbw l14 r7_13 (Qa0 r7_11))
   have r7_15:=(Qab r7_14 e15)
   have r7_16:=(Qab r7_15 e16)
   refine Qat (fun v W'=>(DigR W16.heap.size (lev (zs87.take m92)*lev rl) ((zs87.take m92).length+rl.length+1)) v W'∧Ext W16 W') 150 #[.slice az87 m92 cz87,.slice (some ⟨gr,0,none⟩) 16 cr] 69 rfl kj kj ((Qfk (zs87.take m92) rl _ _ _ _ _ (QbC (OwnN.rd (hzo87.ext e16)) m92 hm92) (Qdc hrl r7_16 hcr) (by first | omega | (rw [List.length_take]; omega)) (by omega) (Qa4 hzb87 m92) hrlb).mono (by rintro e w' ⟨v,rfl,e1,hv⟩; exact ⟨v,rfl,hv,e1⟩)) fun vv96 W17 hh96=>?_
   obtain ⟨hv96,e17⟩:=hh96
   have x17:=Ext.tr x16 e17
   obtain ⟨zs94,hzb94,hzv94,hzl94,hzo94⟩:=hv96
   obtain ⟨az94,cz94,rfl,-⟩:=id (OwnN.rd hzo94)
   refine Qat (fun v W'=>(fun v W=>∃ m,m≤zs94.length∧v=.slice az94 m cz94∧lev (zs94.take m)=lev zs94∧(m=0∨nth zs94 (m-1)≠0)) v W'∧Ext W17 W') 149 #[.slice az94 zs94.length cz94] 70 rfl kj kj ((QeQ zs94 _ _ _ _ (OwnN.rd hzo94) (by omega)).mono (by rintro e w' ⟨v,rfl,e1,hv⟩; exact ⟨v,rfl,hv,e1⟩)) fun vv98 W18 hh98=>?_
   obtain ⟨hv98,e18⟩:=hh98
   have x18:=Ext.tr x17 e18
   obtain ⟨m97,hm97,rfl,hv97,ht97⟩:=hv98
   have htl97:(zs94.take m97).length=m97:=by rw [List.length_take]; omega
   refine Qat (fun v W'=>(fun v W=>∃ zs:List Int,Qai zs∧lev zs%PP=lev (zs94.take m97)%PP∧lev zs<1361129467683753853853498429727072845824∧zs.length≤17∧RdK .i64 W.heap.size zs v W) v W'∧Ext W18 W') 148 #[.slice az94 m97 cz94] 71 rfl kj kj ((QhK (zs94.take m97) _ _ _ (QbC (OwnN.rd (hzo94.ext e18)) m97 hm97) (by rw [List.length_take]; omega) (Qa4 hzb94 m97) (QcF hm97 ht97)).mono (by rintro e w' ⟨v,rfl,e1,hv⟩; exact ⟨v,rfl,hv,e1⟩)) fun vv101 W19 hh101=>?_
   obtain ⟨hv101,e19⟩:=hh101
   have x19:=Ext.tr x18 e19
   obtain ⟨xs2,hsb2,hsm2,hslt2,hsl2,hrs2⟩:=hv101
   refine sg 1 kj <| Qae <| hK51 _ _ <| Qac <| sg 1 kj <| Qaa (.int .i64 (((16*n)+16:Nat):Int)) 48 rfl kj (Qad (u:=.int .i64 (IntKind.i64.wrap (((16*n:Nat):Int)+16))) kj (congrArg (Value.int .i64) (i64n _ _ (by omega) (by omega)))) <| sg 1 kj <| Qae ?_
   have hstep:lev xs2%PP=Qc8 (rOf key) text (n+1):=by
    unfold Qc8
    refine Qdv hsm ?_
    rw [hsm2]
    congr 1
    rw [hv97,hzv94,hv92,hzv87,hrOf,epc,hpart]
   have y10_12:=(Rely.Ext.trans e11 e12)
   have y10_13:=(Rely.Ext.trans y10_12 e13)
   have y10_14:=(Ext.low y10_13 l14 e11.size)
   have y10_15:=(Rely.Ext.trans y10_14 e15)
   have y10_16:=(Rely.Ext.trans y10_15 e16)
   have y10_17:=(Rely.Ext.trans y10_16 e17)
   have y10_18:=(Rely.Ext.trans y10_17 e18)
   have y10_19:=(Rely.Ext.trans y10_18 e19)
   repeat (first | with_reducible refine goX1 ?_ | with_reducible refine goX2 ?_ | with_reducible refine goX3 ?_)
   exact Qax ((n+1),xs2,vv101) ⟨kj,kj,kj,kj,kj,kj,trivial⟩ ⟨hsb2,hstep,hslt2,hsl2,(show 16*(n+1)<text.length+16 by omega),(RdK.here (RdK.ext hrs2 (Rely.Ext.refl W19))),y10_19,x19⟩ (by show text.length+16-16*(n+1)<text.length+16-16*n; omega)
 ·skip
  have heq46:text.length≤16*n:=by have:=of_decide_eq_false c50; omega
  have hnn:n=(text.length+15)/16:=by omega
  refine wp_exit <| hK45 _ _ <| wp_seq_k fun K102 hK102=>sgC fun K103 hK103=>sg 1 kj <| QaD (ints .i64 ([5])) 3 1 73 rfl kj kj fun g104 W12 l104 e12 r104_12=>?_
  have x12:=Ext.tr xx1 e12
  have b104:=qT xx1.size l104
  have h5l:([5]:List Int).length=1:=rfl
  have f106_12:=(hrs.ext e12)
  refine Qat (fun v W'=>(DigR W12.heap.size (lev (xs)+lev ([5])) (max (xs).length ([5]).length+1)) v W'∧Ext W12 W') 151 #[.slice ax xs.length cx,.slice (some ⟨g104,0,none⟩) 1 1] 74 rfl kj kj ((Qek (xs) ([5]) _ _ _ _ _ f106_12 (QaM (xs:=[5]) (n:=1) rfl r104_12 (Qa0 r104_12) (show 1≤maxLen from by decide)) (by first | omega | (rw [List.length_take]; omega)) (by decide) hsb (Qbz (by decide) (by decide))).mono (by rintro e w' ⟨v,rfl,e1,hv⟩; exact ⟨v,rfl,hv,e1⟩)) fun vv107 W13 hh107=>?_
  obtain ⟨hv107,e13⟩:=hh107
  have x13:=Ext.tr x12 e13
  obtain ⟨zs105,hzb105,hzv105,hzl105,hzo105⟩:=hv107
  obtain ⟨az105,cz105,rfl,-⟩:=id (OwnN.rd hzo105)
  refine sg 1 kj <| sgN hK103 <| wp_seq_k fun K108 hK108=>?_
  rcases (show (17≤zs105.length∧4≤nth zs105 16)∨(17≤zs105.length∧nth zs105 16<4)∨zs105.length<17 by omega) with hq | hq | hq
  ·skip
   obtain ⟨gm,cm,rm_,evm,lm,rowm,hcm⟩:=Qdo hzo105 (rfl:zs105.length=zs105.length) (by omega)
   rw [evm]
   have hys:=QkK hslt hzb105 hzv105 hq.1 hq.2
   have hzb16:=Qa5 hzb105 16
   have hysb:Qai (zs105.set 16 (nth zs105 16%4)):=QaY hzb105 _ (by omega) (by omega)
   have hysl:(zs105.set 16 (nth zs105 16%4)).length≤1000:=by rw [List.length_set]; omega
   refine Qac <| sg 2 kj <| Qaa (.bool true) 77 rfl kj (Qad (u:=.bool (decide (((zs105.length:Nat):Int)≥17))) kj (congrArg Value.bool (decide_eq_true (by omega)))) <| sg 2 kj <| Qaa (.pointer (some ⟨gm,16,none⟩)) 80 rfl kj (Qau 66 _ _ .i64 (16) gm zs105.length cm 3 rfl kj kj kj kj (by omega)) <| Qaa (.int .i64 (nth (zs105) 16)) 81 rfl kj (Qah 3 _ gm 16 3 _ (.int .i64 (nth (zs105) 16)) _ rowm rfl kj (QaT (Nat.lt_of_lt_of_eq (by omega) (rfl).symm)) kj) <| Qaa (.bool true) 82 rfl kj (Qad (u:=.bool (decide ((nth (zs105) 16)≥4))) kj (congrArg Value.bool (decide_eq_true (by omega)))) <| sg 1 kj <| sgN hK108 <| cond_true kj ?_
   refine sgC fun K110 hK110=>sg 2 kj <| Qaa (.pointer (some ⟨gm,16,none⟩)) 86 rfl kj (Qau 66 _ _ .i64 (16) gm zs105.length cm 3 rfl kj kj kj kj (by omega)) <| Qaa (.int .i64 (nth (zs105) 16)) 87 rfl kj (Qah 3 _ gm 16 3 _ (.int .i64 (nth (zs105) 16)) _ rowm rfl kj (QaT (Nat.lt_of_lt_of_eq (by omega) (rfl).symm)) kj) <| Qaa (.int .i64 (nth zs105 16%4)) 88 rfl kj (Qad (u:=.int .i64 (Int.tmod ((nth (zs105) 16)) (4))) kj (congrArg (Value.int .i64) (show Int.tmod (nth zs105 16) 4=nth zs105 16%4 from Int.tmod_eq_emod_of_nonneg (by omega)))) <| Qaa (.pointer (some ⟨gm,16,none⟩)) 89 rfl kj (Qau 66 _ _ .i64 (16) gm zs105.length cm 3 rfl kj kj kj kj (by omega)) <| Qal gm _ (ints .i64 ((zs105).set 16 (nth zs105 16%4))++rm_) 3 rowm rfl kj (Qbn 3 _ _ gm 16 3 _ _ _ rowm rfl kj kj kj (Nat.lt_of_lt_of_eq (by omega) (rfl).symm)) fun W14 p14 r109_14=>?_
   have x14:=Puts.ext p14 x13 (qT x12.size lm)
   refine sgN hK110 <| sgA kj <| hK102 _ _ <| sgC fun K111 hK111=>sg 1 kj <| Qaa (.slice (some ⟨g2,0+16,none⟩) (32-16) (32-16)) 92 rfl kj (QbA 23 _ _ _ 16 32 32 g2 0 5 rfl kj kj kj ⟨.i64,by kernel_rfl⟩ rfl (by omega) (by omega) (by omega)) ?_
   have r2_3:=(Qab r2_2 e3)
   have r2_4:=(Puts.row p4 r2_3 (Qag r2_2 lr))
   have r2_5:=(Puts.row p5 r2_4 (Qag r2_2 lr))
   have r2_6:=(Puts.row p6 r2_5 (Qag r2_2 lr))
   have r2_7:=(Puts.row p7 r2_6 (Qag r2_2 lr))
   have r2_8:=(Puts.row p8 r2_7 (Qag r2_2 lr))
   have r2_9:=(Puts.row p9 r2_8 (Qag r2_2 lr))
   have r2_10:=(Puts.row p10 r2_9 (Qag r2_2 lr))
   have r2_11:=(Qab r2_10 e11)
   have r2_12:=(Qab r2_11 e12)
   have r2_13:=(Qab r2_12 e13)
   refine Qat (fun v W'=>(OwnN .i64 3 W14.heap.size ((key.drop 16).take (32-16))) v W'∧Ext W14 W') 147 #[.slice (some ⟨g2,0+16,none⟩) (32-16) (32-16)] 93 rfl kj kj ((Qdz ((key.drop 16).take (32-16)) _ _ _ (Qea (l:=16) (h:=32) hkl (Puts.row p14 r2_13 (Qag r2_12 lm)) (by decide) (by decide) (by decide)) (by rw [List.length_take]; omega) (Qa4 (QaK hkb 16) _)).mono (by rintro e w' ⟨v,rfl,e1,hv⟩; exact ⟨v,rfl,hv,e1⟩)) fun vv113 W15 hh113=>?_
   obtain ⟨hv113,e15⟩:=hh113
   have x15:=Ext.tr x14 e15
   obtain ⟨an112,cn112,hvn112,-⟩:=id (OwnN.rd hv113)
   subst hvn112
   refine Qat (fun v W'=>(DigR W15.heap.size (lev ((zs105).set 16 (nth zs105 16%4))+lev ((key.drop 16).take (32-16))) (max ((zs105).set 16 (nth zs105 16%4)).length ((key.drop 16).take (32-16)).length+1)) v W'∧Ext W15 W') 151 #[.slice (some ⟨gm,0,none⟩) zs105.length cm,.slice an112 (((key.drop 16).take (32-16)).length) cn112] 94 rfl kj kj ((Qek ((zs105).set 16 (nth zs105 16%4)) ((key.drop 16).take (32-16)) _ _ _ _ _ (Qdc ((List.length_set ..).trans (rfl)) (Qab r109_14 e15) hcm) (OwnN.rd hv113) (by omega) (by first | omega | (rw [List.length_take]; omega)) hysb (Qa4 (QaK hkb 16) _)).mono (by rintro e w' ⟨v,rfl,e1,hv⟩; exact ⟨v,rfl,hv,e1⟩)) fun vv115 W16 hh115=>?_
   obtain ⟨hv115,e16⟩:=hh115
   have x16:=Ext.tr x15 e16
   obtain ⟨zs114,hzb114,hzv114,hzl114,hzo114⟩:=hv115
   obtain ⟨az114,cz114,rfl,-⟩:=id (OwnN.rd hzo114)
   refine sg 1 kj <| sgN hK111 <| sgC fun K116 hK116=>Qas (ints .u8 (List.replicate 16 0)) 157 14 rfl kj kj fun g117 W17 l117 e17 r117_17=>?_
   have x17:=Ext.tr x16 e17
   refine sgN hK116 <| wp_seq_k fun K118 hK118=>sgB kj <| wp_block ?_
   have hal:lev zs114=Qdj (rOf key) text+sOf key:=by rw [hzv114,hys,hsm,hnn]; rfl
   refine QaB (fun (s2:Nat)=>[(4,.pointer (some ⟨g3,0,none⟩)),(13,.slice az114 zs114.length cz114),(14,.pointer (some ⟨g117,0,none⟩)),(15,.int .i64 ((s2:Nat):Int))]) (fun (s2:Nat) W=>(s2≤16)∧(W.heap[g117]? = some (.cells (ints .u8 (Qbo (by16 (lev zs114)) 16 s2)) 157))∧(Qa2 [g117] W17 W)∧(Ext w W)) (fun (s2:Nat)=>16-s2) 0 ⟨kj,kj,kj,kj,trivial⟩ ⟨(Nat.zero_le _),(QaI r117_17 (Qb1 _ 16)),(Qa2.refl [g117] W17),x17⟩ fun s2 X2 V2 hI2=>?_
   obtain ⟨i,hs2⟩:∃ z,z=s2:=⟨_,rfl⟩
   subst hs2
   obtain ⟨hi,q117_2,kk2,xx2⟩:=hI2
   replace hi:i≤16:=hi
   replace q117_2:V2.heap[g117]? = some (.cells (ints .u8 (Qbo (by16 (lev zs114)) 16 i)) 157):=q117_2
   replace kk2:Qa2 [g117] W17 V2:=kk2
   replace xx2:Ext w V2:=xx2
   have q18:=kk2
   refine wp_seq_k fun K121 hK121=>wp_seq_k fun K122 hK122=>?_
   rcases (show (i<16∧i<zs114.length)∨(i<16∧zs114.length≤i)∨i=16 by omega) with hq | hq | hq
   ·skip
    have hi16:i<16:=hq.1
    have hil:i<zs114.length:=hq.2
    obtain ⟨gro123,oro123,haro123,-,hlro123,hcro123⟩:=Qb0 (OwnN.rd (OwnN.keepsL (hzo114.ext e17) q18 (Qe9 (QeV hzo114 l117) QfM))) (by omega)
    refine Qac <| sg 1 kj <| Qaa (.bool true) 96 rfl kj (Qad (u:=.bool (decide (((i:Nat):Int)<16))) kj (congrArg Value.bool (decide_eq_true (by omega)))) <| sg 4 kj <| Qaa (.bool true) 101 rfl kj (Qad (u:=.bool (decide (((i:Nat):Int)<((zs114.length:Nat):Int)))) kj (congrArg Value.bool (decide_eq_true (by omega)))) <| sg 1 kj <| sgN hK122 <| cond_true kj <| wp_skip <| hK121 _ _ ?_
    refine wp_seq_k fun K125 hK125=>wp_block <| Qac <| sg 3 kj <| Qaa (.pointer (some ⟨gro123,oro123+i,none⟩)) 108 rfl kj (Qaw 66 _ _ .i64 i gro123 oro123 zs114.length cz114 3 az114 _ haro123 rfl rfl kj kj kj kj (Nat.lt_of_lt_of_eq (show i<(zs114).length by omega) (rfl:(zs114).length=(zs114).length).symm)) <| Qaa (.int .i64 (nth (zs114) (i))) 109 rfl kj (Qap 3 _ _ (.int .i64 (nth (zs114) (i))) (hcro123 i (Nat.lt_of_lt_of_eq (show i<(zs114).length by omega) (rfl:(zs114).length=(zs114).length).symm)) rfl kj kj) <| Qaa (.int .u8 (nth (by16 (lev zs114)) i)) 110 rfl kj (Qad (u:=.int .u8 (IntKind.u8.wrap (nth (zs114) (i)))) kj (congrArg (Value.int .u8) (QeE hzb114 hi16))) <| Qaa (.pointer (some ⟨g117,i,none⟩)) 111 rfl kj (QaG _ _ _ .i64 (i) _ 16 5 rfl kj kj kj kj (by omega)) <| Qal g117 _ (ints .u8 ((Qbo (by16 (lev zs114)) 16 i).set i (nth (by16 (lev zs114)) i))) 157 q117_2 rfl kj (Qa1 5 _ _ g117 i 157 _ _ q117_2 rfl kj kj kj (Nat.lt_of_lt_of_eq (by omega) (Qb5 _ 16 _ (Qa6 _) hi).symm)) fun W19 p19 r117_19=>?_
    have x19:=Puts.ext p19 xx2 (qT x16.size l117)
    refine Qae <| hK125 _ _ <| Qac <| sg 1 kj <| Qaa (.int .i64 ((i+1:Nat):Int)) 104 rfl kj (Qad (u:=.int .i64 (IntKind.i64.wrap (((i:Nat):Int)+1))) kj (congrArg (Value.int .i64) (i64n _ _ (by omega) (by omega)))) <| sg 1 kj <| Qae ?_
    repeat (first | with_reducible refine goX1 ?_ | with_reducible refine goX2 ?_ | with_reducible refine goX3 ?_)
    exact Qax (i+1) ⟨kj,kj,kj,kj,trivial⟩ ⟨(show i+1≤16 by omega),(QaI r117_19 (Qb2 _ 16 i (Qa6 _) hi16)),(Qa2.puts q18 p19 (.inl (by simp))),x19⟩ (by show 16-(i+1)<16-i; omega)
   ·skip
    have r117_18_126:V2.heap[g117]? = some (.cells (ints .u8 (by16 (lev zs114))) 157):=QaI q117_2 (QcX hzb114 hi (.inr hq.2))
    refine Qac <| sg 1 kj <| Qaa (.bool true) 96 rfl kj (Qad (u:=.bool (decide (((i:Nat):Int)<16))) kj (congrArg Value.bool (decide_eq_true (by omega)))) <| sg 4 kj <| Qaa (.bool false) 101 rfl kj (Qad (u:=.bool (decide (((i:Nat):Int)<((zs114.length:Nat):Int)))) kj (congrArg Value.bool (decide_eq_false (by omega)))) <| sg 1 kj <| sgN hK122 <| cond_false kj <| wp_exit <| hK118 _ _ ?_
    refine sgC fun K127 hK127=>Qaa (.agg (ints .u8 (by16 (lev zs114)))) 112 rfl kj (Qao 157 _ g117 157 _ _ r117_18_126 rfl kj kj (isz (n:=16) kj ((Qaf _ _).trans (Qa6 _)))) ?_
    have r3_3:=(Qab r3_2 e3)
    have r3_4:=(Puts.row p4 r3_3 (Qag r3_2 lr))
    have r3_5:=(Puts.row p5 r3_4 (Qag r3_2 lr))
    have r3_6:=(Puts.row p6 r3_5 (Qag r3_2 lr))
    have r3_7:=(Puts.row p7 r3_6 (Qag r3_2 lr))
    have r3_8:=(Puts.row p8 r3_7 (Qag r3_2 lr))
    have r3_9:=(Puts.row p9 r3_8 (Qag r3_2 lr))
    have r3_10:=(Puts.row p10 r3_9 (Qag r3_2 lr))
    have r3_11:=(Qab r3_10 e11)
    have r3_12:=(Qab r3_11 e12)
    have r3_13:=(Qab r3_12 e13)
    have r3_14:=(Puts.row p14 r3_13 (Qag r3_12 lm))
    have r3_15:=(Qab r3_14 e15)
    have r3_16:=(Qab r3_15 e16)
    have r3_17:=(Qab r3_16 e17)
    have r3_18:=(Qa2.row q18 r3_17 (QaU (Qag r3_16 l117) Qbt))
    refine Qal g3 _ (ints .u8 (by16 (lev zs114))) 157 r3_18 rfl kj (Qav 157 _ _ g3 157 _ _ r3_18 rfl kj kj (isz (n:=16) kj ((Qaf _ _).trans (Qa6 _))) (eqsz (n:=16) ((Qaf _ _).trans (List.length_replicate (n:=16))) ((Qaf _ _).trans (Qa6 _))) (QaC _ _)) fun W19 p19 r3_19=>?_
    have x19:=Puts.ext p19 xx2 b3
    refine sgN hK127 <| wp_ret ?_
    repeat (first | with_reducible refine goR1 ?_ | with_reducible refine goR2 ?_)
    exact (show bodyPost _ _ _ .ret _ _ from ret1 (.agg (ints .u8 (by16 (lev zs114)))) rfl (Qbq g3 157 _ r3_19 kj kj (isz (n:=16) kj ((Qaf _ _).trans (Qa6 _)))) ⟨by unfold tagV; rw [hal],x19⟩)
   ·skip
    have r117_18_128:V2.heap[g117]? = some (.cells (ints .u8 (by16 (lev zs114))) 157):=QaI q117_2 (QcX hzb114 hi (.inl hq))
    refine Qac <| sg 1 kj <| Qaa (.bool false) 96 rfl kj (Qad (u:=.bool (decide (((i:Nat):Int)<16))) kj (congrArg Value.bool (decide_eq_false (by omega)))) <| sg 6 kj <| sgN hK122 <| cond_false kj <| wp_exit <| hK118 _ _ <| sgC fun K129 hK129=>Qaa (.agg (ints .u8 (by16 (lev zs114)))) 112 rfl kj (Qao 157 _ g117 157 _ _ r117_18_128 rfl kj kj (isz (n:=16) kj ((Qaf _ _).trans (Qa6 _)))) ?_
    have r3_3:=(Qab r3_2 e3)
    have r3_4:=(Puts.row p4 r3_3 (Qag r3_2 lr))
    have r3_5:=(Puts.row p5 r3_4 (Qag r3_2 lr))
    have r3_6:=(Puts.row p6 r3_5 (Qag r3_2 lr))
    have r3_7:=(Puts.row p7 r3_6 (Qag r3_2 lr))
    have r3_8:=(Puts.row p8 r3_7 (Qag r3_2 lr))
    have r3_9:=(Puts.row p9 r3_8 (Qag r3_2 lr))
    have r3_10:=(Puts.row p10 r3_9 (Qag r3_2 lr))
    have r3_11:=(Qab r3_10 e11)
    have r3_12:=(Qab r3_11 e12)
    have r3_13:=(Qab r3_12 e13)
    have r3_14:=(Puts.row p14 r3_13 (Qag r3_12 lm))
    have r3_15:=(Qab r3_14 e15)
    have r3_16:=(Qab r3_15 e16)
    have r3_17:=(Qab r3_16 e17)
    have r3_18:=(Qa2.row q18 r3_17 (QaU (Qag r3_16 l117) Qbt))
    refine Qal g3 _ (ints .u8 (by16 (lev zs114))) 157 r3_18 rfl kj (Qav 157 _ _ g3 157 _ _ r3_18 rfl kj kj (isz (n:=16) kj ((Qaf _ _).trans (Qa6 _))) (eqsz (n:=16) ((Qaf _ _).trans (List.length_replicate (n:=16))) ((Qaf _ _).trans (Qa6 _))) (QaC _ _)) fun W19 p19 r3_19=>?_
    have x19:=Puts.ext p19 xx2 b3
    refine sgN hK129 <| wp_ret ?_
    repeat (first | with_reducible refine goR1 ?_ | with_reducible refine goR2 ?_)
    exact (show bodyPost _ _ _ .ret _ _ from ret1 (.agg (ints .u8 (by16 (lev zs114)))) rfl (Qbq g3 157 _ r3_19 kj kj (isz (n:=16) kj ((Qaf _ _).trans (Qa6 _)))) ⟨by unfold tagV; rw [hal],x19⟩)
  ·skip
   obtain ⟨gm,cm,rm_,evm,lm,rowm,hcm⟩:=Qdo hzo105 (rfl:zs105.length=zs105.length) (by omega)
   rw [evm]
   have hys:=Qj0 (Qbh hsb) hzb105 hzv105 hslt (.inr hq.2)
   refine Qac <| sg 2 kj <| Qaa (.bool true) 77 rfl kj (Qad (u:=.bool (decide (((zs105.length:Nat):Int)≥17))) kj (congrArg Value.bool (decide_eq_true (by omega)))) <| sg 2 kj <| Qaa (.pointer (some ⟨gm,16,none⟩)) 80 rfl kj (Qau 66 _ _ .i64 (16) gm zs105.length cm 3 rfl kj kj kj kj (by omega)) <| Qaa (.int .i64 (nth (zs105) 16)) 81 rfl kj (Qah 3 _ gm 16 3 _ (.int .i64 (nth (zs105) 16)) _ rowm rfl kj (QaT (Nat.lt_of_lt_of_eq (by omega) (rfl).symm)) kj) <| Qaa (.bool false) 82 rfl kj (Qad (u:=.bool (decide ((nth (zs105) 16)≥4))) kj (congrArg Value.bool (decide_eq_false (by omega)))) <| sg 1 kj <| sgN hK108 <| cond_false kj ?_
   refine wp_skip <| hK102 _ _ <| sgC fun K131 hK131=>sg 1 kj <| Qaa (.slice (some ⟨g2,0+16,none⟩) (32-16) (32-16)) 92 rfl kj (QbA 23 _ _ _ 16 32 32 g2 0 5 rfl kj kj kj ⟨.i64,by kernel_rfl⟩ rfl (by omega) (by omega) (by omega)) ?_
   have r2_3:=(Qab r2_2 e3)
   have r2_4:=(Puts.row p4 r2_3 (Qag r2_2 lr))
   have r2_5:=(Puts.row p5 r2_4 (Qag r2_2 lr))
   have r2_6:=(Puts.row p6 r2_5 (Qag r2_2 lr))
   have r2_7:=(Puts.row p7 r2_6 (Qag r2_2 lr))
   have r2_8:=(Puts.row p8 r2_7 (Qag r2_2 lr))
   have r2_9:=(Puts.row p9 r2_8 (Qag r2_2 lr))
   have r2_10:=(Puts.row p10 r2_9 (Qag r2_2 lr))
   have r2_11:=(Qab r2_10 e11)
   have r2_12:=(Qab r2_11 e12)
   have r2_13:=(Qab r2_12 e13)
   refine Qat (fun v W'=>(OwnN .i64 3 W13.heap.size ((key.drop 16).take (32-16))) v W'∧Ext W13 W') 147 #[.slice (some ⟨g2,0+16,none⟩) (32-16) (32-16)] 93 rfl kj kj ((Qdz ((key.drop 16).take (32-16)) _ _ _ (Qea (l:=16) (h:=32) hkl r2_13 (by decide) (by decide) (by decide)) (by rw [List.length_take]; omega) (Qa4 (QaK hkb 16) _)).mono (by rintro e w' ⟨v,rfl,e1,hv⟩; exact ⟨v,rfl,hv,e1⟩)) fun vv133 W14 hh133=>?_
   obtain ⟨hv133,e14⟩:=hh133
   have x14:=Ext.tr x13 e14
   obtain ⟨an132,cn132,hvn132,-⟩:=id (OwnN.rd hv133)
   subst hvn132
   refine Qat (fun v W'=>(DigR W14.heap.size (lev (xs)+lev ((key.drop 16).take (32-16))) (max (xs).length ((key.drop 16).take (32-16)).length+1)) v W'∧Ext W14 W') 151 #[.slice ax xs.length cx,.slice an132 (((key.drop 16).take (32-16)).length) cn132] 94 rfl kj kj ((Qek (xs) ((key.drop 16).take (32-16)) _ _ _ _ _ ((f106_12.ext e13).ext e14) (OwnN.rd hv133) (by first | omega | (rw [List.length_take]; omega)) (by first | omega | (rw [List.length_take]; omega)) hsb (Qa4 (QaK hkb 16) _)).mono (by rintro e w' ⟨v,rfl,e1,hv⟩; exact ⟨v,rfl,hv,e1⟩)) fun vv137 W15 hh137=>?_
   obtain ⟨hv137,e15⟩:=hh137
   have x15:=Ext.tr x14 e15
   obtain ⟨zs134,hzb134,hzv134,hzl134,hzo134⟩:=hv137
   obtain ⟨az134,cz134,rfl,-⟩:=id (OwnN.rd hzo134)
   refine sg 1 kj <| sgN hK131 <| sgC fun K138 hK138=>Qas (ints .u8 (List.replicate 16 0)) 157 14 rfl kj kj fun g139 W16 l139 e16 r139_16=>?_
   have x16:=Ext.tr x15 e16
   refine sgN hK138 <| wp_seq_k fun K140 hK140=>sgB kj <| wp_block ?_
   have hal:lev zs134=Qdj (rOf key) text+sOf key:=by rw [hzv134,hys,hsm,hnn]; rfl
   refine QaB (fun (s3:Nat)=>[(4,.pointer (some ⟨g3,0,none⟩)),(13,.slice az134 zs134.length cz134),(14,.pointer (some ⟨g139,0,none⟩)),(15,.int .i64 ((s3:Nat):Int))]) (fun (s3:Nat) W=>(s3≤16)∧(W.heap[g139]? = some (.cells (ints .u8 (Qbo (by16 (lev zs134)) 16 s3)) 157))∧(Qa2 [g139] W16 W)∧(Ext w W)) (fun (s3:Nat)=>16-s3) 0 ⟨kj,kj,kj,kj,trivial⟩ ⟨(Nat.zero_le _),(QaI r139_16 (Qb1 _ 16)),(Qa2.refl [g139] W16),x16⟩ fun s3 X3 V3 hI3=>?_
   obtain ⟨i,hs3⟩:∃ z,z=s3:=⟨_,rfl⟩
   subst hs3
   obtain ⟨hi,q139_3,kk3,xx3⟩:=hI3
   replace hi:i≤16:=hi
   replace q139_3:V3.heap[g139]? = some (.cells (ints .u8 (Qbo (by16 (lev zs134)) 16 i)) 157):=q139_3
   replace kk3:Qa2 [g139] W16 V3:=kk3
   replace xx3:Ext w V3:=xx3
   have q17:=kk3
   refine wp_seq_k fun K143 hK143=>wp_seq_k fun K144 hK144=>?_
   rcases (show (i<16∧i<zs134.length)∨(i<16∧zs134.length≤i)∨i=16 by omega) with hq | hq | hq
   ·skip
    have hi16:i<16:=hq.1
    have hil:i<zs134.length:=hq.2
    obtain ⟨gro145,oro145,haro145,-,hlro145,hcro145⟩:=Qb0 (OwnN.rd (OwnN.keepsL (hzo134.ext e16) q17 (Qe9 (QeV hzo134 l139) QfM))) (by omega)
    refine Qac <| sg 1 kj <| Qaa (.bool true) 96 rfl kj (Qad (u:=.bool (decide (((i:Nat):Int)<16))) kj (congrArg Value.bool (decide_eq_true (by omega)))) <| sg 4 kj <| Qaa (.bool true) 101 rfl kj (Qad (u:=.bool (decide (((i:Nat):Int)<((zs134.length:Nat):Int)))) kj (congrArg Value.bool (decide_eq_true (by omega)))) <| sg 1 kj <| sgN hK144 <| cond_true kj <| wp_skip <| hK143 _ _ ?_
    refine wp_seq_k fun K147 hK147=>wp_block <| Qac <| sg 3 kj <| Qaa (.pointer (some ⟨gro145,oro145+i,none⟩)) 108 rfl kj (Qaw 66 _ _ .i64 i gro145 oro145 zs134.length cz134 3 az134 _ haro145 rfl rfl kj kj kj kj (Nat.lt_of_lt_of_eq (show i<(zs134).length by omega) (rfl:(zs134).length=(zs134).length).symm)) <| Qaa (.int .i64 (nth (zs134) (i))) 109 rfl kj (Qap 3 _ _ (.int .i64 (nth (zs134) (i))) (hcro145 i (Nat.lt_of_lt_of_eq (show i<(zs134).length by omega) (rfl:(zs134).length=(zs134).length).symm)) rfl kj kj) <| Qaa (.int .u8 (nth (by16 (lev zs134)) i)) 110 rfl kj (Qad (u:=.int .u8 (IntKind.u8.wrap (nth (zs134) (i)))) kj (congrArg (Value.int .u8) (QeE hzb134 hi16))) <| Qaa (.pointer (some ⟨g139,i,none⟩)) 111 rfl kj (QaG _ _ _ .i64 (i) _ 16 5 rfl kj kj kj kj (by omega)) <| Qal g139 _ (ints .u8 ((Qbo (by16 (lev zs134)) 16 i).set i (nth (by16 (lev zs134)) i))) 157 q139_3 rfl kj (Qa1 5 _ _ g139 i 157 _ _ q139_3 rfl kj kj kj (Nat.lt_of_lt_of_eq (by omega) (Qb5 _ 16 _ (Qa6 _) hi).symm)) fun W18 p18 r139_18=>?_
    have x18:=Puts.ext p18 xx3 (qT x15.size l139)
    refine Qae <| hK147 _ _ <| Qac <| sg 1 kj <| Qaa (.int .i64 ((i+1:Nat):Int)) 104 rfl kj (Qad (u:=.int .i64 (IntKind.i64.wrap (((i:Nat):Int)+1))) kj (congrArg (Value.int .i64) (i64n _ _ (by omega) (by omega)))) <| sg 1 kj <| Qae ?_
    repeat (first | with_reducible refine goX1 ?_ | with_reducible refine goX2 ?_ | with_reducible refine goX3 ?_)
    exact Qax (i+1) ⟨kj,kj,kj,kj,trivial⟩ ⟨(show i+1≤16 by omega),(QaI r139_18 (Qb2 _ 16 i (Qa6 _) hi16)),(Qa2.puts q17 p18 (.inl (by simp))),x18⟩ (by show 16-(i+1)<16-i; omega)
   ·skip
    have r139_17_148:V3.heap[g139]? = some (.cells (ints .u8 (by16 (lev zs134))) 157):=QaI q139_3 (QcX hzb134 hi (.inr hq.2))
    refine Qac <| sg 1 kj <| Qaa (.bool true) 96 rfl kj (Qad (u:=.bool (decide (((i:Nat):Int)<16))) kj (congrArg Value.bool (decide_eq_true (by omega)))) <| sg 4 kj <| Qaa (.bool false) 101 rfl kj (Qad (u:=.bool (decide (((i:Nat):Int)<((zs134.length:Nat):Int)))) kj (congrArg Value.bool (decide_eq_false (by omega)))) <| sg 1 kj <| sgN hK144 <| cond_false kj <| wp_exit <| hK140 _ _ ?_
    refine sgC fun K149 hK149=>Qaa (.agg (ints .u8 (by16 (lev zs134)))) 112 rfl kj (Qao 157 _ g139 157 _ _ r139_17_148 rfl kj kj (isz (n:=16) kj ((Qaf _ _).trans (Qa6 _)))) ?_
    have r3_3:=(Qab r3_2 e3)
    have r3_4:=(Puts.row p4 r3_3 (Qag r3_2 lr))
    have r3_5:=(Puts.row p5 r3_4 (Qag r3_2 lr))
    have r3_6:=(Puts.row p6 r3_5 (Qag r3_2 lr))
    have r3_7:=(Puts.row p7 r3_6 (Qag r3_2 lr))
    have r3_8:=(Puts.row p8 r3_7 (Qag r3_2 lr))
    have r3_9:=(Puts.row p9 r3_8 (Qag r3_2 lr))
    have r3_10:=(Puts.row p10 r3_9 (Qag r3_2 lr))
    have r3_11:=(Qab r3_10 e11)
    have r3_12:=(Qab r3_11 e12)
    have r3_13:=(Qab r3_12 e13)
    have r3_14:=(Qab r3_13 e14)
    have r3_15:=(Qab r3_14 e15)
    have r3_16:=(Qab r3_15 e16)
    have r3_17:=(Qa2.row q17 r3_16 (QaU (Qag r3_15 l139) Qbt))
    refine Qal g3 _ (ints .u8 (by16 (lev zs134))) 157 r3_17 rfl kj (Qav 157 _ _ g3 157 _ _ r3_17 rfl kj kj (isz (n:=16) kj ((Qaf _ _).trans (Qa6 _))) (eqsz (n:=16) ((Qaf _ _).trans (List.length_replicate (n:=16))) ((Qaf _ _).trans (Qa6 _))) (QaC _ _)) fun W18 p18 r3_18=>?_
    have x18:=Puts.ext p18 xx3 b3
    refine sgN hK149 <| wp_ret ?_
    repeat (first | with_reducible refine goR1 ?_ | with_reducible refine goR2 ?_)
    exact (show bodyPost _ _ _ .ret _ _ from ret1 (.agg (ints .u8 (by16 (lev zs134)))) rfl (Qbq g3 157 _ r3_18 kj kj (isz (n:=16) kj ((Qaf _ _).trans (Qa6 _)))) ⟨by unfold tagV; rw [hal],x18⟩)
   ·skip
    have r139_17_150:V3.heap[g139]? = some (.cells (ints .u8 (by16 (lev zs134))) 157):=QaI q139_3 (QcX hzb134 hi (.inl hq))
    refine Qac <| sg 1 kj <| Qaa (.bool false) 96 rfl kj (Qad (u:=.bool (decide (((i:Nat):Int)<16))) kj (congrArg Value.bool (decide_eq_false (by omega)))) <| sg 6 kj <| sgN hK144 <| cond_false kj <| wp_exit <| hK140 _ _ <| sgC fun K151 hK151=>Qaa (.agg (ints .u8 (by16 (lev zs134)))) 112 rfl kj (Qao 157 _ g139 157 _ _ r139_17_150 rfl kj kj (isz (n:=16) kj ((Qaf _ _).trans (Qa6 _)))) ?_
    have r3_3:=(Qab r3_2 e3)
    have r3_4:=(Puts.row p4 r3_3 (Qag r3_2 lr))
    have r3_5:=(Puts.row p5 r3_4 (Qag r3_2 lr))
    have r3_6:=(Puts.row p6 r3_5 (Qag r3_2 lr))
    have r3_7:=(Puts.row p7 r3_6 (Qag r3_2 lr))
    have r3_8:=(Puts.row p8 r3_7 (Qag r3_2 lr))
    have r3_9:=(Puts.row p9 r3_8 (Qag r3_2 lr))
    have r3_10:=(Puts.row p10 r3_9 (Qag r3_2 lr))
    have r3_11:=(Qab r3_10 e11)
    have r3_12:=(Qab r3_11 e12)
    have r3_13:=(Qab r3_12 e13)
    have r3_14:=(Qab r3_13 e14)
    have r3_15:=(Qab r3_14 e15)
    have r3_16:=(Qab r3_15 e16)
    have r3_17:=(Qa2.row q17 r3_16 (QaU (Qag r3_15 l139) Qbt))
    refine Qal g3 _ (ints .u8 (by16 (lev zs134))) 157 r3_17 rfl kj (Qav 157 _ _ g3 157 _ _ r3_17 rfl kj kj (isz (n:=16) kj ((Qaf _ _).trans (Qa6 _))) (eqsz (n:=16) ((Qaf _ _).trans (List.length_replicate (n:=16))) ((Qaf _ _).trans (Qa6 _))) (QaC _ _)) fun W18 p18 r3_18=>?_
    have x18:=Puts.ext p18 xx3 b3
    refine sgN hK151 <| wp_ret ?_
    repeat (first | with_reducible refine goR1 ?_ | with_reducible refine goR2 ?_)
    exact (show bodyPost _ _ _ .ret _ _ from ret1 (.agg (ints .u8 (by16 (lev zs134)))) rfl (Qbq g3 157 _ r3_18 kj kj (isz (n:=16) kj ((Qaf _ _).trans (Qa6 _)))) ⟨by unfold tagV; rw [hal],x18⟩)
  ·skip
   have hys:=Qj0 (Qbh hsb) hzb105 hzv105 hslt (.inl hq)
   refine Qac <| sg 2 kj <| Qaa (.bool false) 77 rfl kj (Qad (u:=.bool (decide (((zs105.length:Nat):Int)≥17))) kj (congrArg Value.bool (decide_eq_false (by omega)))) <| sg 6 kj <| sgN hK108 <| cond_false kj <| wp_skip <| hK102 _ _ <| sgC fun K152 hK152=>sg 1 kj ?_
   refine Qaa (.slice (some ⟨g2,0+16,none⟩) (32-16) (32-16)) 92 rfl kj (QbA 23 _ _ _ 16 32 32 g2 0 5 rfl kj kj kj ⟨.i64,by kernel_rfl⟩ rfl (by omega) (by omega) (by omega)) ?_
   have r2_3:=(Qab r2_2 e3)
   have r2_4:=(Puts.row p4 r2_3 (Qag r2_2 lr))
   have r2_5:=(Puts.row p5 r2_4 (Qag r2_2 lr))
   have r2_6:=(Puts.row p6 r2_5 (Qag r2_2 lr))
   have r2_7:=(Puts.row p7 r2_6 (Qag r2_2 lr))
   have r2_8:=(Puts.row p8 r2_7 (Qag r2_2 lr))
   have r2_9:=(Puts.row p9 r2_8 (Qag r2_2 lr))
   have r2_10:=(Puts.row p10 r2_9 (Qag r2_2 lr))
   have r2_11:=(Qab r2_10 e11)
   have r2_12:=(Qab r2_11 e12)
   have r2_13:=(Qab r2_12 e13)
   refine Qat (fun v W'=>(OwnN .i64 3 W13.heap.size ((key.drop 16).take (32-16))) v W'∧Ext W13 W') 147 #[.slice (some ⟨g2,0+16,none⟩) (32-16) (32-16)] 93 rfl kj kj ((Qdz ((key.drop 16).take (32-16)) _ _ _ (Qea (l:=16) (h:=32) hkl r2_13 (by decide) (by decide) (by decide)) (by rw [List.length_take]; omega) (Qa4 (QaK hkb 16) _)).mono (by rintro e w' ⟨v,rfl,e1,hv⟩; exact ⟨v,rfl,hv,e1⟩)) fun vv154 W14 hh154=>?_
   obtain ⟨hv154,e14⟩:=hh154
   have x14:=Ext.tr x13 e14
   obtain ⟨an153,cn153,hvn153,-⟩:=id (OwnN.rd hv154)
   subst hvn153
   refine Qat (fun v W'=>(DigR W14.heap.size (lev (xs)+lev ((key.drop 16).take (32-16))) (max (xs).length ((key.drop 16).take (32-16)).length+1)) v W'∧Ext W14 W') 151 #[.slice ax xs.length cx,.slice an153 (((key.drop 16).take (32-16)).length) cn153] 94 rfl kj kj ((Qek (xs) ((key.drop 16).take (32-16)) _ _ _ _ _ ((f106_12.ext e13).ext e14) (OwnN.rd hv154) (by first | omega | (rw [List.length_take]; omega)) (by first | omega | (rw [List.length_take]; omega)) hsb (Qa4 (QaK hkb 16) _)).mono (by rintro e w' ⟨v,rfl,e1,hv⟩; exact ⟨v,rfl,hv,e1⟩)) fun vv158 W15 hh158=>?_
   obtain ⟨hv158,e15⟩:=hh158
   have x15:=Ext.tr x14 e15
   obtain ⟨zs155,hzb155,hzv155,hzl155,hzo155⟩:=hv158
   obtain ⟨az155,cz155,rfl,-⟩:=id (OwnN.rd hzo155)
   refine sg 1 kj <| sgN hK152 <| sgC fun K159 hK159=>Qas (ints .u8 (List.replicate 16 0)) 157 14 rfl kj kj fun g160 W16 l160 e16 r160_16=>?_
   have x16:=Ext.tr x15 e16
   refine sgN hK159 <| wp_seq_k fun K161 hK161=>sgB kj <| wp_block ?_
   have hal:lev zs155=Qdj (rOf key) text+sOf key:=by rw [hzv155,hys,hsm,hnn]; rfl
   refine QaB (fun (s4:Nat)=>[(4,.pointer (some ⟨g3,0,none⟩)),(13,.slice az155 zs155.length cz155),(14,.pointer (some ⟨g160,0,none⟩)),(15,.int .i64 ((s4:Nat):Int))]) (fun (s4:Nat) W=>(s4≤16)∧(W.heap[g160]? = some (.cells (ints .u8 (Qbo (by16 (lev zs155)) 16 s4)) 157))∧(Qa2 [g160] W16 W)∧(Ext w W)) (fun (s4:Nat)=>16-s4) 0 ⟨kj,kj,kj,kj,trivial⟩ ⟨(Nat.zero_le _),(QaI r160_16 (Qb1 _ 16)),(Qa2.refl [g160] W16),x16⟩ fun s4 X4 V4 hI4=>?_
   obtain ⟨i,hs4⟩:∃ z,z=s4:=⟨_,rfl⟩
   subst hs4
   obtain ⟨hi,q160_4,kk4,xx4⟩:=hI4
   replace hi:i≤16:=hi
   replace q160_4:V4.heap[g160]? = some (.cells (ints .u8 (Qbo (by16 (lev zs155)) 16 i)) 157):=q160_4
   replace kk4:Qa2 [g160] W16 V4:=kk4
   replace xx4:Ext w V4:=xx4
   have q17:=kk4
   refine wp_seq_k fun K164 hK164=>wp_seq_k fun K165 hK165=>?_
   rcases (show (i<16∧i<zs155.length)∨(i<16∧zs155.length≤i)∨i=16 by omega) with hq | hq | hq
   ·skip
    have hi16:i<16:=hq.1
    have hil:i<zs155.length:=hq.2
    obtain ⟨gro166,oro166,haro166,-,hlro166,hcro166⟩:=Qb0 (OwnN.rd (OwnN.keepsL (hzo155.ext e16) q17 (Qe9 (QeV hzo155 l160) QfM))) (by omega)
    refine Qac <| sg 1 kj <| Qaa (.bool true) 96 rfl kj (Qad (u:=.bool (decide (((i:Nat):Int)<16))) kj (congrArg Value.bool (decide_eq_true (by omega)))) <| sg 4 kj <| Qaa (.bool true) 101 rfl kj (Qad (u:=.bool (decide (((i:Nat):Int)<((zs155.length:Nat):Int)))) kj (congrArg Value.bool (decide_eq_true (by omega)))) <| sg 1 kj <| sgN hK165 <| cond_true kj <| wp_skip <| hK164 _ _ ?_
    refine wp_seq_k fun K168 hK168=>wp_block <| Qac <| sg 3 kj <| Qaa (.pointer (some ⟨gro166,oro166+i,none⟩)) 108 rfl kj (Qaw 66 _ _ .i64 i gro166 oro166 zs155.length cz155 3 az155 _ haro166 rfl rfl kj kj kj kj (Nat.lt_of_lt_of_eq (show i<(zs155).length by omega) (rfl:(zs155).length=(zs155).length).symm)) <| Qaa (.int .i64 (nth (zs155) (i))) 109 rfl kj (Qap 3 _ _ (.int .i64 (nth (zs155) (i))) (hcro166 i (Nat.lt_of_lt_of_eq (show i<(zs155).length by omega) (rfl:(zs155).length=(zs155).length).symm)) rfl kj kj) <| Qaa (.int .u8 (nth (by16 (lev zs155)) i)) 110 rfl kj (Qad (u:=.int .u8 (IntKind.u8.wrap (nth (zs155) (i)))) kj (congrArg (Value.int .u8) (QeE hzb155 hi16))) <| Qaa (.pointer (some ⟨g160,i,none⟩)) 111 rfl kj (QaG _ _ _ .i64 (i) _ 16 5 rfl kj kj kj kj (by omega)) <| Qal g160 _ (ints .u8 ((Qbo (by16 (lev zs155)) 16 i).set i (nth (by16 (lev zs155)) i))) 157 q160_4 rfl kj (Qa1 5 _ _ g160 i 157 _ _ q160_4 rfl kj kj kj (Nat.lt_of_lt_of_eq (by omega) (Qb5 _ 16 _ (Qa6 _) hi).symm)) fun W18 p18 r160_18=>?_
    have x18:=Puts.ext p18 xx4 (qT x15.size l160)
    refine Qae <| hK168 _ _ <| Qac <| sg 1 kj <| Qaa (.int .i64 ((i+1:Nat):Int)) 104 rfl kj (Qad (u:=.int .i64 (IntKind.i64.wrap (((i:Nat):Int)+1))) kj (congrArg (Value.int .i64) (i64n _ _ (by omega) (by omega)))) <| sg 1 kj <| Qae ?_
    repeat (first | with_reducible refine goX1 ?_ | with_reducible refine goX2 ?_ | with_reducible refine goX3 ?_)
    exact Qax (i+1) ⟨kj,kj,kj,kj,trivial⟩ ⟨(show i+1≤16 by omega),(QaI r160_18 (Qb2 _ 16 i (Qa6 _) hi16)),(Qa2.puts q17 p18 (.inl (by simp))),x18⟩ (by show 16-(i+1)<16-i; omega)
   ·skip
    have r160_17_169:V4.heap[g160]? = some (.cells (ints .u8 (by16 (lev zs155))) 157):=QaI q160_4 (QcX hzb155 hi (.inr hq.2))
    refine Qac <| sg 1 kj <| Qaa (.bool true) 96 rfl kj (Qad (u:=.bool (decide (((i:Nat):Int)<16))) kj (congrArg Value.bool (decide_eq_true (by omega)))) <| sg 4 kj <| Qaa (.bool false) 101 rfl kj (Qad (u:=.bool (decide (((i:Nat):Int)<((zs155.length:Nat):Int)))) kj (congrArg Value.bool (decide_eq_false (by omega)))) <| sg 1 kj <| sgN hK165 <| cond_false kj <| wp_exit <| hK161 _ _ ?_
    refine sgC fun K170 hK170=>Qaa (.agg (ints .u8 (by16 (lev zs155)))) 112 rfl kj (Qao 157 _ g160 157 _ _ r160_17_169 rfl kj kj (isz (n:=16) kj ((Qaf _ _).trans (Qa6 _)))) ?_
    have r3_3:=(Qab r3_2 e3)
    have r3_4:=(Puts.row p4 r3_3 (Qag r3_2 lr))
    have r3_5:=(Puts.row p5 r3_4 (Qag r3_2 lr))
    have r3_6:=(Puts.row p6 r3_5 (Qag r3_2 lr))
    have r3_7:=(Puts.row p7 r3_6 (Qag r3_2 lr))
    have r3_8:=(Puts.row p8 r3_7 (Qag r3_2 lr))
    have r3_9:=(Puts.row p9 r3_8 (Qag r3_2 lr))
    have r3_10:=(Puts.row p10 r3_9 (Qag r3_2 lr))
    have r3_11:=(Qab r3_10 e11)
    have r3_12:=(Qab r3_11 e12)
    have r3_13:=(Qab r3_12 e13)
    have r3_14:=(Qab r3_13 e14)
    have r3_15:=(Qab r3_14 e15)
    have r3_16:=(Qab r3_15 e16)
    have r3_17:=(Qa2.row q17 r3_16 (QaU (Qag r3_15 l160) Qbt))
    refine Qal g3 _ (ints .u8 (by16 (lev zs155))) 157 r3_17 rfl kj (Qav 157 _ _ g3 157 _ _ r3_17 rfl kj kj (isz (n:=16) kj ((Qaf _ _).trans (Qa6 _))) (eqsz (n:=16) ((Qaf _ _).trans (List.length_replicate (n:=16))) ((Qaf _ _).trans (Qa6 _))) (QaC _ _)) fun W18 p18 r3_18=>?_
    have x18:=Puts.ext p18 xx4 b3
    refine sgN hK170 <| wp_ret ?_
    repeat (first | with_reducible refine goR1 ?_ | with_reducible refine goR2 ?_)
    exact (show bodyPost _ _ _ .ret _ _ from ret1 (.agg (ints .u8 (by16 (lev zs155)))) rfl (Qbq g3 157 _ r3_18 kj kj (isz (n:=16) kj ((Qaf _ _).trans (Qa6 _)))) ⟨by unfold tagV; rw [hal],x18⟩)
   ·skip
    have r160_17_171:V4.heap[g160]? = some (.cells (ints .u8 (by16 (lev zs155))) 157):=QaI q160_4 (QcX hzb155 hi (.inl hq))
    refine Qac <| sg 1 kj <| Qaa (.bool false) 96 rfl kj (Qad (u:=.bool (decide (((i:Nat):Int)<16))) kj (congrArg Value.bool (decide_eq_false (by omega)))) <| sg 6 kj <| sgN hK165 <| cond_false kj <| wp_exit <| hK161 _ _ <| sgC fun K172 hK172=>Qaa (.agg (ints .u8 (by16 (lev zs155)))) 112 rfl kj (Qao 157 _ g160 157 _ _ r160_17_171 rfl kj kj (isz (n:=16) kj ((Qaf _ _).trans (Qa6 _)))) ?_
    have r3_3:=(Qab r3_2 e3)
    have r3_4:=(Puts.row p4 r3_3 (Qag r3_2 lr))
    have r3_5:=(Puts.row p5 r3_4 (Qag r3_2 lr))
    have r3_6:=(Puts.row p6 r3_5 (Qag r3_2 lr))
    have r3_7:=(Puts.row p7 r3_6 (Qag r3_2 lr))
    have r3_8:=(Puts.row p8 r3_7 (Qag r3_2 lr))
    have r3_9:=(Puts.row p9 r3_8 (Qag r3_2 lr))
    have r3_10:=(Puts.row p10 r3_9 (Qag r3_2 lr))
    have r3_11:=(Qab r3_10 e11)
    have r3_12:=(Qab r3_11 e12)
    have r3_13:=(Qab r3_12 e13)
    have r3_14:=(Qab r3_13 e14)
    have r3_15:=(Qab r3_14 e15)
    have r3_16:=(Qab r3_15 e16)
    have r3_17:=(Qa2.row q17 r3_16 (QaU (Qag r3_15 l160) Qbt))
    refine Qal g3 _ (ints .u8 (by16 (lev zs155))) 157 r3_17 rfl kj (Qav 157 _ _ g3 157 _ _ r3_17 rfl kj kj (isz (n:=16) kj ((Qaf _ _).trans (Qa6 _))) (eqsz (n:=16) ((Qaf _ _).trans (List.length_replicate (n:=16))) ((Qaf _ _).trans (Qa6 _))) (QaC _ _)) fun W18 p18 r3_18=>?_
    have x18:=Puts.ext p18 xx4 b3
    refine sgN hK172 <| wp_ret ?_
    repeat (first | with_reducible refine goR1 ?_ | with_reducible refine goR2 ?_)
    exact (show bodyPost _ _ _ .ret _ _ from ret1 (.agg (ints .u8 (by16 (lev zs155)))) rfl (Qbq g3 157 _ r3_18 kj kj (isz (n:=16) kj ((Qaf _ _).trans (Qa6 _)))) ⟨by unfold tagV; rw [hal],x18⟩)
end Go.Proofs.YtoiendjhplbjjaaDoor.Ae
end
