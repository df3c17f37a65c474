/- Texts of this claim, joined (O1). -/
import Derived.Test.YtioglfpngaddfaaDoorZO0
import Derived.RangeFuncNested
import Derived.Scope
import Derived.Sort.LoopGhostIn
import Derived.Laws.Externs
import Derived.Shelf.Spec.BitsCarry
import Derived.Shelf.Bits.Mul64
import Derived.Laws.Bits64b

set_option linter.unusedVariables false
set_option linter.unusedSimpArgs false
set_option maxHeartbeats 4000000
open List renaming length_set → zaa, length_map → zab, replicate → zac, length_append → zad, length_take → zae, take_zero → zaf, append_nil → zah, take_of_length_le → zai, take_add_one → zaj, getElem?_eq_getElem → zak, append_assoc → zal, range → zam, length_range → zan, getD_eq_getElem?_getD → zap, getElem?_map → zaq, getElem?_range → zar, nil_append → zax, cons_append → zay, take_succ_cons → za0, drop_succ_cons → za1, drop_zero → za2, getElem?_eq_none → za4, map_toArray → za9, drop_append_of_le_length → zaD, drop_of_length_le → zaE, take_append_of_le_length → zaF, range_succ → zaG, map_take → zaH, mem_cons → zaJ, not_mem_nil → zaK, length_drop → zaL, getElem?_take → zaM, length_cons → zaO, mem_cons_self → zaP, mem_cons_of_mem → zaQ, take_length → zbc, drop_drop → zbe
open Nat renaming sub_self → zag, lt_of_lt_of_eq → zav, zero_le → zaw, lt_or_ge → za3, min_eq_left → zaR, and_two_pow_sub_one_eq_mod → zaT, shiftLeft_add_eq_or_of_lt → zaW, shiftLeft_eq → zaX
open Go.IntKind renaming u8 → zao, i64 → zaz, u64 → zaU
open Option renaming map_some → zas
open BitVec renaming ofInt → zat, toNat_ofInt → zaN
open Go.Value renaming int → zau, slice → za5, bool → zaI
open Go.Sem renaming run_bind → za6, run_pure → za7
open Go.Result renaming andThen_ok → za8
open Int renaming mul_le_mul_of_nonneg_right → zaA, toNat_natCast → zaB, eq_ofNat_of_zero_le → zaS, natCast_mul → zaV, natCast_add → zaY, mul_nonneg → zaZ, mul_le_mul_of_nonneg_left → zbd
open Go.Code renaming rangeFunc → zaC, wp → zba, rounds → zbb
namespace Go.Proofs.YtioglfpngaddfaaDoor
open Rely.Ext renaming refl → zbf, trans → zbg
open Auto.Puts renaming row → zbh, ext → zbi
open Auto.Ext renaming tr → zbj
open Own.ExtB renaming refl → zbk, ext → zbl, puts → zbm, row → zbn, up → zbo
open Auto.Qaf renaming refl → zbp, row → zbq, step → zbr, puts → zbs
section
namespace Cha
open Go Go.RowKit
open Rely Auto Own Sha
open Sha
def qrt (x : List Wd) (i j k l:Nat):List Wd:=(((x.set i (qA2 (wget x i) (wget x j) (wget x k) (wget x l))).set j (qB2 (wget x i) (wget x j) (wget x k) (wget x l))).set k (qC2 (wget x i) (wget x j) (wget x k) (wget x l))).set l (qD2 (wget x i) (wget x j) (wget x k) (wget x l))
theorem Qj9 (x : List Wd) (i j k l:Nat):(qrt x i j k l).length=x.length:=by unfold qrt; simp only [zaa]
def dbl (x : List Wd):List Wd:=qrt (qrt (qrt (qrt (qrt (qrt (qrt (qrt (x) 0 4 8 12) 1 5 9 13) 2 6 10 14) 3 7 11 15) 0 5 10 15) 1 6 11 12) 2 7 8 13) 3 4 9 14
def qrow (j : Nat):List Int:=(qQ:List Int).drop (4*j) |>.take 4
def qn (j k:Nat):Nat:=(nth (qrow j) k).toNat
theorem Qct {j : Nat} (h:j<8):(qrow j).length=4:=(by decide:∀ j:Fin 8,(qrow j.val).length=4) ⟨j,h⟩
theorem Qlc {j : Nat} (h:j<8) (k:Nat) (hk:k<4):qn j k<16:=(by decide:∀ (j:Fin 8) (k:Fin 4),qn j.val k.val<16) ⟨j,h⟩ ⟨k,hk⟩
theorem Qe2 {j : Nat} (h:j<8) (k:Nat) (hk:k<4):nth (qrow j) k=((qn j k:Nat):Int):=(by decide:∀ (j:Fin 8) (k:Fin 4),nth (qrow j.val) k.val=((qn j.val k.val:Nat):Int)) ⟨j,h⟩ ⟨k,hk⟩
def qsN (x : List Wd):Nat→List Wd
  | 0=>x
  | j+1=>qrt (qsN x j) (qn j 0) (qn j 1) (qn j 2) (qn j 3)
theorem QcL (x : List Wd):∀ j,(qsN x j).length=x.length
  | 0=>rfl
  | j+1=>(Qj9 ..).trans (QcL x j)
theorem QmZ (x : List Wd):(dbl x).length=x.length:=by unfold dbl; simp only [Qj9]
def rounds (s : List Wd):Nat→List Wd
  | 0=>s
  | n+1=>dbl (rounds s n)
theorem Qej (s : List Wd):∀ n,(rounds s n).length=s.length
  | 0=>rfl
  | n+1=>(QmZ _).trans (Qej s n)
theorem Qcw {x : List Wd} {n:Nat} (h:x.length=n):(x.map wv).length=n:=by rw [zab,h]
def QbH (xs : List Int) (n i:Nat):List Int:=xs.take i++zac (n-i) 0
theorem QcB (xs : List Int) (n i:Nat) (h:xs.length=n) (hi:i≤n):(QbH xs n i).length=n:=by unfold QbH; rw [zad,zae,qZ]; omega
theorem Qcp (xs : List Int) (n:Nat):zac n 0=QbH xs n 0:=by unfold QbH; rw [zaf,Nat.sub_zero]; rfl
theorem Qcb (xs : List Int) (n:Nat) (h:xs.length=n):QbH xs n n=xs:=by unfold QbH; rw [zag,List.replicate_zero,zah,zai (by omega)]
theorem Qcq (xs : List Int) (n i:Nat) (h:xs.length=n) (hi:i<n):(QbH xs n i).set i (nth xs i)=QbH xs n (i+1):=by
  have hl:(xs.take i).length=i:=by rw [zae]; omega
  unfold QbH
  rw [List.set_append_right _ _ (by omega),hl,zag,show n-i=(n-(i+1))+1 by omega,List.replicate_succ,List.set_cons_zero]
  have e:xs.take (i+1)=xs.take i++[nth xs i]:=by
    rw [zaj,zak (by omega)]
    simp [nth,show i<xs.length by omega]
  rw [e,zal]
  rfl
def Qci (x s:List Wd):List Int:=(zam 64).map fun n=>wv ((wget x (n/4)+wget s (n/4))>>>(8*(n%4)))%256
theorem Qf2 (x s:List Wd):(Qci x s).length=64:=by unfold Qci; rw [zab,zan]
theorem QoX (x s:List Wd) (i j:Nat) (hi:i<16) (hj:j<4):zao.wrap (wv ((wget x i+wget s i)>>>(8*j)))=nth (Qci x s) (4*i+j):=by
  have h1:(4*i+j)/4=i:=by omega
  have h2:(4*i+j)%4=j:=by omega
  have h3:∀ z:Int,zao.wrap z=z%2^8:=fun _=>rfl
  unfold nth Qci
  rw [h3,zap,zaq,zar (by omega),zas,Option.getD_some,h1,h2]
  rfl
def Qbu (ws : List Wd) (number:Int):List Int:=Qci (rounds (ws.set 12 (zat 32 number)) 10) (ws.set 12 (zat 32 number))
set_option maxRecDepth 100000 in
theorem QlW (ws : List Wd) (number:Int) (tq:TypeId) (w:World) (hq:w.heap[1]? = some (.cells (ints .i64 qQ) tq)) (hw:ws.length=16):Calls Tryd.prog 65 #[.agg (ints .u32 (ws.map wv)),.int .i64 number] w (Ret w (.agg (ints .u8 (Qbu ws number)))):=by
 refine enter 84 [(0,.agg (ints .u32 (ws.map wv))),(1,.int .i64 number)] Tryd.func65 rfl rfl kj rfl <| sgC fun K2 hK2=>Qar (ints .u32 (ws.map wv)) 120 2 rfl kj kj fun g3 W1 l3 e1 r3_1=>?_
 have x1:=zbj (zbf w) e1
 refine Qar (ints .u8 (zac 64 0)) 102 4 rfl kj kj fun g4 W2 l4 e2 r4_2=>sgN hK2 <| sgC fun K5 hK5=>sg 1 kj <| Qab (.int .u32 (wv (zat 32 number))) 13 rfl kj (Qah (u:=.int .u32 (IntKind.u32.wrap (number))) kj (congrArg (zau .u32) (by rw [Sha.wrap32,QeC]))) <| sg 1 kj ?_
 have r3_2:=(Qaa r3_1 e2)
 refine Qan g3 _ (ints .u32 ((ws.map wv).set 12 (wv (zat 32 number)))) 120 r3_2 rfl kj (Qa1 119 _ _ g3 12 120 _ _ r3_2 rfl kj kj kj (zav (show 12<16 by decide) (Qcw hw).symm)) fun W3 p3 r3_3=>?_
 have x3:=zbi p3 (zbj x1 e2) (qT (zbf w).size l3)
 obtain ⟨s,es⟩:∃ z:List Wd,z=ws.set 12 (zat 32 number):=⟨_,rfl⟩
 have hs:s.length=16:=by rw [es,zaa,hw]
 have r3_3_6:W3.heap[g3]? = some (.cells (ints .u32 (s.map wv)) 120):=QaH r3_3 (by rw [es,List.map_set])
 refine sgN hK5 <| sgC fun K7 hK7=>Qab (.agg (ints .u32 (s.map wv))) 15 rfl kj (Qap 120 _ g3 120 _ _ r3_3_6 rfl kj kj (isz (n:=16) kj (izT (Qcw hs)))) <| Qar (ints .u32 ([0,0,0,0,0,0,0,0,0,0,0,0,0,0,0,0])) 120 5 rfl kj kj fun g8 W4 l8 e4 r8_4=>?_
 have b8:=qT x3.size l8
 refine Qan g8 _ (ints .u32 (s.map wv)) 120 r8_4 rfl kj (Qao 120 _ _ g8 120 _ _ r8_4 rfl kj kj (isz (n:=16) kj (izT (Qcw hs))) (eqsz (n:=16) kj (izT (Qcw hs))) (Qay _ _)) fun W5 p5 r8_5=>sgN hK7 <| wp_seq_k fun K9 hK9=>sgB kj <| wp_block <| QaF (fun (s1:Nat)=>[(2,.pointer (some ⟨g3,0,none⟩)),(4,.pointer (some ⟨g4,0,none⟩)),(5,.pointer (some ⟨g8,0,none⟩)),(16,.int .i64 ((s1:Nat):Int))]) (fun (s1:Nat) W=>(s1≤10)∧(W.heap[g8]? = some (.cells (ints .u32 ((rounds s s1).map wv)) 120))∧(Qaf [g8] W5 W)∧(Ext w W)) (fun (s1:Nat)=>10-s1) 0 ⟨kj,kj,kj,kj,trivial⟩ ⟨(zaw _),(QaH r8_5 rfl),(zbp [g8] W5),(zbi p5 (zbj x3 e4) b8)⟩ fun s1 X1 V1 hI1=>?_
 obtain ⟨i,hs1⟩:∃ z,z=s1:=⟨_,rfl⟩
 subst hs1
 obtain ⟨hi,q8_1,kk1,xx1⟩:=hI1
 replace hi:i≤10:=hi
 replace q8_1:V1.heap[g8]? = some (.cells (ints .u32 ((rounds s i).map wv)) 120):=q8_1
 replace kk1:Qaf [g8] W5 V1:=kk1
 replace xx1:Ext w V1:=xx1
 have q6:=kk1
 refine sgB kj <| wp_seq_k fun K12 hK12=>Qa2 (t:=decide (((i:Nat):Int)<10)) kj (fun c13=>?_) (fun c13=>?_)
 ·skip
  have hlt17:i<10:=by have:=of_decide_eq_true c13; omega
  refine wp_skip <| hK12 _ _ <| wp_seq_k fun K14 hK14=>wp_block <| sgC fun K15 hK15=>?_
  have r1_3:=(zbh p3 (Qaa (Qaa hq e1) e2) (Qag hq l3))
  refine Qab (.agg (ints .i64 (qQ))) 18 rfl kj (Qap 134 _ 1 tq _ _ (zbq q6 (rpn p5 r1_3 e4 l8) (Qax (Qag r1_3 l8) QaE)) rfl kj kj (isz (n:=32) kj kj)) <| sg 1 kj <| sgN hK15 <| wp_block ?_
  obtain ⟨x0,ex0⟩:∃ z:List Wd,z=rounds s i:=⟨_,rfl⟩
  have h0:x0.length=16:=by rw [ex0,Qej,hs]
  have r8_6_16:V1.heap[g8]? = some (.cells (ints .u32 (x0.map wv)) 120):=QaH q8_1 (by rw [ex0])
  refine QaF (fun (s2:Nat)=>[(2,.pointer (some ⟨g3,0,none⟩)),(4,.pointer (some ⟨g4,0,none⟩)),(5,.pointer (some ⟨g8,0,none⟩)),(16,.int .i64 ((i:Nat):Int)),(18,.agg (ints .i64 (qQ))),(19,.int .i64 ((s2:Nat):Int))]) (fun (s2:Nat) W=>(s2≤8)∧(W.heap[g8]? = some (.cells (ints .u32 ((qsN x0 s2).map wv)) 120))∧(Qaf [g8] V1 W)∧(Ext w W)) (fun (s2:Nat)=>8-s2) 0 ⟨kj,kj,kj,kj,kj,kj,trivial⟩ ⟨(zaw _),(QaH r8_6_16 (show x0.map wv=(qsN x0 0).map wv from rfl)),(zbp [g8] V1),xx1⟩ fun s2 X2 V2 hI2=>?_
  obtain ⟨j,hs2⟩:∃ z,z=s2:=⟨_,rfl⟩
  subst hs2
  obtain ⟨hj,q8_2,kk2,xx2⟩:=hI2
  replace hj:j≤8:=hj
  replace q8_2:V2.heap[g8]? = some (.cells (ints .u32 ((qsN x0 j).map wv)) 120):=q8_2
  replace kk2:Qaf [g8] V1 V2:=kk2
  replace xx2:Ext w V2:=xx2
  have q7:=kk2
  refine sgB kj <| wp_seq_k fun K18 hK18=>Qa2 (t:=decide (((j:Nat):Int)<8)) kj (fun c19=>?_) (fun c19=>?_)
  ·skip
   have hlt20:j<8:=by have:=of_decide_eq_true c19; omega
   have hq0:qn j 0<16:=Qlc hlt20 0 (by decide)
   have hq1:qn j 1<16:=Qlc hlt20 1 (by decide)
   have hq2:qn j 2<16:=Qlc hlt20 2 (by decide)
   have hq3:qn j 3<16:=Qlc hlt20 3 (by decide)
   have hxj:(qsN x0 j).length=16:=(QcL x0 j).trans h0
   refine wp_skip <| hK18 _ _ <| wp_seq_k fun K20 hK20=>wp_block <| sgC fun K21 hK21=>Qab (.agg (ints .i64 (qrow j))) 21 rfl kj (by rcases (show j=0∨j=1∨j=2∨j=3∨j=4∨j=5∨j=6∨j=7 by omega) with rfl | rfl | rfl | rfl | rfl | rfl | rfl | rfl <;> kernel_rfl) ?_
   refine Qar ((Array.replicate 4 (.int .i64 0))) 133 7 rfl kj kj fun g22 W8 l22 e8 r22_8=>Qan g22 _ (ints .i64 (qrow j)) 133 r22_8 rfl kj (Qao 133 _ _ g22 133 _ _ r22_8 rfl kj kj (isz (n:=4) kj (izT (Qct hlt20))) (eqsz (n:=4) kj (izT (Qct hlt20))) (Qay _ _)) fun W9 p9 r22_9=>?_
   have x9:=zbi p9 (zbj xx2 e8) (qT xx2.size l22)
   refine sgN hK21 <| QbS (fun W=>W.heap[g22]? = some (.cells (ints .i64 (qrow j)) 133)) [⟨none,[(7,none)]⟩,⟨none,[(23,some 0)]⟩,⟨none,[(7,none)]⟩,⟨none,[(25,some 2)]⟩,⟨none,[(7,none)]⟩,⟨none,[(27,some 4)]⟩,⟨none,[(7,none)]⟩,⟨none,[(29,some 6)]⟩,⟨none,[(7,none)]⟩,⟨none,[(31,some 8)]⟩,⟨none,[(5,none),(32,some 9)]⟩,⟨none,[(33,some 10)]⟩,⟨none,[(7,none)]⟩,⟨none,[(35,some 12)]⟩,⟨none,[(5,none),(36,some 13)]⟩,⟨none,[(37,some 14)]⟩,⟨none,[(7,none)]⟩,⟨none,[(39,some 16)]⟩,⟨none,[(5,none),(40,some 17)]⟩,⟨none,[(41,some 18)]⟩,⟨none,[(7,none)]⟩,⟨none,[(43,some 20)]⟩,⟨none,[(5,none),(44,some 21)]⟩,⟨none,[(45,some 22)]⟩,⟨none,[(34,some 11),(38,some 15),(42,some 19),(46,some 23)]⟩,⟨none,[(47,some 24)]⟩,⟨none,[(22,some 25)]⟩,⟨none,[(22,some 25)]⟩,⟨none,[(22,some 25)]⟩,⟨none,[(22,some 25)]⟩,⟨none,[(5,none),(24,some 1)]⟩,⟨none,[(52,some 30),(48,some 26)]⟩,⟨none,[(5,none),(26,some 3)]⟩,⟨none,[(53,some 32),(49,some 27)]⟩,⟨none,[(5,none),(28,some 5)]⟩,⟨none,[(54,some 34),(50,some 28)]⟩,⟨none,[(5,none),(30,some 7)]⟩,⟨none,[(55,some 36),(51,some 29)]⟩] [] [2,3,4,5,6,7,27,28,29,32,34,36] kj kj kj (fun W hR=>Qaa r22_9 hR) fun F hF=>Qba (.pointer (some ⟨g22,0,none⟩)) kj kj rfl (fun _=>kj) <| QbM (.int .i64 (((qn j 0:Nat):Int))) kj kj kj rfl (fun W hR=>(Qad 3 _ g22 0 133 _ (.int .i64 (((qn j 0:Nat):Int))) _ (Qaa (Qaa r22_9 (Qaj _)) hR) rfl kj ((QaG _ _ _ (zav (by decide) (Qct hlt20).symm)).trans (congrArg (fun z=>some (zau .i64 z)) (Qe2 hlt20 0 (by decide)))) kj)) <| Qba (.pointer (some ⟨g22,1,none⟩)) kj kj rfl (fun _=>kj) <| QeW (.int .i64 (((qn j 1:Nat):Int))) kj kj kj rfl (fun W hW=>(Qad 3 _ g22 1 133 _ (.int .i64 (((qn j 1:Nat):Int))) _ hW rfl kj ((QaG _ _ _ (zav (by decide) (Qct hlt20).symm)).trans (congrArg (fun z=>some (zau .i64 z)) (Qe2 hlt20 1 (by decide)))) kj)) <| Qba (.pointer (some ⟨g22,2,none⟩)) kj kj rfl (fun _=>kj) <| QeW (.int .i64 (((qn j 2:Nat):Int))) kj kj kj rfl (fun W hW=>(Qad 3 _ g22 2 133 _ (.int .i64 (((qn j 2:Nat):Int))) _ hW rfl kj ((QaG _ _ _ (zav (by decide) (Qct hlt20).symm)).trans (congrArg (fun z=>some (zau .i64 z)) (Qe2 hlt20 2 (by decide)))) kj)) <| Qba (.pointer (some ⟨g22,3,none⟩)) kj kj rfl (fun _=>kj) <| QeW (.int .i64 (((qn j 3:Nat):Int))) kj kj kj rfl (fun W hW=>(Qad 3 _ g22 3 133 _ (.int .i64 (((qn j 3:Nat):Int))) _ hW rfl kj ((QaG _ _ _ (zav (by decide) (Qct hlt20).symm)).trans (congrArg (fun z=>some (zau .i64 z)) (Qe2 hlt20 3 (by decide)))) kj)) ?_
   refine Qba (.pointer (some ⟨g22,0,none⟩)) kj kj rfl (fun _=>kj) <| QbM (.int .i64 (((qn j 0:Nat):Int))) kj kj kj rfl (fun W hR=>(Qad 3 _ g22 0 133 _ (.int .i64 (((qn j 0:Nat):Int))) _ (Qaa (Qaa r22_9 (Qaj _)) hR) rfl kj ((QaG _ _ _ (zav (by decide) (Qct hlt20).symm)).trans (congrArg (fun z=>some (zau .i64 z)) (Qe2 hlt20 0 (by decide)))) kj)) <| Qba (.pointer (some ⟨g8,qn j 0,none⟩)) kj kj rfl (fun W=>(QaC _ _ _ .i64 (qn j 0) _ 16 119 rfl kj kj kj kj (by omega))) ?_
   have r8_8:=(Qaa q8_2 e8)
   have r8_9:=(zbh p9 r8_8 (Qag q8_2 l22))
   refine QbM (.int .u32 (wv (wget (qsN x0 j) (qn j 0)))) kj kj kj rfl (fun W hR=>(Qad 119 _ g8 (qn j 0) 120 _ (.int .u32 (wv (wget (qsN x0 j) (qn j 0)))) _ (Qaa (Qaa r8_9 (Qaj _)) hR) rfl kj ((QaG _ _ _ (zav (by omega) (Qcw ((QcL x0 j).trans h0)).symm)).trans (congrArg (fun z=>some (zau .u32 z)) (QbZ (qsN x0 j) (qn j 0)))) kj)) <| Qba (.pointer (some ⟨g22,1,none⟩)) kj kj rfl (fun _=>kj) <| QbM (.int .i64 (((qn j 1:Nat):Int))) kj kj kj rfl (fun W hR=>(Qad 3 _ g22 1 133 _ (.int .i64 (((qn j 1:Nat):Int))) _ (Qaa (Qaa r22_9 (Qaj _)) hR) rfl kj ((QaG _ _ _ (zav (by decide) (Qct hlt20).symm)).trans (congrArg (fun z=>some (zau .i64 z)) (Qe2 hlt20 1 (by decide)))) kj)) <| Qba (.pointer (some ⟨g8,qn j 1,none⟩)) kj kj rfl (fun W=>(QaC _ _ _ .i64 (qn j 1) _ 16 119 rfl kj kj kj kj (by omega))) <| QbM (.int .u32 (wv (wget (qsN x0 j) (qn j 1)))) kj kj kj rfl (fun W hR=>(Qad 119 _ g8 (qn j 1) 120 _ (.int .u32 (wv (wget (qsN x0 j) (qn j 1)))) _ (Qaa (Qaa r8_9 (Qaj _)) hR) rfl kj ((QaG _ _ _ (zav (by omega) (Qcw ((QcL x0 j).trans h0)).symm)).trans (congrArg (fun z=>some (zau .u32 z)) (QbZ (qsN x0 j) (qn j 1)))) kj)) <| Qba (.pointer (some ⟨g22,2,none⟩)) kj kj rfl (fun _=>kj) <| QbM (.int .i64 (((qn j 2:Nat):Int))) kj kj kj rfl (fun W hR=>(Qad 3 _ g22 2 133 _ (.int .i64 (((qn j 2:Nat):Int))) _ (Qaa (Qaa r22_9 (Qaj _)) hR) rfl kj ((QaG _ _ _ (zav (by decide) (Qct hlt20).symm)).trans (congrArg (fun z=>some (zau .i64 z)) (Qe2 hlt20 2 (by decide)))) kj)) <| Qba (.pointer (some ⟨g8,qn j 2,none⟩)) kj kj rfl (fun W=>(QaC _ _ _ .i64 (qn j 2) _ 16 119 rfl kj kj kj kj (by omega))) <| QbM (.int .u32 (wv (wget (qsN x0 j) (qn j 2)))) kj kj kj rfl (fun W hR=>(Qad 119 _ g8 (qn j 2) 120 _ (.int .u32 (wv (wget (qsN x0 j) (qn j 2)))) _ (Qaa (Qaa r8_9 (Qaj _)) hR) rfl kj ((QaG _ _ _ (zav (by omega) (Qcw ((QcL x0 j).trans h0)).symm)).trans (congrArg (fun z=>some (zau .u32 z)) (QbZ (qsN x0 j) (qn j 2)))) kj)) <| Qba (.pointer (some ⟨g22,3,none⟩)) kj kj rfl (fun _=>kj) ?_
   refine QbM (.int .i64 (((qn j 3:Nat):Int))) kj kj kj rfl (fun W hR=>(Qad 3 _ g22 3 133 _ (.int .i64 (((qn j 3:Nat):Int))) _ (Qaa (Qaa r22_9 (Qaj _)) hR) rfl kj ((QaG _ _ _ (zav (by decide) (Qct hlt20).symm)).trans (congrArg (fun z=>some (zau .i64 z)) (Qe2 hlt20 3 (by decide)))) kj)) <| Qba (.pointer (some ⟨g8,qn j 3,none⟩)) kj kj rfl (fun W=>(QaC _ _ _ .i64 (qn j 3) _ 16 119 rfl kj kj kj kj (by omega))) <| QbM (.int .u32 (wv (wget (qsN x0 j) (qn j 3)))) kj kj kj rfl (fun W hR=>(Qad 119 _ g8 (qn j 3) 120 _ (.int .u32 (wv (wget (qsN x0 j) (qn j 3)))) _ (Qaa (Qaa r8_9 (Qaj _)) hR) rfl kj ((QaG _ _ _ (zav (by omega) (Qcw ((QcL x0 j).trans h0)).symm)).trans (congrArg (fun z=>some (zau .u32 z)) (QbZ (qsN x0 j) (qn j 3)))) kj)) <| Qjt (.tuple #[.int .u32 (wv (qA2 (wget (qsN x0 j) (qn j 0)) (wget (qsN x0 j) (qn j 1)) (wget (qsN x0 j) (qn j 2)) (wget (qsN x0 j) (qn j 3)))),.int .u32 (wv (qB2 (wget (qsN x0 j) (qn j 0)) (wget (qsN x0 j) (qn j 1)) (wget (qsN x0 j) (qn j 2)) (wget (qsN x0 j) (qn j 3)))),.int .u32 (wv (qC2 (wget (qsN x0 j) (qn j 0)) (wget (qsN x0 j) (qn j 1)) (wget (qsN x0 j) (qn j 2)) (wget (qsN x0 j) (qn j 3)))),.int .u32 (wv (qD2 (wget (qsN x0 j) (qn j 0)) (wget (qsN x0 j) (qn j 1)) (wget (qsN x0 j) (qn j 2)) (wget (qsN x0 j) (qn j 3))))]) 77 #[.int .u32 (wv (wget (qsN x0 j) (qn j 0))),.int .u32 (wv (wget (qsN x0 j) (qn j 1))),.int .u32 (wv (wget (qsN x0 j) (qn j 2))),.int .u32 (wv (wget (qsN x0 j) (qn j 3)))] kj kj kj rfl (fun _=>kj) (fun W hR=>(Qlb (wget (qsN x0 j) (qn j 0)) (wget (qsN x0 j) (qn j 1)) (wget (qsN x0 j) (qn j 2)) (wget (qsN x0 j) (qn j 3))) W) <| Qba (.tuple #[.int .u32 (wv (qA2 (wget (qsN x0 j) (qn j 0)) (wget (qsN x0 j) (qn j 1)) (wget (qsN x0 j) (qn j 2)) (wget (qsN x0 j) (qn j 3)))),.int .u32 (wv (qB2 (wget (qsN x0 j) (qn j 0)) (wget (qsN x0 j) (qn j 1)) (wget (qsN x0 j) (qn j 2)) (wget (qsN x0 j) (qn j 3)))),.int .u32 (wv (qC2 (wget (qsN x0 j) (qn j 0)) (wget (qsN x0 j) (qn j 1)) (wget (qsN x0 j) (qn j 2)) (wget (qsN x0 j) (qn j 3)))),.int .u32 (wv (qD2 (wget (qsN x0 j) (qn j 0)) (wget (qsN x0 j) (qn j 1)) (wget (qsN x0 j) (qn j 2)) (wget (qsN x0 j) (qn j 3))))]) kj kj rfl (fun _=>kj) <| Qba (.int .u32 (wv (qA2 (wget (qsN x0 j) (qn j 0)) (wget (qsN x0 j) (qn j 1)) (wget (qsN x0 j) (qn j 2)) (wget (qsN x0 j) (qn j 3))))) kj kj rfl (fun _=>kj) <| Qba (.int .u32 (wv (qB2 (wget (qsN x0 j) (qn j 0)) (wget (qsN x0 j) (qn j 1)) (wget (qsN x0 j) (qn j 2)) (wget (qsN x0 j) (qn j 3))))) kj kj rfl (fun _=>kj) <| Qba (.int .u32 (wv (qC2 (wget (qsN x0 j) (qn j 0)) (wget (qsN x0 j) (qn j 1)) (wget (qsN x0 j) (qn j 2)) (wget (qsN x0 j) (qn j 3))))) kj kj rfl (fun _=>kj) <| Qba (.int .u32 (wv (qD2 (wget (qsN x0 j) (qn j 0)) (wget (qsN x0 j) (qn j 1)) (wget (qsN x0 j) (qn j 2)) (wget (qsN x0 j) (qn j 3))))) kj kj rfl (fun _=>kj) <| Qba (.pointer (some ⟨g8,qn j 0,none⟩)) kj kj rfl (fun W=>(QaC _ _ _ .i64 (qn j 0) _ 16 119 rfl kj kj kj kj (by omega))) ?_
   refine Qcj rfl <| Qba (.pointer (some ⟨g8,qn j 1,none⟩)) kj kj rfl (fun W=>(QaC _ _ _ .i64 (qn j 1) _ 16 119 rfl kj kj kj kj (by omega))) <| Qcj rfl <| Qba (.pointer (some ⟨g8,qn j 2,none⟩)) kj kj rfl (fun W=>(QaC _ _ _ .i64 (qn j 2) _ 16 119 rfl kj kj kj kj (by omega))) <| Qcj rfl <| Qba (.pointer (some ⟨g8,qn j 3,none⟩)) kj kj rfl (fun W=>(QaC _ _ _ .i64 (qn j 3) _ 16 119 rfl kj kj kj kj (by omega))) <| Qcj rfl <| Qgn (hF _ kj fun W10 e10=>?_)
   simp only [zax,zay,fins,up]
   clear hF
   have r8_10:=(Qaa r8_9 e10)
   have r22_10:=(Qaa r22_9 e10)
   refine Qcc _ g8 _ (ints .u32 (((qsN x0 j).map wv).set (qn j 0) (wv (qA2 (wget (qsN x0 j) (qn j 0)) (wget (qsN x0 j) (qn j 1)) (wget (qsN x0 j) (qn j 2)) (wget (qsN x0 j) (qn j 3)))))) 120 r8_10 rfl (Qa1 119 _ _ g8 (qn j 0) 120 _ _ r8_10 rfl kj kj kj (zav (by omega) (Qcw ((QcL x0 j).trans h0)).symm)) (fun W hp=>zbh hp r22_10 (QaJ q8_2 l22)) fun W11 p11 r8_11=>?_
   have x11:=zbi p11 (zbj x9 e10) b8
   have r22_11:=(zbh p11 r22_10 (QaJ q8_2 l22))
   refine Qcc _ g8 _ (ints .u32 ((((qsN x0 j).map wv).set (qn j 0) (wv (qA2 (wget (qsN x0 j) (qn j 0)) (wget (qsN x0 j) (qn j 1)) (wget (qsN x0 j) (qn j 2)) (wget (qsN x0 j) (qn j 3))))).set (qn j 1) (wv (qB2 (wget (qsN x0 j) (qn j 0)) (wget (qsN x0 j) (qn j 1)) (wget (qsN x0 j) (qn j 2)) (wget (qsN x0 j) (qn j 3)))))) 120 r8_11 rfl (Qa1 119 _ _ g8 (qn j 1) 120 _ _ r8_11 rfl kj kj kj (zav (by omega) ((zaa ..).trans (Qcw ((QcL x0 j).trans h0))).symm)) (fun W hp=>zbh hp r22_11 (QaJ q8_2 l22)) fun W12 p12 r8_12=>?_
   have r22_12:=(zbh p12 r22_11 (QaJ q8_2 l22))
   refine Qcc _ g8 _ (ints .u32 (((((qsN x0 j).map wv).set (qn j 0) (wv (qA2 (wget (qsN x0 j) (qn j 0)) (wget (qsN x0 j) (qn j 1)) (wget (qsN x0 j) (qn j 2)) (wget (qsN x0 j) (qn j 3))))).set (qn j 1) (wv (qB2 (wget (qsN x0 j) (qn j 0)) (wget (qsN x0 j) (qn j 1)) (wget (qsN x0 j) (qn j 2)) (wget (qsN x0 j) (qn j 3))))).set (qn j 2) (wv (qC2 (wget (qsN x0 j) (qn j 0)) (wget (qsN x0 j) (qn j 1)) (wget (qsN x0 j) (qn j 2)) (wget (qsN x0 j) (qn j 3)))))) 120 r8_12 rfl (Qa1 119 _ _ g8 (qn j 2) 120 _ _ r8_12 rfl kj kj kj (zav (by omega) ((zaa ..).trans ((zaa ..).trans (Qcw ((QcL x0 j).trans h0)))).symm)) (fun W hp=>zbh hp r22_12 (QaJ q8_2 l22)) fun W13 p13 r8_13=>Qcc _ g8 _ (ints .u32 ((((((qsN x0 j).map wv).set (qn j 0) (wv (qA2 (wget (qsN x0 j) (qn j 0)) (wget (qsN x0 j) (qn j 1)) (wget (qsN x0 j) (qn j 2)) (wget (qsN x0 j) (qn j 3))))).set (qn j 1) (wv (qB2 (wget (qsN x0 j) (qn j 0)) (wget (qsN x0 j) (qn j 1)) (wget (qsN x0 j) (qn j 2)) (wget (qsN x0 j) (qn j 3))))).set (qn j 2) (wv (qC2 (wget (qsN x0 j) (qn j 0)) (wget (qsN x0 j) (qn j 1)) (wget (qsN x0 j) (qn j 2)) (wget (qsN x0 j) (qn j 3))))).set (qn j 3) (wv (qD2 (wget (qsN x0 j) (qn j 0)) (wget (qsN x0 j) (qn j 1)) (wget (qsN x0 j) (qn j 2)) (wget (qsN x0 j) (qn j 3)))))) 120 r8_13 rfl (Qa1 119 _ _ g8 (qn j 3) 120 _ _ r8_13 rfl kj kj kj (zav (by omega) ((zaa ..).trans ((zaa ..).trans ((zaa ..).trans (Qcw ((QcL x0 j).trans h0))))).symm)) (fun W hp=>zbh hp (zbh p13 r22_12 (QaJ q8_2 l22)) (QaJ q8_2 l22)) fun W14 p14 r8_14=>Qew <| hK20 _ _ <| Qae <| Qab (.int .i64 ((j+1:Nat):Int)) 56 rfl kj (Qah (u:=.int .i64 (zaz.wrap (((j:Nat):Int)+1))) kj (congrArg (zau .i64) (i64n _ _ (by omega) (by omega)))) <| sg 1 kj <| Qal ?_
   repeat (first | with_reducible refine goX1 ?_ | with_reducible refine goX2 ?_ | with_reducible refine goX3 ?_)
   exact Qa5 (j+1) ⟨kj,kj,kj,kj,kj,kj,trivial⟩ ⟨(by omega),(QaH r8_14 (by rw [show qsN x0 (j+1)=qrt (qsN x0 j) (qn j 0) (qn j 1) (qn j 2) (qn j 3) from rfl]; unfold qrt; simp only [List.map_set])),(zbs (zbs (zbs (zbs (zbr (zbs (zbr q7 e8) p9 (.inr (qT (Qaf.size q7) (qT (qR _) l22)))) e10) p11 (.inl (by simp))) p12 (.inl (by simp))) p13 (.inl (by simp))) p14 (.inl (by simp))),(zbi p14 (zbi p13 (zbi p12 x11 b8) b8) b8)⟩ (by show 8-(j+1)<8-j; omega)
  ·skip
   have heq20:j=8:=by have:=of_decide_eq_false c19; omega
   refine wp_exit <| hK14 _ _ <| Qae <| Qab (.int .i64 ((i+1:Nat):Int)) 57 rfl kj (Qah (u:=.int .i64 (zaz.wrap (((i:Nat):Int)+1))) kj (congrArg (zau .i64) (i64n _ _ (by omega) (by omega)))) <| sg 1 kj <| Qal ?_
   repeat (first | with_reducible refine goX1 ?_ | with_reducible refine goX2 ?_ | with_reducible refine goX3 ?_)
   exact Qa5 (i+1) ⟨kj,kj,kj,kj,trivial⟩ ⟨(by omega),(QaH q8_2 (by rw [heq20,ex0]; rfl)),(Qaf.keeps q6 q7 (QfS (.inl (by simp)) QhR)),xx2⟩ (by omega)
 ·skip
  have heq17:i=10:=by have:=of_decide_eq_false c13; omega
  obtain ⟨xF,exF⟩:∃ z:List Wd,z=rounds s 10:=⟨_,rfl⟩
  have hxF:xF.length=16:=by rw [exF,Qej,hs]
  subst heq17
  have r8_6_23:V1.heap[g8]? = some (.cells (ints .u32 (xF.map wv)) 120):=QaH q8_1 (by rw [exF])
  refine wp_exit <| hK9 _ _ <| sgC fun K24 hK24=>Qar (ints .u8 (zac 64 0)) 102 8 rfl kj kj fun g25 W7 l25 e7 r25_7=>sgN hK24 <| wp_seq_k fun K26 hK26=>sgB kj <| wp_block ?_
  have hP:(Qci xF s).length=64:=Qf2 _ _
  refine QaF (fun (s3:Nat)=>[(2,.pointer (some ⟨g3,0,none⟩)),(4,.pointer (some ⟨g4,0,none⟩)),(5,.pointer (some ⟨g8,0,none⟩)),(8,.pointer (some ⟨g25,0,none⟩)),(58,.int .i64 ((s3:Nat):Int))]) (fun (s3:Nat) W=>(s3≤16)∧(W.heap[g25]? = some (.cells (ints .u8 (QbH (Qci xF s) 64 (4*s3))) 102))∧(Qaf [g25] W7 W)∧(Ext w W)) (fun (s3:Nat)=>16-s3) 0 ⟨kj,kj,kj,kj,kj,trivial⟩ ⟨(zaw _),(QaH r25_7 (Qcp _ 64)),(zbp [g25] W7),(zbj xx1 e7)⟩ fun s3 X3 V3 hI3=>?_
  obtain ⟨i,hs3⟩:∃ z,z=s3:=⟨_,rfl⟩
  subst hs3
  obtain ⟨hi,q25_3,kk3,xx3⟩:=hI3
  replace hi:i≤16:=hi
  replace q25_3:V3.heap[g25]? = some (.cells (ints .u8 (QbH (Qci xF s) 64 (4*i))) 102):=q25_3
  replace kk3:Qaf [g25] W7 V3:=kk3
  replace xx3:Ext w V3:=xx3
  have q8:=kk3
  refine sgB kj <| wp_seq_k fun K29 hK29=>Qa2 (t:=decide (((i:Nat):Int)<16)) kj (fun c30=>?_) (fun c30=>?_)
  ·skip
   have hlt59:i<16:=by have:=of_decide_eq_true c30; omega
   refine wp_skip <| hK29 _ _ <| wp_seq_k fun K31 hK31=>wp_block <| sgB kj <| wp_seq_k fun K33 hK33=>QaL 7 [⟨none,[(9,none)]⟩,⟨none,[(5,none),(61,some 0)]⟩,⟨none,[(62,some 1)]⟩,⟨none,[(9,none)]⟩,⟨none,[(2,none),(64,some 3)]⟩,⟨none,[(65,some 4)]⟩,⟨none,[(63,some 2),(66,some 5)]⟩] kj kj fun F hF=>Qak (.int .i64 ((i:Nat):Int)) kj kj (fun _=>kj) <| Qak (.pointer (some ⟨g8,i,none⟩)) kj kj (fun W=>(QaC _ _ _ .i64 (i) _ 16 119 rfl kj kj kj kj (by omega))) ?_
   have r8_8:=(zbq q8 (Qaa r8_6_23 e7) (Qax (Qag r8_6_23 l25) QaE))
   refine Qa7 (.int .u32 (wv (wget xF i))) kj kj (fun W hR=>(Qad 119 _ g8 i 120 _ (.int .u32 (wv (wget xF i))) _ (Qaa (Qaa r8_8 (Qaj _)) hR) rfl kj ((QaG _ _ _ (zav (by omega) (Qcw hxF).symm)).trans (congrArg (fun z=>some (zau .u32 z)) (QbZ xF i))) kj)) <| Qak (.int .i64 ((i:Nat):Int)) kj kj (fun _=>kj) <| Qak (.pointer (some ⟨g3,i,none⟩)) kj kj (fun W=>(QaC _ _ _ .i64 (i) _ 16 119 rfl kj kj kj kj (by omega))) ?_
   have r3_6:=(zbq q6 (rpn p5 r3_3_6 e4 l8) (Qax (Qag r3_3_6 l8) QaE))
   refine Qa7 (.int .u32 (wv (wget s i))) kj kj (fun W hR=>(Qad 119 _ g3 i 120 _ (.int .u32 (wv (wget s i))) _ (Qaa (Qaa (zbq q8 (Qaa r3_6 e7) (Qax (Qag r3_6 l25) QaE)) (Qaj _)) hR) rfl kj ((QaG _ _ _ (zav (by omega) (Qcw hs).symm)).trans (congrArg (fun z=>some (zau .u32 z)) (QbZ s i))) kj)) <| Qak (.int .u32 (wv (((wget xF i))+((wget s i))))) kj kj (fun W=>(Qah kj (congrArg (zau .u32) (QdG _ _)))) <| QaQ (hF _ kj fun W9 e9=>?_)
   simp only [ups,up,Kn.val,za0,zaf,za1,za2,zax,zay]
   clear hF
   have x9:=zbj xx3 e9
   refine sg 1 kj <| sgN hK33 <| sgB kj <| wp_block <| QaF (fun (s4:Nat)=>[(2,.pointer (some ⟨g3,0,none⟩)),(4,.pointer (some ⟨g4,0,none⟩)),(5,.pointer (some ⟨g8,0,none⟩)),(8,.pointer (some ⟨g25,0,none⟩)),(58,.int .i64 ((i:Nat):Int)),(9,.int .i64 ((i:Nat):Int)),(10,.int .u32 (wv (wget xF i+wget s i))),(68,.int .i64 ((s4:Nat):Int))]) (fun (s4:Nat) W=>(s4≤4)∧(W.heap[g25]? = some (.cells (ints .u8 (QbH (Qci xF s) 64 (4*i+s4))) 102))∧(Qaf [g25] W9 W)∧(Ext w W)) (fun (s4:Nat)=>4-s4) 0 ⟨kj,kj,kj,kj,kj,kj,kj,kj,trivial⟩ ⟨(zaw _),(QaH (Qaa q25_3 e9) rfl),(zbp [g25] W9),x9⟩ fun s4 X4 V4 hI4=>?_
   obtain ⟨j,hs4⟩:∃ z,z=s4:=⟨_,rfl⟩
   subst hs4
   obtain ⟨hj,q25_4,kk4,xx4⟩:=hI4
   replace hj:j≤4:=hj
   replace q25_4:V4.heap[g25]? = some (.cells (ints .u8 (QbH (Qci xF s) 64 (4*i+j))) 102):=q25_4
   replace kk4:Qaf [g25] W9 V4:=kk4
   replace xx4:Ext w V4:=xx4
   have q10:=kk4
   refine sgB kj <| wp_seq_k fun K36 hK36=>Qa2 (t:=decide (((j:Nat):Int)<4)) kj (fun c37=>?_) (fun c37=>?_)
   ·skip
    have hlt69:j<4:=by have:=of_decide_eq_true c37; omega
    refine wp_skip <| hK36 _ _ <| wp_seq_k fun K38 hK38=>wp_block <| sgB kj <| Qae <| sg 1 kj <| Qab (.int .i64 ((4*i:Nat):Int)) 72 rfl kj (Qah (u:=.int .i64 (zaz.wrap (4*((i:Nat):Int)))) kj (congrArg (zau .i64) (i64n _ _ (by omega) (by omega)))) <| sg 1 kj <| Qab (.int .i64 (((4*i)+j:Nat):Int)) 74 rfl kj (Qah (u:=.int .i64 (zaz.wrap (((4*i:Nat):Int)+((j:Nat):Int)))) kj (congrArg (zau .i64) (i64n _ _ (by omega) (by omega)))) ?_
    refine sg 2 kj <| Qab (.int .i64 ((8*j:Nat):Int)) 77 rfl kj (Qah (u:=.int .i64 (zaz.wrap (8*((j:Nat):Int)))) kj (congrArg (zau .i64) (i64n _ _ (by omega) (by omega)))) <| Qab (.int .u32 (wv ((wget xF i+wget s i)>>>(8*j)))) 78 rfl kj (QaM .shr _ _ _ _ .u32 .i64 _ _ _ rfl kj kj (QbW _ _ _ _ _ _ (by omega) (Qi0 _ _ (8*j) rfl (by omega)))) <| Qab (.int .u8 (nth (Qci xF s) (4*i+j))) 79 rfl kj (Qah (u:=.int .u8 (zao.wrap (wv ((wget xF i+wget s i)>>>(8*j))))) kj (congrArg (zau .u8) (QoX xF s i j hlt59 hlt69))) <| Qab (.pointer (some ⟨g25,(4*i)+j,none⟩)) 80 rfl kj (QaC _ _ _ .i64 ((4*i)+j) _ 64 5 rfl kj kj kj kj (by omega)) <| Qan g25 _ (ints .u8 ((QbH (Qci xF s) 64 (4*i+j)).set ((4*i)+j) (nth (Qci xF s) (4*i+j)))) 102 q25_4 rfl kj (Qa1 5 _ _ g25 ((4*i)+j) 102 _ _ q25_4 rfl kj kj kj (zav (by omega) (QcB _ 64 _ hP (by omega)).symm)) fun W11 p11 r25_11=>?_
    have x11:=zbi p11 xx4 (qT xx1.size l25)
    refine Qal <| hK38 _ _ <| Qae <| Qab (.int .i64 ((j+1:Nat):Int)) 81 rfl kj (Qah (u:=.int .i64 (zaz.wrap (((j:Nat):Int)+1))) kj (congrArg (zau .i64) (i64n _ _ (by omega) (by omega)))) <| sg 1 kj <| Qal ?_
    repeat (first | with_reducible refine goX1 ?_ | with_reducible refine goX2 ?_ | with_reducible refine goX3 ?_)
    exact Qa5 (j+1) ⟨kj,kj,kj,kj,kj,kj,kj,kj,trivial⟩ ⟨(by omega),(QaH r25_11 (Qcq _ 64 (4*i+j) hP (by omega))),(zbs q10 p11 (.inl (by simp))),x11⟩ (by omega)
   ·skip
    have heq69:j=4:=by have:=of_decide_eq_false c37; omega
    refine wp_exit <| hK31 _ _ <| Qae <| Qab (.int .i64 ((i+1:Nat):Int)) 82 rfl kj (Qah (u:=.int .i64 (zaz.wrap (((i:Nat):Int)+1))) kj (congrArg (zau .i64) (i64n _ _ (by omega) (by omega)))) <| sg 1 kj <| Qal ?_
    repeat (first | with_reducible refine goX1 ?_ | with_reducible refine goX2 ?_ | with_reducible refine goX3 ?_)
    exact Qa5 (i+1) ⟨kj,kj,kj,kj,kj,trivial⟩ ⟨(by omega),(QaH q25_4 (by rw [heq69]; rfl)),(Qaf.keeps (zbr q8 e9) q10 (QfS (.inl (by simp)) QhR)),xx4⟩ (by omega)
  ·skip
   have heq59:i=16:=by have:=of_decide_eq_false c30; omega
   subst heq59
   have r25_8_40:V3.heap[g25]? = some (.cells (ints .u8 (Qci xF s)) 102):=QaH q25_3 (Qcb _ 64 hP)
   refine wp_exit <| hK26 _ _ <| sgC fun K41 hK41=>Qab (.agg (ints .u8 (Qci xF s))) 83 rfl kj (Qap 102 _ g25 102 _ _ r25_8_40 rfl kj kj (isz (n:=64) kj (izT hP))) ?_
   have r4_3:=(zbh p3 r4_2 (QaJ r3_1 l4))
   have r4_6:=(zbq q6 (rpn p5 r4_3 e4 l8) (Qax (Qag r4_3 l8) QaE))
   have r4_8:=(zbq q8 (Qaa r4_6 e7) (Qax (Qag r4_6 l25) QaE))
   refine Qan g4 _ (ints .u8 (Qci xF s)) 102 r4_8 rfl kj (Qao 102 _ _ g4 102 _ _ r4_8 rfl kj kj (isz (n:=64) kj (izT hP)) (eqsz (n:=64) (izT (qZ (n:=64))) (izT hP)) (Qay _ _)) fun W9 p9 r4_9=>?_
   have x9:=zbi p9 xx3 (qT x1.size l4)
   refine sgN hK41 <| wp_ret ?_
   repeat (first | with_reducible refine goR1 ?_ | with_reducible refine goR2 ?_)
   exact (show bodyPost _ _ _ .ret _ _ from ret1 (.agg (ints .u8 (Qci xF s))) rfl (QaP g4 102 _ r4_9 kj kj (isz (n:=64) kj (izT hP))) ⟨by unfold Qbu; rw [exF,es],x9⟩)
end Cha
end
section
namespace Cha
open Go Go.RowKit
open Rely Auto Own Sha
open Sha
def QaZ (key nonce:List Int):List Wd:=[1634760805,857760878,2036477234,1797285236,le4 (sub4 key 0),le4 (sub4 key 1),le4 (sub4 key 2),le4 (sub4 key 3),le4 (sub4 key 4),le4 (sub4 key 5),le4 (sub4 key 6),le4 (sub4 key 7),0,le4 (sub4 nonce 0),le4 (sub4 nonce 1),le4 (sub4 nonce 2)]
theorem Qd4 (key nonce:List Int):(QaZ key nonce).length=16:=rfl
theorem QlO (key nonce:List Int):([1634760805,857760878,2036477234,1797285236,wv (le4 (sub4 key 0)),wv (le4 (sub4 key 1)),wv (le4 (sub4 key 2)),wv (le4 (sub4 key 3)),wv (le4 (sub4 key 4)),wv (le4 (sub4 key 5)),wv (le4 (sub4 key 6)),wv (le4 (sub4 key 7)),0,wv (le4 (sub4 nonce 0)),wv (le4 (sub4 nonce 1)),wv (le4 (sub4 nonce 2))]:List Int)=(QaZ key nonce).map wv:=rfl
theorem QbG (ws : List Wd) (n:Int):(Qbu ws n).length=64:=Qf2 _ _
set_option maxRecDepth 100000 in
theorem Qno (key nonce:List Int) (v:Value) (B:Nat) (number:Int) (th tq:TypeId) (w:World) (hh:w.heap[0]? = some (.cells (ints .u32 qH) th)) (hq:w.heap[1]? = some (.cells (ints .i64 qQ) tq)) (hkl:key.length=32) (hn:RdK .u8 B nonce v w) (h:nonce.length=12) (h1:0≤number) (h2:number≤4294967295):Calls Tryd.prog 46 #[.agg (ints .u8 key),v,.int .i64 number] w (Ret w (.tuple #[.agg (ints .u8 (Qbu (QaZ key nonce) number)),.nilIface])):=by
  obtain ⟨a_n,c_n,rfl,-⟩:=id hn
  refine enter 21 [(0,.agg (ints .u8 (key))),(1,.slice a_n nonce.length c_n),(2,.int .i64 number)] Tryd.func46 rfl rfl kj rfl <| sgC fun K3 hK3=>Qar (ints .u8 (key)) 58 3 rfl kj kj fun g4 W1 l4 e1 r4_1=>?_
  have x1:=zbj (zbf w) e1
  have b4:=qT (zbf w).size l4
  refine Qar (ints .u8 (zac 64 0)) 102 6 rfl kj kj fun g5 W2 l5 e2 r5_2=>?_
  have x2:=zbj x1 e2
  refine sg 1 kj <| sgN hK3 <| wp_seq_k fun K6 hK6=>sgC fun K7 hK7=>sg 2 kj <| Qau (.nilIface) 44 #[.slice a_n nonce.length c_n,.int .i64 number] 11 rfl kj kj ((check_D nonce _ _ number _ (RdK.ext hn x2) h h1 h2)) fun W3 e3=>?_
  have x3:=zbj x2 e3
  refine sg 1 kj <| sgN hK7 <| sgB kj <| cond_false kj <| wp_skip <| hK6 _ _ <| sgC fun K9 hK9=>Qab (.agg (ints .u8 (key))) 16 rfl kj (Qap 58 _ g4 58 _ _ (Qaa (Qaa r4_1 e2) e3) rfl kj kj (isz (n:=32) kj (izT hkl))) <| sg 1 kj <| Qau (.agg (ints .u32 ((QaZ key nonce).map wv))) 63 #[.agg (ints .u8 (key)),.slice a_n nonce.length c_n] 18 rfl kj kj ((by rw [←QlO]; exact QlP key nonce _ _ th _ (Qaa (Qaa (Qaa hh e1) e2) e3) hkl (RdK.ext hn x3) h)) fun W4 e4=>?_
  refine sg 1 kj <| Qau (.agg (ints .u8 (Qbu (QaZ key nonce) number))) 65 #[.agg (ints .u32 ((QaZ key nonce).map wv)),.int .i64 number] 20 rfl kj kj ((QlW (QaZ key nonce) number tq _ (Qaa (Qaa (Qaa (Qaa hq e1) e2) e3) e4) (Qd4 _ _))) fun W5 e5=>?_
  have r5_5:=(Qaa (Qaa (Qaa r5_2 e3) e4) e5)
  refine Qan g5 _ (ints .u8 (Qbu (QaZ key nonce) number)) 102 r5_5 rfl kj (Qao 102 _ _ g5 102 _ _ r5_5 rfl kj kj (isz (n:=64) kj (izT (QbG _ _))) (eqsz (n:=64) (izT (qZ (n:=64))) (izT (QbG _ _))) (Qay _ _)) fun W6 p6 r5_6=>sg 1 kj <| sgN hK9 <| wp_ret ?_
  repeat (first | with_reducible refine goR1 ?_ | with_reducible refine goR2 ?_)
  exact (show bodyPost _ _ _ .ret _ _ from ret2 (.agg (ints .u8 (Qbu (QaZ key nonce) number))) (.nilIface) rfl (QaP g5 102 _ r5_6 kj kj (isz (n:=64) kj (izT (QbG _ _)))) (Qaz kj) ⟨rfl,(zbi p6 (zbj (zbj x3 e4) e5) (qT x1.size l5))⟩)
end Cha
end
section
namespace Cha
open Go Go.RowKit
open Rely Auto Own Sha
open Sha
theorem Qbj {b : List Int} (h:Qai b) (j:Nat):0≤nth b j∧nth b j<256:=by
  unfold nth
  rw [zap]
  rcases za3 j b.length with hj | hj
  · rw [zak hj]
    have h1:=h _ (List.getElem_mem hj)
    show 0≤b[j]∧b[j]<256
    omega
  · rw [za4 hj]; decide
def mxv (text : List Int) (ws:List Wd) (num:Int) (f:Nat→Nat) (m:Nat):List Int:=(zam m).map fun i=>bits .xor .u8 (nth text i) (nth (Qbu ws (num+((f (i/64):Nat):Int))) (i%64))
def mixV (ws : List Wd) (num:Int) (text:List Int):List Int:=mxv text ws num id text.length
theorem QdM (text : List Int) (ws:List Wd) (num:Int) (f:Nat→Nat) (m:Nat):(mxv text ws num f m).length=m:=by simp [mxv]
end Cha
end
section
namespace Sha
open Go Go.RowKit
open Rely Auto Own
theorem QhI {k : IntKind} {B:Nat} {ys:List Int} {a:Option Addr} {n c:Nat} {W:World} (h:RdK k B ys (.slice a n c) W) (h0:0<ys.length):∃ g o,a=some ⟨g,o,none⟩∧g<B∧∀ i,i<ys.length→W.cell? ⟨g,o+i,none⟩=some (.int k (nth ys i)):=by
  obtain ⟨a',cap',e,h2,h3,h4,h5⟩:=h
  simp only [za5.injEq] at e
  obtain ⟨rfl,-,-⟩:=e
  rcases h5 with h5 | ⟨g,o,q1,q2,q3,q4⟩
  · rw [h5] at h0; simp at h0
  · exact ⟨g,o,q1,q2,q4⟩
section
variable {P : Program} {ρ : Operand → Value} {o : Oper} {w : World}
theorem Qcn (t : TypeId) (x y:Operand) (k:IntKind) (n g off len cap:Nat) (e:TypeId) (a:Option Addr) (z:Int) (ha:a=some ⟨g,off,none⟩) (hz:z=(n:Int)) (ho:o.op=.indexAddr t x y) (hx:ρ x=.slice a len cap) (hy:ρ y=.int k z)
    (hu:P.underlying t=some (.slice e)) (hs:(P.info? e).map (·.size)=some 1) (hn:n<len):(execOp ρ o).run P w=.ok (.value (.pointer (some ⟨g,off+n,none⟩))) w:=by
  subst ha; subst hz
  exact Qcm t x y k n g off len cap e ho hx hy hu hs hn
end
theorem run_extractT {P : Program} {ρ:Operand→Value} {o:Oper} {w:World} (x:Operand) (i:Nat) (vs:Array Value) (u:Value) (ho:o.op=.extract x i) (hx:ρ x=.tuple vs) (hi:vs[i]? = some u):(execOp ρ o).run P w=.ok (.value u) w:=by
  unfold execOp
  simp [ho,hx,Instr.extract,hi]
theorem nb_new {k : IntKind} {T:TypeId} {base g:Nat} {xs:List Int} {v:Value} {W:World} (h:OwnN k T base xs v W) (hg:W.heap.size≤g):v.ownBlock≠some g:=fun e=>by have:=h.lt e; omega
theorem Qn9 (zs : List Int) (m:Nat) (y:Int) (h:m<zs.length):zs.take m++[y]++zs.drop (m+1)=zs.set m y:=by
  rw [List.set_eq_take_append_cons_drop,if_pos h,zal]; rfl
theorem Qgx {P : Program} {k:IntKind} {T:TypeId} {b:Nat} {ρ:Operand→Value} {o:Oper} {W:World} (s x:Operand) (t:TypeId) (ho:o.op=.call { callee:=.builtin .append,args:=#[s,x],argTypes:=#[t,t] })
    (ht:P.underlying t=some (.slice T)) (hi:(P.info? T).map (fun i=>(i.zero,i.size,i.bytes))=some (some (.int k 0),1,b)) {g m n gy:Nat} {zs:List Int} {y:Int} {Ty:TypeId} (hs:ρ s=.slice (some ⟨g,0,none⟩) m n) (hx:ρ x=.slice (some ⟨gy,0,none⟩) 1 1)
    (hg:W.heap[g]? = some (.cells (ints k zs) T)) (hz:zs.length=n) (hm:m<n) (hy:W.heap[gy]? = some (.cells (ints k [y]) Ty)) :
    (execOp ρ o).run P W=.ok (.value (.slice (some ⟨g,0,none⟩) (m+1) n)) (W.setRow g (ints k (zs.set m y))):=by
  obtain ⟨i,hq,hi1,hi2,hi3⟩:=QmR hi
  have hr:=run_append_room (P:=P) W t o.type T i ht hq g m n (ints k zs) hg ⟨gy,0,none⟩ 1 1 ([y].map (zau k)) (by simp [hi2]) (QiR (k:=k) (ys:=[y]) fun j hj=>by rw [Nat.zero_add]; exact Qdb hy (QaG k [y] j hj)) (QiN _ [y]) (by omega) (by rw [hi2,Qat]; simp; omega)
  have e:((ints k zs).toList.take (m*i.size)++[y].map (zau k)++(ints k zs).toList.drop (m*i.size+([y].map (zau k)).length)).toArray=ints k (zs.set m y):=by
    rw [←Qn9 zs m y (by omega),hi2,Nat.mul_one]
    simp [ints]
  rw [e] at hr
  unfold execOp
  simp only [ho,resolve,invoke,builtin,za6,za7,za8,za9,List.map_cons,List.map_nil,hs,hx,hr]
section
variable {ds : List Deferred} {Fe : Fence} {nf : Nat} {P : Program} {ops : Array Oper} {Q : Exit → Act → World → Prop} {rest : List Oper} {o : Oper} {N : Nat} {L : Env} {w : World}
theorem QmS {g : Nat} {old cs:Array Value} {T:TypeId} (v:Value) (d:Nat) (hd:o.dst=some d) (hF:Free Fe nf P) (hnd:Qco o=true) (hg:Qbm ops o N L=some true) (r:w.heap[g]? = some (.cells old T)) (h:(execOp (Rely.look (envN N L)) o).run P w=.ok (.value v) (w.setRow g cs))
    (k:∀ W':World,Puts w g W'→W'.heap[g]? = some (.cells cs T)→WLI Fe nf P ops Q rest (Qaw ds N ((d,v)::L)) W'):WLI Fe nf P ops Q (o::rest) (Qaw ds N L) w :=
  Qkj _ _ d hd hF hnd hg h (k _ (QaV _ _ _) (setRow_heap _ _ _ _ _ _ r))
end
section
variable {ds : List Deferred} {P : Program} {ops : Array Oper} {Q : Exit → Act → World → Prop} {rest : List Oper} {o : Oper} {N : Nat} {L : Env} {w : World}
theorem Qjv (cs : Array Value) (T:TypeId) (m n d:Nat) (hd:o.dst=some d) (hg:Qbm ops o N L=some true) (h:(execOp (Rely.look (envN N L)) o).run P w=.ok (.value (.slice (some ⟨w.heap.size,0,none⟩) m n)) (w.alloc (.cells cs T)))
    (k:∀ (g:Nat) (W:World),w.heap.size≤g→Ext w W→W.heap[g]? = some (.cells cs T)→WL P ops Q rest (Qaw ds N ((d,.slice (some ⟨g,0,none⟩) m n)::L)) W):WL P ops Q (o::rest) (Qaw ds N L) w :=
  Qbz _ _ d hd hg h (k _ _ (qR _) (Qbb _ _) (heap_alloc_new _ _))
end
theorem Qj0 {P : Program} {ρ:Operand→Value} {o:Oper} {w:World} {k:IntKind} (t:TypeId) (x y:Operand) (kl kc:IntKind) (m n:Nat) (e:TypeId) (ho:o.op=.makeSlice t x y) (hx:ρ x=.int kl m) (hy:ρ y=.int kc n)
    (hu:P.underlying t=some (.slice e)) (hi:(P.info? e).map (fun i=>(i.zero,i.size,i.bytes))=some (some (.int k 0),1,8)∨(P.info? e).map (fun i=>(i.zero,i.size,i.bytes))=some (some (.int k 0),1,1)) (hm:m≤n) (hn:n≤16777216) :
    (execOp ρ o).run P w=.ok (.value (.slice (some ⟨w.heap.size,0,none⟩) m n)) (w.alloc (.cells (ints k (zac n 0)) e)):=by
  cases hq:P.info? e with
  | none=>rcases hi with hi | hi <;> simp [hq] at hi
  | some i =>
    have hz:i.zero=some (.int k 0)∧i.size=1∧i.bytes≤8:=by
      rcases hi with hi | hi <;> simp [hq] at hi <;> exact ⟨hi.1,hi.2.1,by omega⟩
    have hb:(i.bytes:Int)*(n:Int)≤281474976710656:=by
      have h1:(i.bytes:Int)*(n:Int)≤8*(n:Int):=zaA (by omega) (by omega)
      omega
    have h:=run_make w t e i (.int k 0) hu hq hz.1 kl kc (m:Int) (n:Int) (by omega) (by omega) hb (by omega)
    rw [hz.2.1,zaB,zaB,Qfe] at h
    unfold execOp
    simp only [ho,hx,hy,za6,za7,h,za8]
theorem Qe3 {gs : List Nat} {V W:World} (q:Qaf gs V W) (h:∀ g∈gs,∃ cs t,V.heap[g]? = some (.cells cs t)):KeepsOthers V W :=
  ⟨q.size,fun k o hk ho=>by
    by_cases e:k∈gs
    · obtain ⟨cs,t,r⟩:=h k e
      rw [r] at hk
      cases hk
      cases ho
    · exact (q.block k (Qaq hk) e).trans hk⟩
end Sha
end
section
namespace Auto
open Go Go.RowKit
open Rely Own
variable {ds : List Deferred}
theorem Qhl {α : Type} {P:Program} {g:Operand} {p:Tmp} {assign body:Code} {Q:Exit→Act→World→Prop} {N:Nat} {L:Env} {w:World}
    {gf:Nat} {lb:Array Value} (hg:Rely.look (envN N L) g=.func (.func gf) #[] lb) (eg:∀ args w,(callFunc gf args).run P w=.ok (.enter gf args) w)
    {enc:α→Value} {Kp:World→World→Prop} {S Sp:List α→Prop} {M:Nat} {w0:World} (hseq:SeqStopsK Fence.wide 2 P gf lb (fun x=>#[enc x]) Kp S Sp M w0)
    (hKt:∀ {A B C:World},Kp A B→Kp B C→Kp A C) (hKb:∀ (W:World) (l:Nat) (o o':Obj),w.heap.size≤l→W.heap[l]? = some o→o.isCells=false→o.isWalk=false→Kp W (W.putObj l o')) (hb0:Below w0.heap.size w0 w)
    (I:List α→World→Prop) (Ix:Code→List α→World→Prop) (hI:OwnFrom w.heap.size I) (hIx:∀ c,OwnFrom w.heap.size (Ix c)) (h0:I [] w)
    (hKe:∀ {A B:World},Ext A B→Kp A B) (hIe:∀ pre {A B:World},I pre A→Ext A B→I pre B) (hIs:∀ pre W,I pre W→w.heap.size≤W.heap.size)
    (asg:α→Nat→Env) (cs:α→Array Value) (T:TypeId)
    (hassign:∀ (l:Nat) (x:α) (W:World) (K:Act→World→Prop),(∀ g W',W.heap.size≤g→Ext W W'→W'.heap[g]? = some (.cells (cs x) T)→K (Qaw [] N (asg x g++L)) W')→assign.wpIn (Fence.wide.inRound l) 1 P (Exit.then K (fun _ _ _=>False)) (Qaw [] N ((p,enc x)::L)) W)
    (hbody:∀ (l:Nat) (pre:List α) (x:α) (g:Nat) (W:World),w.heap.size≤g→I pre W→W.heap[g]? = some (.cells (cs x) T)→pre.length<M→body.wpIn (Fence.wide.inRound l) 1 P (ownPostK Kp I Ix (pre++[x]) W) (Qaw [] N (asg x g++L)) W)
    (hdone:∀ (D:Nat) (xs:List α) (W:World),w.heap.size≤D→S xs→I xs W→W.heap[D]? = some (.deferred (some []))→Q .normal (Qaw (mark D::ds) N L) W)
    (hstop:∀ (D:Nat) (c:Code) (pre:List α) (W:World),w.heap.size≤D→Sp pre→Ix c pre W→W.heap[D]? = some (.deferred (some []))→c.wp P Q (Qaw (mark D::ds) N L) W) :
    (zaC g #[p] assign body).wp P Q (Qaw ds N L) w:=by
  refine (wpIn_wide (n:=3)).1 <| wpIn_rangeFunc_ownH rfl (by omega) (by rw [QaO]; exact hg) trivial eg (w0:=w0) hseq hKt hKb hb0 (fun _=>rfl) I Ix hI hIx h0
    (fun x a' W=>∃ g,a'=Qaw [] N (asg x g++L)∧w.heap.size≤g∧W.heap[g]? = some (.cells (cs x) T)) ?_ (fun l pre x W K hi hK=>?_) ?_ ?_ ?_
  · rintro x a' _ X Y row ⟨g,e,hl,r⟩ hgr hr
    exact ⟨g,e,hl,QbD r hgr (fun q e=>(hr q e).2)⟩
  · rw [Qhi]
    refine hassign l x W K fun g W' hg' e r=>hK _ _ ((QgG e).from _) (hKe e) (hIe pre hi e) ⟨g,rfl,qT (hIs pre W hi) hg',r⟩
  · rintro l pre x a' W _ _ hi ⟨g,rfl,hl,r⟩ hlen
    exact wpIn_mono (hbody l pre x g W hl hi r hlen) ownPostG_of_ownPostK
  · intro D xs W h1 h2 h3 h4
    exact hdone D xs W h1 h2 h3 h4
  · intro D c pre W h1 h2 h3 h4
    exact wpIn_wide.2 (hstop D c pre W h1 h2 h3 h4)
section
variable {P : Program} {R : World → World → Prop} {w0 : World} {N : Nat} {L : Env} {F : List KE → Prop} {o : Oper} {os : List Oper} {s : Src} {ss : List Src} {C : List KE}
theorem x_op (k : KE) (hk0:k.ok R) (hs:seen (C.map KE.kn) o s=true) (hg:gOk s.guard (get (envS N L ((C.map KE.kn).map Kn.val) s.reads))=true)
    (h:∀ W,R w0 W→Qcs P R W k.fact ((execOp (Rely.look (get (envS N L ((C.map KE.kn).map Kn.val) s.reads))) o).run P W))
    (hk:Qbt P R w0 N L F os ss (C++[k])):Qbt P R w0 N L F (o::os) (s::ss) C :=
  ⟨k,hk0,fun ρ W hR hh=>by
    have hh':Qc4 (envN N L) ((C.map KE.kn).map (Kn.fact 0)) ρ W s.reads:=by
      refine Qie s.reads ?_ hh
      have:=hs
      simp only [seen,Bool.and_eq_true] at this
      exact this.1.1.2
    rw [Qck hs hh']
    refine Qca hg ?_
    unfold QcE
    rw [QcR hs hh']
    exact h W hR,hk⟩
theorem Qjj (hrf : ∀ W,R W W) (v:Value) (hs:seen (C.map KE.kn) o s=true) (hg:gOk s.guard (get (envS N L ((C.map KE.kn).map Kn.val) s.reads))=true)
    (h:∀ W,R w0 W→(execOp (Rely.look (get (envS N L ((C.map KE.kn).map Kn.val) s.reads))) o).run P W=.ok (.value v) W)
    (hk:Qbt P R w0 N L F os ss (C++[.is v])):Qbt P R w0 N L F (o::os) (s::ss) C :=
  x_op (.is v) trivial hs hg (fun W hR=>by rw [h W hR]; exact ⟨hrf _,rfl⟩) hk
theorem Qot (φ : Fact) (hφ:Qb9 R φ) (hs:seen (C.map KE.kn) o s=true) (hg:gOk s.guard (get (envS N L ((C.map KE.kn).map Kn.val) s.reads))=true)
    (h:∀ W,R w0 W→∃ v W',(execOp (Rely.look (get (envS N L ((C.map KE.kn).map Kn.val) s.reads))) o).run P W=.ok (.value v) W'∧R W W'∧φ v W')
    (hk:Qbt P R w0 N L F os ss (C++[.ex φ])):Qbt P R w0 N L F (o::os) (s::ss) C :=
  x_op (.ex φ) hφ hs hg (fun W hR=>by obtain ⟨v,W',e,r,q⟩:=h W hR; rw [e]; exact ⟨r,q⟩) hk
end
theorem QfB {P : Program} {Fe:Fence} {nf:Nat} {id:Nat} {Q:Exit→Act→World→Prop} {N:Nat} {L:Env} {w:World} {l:List Oper} (R:World→World→Prop) (hrf:∀ W,R W W) (htr:∀ {a b c:World},R a b→R b c→R a c) (n:Nat) (S:List Src) (hFr:Free Fe nf P) (hdf:(l.all Qco)=true) (hm:P.follows .mixedOrders=true) (hok:ok l n N S=true)
    (h:∀ F:List KE→Prop,(∀ C,(∀ W,R w.drew W→finE (fun L W=>WLI Fe nf P l.toArray Q (l.drop n) (Qaw ds N L) W) (l.take n) C L W)→F C)→Qbt P R w.drew N L F (l.take n) S []) :
    (Code.region id l.toArray true).wpIn Fe nf P Q (Qaw ds N L) w:=by
  refine Qe9 R n N S hFr.fn hFr.dp hFr.calls hdf hm hok (QcQ N L) hrf (fun a b=>htr a b) fun F r0 hr hF=>?_
  rw [QbN] at hr
  subst hr
  have:=h (fun C=>∀ W,R w.drew W→finE (fun L W=>WLI Fe nf P l.toArray Q (l.drop n) (Qaw ds N L) W) (l.take n) C L W) (fun C h=>h)
  exact Qc2 (G:=F) (fun C h=>hF.out fun W hR=>Qkr (Q:=fun a W=>wpListIn Fe nf P l.toArray Q (l.drop n) a W) _ _ _ (Qdw (fun L W h=>h.out) _ _ _ _ (h W hR))) _ _ [] this
def QcZ (g : Nat) (X Y:Obj) (A B:World):Prop:=ExtB g A B∧(B.heap[g]? = A.heap[g]?∨B.heap[g]? = some Y)
theorem Qkz (g : Nat) (A:World):ExtB g A A:=⟨rfl,rfl,rfl,qR _,fun _ _ _=>rfl⟩
theorem extB_trans {g : Nat} {A B C:World} (h:ExtB g A B) (k:ExtB g B C):ExtB g A C :=
  ⟨k.1.trans h.1,k.2.1.trans h.2.1,k.2.2.1.trans h.2.2.1,qT h.2.2.2.1 k.2.2.2.1,fun i hi hn=>(k.2.2.2.2 i (qL hi h.2.2.2.1) hn).trans (h.2.2.2.2 i hi hn)⟩
theorem QcZ.refl (g : Nat) (X Y:Obj) (A:World):QcZ g X Y A A:=⟨Qkz g A,.inl rfl⟩
theorem QcZ.trans {g : Nat} {X Y:Obj} {A B C:World} (h:QcZ g X Y A B) (k:QcZ g X Y B C):QcZ g X Y A C :=
  ⟨extB_trans h.1 k.1,by
    rcases k.2 with q | q
    · rcases h.2 with r | r
      · exact .inl (q.trans r)
      · exact .inr (q.trans r)
    · exact .inr q⟩
theorem QcZ.row {g : Nat} {X Y:Obj} {A B:World} (h:QcZ g X Y A B) (hX:A.heap[g]? = some X):B.heap[g]? = some X∨B.heap[g]? = some Y:=by
  rcases h.2 with q | q
  · exact .inl (q.trans hX)
  · exact .inr q
theorem QcZ.stable (g : Nat) (X Y:Obj) (v:Value):Qb9 (QcZ g X Y) (fun u W=>u=v∧W.heap[g]? = some Y):=fun _ _ _ hR h=>⟨h.1,by
  rcases hR.2 with q | q
  · exact q.trans h.2
  · exact q⟩
theorem RdK.keepC {k : IntKind} {B:Nat} {gs:List Nat} {ys:List Int} {v:Value} {V W:World} (h:RdK k B ys v V) (q:QbK gs V W) (hc:∀ c∈gs,B≤c):RdK k B ys v W:=by
  obtain ⟨a,cap,rfl,h1,h2,h3,h4⟩:=h
  refine ⟨a,cap,rfl,h1,h2,h3,?_⟩
  rcases h4 with h4 | ⟨g,o,e,hB,hl,hcell⟩
  · exact .inl h4
  · exact .inr ⟨g,o,e,hB,qL hl q.1,fun i hi=>q.cell (hcell i hi) (fun hm=>by have:=hc g hm; omega)⟩
theorem Qle (xs t:List Int) (at_ m:Nat) (h1:at_+m≤xs.length) (h2:m≤t.length):(xs.take at_++t.take m++xs.drop (at_+m)).take at_++t.take m++(xs.take at_++t.take m++xs.drop (at_+m)).drop (at_+m)=xs.take at_++t.take m++xs.drop (at_+m):=by
  have l1:(xs.take at_).length=at_:=by rw [zae]; omega
  have l2:(xs.take at_++t.take m).length=at_+m:=by rw [zad,l1,zae]; omega
  rw [zaD (by omega),zaE (by omega:(xs.take at_++t.take m).length≤at_+m),zax,zal (xs.take at_),zaF (by omega),zai (by omega),←zal]
end Auto
end
section
namespace Auto
open Go Go.RowKit
open Rely Own
variable {ds : List Deferred} {Fe : Fence} {nf : Nat}
section
variable {P : Program} {ops : Array Oper} {Q : Exit → Act → World → Prop} {rest : List Oper} {o : Oper} {N : Nat} {L : Env} {w : World}
theorem QmT (v : Value) (f:FuncId) (args:Array Value) (d:Nat) (hd:o.dst=some d) (hF:Free Fe nf P) (hnd:Qco o=true) (hg:Qbm ops o N L=some true) (h:(execOp (Rely.look (envN N L)) o).run P w=.ok (.enter f args) w)
    (hc:Calls P f args w (Ret w v)) (k:∀ W:World,Ext w W→WLI Fe nf P ops Q rest (Qaw ds N ((d,v)::L)) W):WLI Fe nf P ops Q (o::rest) (Qaw ds N L) w :=
  Qkk hF hnd hg fun K hK=>by
    rw [h]
    refine ⟨hF.dp,(hF.calls hc).mono ?_⟩
    rintro e w' ⟨rfl,hw⟩
    show K _ _
    rw [hd,QaN]
    exact hK _ _ (k _ hw)
end
section
variable {P : Program} {Q : Exit → Act → World → Prop} {w : World} {N : Nat} {L : Env}
end
theorem Qgy (N : Nat) (L:Env) (p q:Nat) (v u:Value):({ tmps:=(#[p,q].zip #[v,u]).foldl (fun t (p,v)=>t.setIfInBounds p v) (Qaw ds N L).tmps,defers:=[] }:Act)=Qaw [] N ((q,u)::(p,v)::L):=by
  rw [←QaN,←QaN]
  simp [Act.put,Qaw]
theorem Qhk {α : Type} {P:Program} {g:Operand} {p q:Tmp} {assign body:Code} {Q:Exit→Act→World→Prop} {N:Nat} {L:Env} {w:World}
    {gf:Nat} {lb:Array Value} (hg:Rely.look (envN N L) g=.func (.func gf) #[] lb) (eg:∀ args w,(callFunc gf args).run P w=.ok (.enter gf args) w)
    {enc enc2:α→Value} {Kp:World→World→Prop} {S Sp:List α→Prop} {M:Nat} {w0:World} (hseq:SeqStopsK Fence.wide 2 P gf lb (fun x=>#[enc x,enc2 x]) Kp S Sp M w0)
    (hKt:∀ {A B C:World},Kp A B→Kp B C→Kp A C) (hKb:∀ (W:World) (l:Nat) (o o':Obj),w.heap.size≤l→W.heap[l]? = some o→o.isCells=false→o.isWalk=false→Kp W (W.putObj l o')) (hb0:Below w0.heap.size w0 w)
    (I:List α→World→Prop) (Ix:Code→List α→World→Prop) (hI:OwnFrom w.heap.size I) (hIx:∀ c,OwnFrom w.heap.size (Ix c)) (h0:I [] w)
    (hKe:∀ {A B:World},Ext A B→Kp A B) (hIe:∀ pre {A B:World},I pre A→Ext A B→I pre B) (hIs:∀ pre W,I pre W→w.heap.size≤W.heap.size)
    (asg:α→Nat→Env) (cs:α→Array Value) (T:TypeId)
    (hassign:∀ (l:Nat) (x:α) (W:World) (K:Act→World→Prop),(∀ g W',W.heap.size≤g→Ext W W'→W'.heap[g]? = some (.cells (cs x) T)→K (Qaw [] N (asg x g++L)) W')→assign.wpIn (Fence.wide.inRound l) 1 P (Exit.then K (fun _ _ _=>False)) (Qaw [] N ((q,enc2 x)::(p,enc x)::L)) W)
    (hbody:∀ (l:Nat) (pre:List α) (x:α) (g:Nat) (W:World),w.heap.size≤g→I pre W→W.heap[g]? = some (.cells (cs x) T)→pre.length<M→body.wpIn (Fence.wide.inRound l) 1 P (ownPostK Kp I Ix (pre++[x]) W) (Qaw [] N (asg x g++L)) W)
    (hdone:∀ (D:Nat) (xs:List α) (W:World),w.heap.size≤D→S xs→I xs W→W.heap[D]? = some (.deferred (some []))→Q .normal (Qaw (mark D::ds) N L) W)
    (hstop:∀ (D:Nat) (c:Code) (pre:List α) (W:World),w.heap.size≤D→Sp pre→Ix c pre W→W.heap[D]? = some (.deferred (some []))→c.wp P Q (Qaw (mark D::ds) N L) W) :
    (zaC g #[p,q] assign body).wp P Q (Qaw ds N L) w:=by
  refine (wpIn_wide (n:=3)).1 <| wpIn_rangeFunc_ownH rfl (by omega) (by rw [QaO]; exact hg) trivial eg (w0:=w0) hseq hKt hKb hb0 (fun _=>rfl) I Ix hI hIx h0
    (fun x a' W=>∃ g,a'=Qaw [] N (asg x g++L)∧w.heap.size≤g∧W.heap[g]? = some (.cells (cs x) T)) ?_ (fun l pre x W K hi hK=>?_) ?_ ?_ ?_
  · rintro x a' _ X Y row ⟨g,e,hl,r⟩ hgr hr
    exact ⟨g,e,hl,QbD r hgr (fun q e=>(hr q e).2)⟩
  · rw [Qgy]
    refine hassign l x W K fun g W' hg' e r=>hK _ _ ((QgG e).from _) (hKe e) (hIe pre hi e) ⟨g,rfl,qT (hIs pre W hi) hg',r⟩
  · rintro l pre x a' W _ _ hi ⟨g,rfl,hl,r⟩ hlen
    exact wpIn_mono (hbody l pre x g W hl hi r hlen) ownPostG_of_ownPostK
  · intro D xs W h1 h2 h3 h4
    exact hdone D xs W h1 h2 h3 h4
  · intro D c pre W h1 h2 h3 h4
    exact wpIn_wide.2 (hstop D c pre W h1 h2 h3 h4)
theorem Qhs {α : Type} {P:Program} {body:Code} {Q:Exit→Act→World→Prop} {N:Nat} {L:Env} {w:World} (live:α→Env) (I:α→World→Prop) (μ:α→Nat) (s0:α) (hL:Qh7 L (live s0)) (h0:I s0 w)
    (round:∀ (s:α) (X:Env) (W:World),I s W→body.wpIn Fe nf P (Exit.then (Goes ds N live I μ s) Q) (Qaw ds N (live s++X)) W):(Code.loop body).wpIn Fe nf P Q (Qaw ds N L) w:=by
  rw [←Qfp hL]
  refine Go.wpIn_loop_ghost (fun n a W=>∃ (s:α) (X:Env),a=Qaw ds N (live s++X)∧I s W∧μ s=n) (μ s0) ⟨s0,L,rfl,h0,rfl⟩ ?_
  rintro n a W ⟨s,X,rfl,hI,rfl⟩
  refine wpIn_mono (round s X W hI) fun e a' w' h=>?_
  cases e <;> try exact h
  obtain ⟨s',X',h1,h2,h3⟩:=h
  exact ⟨μ s',h3,s',X',h1,h2,rfl⟩
theorem Qjb {P : Program} {id:Nat} {Q:Exit→Act→World→Prop} {N:Nat} {L:Env} {w:World} {l:List Oper} (n:Nat) (S:List Src) (hFr:Free Fe nf P) (hdf:(l.all Qco)=true) (hm:P.follows .mixedOrders=true) (hok:ok l n N S=true)
    (h:∀ F:List KE→Prop,(∀ C,(∀ W,Ext w W→finE (fun L W=>WLI Fe nf P l.toArray Q (l.drop n) (Qaw ds N L) W) (l.take n) C L W)→F C)→Qbt P Ext w.drew N L F (l.take n) S []) :
    (Code.region id l.toArray true).wpIn Fe nf P Q (Qaw ds N L) w :=
  QfB Ext zbf zbg n S hFr hdf hm hok fun F hF=>h F fun C hC=>hF C fun W hR=>hC W (zbg (Qaj w) hR)
section
variable {P : Program} {ops : Array Oper} {Q : Exit → Act → World → Prop} {rest : List Oper} {o : Oper} {N : Nat} {L : Env} {W : World}
end
theorem goXj {K : Act→World→Prop} {Q:Exit→Act→World→Prop} {a:Act} {w:World} {n m:Nat} (h:n≠m) (k:Q (.exit n) a w):Exit.inBlock m Q (.exit n) a w:=by
  unfold Exit.inBlock
  simp [h]
  exact k
end Auto
end
section
namespace Cha
open Go Go.RowKit
open Rely Auto Own Sha
open Sha
set_option maxRecDepth 100000 in
theorem Qg2 (m : Nat) (gs:List Nat) (g1 g2:Nat) (ws:List Wd) (number:Int) (r:Nat) (tq:TypeId) (w:World) (hr:number+(r:Int)=4294967296) (h1:0≤number) (h2:number≤4294967295) (hw:ws.length=16)
  (hqw:w.heap[1]? = some (.cells (ints .i64 qQ) tq)) (r1w:w.heap[g1]? = some (.cells #[.int .i64 number] 3)) (r2w:w.heap[g2]? = some (.cells (ints .u32 (ws.map wv)) 120)) (n1:g1∉gs) (n2:g2∉gs) (nq:1∉gs) :
  SeqStopsK Fence.wide m Tryd.prog 64 #[.pointer (some ⟨g1,0,none⟩),.pointer (some ⟨g2,0,none⟩)] (fun i:Nat=>#[zau .i64 (number+((i:Nat):Int)),Value.agg (ints .u8 (Qbu ws (number+((i:Nat):Int))))]) (QbK gs) (fun ys=>ys=zam r) (fun ys=>∃ k,ys=zam k∧k≤r) r w:=fun l J Jx Wi hW hJ hJx hY h0=>by
 refine callsIn_wide.2 ?_
 have hqi:=Qaa hqw hW
 have r1:=Qaa r1w hW
 refine enter 17 [(0,.func (.yield l) #[] #[]),(1,.pointer (some ⟨g1,0,none⟩)),(2,.pointer (some ⟨g2,0,none⟩))] Tryd.func64 rfl rfl kj rfl <| sgC fun K4 hK4=>Qab (.int .i64 number) 5 rfl kj (Qad 3 _ g1 0 3 _ (.int .i64 number) _ r1 rfl kj kj kj) <| sg 1 kj <| sgN hK4 <| wp_block <| QaF (fun (s1:Nat)=>[(0,.func (.yield l) #[] #[]),(1,.pointer (some ⟨g1,0,none⟩)),(2,.pointer (some ⟨g2,0,none⟩)),(4,.int .i64 (number+((s1:Nat):Int)))]) (fun (s1:Nat) W=>(s1≤r)∧(J (zam s1) W)∧(W.heap[g1]? = some (.cells #[.int .i64 number] 3))∧(W.heap[g2]? = some (.cells (ints .u32 (ws.map wv)) 120))∧(W.heap[1]? = some (.cells (ints .i64 qQ) tq))∧(Grew Wi W)) (fun (s1:Nat)=>r-s1) 0 ⟨kj,kj,kj,(congrArg (zau .i64) (show number=number+((0:Nat):Int) by omega)),trivial⟩ ⟨(zaw _),(show J (zam 0) _ from h0),r1,(Qaa r2w hW),hqi,(Grew.refl Wi)⟩ fun s1 X1 V1 hI1=>?_
 obtain ⟨k,hs1⟩:∃ z,z=s1:=⟨_,rfl⟩
 subst hs1
 obtain ⟨hkl_,hJ1,rr1,rr2,rrq,xx1⟩:=hI1
 replace hkl_:k≤r:=hkl_
 replace hJ1:J (zam k) V1:=hJ1
 replace rr1:V1.heap[g1]? = some (.cells #[.int .i64 number] 3):=rr1
 replace rr2:V1.heap[g2]? = some (.cells (ints .u32 (ws.map wv)) 120):=rr2
 replace rrq:V1.heap[1]? = some (.cells (ints .i64 qQ) tq):=rrq
 replace xx1:Grew Wi V1:=xx1
 refine wp_seq_k fun K5 hK5=>sgB kj <| Qa2 (t:=decide ((number+((k:Nat):Int))≤4294967295)) kj (fun c7=>?_) (fun c7=>?_)
 ·skip
  have hlt:k<r:=by have:=of_decide_eq_true c7; omega
  refine wp_skip <| hK5 _ _ <| wp_seq_k fun K8 hK8=>wp_block <| wp_seq_k fun K9 hK9=>(wpIn_wide (n:=m)).1 <| Qbx <| QbB (.func (.yield l) #[] #[]) 10 rfl (Qby _ _) rfl kj kj <| QbB (.int .i64 (number+((k:Nat):Int))) 11 rfl (Qby _ _) rfl kj kj <| QbB (.agg (ints .u32 (ws.map wv))) 12 rfl (Qby _ _) rfl kj (Qap 120 _ g2 120 _ _ rr2 rfl kj kj (isz (n:=16) kj (izT (Qcw hw)))) ?_
  refine QbB (.int .i64 (number+((k:Nat):Int))) 13 rfl (Qby _ _) rfl kj kj <| QmT (.agg (ints .u8 (Qbu ws (number+((k:Nat):Int))))) 65 #[.agg (ints .u32 (ws.map wv)),.int .i64 (number+((k:Nat):Int))] 14 rfl (Qby _ _) rfl kj kj ((QlW ws (number+((k:Nat):Int)) tq _ rrq hw)) fun W2 e2=>Qic (m:=m) (l:=l) (args:=#[.int .i64 (number+((k:Nat):Int)),.agg (ints .u8 (Qbu ws (number+((k:Nat):Int))))]) 15 rfl rfl kj kj (hY (zam k) k W2 (QfE hJ hJ1 (zbg (zbf V1) e2)) (by rw [zan]; omega)) (fun W' hA=>?_) (fun W' hA=>?_)
  ·skip
   obtain ⟨W3,hW3⟩:∃ z,z=W':=⟨_,rfl⟩
   rw [←hW3] at hA ⊢
   obtain ⟨hj10,hk10⟩:=hA
   refine QbB (.bool false) 16 rfl (Qby _ _) rfl kj kj <| QcI <| hK9 _ _ <| cond_false kj <| wp_skip <| hK8 _ _ <| Qae <| sg 1 kj <| Qab (.int .i64 (number+((k+1:Nat):Int))) 9 rfl kj (Qah (u:=.int .i64 (zaz.wrap ((number+((k:Nat):Int))+1))) kj (congrArg (zau .i64) (by rw [show number+((k:Nat):Int)+1=number+((k+1:Nat):Int) by omega]; exact IntWalk.i64_in _ (by omega)))) ?_
   refine sg 1 kj <| Qal ?_
   repeat (first | with_reducible refine goX1 ?_ | with_reducible refine goX2 ?_ | with_reducible refine goX3 ?_)
   exact Qa5 (k+1) ⟨kj,kj,kj,kj,trivial⟩ ⟨(by omega),(by rw [zaG]; exact hj10),(QbK.row hk10 (Qaa rr1 e2) n1),(QbK.row hk10 (Qaa rr2 e2) n2),(QbK.row hk10 (Qaa rrq e2) nq),(Grew.keepC (Grew.ext xx1 e2) hk10)⟩ (by show r-(k+1)<r-k; omega)
  ·skip
   obtain ⟨W3,hW3⟩:∃ z,z=W':=⟨_,rfl⟩
   rw [←hW3] at hA ⊢
   refine QbB (.bool true) 16 rfl (Qby _ _) rfl kj kj <| QcI <| hK9 _ _ <| cond_true kj <| wp_ret ?_
   repeat (first | with_reducible refine goR1 ?_ | with_reducible refine goR2 ?_)
   exact (show bodyPost _ _ _ .ret _ _ from ret0 rfl ⟨⟨_,rfl⟩,.inr ⟨_,⟨k+1,zaG.symm,hlt⟩,hA⟩⟩)
 ·skip
  have hke:k=r:=by have:=of_decide_eq_false c7; omega
  refine wp_exit ?_
  repeat (first | with_reducible refine goX1 ?_ | with_reducible refine goX2 ?_ | with_reducible refine goX3 ?_)
  exact (show bodyPost _ _ _ .normal _ _ from end0 rfl ⟨⟨_,rfl⟩,.inl ⟨_,congrArg zam hke,hJ1⟩⟩)
set_option maxRecDepth 100000 in
theorem Qlf (key nonce:List Int) (v:Value) (B:Nat) (number:Int) (th tq:TypeId) (w:World) (hh:w.heap[0]? = some (.cells (ints .u32 qH) th)) (hq:w.heap[1]? = some (.cells (ints .i64 qQ) tq)) (hkl:key.length=32) (hn:RdK .u8 B nonce v w) (h:nonce.length=12) (h1:0≤number) (h2:number≤4294967295):Calls Tryd.prog 45 #[.agg (ints .u8 key),v,.int .i64 number] w (QbF w (fun v W=>∃ g1 g2,v=.func (.func 64) #[] #[.pointer (some ⟨g1,0,none⟩),.pointer (some ⟨g2,0,none⟩)]∧w.heap.size≤g1∧w.heap.size≤g2∧W.heap[g1]? = some (.cells #[.int .i64 number] 3)∧W.heap[g2]? = some (.cells (ints .u32 ((QaZ key nonce).map wv)) 120))):=by
  obtain ⟨a_n,c_n,rfl,-⟩:=id hn
  refine enter 16 [(0,.agg (ints .u8 (key))),(1,.slice a_n nonce.length c_n),(2,.int .i64 number)] Tryd.func45 rfl rfl kj rfl <| sgC fun K3 hK3=>Qar (ints .u8 (key)) 58 3 rfl kj kj fun g4 W1 l4 e1 r4_1=>?_
  have x1:=zbj (zbf w) e1
  have b4:=qT (zbf w).size l4
  refine Qar (#[.int .i64 number]) 3 5 rfl kj kj fun g5 W2 l5 e2 r5_2=>?_
  have x2:=zbj x1 e2
  refine sg 1 kj <| sgN hK3 <| wp_seq_k fun K6 hK6=>sgC fun K7 hK7=>sg 1 kj <| Qab (.int .i64 number) 9 rfl kj (Qad 3 _ g5 0 3 _ (.int .i64 number) _ r5_2 rfl kj kj kj) <| Qau (.nilIface) 44 #[.slice a_n nonce.length c_n,.int .i64 number] 10 rfl kj kj ((check_D nonce _ _ number _ (RdK.ext hn x2) h h1 h2)) fun W3 e3=>?_
  have x3:=zbj x2 e3
  refine sg 1 kj <| sgN hK7 <| cond_false kj <| wp_skip <| hK6 _ _ <| sgC fun K8 hK8=>Qab (.agg (ints .u8 (key))) 12 rfl kj (Qap 58 _ g4 58 _ _ (Qaa (Qaa r4_1 e2) e3) rfl kj kj (isz (n:=32) kj (izT hkl))) <| sg 1 kj <| Qau (.agg (ints .u32 ((QaZ key nonce).map wv))) 63 #[.agg (ints .u8 (key)),.slice a_n nonce.length c_n] 14 rfl kj kj ((by rw [←QlO]; exact QlP key nonce _ _ th _ (Qaa (Qaa (Qaa hh e1) e2) e3) hkl (RdK.ext hn x3) h)) fun W4 e4=>?_
  have x4:=zbj x3 e4
  refine Qar (ints .u32 ([0,0,0,0,0,0,0,0,0,0,0,0,0,0,0,0])) 120 7 rfl kj kj fun g9 W5 l9 e5 r9_5=>?_
  have b9:=qT x4.size l9
  refine Qan g9 _ (ints .u32 ((QaZ key nonce).map wv)) 120 r9_5 rfl kj (Qao 120 _ _ g9 120 _ _ r9_5 rfl kj kj (isz (n:=16) kj (izT (Qcw (Qd4 _ _)))) (eqsz (n:=16) kj (izT (Qcw (Qd4 _ _)))) (Qay _ _)) fun W6 p6 r9_6=>sgN hK8 <| sgB kj <| wp_ret ?_
  repeat (first | with_reducible refine goR1 ?_ | with_reducible refine goR2 ?_)
  have r5_4:=(Qaa (Qaa r5_2 e3) e4)
  exact (show bodyPost _ _ _ .ret _ _ from ret1 (.func (.func 64) #[] #[.pointer (some ⟨g5,0,none⟩),.pointer (some ⟨g9,0,none⟩)]) rfl (Qaz kj) ⟨_,rfl,(zbi p6 (zbj x4 e5) b9),_,_,rfl,(qT x1.size l5),b9,(rpn p6 r5_4 e5 l9),r9_6⟩)
end Cha
end
section
namespace Cha
open Go Go.RowKit
open Rely Auto Own Sha
open Sha
def pg (pre : List Nat) (j:Nat):Nat:=pre.getD j 0
theorem Qm3 (pre : List Nat) (x:Nat):pg (pre++[x]) pre.length=x:=by simp [pg]
theorem QoC (pre : List Nat) (x j:Nat) (h:j<pre.length):pg (pre++[x]) j=pg pre j:=by
  unfold pg
  rw [zap,zap,List.getElem?_append_left h]
theorem Qlg (k j:Nat) (h:j<k):pg (zam k) j=j:=by
  unfold pg
  rw [zap,zar h]; rfl
theorem QhU (text : List Int) (ws:List Wd) (num:Int) (f g:Nat→Nat) (n m:Nat) (h:∀ i,i<m→f (i/64)=g (i/64)):(mxv text ws num f n).take m=(mxv text ws num g n).take m:=by
  unfold mxv
  rw [←zaH,←zaH,List.take_range]
  refine List.map_congr_left fun i hi=>?_
  rw [List.mem_range] at hi
  rw [h i (by omega)]
theorem QjO (text : List Int) (ws:List Wd) (num:Int) (f:Nat→Nat) (n m:Nat) (h:m<n):nth (mxv text ws num f n) m=bits .xor .u8 (nth text m) (nth (Qbu ws (num+((f (m/64):Nat):Int))) (m%64)):=by
  rw [show nth (mxv text ws num f n) m=(mxv text ws num f n).getD m 0 from rfl]
  unfold mxv
  rw [zap,zaq,zar h]; rfl
theorem QmD (text : List Int) (ws:List Wd) (num:Int) (pre:List Nat) (x n:Nat):QbH (mxv text ws num (pg pre) n) n (64*pre.length)=QbH (mxv text ws num (pg (pre++[x])) n) n (64*pre.length):=by
  unfold QbH
  rw [QhU text ws num (pg pre) (pg (pre++[x])) n _ fun i hi=>(QoC pre x (i/64) (by omega)).symm]
theorem QnT (text : List Int) (ws:List Wd) (num:Int) (pre:List Nat) (x n j:Nat) (hj:j<64) (h:64*pre.length+j<n):nth (mxv text ws num (pg (pre++[x])) n) (64*pre.length+j)=bits .xor .u8 (nth text (64*pre.length+j)) (nth (Qbu ws (num+((x:Nat):Int))) j):=by
  rw [QjO _ _ _ _ _ _ h,show (64*pre.length+j)/64=pre.length by omega,show (64*pre.length+j)%64=j by omega,Qm3]
theorem QjP (text : List Int) (ws:List Wd) (num:Int) (k:Nat) (h:text.length≤64*k):mxv text ws num (pg (zam k)) text.length=mixV ws num text:=by
  have h2:=QhU text ws num (pg (zam k)) id text.length text.length fun i hi=>Qlg k (i/64) (by omega)
  rw [zai (by rw [QdM]; omega),zai (by rw [QdM]; omega)] at h2
  exact h2
theorem QbV (ws : List Wd) (num:Int) (text:List Int):(mixV ws num text).length=text.length:=QdM _ _ _ _ _
set_option maxRecDepth 100000 in
theorem Qpb (key nonce text:List Int) (v v2:Value) (B B2:Nat) (number:Int) (th tq:TypeId) (w:World) (hh:w.heap[0]? = some (.cells (ints .u32 qH) th)) (hq:w.heap[1]? = some (.cells (ints .i64 qQ) tq)) (hkl:key.length=32) (hn:RdK .u8 B nonce v w) (ht:RdK .u8 B2 text v2 w) (h:nonce.length=12) (r:Nat) (hr:number+(r:Int)=4294967296) (h1:0≤number) (h2:number≤4294967295) (hfit:text.length≤64*r) (htl:text.length≤2000000):Calls Tryd.prog 33 #[.agg (ints .u8 key),v,.int .i64 number,v2] w (QbF w (fun v W=>∃ u,v=.tuple #[u,.nilIface]∧OwnN .u8 5 w.heap.size (mixV (QaZ key nonce) number text) u W)):=by
 obtain ⟨a_n,c_n,rfl,-⟩:=id hn
 obtain ⟨a_t,c_t,rfl,-⟩:=id ht
 refine Qmj 64 [(0,.agg (ints .u8 (key))),(1,.slice a_n nonce.length c_n),(2,.int .i64 number),(3,.slice a_t text.length c_t)] Tryd.func33 rfl rfl kj rfl <| sgC fun K3 hK3=>Qar (ints .u8 (key)) 58 4 rfl kj kj fun g4 W1 l4 e1 r4_1=>?_
 have x1:=zbj (zbf w) e1
 have b4:=qT (zbf w).size l4
 refine Qar (#[.slice a_t text.length c_t]) 33 7 rfl kj kj fun g5 W2 l5 e2 r5_2=>?_
 have x2:=zbj x1 e2
 have b5:=qT x1.size l5
 refine sg 2 kj <| sgN hK3 <| wp_scope_straight <| wp_seq_k fun K6 hK6=>sgC fun K7 hK7=>sg 2 kj <| Qau (.nilIface) 44 #[.slice a_n nonce.length c_n,.int .i64 number] 19 rfl kj kj ((check_D nonce _ _ number _ (RdK.ext hn x2) h h1 h2)) fun W3 e3=>?_
 have x3:=zbj x2 e3
 refine sg 1 kj <| sgN hK7 <| sgB kj <| cond_false kj <| wp_skip <| hK6 _ _ <| wp_seq_k fun K9 hK9=>sgC fun K10 hK10=>?_
 have r5_3:=(Qaa r5_2 e3)
 refine Qab (.slice a_t text.length c_t) 23 rfl kj (Qad 33 _ g5 0 33 _ (.slice a_t text.length c_t) _ r5_3 rfl kj kj kj) <| sg 1 kj <| Qab (.int .i64 ((text.length+64:Nat):Int)) 25 rfl kj (Qah (u:=.int .i64 (zaz.wrap (((text.length:Nat):Int)+64))) kj (congrArg (zau .i64) (i64n _ _ (by omega) (by omega)))) <| Qab (.int .i64 (((text.length+64)-1:Nat):Int)) 26 rfl kj (Qah (u:=.int .i64 (zaz.wrap (((text.length+64:Nat):Int)-1))) kj (congrArg (zau .i64) (i64n _ _ (by omega) (by omega)))) <| Qab (.int .i64 ((((text.length+64)-1)/64:Nat):Int)) 27 rfl kj (Qah (u:=.int .i64 (zaz.wrap (Int.tdiv ((((text.length+64)-1:Nat):Int)) (64)))) kj (congrArg (zau .i64) (Qeq _ 64 (by omega)))) <| sg 1 kj <| sgN hK10 <| sgC fun K11 hK11=>sg 2 kj <| Qab (.int .i64 (((r-1:Nat):Int))) 30 rfl kj (Qah (u:=.int .i64 (zaz.wrap (4294967295-number))) kj (congrArg (zau .i64) (by rw [show (4294967295-number:Int)=((r-1:Nat):Int) by omega]; exact IntWalk.i64_in _ (by omega)))) ?_
 refine Qab (.int .i64 (((r-1)+1:Nat):Int)) 31 rfl kj (Qah (u:=.int .i64 (zaz.wrap ((((r-1:Nat):Int))+1))) kj (congrArg (zau .i64) (i64n _ _ (by omega) (by omega)))) <| Qab (.bool false) 32 rfl kj (Qah (u:=.bool (decide (((((text.length+64)-1)/64:Nat):Int)>(((r-1)+1:Nat):Int)))) kj (congrArg zaI (decide_eq_false (by omega)))) <| sgN hK11 <| cond_false kj <| wp_skip <| hK9 _ _ <| sgC fun K12 hK12=>Qab (.slice a_t text.length c_t) 34 rfl kj (Qad 33 _ g5 0 33 _ (.slice a_t text.length c_t) _ r5_3 rfl kj kj kj) <| sg 1 kj <| Qjv (ints .u8 (zac (text.length) 0)) 5 0 (text.length) 36 rfl kj (Qj0 33 _ _ .i64 .i64 0 (text.length) 5 rfl kj kj kj (.inr kj) (zaw _) (by omega)) fun g13 W4 l13 e4 r13_4=>?_
 have x4:=zbj x3 e4
 have b13:=qT x3.size l13
 refine Qar (#[.slice none 0 0]) 33 12 rfl kj kj fun g14 W5 l14 e5 r14_5=>?_
 have b14:=qT x4.size l14
 refine Qan g14 _ (#[.slice (some ⟨g13,0,none⟩) 0 text.length]) 33 r14_5 rfl kj (Qbd 33 _ _ g14 0 33 _ (.slice (some ⟨g13,0,none⟩) 0 text.length) r14_5 rfl kj kj kj kj kj rfl) fun W6 p6 r14_6=>?_
 have x6:=zbi p6 (zbj x4 e5) b14
 refine sgN hK12 <| wp_seq_k fun K15 hK15=>wp_label <| hK15 _ _ <| wp_seq_k fun K16 hK16=>sgC fun K17 hK17=>?_
 have r4_4:=(Qaa (Qaa (Qaa r4_1 e2) e3) e4)
 refine Qab (.agg (ints .u8 (key))) 37 rfl kj (Qap 58 _ g4 58 _ _ (rpn p6 r4_4 e5 l14) rfl kj kj (isz (n:=32) kj (izT hkl))) <| sg 2 kj ?_
 have r2_4:=(Qaa (Qaa (Qaa (Qaa hh e1) e2) e3) e4)
 have r1_4:=(Qaa (Qaa (Qaa (Qaa hq e1) e2) e3) e4)
 have r1_6:=(rpn p6 r1_4 e5 l14)
 refine Qav (fun v W'=>(fun v W=>∃ g1 g2,v=.func (.func 64) #[] #[.pointer (some ⟨g1,0,none⟩),.pointer (some ⟨g2,0,none⟩)]∧W6.heap.size≤g1∧W6.heap.size≤g2∧W.heap[g1]? = some (.cells #[.int .i64 number] 3)∧W.heap[g2]? = some (.cells (ints .u32 ((QaZ key nonce).map wv)) 120)) v W'∧Ext W6 W') 45 #[.agg (ints .u8 (key)),.slice a_n nonce.length c_n,.int .i64 number] 40 rfl kj kj ((Qlf key nonce _ _ number th tq _ (rpn p6 r2_4 e5 l14) r1_6 hkl (RdK.ext hn x6) h h1 h2).mono (by rintro e w' ⟨v,rfl,e1,hv⟩; exact ⟨v,rfl,hv,e1⟩)) fun vv18 W7 hh18=>?_
 obtain ⟨hv18,e7⟩:=hh18
 have x7:=zbj x6 e7
 obtain ⟨gp1,gp2,rfl,lp1,lp2,rp1,rp2⟩:=hv18
 refine sgN hK17 <| wp_block ?_
 have r5_4:=(Qaa r5_3 e4)
 have r5_7:=(Qaa (rpn p6 r5_4 e5 l14) e7)
 have r14_7:=(Qaa r14_6 e7)
 have r13_6:=(rpn p6 r13_4 e5 l14)
 have r13_7:=(Qaa r13_6 e7)
 have nb712:g5≠g14:=(Qag r5_4 l14)
 have nb7O:g5≠g13:=(Qag r5_3 l13)
 have nb127:g14≠g5:=(QaJ r5_4 l14)
 have nb12O:g14≠g13:=(QaJ r13_4 l14)
 have nbO7:g13≠g5:=(QaJ r5_3 l13)
 have nbO12:g13≠g14:=(Qag r13_4 l14)
 have hgs:∀ c∈([g14,g13]:List Nat),w.heap.size≤c:=(fun c hc=>by simp only [zaJ,zaK,or_false] at hc; rcases hc with rfl | rfl; exact b14; exact b13)
 have hgp:∀ c∈([g14,g13]:List Nat),c<W6.heap.size:=(fun c hc=>by simp only [zaJ,zaK,or_false] at hc; rcases hc with rfl | rfl; exact Qaq r14_6; exact Qaq r13_6)
 refine Qhk (gf:=64) (lb:=#[.pointer (some ⟨gp1,0,none⟩),.pointer (some ⟨gp2,0,none⟩)]) (enc:=fun x:Nat=>.int .i64 (number+((x:Nat):Int))) (enc2:=fun x:Nat=>.agg (ints .u8 (Qbu (QaZ key nonce) (number+((x:Nat):Int))))) kj (enters_of Tryd.func64 kj rfl) (Qg2 2 [g14,g13] gp1 gp2 (QaZ key nonce) number r tq W7 hr h1 h2 (Qd4 _ _) (Qaa r1_6 e7) rp1 rp2 (fun hm=>by have:=hgp _ hm; omega) (fun hm=>by have:=hgp _ hm; omega) (fun hm=>by have h1:=hgs _ hm; have h2:=Qaq hq; omega)) (fun h k=>QbK.trans h k) QbK.book (Below.refl _ _)
   (fun pre W=>((W.heap[g5]? = some (.cells (#[.slice a_t text.length c_t]) 33))∧(W.heap[g14]? = some (.cells (#[.slice (some ⟨g13,0,none⟩) (64*pre.length) text.length]) 33))∧(W.heap[g13]? = some (.cells (ints .u8 (QbH (mxv text (QaZ key nonce) number (pg pre) text.length) text.length (64*pre.length))) 5))∧64*pre.length≤text.length∧W7.heap.size≤W.heap.size)∧Ext w W)
   (fun c pre W=>(c=.exit 0∧text.length≤64*pre.length∧(W.heap[g14]? = some (.cells (#[.slice (some ⟨g13,0,none⟩) (text.length) text.length]) 33))∧(W.heap[g13]? = some (.cells (ints .u8 (QbH (mxv text (QaZ key nonce) number (pg pre) text.length) text.length (text.length))) 5)))∧Ext w W) (OwnFrom.and (Own.from (fun s A B row hs hg hr=>⟨QbD hs.1 hg hr,QbD hs.2.1 hg hr,QbD hs.2.2.1 hg hr,hs.2.2.2.1,qT hs.2.2.2.2 hg.size⟩) _) (ownFrom_below (qR _) x7.size)) (fun c=>OwnFrom.and (Own.from (fun s A B row hs hg hr=>⟨hs.1,hs.2.1,QbD hs.2.2.1 hg hr,QbD hs.2.2.2 hg hr⟩) _) (ownFrom_below (qR _) x7.size)) ⟨⟨r5_7,r14_7,QaH r13_7 (Qcp _ _),zaw _,qR _⟩,x7⟩ (fun e=>QbK.ext e) (fun pre A B h e=>⟨⟨Qaa h.1.1 e,Qaa h.1.2.1 e,Qaa h.1.2.2.1 e,h.1.2.2.2.1,qT h.1.2.2.2.2 e.size⟩,zbg h.2 e⟩) (fun pre W h=>h.1.2.2.2.2) (fun x g=>[(14,.pointer (some ⟨g,0,none⟩)),(42,.agg (ints .u8 (Qbu (QaZ key nonce) (number+((x:Nat):Int))))),(41,.int .i64 (number+((x:Nat):Int)))]) (fun x=>ints .u8 (Qbu (QaZ key nonce) (number+((x:Nat):Int)))) 102 (fun l x W K hK=>?_) (fun l pre x gP Wr hgP hI rP hp=>?_) (fun D ys W lD hS hI rD=>?_) (fun D c pre W lD hSp hIx rD=>?_)
 ·skip
  refine Qbx <| Qid (ints .u8 (zac 64 0)) 102 14 rfl (QaY l 1 _) rfl kj kj fun g301 W1 l301 e1 r301_1=>?_
  have x1:=zbj (zbf W) e1
  refine QeL g301 _ (ints .u8 (Qbu (QaZ key nonce) (number+((x:Nat):Int)))) 102 r301_1 rfl (QaY l 1 _) rfl kj (Qao 102 _ _ g301 102 _ _ r301_1 rfl kj kj (isz (n:=64) kj (izT (QbG _ _))) (eqsz (n:=64) (izT (qZ (n:=64))) (izT (QbG _ _))) (Qay _ _)) fun W2 p2 r301_2=>?_
  have x2:=zbi p2 x1 (qT (zbf W).size l301)
  refine QcI ?_
  exact hK _ _ l301 (zbi p2 (zbg (zbf W) e1) l301) r301_2
 ·skip
  obtain ⟨⟨q7,q12,qO,hml,hsz⟩,xx⟩:=hI
  replace qO:=QaH qO (QmD text (QaZ key nonce) number pre x text.length)
  have hl1:(pre++[x]).length=pre.length+1:=by simp
  have n147:gP≠g5:=by have h1:=Qaq r5_7; omega
  have n1412:gP≠g14:=by have h1:=Qaq r14_7; omega
  have n14O:gP≠g13:=by have h1:=Qaq r13_7; omega
  refine wpIn_block <| wpIn_seq_k fun K505 hK505=>Qbx <| QbB (.agg (ints .u8 (Qbu (QaZ key nonce) (number+((x:Nat):Int))))) 43 rfl (QaY l 1 _) rfl kj (Qap 102 _ gP 102 _ _ rP rfl kj kj (isz (n:=64) kj (izT (QbG _ _)))) <| QbB (.int .i64 0) 44 rfl (QaY l 1 _) rfl kj kj <| QcI <| hK505 _ _ <| wpIn_block <| Qhs (fun (s1:Nat)=>[(7,.pointer (some ⟨g5,0,none⟩)),(12,.pointer (some ⟨g14,0,none⟩)),(43,.agg (ints .u8 (Qbu (QaZ key nonce) (number+((x:Nat):Int))))),(44,.int .i64 ((s1:Nat):Int))]) (fun (s1:Nat) W=>(s1≤64)∧(64*pre.length+s1≤text.length)∧(W.heap[g14]? = some (.cells (#[.slice (some ⟨g13,0,none⟩) (64*pre.length+s1) text.length]) 33))∧(W.heap[g13]? = some (.cells (ints .u8 (QbH (mxv text (QaZ key nonce) number (pg (pre++[x])) text.length) text.length (64*pre.length+s1))) 5))∧(Qaf [g14,g13] Wr W)∧(Ext w W)) (fun (s1:Nat)=>64-s1) 0 ⟨rfl,rfl,rfl,rfl,trivial⟩ ⟨(zaw _),(by omega),q12,qO,(zbp [g14,g13] Wr),xx⟩ fun s1 X1 V1 hI1=>?_
  obtain ⟨j,hs1⟩:∃ z,z=s1:=⟨_,rfl⟩
  subst hs1
  obtain ⟨hj,hmj,q503_1,q501_1,kk1,xx1⟩:=hI1
  replace hj:j≤64:=hj
  replace hmj:64*pre.length+j≤text.length:=hmj
  replace q503_1:V1.heap[g14]? = some (.cells (#[.slice (some ⟨g13,0,none⟩) (64*pre.length+j) text.length]) 33):=q503_1
  replace q501_1:V1.heap[g13]? = some (.cells (ints .u8 (QbH (mxv text (QaZ key nonce) number (pg (pre++[x])) text.length) text.length (64*pre.length+j))) 5):=q501_1
  replace kk1:Qaf [g14,g13] Wr V1:=kk1
  replace xx1:Ext w V1:=xx1
  have q1:=kk1
  refine wpIn_seq_k fun K506 hK506=>Qbx <| QbB (.bool (decide (((j:Nat):Int)<64))) 45 rfl (QaY l 1 _) rfl kj kj <| QcI <| hK506 _ _ <| wpIn_seq_k fun K507 hK507=>Qdg (t:=decide (((j:Nat):Int)<64)) kj (fun c508=>?_) (fun c508=>?_)
  ·skip
   have hlt45:j<64:=by have:=of_decide_eq_true c508; omega
   refine wpIn_skip <| hK507 _ _ <| wpIn_seq_k fun K509 hK509=>wpIn_block <| wpIn_seq_k fun K510 hK510=>Qbx <| QbB (.int .u8 (nth (Qbu (QaZ key nonce) (number+((x:Nat):Int))) j)) 46 rfl (QaY l 1 _) rfl kj (QaB 102 _ _ .i64 .u8 (Qbu (QaZ key nonce) (number+((x:Nat):Int))) j 64 5 (nth (Qbu (QaZ key nonce) (number+((x:Nat):Int))) j) rfl kj kj kj kj kj (QbG _ _) (by omega) rfl) <| QbB (.int .u8 (nth (Qbu (QaZ key nonce) (number+((x:Nat):Int))) j)) 16 rfl (QaY l 1 _) rfl kj kj <| QcI <| hK510 _ _ ?_
   refine wpIn_seq_k fun K511 hK511=>wpIn_seq_k fun K512 hK512=>Qbx <| QbB (.slice (some ⟨g13,0,none⟩) (64*pre.length+j) text.length) 47 rfl (QaY l 1 _) rfl kj (Qad 33 _ g14 0 33 _ (.slice (some ⟨g13,0,none⟩) (64*pre.length+j) text.length) _ q503_1 rfl kj kj kj) <| QbB (.int .i64 ((64*pre.length+j:Nat):Int)) 48 rfl (QaY l 1 _) rfl kj kj ?_
   have r502_1:=(zbq q1 q7 (Qax nb712 (Qax nb7O QaE)))
   refine QbB (.slice a_t text.length c_t) 49 rfl (QaY l 1 _) rfl kj (Qad 33 _ g5 0 33 _ (.slice a_t text.length c_t) _ r502_1 rfl kj kj kj) <| QbB (.int .i64 ((text.length:Nat):Int)) 50 rfl (QaY l 1 _) rfl kj kj <| QbB (.bool ((((64*pre.length+j:Nat):Int)==((text.length:Nat):Int)))) 51 rfl (QaY l 1 _) rfl kj kj <| QcI <| hK512 _ _ <| Qdg (t:=(((64*pre.length+j:Nat):Int)==((text.length:Nat):Int))) kj (fun c513=>?_) (fun c513=>?_)
   ·skip
    have hmn:64*pre.length+j=text.length:=by have:=eq_of_beq c513; omega
    refine wpIn_exit ?_
    repeat (first | with_reducible refine goX1 ?_ | with_reducible refine goXj (by decide) ?_)
    have hq12:=q503_1
    have hqO:=q501_1
    rw [hmn] at hq12 hqO
    exact ⟨(Qe3 q1 (fun c hc=>by simp only [zaJ,zaK,or_false] at hc; rcases hc with rfl | rfl; exact ⟨_,_,q12⟩; exact ⟨_,_,qO⟩)),⟨rfl,by rw [hl1]; omega,hq12,hqO⟩,xx1⟩
   ·skip
    have hmn:64*pre.length+j<text.length:=by
     rcases za3 (64*pre.length+j) text.length with hh | hh
     ·exact hh
     ·exfalso; have e:(((64*pre.length+j:Nat):Int)==((text.length:Nat):Int))=true:=by rw [beq_iff_eq]; omega
      rw [e] at c513; cases c513
    obtain ⟨gt,ot,hat,-,hlt_,hct⟩:=Qf0 (RdK.ext ht xx1) (by omega)
    refine wpIn_skip <| hK511 _ _ <| Qjb 9 [⟨none,[(12,none)]⟩,⟨none,[(7,none)]⟩,⟨none,[(12,none)]⟩,⟨none,[(54,some 2)]⟩,⟨none,[(53,some 1),(55,some 3)]⟩,⟨none,[(56,some 4)]⟩,⟨none,[(16,none)]⟩,⟨none,[(57,some 5),(58,some 6)]⟩,⟨none,[(59,some 7)]⟩] (QaY l 1 _) rfl kj kj fun F hF=>Qbc (Qas _) (.slice (some ⟨g13,0,none⟩) (64*pre.length+j) text.length) kj kj (fun W hR=>(Qad 33 _ g14 0 33 _ (.slice (some ⟨g13,0,none⟩) (64*pre.length+j) text.length) _ (Qaa (Qaa q503_1 (Qaj _)) hR) rfl kj kj kj)) <| Qbc (Qas _) (.slice a_t text.length c_t) kj kj (fun W hR=>(Qad 33 _ g5 0 33 _ (.slice a_t text.length c_t) _ (Qaa (Qaa r502_1 (Qaj _)) hR) rfl kj kj kj)) <| Qbc (Qas _) (.slice (some ⟨g13,0,none⟩) (64*pre.length+j) text.length) kj kj (fun W hR=>(Qad 33 _ g14 0 33 _ (.slice (some ⟨g13,0,none⟩) (64*pre.length+j) text.length) _ (Qaa (Qaa q503_1 (Qaj _)) hR) rfl kj kj kj)) <| Qa8 (Qas _) (.int .i64 ((64*pre.length+j:Nat):Int)) kj kj (fun _=>kj) <| Qa8 (Qas _) (.pointer (some ⟨gt,ot+(64*pre.length+j),none⟩)) kj kj (fun W=>(Qcn 33 _ _ .i64 (64*pre.length+j) gt ot text.length c_t 5 a_t _ hat rfl rfl kj kj kj kj (zav (show 64*pre.length+j<text.length by omega) (rfl:text.length=text.length).symm))) <| Qbc (Qas _) (.int .u8 (nth (text) ((64*pre.length+j)))) kj kj (fun W hR=>(Qbi 5 _ _ (.int .u8 (nth (text) ((64*pre.length+j)))) ((Below.cell (zbg (Qaj _) hR) hlt_).trans (hct (64*pre.length+j) (zav (show 64*pre.length+j<text.length by omega) (rfl:text.length=text.length).symm))) rfl kj kj)) <| Qa8 (Qas _) (.int .u8 (nth (Qbu (QaZ key nonce) (number+((x:Nat):Int))) j)) kj kj (fun _=>kj) ?_
    refine Qa8 (Qas _) (.int .u8 (bits .xor .u8 ((nth (text) ((64*pre.length+j)))) ((nth (Qbu (QaZ key nonce) (number+((x:Nat):Int))) j)))) kj kj (fun _=>kj) <| Qoh (Qas _) (ints .u8 ([(bits .xor .u8 ((nth (text) ((64*pre.length+j)))) ((nth (Qbu (QaZ key nonce) (number+((x:Nat):Int))) j)))])) 5 1 (NewS.stable _ _ _ _) kj kj (fun _=>kj) <| QcO (hF _ fun W2 e2=>?_)
    simp only [zax,zay,za0,zaf,za1,za2,finE,up]
    intro vv514 hv514
    clear hF
    have x2:=zbj xx1 e2
    obtain ⟨g514,rfl,l514,r514_2⟩:=hv514
    have b514:=qT xx1.size l514
    have r501_2:=(Qaa q501_1 e2)
    refine QmS (.slice (some ⟨g13,0,none⟩) (64*pre.length+j+1) text.length) 61 rfl (QaY l 1 _) rfl kj r501_2 (Qgx (k:=.u8) (b:=1) (.tmp 52) (.tmp 60) 33 rfl kj kj kj kj r501_2 (QcB _ _ _ (QdM _ _ _ _ _) (by omega)) (by omega) r514_2) fun W3 p3 r501_3=>?_
    have x3:=zbi p3 x2 b13
    have r501_3_515:W3.heap[g13]? = some (.cells (ints .u8 (QbH (mxv text (QaZ key nonce) number (pg (pre++[x])) text.length) text.length (64*pre.length+(j+1)))) 5):=QaH r501_3 (by rw [←QnT text (QaZ key nonce) number pre x text.length j hlt45 hmn]; exact Qcq _ text.length (64*pre.length+j) (QdM _ _ _ _ _) hmn)
    have r503_3:=(zbh p3 (Qaa q503_1 e2) nb12O)
    refine QeL g14 _ (#[.slice (some ⟨g13,0,none⟩) (64*pre.length+j+1) text.length]) 33 r503_3 rfl (QaY l 1 _) rfl kj (Qbd 33 _ _ g14 0 33 _ (.slice (some ⟨g13,0,none⟩) (64*pre.length+j+1) text.length) r503_3 rfl kj kj kj kj kj rfl) fun W4 p4 r503_4=>?_
    have x4:=zbi p4 x3 b14
    refine QcI <| hK509 _ _ <| Qbx <| QbB (.int .i64 ((j+1:Nat):Int)) 62 rfl (QaY l 1 _) rfl kj (Qah (u:=.int .i64 (zaz.wrap (((j:Nat):Int)+1))) kj (congrArg (zau .i64) (i64n _ _ (by omega) (by omega)))) <| QbB (.int .i64 ((j+1:Nat):Int)) 44 rfl (QaY l 1 _) rfl kj kj <| QcI ?_
    repeat (first | with_reducible refine goX1 ?_ | with_reducible refine goX2 ?_ | with_reducible refine goX3 ?_)
    exact Qa5 (j+1) ⟨kj,kj,kj,kj,trivial⟩ ⟨(by omega),(by omega),r503_4,(zbh p4 r501_3_515 nbO12),(zbs (zbs (zbr q1 e2) p3 (.inl (by simp))) p4 (.inl (by simp))),x4⟩ (by show 64-(j+1)<64-j; omega)
  ·skip
   have heq45:j=64:=by have:=of_decide_eq_false c508; omega
   refine wpIn_exit ?_
   subst heq45
   repeat (first | with_reducible refine goX1 ?_ | with_reducible refine goX2 ?_ | with_reducible refine goX3 ?_)
   have r502_1:=(zbq q1 q7 (Qax nb712 (Qax nb7O QaE)))
   exact ⟨(Qe3 q1 (fun c hc=>by simp only [zaJ,zaK,or_false] at hc; rcases hc with rfl | rfl; exact ⟨_,_,q12⟩; exact ⟨_,_,qO⟩)),(QbK.keeps q1),⟨r502_1,by rw [hl1,Nat.mul_add]; exact q503_1,by rw [hl1,Nat.mul_add]; exact q501_1,by rw [hl1]; omega,qT hsz (qT (qR _) (Qaf.size q1))⟩,xx1⟩
 ·obtain ⟨⟨-,q12,qO,hml,-⟩,xx⟩:=hI
  subst hS
  rw [zan] at q12 qO hml
  have hge:text.length≤64*r:=by omega
  have hee:64*r=text.length:=by omega
  rw [hee] at q12 qO
  have qO2:=QaH (QaH qO (Qcb _ _ (QdM _ _ _ _ _))) (QjP text (QaZ key nonce) number r hge)
  have bD:w.heap.size≤D:=qT x7.size lD
  refine hK16 _ _ <| sgC fun K20 hK20=>Qab (.slice (some ⟨g13,0,none⟩) text.length text.length) 63 rfl kj (Qad 33 _ g14 0 33 _ (.slice (some ⟨g13,0,none⟩) text.length text.length) _ q12 rfl kj kj kj) <| sg 2 kj <| sgN hK20 <| wp_ret ?_
  repeat (first | with_reducible refine goR1 ?_ | with_reducible refine goR2 ?_)
  exact (show bodyPostM _ _ _ _ _ .ret _ _ from Qmz (.slice (some ⟨g13,0,none⟩) text.length text.length) (.nilIface) rfl rD (Qaz kj) (Qaz kj) ⟨_,rfl,QfO xx bD rD _,_,rfl,Qcu (QbV _ _ _) b13 (QfN qO2 rD _) (by simp only [maxLen]; omega)⟩)
 ·obtain ⟨⟨rfl,hge,q12,qO⟩,xx⟩:=hIx
  obtain ⟨kR,rfl,-⟩:=hSp
  rw [zan] at hge
  have qO2:=QaH (QaH qO (Qcb _ _ (QdM _ _ _ _ _))) (QjP text (QaZ key nonce) number kR hge)
  have bD:w.heap.size≤D:=qT x7.size lD
  refine wp_exit <| hK16 _ _ <| sgC fun K22 hK22=>Qab (.slice (some ⟨g13,0,none⟩) text.length text.length) 63 rfl kj (Qad 33 _ g14 0 33 _ (.slice (some ⟨g13,0,none⟩) text.length text.length) _ q12 rfl kj kj kj) <| sg 2 kj <| sgN hK22 <| wp_ret ?_
  repeat (first | with_reducible refine goR1 ?_ | with_reducible refine goR2 ?_)
  exact (show bodyPostM _ _ _ _ _ .ret _ _ from Qmz (.slice (some ⟨g13,0,none⟩) text.length text.length) (.nilIface) rfl rD (Qaz kj) (Qaz kj) ⟨_,rfl,QfO xx bD rD _,_,rfl,Qcu (QbV _ _ _) b13 (QfN qO2 rD _) (by simp only [maxLen]; omega)⟩)
end Cha
end
section
namespace Sha
open Go Go.RowKit
open Rely Auto Own
section
variable {P : Program} {ρ : Operand → Value} {o : Oper} {w : World}
theorem QiE (t : TypeId) (x z:Operand) (h:Nat) (e:TypeId) (ho:o.op=.slice t x none (some z) none) {a:Option Addr} {len cap:Nat} (hx:ρ x=.slice a len cap)
    (hu:P.underlying t=some (.slice e)) (hs:(P.info? e).map (·.size)=some 1) (kz:IntKind) (hz:ρ z=.int kz (h:Int)) (h2:h≤cap) :
    (execOp ρ o).run P w=.ok (.value (.slice a h cap)) w:=by
  cases hq:P.info? e with
  | none=>simp [hq] at hs
  | some i =>
    have hs':i.size=1:=by simpa [hq] using hs
    unfold execOp
    have hadd:∀ a:Option Addr,Option.map (fun x=>x.add 0) a=a:=fun a=>by
      cases a with
      | none=>rfl
      | some a=>obtain ⟨b,o,s⟩:=a; cases s <;> simp [Addr.add]
    simp [ho,hx,hz,Instr.sliceAt,Instr.slice,Instr.sliceBounds,run_sliceBound,run_underlying hu,sizeOf,typeInfo,hq,hs',h2,hadd]
end
section
variable {ds : List Deferred} {P : Program} {ops : Array Oper} {Q : Exit → Act → World → Prop} {rest : List Oper} {o : Oper} {N : Nat} {L : Env} {w : World}
end
def Qpf (T : TypeId) (base:Nat) (t:List Int) (v:Value) (W:World):Prop:=∃ g c,v=.slice (some ⟨g,0,none⟩) t.length c∧OwnN .u8 T base (t++[165,90]) (.slice (some ⟨g,0,none⟩) (t++[165,90]).length c) W
def QeY (a : Option Addr) (c l:Nat):Option Addr:=if c=l then a else a.map fun z=>z.add l
theorem Qei {P : Program} {ρ:Operand→Value} {o:Oper} {w:World} (t:TypeId) (x z:Operand) (l:Nat) (e:TypeId) (ho:o.op=.slice t x (some z) none none) {a:Option Addr} {len cap:Nat} (hx:ρ x=.slice a len cap)
    (hu:P.underlying t=some (.slice e)) (hs:(P.info? e).map (·.size)=some 1) (kz:IntKind) (hz:ρ z=.int kz (l:Int)) (h1:l≤len) (h2:len≤cap) :
    (execOp ρ o).run P w=.ok (.value (.slice (QeY a cap l) (len-l) (cap-l))) w:=by
  cases hq:P.info? e with
  | none=>simp [hq] at hs
  | some i =>
    have hs':i.size=1:=by simpa [hq] using hs
    unfold execOp QeY
    have hadd:∀ a:Option Addr,Option.map (fun x=>x.add 0) a=a:=fun a=>by
      cases a with
      | none=>rfl
      | some a=>obtain ⟨b,o,s⟩:=a; cases s <;> simp [Addr.add]
    by_cases hc:cap=l
    · simp [ho,hx,hz,Instr.sliceAt,Instr.slice,Instr.sliceBounds,run_sliceBound,run_underlying hu,sizeOf,typeInfo,hq,hs',h1,h2,hadd,hc]
    · simp [ho,hx,hz,Instr.sliceAt,Instr.slice,Instr.sliceBounds,run_sliceBound,run_underlying hu,sizeOf,typeInfo,hq,hs',h1,h2,hadd,hc]
theorem QfM {k : IntKind} {B n c:Nat} {ys:List Int} {a:Option Addr} {W:World} (h:RdK k B ys (.slice a n c) W) (l:Nat) (hl:l≤ys.length):RdK k B (ys.drop l) (.slice (QeY a c l) (n-l) (c-l)) W:=by
  obtain ⟨a',cap,e,h2,h3,h4,h5⟩:=h
  simp only [za5.injEq] at e
  obtain ⟨rfl,rfl,rfl⟩:=e
  refine ⟨_,_,by rw [zaL],by rw [zaL]; omega,by omega,?_,?_⟩
  · intro e
    unfold QeY at e
    split at e
    · omega
    · have:=h4 (by cases a <;> simp_all); omega
  · rcases h5 with h5 | ⟨g,o,rfl,q2,q3,q4⟩
    · left; rw [h5]; simp
    · rcases za3 l ys.length with hlt | hge
      · right
        refine ⟨g,o+l,?_,q2,q3,fun i hi=>?_⟩
        · unfold QeY
          rw [if_neg (by omega),zas]
          simp [Addr.add]
        · rw [zaL] at hi
          rw [Nat.add_assoc,q4 (l+i) (by omega)]
          simp [nth]
      · left; exact zaE hge
theorem QhH {k : IntKind} {B n c:Nat} {ys:List Int} {a:Option Addr} {W:World} (h:RdK k B ys (.slice a n c) W) (l:Nat) (hl:l≤ys.length):RdK k B (ys.take l) (.slice a l c) W:=by
  obtain ⟨a',cap,e,h2,h3,h4,h5⟩:=h
  simp only [za5.injEq] at e
  obtain ⟨rfl,rfl,rfl⟩:=e
  have hlen:(ys.take l).length=l:=by rw [zae]; omega
  refine ⟨_,_,by rw [hlen],by omega,h3,h4,?_⟩
  rcases h5 with rfl | ⟨g,off,rfl,q2,q3,q4⟩
  · exact .inl (by simp)
  · refine .inr ⟨g,off,rfl,q2,q3,fun i hi=>?_⟩
    rw [hlen] at hi
    rw [q4 i (by omega)]
    simp [nth,zaM,hi]
end Sha
end
section
namespace Cha
open Go Go.RowKit
open Rely Auto Own Sha
open Sha
theorem Qk8 (x y:Int):bits .xor .u8 x y=(((zat 8 x)^^^(zat 8 y)).toNat:Int):=by
  have h:bits .xor .u8 x y=zao.wrap (((zat 8 x)^^^(zat 8 y)).toNat:Int):=rfl
  have h3:∀ z:Int,zao.wrap z=z%256:=fun _=>rfl
  rw [h,h3]
  have:=((zat 8 x)^^^(zat 8 y)).isLt
  omega
theorem Qeu (a b:Int) (h0:0≤a) (h1:a≤255):bits .xor .u8 (bits .xor .u8 a b) b=a:=by
  rw [Qk8,Qk8]
  have e:zat 8 (((zat 8 a)^^^(zat 8 b)).toNat:Int)=(zat 8 a)^^^(zat 8 b):=by
    apply BitVec.eq_of_toNat_eq
    rw [zaN]
    have:=((zat 8 a)^^^(zat 8 b)).isLt
    omega
  rw [e,BitVec.xor_assoc,BitVec.xor_self,BitVec.xor_zero,zaN]
  omega
theorem Qf8 (ws : List Wd) (num:Int) (text:List Int):Qai (mixV ws num text):=fun n hn=>by
  unfold mixV mxv at hn
  obtain ⟨i,-,rfl⟩:=List.mem_map.1 hn
  rw [Qk8]
  have:=((zat 8 (nth text i))^^^(zat 8 (nth (Qbu ws (num+((id (i/64):Nat):Int))) (i%64)))).isLt
  omega
theorem QhW (ws : List Wd) (num:Int) (text:List Int) (i:Nat) (h:i<text.length):nth (mixV ws num text) i=bits .xor .u8 (nth text i) (nth (Qbu ws (num+((i/64:Nat):Int))) (i%64)):=QjO text ws num id text.length i h
theorem QmA {xs ys:List Int} (hl:xs.length=ys.length) (h:∀ i,i<xs.length→nth xs i=nth ys i):xs=ys:=by
  apply List.ext_getElem? 
  intro i
  rcases za3 i xs.length with hi | hi
  · have h1:=h i hi
    unfold nth at h1
    rw [zap,zap,zak hi,zak (by omega)] at h1
    rw [zak hi,zak (by omega)]
    exact congrArg some h1
  · rw [za4 hi,za4 (by omega)]
theorem QmJ (ws : List Wd) (num:Int) (text:List Int) (hb:Qai text):mixV ws num (mixV ws num text)=text:=by
  refine QmA (by rw [QbV,QbV]) fun i hi=>?_
  rw [QbV,QbV] at hi
  rw [QhW _ _ _ _ (by rw [QbV]; exact hi),QhW _ _ _ _ hi]
  have h:=Qbj hb i
  exact Qeu _ _ (by omega) (by omega)
theorem QfV (xs : List Int) (k i:Nat) (h:i<k):nth (xs.take k) i=nth xs i:=by
  unfold nth; rw [zap,zap,zaM,if_pos h]
theorem QhS (xs : List Int) (k i:Nat):nth (xs.drop k) i=nth xs (k+i):=by
  unfold nth; rw [zap,zap,List.getElem?_drop]
def MixR (base : Nat) (xs:List Int):Value→World→Prop:=fun v W=>∃ u,v=.tuple #[u,.nilIface]∧OwnN .u8 5 base xs u W
theorem Qdf (base : Nat) (xs:List Int):Qb9 Ext (MixR base xs):=fun _ _ _ hR ⟨u,e,h⟩=>⟨u,e,h.ext hR⟩
theorem MixG (n0 : Nat) (key nonce text:List Int) (v v2:Value) (B B2:Nat) (number:Int) (th tq:TypeId) (w:World) (hh:w.heap[0]? = some (.cells (ints .u32 qH) th)) (hq:w.heap[1]? = some (.cells (ints .i64 qQ) tq)) (hkl:key.length=32) (hn:RdK .u8 B nonce v w) (ht:RdK .u8 B2 text v2 w) (h:nonce.length=12) (r:Nat) (hr:number+(r:Int)=4294967296) (h1:0≤number) (h2:number≤4294967295) (hfit:text.length≤64*r) (htl:text.length≤2000000) (hn0:n0≤w.heap.size) :
    Calls Tryd.prog 33 #[.agg (ints .u8 key),v,.int .i64 number,v2] w (QbF w (MixR n0 (mixV (QaZ key nonce) number text))) :=
  (Qpb key nonce text v v2 B B2 number th tq w hh hq hkl hn ht h r hr h1 h2 hfit htl).mono fun e W' hg=>by
    obtain ⟨v',e1,e2,u,e3,e4⟩:=hg
    exact ⟨v',e1,e2,u,e3,e4.base hn0⟩
theorem Qom {P : Program} {w:World} (t:TypeId) (k:IntKind) (a b r:Int) (hb:b≠0) (h:a.tmod b=r):(binOp .rem t (.int k a) (.int k b)).run P w=.ok (.int k r) w:=by
  subst h
  unfold binOp Op.intDiv
  simp [hb]
end Cha
end
section
namespace Ae
open Go Go.RowKit
open Rely Auto Own Sha Cha
def lev : List Int→Int
  | []=>0
  | a::t=>a+256*lev t
def p256 (n : Nat):Int:=256^n
theorem QlX : p256 0=1:=rfl
theorem QdU (n : Nat):p256 (n+1)=256*p256 n:=by unfold p256; rw [Int.pow_succ,Int.mul_comm]
theorem Qd7 (m n:Nat):p256 (m+n)=p256 m*p256 n:=by unfold p256; rw [Int.pow_add]
theorem Qdd (n : Nat):0<p256 n:=Int.pow_pos (by decide)
theorem QfZ : ∀ (xs:List Int) (x:Int),lev (xs++[x])=lev xs+x*p256 xs.length
  | [],x=>by simp [lev,QlX]
  | a::t,x=>by
    rw [zay,lev,QfZ t x,lev,zaO,QdU]
    grind
theorem QcU : ∀ {xs:List Int},Qai xs→0≤lev xs
  | [],_=>by simp [lev]
  | a::t,h=>by
    have h1:=h a (zaP ..)
    have h2:=QcU (xs:=t) fun x hx=>h x (zaQ _ hx)
    rw [lev]; omega
theorem QgF : ∀ {xs:List Int},Qai xs→lev xs<p256 xs.length
  | [],_=>by simp [lev,QlX]
  | a::t,h=>by
    have h1:=h a (zaP ..)
    have h2:=QgF (xs:=t) fun x hx=>h x (zaQ _ hx)
    rw [lev,zaO,QdU]; omega
theorem QdV (xs : List Int) (i:Nat) (h:i<xs.length):lev (xs.take (i+1))=lev (xs.take i)+nth xs i*p256 i:=by
  have e:xs.take (i+1)=xs.take i++[nth xs i]:=by
    rw [zaj,zak h]
    simp [nth,h]
  rw [e,QfZ,zae,zaR (by omega)]
theorem bytes_app {a b:List Int} (ha:Qai a) (hb:Qai b):Qai (a++b):=fun x hx=>by
  rcases List.mem_append.1 hx with h | h
  · exact ha x h
  · exact hb x h
theorem Qbe {a : List Int} (ha:Qai a) (n:Nat):Qai (a.take n):=fun x hx=>ha x (List.mem_of_mem_take hx)
theorem Qb7 {a : List Int} (ha:Qai a) (n:Nat):Qai (a.drop n):=fun x hx=>ha x (List.mem_of_mem_drop hx)
theorem QbR {a : List Int} (ha:Qai a) (n:Nat) {x:Int} (h0:0≤x) (h1:x≤255):Qai (a.set n x):=fun y hy=>by
  rcases List.mem_or_eq_of_mem_set hy with h | h
  · exact ha y h
  · subst h; exact ⟨h0,h1⟩
def PP : Int:=1361129467683753853853498429727072845819
def Qdu (r : Int) (t:List Int):Nat→Int
  | 0=>0
  | n+1=>(Qdu r t n+lev (((t.drop (16*n)).take 16)++[1]))*r%PP
def QdL (r : Int) (t:List Int):Int:=Qdu r t ((t.length+15)/16)
def by16 (v : Int):List Int:=(zam 16).map fun i=>v/p256 i%256
def tagV (r s:Int) (t:List Int):List Int:=by16 (QdL r t+s)
theorem QaT (v : Int):(by16 v).length=16:=by simp [by16]
theorem Qjf (v : Int):Qai (by16 v):=fun x hx=>by
  obtain ⟨i,-,rfl⟩:=List.mem_map.1 hx
  omega
theorem QlJ (v : Int) (i:Nat) (h:i<16):nth (by16 v) i=v/p256 i%256:=by
  unfold nth by16
  rw [zap,zaq,zar h]; rfl
end Ae
end
section
namespace Ae
open Go Go.RowKit
open Rely Auto Own Sha
open Sha Cha
theorem QeV (b : List Int) (i:Nat) (h:i<b.length):b.take (i+1)=b.take i++[nth b i]:=by
  rw [zaj,zak h]
  simp [nth,h]
theorem p16 : p256 16=340282366920938463463374607431768211456:=by decide +kernel
theorem Qj8 {k : IntKind} {T:TypeId} {g n l h:Nat} {xs:List Int} {W:World} (hn:xs.length=n) (r:W.heap[g]? = some (.cells (ints k xs) T)) (h1:l≤h) (h2:h≤n) (h3:n≤maxLen):RdK k W.heap.size ((xs.drop l).take (h-l)) (.slice (some ⟨g,l,none⟩) (h-l) (n-l)) W :=
  QdK l (by rw [zae,zaL]; omega) r (fun i hi=>by rw [QfV _ _ _ hi,QhS]; exact QaG k xs (l+i) (by omega)) (Qaq r) (by omega) (by omega)
def Qe7 (b : List Int):List Int :=
  let b1:=b.set 3 (nth b 3%16)
  let b2:=b1.set 7 (nth b1 7%16)
  let b3:=b2.set 11 (nth b2 11%16)
  let b4:=b3.set 15 (nth b3 15%16)
  let b5:=b4.set 4 (nth b4 4/4*4)
  let b6:=b5.set 8 (nth b5 8/4*4)
  b6.set 12 (nth b6 12/4*4)
def rOf (key : List Int):Int:=lev (Qe7 ((key.drop 0).take (16-0)))
def sOf (key : List Int):Int:=lev ((key.drop 16).take (32-16))
theorem Qfu {x c r q y:Int} (h:x%PP=q) (hy:y%PP=(x+c)*r%PP):y%PP=(q+c)*r%PP:=by
  rw [hy,←h,Int.mul_emod (x+c),Int.add_emod x c,Int.mul_emod (x%PP+c),Int.add_emod (x%PP) c,Int.emod_emod_of_dvd x (Int.dvd_refl PP)]
end Ae
end
section
namespace Ae
open Go Go.RowKit
open Rely Auto Own Sha
open Sha Cha
def isW (x : Int):Prop:=0≤x∧x<18446744073709551616
theorem QcC (x y c:Int) (hx:isW x) (hy:isW y) (hc:0≤c∧c≤1) :
    ∃ s d:Int,isW s∧(0≤d∧d≤1)∧s+18446744073709551616*d=x+y+c ∧
      ∀ W,(callFunc 84 #[.int .u64 x,.int .u64 y,.int .u64 c]).run Tryd.prog W=.ok (.value (.tuple #[.int .u64 s,.int .u64 d])) W:=by
  unfold isW at hx hy
  refine ⟨(x+y+c)%18446744073709551616,(x+y+c)/18446744073709551616,⟨by omega,by omega⟩,by omega,by omega,fun W=>?_⟩
  rw [run_callFunc_extern Tryd.func84 kj kj kj (e:=add64Entry) kj,run_add64 x y c hx.1 hy.1 hc.1 hc.2]
  rfl
theorem maskN (a : Int) (h:isW a):bits .and .u64 a 4294967295=a%4294967296:=by
  obtain ⟨A,rfl⟩:=zaS h.1
  have h:=bits_and_u64_nat A 4294967295 (by have:=h.2; omega) (by omega)
  have e:A&&&4294967295=A%4294967296:=zaT A 32
  rw [e] at h
  exact h
theorem Qjk (a : Int) (h:isW a):zaU.wrap a=a:=by rw [IntKind.wrap_u64]; have:=h.1; have:=h.2; omega
theorem QjR (x y:Int) (hx:isW x) (hy:isW y) :
    ∃ hi lo:Int,isW hi∧isW lo∧lo+18446744073709551616*hi=x*y∧∀ w,Calls Tryd.prog 88 #[.int .u64 x,.int .u64 y] w (fun e w'=>e=.returned (.tuple #[.int .u64 hi,.int .u64 lo])∧w'=w):=by
  obtain ⟨X,rfl⟩:=zaS hx.1
  obtain ⟨Y,rfl⟩:=zaS hy.1
  have hX:X<18446744073709551616:=by have:=hx.2; omega
  have hY:Y<18446744073709551616:=by have:=hy.2; omega
  have hXY:X*Y<18446744073709551616*18446744073709551616:=Nat.mul_lt_mul'' hX hY
  refine ⟨((X*Y/18446744073709551616:Nat):Int),((X*Y%18446744073709551616:Nat):Int),⟨by omega,by omega⟩,⟨by omega,by omega⟩,?_,fun w=>?_⟩
  · rw [←zaV]; omega
  obtain ⟨bd,bt,bw,hhi⟩:=Lib.mul64_hi X Y hX hY
  have ba:=Lib.half_mul_le (a:=X/4294967296) (b:=Y/4294967296) (by omega) (by omega)
  have bb:=Lib.half_mul_le (a:=X/4294967296) (b:=Y%4294967296) (by omega) (by omega)
  have bc:=Lib.half_mul_le (a:=X%4294967296) (b:=Y/4294967296) (by omega) (by omega)
  have ba':X/4294967296*(Y/4294967296)<18446744073709551616:=by omega
  have bb':X/4294967296*(Y%4294967296)<18446744073709551616:=by omega
  have bc':X%4294967296*(Y/4294967296)<18446744073709551616:=by omega
  have bh1:X/4294967296*(Y/4294967296)+(X/4294967296*(Y%4294967296)+X%4294967296*(Y%4294967296)/4294967296)/4294967296<18446744073709551616:=by omega
  have bh:X/4294967296*(Y/4294967296)+(X/4294967296*(Y%4294967296)+X%4294967296*(Y%4294967296)/4294967296)/4294967296+((X/4294967296*(Y%4294967296)+X%4294967296*(Y%4294967296)/4294967296)%4294967296+X%4294967296*(Y/4294967296))/4294967296<18446744073709551616:=by omega
  go_enter Tryd.func88,Tryd.ntmps88
  go_wp2
  simp only [Mul64.maskN X hX,Mul64.maskN Y hY,Mul64.divN,Mul64.mulN,Mul64.addN,Mul64.wrapN _ bd,Mul64.wrapN _ bb',Mul64.wrapN _ bt,Mul64.maskN _ bt,Mul64.wrapN _ bc',Mul64.wrapN _ bw,Mul64.wrapN _ ba',Mul64.wrapN _ bh1,Mul64.wrapN _ bh,Mul64.wrapM (X*Y)]
  rw [hhi]
  go_ret2
  exact ⟨rfl,rfl⟩
theorem Qbw : isW 0:=⟨by decide,by decide⟩
def nw3 (v : Int):List Int:=[v%18446744073709551616,v/18446744073709551616%18446744073709551616,v/340282366920938463463374607431768211456%18446744073709551616]
theorem QlZ {a b c v:Int} (ha:isW a) (hb:isW b) (hc:isW c) (h:a+18446744073709551616*b+340282366920938463463374607431768211456*c=v):[a,b,c]=nw3 v:=by
  obtain ⟨a0,a1⟩:=ha
  obtain ⟨b0,b1⟩:=hb
  obtain ⟨c0,c1⟩:=hc
  subst h
  unfold nw3
  have e1:(a+18446744073709551616*b+340282366920938463463374607431768211456*c)%18446744073709551616=a:=by omega
  have e2:(a+18446744073709551616*b+340282366920938463463374607431768211456*c)/18446744073709551616%18446744073709551616=b:=by omega
  have e3:(a+18446744073709551616*b+340282366920938463463374607431768211456*c)/340282366920938463463374607431768211456%18446744073709551616=c:=by omega
  rw [e1,e2,e3]
theorem Qcz (v : Int):isW (v%18446744073709551616):=⟨by omega,by omega⟩
theorem QfT (v : Int) (h0:0≤v) (h:v<6277101735386680763835789423207666416102355444464034512896):v%18446744073709551616+18446744073709551616*(v/18446744073709551616%18446744073709551616)+340282366920938463463374607431768211456*(v/340282366920938463463374607431768211456%18446744073709551616)=v:=by omega
theorem Qm6 (t : Nat) (ht:t<8):0<p256 t∧256*p256 t≤18446744073709551616:=by
  have:∀ t:Fin 8,0<p256 t.1∧256*p256 t.1≤18446744073709551616:=by decide +kernel
  exact this ⟨t,ht⟩
theorem QjI (u x:Int) (t:Nat) (h0:0≤u) (h1:u<p256 t) (hx:0≤x∧x<256) (ht:t<8):bits .or .u64 u (x*p256 t)=u+x*p256 t:=by
  obtain ⟨U,rfl⟩:=zaS h0
  obtain ⟨X,rfl⟩:=zaS hx.1
  obtain ⟨q0,q1⟩:=Qm6 t ht
  have e:p256 t=((2^(8*t):Nat):Int):=by unfold p256; rw [Nat.pow_mul]; simp
  have hX:X<256:=by omega
  rw [e] at h1 q0 q1 ⊢
  have hU:U<2^(8*t):=by omega
  have q2:256*2^(8*t)≤18446744073709551616:=by omega
  have hm:X*2^(8*t)+2^(8*t)≤18446744073709551616:=by
    have:(X+1)*2^(8*t)≤256*2^(8*t):=Nat.mul_le_mul_right _ hX
    rw [Nat.succ_mul] at this; omega
  rw [←zaV,bits_or_u64_nat U (X*2^(8*t)) (by omega) (by omega)]
  have h:=zaW hU X
  rw [zaX] at h
  rw [Nat.or_comm,←h]
  rw [zaY]; omega
theorem Qo5 (x : Int) (t:Nat) (c:Int) (hc:c=((8*t:Nat):Int)) (hx:0≤x∧x<256) (ht:t<8):zaU.wrap (x*2^min c.toNat zaU.bits)=x*p256 t:=by
  subst hc
  have hm:min (((8*t:Nat):Int)).toNat zaU.bits=8*t:=by show min (((8*t:Nat):Int)).toNat 64=8*t; omega
  have e:(2:Int)^(8*t)=p256 t:=by unfold p256; rw [Int.pow_mul]; rfl
  obtain ⟨q0,q1⟩:=Qm6 t ht
  rw [hm,e]
  have h1:0≤x*p256 t:=zaZ hx.1 (by omega)
  have h2:x*p256 t≤255*p256 t:=zaA (by omega) (by omega)
  exact Qjk _ ⟨h1,by omega⟩
theorem Qi2 (v x:Int) (i:Nat) (hi:i<24) (h0:0≤v) (h1:v<p256 i) (hx:0≤x∧x<256) :
    bits .or .u64 (nth (nw3 v) (i/8)) (x*p256 (i%8))=nth (nw3 (v+x*p256 i)) (i/8)∧(nw3 v).set (i/8) (nth (nw3 (v+x*p256 i)) (i/8))=nw3 (v+x*p256 i):=by
  obtain ⟨t,et⟩:∃ t,t=i%8:=⟨_,rfl⟩
  have ht:t<8:=by omega
  obtain ⟨q0,q1⟩:=Qm6 t ht
  obtain ⟨z,ez⟩:∃ z,z=x*p256 t:=⟨_,rfl⟩
  have hz0:0≤z:=by rw [ez]; exact zaZ hx.1 (by omega)
  have hz1:z≤255*p256 t:=by rw [ez]; exact zaA (by omega) (by omega)
  rw [←et]
  have hp8:p256 8=18446744073709551616:=by decide +kernel
  have hp16:p256 16=340282366920938463463374607431768211456:=p16
  rcases (show i=t∨i=8+t∨i=16+t by omega) with e | e | e
  · have hd:i/8=0:=by omega
    have hv:v<p256 t:=by rw [e] at h1; exact h1
    have hxp:x*p256 i=z:=by rw [e,ez]
    rw [hd,hxp]
    have e1:nth (nw3 v) 0=v:=by show v%_=v; omega
    have e2:nth (nw3 (v+z)) 0=v+z:=by show (v+z)%_=v+z; omega
    rw [e1,e2]
    refine ⟨by rw [QjI v x t h0 hv hx ht,ez],?_⟩
    show [v+z,v/18446744073709551616%18446744073709551616,v/340282366920938463463374607431768211456%18446744073709551616]=[(v+z)%18446744073709551616,(v+z)/18446744073709551616%18446744073709551616,(v+z)/340282366920938463463374607431768211456%18446744073709551616]
    congr 1
    · omega
    · congr 1
      · omega
      · congr 1; omega
  · have hd:i/8=1:=by omega
    have hpi:p256 i=18446744073709551616*p256 t:=by rw [e,Qd7,hp8]
    have hv:v<18446744073709551616*p256 t:=by rw [hpi] at h1; exact h1
    have hxp:x*p256 i=18446744073709551616*z:=by rw [hpi,ez]; grind
    rw [hd,hxp]
    have e1:nth (nw3 v) 1=v/18446744073709551616:=by show v/_%_=v/_; omega
    have e2:nth (nw3 (v+18446744073709551616*z)) 1=v/18446744073709551616+z:=by show (v+_*z)/_%_=_; omega
    rw [e1,e2]
    refine ⟨by rw [QjI (v/18446744073709551616) x t (by omega) (by omega) hx ht,ez],?_⟩
    show [v%18446744073709551616,v/18446744073709551616+z,v/340282366920938463463374607431768211456%18446744073709551616]=[(v+18446744073709551616*z)%18446744073709551616,(v+18446744073709551616*z)/18446744073709551616%18446744073709551616,(v+18446744073709551616*z)/340282366920938463463374607431768211456%18446744073709551616]
    congr 1
    · omega
    · congr 1
      · omega
      · congr 1; omega
  · have hd:i/8=2:=by omega
    have hpi:p256 i=340282366920938463463374607431768211456*p256 t:=by rw [e,Qd7,hp16]
    have hv:v<340282366920938463463374607431768211456*p256 t:=by rw [hpi] at h1; exact h1
    have hxp:x*p256 i=340282366920938463463374607431768211456*z:=by rw [hpi,ez]; grind
    rw [hd,hxp]
    have e1:nth (nw3 v) 2=v/340282366920938463463374607431768211456:=by show v/_%_=v/_; omega
    have e2:nth (nw3 (v+340282366920938463463374607431768211456*z)) 2=v/340282366920938463463374607431768211456+z:=by show (v+_*z)/_%_=_; omega
    rw [e1,e2]
    refine ⟨by rw [QjI (v/340282366920938463463374607431768211456) x t (by omega) (by omega) hx ht,ez],?_⟩
    show [v%18446744073709551616,v/18446744073709551616%18446744073709551616,v/340282366920938463463374607431768211456+z]=[(v+340282366920938463463374607431768211456*z)%18446744073709551616,(v+340282366920938463463374607431768211456*z)/18446744073709551616%18446744073709551616,(v+340282366920938463463374607431768211456*z)/340282366920938463463374607431768211456%18446744073709551616]
    congr 1
    · omega
    · congr 1
      · omega
      · congr 1; omega
theorem Qa3 (v : Int):(nw3 v).length=3:=rfl
theorem QoB (m0_ m1_ m2_ n0_ n1_ n2_ v:Int) (hm0_:isW m0_) (hm1_:isW m1_) (hm2_:isW m2_) (hn0_:isW n0_) (hn1_:isW n1_) (hn2_:isW n2_) (hv:(m0_+18446744073709551616*m1_+340282366920938463463374607431768211456*m2_)+(n0_+18446744073709551616*n1_+340282366920938463463374607431768211456*n2_)=v) (hlt:v<6277101735386680763835789423207666416102355444464034512896) (w:World) :
    Calls Tryd.prog 80 #[.agg (ints .u64 [m0_,m1_,m2_]),.agg (ints .u64 [n0_,n1_,n2_])] w (Ret w (.agg (ints .u64 (nw3 v)))):=by
  refine enter 25 [(0,.agg (ints .u64 ([m0_,m1_,m2_]))),(1,.agg (ints .u64 ([n0_,n1_,n2_])))] Tryd.func80 rfl rfl kj rfl <| sgC fun K1 hK1=>Qar (ints .u64 ([m0_,m1_,m2_])) 138 2 rfl kj kj fun g2 W1 l2 e1 r2_1=>?_
  have x1:=zbj (zbf w) e1
  have b2:=qT (zbf w).size l2
  refine Qar (ints .u64 ([n0_,n1_,n2_])) 138 3 rfl kj kj fun g3 W2 l3 e2 r3_2=>?_
  have x2:=zbj x1 e2
  have b3:=qT x1.size l3
  refine Qar (ints .u64 ([0,0,0])) 138 4 rfl kj kj fun g4 W3 l4 e3 r4_3=>sgN hK1 <| sgB kj <| wp_seq_k fun K6 hK6=>sgB kj <| wp_block <| wp_loop_rounds 4 ?_
  show zba _ _ (Exit.then (zbb _ _ _ 3) _) _ _
  refine sgB kj <| sgT kj <| wp_seq_k fun K10 hK10=>wp_block <| sgB kj <| QbS (fun W=>True) [⟨none,[(6,none)]⟩,⟨none,[(6,none)]⟩,⟨none,[(2,none),(12,some 1)]⟩,⟨none,[(13,some 2)]⟩,⟨none,[(6,none)]⟩,⟨none,[(3,none),(15,some 4)]⟩,⟨none,[(16,some 5)]⟩,⟨none,[(5,none)]⟩,⟨none,[(14,some 3),(17,some 6),(18,some 7)]⟩,⟨none,[(19,some 8)]⟩,⟨none,[(10,some 9)]⟩,⟨none,[(10,some 9)]⟩,⟨none,[(2,none),(11,some 0)]⟩,⟨none,[(22,some 12),(20,some 10)]⟩,⟨none,[(21,some 11)]⟩] [] [11,14] kj kj kj (fun W hR=>trivial) fun F hF=>Qba (.int .i64 0) kj kj rfl (fun _=>kj) <| Qba (.int .i64 0) kj kj rfl (fun _=>kj) <| Qba (.pointer (some ⟨g2,0,none⟩)) kj kj rfl (fun _=>kj) ?_
  have r2_2:=(Qaa r2_1 e2)
  have r2_3:=(Qaa r2_2 e3)
  refine QbM (.int .u64 m0_) kj kj kj rfl (fun W hR=>(Qad 75 _ g2 0 138 _ (.int .u64 m0_) _ (Qaa (Qaa r2_3 (Qaj _)) hR) rfl kj kj kj)) <| Qba (.int .i64 0) kj kj rfl (fun _=>kj) <| Qba (.pointer (some ⟨g3,0,none⟩)) kj kj rfl (fun _=>kj) ?_
  have r3_3:=(Qaa r3_2 e3)
  refine QbM (.int .u64 n0_) kj kj kj rfl (fun W hR=>(Qad 75 _ g3 0 138 _ (.int .u64 n0_) _ (Qaa (Qaa r3_3 (Qaj _)) hR) rfl kj kj kj)) <| Qba (.int .u64 0) kj kj rfl (fun _=>kj) ?_
  obtain ⟨s1,d1,hs1,hd1,he1,ra1⟩:=QcC (m0_) (n0_) (0) hm0_ hn0_ ⟨by decide,by decide⟩
  refine Qba (.tuple #[.int .u64 (s1),.int .u64 (d1)]) kj kj rfl (fun W=>(Qbl (f:=84) (args:=#[.int .u64 m0_,.int .u64 n0_,.int .u64 0]) _ _ _ rfl kj kj (ra1 _))) <| Qba (.tuple #[.int .u64 (s1),.int .u64 (d1)]) kj kj rfl (fun _=>kj) <| Qba (.int .u64 (s1)) kj kj rfl (fun _=>kj) <| Qba (.int .u64 (d1)) kj kj rfl (fun _=>kj) <| Qba (.pointer (some ⟨g2,0,none⟩)) kj kj rfl (fun _=>kj) <| Qcj rfl <| Qba (.int .u64 (d1)) kj kj rfl (fun _=>kj) <| Qgn (hF _ kj fun W4 e4=>?_)
  simp only [zax,zay,fins,up]
  clear hF
  have r2_4:=(Qaa r2_3 e4)
  refine Qcc _ g2 _ (ints .u64 ([(s1),m1_,m2_])) 138 r2_4 rfl (Qa1 75 _ _ g2 0 138 _ _ r2_4 rfl kj kj kj (show 0<3 by decide)) (fun W hp=>trivial) fun W5 p5 r2_5=>Qew <| hK10 _ _ <| sgA kj ?_
  show zbb _ _ _ 3 _ _
  show zba _ _ (Exit.then (zbb _ _ _ 2) _) _ _
  refine sgB kj <| sgT kj <| wp_seq_k fun K14 hK14=>wp_block <| sgB kj <| QbS (fun W=>True) [⟨none,[(6,none)]⟩,⟨none,[(6,none)]⟩,⟨none,[(2,none),(12,some 1)]⟩,⟨none,[(13,some 2)]⟩,⟨none,[(6,none)]⟩,⟨none,[(3,none),(15,some 4)]⟩,⟨none,[(16,some 5)]⟩,⟨none,[(5,none)]⟩,⟨none,[(14,some 3),(17,some 6),(18,some 7)]⟩,⟨none,[(19,some 8)]⟩,⟨none,[(10,some 9)]⟩,⟨none,[(10,some 9)]⟩,⟨none,[(2,none),(11,some 0)]⟩,⟨none,[(22,some 12),(20,some 10)]⟩,⟨none,[(21,some 11)]⟩] [] [11,14] kj kj kj (fun W hR=>trivial) fun F hF=>Qba (.int .i64 1) kj kj rfl (fun _=>kj) <| Qba (.int .i64 1) kj kj rfl (fun _=>kj) <| Qba (.pointer (some ⟨g2,1,none⟩)) kj kj rfl (fun _=>kj) <| QbM (.int .u64 m1_) kj kj kj rfl (fun W hR=>(Qad 75 _ g2 1 138 _ (.int .u64 m1_) _ (Qaa (Qaa r2_5 (Qaj _)) hR) rfl kj kj kj)) ?_
  refine Qba (.int .i64 1) kj kj rfl (fun _=>kj) <| Qba (.pointer (some ⟨g3,1,none⟩)) kj kj rfl (fun _=>kj) ?_
  have r3_5:=(zbh p5 (Qaa r3_3 e4) (QaJ r2_1 l3))
  refine QbM (.int .u64 n1_) kj kj kj rfl (fun W hR=>(Qad 75 _ g3 1 138 _ (.int .u64 n1_) _ (Qaa (Qaa r3_5 (Qaj _)) hR) rfl kj kj kj)) <| Qba (.int .u64 (d1)) kj kj rfl (fun _=>kj) ?_
  obtain ⟨s2,d2,hs2,hd2,he2,ra2⟩:=QcC (m1_) (n1_) (d1) hm1_ hn1_ hd1
  refine Qba (.tuple #[.int .u64 (s2),.int .u64 (d2)]) kj kj rfl (fun W=>(Qbl (f:=84) (args:=#[.int .u64 m1_,.int .u64 n1_,.int .u64 (d1)]) _ _ _ rfl kj kj (ra2 _))) <| Qba (.tuple #[.int .u64 (s2),.int .u64 (d2)]) kj kj rfl (fun _=>kj) <| Qba (.int .u64 (s2)) kj kj rfl (fun _=>kj) <| Qba (.int .u64 (d2)) kj kj rfl (fun _=>kj) <| Qba (.pointer (some ⟨g2,1,none⟩)) kj kj rfl (fun _=>kj) <| Qcj rfl <| Qba (.int .u64 (d2)) kj kj rfl (fun _=>kj) <| Qgn (hF _ kj fun W6 e6=>?_)
  simp only [zax,zay,fins,up]
  clear hF
  have r2_6:=(Qaa r2_5 e6)
  refine Qcc _ g2 _ (ints .u64 ([(s1),(s2),m2_])) 138 r2_6 rfl (Qa1 75 _ _ g2 1 138 _ _ r2_6 rfl kj kj kj (show 1<3 by decide)) (fun W hp=>trivial) fun W7 p7 r2_7=>Qew <| hK14 _ _ <| sgA kj ?_
  show zbb _ _ _ 2 _ _
  show zba _ _ (Exit.then (zbb _ _ _ 1) _) _ _
  refine sgB kj <| sgT kj <| wp_seq_k fun K18 hK18=>wp_block <| sgB kj <| QbS (fun W=>True) [⟨none,[(6,none)]⟩,⟨none,[(6,none)]⟩,⟨none,[(2,none),(12,some 1)]⟩,⟨none,[(13,some 2)]⟩,⟨none,[(6,none)]⟩,⟨none,[(3,none),(15,some 4)]⟩,⟨none,[(16,some 5)]⟩,⟨none,[(5,none)]⟩,⟨none,[(14,some 3),(17,some 6),(18,some 7)]⟩,⟨none,[(19,some 8)]⟩,⟨none,[(10,some 9)]⟩,⟨none,[(10,some 9)]⟩,⟨none,[(2,none),(11,some 0)]⟩,⟨none,[(22,some 12),(20,some 10)]⟩,⟨none,[(21,some 11)]⟩] [] [11,14] kj kj kj (fun W hR=>trivial) fun F hF=>Qba (.int .i64 2) kj kj rfl (fun _=>kj) <| Qba (.int .i64 2) kj kj rfl (fun _=>kj) <| Qba (.pointer (some ⟨g2,2,none⟩)) kj kj rfl (fun _=>kj) <| QbM (.int .u64 m2_) kj kj kj rfl (fun W hR=>(Qad 75 _ g2 2 138 _ (.int .u64 m2_) _ (Qaa (Qaa r2_7 (Qaj _)) hR) rfl kj kj kj)) ?_
  refine Qba (.int .i64 2) kj kj rfl (fun _=>kj) <| Qba (.pointer (some ⟨g3,2,none⟩)) kj kj rfl (fun _=>kj) <| QbM (.int .u64 n2_) kj kj kj rfl (fun W hR=>(Qad 75 _ g3 2 138 _ (.int .u64 n2_) _ (Qaa (Qaa (zbh p7 (Qaa r3_5 e6) (QaJ r2_1 l3)) (Qaj _)) hR) rfl kj kj kj)) <| Qba (.int .u64 (d2)) kj kj rfl (fun _=>kj) ?_
  obtain ⟨s3,d3,hs3,hd3,he3,ra3⟩:=QcC (m2_) (n2_) (d2) hm2_ hn2_ hd2
  refine Qba (.tuple #[.int .u64 (s3),.int .u64 (d3)]) kj kj rfl (fun W=>(Qbl (f:=84) (args:=#[.int .u64 m2_,.int .u64 n2_,.int .u64 (d2)]) _ _ _ rfl kj kj (ra3 _))) <| Qba (.tuple #[.int .u64 (s3),.int .u64 (d3)]) kj kj rfl (fun _=>kj) <| Qba (.int .u64 (s3)) kj kj rfl (fun _=>kj) <| Qba (.int .u64 (d3)) kj kj rfl (fun _=>kj) <| Qba (.pointer (some ⟨g2,2,none⟩)) kj kj rfl (fun _=>kj) <| Qcj rfl <| Qba (.int .u64 (d3)) kj kj rfl (fun _=>kj) <| Qgn (hF _ kj fun W8 e8=>?_)
  simp only [zax,zay,fins,up]
  clear hF
  have r2_8:=(Qaa r2_7 e8)
  refine Qcc _ g2 _ (ints .u64 ([(s1),(s2),(s3)])) 138 r2_8 rfl (Qa1 75 _ _ g2 2 138 _ _ r2_8 rfl kj kj kj (show 2<3 by decide)) (fun W hp=>trivial) fun W9 p9 r2_9=>Qew <| hK18 _ _ <| sgA kj ?_
  show zbb _ _ _ 1 _ _
  show zba _ _ (Exit.then (zbb _ _ _ 0) _) _ _
  refine sgB kj <| wp_seq_k fun K21 hK21=>cond_false kj <| wp_exit <| hK6 _ _ <| sgC fun K22 hK22=>Qab (.agg (ints .u64 ([(s1),(s2),(s3)]))) 24 rfl kj (Qap 138 _ g2 138 _ _ r2_9 rfl kj kj (isz (n:=3) kj kj)) ?_
  have r4_9:=(zbh p9 (Qaa (zbh p7 (Qaa (zbh p5 (Qaa r4_3 e4) (QaJ r2_2 l4)) e6) (QaJ r2_2 l4)) e8) (QaJ r2_2 l4))
  refine Qan g4 _ (ints .u64 ([(s1),(s2),(s3)])) 138 r4_9 rfl kj (Qao 138 _ _ g4 138 _ _ r4_9 rfl kj kj (isz (n:=3) kj kj) (eqsz (n:=3) kj kj) (Qay _ _)) fun W10 p10 r4_10=>sgN hK22 <| wp_ret ?_
  repeat (first | with_reducible refine goR1 ?_ | with_reducible refine goR2 ?_)
  exact (show bodyPost _ _ _ .ret _ _ from ret1 (.agg (ints .u64 ([(s1),(s2),(s3)]))) rfl (QaP g4 138 _ r4_10 kj kj (isz (n:=3) kj kj)) ⟨by rw [QlZ (v:=v) hs1 hs2 hs3 (by obtain ⟨hs10,hs11⟩:=hs1; obtain ⟨hs20,hs21⟩:=hs2; obtain ⟨hs30,hs31⟩:=hs3; omega)],(zbi p10 (zbi p9 (zbj (zbi p7 (zbj (zbi p5 (zbj (zbj x2 e3) e4) b2) e6) b2) e8) b2) (qT x2.size l4))⟩)
theorem Qhm (a b:Int) (ha:0≤a) (hb:0≤b) (ha2:a<6277101735386680763835789423207666416102355444464034512896) (hb2:b<6277101735386680763835789423207666416102355444464034512896) (hlt:a+b<6277101735386680763835789423207666416102355444464034512896) (w:World) :
    Calls Tryd.prog 80 #[.agg (ints .u64 (nw3 a)),.agg (ints .u64 (nw3 b))] w (Ret w (.agg (ints .u64 (nw3 (a+b))))) :=
  QoB _ _ _ _ _ _ (a+b) (Qcz _) (Qcz _) (Qcz _) (Qcz _) (Qcz _) (Qcz _) (by rw [QfT a ha ha2,QfT b hb hb2]) hlt w
theorem Qjp (b : List Int) (v:Value) (B:Nat) (w:World) (hb:RdK .u8 B b v w) (hl:b.length≤24) (hbb:Qai b):Calls Tryd.prog 78 #[v] w (Ret w (.agg (ints .u64 (nw3 (lev b))))):=by
 obtain ⟨a_b,c_b,rfl,-⟩:=id hb
 refine enter 27 [(0,.slice a_b b.length c_b)] Tryd.func78 rfl rfl kj rfl <| sgC fun K1 hK1=>Qar (ints .u64 ([0,0,0])) 138 2 rfl kj kj fun g2 W1 l2 e1 r2_1=>?_
 have x1:=zbj (zbf w) e1
 refine sgN hK1 <| sgC fun K3 hK3=>Qar (ints .u64 ([0,0,0])) 138 3 rfl kj kj fun g4 W2 l4 e2 r4_2=>sgN hK3 <| wp_seq_k fun K5 hK5=>sgB kj <| wp_block ?_
 have r4_2_7:W2.heap[g4]? = some (.cells (ints .u64 (nw3 (lev (b.take 0)))) 138):=QaH r4_2 (by rw [zaf]; rfl)
 refine QaF (fun (s1:Nat)=>[(2,.pointer (some ⟨g2,0,none⟩)),(3,.pointer (some ⟨g4,0,none⟩)),(6,.slice a_b b.length c_b),(7,.int .i64 ((b.length:Nat):Int)),(8,.int .i64 ((s1:Nat):Int))]) (fun (s1:Nat) W=>(s1≤b.length)∧(W.heap[g4]? = some (.cells (ints .u64 (nw3 (lev (b.take s1)))) 138))∧(Qaf [g4] W2 W)∧(Ext w W)) (fun (s1:Nat)=>b.length-s1) 0 ⟨kj,kj,kj,kj,kj,trivial⟩ ⟨(zaw _),r4_2_7,(zbp [g4] W2),(zbj x1 e2)⟩ fun s1 X1 V1 hI1=>?_
 obtain ⟨i,hs1⟩:∃ z,z=s1:=⟨_,rfl⟩
 subst hs1
 obtain ⟨hi,q4_1,kk1,xx1⟩:=hI1
 replace hi:i≤b.length:=hi
 replace q4_1:V1.heap[g4]? = some (.cells (ints .u64 (nw3 (lev (b.take i)))) 138):=q4_1
 replace kk1:Qaf [g4] W2 V1:=kk1
 replace xx1:Ext w V1:=xx1
 have q3:=kk1
 refine sgB kj <| wp_seq_k fun K9 hK9=>Qa2 (t:=decide (((i:Nat):Int)<((b.length:Nat):Int))) kj (fun c10=>?_) (fun c10=>?_)
 ·skip
  have hlt9:i<b.length:=by have:=of_decide_eq_true c10; omega
  obtain ⟨grb11,orb11,harb11,-,hlrb11,hcrb11⟩:=Qf0 (RdK.ext hb xx1) (by omega)
  have hbi:=Qbj hbb i
  have hn0:=QcU (Qbe hbb i)
  have hn1:=QgF (Qbe hbb i)
  rw [zae,zaR (by omega)] at hn1
  obtain ⟨hst1,hst2⟩:=Qi2 (lev (b.take i)) (nth b i) i (by omega) hn0 hn1 hbi
  rw [←QdV b i hlt9] at hst1 hst2
  refine wp_skip <| hK9 _ _ <| wp_seq_k fun K12 hK12=>wp_block <| sgC fun K13 hK13=>sg 1 kj <| Qab (.pointer (some ⟨grb11,orb11+i,none⟩)) 11 rfl kj (Qcn 33 _ _ .i64 i grb11 orb11 b.length c_b 5 a_b _ harb11 rfl rfl kj kj kj kj (zav (show i<(b).length by omega) (rfl:(b).length=(b).length).symm)) <| Qab (.int .u8 (nth (b) (i))) 12 rfl kj (Qbi 5 _ _ (.int .u8 (nth (b) (i))) (hcrb11 i (zav (show i<(b).length by omega) (rfl:(b).length=(b).length).symm)) rfl kj kj) <| sg 2 kj <| sgN hK13 ?_
  refine Qbg 10 [⟨none,[(4,none)]⟩,⟨none,[(13,some 0)]⟩,⟨none,[(3,none),(14,some 1)]⟩,⟨none,[(15,some 2)]⟩,⟨none,[(5,none)]⟩,⟨none,[(17,some 4)]⟩,⟨none,[(4,none)]⟩,⟨none,[(19,some 6)]⟩,⟨none,[(20,some 7)]⟩,⟨none,[(18,some 5),(21,some 8)]⟩] kj kj fun F hF=>Qa8 (Qas _) (.int .i64 ((i:Nat):Int)) kj kj (fun _=>kj) <| Qa8 (Qas _) (.int .i64 ((i/8:Nat):Int)) kj kj (fun W=>(Qah (u:=.int .i64 (zaz.wrap (Int.tdiv (((i:Nat):Int)) (8)))) kj (congrArg (zau .i64) (Qeq _ 8 (by omega))))) <| Qa8 (Qas _) (.pointer (some ⟨g4,i/8,none⟩)) kj kj (fun W=>(QaC _ _ _ .i64 (i/8) _ 3 75 rfl kj kj kj kj (by omega))) <| Qbc (Qas _) (.int .u64 (nth (nw3 (lev (b.take i))) (i/8))) kj kj (fun W hR=>(Qad 75 _ g4 (i/8) 138 _ (.int .u64 (nth (nw3 (lev (b.take i))) (i/8))) _ (Qaa (Qaa q4_1 (Qaj _)) hR) rfl kj (QaG _ _ _ (zav (by omega) (Qa3 _).symm)) kj)) <| Qa8 (Qas _) (.int .u8 (nth (b) (i))) kj kj (fun _=>kj) <| Qa8 (Qas _) (.int .u64 (nth b i)) kj kj (fun W=>(Qah (u:=.int .u64 (zaU.wrap (nth (b) (i)))) kj (congrArg (zau .u64) (Qjk _ ⟨hbi.1,by omega⟩)))) <| Qa8 (Qas _) (.int .i64 ((i:Nat):Int)) kj kj (fun _=>kj) <| Qa8 (Qas _) (.int .i64 ((i%8:Nat):Int)) kj kj (fun W=>(Qah (u:=.int .i64 (Int.tmod (((i:Nat):Int)) (8))) kj (congrArg (zau .i64) (Qc9 _ 8)))) <| Qa8 (Qas _) (.int .i64 ((8*(i%8):Nat):Int)) kj kj (fun W=>(Qah (u:=.int .i64 (zaz.wrap (8*((i%8:Nat):Int)))) kj (congrArg (zau .i64) (i64n _ _ (by omega) (by omega))))) ?_
  refine Qa8 (Qas _) (.int .u64 (nth b i*p256 (i%8))) kj kj (fun W=>(QaM .shl _ _ _ _ .u64 .i64 _ _ _ rfl kj kj (Qev _ _ _ _ _ _ (by omega) (Qo5 _ (i%8) _ rfl hbi (by omega))))) <| QcO (hF _ fun W4 e4=>?_)
  simp only [zax,zay,za0,zaf,za1,za2,finE,up]
  clear hF
  have x4:=zbj xx1 e4
  refine Qab (.int .u64 (nth (nw3 (lev (b.take (i+1)))) (i/8))) 23 rfl kj (Qah (u:=.int .u64 (bits .or .u64 ((nth (nw3 (lev (b.take i))) (i/8))) ((nth b i*p256 (i%8))))) kj (congrArg (zau .u64) hst1)) <| Qab (.pointer (some ⟨g4,i/8,none⟩)) 24 rfl kj (QaC _ _ _ .i64 (i/8) _ 3 75 rfl kj kj kj kj (by omega)) ?_
  have r4_4:=(Qaa q4_1 e4)
  refine Qan g4 _ (ints .u64 ((nw3 (lev (b.take i))).set (i/8) (nth (nw3 (lev (b.take (i+1)))) (i/8)))) 138 r4_4 rfl kj (Qa1 75 _ _ g4 (i/8) 138 _ _ r4_4 rfl kj kj kj (zav (by omega) (Qa3 _).symm)) fun W5 p5 r4_5=>Qal <| hK12 _ _ <| Qae <| Qab (.int .i64 ((i+1:Nat):Int)) 25 rfl kj (Qah (u:=.int .i64 (zaz.wrap (((i:Nat):Int)+1))) kj (congrArg (zau .i64) (i64n _ _ (by omega) (by omega)))) <| sg 1 kj <| Qal ?_
  repeat (first | with_reducible refine goX1 ?_ | with_reducible refine goX2 ?_ | with_reducible refine goX3 ?_)
  exact Qa5 (i+1) ⟨kj,kj,kj,kj,kj,trivial⟩ ⟨(show i+1≤b.length by omega),(QaH r4_5 hst2),(zbs (zbr q3 e4) p5 (.inl (by simp))),(zbi p5 x4 (qT x1.size l4))⟩ (by show b.length-(i+1)<b.length-i; omega)
 ·skip
  have heq9:i=b.length:=by have:=of_decide_eq_false c10; omega
  subst heq9
  have r4_3_14:V1.heap[g4]? = some (.cells (ints .u64 (nw3 (lev b))) 138):=QaH q4_1 (by rw [zbc])
  refine wp_exit <| hK5 _ _ <| sgC fun K15 hK15=>Qab (.agg (ints .u64 (nw3 (lev b)))) 26 rfl kj (Qap 138 _ g4 138 _ _ r4_3_14 rfl kj kj (isz (n:=3) kj (izT (Qa3 _)))) ?_
  have r2_3:=(zbq q3 (Qaa r2_1 e2) (Qax (Qag r2_1 l4) QaE))
  refine Qan g2 _ (ints .u64 (nw3 (lev b))) 138 r2_3 rfl kj (Qao 138 _ _ g2 138 _ _ r2_3 rfl kj kj (isz (n:=3) kj (izT (Qa3 _))) (eqsz (n:=3) kj (izT (Qa3 _))) (Qay _ _)) fun W4 p4 r2_4=>?_
  have x4:=zbi p4 xx1 (qT (zbf w).size l2)
  refine sgN hK15 <| wp_ret ?_
  repeat (first | with_reducible refine goR1 ?_ | with_reducible refine goR2 ?_)
  exact (show bodyPost _ _ _ .ret _ _ from ret1 (.agg (ints .u64 (nw3 (lev b)))) rfl (QaP g2 138 _ r2_4 kj kj (isz (n:=3) kj (izT (Qa3 _)))) ⟨rfl,x4⟩)
end Ae
end
section
namespace Ae
open Go Go.RowKit
open Rely Auto Own Sha
open Sha Cha
theorem mulR {x y hi lo:Int} {w:World} (h:Calls Tryd.prog 88 #[.int .u64 x,.int .u64 y] w (fun e w'=>e=.returned (.tuple #[.int .u64 hi,.int .u64 lo])∧w'=w)):Calls Tryd.prog 88 #[.int .u64 x,.int .u64 y] w (Ret w (.tuple #[.int .u64 hi,.int .u64 lo])) :=
  h.mono fun e w' h=>⟨h.1,h.2▸zbf _⟩
set_option maxRecDepth 100000 in
theorem Qmc (g : Nat) (q0_ q1_ q2_ q3_ q4_ q5_ xx yy p:Int) (hq0_:isW q0_) (hq1_:isW q1_) (hq2_:isW q2_) (hq3_:isW q3_) (hq4_:isW q4_) (hq5_:isW q5_) (hxx:isW xx) (hyy:isW yy) (hp:xx*yy=p) (hlt:(q0_+18446744073709551616*q1_+340282366920938463463374607431768211456*q2_+6277101735386680763835789423207666416102355444464034512896*q3_+115792089237316195423570985008687907853269984665640564039457584007913129639936*q4_+2135987035920910082395021706169552114602704522356652769947041607822219725780640550022962086936576*q5_)+1*p<39402006196394479212279040100143613805079739270465446667948293404245721771497210611414266254884915640806627990306816) (w:World) (hg:w.heap[g]? = some (.cells (ints .u64 [q0_,q1_,q2_,q3_,q4_,q5_]) 155)) :
    Calls Tryd.prog 87 #[.int .i64 0,.int .u64 xx,.int .u64 yy,.pointer (some ⟨g,0,none⟩)] w (fun e W=>e=.returned (.tuple #[])∧∃ r0 r1 r2 r3 r4 r5:Int,isW r0∧isW r1∧isW r2∧isW r3∧isW r4∧isW r5∧(r0+18446744073709551616*r1+340282366920938463463374607431768211456*r2+6277101735386680763835789423207666416102355444464034512896*r3+115792089237316195423570985008687907853269984665640564039457584007913129639936*r4+2135987035920910082395021706169552114602704522356652769947041607822219725780640550022962086936576*r5)=(q0_+18446744073709551616*q1_+340282366920938463463374607431768211456*q2_+6277101735386680763835789423207666416102355444464034512896*q3_+115792089237316195423570985008687907853269984665640564039457584007913129639936*q4_+2135987035920910082395021706169552114602704522356652769947041607822219725780640550022962086936576*q5_)+1*p∧ExtB g w W∧W.heap[g]? = some (.cells (ints .u64 [r0,r1,r2,r3,r4,r5]) 155)):=by
  refine enter 44 [(0,.int .i64 0),(1,.int .u64 (xx)),(2,.int .u64 (yy)),(3,.pointer (some ⟨g,0,none⟩))] Tryd.func87 rfl rfl kj rfl <| sgC fun K2 hK2=>sg 2 kj ?_
  obtain ⟨hi_,lo_,hhi,hlo,hml,cml⟩:=QjR xx yy hxx hyy
  rw [hp] at hml
  refine Qau (.tuple #[.int .u64 (hi_),.int .u64 (lo_)]) 88 #[.int .u64 (xx),.int .u64 (yy)] 14 rfl kj kj ((mulR (cml _))) fun W1 e1=>sg 5 kj <| sgN hK2 <| sgB kj <| sgC fun K4 hK4=>sg 3 kj ?_
  have r1_1:=(Qaa hg e1)
  refine Qab (.int .u64 q0_) 21 rfl kj (Qad 75 _ g 0 155 _ (.int .u64 q0_) _ r1_1 rfl kj kj kj) <| sg 1 kj ?_
  obtain ⟨s1,d1,hs1,hd1,he1,ra1⟩:=QcC (q0_) (lo_) (0) hq0_ hlo ⟨by decide,by decide⟩
  refine Qab (.tuple #[.int .u64 (s1),.int .u64 (d1)]) 23 rfl kj (Qbl (f:=84) (args:=#[.int .u64 q0_,.int .u64 (lo_),.int .u64 0]) _ _ _ rfl kj kj (ra1 _)) <| sg 4 kj <| Qan g _ (ints .u64 ([(s1),q1_,q2_,q3_,q4_,q5_])) 155 r1_1 rfl kj (Qa1 75 _ _ g 0 155 _ _ r1_1 rfl kj kj kj (show 0<6 by decide)) fun W2 p2 r1_2=>sg 1 kj <| sgN hK4 <| sgB kj <| wp_block <| wp_loop_rounds 6 ?_
  show zba _ _ (Exit.then (zbb _ _ _ 5) _) _ _
  refine wp_seq_k fun K6 hK6=>sgB kj <| cond_true kj <| wp_skip <| hK6 _ _ <| wp_seq_k fun K8 hK8=>wp_block <| sgC fun K9 hK9=>sg 3 kj <| Qab (.int .u64 q1_) 37 rfl kj (Qad 75 _ g 1 155 _ (.int .u64 q1_) _ r1_2 rfl kj kj kj) ?_
  refine sg 2 kj ?_
  obtain ⟨s2,d2,hs2,hd2,he2,ra2⟩:=QcC (q1_) (hi_) (d1) hq1_ hhi hd1
  refine Qab (.tuple #[.int .u64 (s2),.int .u64 (d2)]) 40 rfl kj (Qbl (f:=84) (args:=#[.int .u64 q1_,.int .u64 (hi_),.int .u64 (d1)]) _ _ _ rfl kj kj (ra2 _)) <| sg 4 kj <| Qan g _ (ints .u64 ([(s1),(s2),q2_,q3_,q4_,q5_])) 155 r1_2 rfl kj (Qa1 75 _ _ g 1 155 _ _ r1_2 rfl kj kj kj (show 1<6 by decide)) fun W3 p3 r1_3=>sg 1 kj <| sgN hK9 <| sgA kj <| hK8 _ _ <| sgA kj ?_
  show zbb _ _ _ 5 _ _
  show zba _ _ (Exit.then (zbb _ _ _ 4) _) _ _
  refine wp_seq_k fun K10 hK10=>sgB kj <| cond_true kj <| wp_skip <| hK10 _ _ <| wp_seq_k fun K12 hK12=>wp_block <| sgC fun K13 hK13=>sg 3 kj <| Qab (.int .u64 q2_) 37 rfl kj (Qad 75 _ g 2 155 _ (.int .u64 q2_) _ r1_3 rfl kj kj kj) ?_
  refine sg 2 kj ?_
  obtain ⟨s3,d3,hs3,hd3,he3,ra3⟩:=QcC (q2_) (0) (d2) hq2_ Qbw hd2
  refine Qab (.tuple #[.int .u64 (s3),.int .u64 (d3)]) 40 rfl kj (Qbl (f:=84) (args:=#[.int .u64 q2_,.int .u64 0,.int .u64 (d2)]) _ _ _ rfl kj kj (ra3 _)) <| sg 4 kj <| Qan g _ (ints .u64 ([(s1),(s2),(s3),q3_,q4_,q5_])) 155 r1_3 rfl kj (Qa1 75 _ _ g 2 155 _ _ r1_3 rfl kj kj kj (show 2<6 by decide)) fun W4 p4 r1_4=>sg 1 kj <| sgN hK13 <| sgA kj <| hK12 _ _ <| sgA kj ?_
  show zbb _ _ _ 4 _ _
  show zba _ _ (Exit.then (zbb _ _ _ 3) _) _ _
  refine wp_seq_k fun K14 hK14=>sgB kj <| cond_true kj <| wp_skip <| hK14 _ _ <| wp_seq_k fun K16 hK16=>wp_block <| sgC fun K17 hK17=>sg 3 kj <| Qab (.int .u64 q3_) 37 rfl kj (Qad 75 _ g 3 155 _ (.int .u64 q3_) _ r1_4 rfl kj kj kj) ?_
  refine sg 2 kj ?_
  obtain ⟨s4,d4,hs4,hd4,he4,ra4⟩:=QcC (q3_) (0) (d3) hq3_ Qbw hd3
  refine Qab (.tuple #[.int .u64 (s4),.int .u64 (d4)]) 40 rfl kj (Qbl (f:=84) (args:=#[.int .u64 q3_,.int .u64 0,.int .u64 (d3)]) _ _ _ rfl kj kj (ra4 _)) <| sg 4 kj <| Qan g _ (ints .u64 ([(s1),(s2),(s3),(s4),q4_,q5_])) 155 r1_4 rfl kj (Qa1 75 _ _ g 3 155 _ _ r1_4 rfl kj kj kj (show 3<6 by decide)) fun W5 p5 r1_5=>sg 1 kj <| sgN hK17 <| sgA kj <| hK16 _ _ <| sgA kj ?_
  show zbb _ _ _ 3 _ _
  show zba _ _ (Exit.then (zbb _ _ _ 2) _) _ _
  refine wp_seq_k fun K18 hK18=>sgB kj <| cond_true kj <| wp_skip <| hK18 _ _ <| wp_seq_k fun K20 hK20=>wp_block <| sgC fun K21 hK21=>sg 3 kj <| Qab (.int .u64 q4_) 37 rfl kj (Qad 75 _ g 4 155 _ (.int .u64 q4_) _ r1_5 rfl kj kj kj) ?_
  refine sg 2 kj ?_
  obtain ⟨s5,d5,hs5,hd5,he5,ra5⟩:=QcC (q4_) (0) (d4) hq4_ Qbw hd4
  refine Qab (.tuple #[.int .u64 (s5),.int .u64 (d5)]) 40 rfl kj (Qbl (f:=84) (args:=#[.int .u64 q4_,.int .u64 0,.int .u64 (d4)]) _ _ _ rfl kj kj (ra5 _)) <| sg 4 kj <| Qan g _ (ints .u64 ([(s1),(s2),(s3),(s4),(s5),q5_])) 155 r1_5 rfl kj (Qa1 75 _ _ g 4 155 _ _ r1_5 rfl kj kj kj (show 4<6 by decide)) fun W6 p6 r1_6=>sg 1 kj <| sgN hK21 <| sgA kj <| hK20 _ _ <| sgA kj ?_
  show zbb _ _ _ 2 _ _
  show zba _ _ (Exit.then (zbb _ _ _ 1) _) _ _
  refine wp_seq_k fun K22 hK22=>sgB kj <| cond_true kj <| wp_skip <| hK22 _ _ <| wp_seq_k fun K24 hK24=>wp_block <| sgC fun K25 hK25=>sg 3 kj <| Qab (.int .u64 q5_) 37 rfl kj (Qad 75 _ g 5 155 _ (.int .u64 q5_) _ r1_6 rfl kj kj kj) ?_
  refine sg 2 kj ?_
  obtain ⟨s6,d6,hs6,hd6,he6,ra6⟩:=QcC (q5_) (0) (d5) hq5_ Qbw hd5
  refine Qab (.tuple #[.int .u64 (s6),.int .u64 (d6)]) 40 rfl kj (Qbl (f:=84) (args:=#[.int .u64 q5_,.int .u64 0,.int .u64 (d5)]) _ _ _ rfl kj kj (ra6 _)) <| sg 4 kj <| Qan g _ (ints .u64 ([(s1),(s2),(s3),(s4),(s5),(s6)])) 155 r1_6 rfl kj (Qa1 75 _ _ g 5 155 _ _ r1_6 rfl kj kj kj (show 5<6 by decide)) fun W7 p7 r1_7=>sg 1 kj <| sgN hK25 <| sgA kj <| hK24 _ _ <| sgA kj ?_
  show zbb _ _ _ 1 _ _
  show zba _ _ (Exit.then (zbb _ _ _ 0) _) _ _
  refine wp_seq_k fun K26 hK26=>sgB kj <| cond_false kj <| wp_exit ?_
  repeat (first | with_reducible refine goX1 ?_ | with_reducible refine goX2 ?_ | with_reducible refine goX3 ?_)
  exact (show bodyPost _ _ _ .normal _ _ from end0 rfl ⟨rfl,s1,s2,s3,s4,s5,s6,hs1,hs2,hs3,hs4,hs5,hs6,(by obtain ⟨u1,v1⟩:=id hs1; obtain ⟨u2,v2⟩:=id hs2; obtain ⟨u3,v3⟩:=id hs3; obtain ⟨u4,v4⟩:=id hs4; obtain ⟨u5,v5⟩:=id hs5; obtain ⟨u6,v6⟩:=id hs6; obtain ⟨uq0,vq0⟩:=id hq0_; obtain ⟨uq1,vq1⟩:=id hq1_; obtain ⟨uq2,vq2⟩:=id hq2_; obtain ⟨uq3,vq3⟩:=id hq3_; obtain ⟨uq4,vq4⟩:=id hq4_; obtain ⟨uq5,vq5⟩:=id hq5_; obtain ⟨ud1,vd1⟩:=id hd1; obtain ⟨ud2,vd2⟩:=id hd2; obtain ⟨ud3,vd3⟩:=id hd3; obtain ⟨ud4,vd4⟩:=id hd4; obtain ⟨ud5,vd5⟩:=id hd5; obtain ⟨ud6,vd6⟩:=id hd6; obtain ⟨uh1,uh2⟩:=id hhi; obtain ⟨ul1,ul2⟩:=id hlo; omega),(zbm (zbm (zbm (zbm (zbm (zbm (zbl (zbk g w) e1) p2) p3) p4) p5) p6) p7),r1_7⟩)
set_option maxRecDepth 100000 in
theorem QjV (g : Nat) (q0_ q1_ q2_ q3_ q4_ q5_ xx yy p:Int) (hq0_:isW q0_) (hq1_:isW q1_) (hq2_:isW q2_) (hq3_:isW q3_) (hq4_:isW q4_) (hq5_:isW q5_) (hxx:isW xx) (hyy:isW yy) (hp:xx*yy=p) (hlt:(q0_+18446744073709551616*q1_+340282366920938463463374607431768211456*q2_+6277101735386680763835789423207666416102355444464034512896*q3_+115792089237316195423570985008687907853269984665640564039457584007913129639936*q4_+2135987035920910082395021706169552114602704522356652769947041607822219725780640550022962086936576*q5_)+18446744073709551616*p<39402006196394479212279040100143613805079739270465446667948293404245721771497210611414266254884915640806627990306816) (w:World) (hg:w.heap[g]? = some (.cells (ints .u64 [q0_,q1_,q2_,q3_,q4_,q5_]) 155)) :
    Calls Tryd.prog 87 #[.int .i64 1,.int .u64 xx,.int .u64 yy,.pointer (some ⟨g,0,none⟩)] w (fun e W=>e=.returned (.tuple #[])∧∃ r0 r1 r2 r3 r4 r5:Int,isW r0∧isW r1∧isW r2∧isW r3∧isW r4∧isW r5∧(r0+18446744073709551616*r1+340282366920938463463374607431768211456*r2+6277101735386680763835789423207666416102355444464034512896*r3+115792089237316195423570985008687907853269984665640564039457584007913129639936*r4+2135987035920910082395021706169552114602704522356652769947041607822219725780640550022962086936576*r5)=(q0_+18446744073709551616*q1_+340282366920938463463374607431768211456*q2_+6277101735386680763835789423207666416102355444464034512896*q3_+115792089237316195423570985008687907853269984665640564039457584007913129639936*q4_+2135987035920910082395021706169552114602704522356652769947041607822219725780640550022962086936576*q5_)+18446744073709551616*p∧ExtB g w W∧W.heap[g]? = some (.cells (ints .u64 [r0,r1,r2,r3,r4,r5]) 155)):=by
  refine enter 44 [(0,.int .i64 1),(1,.int .u64 (xx)),(2,.int .u64 (yy)),(3,.pointer (some ⟨g,0,none⟩))] Tryd.func87 rfl rfl kj rfl <| sgC fun K2 hK2=>sg 2 kj ?_
  obtain ⟨hi_,lo_,hhi,hlo,hml,cml⟩:=QjR xx yy hxx hyy
  rw [hp] at hml
  refine Qau (.tuple #[.int .u64 (hi_),.int .u64 (lo_)]) 88 #[.int .u64 (xx),.int .u64 (yy)] 14 rfl kj kj ((mulR (cml _))) fun W1 e1=>sg 5 kj <| sgN hK2 <| sgB kj <| sgC fun K4 hK4=>sg 3 kj ?_
  have r1_1:=(Qaa hg e1)
  refine Qab (.int .u64 q1_) 21 rfl kj (Qad 75 _ g 1 155 _ (.int .u64 q1_) _ r1_1 rfl kj kj kj) <| sg 1 kj ?_
  obtain ⟨s1,d1,hs1,hd1,he1,ra1⟩:=QcC (q1_) (lo_) (0) hq1_ hlo ⟨by decide,by decide⟩
  refine Qab (.tuple #[.int .u64 (s1),.int .u64 (d1)]) 23 rfl kj (Qbl (f:=84) (args:=#[.int .u64 q1_,.int .u64 (lo_),.int .u64 0]) _ _ _ rfl kj kj (ra1 _)) <| sg 4 kj <| Qan g _ (ints .u64 ([q0_,(s1),q2_,q3_,q4_,q5_])) 155 r1_1 rfl kj (Qa1 75 _ _ g 1 155 _ _ r1_1 rfl kj kj kj (show 1<6 by decide)) fun W2 p2 r1_2=>sg 1 kj <| sgN hK4 <| sgB kj <| wp_block <| wp_loop_rounds 5 ?_
  show zba _ _ (Exit.then (zbb _ _ _ 4) _) _ _
  refine wp_seq_k fun K6 hK6=>sgB kj <| cond_true kj <| wp_skip <| hK6 _ _ <| wp_seq_k fun K8 hK8=>wp_block <| sgC fun K9 hK9=>sg 3 kj <| Qab (.int .u64 q2_) 37 rfl kj (Qad 75 _ g 2 155 _ (.int .u64 q2_) _ r1_2 rfl kj kj kj) ?_
  refine sg 2 kj ?_
  obtain ⟨s2,d2,hs2,hd2,he2,ra2⟩:=QcC (q2_) (hi_) (d1) hq2_ hhi hd1
  refine Qab (.tuple #[.int .u64 (s2),.int .u64 (d2)]) 40 rfl kj (Qbl (f:=84) (args:=#[.int .u64 q2_,.int .u64 (hi_),.int .u64 (d1)]) _ _ _ rfl kj kj (ra2 _)) <| sg 4 kj <| Qan g _ (ints .u64 ([q0_,(s1),(s2),q3_,q4_,q5_])) 155 r1_2 rfl kj (Qa1 75 _ _ g 2 155 _ _ r1_2 rfl kj kj kj (show 2<6 by decide)) fun W3 p3 r1_3=>sg 1 kj <| sgN hK9 <| sgA kj <| hK8 _ _ <| sgA kj ?_
  show zbb _ _ _ 4 _ _
  show zba _ _ (Exit.then (zbb _ _ _ 3) _) _ _
  refine wp_seq_k fun K10 hK10=>sgB kj <| cond_true kj <| wp_skip <| hK10 _ _ <| wp_seq_k fun K12 hK12=>wp_block <| sgC fun K13 hK13=>sg 3 kj <| Qab (.int .u64 q3_) 37 rfl kj (Qad 75 _ g 3 155 _ (.int .u64 q3_) _ r1_3 rfl kj kj kj) ?_
  refine sg 2 kj ?_
  obtain ⟨s3,d3,hs3,hd3,he3,ra3⟩:=QcC (q3_) (0) (d2) hq3_ Qbw hd2
  refine Qab (.tuple #[.int .u64 (s3),.int .u64 (d3)]) 40 rfl kj (Qbl (f:=84) (args:=#[.int .u64 q3_,.int .u64 0,.int .u64 (d2)]) _ _ _ rfl kj kj (ra3 _)) <| sg 4 kj <| Qan g _ (ints .u64 ([q0_,(s1),(s2),(s3),q4_,q5_])) 155 r1_3 rfl kj (Qa1 75 _ _ g 3 155 _ _ r1_3 rfl kj kj kj (show 3<6 by decide)) fun W4 p4 r1_4=>sg 1 kj <| sgN hK13 <| sgA kj <| hK12 _ _ <| sgA kj ?_
  show zbb _ _ _ 3 _ _
  show zba _ _ (Exit.then (zbb _ _ _ 2) _) _ _
  refine wp_seq_k fun K14 hK14=>sgB kj <| cond_true kj <| wp_skip <| hK14 _ _ <| wp_seq_k fun K16 hK16=>wp_block <| sgC fun K17 hK17=>sg 3 kj <| Qab (.int .u64 q4_) 37 rfl kj (Qad 75 _ g 4 155 _ (.int .u64 q4_) _ r1_4 rfl kj kj kj) ?_
  refine sg 2 kj ?_
  obtain ⟨s4,d4,hs4,hd4,he4,ra4⟩:=QcC (q4_) (0) (d3) hq4_ Qbw hd3
  refine Qab (.tuple #[.int .u64 (s4),.int .u64 (d4)]) 40 rfl kj (Qbl (f:=84) (args:=#[.int .u64 q4_,.int .u64 0,.int .u64 (d3)]) _ _ _ rfl kj kj (ra4 _)) <| sg 4 kj <| Qan g _ (ints .u64 ([q0_,(s1),(s2),(s3),(s4),q5_])) 155 r1_4 rfl kj (Qa1 75 _ _ g 4 155 _ _ r1_4 rfl kj kj kj (show 4<6 by decide)) fun W5 p5 r1_5=>sg 1 kj <| sgN hK17 <| sgA kj <| hK16 _ _ <| sgA kj ?_
  show zbb _ _ _ 2 _ _
  show zba _ _ (Exit.then (zbb _ _ _ 1) _) _ _
  refine wp_seq_k fun K18 hK18=>sgB kj <| cond_true kj <| wp_skip <| hK18 _ _ <| wp_seq_k fun K20 hK20=>wp_block <| sgC fun K21 hK21=>sg 3 kj <| Qab (.int .u64 q5_) 37 rfl kj (Qad 75 _ g 5 155 _ (.int .u64 q5_) _ r1_5 rfl kj kj kj) ?_
  refine sg 2 kj ?_
  obtain ⟨s5,d5,hs5,hd5,he5,ra5⟩:=QcC (q5_) (0) (d4) hq5_ Qbw hd4
  refine Qab (.tuple #[.int .u64 (s5),.int .u64 (d5)]) 40 rfl kj (Qbl (f:=84) (args:=#[.int .u64 q5_,.int .u64 0,.int .u64 (d4)]) _ _ _ rfl kj kj (ra5 _)) <| sg 4 kj <| Qan g _ (ints .u64 ([q0_,(s1),(s2),(s3),(s4),(s5)])) 155 r1_5 rfl kj (Qa1 75 _ _ g 5 155 _ _ r1_5 rfl kj kj kj (show 5<6 by decide)) fun W6 p6 r1_6=>sg 1 kj <| sgN hK21 <| sgA kj <| hK20 _ _ <| sgA kj ?_
  show zbb _ _ _ 1 _ _
  show zba _ _ (Exit.then (zbb _ _ _ 0) _) _ _
  refine wp_seq_k fun K22 hK22=>sgB kj <| cond_false kj <| wp_exit ?_
  repeat (first | with_reducible refine goX1 ?_ | with_reducible refine goX2 ?_ | with_reducible refine goX3 ?_)
  exact (show bodyPost _ _ _ .normal _ _ from end0 rfl ⟨rfl,q0_,s1,s2,s3,s4,s5,hq0_,hs1,hs2,hs3,hs4,hs5,(by obtain ⟨u1,v1⟩:=id hs1; obtain ⟨u2,v2⟩:=id hs2; obtain ⟨u3,v3⟩:=id hs3; obtain ⟨u4,v4⟩:=id hs4; obtain ⟨u5,v5⟩:=id hs5; obtain ⟨uq0,vq0⟩:=id hq0_; obtain ⟨uq1,vq1⟩:=id hq1_; obtain ⟨uq2,vq2⟩:=id hq2_; obtain ⟨uq3,vq3⟩:=id hq3_; obtain ⟨uq4,vq4⟩:=id hq4_; obtain ⟨uq5,vq5⟩:=id hq5_; obtain ⟨ud1,vd1⟩:=id hd1; obtain ⟨ud2,vd2⟩:=id hd2; obtain ⟨ud3,vd3⟩:=id hd3; obtain ⟨ud4,vd4⟩:=id hd4; obtain ⟨ud5,vd5⟩:=id hd5; obtain ⟨uh1,uh2⟩:=id hhi; obtain ⟨ul1,ul2⟩:=id hlo; omega),(zbm (zbm (zbm (zbm (zbm (zbl (zbk g w) e1) p2) p3) p4) p5) p6),r1_6⟩)
set_option maxRecDepth 100000 in
theorem QjU (g : Nat) (q0_ q1_ q2_ q3_ q4_ q5_ xx yy p:Int) (hq0_:isW q0_) (hq1_:isW q1_) (hq2_:isW q2_) (hq3_:isW q3_) (hq4_:isW q4_) (hq5_:isW q5_) (hxx:isW xx) (hyy:isW yy) (hp:xx*yy=p) (hlt:(q0_+18446744073709551616*q1_+340282366920938463463374607431768211456*q2_+6277101735386680763835789423207666416102355444464034512896*q3_+115792089237316195423570985008687907853269984665640564039457584007913129639936*q4_+2135987035920910082395021706169552114602704522356652769947041607822219725780640550022962086936576*q5_)+340282366920938463463374607431768211456*p<39402006196394479212279040100143613805079739270465446667948293404245721771497210611414266254884915640806627990306816) (w:World) (hg:w.heap[g]? = some (.cells (ints .u64 [q0_,q1_,q2_,q3_,q4_,q5_]) 155)) :
    Calls Tryd.prog 87 #[.int .i64 2,.int .u64 xx,.int .u64 yy,.pointer (some ⟨g,0,none⟩)] w (fun e W=>e=.returned (.tuple #[])∧∃ r0 r1 r2 r3 r4 r5:Int,isW r0∧isW r1∧isW r2∧isW r3∧isW r4∧isW r5∧(r0+18446744073709551616*r1+340282366920938463463374607431768211456*r2+6277101735386680763835789423207666416102355444464034512896*r3+115792089237316195423570985008687907853269984665640564039457584007913129639936*r4+2135987035920910082395021706169552114602704522356652769947041607822219725780640550022962086936576*r5)=(q0_+18446744073709551616*q1_+340282366920938463463374607431768211456*q2_+6277101735386680763835789423207666416102355444464034512896*q3_+115792089237316195423570985008687907853269984665640564039457584007913129639936*q4_+2135987035920910082395021706169552114602704522356652769947041607822219725780640550022962086936576*q5_)+340282366920938463463374607431768211456*p∧ExtB g w W∧W.heap[g]? = some (.cells (ints .u64 [r0,r1,r2,r3,r4,r5]) 155)):=by
  refine enter 44 [(0,.int .i64 2),(1,.int .u64 (xx)),(2,.int .u64 (yy)),(3,.pointer (some ⟨g,0,none⟩))] Tryd.func87 rfl rfl kj rfl <| sgC fun K2 hK2=>sg 2 kj ?_
  obtain ⟨hi_,lo_,hhi,hlo,hml,cml⟩:=QjR xx yy hxx hyy
  rw [hp] at hml
  refine Qau (.tuple #[.int .u64 (hi_),.int .u64 (lo_)]) 88 #[.int .u64 (xx),.int .u64 (yy)] 14 rfl kj kj ((mulR (cml _))) fun W1 e1=>sg 5 kj <| sgN hK2 <| sgB kj <| sgC fun K4 hK4=>sg 3 kj ?_
  have r1_1:=(Qaa hg e1)
  refine Qab (.int .u64 q2_) 21 rfl kj (Qad 75 _ g 2 155 _ (.int .u64 q2_) _ r1_1 rfl kj kj kj) <| sg 1 kj ?_
  obtain ⟨s1,d1,hs1,hd1,he1,ra1⟩:=QcC (q2_) (lo_) (0) hq2_ hlo ⟨by decide,by decide⟩
  refine Qab (.tuple #[.int .u64 (s1),.int .u64 (d1)]) 23 rfl kj (Qbl (f:=84) (args:=#[.int .u64 q2_,.int .u64 (lo_),.int .u64 0]) _ _ _ rfl kj kj (ra1 _)) <| sg 4 kj <| Qan g _ (ints .u64 ([q0_,q1_,(s1),q3_,q4_,q5_])) 155 r1_1 rfl kj (Qa1 75 _ _ g 2 155 _ _ r1_1 rfl kj kj kj (show 2<6 by decide)) fun W2 p2 r1_2=>sg 1 kj <| sgN hK4 <| sgB kj <| wp_block <| wp_loop_rounds 4 ?_
  show zba _ _ (Exit.then (zbb _ _ _ 3) _) _ _
  refine wp_seq_k fun K6 hK6=>sgB kj <| cond_true kj <| wp_skip <| hK6 _ _ <| wp_seq_k fun K8 hK8=>wp_block <| sgC fun K9 hK9=>sg 3 kj <| Qab (.int .u64 q3_) 37 rfl kj (Qad 75 _ g 3 155 _ (.int .u64 q3_) _ r1_2 rfl kj kj kj) ?_
  refine sg 2 kj ?_
  obtain ⟨s2,d2,hs2,hd2,he2,ra2⟩:=QcC (q3_) (hi_) (d1) hq3_ hhi hd1
  refine Qab (.tuple #[.int .u64 (s2),.int .u64 (d2)]) 40 rfl kj (Qbl (f:=84) (args:=#[.int .u64 q3_,.int .u64 (hi_),.int .u64 (d1)]) _ _ _ rfl kj kj (ra2 _)) <| sg 4 kj <| Qan g _ (ints .u64 ([q0_,q1_,(s1),(s2),q4_,q5_])) 155 r1_2 rfl kj (Qa1 75 _ _ g 3 155 _ _ r1_2 rfl kj kj kj (show 3<6 by decide)) fun W3 p3 r1_3=>sg 1 kj <| sgN hK9 <| sgA kj <| hK8 _ _ <| sgA kj ?_
  show zbb _ _ _ 3 _ _
  show zba _ _ (Exit.then (zbb _ _ _ 2) _) _ _
  refine wp_seq_k fun K10 hK10=>sgB kj <| cond_true kj <| wp_skip <| hK10 _ _ <| wp_seq_k fun K12 hK12=>wp_block <| sgC fun K13 hK13=>sg 3 kj <| Qab (.int .u64 q4_) 37 rfl kj (Qad 75 _ g 4 155 _ (.int .u64 q4_) _ r1_3 rfl kj kj kj) ?_
  refine sg 2 kj ?_
  obtain ⟨s3,d3,hs3,hd3,he3,ra3⟩:=QcC (q4_) (0) (d2) hq4_ Qbw hd2
  refine Qab (.tuple #[.int .u64 (s3),.int .u64 (d3)]) 40 rfl kj (Qbl (f:=84) (args:=#[.int .u64 q4_,.int .u64 0,.int .u64 (d2)]) _ _ _ rfl kj kj (ra3 _)) <| sg 4 kj <| Qan g _ (ints .u64 ([q0_,q1_,(s1),(s2),(s3),q5_])) 155 r1_3 rfl kj (Qa1 75 _ _ g 4 155 _ _ r1_3 rfl kj kj kj (show 4<6 by decide)) fun W4 p4 r1_4=>sg 1 kj <| sgN hK13 <| sgA kj <| hK12 _ _ <| sgA kj ?_
  show zbb _ _ _ 2 _ _
  show zba _ _ (Exit.then (zbb _ _ _ 1) _) _ _
  refine wp_seq_k fun K14 hK14=>sgB kj <| cond_true kj <| wp_skip <| hK14 _ _ <| wp_seq_k fun K16 hK16=>wp_block <| sgC fun K17 hK17=>sg 3 kj <| Qab (.int .u64 q5_) 37 rfl kj (Qad 75 _ g 5 155 _ (.int .u64 q5_) _ r1_4 rfl kj kj kj) ?_
  refine sg 2 kj ?_
  obtain ⟨s4,d4,hs4,hd4,he4,ra4⟩:=QcC (q5_) (0) (d3) hq5_ Qbw hd3
  refine Qab (.tuple #[.int .u64 (s4),.int .u64 (d4)]) 40 rfl kj (Qbl (f:=84) (args:=#[.int .u64 q5_,.int .u64 0,.int .u64 (d3)]) _ _ _ rfl kj kj (ra4 _)) <| sg 4 kj <| Qan g _ (ints .u64 ([q0_,q1_,(s1),(s2),(s3),(s4)])) 155 r1_4 rfl kj (Qa1 75 _ _ g 5 155 _ _ r1_4 rfl kj kj kj (show 5<6 by decide)) fun W5 p5 r1_5=>sg 1 kj <| sgN hK17 <| sgA kj <| hK16 _ _ <| sgA kj ?_
  show zbb _ _ _ 1 _ _
  show zba _ _ (Exit.then (zbb _ _ _ 0) _) _ _
  refine wp_seq_k fun K18 hK18=>sgB kj <| cond_false kj <| wp_exit ?_
  repeat (first | with_reducible refine goX1 ?_ | with_reducible refine goX2 ?_ | with_reducible refine goX3 ?_)
  exact (show bodyPost _ _ _ .normal _ _ from end0 rfl ⟨rfl,q0_,q1_,s1,s2,s3,s4,hq0_,hq1_,hs1,hs2,hs3,hs4,(by obtain ⟨u1,v1⟩:=id hs1; obtain ⟨u2,v2⟩:=id hs2; obtain ⟨u3,v3⟩:=id hs3; obtain ⟨u4,v4⟩:=id hs4; obtain ⟨uq0,vq0⟩:=id hq0_; obtain ⟨uq1,vq1⟩:=id hq1_; obtain ⟨uq2,vq2⟩:=id hq2_; obtain ⟨uq3,vq3⟩:=id hq3_; obtain ⟨uq4,vq4⟩:=id hq4_; obtain ⟨uq5,vq5⟩:=id hq5_; obtain ⟨ud1,vd1⟩:=id hd1; obtain ⟨ud2,vd2⟩:=id hd2; obtain ⟨ud3,vd3⟩:=id hd3; obtain ⟨ud4,vd4⟩:=id hd4; obtain ⟨uh1,uh2⟩:=id hhi; obtain ⟨ul1,ul2⟩:=id hlo; omega),(zbm (zbm (zbm (zbm (zbl (zbk g w) e1) p2) p3) p4) p5),r1_5⟩)
set_option maxRecDepth 100000 in
theorem Qmb (g : Nat) (q0_ q1_ q2_ q3_ q4_ q5_ xx yy p:Int) (hq0_:isW q0_) (hq1_:isW q1_) (hq2_:isW q2_) (hq3_:isW q3_) (hq4_:isW q4_) (hq5_:isW q5_) (hxx:isW xx) (hyy:isW yy) (hp:xx*yy=p) (hlt:(q0_+18446744073709551616*q1_+340282366920938463463374607431768211456*q2_+6277101735386680763835789423207666416102355444464034512896*q3_+115792089237316195423570985008687907853269984665640564039457584007913129639936*q4_+2135987035920910082395021706169552114602704522356652769947041607822219725780640550022962086936576*q5_)+6277101735386680763835789423207666416102355444464034512896*p<39402006196394479212279040100143613805079739270465446667948293404245721771497210611414266254884915640806627990306816) (w:World) (hg:w.heap[g]? = some (.cells (ints .u64 [q0_,q1_,q2_,q3_,q4_,q5_]) 155)) :
    Calls Tryd.prog 87 #[.int .i64 3,.int .u64 xx,.int .u64 yy,.pointer (some ⟨g,0,none⟩)] w (fun e W=>e=.returned (.tuple #[])∧∃ r0 r1 r2 r3 r4 r5:Int,isW r0∧isW r1∧isW r2∧isW r3∧isW r4∧isW r5∧(r0+18446744073709551616*r1+340282366920938463463374607431768211456*r2+6277101735386680763835789423207666416102355444464034512896*r3+115792089237316195423570985008687907853269984665640564039457584007913129639936*r4+2135987035920910082395021706169552114602704522356652769947041607822219725780640550022962086936576*r5)=(q0_+18446744073709551616*q1_+340282366920938463463374607431768211456*q2_+6277101735386680763835789423207666416102355444464034512896*q3_+115792089237316195423570985008687907853269984665640564039457584007913129639936*q4_+2135987035920910082395021706169552114602704522356652769947041607822219725780640550022962086936576*q5_)+6277101735386680763835789423207666416102355444464034512896*p∧ExtB g w W∧W.heap[g]? = some (.cells (ints .u64 [r0,r1,r2,r3,r4,r5]) 155)):=by
  refine enter 44 [(0,.int .i64 3),(1,.int .u64 (xx)),(2,.int .u64 (yy)),(3,.pointer (some ⟨g,0,none⟩))] Tryd.func87 rfl rfl kj rfl <| sgC fun K2 hK2=>sg 2 kj ?_
  obtain ⟨hi_,lo_,hhi,hlo,hml,cml⟩:=QjR xx yy hxx hyy
  rw [hp] at hml
  refine Qau (.tuple #[.int .u64 (hi_),.int .u64 (lo_)]) 88 #[.int .u64 (xx),.int .u64 (yy)] 14 rfl kj kj ((mulR (cml _))) fun W1 e1=>sg 5 kj <| sgN hK2 <| sgB kj <| sgC fun K4 hK4=>sg 3 kj ?_
  have r1_1:=(Qaa hg e1)
  refine Qab (.int .u64 q3_) 21 rfl kj (Qad 75 _ g 3 155 _ (.int .u64 q3_) _ r1_1 rfl kj kj kj) <| sg 1 kj ?_
  obtain ⟨s1,d1,hs1,hd1,he1,ra1⟩:=QcC (q3_) (lo_) (0) hq3_ hlo ⟨by decide,by decide⟩
  refine Qab (.tuple #[.int .u64 (s1),.int .u64 (d1)]) 23 rfl kj (Qbl (f:=84) (args:=#[.int .u64 q3_,.int .u64 (lo_),.int .u64 0]) _ _ _ rfl kj kj (ra1 _)) <| sg 4 kj <| Qan g _ (ints .u64 ([q0_,q1_,q2_,(s1),q4_,q5_])) 155 r1_1 rfl kj (Qa1 75 _ _ g 3 155 _ _ r1_1 rfl kj kj kj (show 3<6 by decide)) fun W2 p2 r1_2=>sg 1 kj <| sgN hK4 <| sgB kj <| wp_block <| wp_loop_rounds 3 ?_
  show zba _ _ (Exit.then (zbb _ _ _ 2) _) _ _
  refine wp_seq_k fun K6 hK6=>sgB kj <| cond_true kj <| wp_skip <| hK6 _ _ <| wp_seq_k fun K8 hK8=>wp_block <| sgC fun K9 hK9=>sg 3 kj <| Qab (.int .u64 q4_) 37 rfl kj (Qad 75 _ g 4 155 _ (.int .u64 q4_) _ r1_2 rfl kj kj kj) ?_
  refine sg 2 kj ?_
  obtain ⟨s2,d2,hs2,hd2,he2,ra2⟩:=QcC (q4_) (hi_) (d1) hq4_ hhi hd1
  refine Qab (.tuple #[.int .u64 (s2),.int .u64 (d2)]) 40 rfl kj (Qbl (f:=84) (args:=#[.int .u64 q4_,.int .u64 (hi_),.int .u64 (d1)]) _ _ _ rfl kj kj (ra2 _)) <| sg 4 kj <| Qan g _ (ints .u64 ([q0_,q1_,q2_,(s1),(s2),q5_])) 155 r1_2 rfl kj (Qa1 75 _ _ g 4 155 _ _ r1_2 rfl kj kj kj (show 4<6 by decide)) fun W3 p3 r1_3=>sg 1 kj <| sgN hK9 <| sgA kj <| hK8 _ _ <| sgA kj ?_
  show zbb _ _ _ 2 _ _
  show zba _ _ (Exit.then (zbb _ _ _ 1) _) _ _
  refine wp_seq_k fun K10 hK10=>sgB kj <| cond_true kj <| wp_skip <| hK10 _ _ <| wp_seq_k fun K12 hK12=>wp_block <| sgC fun K13 hK13=>sg 3 kj <| Qab (.int .u64 q5_) 37 rfl kj (Qad 75 _ g 5 155 _ (.int .u64 q5_) _ r1_3 rfl kj kj kj) ?_
  refine sg 2 kj ?_
  obtain ⟨s3,d3,hs3,hd3,he3,ra3⟩:=QcC (q5_) (0) (d2) hq5_ Qbw hd2
  refine Qab (.tuple #[.int .u64 (s3),.int .u64 (d3)]) 40 rfl kj (Qbl (f:=84) (args:=#[.int .u64 q5_,.int .u64 0,.int .u64 (d2)]) _ _ _ rfl kj kj (ra3 _)) <| sg 4 kj <| Qan g _ (ints .u64 ([q0_,q1_,q2_,(s1),(s2),(s3)])) 155 r1_3 rfl kj (Qa1 75 _ _ g 5 155 _ _ r1_3 rfl kj kj kj (show 5<6 by decide)) fun W4 p4 r1_4=>sg 1 kj <| sgN hK13 <| sgA kj <| hK12 _ _ <| sgA kj ?_
  show zbb _ _ _ 1 _ _
  show zba _ _ (Exit.then (zbb _ _ _ 0) _) _ _
  refine wp_seq_k fun K14 hK14=>sgB kj <| cond_false kj <| wp_exit ?_
  repeat (first | with_reducible refine goX1 ?_ | with_reducible refine goX2 ?_ | with_reducible refine goX3 ?_)
  exact (show bodyPost _ _ _ .normal _ _ from end0 rfl ⟨rfl,q0_,q1_,q2_,s1,s2,s3,hq0_,hq1_,hq2_,hs1,hs2,hs3,(by obtain ⟨u1,v1⟩:=id hs1; obtain ⟨u2,v2⟩:=id hs2; obtain ⟨u3,v3⟩:=id hs3; obtain ⟨uq0,vq0⟩:=id hq0_; obtain ⟨uq1,vq1⟩:=id hq1_; obtain ⟨uq2,vq2⟩:=id hq2_; obtain ⟨uq3,vq3⟩:=id hq3_; obtain ⟨uq4,vq4⟩:=id hq4_; obtain ⟨uq5,vq5⟩:=id hq5_; obtain ⟨ud1,vd1⟩:=id hd1; obtain ⟨ud2,vd2⟩:=id hd2; obtain ⟨ud3,vd3⟩:=id hd3; obtain ⟨uh1,uh2⟩:=id hhi; obtain ⟨ul1,ul2⟩:=id hlo; omega),(zbm (zbm (zbm (zbl (zbk g w) e1) p2) p3) p4),r1_4⟩)
set_option maxRecDepth 100000 in
theorem QnZ (g : Nat) (q0_ q1_ q2_ q3_ q4_ q5_ xx yy p:Int) (hq0_:isW q0_) (hq1_:isW q1_) (hq2_:isW q2_) (hq3_:isW q3_) (hq4_:isW q4_) (hq5_:isW q5_) (hxx:isW xx) (hyy:isW yy) (hp:xx*yy=p) (hlt:(q0_+18446744073709551616*q1_+340282366920938463463374607431768211456*q2_+6277101735386680763835789423207666416102355444464034512896*q3_+115792089237316195423570985008687907853269984665640564039457584007913129639936*q4_+2135987035920910082395021706169552114602704522356652769947041607822219725780640550022962086936576*q5_)+115792089237316195423570985008687907853269984665640564039457584007913129639936*p<39402006196394479212279040100143613805079739270465446667948293404245721771497210611414266254884915640806627990306816) (w:World) (hg:w.heap[g]? = some (.cells (ints .u64 [q0_,q1_,q2_,q3_,q4_,q5_]) 155)) :
    Calls Tryd.prog 87 #[.int .i64 4,.int .u64 xx,.int .u64 yy,.pointer (some ⟨g,0,none⟩)] w (fun e W=>e=.returned (.tuple #[])∧∃ r0 r1 r2 r3 r4 r5:Int,isW r0∧isW r1∧isW r2∧isW r3∧isW r4∧isW r5∧(r0+18446744073709551616*r1+340282366920938463463374607431768211456*r2+6277101735386680763835789423207666416102355444464034512896*r3+115792089237316195423570985008687907853269984665640564039457584007913129639936*r4+2135987035920910082395021706169552114602704522356652769947041607822219725780640550022962086936576*r5)=(q0_+18446744073709551616*q1_+340282366920938463463374607431768211456*q2_+6277101735386680763835789423207666416102355444464034512896*q3_+115792089237316195423570985008687907853269984665640564039457584007913129639936*q4_+2135987035920910082395021706169552114602704522356652769947041607822219725780640550022962086936576*q5_)+115792089237316195423570985008687907853269984665640564039457584007913129639936*p∧ExtB g w W∧W.heap[g]? = some (.cells (ints .u64 [r0,r1,r2,r3,r4,r5]) 155)):=by
  refine enter 44 [(0,.int .i64 4),(1,.int .u64 (xx)),(2,.int .u64 (yy)),(3,.pointer (some ⟨g,0,none⟩))] Tryd.func87 rfl rfl kj rfl <| sgC fun K2 hK2=>sg 2 kj ?_
  obtain ⟨hi_,lo_,hhi,hlo,hml,cml⟩:=QjR xx yy hxx hyy
  rw [hp] at hml
  refine Qau (.tuple #[.int .u64 (hi_),.int .u64 (lo_)]) 88 #[.int .u64 (xx),.int .u64 (yy)] 14 rfl kj kj ((mulR (cml _))) fun W1 e1=>sg 5 kj <| sgN hK2 <| sgB kj <| sgC fun K4 hK4=>sg 3 kj ?_
  have r1_1:=(Qaa hg e1)
  refine Qab (.int .u64 q4_) 21 rfl kj (Qad 75 _ g 4 155 _ (.int .u64 q4_) _ r1_1 rfl kj kj kj) <| sg 1 kj ?_
  obtain ⟨s1,d1,hs1,hd1,he1,ra1⟩:=QcC (q4_) (lo_) (0) hq4_ hlo ⟨by decide,by decide⟩
  refine Qab (.tuple #[.int .u64 (s1),.int .u64 (d1)]) 23 rfl kj (Qbl (f:=84) (args:=#[.int .u64 q4_,.int .u64 (lo_),.int .u64 0]) _ _ _ rfl kj kj (ra1 _)) <| sg 4 kj <| Qan g _ (ints .u64 ([q0_,q1_,q2_,q3_,(s1),q5_])) 155 r1_1 rfl kj (Qa1 75 _ _ g 4 155 _ _ r1_1 rfl kj kj kj (show 4<6 by decide)) fun W2 p2 r1_2=>sg 1 kj <| sgN hK4 <| sgB kj <| wp_block <| wp_loop_rounds 2 ?_
  show zba _ _ (Exit.then (zbb _ _ _ 1) _) _ _
  refine wp_seq_k fun K6 hK6=>sgB kj <| cond_true kj <| wp_skip <| hK6 _ _ <| wp_seq_k fun K8 hK8=>wp_block <| sgC fun K9 hK9=>sg 3 kj <| Qab (.int .u64 q5_) 37 rfl kj (Qad 75 _ g 5 155 _ (.int .u64 q5_) _ r1_2 rfl kj kj kj) ?_
  refine sg 2 kj ?_
  obtain ⟨s2,d2,hs2,hd2,he2,ra2⟩:=QcC (q5_) (hi_) (d1) hq5_ hhi hd1
  refine Qab (.tuple #[.int .u64 (s2),.int .u64 (d2)]) 40 rfl kj (Qbl (f:=84) (args:=#[.int .u64 q5_,.int .u64 (hi_),.int .u64 (d1)]) _ _ _ rfl kj kj (ra2 _)) <| sg 4 kj <| Qan g _ (ints .u64 ([q0_,q1_,q2_,q3_,(s1),(s2)])) 155 r1_2 rfl kj (Qa1 75 _ _ g 5 155 _ _ r1_2 rfl kj kj kj (show 5<6 by decide)) fun W3 p3 r1_3=>sg 1 kj <| sgN hK9 <| sgA kj <| hK8 _ _ <| sgA kj ?_
  show zbb _ _ _ 1 _ _
  show zba _ _ (Exit.then (zbb _ _ _ 0) _) _ _
  refine wp_seq_k fun K10 hK10=>sgB kj <| cond_false kj <| wp_exit ?_
  repeat (first | with_reducible refine goX1 ?_ | with_reducible refine goX2 ?_ | with_reducible refine goX3 ?_)
  exact (show bodyPost _ _ _ .normal _ _ from end0 rfl ⟨rfl,q0_,q1_,q2_,q3_,s1,s2,hq0_,hq1_,hq2_,hq3_,hs1,hs2,(by obtain ⟨u1,v1⟩:=id hs1; obtain ⟨u2,v2⟩:=id hs2; obtain ⟨uq0,vq0⟩:=id hq0_; obtain ⟨uq1,vq1⟩:=id hq1_; obtain ⟨uq2,vq2⟩:=id hq2_; obtain ⟨uq3,vq3⟩:=id hq3_; obtain ⟨uq4,vq4⟩:=id hq4_; obtain ⟨uq5,vq5⟩:=id hq5_; obtain ⟨ud1,vd1⟩:=id hd1; obtain ⟨ud2,vd2⟩:=id hd2; obtain ⟨uh1,uh2⟩:=id hhi; obtain ⟨ul1,ul2⟩:=id hlo; omega),(zbm (zbm (zbl (zbk g w) e1) p2) p3),r1_3⟩)
end Ae
end
section
namespace Ae
open Go Go.RowKit
open Rely Auto Own Sha
open Sha Cha
def mulV (v : Int):Int:=v%1361129467683753853853498429727072845824+5*(v/1361129467683753853853498429727072845824)
theorem shr2 (q : Int) (h:isW q):q.fdiv (2^min (2:Int).toNat zaU.bits)=q/4:=by
  have e:(2:Int)^min (2:Int).toNat zaU.bits=4:=by decide
  rw [e,Int.fdiv_eq_ediv_of_nonneg _ (by decide)]
theorem Qo6 (q : Int) (h:isW q):zaU.wrap (q*2^min (62:Int).toNat zaU.bits)=q%4*4611686018427387904:=by
  have e:(2:Int)^min (62:Int).toNat zaU.bits=4611686018427387904:=by decide
  have h3:∀ z:Int,zaU.wrap z=z%18446744073709551616:=fun _=>rfl
  rw [e,h3]
  obtain ⟨h1,h2⟩:=h
  omega
theorem or62 (q r:Int) (hq:isW q) (hr:isW r):bits .or .u64 (q/4) (r%4*4611686018427387904)=q/4+r%4*4611686018427387904:=by
  obtain ⟨q0,q1⟩:=hq
  obtain ⟨r0,r1⟩:=hr
  obtain ⟨A,hA⟩:=zaS (show 0≤q/4 by omega)
  obtain ⟨C,hC⟩:=zaS (show 0≤r%4 by omega)
  rw [hA,hC]
  have hA2:A<2^62:=by omega
  have hC2:C<4:=by omega
  have e:((C:Nat):Int)*4611686018427387904=((C*4611686018427387904:Nat):Int):=by rw [zaV]; rfl
  rw [e,bits_or_u64_nat A (C*4611686018427387904) (by omega) (by omega)]
  have h:=zaW hA2 C
  rw [zaX] at h
  rw [Nat.or_comm,←show C*2^62=C*4611686018427387904 from rfl,←h]
  rw [zaY]; omega
theorem and3 (q : Int) (h:isW q):bits .and .u64 q 3=q%4:=by
  obtain ⟨A,rfl⟩:=zaS h.1
  have h:=bits_and_u64_nat A 3 (by have:=h.2; omega) (by omega)
  have e:A&&&3=A%4:=zaT A 2
  rw [e] at h
  exact h
theorem QmF {a0 a1 a2 a3 a4 a5 e0 e1 f0 f1 f2 f3 f4 f5 v:Int} (ha0:isW a0) (ha1:isW a1) (ha2:isW a2) (ha3:isW a3) (ha4:isW a4) (ha5:isW a5) (hf0:isW f0) (hf1:isW f1) (hf2:isW f2) (hf3:isW f3) (hf4:isW f4) (hf5:isW f5)
    (ha:(a0+18446744073709551616*a1+340282366920938463463374607431768211456*a2+6277101735386680763835789423207666416102355444464034512896*a3+115792089237316195423570985008687907853269984665640564039457584007913129639936*a4+2135987035920910082395021706169552114602704522356652769947041607822219725780640550022962086936576*a5)=v) (hv:v<115792089237316195423570985008687907853269984665640564039457584007913129639936) (h0:e0=a2/4+a3%4*4611686018427387904) (h1:e1=a3/4)
    (hf:(f0+18446744073709551616*f1+340282366920938463463374607431768211456*f2+6277101735386680763835789423207666416102355444464034512896*f3+115792089237316195423570985008687907853269984665640564039457584007913129639936*f4+2135987035920910082395021706169552114602704522356652769947041607822219725780640550022962086936576*f5)=(a0+18446744073709551616*a1+340282366920938463463374607431768211456*(a2%4))+5*e0+18446744073709551616*(5*e1)):f0+18446744073709551616*f1+340282366920938463463374607431768211456*f2=mulV v:=by
  obtain ⟨a0a,a0b⟩:=ha0
  obtain ⟨a1a,a1b⟩:=ha1
  obtain ⟨a2a,a2b⟩:=ha2
  obtain ⟨a3a,a3b⟩:=ha3
  obtain ⟨a4a,-⟩:=ha4
  obtain ⟨a5a,-⟩:=ha5
  obtain ⟨f0a,f0b⟩:=hf0
  obtain ⟨f1a,f1b⟩:=hf1
  obtain ⟨f2a,f2b⟩:=hf2
  obtain ⟨f3a,-⟩:=hf3
  obtain ⟨f4a,-⟩:=hf4
  obtain ⟨f5a,-⟩:=hf5
  have z5:a5=0:=by omega
  have z4:a4=0:=by omega
  subst z5 z4
  have e3:v=a0+18446744073709551616*a1+340282366920938463463374607431768211456*(a2%4)+1361129467683753853853498429727072845824*(a2/4+4611686018427387904*a3):=by omega
  have hl:0≤a0+18446744073709551616*a1+340282366920938463463374607431768211456*(a2%4)∧a0+18446744073709551616*a1+340282366920938463463374607431768211456*(a2%4)<1361129467683753853853498429727072845824:=by omega
  have hm:v%1361129467683753853853498429727072845824=a0+18446744073709551616*a1+340282366920938463463374607431768211456*(a2%4):=by omega
  have hd:v/1361129467683753853853498429727072845824=a2/4+4611686018427387904*a3:=by omega
  have he:e0+18446744073709551616*e1=a2/4+4611686018427387904*a3:=by omega
  have hlt:a2/4+4611686018427387904*a3<85070591730234615865843651857942052864:=by omega
  have hsum:(f0+18446744073709551616*f1+340282366920938463463374607431768211456*f2+6277101735386680763835789423207666416102355444464034512896*f3+115792089237316195423570985008687907853269984665640564039457584007913129639936*f4+2135987035920910082395021706169552114602704522356652769947041607822219725780640550022962086936576*f5)<2722258935367507707706996859454145691648:=by omega
  have y5:f5=0:=by omega
  have y4:f4=0:=by omega
  have y3:f3=0:=by omega
  subst y5 y4 y3
  unfold mulV
  rw [hm,hd]
  omega
theorem QgA {a b:Int} (ha:0≤a) (hb:0≤b) (ha2:a<5444517870735015415413993718908291383296) (hb2:b<21267647932558653966460912964485513216):a*b<115792089237316195423570985008687907853269984665640564039457584007913129639936:=by
  have h1:a*b≤a*21267647932558653966460912964485513216:=zbd (by omega) ha
  omega
set_option maxRecDepth 100000 in
theorem mulW (m0_ m1_ m2_ n0_ n1_ n2_ va vb:Int) (hm0_:isW m0_) (hm1_:isW m1_) (hm2_:isW m2_) (hn0_:isW n0_) (hn1_:isW n1_) (hn2_:isW n2_) (hva:(m0_+18446744073709551616*m1_+340282366920938463463374607431768211456*m2_)=va) (hvb:(n0_+18446744073709551616*n1_+340282366920938463463374607431768211456*n2_)=vb) (hal:va<5444517870735015415413993718908291383296) (hbl:vb<21267647932558653966460912964485513216) (w:World) :
    Calls Tryd.prog 83 #[.agg (ints .u64 [m0_,m1_,m2_]),.agg (ints .u64 [n0_,n1_,n2_])] w (Ret w (.agg (ints .u64 (nw3 (mulV (va*vb)))))):=by
  obtain ⟨p00,ep00⟩:∃ z,z=m0_*n0_:=⟨_,rfl⟩
  have hp00:0≤p00:=by rw [ep00]; exact zaZ hm0_.1 hn0_.1
  obtain ⟨p01,ep01⟩:∃ z,z=m0_*n1_:=⟨_,rfl⟩
  have hp01:0≤p01:=by rw [ep01]; exact zaZ hm0_.1 hn1_.1
  obtain ⟨p02,ep02⟩:∃ z,z=m0_*n2_:=⟨_,rfl⟩
  have hp02:0≤p02:=by rw [ep02]; exact zaZ hm0_.1 hn2_.1
  obtain ⟨p10,ep10⟩:∃ z,z=m1_*n0_:=⟨_,rfl⟩
  have hp10:0≤p10:=by rw [ep10]; exact zaZ hm1_.1 hn0_.1
  obtain ⟨p11,ep11⟩:∃ z,z=m1_*n1_:=⟨_,rfl⟩
  have hp11:0≤p11:=by rw [ep11]; exact zaZ hm1_.1 hn1_.1
  obtain ⟨p12,ep12⟩:∃ z,z=m1_*n2_:=⟨_,rfl⟩
  have hp12:0≤p12:=by rw [ep12]; exact zaZ hm1_.1 hn2_.1
  obtain ⟨p20,ep20⟩:∃ z,z=m2_*n0_:=⟨_,rfl⟩
  have hp20:0≤p20:=by rw [ep20]; exact zaZ hm2_.1 hn0_.1
  obtain ⟨p21,ep21⟩:∃ z,z=m2_*n1_:=⟨_,rfl⟩
  have hp21:0≤p21:=by rw [ep21]; exact zaZ hm2_.1 hn1_.1
  obtain ⟨p22,ep22⟩:∃ z,z=m2_*n2_:=⟨_,rfl⟩
  have hp22:0≤p22:=by rw [ep22]; exact zaZ hm2_.1 hn2_.1
  have hT:1*p00+18446744073709551616*p01+340282366920938463463374607431768211456*p02+18446744073709551616*p10+340282366920938463463374607431768211456*p11+6277101735386680763835789423207666416102355444464034512896*p12+340282366920938463463374607431768211456*p20+6277101735386680763835789423207666416102355444464034512896*p21+115792089237316195423570985008687907853269984665640564039457584007913129639936*p22=va*vb:=by rw [ep00,ep01,ep02,ep10,ep11,ep12,ep20,ep21,ep22,←hva,←hvb]; grind
  have hTl:1*p00+18446744073709551616*p01+340282366920938463463374607431768211456*p02+18446744073709551616*p10+340282366920938463463374607431768211456*p11+6277101735386680763835789423207666416102355444464034512896*p12+340282366920938463463374607431768211456*p20+6277101735386680763835789423207666416102355444464034512896*p21+115792089237316195423570985008687907853269984665640564039457584007913129639936*p22<115792089237316195423570985008687907853269984665640564039457584007913129639936:=by
    rw [hT]
    obtain ⟨a0,a1⟩:=id hm0_; obtain ⟨a2,a3⟩:=id hm1_; obtain ⟨a4,a5⟩:=id hm2_; obtain ⟨c0,c1⟩:=id hn0_; obtain ⟨c2,c3⟩:=id hn1_; obtain ⟨c4,c5⟩:=id hn2_
    exact QgA (by omega) (by omega) hal hbl
  refine enter 70 [(0,.agg (ints .u64 ([m0_,m1_,m2_]))),(1,.agg (ints .u64 ([n0_,n1_,n2_])))] Tryd.func83 rfl rfl kj rfl <| sgC fun K1 hK1=>Qar (ints .u64 ([m0_,m1_,m2_])) 138 2 rfl kj kj fun g2 W1 l2 e1 r2_1=>?_
  have x1:=zbj (zbf w) e1
  have b2:=qT (zbf w).size l2
  refine Qar (ints .u64 ([n0_,n1_,n2_])) 138 3 rfl kj kj fun g3 W2 l3 e2 r3_2=>?_
  have x2:=zbj x1 e2
  have b3:=qT x1.size l3
  refine Qar (ints .u64 ([0,0,0])) 138 4 rfl kj kj fun g4 W3 l4 e3 r4_3=>?_
  have x3:=zbj x2 e3
  refine sgN hK1 <| sgC fun K5 hK5=>Qar (ints .u64 ([0,0,0,0,0,0])) 155 5 rfl kj kj fun g6 W4 l6 e4 r6_4=>?_
  have b6:=qT x3.size l6
  refine sgN hK5 <| sgB kj <| wp_seq_k fun K8 hK8=>sgC fun K9 hK9=>Qab (.agg (ints .u64 ([m0_,m1_,m2_]))) 15 rfl kj (Qap 138 _ g2 138 _ _ (Qaa (Qaa (Qaa r2_1 e2) e3) e4) rfl kj kj (isz (n:=3) kj kj)) <| sg 1 kj <| sgN hK9 <| wp_block <| wp_loop_rounds 4 ?_
  show zba _ _ (Exit.then (zbb _ _ _ 3) _) _ _
  refine sgB kj <| sgT kj <| wp_seq_k fun K12 hK12=>wp_block <| sgC fun K13 hK13=>sg 1 kj <| Qab (.int .u64 m0_) 19 rfl kj (QaB 138 _ _ .i64 .u64 ([m0_,m1_,m2_]) 0 3 75 m0_ rfl kj kj kj kj kj rfl (by decide) rfl) <| sg 2 kj <| sgN hK13 <| sgC fun K14 hK14=>?_
  have r3_3:=(Qaa r3_2 e3)
  have r3_4:=(Qaa r3_3 e4)
  refine Qab (.agg (ints .u64 ([n0_,n1_,n2_]))) 20 rfl kj (Qap 138 _ g3 138 _ _ r3_4 rfl kj kj (isz (n:=3) kj kj)) <| sg 1 kj <| sgN hK14 <| wp_block <| wp_loop_rounds 4 ?_
  show zba _ _ (Exit.then (zbb _ _ _ 3) _) _ _
  refine sgB kj <| sgT kj <| wp_seq_k fun K17 hK17=>wp_block <| sgC fun K18 hK18=>sg 1 kj <| Qab (.int .u64 n0_) 24 rfl kj (QaB 138 _ _ .i64 .u64 ([n0_,n1_,n2_]) 0 3 75 n0_ rfl kj kj kj kj kj rfl (by decide) rfl) <| sg 2 kj <| sgN hK18 <| Qae ?_
  refine sg 6 kj <| Qav (fun v W'=>v=.tuple #[]∧∃ r0 r1 r2 r3 r4 r5:Int,isW r0∧isW r1∧isW r2∧isW r3∧isW r4∧isW r5∧(r0+18446744073709551616*r1+340282366920938463463374607431768211456*r2+6277101735386680763835789423207666416102355444464034512896*r3+115792089237316195423570985008687907853269984665640564039457584007913129639936*r4+2135987035920910082395021706169552114602704522356652769947041607822219725780640550022962086936576*r5)=(0+18446744073709551616*0+340282366920938463463374607431768211456*0+6277101735386680763835789423207666416102355444464034512896*0+115792089237316195423570985008687907853269984665640564039457584007913129639936*0+2135987035920910082395021706169552114602704522356652769947041607822219725780640550022962086936576*0)+1*p00∧ExtB g6 W4 W'∧W'.heap[g6]? = some (.cells (ints .u64 [r0,r1,r2,r3,r4,r5]) 155)) 87 #[.int .i64 0,.int .u64 m0_,.int .u64 n0_,.pointer (some ⟨g6,0,none⟩)] 31 rfl kj kj ((Qmc g6 0 0 0 0 0 0 m0_ n0_ p00 Qbw Qbw Qbw Qbw Qbw Qbw hm0_ hn0_ ep00.symm (by omega) _ r6_4).mono fun e w' h=>⟨_,h.1,rfl,h.2⟩) fun v W5 h=>?_
  obtain ⟨rfl,z1w0,z1w1,z1w2,z1w3,z1w4,z1w5,hz1w0,hz1w1,hz1w2,hz1w3,hz1w4,hz1w5,hV1,q5,r6_5⟩:=h
  have hS1:(z1w0+18446744073709551616*z1w1+340282366920938463463374607431768211456*z1w2+6277101735386680763835789423207666416102355444464034512896*z1w3+115792089237316195423570985008687907853269984665640564039457584007913129639936*z1w4+2135987035920910082395021706169552114602704522356652769947041607822219725780640550022962086936576*z1w5)=1*p00:=by omega
  refine Qal <| hK17 _ _ <| sgA kj ?_
  show zbb _ _ _ 3 _ _
  show zba _ _ (Exit.then (zbb _ _ _ 2) _) _ _
  refine sgB kj <| sgT kj <| wp_seq_k fun K21 hK21=>wp_block <| sgC fun K22 hK22=>sg 1 kj <| Qab (.int .u64 n1_) 24 rfl kj (QaB 138 _ _ .i64 .u64 ([n0_,n1_,n2_]) 1 3 75 n1_ rfl kj kj kj kj kj rfl (by decide) rfl) <| sg 2 kj <| sgN hK22 <| Qae ?_
  refine sg 6 kj <| Qav (fun v W'=>v=.tuple #[]∧∃ r0 r1 r2 r3 r4 r5:Int,isW r0∧isW r1∧isW r2∧isW r3∧isW r4∧isW r5∧(r0+18446744073709551616*r1+340282366920938463463374607431768211456*r2+6277101735386680763835789423207666416102355444464034512896*r3+115792089237316195423570985008687907853269984665640564039457584007913129639936*r4+2135987035920910082395021706169552114602704522356652769947041607822219725780640550022962086936576*r5)=(z1w0+18446744073709551616*z1w1+340282366920938463463374607431768211456*z1w2+6277101735386680763835789423207666416102355444464034512896*z1w3+115792089237316195423570985008687907853269984665640564039457584007913129639936*z1w4+2135987035920910082395021706169552114602704522356652769947041607822219725780640550022962086936576*z1w5)+18446744073709551616*p01∧ExtB g6 W5 W'∧W'.heap[g6]? = some (.cells (ints .u64 [r0,r1,r2,r3,r4,r5]) 155)) 87 #[.int .i64 1,.int .u64 m0_,.int .u64 n1_,.pointer (some ⟨g6,0,none⟩)] 31 rfl kj kj ((QjV g6 z1w0 z1w1 z1w2 z1w3 z1w4 z1w5 m0_ n1_ p01 hz1w0 hz1w1 hz1w2 hz1w3 hz1w4 hz1w5 hm0_ hn1_ ep01.symm (by rw [hS1]; omega) _ r6_5).mono fun e w' h=>⟨_,h.1,rfl,h.2⟩) fun v W6 h=>?_
  obtain ⟨rfl,z2w0,z2w1,z2w2,z2w3,z2w4,z2w5,hz2w0,hz2w1,hz2w2,hz2w3,hz2w4,hz2w5,hV2,q6,r6_6⟩:=h
  have hS2:(z2w0+18446744073709551616*z2w1+340282366920938463463374607431768211456*z2w2+6277101735386680763835789423207666416102355444464034512896*z2w3+115792089237316195423570985008687907853269984665640564039457584007913129639936*z2w4+2135987035920910082395021706169552114602704522356652769947041607822219725780640550022962086936576*z2w5)=1*p00+18446744073709551616*p01:=by omega
  refine Qal <| hK21 _ _ <| sgA kj ?_
  show zbb _ _ _ 2 _ _
  show zba _ _ (Exit.then (zbb _ _ _ 1) _) _ _
  refine sgB kj <| sgT kj <| wp_seq_k fun K25 hK25=>wp_block <| sgC fun K26 hK26=>sg 1 kj <| Qab (.int .u64 n2_) 24 rfl kj (QaB 138 _ _ .i64 .u64 ([n0_,n1_,n2_]) 2 3 75 n2_ rfl kj kj kj kj kj rfl (by decide) rfl) <| sg 2 kj <| sgN hK26 <| Qae ?_
  refine sg 6 kj <| Qav (fun v W'=>v=.tuple #[]∧∃ r0 r1 r2 r3 r4 r5:Int,isW r0∧isW r1∧isW r2∧isW r3∧isW r4∧isW r5∧(r0+18446744073709551616*r1+340282366920938463463374607431768211456*r2+6277101735386680763835789423207666416102355444464034512896*r3+115792089237316195423570985008687907853269984665640564039457584007913129639936*r4+2135987035920910082395021706169552114602704522356652769947041607822219725780640550022962086936576*r5)=(z2w0+18446744073709551616*z2w1+340282366920938463463374607431768211456*z2w2+6277101735386680763835789423207666416102355444464034512896*z2w3+115792089237316195423570985008687907853269984665640564039457584007913129639936*z2w4+2135987035920910082395021706169552114602704522356652769947041607822219725780640550022962086936576*z2w5)+340282366920938463463374607431768211456*p02∧ExtB g6 W6 W'∧W'.heap[g6]? = some (.cells (ints .u64 [r0,r1,r2,r3,r4,r5]) 155)) 87 #[.int .i64 2,.int .u64 m0_,.int .u64 n2_,.pointer (some ⟨g6,0,none⟩)] 31 rfl kj kj ((QjU g6 z2w0 z2w1 z2w2 z2w3 z2w4 z2w5 m0_ n2_ p02 hz2w0 hz2w1 hz2w2 hz2w3 hz2w4 hz2w5 hm0_ hn2_ ep02.symm (by rw [hS2]; omega) _ r6_6).mono fun e w' h=>⟨_,h.1,rfl,h.2⟩) fun v W7 h=>?_
  obtain ⟨rfl,z3w0,z3w1,z3w2,z3w3,z3w4,z3w5,hz3w0,hz3w1,hz3w2,hz3w3,hz3w4,hz3w5,hV3,q7,r6_7⟩:=h
  have hS3:(z3w0+18446744073709551616*z3w1+340282366920938463463374607431768211456*z3w2+6277101735386680763835789423207666416102355444464034512896*z3w3+115792089237316195423570985008687907853269984665640564039457584007913129639936*z3w4+2135987035920910082395021706169552114602704522356652769947041607822219725780640550022962086936576*z3w5)=1*p00+18446744073709551616*p01+340282366920938463463374607431768211456*p02:=by omega
  refine Qal <| hK25 _ _ <| sgA kj ?_
  show zbb _ _ _ 1 _ _
  show zba _ _ (Exit.then (zbb _ _ _ 0) _) _ _
  refine sgB kj <| wp_seq_k fun K28 hK28=>cond_false kj <| wp_exit <| hK12 _ _ <| sgA kj ?_
  show zbb _ _ _ 3 _ _
  show zba _ _ (Exit.then (zbb _ _ _ 2) _) _ _
  refine sgB kj <| sgT kj <| wp_seq_k fun K31 hK31=>wp_block <| sgC fun K32 hK32=>sg 1 kj <| Qab (.int .u64 m1_) 19 rfl kj (QaB 138 _ _ .i64 .u64 ([m0_,m1_,m2_]) 1 3 75 m1_ rfl kj kj kj kj kj rfl (by decide) rfl) <| sg 2 kj <| sgN hK32 <| sgC fun K33 hK33=>?_
  have r3_7:=(zbn q7 (zbn q6 (zbn q5 r3_4 (Qag r3_3 l6)) (Qag r3_3 l6)) (Qag r3_3 l6))
  refine Qab (.agg (ints .u64 ([n0_,n1_,n2_]))) 20 rfl kj (Qap 138 _ g3 138 _ _ r3_7 rfl kj kj (isz (n:=3) kj kj)) <| sg 1 kj <| sgN hK33 <| wp_block <| wp_loop_rounds 4 ?_
  show zba _ _ (Exit.then (zbb _ _ _ 3) _) _ _
  refine sgB kj <| sgT kj <| wp_seq_k fun K36 hK36=>wp_block <| sgC fun K37 hK37=>sg 1 kj <| Qab (.int .u64 n0_) 24 rfl kj (QaB 138 _ _ .i64 .u64 ([n0_,n1_,n2_]) 0 3 75 n0_ rfl kj kj kj kj kj rfl (by decide) rfl) <| sg 2 kj <| sgN hK37 <| Qae ?_
  refine sg 6 kj <| Qav (fun v W'=>v=.tuple #[]∧∃ r0 r1 r2 r3 r4 r5:Int,isW r0∧isW r1∧isW r2∧isW r3∧isW r4∧isW r5∧(r0+18446744073709551616*r1+340282366920938463463374607431768211456*r2+6277101735386680763835789423207666416102355444464034512896*r3+115792089237316195423570985008687907853269984665640564039457584007913129639936*r4+2135987035920910082395021706169552114602704522356652769947041607822219725780640550022962086936576*r5)=(z3w0+18446744073709551616*z3w1+340282366920938463463374607431768211456*z3w2+6277101735386680763835789423207666416102355444464034512896*z3w3+115792089237316195423570985008687907853269984665640564039457584007913129639936*z3w4+2135987035920910082395021706169552114602704522356652769947041607822219725780640550022962086936576*z3w5)+18446744073709551616*p10∧ExtB g6 W7 W'∧W'.heap[g6]? = some (.cells (ints .u64 [r0,r1,r2,r3,r4,r5]) 155)) 87 #[.int .i64 1,.int .u64 m1_,.int .u64 n0_,.pointer (some ⟨g6,0,none⟩)] 31 rfl kj kj ((QjV g6 z3w0 z3w1 z3w2 z3w3 z3w4 z3w5 m1_ n0_ p10 hz3w0 hz3w1 hz3w2 hz3w3 hz3w4 hz3w5 hm1_ hn0_ ep10.symm (by rw [hS3]; omega) _ r6_7).mono fun e w' h=>⟨_,h.1,rfl,h.2⟩) fun v W8 h=>?_
  obtain ⟨rfl,z4w0,z4w1,z4w2,z4w3,z4w4,z4w5,hz4w0,hz4w1,hz4w2,hz4w3,hz4w4,hz4w5,hV4,q8,r6_8⟩:=h
  have hS4:(z4w0+18446744073709551616*z4w1+340282366920938463463374607431768211456*z4w2+6277101735386680763835789423207666416102355444464034512896*z4w3+115792089237316195423570985008687907853269984665640564039457584007913129639936*z4w4+2135987035920910082395021706169552114602704522356652769947041607822219725780640550022962086936576*z4w5)=1*p00+18446744073709551616*p01+340282366920938463463374607431768211456*p02+18446744073709551616*p10:=by omega
  refine Qal <| hK36 _ _ <| sgA kj ?_
  show zbb _ _ _ 3 _ _
  show zba _ _ (Exit.then (zbb _ _ _ 2) _) _ _
  refine sgB kj <| sgT kj <| wp_seq_k fun K40 hK40=>wp_block <| sgC fun K41 hK41=>sg 1 kj <| Qab (.int .u64 n1_) 24 rfl kj (QaB 138 _ _ .i64 .u64 ([n0_,n1_,n2_]) 1 3 75 n1_ rfl kj kj kj kj kj rfl (by decide) rfl) <| sg 2 kj <| sgN hK41 <| Qae ?_
  refine sg 6 kj <| Qav (fun v W'=>v=.tuple #[]∧∃ r0 r1 r2 r3 r4 r5:Int,isW r0∧isW r1∧isW r2∧isW r3∧isW r4∧isW r5∧(r0+18446744073709551616*r1+340282366920938463463374607431768211456*r2+6277101735386680763835789423207666416102355444464034512896*r3+115792089237316195423570985008687907853269984665640564039457584007913129639936*r4+2135987035920910082395021706169552114602704522356652769947041607822219725780640550022962086936576*r5)=(z4w0+18446744073709551616*z4w1+340282366920938463463374607431768211456*z4w2+6277101735386680763835789423207666416102355444464034512896*z4w3+115792089237316195423570985008687907853269984665640564039457584007913129639936*z4w4+2135987035920910082395021706169552114602704522356652769947041607822219725780640550022962086936576*z4w5)+340282366920938463463374607431768211456*p11∧ExtB g6 W8 W'∧W'.heap[g6]? = some (.cells (ints .u64 [r0,r1,r2,r3,r4,r5]) 155)) 87 #[.int .i64 2,.int .u64 m1_,.int .u64 n1_,.pointer (some ⟨g6,0,none⟩)] 31 rfl kj kj ((QjU g6 z4w0 z4w1 z4w2 z4w3 z4w4 z4w5 m1_ n1_ p11 hz4w0 hz4w1 hz4w2 hz4w3 hz4w4 hz4w5 hm1_ hn1_ ep11.symm (by rw [hS4]; omega) _ r6_8).mono fun e w' h=>⟨_,h.1,rfl,h.2⟩) fun v W9 h=>?_
  obtain ⟨rfl,z5w0,z5w1,z5w2,z5w3,z5w4,z5w5,hz5w0,hz5w1,hz5w2,hz5w3,hz5w4,hz5w5,hV5,q9,r6_9⟩:=h
  have hS5:(z5w0+18446744073709551616*z5w1+340282366920938463463374607431768211456*z5w2+6277101735386680763835789423207666416102355444464034512896*z5w3+115792089237316195423570985008687907853269984665640564039457584007913129639936*z5w4+2135987035920910082395021706169552114602704522356652769947041607822219725780640550022962086936576*z5w5)=1*p00+18446744073709551616*p01+340282366920938463463374607431768211456*p02+18446744073709551616*p10+340282366920938463463374607431768211456*p11:=by omega
  refine Qal <| hK40 _ _ <| sgA kj ?_
  show zbb _ _ _ 2 _ _
  show zba _ _ (Exit.then (zbb _ _ _ 1) _) _ _
  refine sgB kj <| sgT kj <| wp_seq_k fun K44 hK44=>wp_block <| sgC fun K45 hK45=>sg 1 kj <| Qab (.int .u64 n2_) 24 rfl kj (QaB 138 _ _ .i64 .u64 ([n0_,n1_,n2_]) 2 3 75 n2_ rfl kj kj kj kj kj rfl (by decide) rfl) <| sg 2 kj <| sgN hK45 <| Qae ?_
  refine sg 6 kj <| Qav (fun v W'=>v=.tuple #[]∧∃ r0 r1 r2 r3 r4 r5:Int,isW r0∧isW r1∧isW r2∧isW r3∧isW r4∧isW r5∧(r0+18446744073709551616*r1+340282366920938463463374607431768211456*r2+6277101735386680763835789423207666416102355444464034512896*r3+115792089237316195423570985008687907853269984665640564039457584007913129639936*r4+2135987035920910082395021706169552114602704522356652769947041607822219725780640550022962086936576*r5)=(z5w0+18446744073709551616*z5w1+340282366920938463463374607431768211456*z5w2+6277101735386680763835789423207666416102355444464034512896*z5w3+115792089237316195423570985008687907853269984665640564039457584007913129639936*z5w4+2135987035920910082395021706169552114602704522356652769947041607822219725780640550022962086936576*z5w5)+6277101735386680763835789423207666416102355444464034512896*p12∧ExtB g6 W9 W'∧W'.heap[g6]? = some (.cells (ints .u64 [r0,r1,r2,r3,r4,r5]) 155)) 87 #[.int .i64 3,.int .u64 m1_,.int .u64 n2_,.pointer (some ⟨g6,0,none⟩)] 31 rfl kj kj ((Qmb g6 z5w0 z5w1 z5w2 z5w3 z5w4 z5w5 m1_ n2_ p12 hz5w0 hz5w1 hz5w2 hz5w3 hz5w4 hz5w5 hm1_ hn2_ ep12.symm (by rw [hS5]; omega) _ r6_9).mono fun e w' h=>⟨_,h.1,rfl,h.2⟩) fun v W10 h=>?_
  obtain ⟨rfl,z6w0,z6w1,z6w2,z6w3,z6w4,z6w5,hz6w0,hz6w1,hz6w2,hz6w3,hz6w4,hz6w5,hV6,q10,r6_10⟩:=h
  have hS6:(z6w0+18446744073709551616*z6w1+340282366920938463463374607431768211456*z6w2+6277101735386680763835789423207666416102355444464034512896*z6w3+115792089237316195423570985008687907853269984665640564039457584007913129639936*z6w4+2135987035920910082395021706169552114602704522356652769947041607822219725780640550022962086936576*z6w5)=1*p00+18446744073709551616*p01+340282366920938463463374607431768211456*p02+18446744073709551616*p10+340282366920938463463374607431768211456*p11+6277101735386680763835789423207666416102355444464034512896*p12:=by omega
  refine Qal <| hK44 _ _ <| sgA kj ?_
  show zbb _ _ _ 1 _ _
  show zba _ _ (Exit.then (zbb _ _ _ 0) _) _ _
  refine sgB kj <| wp_seq_k fun K47 hK47=>cond_false kj <| wp_exit <| hK31 _ _ <| sgA kj ?_
  show zbb _ _ _ 2 _ _
  show zba _ _ (Exit.then (zbb _ _ _ 1) _) _ _
  refine sgB kj <| sgT kj <| wp_seq_k fun K50 hK50=>wp_block <| sgC fun K51 hK51=>sg 1 kj <| Qab (.int .u64 m2_) 19 rfl kj (QaB 138 _ _ .i64 .u64 ([m0_,m1_,m2_]) 2 3 75 m2_ rfl kj kj kj kj kj rfl (by decide) rfl) <| sg 2 kj <| sgN hK51 <| sgC fun K52 hK52=>?_
  refine Qab (.agg (ints .u64 ([n0_,n1_,n2_]))) 20 rfl kj (Qap 138 _ g3 138 _ _ (zbn q10 (zbn q9 (zbn q8 r3_7 (Qag r3_3 l6)) (Qag r3_3 l6)) (Qag r3_3 l6)) rfl kj kj (isz (n:=3) kj kj)) <| sg 1 kj <| sgN hK52 <| wp_block <| wp_loop_rounds 4 ?_
  show zba _ _ (Exit.then (zbb _ _ _ 3) _) _ _
  refine sgB kj <| sgT kj <| wp_seq_k fun K55 hK55=>wp_block <| sgC fun K56 hK56=>sg 1 kj <| Qab (.int .u64 n0_) 24 rfl kj (QaB 138 _ _ .i64 .u64 ([n0_,n1_,n2_]) 0 3 75 n0_ rfl kj kj kj kj kj rfl (by decide) rfl) <| sg 2 kj <| sgN hK56 <| Qae ?_
  refine sg 6 kj <| Qav (fun v W'=>v=.tuple #[]∧∃ r0 r1 r2 r3 r4 r5:Int,isW r0∧isW r1∧isW r2∧isW r3∧isW r4∧isW r5∧(r0+18446744073709551616*r1+340282366920938463463374607431768211456*r2+6277101735386680763835789423207666416102355444464034512896*r3+115792089237316195423570985008687907853269984665640564039457584007913129639936*r4+2135987035920910082395021706169552114602704522356652769947041607822219725780640550022962086936576*r5)=(z6w0+18446744073709551616*z6w1+340282366920938463463374607431768211456*z6w2+6277101735386680763835789423207666416102355444464034512896*z6w3+115792089237316195423570985008687907853269984665640564039457584007913129639936*z6w4+2135987035920910082395021706169552114602704522356652769947041607822219725780640550022962086936576*z6w5)+340282366920938463463374607431768211456*p20∧ExtB g6 W10 W'∧W'.heap[g6]? = some (.cells (ints .u64 [r0,r1,r2,r3,r4,r5]) 155)) 87 #[.int .i64 2,.int .u64 m2_,.int .u64 n0_,.pointer (some ⟨g6,0,none⟩)] 31 rfl kj kj ((QjU g6 z6w0 z6w1 z6w2 z6w3 z6w4 z6w5 m2_ n0_ p20 hz6w0 hz6w1 hz6w2 hz6w3 hz6w4 hz6w5 hm2_ hn0_ ep20.symm (by rw [hS6]; omega) _ r6_10).mono fun e w' h=>⟨_,h.1,rfl,h.2⟩) fun v W11 h=>?_
  obtain ⟨rfl,z7w0,z7w1,z7w2,z7w3,z7w4,z7w5,hz7w0,hz7w1,hz7w2,hz7w3,hz7w4,hz7w5,hV7,q11,r6_11⟩:=h
  have hS7:(z7w0+18446744073709551616*z7w1+340282366920938463463374607431768211456*z7w2+6277101735386680763835789423207666416102355444464034512896*z7w3+115792089237316195423570985008687907853269984665640564039457584007913129639936*z7w4+2135987035920910082395021706169552114602704522356652769947041607822219725780640550022962086936576*z7w5)=1*p00+18446744073709551616*p01+340282366920938463463374607431768211456*p02+18446744073709551616*p10+340282366920938463463374607431768211456*p11+6277101735386680763835789423207666416102355444464034512896*p12+340282366920938463463374607431768211456*p20:=by omega
  refine Qal <| hK55 _ _ <| sgA kj ?_
  show zbb _ _ _ 3 _ _
  show zba _ _ (Exit.then (zbb _ _ _ 2) _) _ _
  refine sgB kj <| sgT kj <| wp_seq_k fun K59 hK59=>wp_block <| sgC fun K60 hK60=>sg 1 kj <| Qab (.int .u64 n1_) 24 rfl kj (QaB 138 _ _ .i64 .u64 ([n0_,n1_,n2_]) 1 3 75 n1_ rfl kj kj kj kj kj rfl (by decide) rfl) <| sg 2 kj <| sgN hK60 <| Qae ?_
  refine sg 6 kj <| Qav (fun v W'=>v=.tuple #[]∧∃ r0 r1 r2 r3 r4 r5:Int,isW r0∧isW r1∧isW r2∧isW r3∧isW r4∧isW r5∧(r0+18446744073709551616*r1+340282366920938463463374607431768211456*r2+6277101735386680763835789423207666416102355444464034512896*r3+115792089237316195423570985008687907853269984665640564039457584007913129639936*r4+2135987035920910082395021706169552114602704522356652769947041607822219725780640550022962086936576*r5)=(z7w0+18446744073709551616*z7w1+340282366920938463463374607431768211456*z7w2+6277101735386680763835789423207666416102355444464034512896*z7w3+115792089237316195423570985008687907853269984665640564039457584007913129639936*z7w4+2135987035920910082395021706169552114602704522356652769947041607822219725780640550022962086936576*z7w5)+6277101735386680763835789423207666416102355444464034512896*p21∧ExtB g6 W11 W'∧W'.heap[g6]? = some (.cells (ints .u64 [r0,r1,r2,r3,r4,r5]) 155)) 87 #[.int .i64 3,.int .u64 m2_,.int .u64 n1_,.pointer (some ⟨g6,0,none⟩)] 31 rfl kj kj ((Qmb g6 z7w0 z7w1 z7w2 z7w3 z7w4 z7w5 m2_ n1_ p21 hz7w0 hz7w1 hz7w2 hz7w3 hz7w4 hz7w5 hm2_ hn1_ ep21.symm (by rw [hS7]; omega) _ r6_11).mono fun e w' h=>⟨_,h.1,rfl,h.2⟩) fun v W12 h=>?_
  obtain ⟨rfl,z8w0,z8w1,z8w2,z8w3,z8w4,z8w5,hz8w0,hz8w1,hz8w2,hz8w3,hz8w4,hz8w5,hV8,q12,r6_12⟩:=h
  have hS8:(z8w0+18446744073709551616*z8w1+340282366920938463463374607431768211456*z8w2+6277101735386680763835789423207666416102355444464034512896*z8w3+115792089237316195423570985008687907853269984665640564039457584007913129639936*z8w4+2135987035920910082395021706169552114602704522356652769947041607822219725780640550022962086936576*z8w5)=1*p00+18446744073709551616*p01+340282366920938463463374607431768211456*p02+18446744073709551616*p10+340282366920938463463374607431768211456*p11+6277101735386680763835789423207666416102355444464034512896*p12+340282366920938463463374607431768211456*p20+6277101735386680763835789423207666416102355444464034512896*p21:=by omega
  refine Qal <| hK59 _ _ <| sgA kj ?_
  show zbb _ _ _ 2 _ _
  show zba _ _ (Exit.then (zbb _ _ _ 1) _) _ _
  refine sgB kj <| sgT kj <| wp_seq_k fun K63 hK63=>wp_block <| sgC fun K64 hK64=>sg 1 kj <| Qab (.int .u64 n2_) 24 rfl kj (QaB 138 _ _ .i64 .u64 ([n0_,n1_,n2_]) 2 3 75 n2_ rfl kj kj kj kj kj rfl (by decide) rfl) <| sg 2 kj <| sgN hK64 <| Qae ?_
  refine sg 6 kj <| Qav (fun v W'=>v=.tuple #[]∧∃ r0 r1 r2 r3 r4 r5:Int,isW r0∧isW r1∧isW r2∧isW r3∧isW r4∧isW r5∧(r0+18446744073709551616*r1+340282366920938463463374607431768211456*r2+6277101735386680763835789423207666416102355444464034512896*r3+115792089237316195423570985008687907853269984665640564039457584007913129639936*r4+2135987035920910082395021706169552114602704522356652769947041607822219725780640550022962086936576*r5)=(z8w0+18446744073709551616*z8w1+340282366920938463463374607431768211456*z8w2+6277101735386680763835789423207666416102355444464034512896*z8w3+115792089237316195423570985008687907853269984665640564039457584007913129639936*z8w4+2135987035920910082395021706169552114602704522356652769947041607822219725780640550022962086936576*z8w5)+115792089237316195423570985008687907853269984665640564039457584007913129639936*p22∧ExtB g6 W12 W'∧W'.heap[g6]? = some (.cells (ints .u64 [r0,r1,r2,r3,r4,r5]) 155)) 87 #[.int .i64 4,.int .u64 m2_,.int .u64 n2_,.pointer (some ⟨g6,0,none⟩)] 31 rfl kj kj ((QnZ g6 z8w0 z8w1 z8w2 z8w3 z8w4 z8w5 m2_ n2_ p22 hz8w0 hz8w1 hz8w2 hz8w3 hz8w4 hz8w5 hm2_ hn2_ ep22.symm (by rw [hS8]; omega) _ r6_12).mono fun e w' h=>⟨_,h.1,rfl,h.2⟩) fun v W13 h=>?_
  obtain ⟨rfl,z9w0,z9w1,z9w2,z9w3,z9w4,z9w5,hz9w0,hz9w1,hz9w2,hz9w3,hz9w4,hz9w5,hV9,q13,r6_13⟩:=h
  have x13:=zbo (zbo (zbo (zbo (zbo (zbo (zbo (zbo (zbo (zbj x3 e4) q5 b6) q6 b6) q7 b6) q8 b6) q9 b6) q10 b6) q11 b6) q12 b6) q13 b6
  have hS9:(z9w0+18446744073709551616*z9w1+340282366920938463463374607431768211456*z9w2+6277101735386680763835789423207666416102355444464034512896*z9w3+115792089237316195423570985008687907853269984665640564039457584007913129639936*z9w4+2135987035920910082395021706169552114602704522356652769947041607822219725780640550022962086936576*z9w5)=1*p00+18446744073709551616*p01+340282366920938463463374607431768211456*p02+18446744073709551616*p10+340282366920938463463374607431768211456*p11+6277101735386680763835789423207666416102355444464034512896*p12+340282366920938463463374607431768211456*p20+6277101735386680763835789423207666416102355444464034512896*p21+115792089237316195423570985008687907853269984665640564039457584007913129639936*p22:=by omega
  refine Qal <| hK63 _ _ <| sgA kj ?_
  show zbb _ _ _ 1 _ _
  show zba _ _ (Exit.then (zbb _ _ _ 0) _) _ _
  refine sgB kj <| wp_seq_k fun K66 hK66=>cond_false kj <| wp_exit <| hK50 _ _ <| sgA kj ?_
  show zbb _ _ _ 1 _ _
  show zba _ _ (Exit.then (zbb _ _ _ 0) _) _ _
  refine sgB kj <| wp_seq_k fun K68 hK68=>cond_false kj <| wp_exit <| hK8 _ _ <| sgC fun K69 hK69=>?_
  obtain ⟨e0_,ee0⟩:∃ z,z=z9w2/4+z9w3%4*4611686018427387904:=⟨_,rfl⟩
  obtain ⟨e1_,ee1⟩:∃ z,z=z9w3/4:=⟨_,rfl⟩
  have he0:isW e0_:=by obtain ⟨a1,a2⟩:=id hz9w2; obtain ⟨a3,a4⟩:=id hz9w3; exact ⟨by omega,by omega⟩
  have he1:isW e1_:=by obtain ⟨a3,a4⟩:=id hz9w3; exact ⟨by omega,by omega⟩
  refine sg 1 kj <| Qab (.int .u64 z9w2) 35 rfl kj (Qad 75 _ g6 2 155 _ (.int .u64 z9w2) _ r6_13 rfl kj kj kj) <| Qab (.int .u64 (z9w2/4)) 36 rfl kj (QaM .shr _ _ _ _ .u64 .u64 _ _ _ rfl kj kj (QbW _ _ _ _ _ _ (by decide) (shr2 _ hz9w2))) <| sg 1 kj <| Qab (.int .u64 z9w3) 38 rfl kj (Qad 75 _ g6 3 155 _ (.int .u64 z9w3) _ r6_13 rfl kj kj kj) <| Qab (.int .u64 (z9w3%4*4611686018427387904)) 39 rfl kj (QaM .shl _ _ _ _ .u64 .u64 _ _ _ rfl kj kj (Qev _ _ _ _ _ _ (by decide) (Qo6 _ hz9w3))) <| Qab (.int .u64 (e0_)) 40 rfl kj (Qah (u:=.int .u64 (bits .or .u64 ((z9w2/4)) ((z9w3%4*4611686018427387904)))) kj (congrArg (zau .u64) ((or62 _ _ hz9w2 hz9w3).trans ee0.symm))) <| sg 1 kj <| Qab (.int .u64 z9w3) 42 rfl kj (Qad 75 _ g6 3 155 _ (.int .u64 z9w3) _ r6_13 rfl kj kj kj) <| Qab (.int .u64 (e1_)) 43 rfl kj (QaM .shr _ _ _ _ .u64 .u64 _ _ _ rfl kj kj (QbW _ _ _ _ _ _ (by decide) ((shr2 _ hz9w3).trans ee1.symm))) ?_
  refine sg 1 kj <| Qar (ints .u64 ([0,0])) 158 11 rfl kj kj fun g70 W14 l70 e14 r70_14=>Qan g70 _ (ints .u64 ([(e0_),(e1_)])) 158 r70_14 rfl kj (Qao 158 _ _ g70 158 _ _ r70_14 rfl kj kj (isz (n:=2) kj kj) (eqsz (n:=2) kj kj) (Qay _ _)) fun W15 p15 r70_15=>sgN hK69 <| sgC fun K71 hK71=>sg 1 kj ?_
  have r6_15:=(rpn p15 r6_13 e14 l70)
  refine Qab (.int .u64 z9w0) 46 rfl kj (Qad 75 _ g6 0 155 _ (.int .u64 z9w0) _ r6_15 rfl kj kj kj) <| sg 1 kj <| Qab (.int .u64 z9w1) 48 rfl kj (Qad 75 _ g6 1 155 _ (.int .u64 z9w1) _ r6_15 rfl kj kj kj) <| sg 1 kj <| Qab (.int .u64 z9w2) 50 rfl kj (Qad 75 _ g6 2 155 _ (.int .u64 z9w2) _ r6_15 rfl kj kj kj) <| Qab (.int .u64 (z9w2%4)) 51 rfl kj (Qah (u:=.int .u64 (bits .and .u64 (z9w2) (3))) kj (congrArg (zau .u64) (and3 _ hz9w2))) <| sg 1 kj <| Qan g6 _ (ints .u64 ([z9w0,z9w1,(z9w2%4),0,0,0])) 155 r6_15 rfl kj (Qao 155 _ _ g6 155 _ _ r6_15 rfl kj kj (isz (n:=6) kj kj) (eqsz (n:=6) kj kj) (Qay _ _)) fun W16 p16 r6_16=>?_
  obtain ⟨aq0,bq0⟩:=id hz9w0
  obtain ⟨aq1,bq1⟩:=id hz9w1
  obtain ⟨aq2,bq2⟩:=id hz9w2
  obtain ⟨aq3,bq3⟩:=id hz9w3
  obtain ⟨aq4,bq4⟩:=id hz9w4
  obtain ⟨aq5,bq5⟩:=id hz9w5
  obtain ⟨ae0,be0⟩:=id he0
  obtain ⟨ae1,be1⟩:=id he1
  refine sgN hK71 <| wp_seq_k fun K72 hK72=>sgC fun K73 hK73=>Qab (.agg (ints .u64 ([(e0_),(e1_)]))) 53 rfl kj (Qap 158 _ g70 158 _ _ (zbh p16 r70_15 (QaJ r6_13 l70)) rfl kj kj (isz (n:=2) kj kj)) <| sg 1 kj <| sgN hK73 <| wp_block <| wp_loop_rounds 3 ?_
  show zba _ _ (Exit.then (zbb _ _ _ 2) _) _ _
  refine sgB kj <| sgT kj <| wp_seq_k fun K76 hK76=>wp_block <| sgC fun K77 hK77=>sg 1 kj <| Qab (.int .u64 (e0_)) 57 rfl kj (QaB 158 _ _ .i64 .u64 ([(e0_),(e1_)]) 0 2 75 (e0_) rfl kj kj kj kj kj rfl (by decide) rfl) <| sg 2 kj <| sgN hK77 <| Qae ?_
  refine sg 3 kj <| Qav (fun v W'=>v=.tuple #[]∧∃ r0 r1 r2 r3 r4 r5:Int,isW r0∧isW r1∧isW r2∧isW r3∧isW r4∧isW r5∧(r0+18446744073709551616*r1+340282366920938463463374607431768211456*r2+6277101735386680763835789423207666416102355444464034512896*r3+115792089237316195423570985008687907853269984665640564039457584007913129639936*r4+2135987035920910082395021706169552114602704522356652769947041607822219725780640550022962086936576*r5)=(z9w0+18446744073709551616*z9w1+340282366920938463463374607431768211456*(z9w2%4)+6277101735386680763835789423207666416102355444464034512896*0+115792089237316195423570985008687907853269984665640564039457584007913129639936*0+2135987035920910082395021706169552114602704522356652769947041607822219725780640550022962086936576*0)+1*(5*e0_)∧ExtB g6 W16 W'∧W'.heap[g6]? = some (.cells (ints .u64 [r0,r1,r2,r3,r4,r5]) 155)) 87 #[.int .i64 0,.int .u64 (e0_),.int .u64 5,.pointer (some ⟨g6,0,none⟩)] 61 rfl kj kj ((Qmc g6 z9w0 z9w1 (z9w2%4) 0 0 0 e0_ 5 (5*e0_) hz9w0 hz9w1 ⟨by omega,by omega⟩ Qbw Qbw Qbw he0 ⟨by decide,by decide⟩ (by omega) (by omega) _ r6_16).mono fun e w' h=>⟨_,h.1,rfl,h.2⟩) fun v W17 h=>?_
  obtain ⟨rfl,z10w0,z10w1,z10w2,z10w3,z10w4,z10w5,hz10w0,hz10w1,hz10w2,hz10w3,hz10w4,hz10w5,hV10,q17,r6_17⟩:=h
  have hS10:(z10w0+18446744073709551616*z10w1+340282366920938463463374607431768211456*z10w2+6277101735386680763835789423207666416102355444464034512896*z10w3+115792089237316195423570985008687907853269984665640564039457584007913129639936*z10w4+2135987035920910082395021706169552114602704522356652769947041607822219725780640550022962086936576*z10w5)=(z9w0+18446744073709551616*z9w1+340282366920938463463374607431768211456*(z9w2%4))+1*(5*e0_):=by omega
  refine Qal <| hK76 _ _ <| sgA kj ?_
  show zbb _ _ _ 2 _ _
  show zba _ _ (Exit.then (zbb _ _ _ 1) _) _ _
  refine sgB kj <| sgT kj <| wp_seq_k fun K80 hK80=>wp_block <| sgC fun K81 hK81=>sg 1 kj <| Qab (.int .u64 (e1_)) 57 rfl kj (QaB 158 _ _ .i64 .u64 ([(e0_),(e1_)]) 1 2 75 (e1_) rfl kj kj kj kj kj rfl (by decide) rfl) <| sg 2 kj <| sgN hK81 <| Qae ?_
  refine sg 3 kj <| Qav (fun v W'=>v=.tuple #[]∧∃ r0 r1 r2 r3 r4 r5:Int,isW r0∧isW r1∧isW r2∧isW r3∧isW r4∧isW r5∧(r0+18446744073709551616*r1+340282366920938463463374607431768211456*r2+6277101735386680763835789423207666416102355444464034512896*r3+115792089237316195423570985008687907853269984665640564039457584007913129639936*r4+2135987035920910082395021706169552114602704522356652769947041607822219725780640550022962086936576*r5)=(z10w0+18446744073709551616*z10w1+340282366920938463463374607431768211456*z10w2+6277101735386680763835789423207666416102355444464034512896*z10w3+115792089237316195423570985008687907853269984665640564039457584007913129639936*z10w4+2135987035920910082395021706169552114602704522356652769947041607822219725780640550022962086936576*z10w5)+18446744073709551616*(5*e1_)∧ExtB g6 W17 W'∧W'.heap[g6]? = some (.cells (ints .u64 [r0,r1,r2,r3,r4,r5]) 155)) 87 #[.int .i64 1,.int .u64 (e1_),.int .u64 5,.pointer (some ⟨g6,0,none⟩)] 61 rfl kj kj ((QjV g6 z10w0 z10w1 z10w2 z10w3 z10w4 z10w5 e1_ 5 (5*e1_) hz10w0 hz10w1 hz10w2 hz10w3 hz10w4 hz10w5 he1 ⟨by decide,by decide⟩ (by omega) (by rw [hS10]; omega) _ r6_17).mono fun e w' h=>⟨_,h.1,rfl,h.2⟩) fun v W18 h=>?_
  obtain ⟨rfl,z11w0,z11w1,z11w2,z11w3,z11w4,z11w5,hz11w0,hz11w1,hz11w2,hz11w3,hz11w4,hz11w5,hV11,q18,r6_18⟩:=h
  have hS11:(z11w0+18446744073709551616*z11w1+340282366920938463463374607431768211456*z11w2+6277101735386680763835789423207666416102355444464034512896*z11w3+115792089237316195423570985008687907853269984665640564039457584007913129639936*z11w4+2135987035920910082395021706169552114602704522356652769947041607822219725780640550022962086936576*z11w5)=(z9w0+18446744073709551616*z9w1+340282366920938463463374607431768211456*(z9w2%4))+1*(5*e0_)+18446744073709551616*(5*e1_):=by omega
  refine Qal <| hK80 _ _ <| sgA kj ?_
  show zbb _ _ _ 1 _ _
  show zba _ _ (Exit.then (zbb _ _ _ 0) _) _ _
  refine sgB kj <| wp_seq_k fun K83 hK83=>cond_false kj <| wp_exit <| hK72 _ _ <| sgC fun K84 hK84=>sg 1 kj <| Qab (.int .u64 z11w0) 64 rfl kj (Qad 75 _ g6 0 155 _ (.int .u64 z11w0) _ r6_18 rfl kj kj kj) <| sg 1 kj <| Qab (.int .u64 z11w1) 66 rfl kj (Qad 75 _ g6 1 155 _ (.int .u64 z11w1) _ r6_18 rfl kj kj kj) ?_
  refine sg 1 kj <| Qab (.int .u64 z11w2) 68 rfl kj (Qad 75 _ g6 2 155 _ (.int .u64 z11w2) _ r6_18 rfl kj kj kj) <| sg 1 kj ?_
  have r4_13:=(zbn q13 (zbn q12 (zbn q11 (zbn q10 (zbn q9 (zbn q8 (zbn q7 (zbn q6 (zbn q5 (Qaa r4_3 e4) (Qag r4_3 l6)) (Qag r4_3 l6)) (Qag r4_3 l6)) (Qag r4_3 l6)) (Qag r4_3 l6)) (Qag r4_3 l6)) (Qag r4_3 l6)) (Qag r4_3 l6)) (Qag r4_3 l6))
  have r4_18:=(zbn q18 (zbn q17 (zbh p16 (rpn p15 r4_13 e14 l70) (Qag r4_3 l6)) (Qag r4_3 l6)) (Qag r4_3 l6))
  refine Qan g4 _ (ints .u64 ([z11w0,z11w1,z11w2])) 138 r4_18 rfl kj (Qao 138 _ _ g4 138 _ _ r4_18 rfl kj kj (isz (n:=3) kj kj) (eqsz (n:=3) kj kj) (Qay _ _)) fun W19 p19 r4_19=>sgN hK84 <| wp_ret ?_
  repeat (first | with_reducible refine goR1 ?_ | with_reducible refine goR2 ?_)
  exact (show bodyPost _ _ _ .ret _ _ from ret1 (.agg (ints .u64 ([z11w0,z11w1,z11w2]))) rfl (QaP g4 138 _ r4_19 kj kj (isz (n:=3) kj kj)) ⟨by rw [QlZ (v:=mulV (va*vb)) hz11w0 hz11w1 hz11w2 (QmF hz9w0 hz9w1 hz9w2 hz9w3 hz9w4 hz9w5 hz11w0 hz11w1 hz11w2 hz11w3 hz11w4 hz11w5 (hS9.trans hT) (by rw [←hT]; exact hTl) ee0 ee1 (by rw [hS11]; omega))],(zbi p19 (zbo (zbo (zbi p16 (zbi p15 (zbj x13 e14) (qT x13.size l70)) b6) q17 b6) q18 b6) (qT x2.size l4))⟩)
theorem QjQ (a b:Int) (ha:0≤a) (hb:0≤b) (hal:a<5444517870735015415413993718908291383296) (hbl:b<21267647932558653966460912964485513216) (w:World) :
    Calls Tryd.prog 83 #[.agg (ints .u64 (nw3 a)),.agg (ints .u64 (nw3 b))] w (Ret w (.agg (ints .u64 (nw3 (mulV (a*b)))))) :=
  mulW _ _ _ _ _ _ a b (Qcz _) (Qcz _) (Qcz _) (Qcz _) (Qcz _) (Qcz _) (QfT a ha (by omega)) (QfT b hb (by omega)) hal hbl w
end Ae
end
section
namespace Ae
open Go Go.RowKit
open Rely Auto Own Sha
open Sha Cha
theorem run_storeQ {P : Program} {ρ:Operand→Value} {o:Oper} {w:World} (ty:TypeId) (x y:Operand) (g off:Nat) (t:TypeId) (pre post:List (Array Value)) (u v:Value) (hg:w.heap[g]? = some (.cells (cat (pre++([#[u]]++post))) t))
    (ho:o.op=.store ty x y) (hx:ρ x=.pointer (some ⟨g,off,none⟩)) (hy:ρ y=v) (hi:(P.info? ty).map (·.size)=some 1) (hp:(cat pre).size=off) (h1:v.oneCell'=true) (hcs:v.cells=#[v]) :
    (execOp ρ o).run P w=.ok .skip (w.setRow g (cat (pre++([#[v]]++post)))):=by
  subst hp
  have hs:Nat.blt (cat pre).size (cat (pre++([#[u]]++post))).size=true:=by
    have:(cat pre).size<(cat (pre++([#[u]]++post))).size:=by
      rw [QaD,QaD,qS,qS]
      have e1:(cat [#[u]]).size=1:=rfl
      omega
    simpa using this
  have e:(cat (pre++([#[u]]++post))).setIfInBounds (cat pre).size v=cat (pre++([#[v]]++post)):=by
    rw [QaD,QaD,QaD,QaD]
    have e1:∀ z,cat [#[z]]=#[z]:=fun z=>rfl
    rw [e1,e1,Array.setIfInBounds_append_right (qR _),zag,Array.setIfInBounds_append_left (by simp)]
    rfl
  rw [←e]
  exact Qbd ty x y g _ t _ v hg ho hx hy hi hs h1 hcs
theorem Qm0 {k : IntKind} {T:TypeId} {g n0 n l h:Nat} {xs:List Int} (pre post:List (Array Value)) {W:World} (hp:(cat pre).size=n0) (hn:xs.length=n) (r:W.heap[g]? = some (.cells (cat (pre++([ints k xs]++post))) T)) (h1:l≤h) (h2:h≤n) (h3:n≤maxLen) :
    RdK k W.heap.size ((xs.drop l).take (h-l)) (.slice (some ⟨g,n0+l,none⟩) (h-l) (n-l)) W :=
  QdK (n0+l) (by rw [zae,zaL]; omega) r (fun i hi=>by
    rw [QfV _ _ _ hi,QhS]
    exact QdB pre post xs n0 (l+i) _ hp (by omega) (by omega)) (Qaq r) (by omega) (by omega)
theorem QhV (v : Int):mulV v%PP=v%PP:=by
  unfold mulV PP
  omega
theorem QmG (v : Int) (h0:0≤v) (h:v<115792089237316195423570985008687907853269984665640564039457584007913129639936):0≤mulV v∧mulV v<2041694201525630780780247644590609268736:=by
  unfold mulV
  omega
theorem QgE {c : List Int} (hb:Qai c) (hl:c.length≤16):0≤lev (c++[1])∧lev (c++[1])≤680564733841876926926749214863536422912:=by
  have h1:=QgF hb
  have h0:=QcU hb
  rw [QfZ]
  have h2:p256 16=p256 c.length*p256 (16-c.length):=by rw [←Qd7]; congr 1; omega
  have h3:=Qdd (16-c.length)
  have h4:p256 c.length*1≤p256 c.length*p256 (16-c.length):=zbd (by omega) (Int.le_of_lt (Qdd _))
  have h5:=Qdd c.length
  rw [p16] at h2
  omega
theorem QkP (pl : List Int) (m:Nat) (h:m<pl.length):((pl.set m 1).drop 0).take (m+1-0)=pl.take m++[1]:=by
  show (pl.set m 1).take (m+1)=_
  rw [QeV _ m (by rw [zaa]; exact h)]
  congr 1
  · rw [List.take_set_of_le (qR _)]
  · simp [nth,h]
def QeU (r S:Int) (c:List Int):Int:=mulV ((S+lev (c++[1]))*r)
theorem Qh9 {r S:Int} {c:List Int} (hS:0≤S∧S<2041694201525630780780247644590609268736) (hr:0≤r∧r<21267647932558653966460912964485513216) (hb:Qai c) (hl:c.length≤16):0≤QeU r S c∧QeU r S c<2041694201525630780780247644590609268736:=by
  obtain ⟨h0,h1⟩:=QgE hb hl
  exact QmG _ (zaZ (by omega) hr.1) (QgA (by omega) hr.1 (by omega) hr.2)
set_option maxRecDepth 100000 in
theorem Qn3 (g : Nat) (r s S:Int) (pl:List Int) (m:Nat) (w:World) (hr:0≤r∧r<21267647932558653966460912964485513216) (hS:0≤S∧S<2041694201525630780780247644590609268736) (hpl:pl.length=17) (hpb:Qai pl) (hm:m≤16) (hg:w.heap[g]? = some (.cells (cat [ints .u64 (nw3 r),ints .u64 (nw3 s),ints .u64 (nw3 (S)),ints .u8 (pl),#[.int .i64 ((m:Nat):Int)]]) 143)) :
    Calls Tryd.prog 79 #[.pointer (some ⟨g,0,none⟩)] w (fun e W=>e=.returned (.tuple #[])∧ExtB g w W∧W.heap[g]? = some (.cells (cat [ints .u64 (nw3 r),ints .u64 (nw3 s),ints .u64 (nw3 (QeU r S (pl.take m))),ints .u8 (pl.set m 1),#[.int .i64 0]]) 143)):=by
  have hpl1:(pl.set m 1).length=17:=by rw [zaa,hpl]
  have hpb1:Qai (pl.set m 1):=QbR hpb _ (by decide) (by decide)
  have hset:=QkP pl m (by omega)
  obtain ⟨hc0,hc1⟩:0≤lev (((pl.set m 1).drop 0).take (m+1-0))∧lev (((pl.set m 1).drop 0).take (m+1-0))≤680564733841876926926749214863536422912:=by rw [hset]; exact QgE (Qbe hpb m) (by rw [zae]; omega)
  refine enter 36 [(0,.pointer (some ⟨g,0,none⟩))] Tryd.func79 rfl rfl kj rfl <| wp_seq_k fun K2 hK2=>QaL 8 [⟨none,[(0,none)]⟩,⟨none,[(0,none)]⟩,⟨none,[(3,some 1)]⟩,⟨none,[(4,some 2)]⟩,⟨none,[(5,some 3)]⟩,⟨none,[(2,some 0)]⟩,⟨none,[(7,some 5)]⟩,⟨none,[(8,some 6),(6,some 4)]⟩] kj kj fun F hF=>Qak (.pointer (some ⟨g,0,none⟩)) kj kj (fun _=>kj) <| Qak (.pointer (some ⟨g,0,none⟩)) kj kj (fun _=>kj) <| Qak (.pointer (some ⟨g,0,none⟩)) kj kj (fun _=>kj) <| Qak (.pointer (some ⟨g,26,none⟩)) kj kj (fun _=>kj) <| Qa7 (.int .i64 ((m:Nat):Int)) kj kj (fun W hR=>(Qad 3 _ g 26 143 _ (.int .i64 ((m:Nat):Int)) _ (Qaa (Qaa hg (Qaj _)) hR) rfl kj (Qam [ints .u64 (nw3 r),ints .u64 (nw3 s),ints .u64 (nw3 (S)),ints .u8 (pl)] [#[.int .i64 ((m:Nat):Int)]] [] 26 (by rw [Qac,Qac,Qac,Qac]; simp only [qS,cat,(izT (Qa3 _)),(izT hpl)]; rfl) 0 _ rfl) kj)) ?_
  refine Qak (.pointer (some ⟨g,0,none⟩)) kj kj (fun _=>kj) <| Qak (.pointer (some ⟨g,9,none⟩)) kj kj (fun _=>kj) <| Qak (.pointer (some ⟨g,9+m*1,none⟩)) kj kj (fun W=>(Qce 141 _ _ .i64 m g 9 17 5 1 rfl kj kj kj kj (show m<17 by omega))) <| QaQ (hF _ kj fun W1 e1=>?_)
  simp only [ups,up,Kn.val,za0,zaf,za1,za2,zax,zay]
  clear hF
  have r1_1:=(Qaa hg e1)
  refine Qan g _ (cat [ints .u64 (nw3 r),ints .u64 (nw3 s),ints .u64 (nw3 (S)),ints .u8 ((pl).set m 1),#[.int .i64 ((m:Nat):Int)]]) 143 r1_1 rfl kj (Qeh 5 _ _ g (9+m*1) 143 [ints .u64 (nw3 r),ints .u64 (nw3 s),ints .u64 (nw3 (S))] [#[.int .i64 ((m:Nat):Int)]] pl 9 m _ r1_1 rfl kj kj kj (by rw [Qac,Qac,Qac]; simp only [qS,cat,(izT (Qa3 _))]; rfl) (by omega) (zav (show m<17 by omega) hpl.symm)) fun W2 p2 r1_2=>?_
  refine sgN hK2 <| wp_seq_k fun K3 hK3=>QaL 23 [⟨none,[(0,none)]⟩,⟨none,[(0,none)]⟩,⟨none,[(11,some 1)]⟩,⟨none,[(12,some 2)]⟩,⟨none,[(13,some 3)]⟩,⟨none,[(0,none)]⟩,⟨none,[(15,some 5)]⟩,⟨none,[(16,some 6)]⟩,⟨none,[(0,none)]⟩,⟨none,[(18,some 8)]⟩,⟨none,[(19,some 9)]⟩,⟨none,[(20,some 10)]⟩,⟨none,[(21,some 11)]⟩,⟨none,[(17,some 7),(22,some 12)]⟩,⟨none,[(23,some 13)]⟩,⟨none,[(14,some 4),(24,some 14)]⟩,⟨none,[(0,none)]⟩,⟨none,[(26,some 16)]⟩,⟨none,[(27,some 17)]⟩,⟨none,[(28,some 18)]⟩,⟨none,[(25,some 15),(29,some 19)]⟩,⟨none,[(10,some 0)]⟩,⟨none,[(31,some 21)]⟩] kj kj fun F hF=>Qak (.pointer (some ⟨g,0,none⟩)) kj kj (fun _=>kj) <| Qak (.pointer (some ⟨g,0,none⟩)) kj kj (fun _=>kj) <| Qak (.pointer (some ⟨g,0,none⟩)) kj kj (fun _=>kj) <| Qak (.pointer (some ⟨g,6,none⟩)) kj kj (fun _=>kj) <| Qa7 (.agg (ints .u64 (nw3 (S)))) kj kj (fun W hR=>(Qa0 138 _ g 6 143 _ _ _ (Qaa (Qaa r1_2 (Qaj _)) hR) rfl kj (Qam [ints .u64 (nw3 r),ints .u64 (nw3 s)] [ints .u64 (nw3 (S))] [ints .u8 ((pl).set m 1),#[.int .i64 ((m:Nat):Int)]] 6 (by rw [Qac,Qac]; simp only [qS,cat,(izT (Qa3 _))]; rfl)) kj (isz (n:=3) kj (izT (Qa3 _))))) ?_
  refine Qak (.pointer (some ⟨g,0,none⟩)) kj kj (fun _=>kj) <| Qak (.pointer (some ⟨g,0,none⟩)) kj kj (fun _=>kj) <| Qak (.pointer (some ⟨g,9,none⟩)) kj kj (fun _=>kj) <| Qak (.pointer (some ⟨g,0,none⟩)) kj kj (fun _=>kj) <| Qak (.pointer (some ⟨g,0,none⟩)) kj kj (fun _=>kj) <| Qak (.pointer (some ⟨g,26,none⟩)) kj kj (fun _=>kj) <| Qa7 (.int .i64 ((m:Nat):Int)) kj kj (fun W hR=>(Qad 3 _ g 26 143 _ (.int .i64 ((m:Nat):Int)) _ (Qaa (Qaa r1_2 (Qaj _)) hR) rfl kj (Qam [ints .u64 (nw3 r),ints .u64 (nw3 s),ints .u64 (nw3 (S)),ints .u8 ((pl).set m 1)] [#[.int .i64 ((m:Nat):Int)]] [] 26 (by rw [Qac,Qac,Qac,Qac]; simp only [qS,cat,(izT ((zaa ..).trans hpl)),(izT (Qa3 _))]; rfl) 0 _ rfl) kj)) ?_
  refine Qak (.int .i64 (((m+1:Nat):Int))) kj kj (fun W=>(Qah (u:=.int .i64 (zaz.wrap (((m:Nat):Int)+1))) kj (congrArg (zau .i64) (IntWalk.i64_in _ (by omega))))) <| Qak (.slice (some ⟨g,9+0,none⟩) ((m+1)-0) (17-0)) kj kj (fun W=>(Qb3 141 _ _ _ 0 (m+1) 17 g 9 5 rfl kj kj kj rfl ⟨.i64,by kernel_rfl⟩ (by omega) (by omega) (by omega))) <| Qdl (.agg (ints .u64 (nw3 (lev (((pl.set m 1).drop 0).take (m+1-0)))))) 78 #[.slice (some ⟨g,9+0,none⟩) ((m+1)-0) (17-0)] kj kj (fun _=>kj) (fun W hR=>(Qjp (((pl.set m 1).drop 0).take (m+1-0)) _ _ W (Qm0 (n0:=9) (l:=0) (h:=m+1) [ints .u64 (nw3 r),ints .u64 (nw3 s),ints .u64 (nw3 (S))] [#[.int .i64 ((m:Nat):Int)]] kj hpl1 (Qaa (Qaa r1_2 (Qaj _)) hR) (by omega) (by omega) (by decide)) (by rw [zae]; omega) (Qbe (Qb7 hpb1 0) _))) ?_
  refine Qdl (.agg (ints .u64 (nw3 (S+lev (((pl.set m 1).drop 0).take (m+1-0)))))) 80 #[.agg (ints .u64 (nw3 (S))),.agg (ints .u64 (nw3 (lev (((pl.set m 1).drop 0).take (m+1-0)))))] kj kj (fun _=>kj) (fun W hR=>(Qhm S (lev (((pl.set m 1).drop 0).take (m+1-0))) hS.1 hc0 (by omega) (by omega) (by omega)) W) <| Qak (.pointer (some ⟨g,0,none⟩)) kj kj (fun _=>kj) <| Qak (.pointer (some ⟨g,0,none⟩)) kj kj (fun _=>kj) <| Qak (.pointer (some ⟨g,0,none⟩)) kj kj (fun _=>kj) <| Qa7 (.agg (ints .u64 (nw3 r))) kj kj (fun W hR=>(Qa0 138 _ g 0 143 _ _ _ (Qaa (Qaa r1_2 (Qaj _)) hR) rfl kj (Qam [] [ints .u64 (nw3 r)] [ints .u64 (nw3 s),ints .u64 (nw3 (S)),ints .u8 ((pl).set m 1),#[.int .i64 ((m:Nat):Int)]] 0 kj) kj (isz (n:=3) kj (izT (Qa3 _))))) <| Qdl (.agg (ints .u64 (nw3 (mulV ((S+lev (((pl.set m 1).drop 0).take (m+1-0)))*r))))) 83 #[.agg (ints .u64 (nw3 (S+lev (((pl.set m 1).drop 0).take (m+1-0))))),.agg (ints .u64 (nw3 r))] kj kj (fun _=>kj) (fun W hR=>(QjQ (S+lev (((pl.set m 1).drop 0).take (m+1-0))) r (by omega) hr.1 (by omega) hr.2) W) <| Qak (.pointer (some ⟨g,0,none⟩)) kj kj (fun _=>kj) <| Qak (.pointer (some ⟨g,6,none⟩)) kj kj (fun _=>kj) <| QaQ (hF _ kj fun W3 e3=>?_)
  simp only [ups,up,Kn.val,za0,zaf,za1,za2,zax,zay]
  clear hF
  have r1_3:=(Qaa r1_2 e3)
  refine Qan g _ (cat [ints .u64 (nw3 r),ints .u64 (nw3 s),ints .u64 (nw3 (mulV ((S+lev (((pl.set m 1).drop 0).take (m+1-0)))*r))),ints .u8 ((pl).set m 1),#[.int .i64 ((m:Nat):Int)]]) 143 r1_3 rfl kj (QbC 138 _ _ g 6 143 [ints .u64 (nw3 r),ints .u64 (nw3 s)] [ints .u64 (nw3 (S))] [ints .u64 (nw3 (mulV ((S+lev (((pl.set m 1).drop 0).take (m+1-0)))*r)))] [ints .u8 ((pl).set m 1),#[.int .i64 ((m:Nat):Int)]] r1_3 rfl kj kj (isz (n:=3) kj (izT (Qa3 _))) (by rw [Qac,Qac]; simp only [qS,cat,(izT (Qa3 _))]; rfl) (eqsz (n:=3) (izT (Qa3 _)) (izT (Qa3 _))) (Qay _ _)) fun W4 p4 r1_4=>?_
  refine sgN hK3 <| Qae <| sg 3 kj <| Qan g _ (cat [ints .u64 (nw3 r),ints .u64 (nw3 s),ints .u64 (nw3 (mulV ((S+lev (((pl.set m 1).drop 0).take (m+1-0)))*r))),ints .u8 ((pl).set m 1),#[.int .i64 0]]) 143 r1_4 rfl kj (run_storeQ 3 _ _ g 26 143 [ints .u64 (nw3 r),ints .u64 (nw3 s),ints .u64 (nw3 (mulV ((S+lev (((pl.set m 1).drop 0).take (m+1-0)))*r))),ints .u8 ((pl).set m 1)] [] _ (.int .i64 0) r1_4 rfl kj kj kj (by rw [Qac,Qac,Qac,Qac]; simp only [qS,cat,(izT ((zaa ..).trans hpl)),(izT (Qa3 _))]; rfl) rfl rfl) fun W5 p5 r1_5=>?_
  refine Qal ?_
  repeat (first | with_reducible refine goX1 ?_ | with_reducible refine goX2 ?_ | with_reducible refine goX3 ?_)
  exact (show bodyPost _ _ _ .normal _ _ from end0 rfl ⟨rfl,(zbm (zbm (zbl (zbm (zbl (zbk g w) e1) p2) e3) p4) p5),by have h9:=r1_5; rw [hset] at h9; exact h9⟩)
end Ae
end
section
namespace Ae
open Go Go.RowKit
open Rely Auto Own Sha
open Sha Cha
section
variable {ds : List Deferred} {P : Program} {ops : Array Oper} {Q : Exit → Act → World → Prop} {rest : List Oper} {o : Oper} {N : Nat} {L : Env} {W : World}
theorem Qgq {k : IntKind} {e:TypeId} (x y:Operand) (tx ty:TypeId) (d:Nat) (ho:o.op=.call { callee:=.builtin .copy,args:=#[x,y],argTypes:=#[tx,ty] }) (hu:P.underlying tx=some (.slice e)) (hsz:(P.info? e).map (·.size)=some 1) (hd:o.dst=some d) (hgd:Qbm ops o N L=some true)
    {g n0 off dl dc n B:Nat} (pre post:List (Array Value)) {xs z:List Int} {v:Value} {T:TypeId} (hp:(cat pre).size=n0) (hx:Rely.look (envN N L) x=.slice (some ⟨g,n0+off,none⟩) dl dc) (hy:Rely.look (envN N L) y=v) (hr:RdK k B z v W)
    (hg:W.heap[g]? = some (.cells (cat (pre++([ints k xs]++post))) T)) (hq:off+dl≤xs.length) (hn:n=min z.length dl) (h0:0<n)
    (kk:∀ W':World,Puts W g W'→W'.heap[g]? = some (.cells (cat (pre++([ints k (xs.take off++z.take n++xs.drop (off+n))]++post))) T)→WL P ops Q rest (Qaw ds N ((d,.int .i64 ((n:Nat):Int))::L)) W'):WL P ops Q (o::rest) (Qaw ds N L) W:=by
  obtain ⟨a,cap,rfl,y2,y3,y4,y5⟩:=hr
  have hgo:∀ W',(Builtin.copy_ #[tx,ty] o.type #[.slice (some ⟨g,n0+off,none⟩) dl dc,.slice a z.length cap]).run P W=.ok (goInt n) W'→(execOp (Rely.look (envN N L)) o).run P W=.ok (.value (.int .i64 ((n:Nat):Int))) W':=fun W' h=>by
    unfold execOp
    simp only [ho,resolve,invoke,builtin,za6,za7,za8,za9,List.map_cons,List.map_nil,hx,hy,h,goInt]
  obtain ⟨gz,oz,rfl,z2,z3,z4⟩:=y5.resolve_left (fun e=>by rw [e] at hn; simp at hn; omega)
  have hlen:((z.take n).map (zau k)).length=n:=by simp; omega
  have hsz2:(cat (pre++([ints k xs]++post))).size=n0+xs.length+(cat post).size:=by
    rw [QaD,QaD,qS,qS,hp]
    show n0+((cat [ints k xs]).size+(cat post).size)=_
    rw [show cat [ints k xs]=ints k xs by simp [cat],Qat]; omega
  have h:=run_copy_row (P:=P) W tx ty o.type e g (n0+off) dl dc ⟨gz,oz,none⟩ z.length cap (cat (pre++([ints k xs]++post))) T ((z.take n).map (zau k)) hu hsz hg (by rw [hlen]; exact hn)
    (QiR (k:=k) (ys:=z.take n) fun i hi=>by
      rw [zae] at hi
      rw [z4 i (by omega)]
      simp [nth,show i<n by omega]) (by rw [hlen,hsz2]; omega) (QiN k _)
  rw [hlen] at h
  have hpl:(cat pre).toList.length=n0:=by rw [Array.length_toList,hp]
  have e1:((cat (pre++([ints k xs]++post))).toList.take (n0+off)++(z.take n).map (zau k)++(cat (pre++([ints k xs]++post))).toList.drop (n0+off+n)).toArray=cat (pre++([ints k (xs.take off++z.take n++xs.drop (off+n))]++post)):=by
    apply Array.ext'
    have ec:∀ ys:List Int,(cat (pre++([ints k ys]++post))).toList=(cat pre).toList++(ys.map (zau k)++(cat post).toList):=fun ys=>by
      rw [QaD,QaD]
      simp [cat,ints]
    show (cat (pre++([ints k xs]++post))).toList.take (n0+off)++(z.take n).map (zau k)++(cat (pre++([ints k xs]++post))).toList.drop (n0+off+n)=_
    rw [ec,ec,List.take_append,zai (by omega),hpl,show n0+off-n0=off by omega,zaF (by rw [zab]; omega),List.drop_append,zaE (by omega),hpl,show n0+off+n-n0=off+n by omega,zax,zaD (by rw [zab]; omega)]
    simp only [List.map_append,zaH,List.map_drop,zal]
  rw [e1] at h
  exact Qbz _ _ d hd hgd (hgo _ h) (kk _ (QaV _ _ _) (setRow_heap _ _ _ _ _ _ hg))
end
theorem Qfa (r : Int) (u z:List Int):∀ n,16*n≤u.length→Qdu r (u++z) n=Qdu r u n
  | 0,_=>rfl
  | n+1,h=>by
    unfold Qdu
    rw [Qfa r u z n (by omega),zaD (by omega),zaF (by rw [zaL]; omega)]
theorem Qo3 {r S:Int} {u z:List Int} {q m:Nat} (hu:u.length=16*q+m) (hz:z.length=16-m) (hm:m<16) (hS:S%PP=Qdu r u q):QeU r S (u.drop (16*q)++z)%PP=Qdu r (u++z) (q+1):=by
  unfold Qdu QeU
  rw [Qfa r u z q (by omega),zaD (by omega),zai (by rw [zad,zaL]; omega)]
  exact Qfu hS (QhV _)
theorem into_take {pl z:List Int} {m n:Nat} (hm:m≤pl.length) (hz:z.length=n):(pl.take m++z++pl.drop (m+n)).take (m+n)=pl.take m++z:=by
  have h1:(pl.take m++z).length=m+n:=by rw [zad,zae,hz]; omega
  rw [zaF (by omega),zai (by omega)]
theorem into_len {pl z:List Int} {m n:Nat} (hm:m+n≤pl.length) (hz:z.length=n):(pl.take m++z++pl.drop (m+n)).length=pl.length:=by
  rw [zad,zad,zae,zaL,hz]; omega
theorem Qgk (ys : List Int) (k n:Nat):ys.take (k+n)=ys.take k++(ys.drop k).take n:=List.take_add ..
def Mk (g : Nat) (r s:Int) (t:List Int) (W:World):Prop:=∃ (S:Int) (pl:List Int) (q m:Nat),t.length=16*q+m∧m<16∧W.heap[g]? = some (.cells (cat [ints .u64 (nw3 r),ints .u64 (nw3 s),ints .u64 (nw3 (S)),ints .u8 (pl),#[.int .i64 ((m:Nat):Int)]]) 143)∧S%PP=Qdu r t q∧(0≤S∧S<2041694201525630780780247644590609268736)∧pl.length=17∧Qai pl∧pl.take m=t.drop (16*q)
set_option maxRecDepth 100000 in
theorem addC (g : Nat) (r s:Int) (t ys:List Int) (v:Value) (B:Nat) (w:World) (hr:0≤r∧r<21267647932558653966460912964485513216) (hBg:B≤g) (hy:RdK .u8 B ys v w) (hyb:Qai ys) (hyl:ys.length≤3000000) (hM:Mk g r s t w) :
  Calls Tryd.prog 67 #[.pointer (some ⟨g,0,none⟩),v] w (fun e W=>e=.returned (.tuple #[])∧ExtB g w W∧Mk g r s (t++ys) W):=by
 obtain ⟨S0,pl0,q0,m0,hq0,hm0,hg,hSm0,hS0,hpl0,hpb0,hpt0⟩:=hM
 refine enter 36 [(0,.pointer (some ⟨g,0,none⟩)),(1,v)] Tryd.func67 rfl rfl kj rfl <| wp_block <| QaF (fun (s1:Nat×Nat×Nat×Int×List Int×Value)=>[(0,.pointer (some ⟨g,0,none⟩)),(1,s1.2.2.2.2.2)]) (fun (s1:Nat×Nat×Nat×Int×List Int×Value) W=>(s1.1≤ys.length)∧(RdK .u8 B (ys.drop s1.1) s1.2.2.2.2.2 W)∧(t.length+s1.1=16*s1.2.2.1+s1.2.1∧s1.2.1<16)∧(s1.2.2.2.1%PP=Qdu r (t++ys.take s1.1) s1.2.2.1)∧(0≤s1.2.2.2.1∧s1.2.2.2.1<2041694201525630780780247644590609268736)∧(s1.2.2.2.2.1.length=17)∧(Qai s1.2.2.2.2.1)∧(s1.2.2.2.2.1.take s1.2.1=(t++ys.take s1.1).drop (16*s1.2.2.1))∧(W.heap[g]? = some (.cells (cat [ints .u64 (nw3 r),ints .u64 (nw3 s),ints .u64 (nw3 (s1.2.2.2.1)),ints .u8 (s1.2.2.2.2.1),#[.int .i64 ((s1.2.1:Nat):Int)]]) 143))∧(Qaf [g] w W)∧(ExtB g w W)) (fun (s1:Nat×Nat×Nat×Int×List Int×Value)=>ys.length-s1.1) (0,m0,q0,S0,pl0,v) ⟨kj,kj,trivial⟩ ⟨(zaw _),(show RdK .u8 B (ys.drop 0) v w from hy),⟨hq0,hm0⟩,(show S0%PP=Qdu r (t++ys.take 0) q0 by rw [zaf,zah]; exact hSm0),hS0,hpl0,hpb0,(show pl0.take m0=(t++ys.take 0).drop (16*q0) by rw [zaf,zah]; exact hpt0),hg,(zbp [g] w),(zbk g w)⟩ fun s1 X1 V1 hI1=>?_
 obtain ⟨k,m,q,S,pl,bv⟩:=s1
 obtain ⟨hk,hrb,hmq,hSm,hS,hpl,hpb,hpt,q1_1,kk1,xx1⟩:=hI1
 replace hk:k≤ys.length:=hk
 replace hrb:RdK .u8 B (ys.drop k) bv V1:=hrb
 replace hmq:t.length+k=16*q+m∧m<16:=hmq
 replace hSm:S%PP=Qdu r (t++ys.take k) q:=hSm
 replace hS:0≤S∧S<2041694201525630780780247644590609268736:=hS
 replace hpl:pl.length=17:=hpl
 replace hpb:Qai pl:=hpb
 replace hpt:pl.take m=(t++ys.take k).drop (16*q):=hpt
 replace q1_1:V1.heap[g]? = some (.cells (cat [ints .u64 (nw3 r),ints .u64 (nw3 s),ints .u64 (nw3 (S)),ints .u8 (pl),#[.int .i64 ((m:Nat):Int)]]) 143):=q1_1
 replace kk1:Qaf [g] w V1:=kk1
 replace xx1:ExtB g w V1:=xx1
 have q1:=kk1
 obtain ⟨ab,cb,rfl,hcb,-,-,-⟩:=id hrb
 have hld:(ys.drop k).length=ys.length-k:=zaL ..
 refine wp_seq_k fun K2 hK2=>sgB kj <| Qa2 (t:=decide ((((ys.drop k).length:Nat):Int)>0)) kj (fun c4=>?_) (fun c4=>?_)
 ·skip
  have hlt:k<ys.length:=by have:=of_decide_eq_true c4; omega
  refine wp_skip <| hK2 _ _ <| wp_block <| wp_seq_k fun K5 hK5=>?_
  rcases (show 16-m≤ys.length-k∨ys.length-k<16-m by omega) with hq | hq
  ·skip
   obtain ⟨n,en⟩:∃ z,z=(16-m):=⟨_,rfl⟩
   have hn0:0<n∧m+n≤16∧k+n≤ys.length:=by omega
   have hnm:n=min (ys.drop k).length (16-m):=by omega
   refine Qbg 9 [⟨none,[(0,none)]⟩,⟨none,[(8,some 0)]⟩,⟨none,[(9,some 1)]⟩,⟨none,[(0,none)]⟩,⟨none,[(11,some 3)]⟩,⟨none,[(12,some 4)]⟩,⟨none,[(13,some 5)]⟩,⟨none,[(10,some 2),(14,some 6)]⟩,⟨none,[(1,none)]⟩] kj kj fun F hF=>Qa8 (Qas _) (.pointer (some ⟨g,0,none⟩)) kj kj (fun _=>kj) <| Qa8 (Qas _) (.pointer (some ⟨g,0,none⟩)) kj kj (fun _=>kj) <| Qa8 (Qas _) (.pointer (some ⟨g,9,none⟩)) kj kj (fun _=>kj) <| Qa8 (Qas _) (.pointer (some ⟨g,0,none⟩)) kj kj (fun _=>kj) <| Qa8 (Qas _) (.pointer (some ⟨g,0,none⟩)) kj kj (fun _=>kj) <| Qa8 (Qas _) (.pointer (some ⟨g,26,none⟩)) kj kj (fun _=>kj) <| Qbc (Qas _) (.int .i64 ((m:Nat):Int)) kj kj (fun W hR=>(Qad 3 _ g 26 143 _ (.int .i64 ((m:Nat):Int)) _ (Qaa (Qaa q1_1 (Qaj _)) hR) rfl kj (Qam [ints .u64 (nw3 r),ints .u64 (nw3 s),ints .u64 (nw3 (S)),ints .u8 (pl)] [#[.int .i64 ((m:Nat):Int)]] [] 26 (by rw [Qac,Qac,Qac,Qac]; simp only [qS,cat,(izT (Qa3 _)),(izT hpl)]; rfl) 0 _ rfl) kj)) ?_
   refine Qa8 (Qas _) (.slice (some ⟨g,9+m,none⟩) (16-m) (17-m)) kj kj (fun W=>(Qb3 141 _ _ _ m 16 17 g 9 5 rfl kj kj kj ⟨.i64,by kernel_rfl⟩ ⟨.i64,by kernel_rfl⟩ (by omega) (by omega) (by omega))) <| Qa8 (Qas _) (.slice ab ((ys.drop k).length) cb) kj kj (fun _=>kj) <| QcO (hF _ fun W2 e2=>?_)
   simp only [zax,zay,za0,zaf,za1,za2,finE,up]
   clear hF
   have x2:=zbl xx1 e2
   have r1_2:=(Qaa q1_1 e2)
   have f6_2:=(hrb.ext e2)
   refine Qgq (k:=.u8) (e:=5) (n0:=9) (off:=m) (dl:=16-m) (dc:=17-m) (n:=n) (.tmp 15) (.tmp 16) 33 33 17 rfl kj kj rfl kj [ints .u64 (nw3 r),ints .u64 (nw3 s),ints .u64 (nw3 (S))] [#[.int .i64 ((m:Nat):Int)]] (xs:=pl) (z:=ys.drop k) kj kj kj f6_2 r1_2 (by rw [hpl]; omega) hnm hn0.1 fun W3 p3 r1_3=>?_
   have x3:=zbm x2 p3
   obtain ⟨z,ez⟩:∃ z,z=(ys.drop k).take n:=⟨_,rfl⟩
   have hzl:z.length=n:=by rw [ez,zae]; omega
   have hzb:Qai z:=ez▸Qbe (Qb7 hyb k) n
   rw [←ez] at r1_3
   obtain ⟨pl1,epl1⟩:∃ y,y=pl.take m++z++pl.drop (m+n):=⟨_,rfl⟩
   have hpl1:pl1.length=17:=by rw [epl1,into_len (by omega) hzl,hpl]
   have hpb1:Qai pl1:=epl1▸bytes_app (bytes_app (Qbe hpb m) hzb) (Qb7 hpb _)
   rw [←epl1] at r1_3
   have hpt1:pl1.take (m+n)=pl.take m++z:=by rw [epl1]; exact into_take (by omega) hzl
   refine sg 1 kj <| sgN hK5 <| sgC fun K7 hK7=>sg 2 kj <| Qab (.slice (QeY ab cb n) ((ys.drop k).length-n) (cb-n)) 20 rfl kj (Qei (len:=(ys.drop k).length) 33 _ _ n 5 rfl kj kj kj .i64 kj (by omega) hcb) <| sg 1 kj <| sgN hK7 <| sgC fun K8 hK8=>sg 3 kj <| Qab (.int .i64 ((m:Nat):Int)) 24 rfl kj (Qad 3 _ g 26 143 _ (.int .i64 ((m:Nat):Int)) _ r1_3 rfl kj (Qam [ints .u64 (nw3 r),ints .u64 (nw3 s),ints .u64 (nw3 (S)),ints .u8 (pl1)] [#[.int .i64 ((m:Nat):Int)]] [] 26 (by rw [Qac,Qac,Qac,Qac]; simp only [qS,cat,(izT (Qa3 _)),(izT hpl1)]; rfl) 0 _ rfl) kj) ?_
   refine sg 1 kj <| Qab (.int .i64 ((m+n:Nat):Int)) 26 rfl kj (Qah (u:=.int .i64 (zaz.wrap (((m:Nat):Int)+((n:Nat):Int)))) kj (congrArg (zau .i64) (i64n _ _ (by omega) (by omega)))) <| sg 2 kj <| Qan g _ (cat [ints .u64 (nw3 r),ints .u64 (nw3 s),ints .u64 (nw3 (S)),ints .u8 (pl1),#[.int .i64 ((m+n:Nat):Int)]]) 143 r1_3 rfl kj (run_storeQ 3 _ _ g 26 143 [ints .u64 (nw3 r),ints .u64 (nw3 s),ints .u64 (nw3 (S)),ints .u8 (pl1)] [] _ (.int .i64 ((m+n:Nat):Int)) r1_3 rfl kj kj kj (by rw [Qac,Qac,Qac,Qac]; simp only [qS,cat,(izT (Qa3 _)),(izT hpl1)]; rfl) rfl rfl) fun W4 p4 r1_4=>?_
   have x4:=zbm x3 p4
   refine sgN hK8 <| sgC fun K9 hK9=>sg 3 kj <| Qab (.int .i64 ((m+n:Nat):Int)) 32 rfl kj (Qad 3 _ g 26 143 _ (.int .i64 ((m+n:Nat):Int)) _ r1_4 rfl kj (Qam [ints .u64 (nw3 r),ints .u64 (nw3 s),ints .u64 (nw3 (S)),ints .u8 (pl1)] [#[.int .i64 ((m+n:Nat):Int)]] [] 26 (by rw [Qac,Qac,Qac,Qac]; simp only [qS,cat,(izT (Qa3 _)),(izT hpl1)]; rfl) 0 _ rfl) kj) ?_
   refine Qab (.bool true) 33 rfl kj (Qah (u:=.bool ((((m+n:Nat):Int)==16))) kj (congrArg zaI (by rw [show m+n=16 by omega]; rfl))) ?_
   refine sgN hK9 <| cond_true kj <| Qae <| sg 1 kj <| Qav (fun v W'=>v=.tuple #[]∧ExtB g W4 W'∧W'.heap[g]? = some (.cells (cat [ints .u64 (nw3 r),ints .u64 (nw3 s),ints .u64 (nw3 (QeU r S (pl1.take (m+n)))),ints .u8 (pl1.set (m+n) 1),#[.int .i64 0]]) 143)) 79 #[.pointer (some ⟨g,0,none⟩)] 35 rfl kj kj ((Qn3 g r s S pl1 (m+n) _ hr hS hpl1 hpb1 hn0.2.1 r1_4).mono fun e w' h=>⟨_,h.1,rfl,h.2⟩) fun v W5 h=>?_
   obtain ⟨rfl,q5,r1_5⟩:=h
   have hpl2:(pl1.set (m+n) 1).length=17:=by rw [zaa,hpl1]
   refine Qal ?_
   have hu:(t++ys.take k).length=16*q+m:=by rw [zad,zae]; omega
   have htk:t++ys.take (k+n)=(t++ys.take k)++z:=by rw [Qgk ys k n,←ez,zal]
   repeat (first | with_reducible refine goX1 ?_ | with_reducible refine goX2 ?_ | with_reducible refine goX3 ?_)
   exact Qa5 ((k+n),0,(q+1),(QeU r S (pl1.take (m+n))),(pl1.set (m+n) 1),(.slice (QeY ab cb n) ((ys.drop k).length-n) (cb-n))) ⟨kj,kj,trivial⟩ ⟨(show k+n≤ys.length by omega),(by rw [show ys.drop (k+n)=(ys.drop k).drop n from (zbe ..).symm]; exact QfM (((f6_2.puts p3 hBg).puts p4 hBg).extB q5 hBg) n (by omega)),(show t.length+(k+n)=16*(q+1)+0∧0<16 by omega),(show _=Qdu r (t++ys.take (k+n)) (q+1) by rw [hpt1,hpt,htk]; exact Qo3 hu (by omega) hmq.2 hSm),(Qh9 hS hr (Qbe hpb1 _) (by rw [zae]; omega)),hpl2,(QbR hpb1 _ (by decide) (by decide)),(show (pl1.set (m+n) 1).take 0=(t++ys.take (k+n)).drop (16*(q+1)) by rw [htk,zaf,zaE (by rw [zad,hu]; omega)]),r1_5,(Qaf.but (zbs (zbs (zbr q1 e2) p3 (.inl (by simp))) p4 (.inl (by simp))) q5 (.inl (by simp))),(ExtB.trans x4 q5)⟩ (by show ys.length-(k+n)<ys.length-k; omega)
  ·skip
   obtain ⟨n,en⟩:∃ z,z=(ys.length-k):=⟨_,rfl⟩
   have hn0:0<n∧m+n≤16∧k+n≤ys.length:=by omega
   have hnm:n=min (ys.drop k).length (16-m):=by omega
   refine Qbg 9 [⟨none,[(0,none)]⟩,⟨none,[(8,some 0)]⟩,⟨none,[(9,some 1)]⟩,⟨none,[(0,none)]⟩,⟨none,[(11,some 3)]⟩,⟨none,[(12,some 4)]⟩,⟨none,[(13,some 5)]⟩,⟨none,[(10,some 2),(14,some 6)]⟩,⟨none,[(1,none)]⟩] kj kj fun F hF=>Qa8 (Qas _) (.pointer (some ⟨g,0,none⟩)) kj kj (fun _=>kj) <| Qa8 (Qas _) (.pointer (some ⟨g,0,none⟩)) kj kj (fun _=>kj) <| Qa8 (Qas _) (.pointer (some ⟨g,9,none⟩)) kj kj (fun _=>kj) <| Qa8 (Qas _) (.pointer (some ⟨g,0,none⟩)) kj kj (fun _=>kj) <| Qa8 (Qas _) (.pointer (some ⟨g,0,none⟩)) kj kj (fun _=>kj) <| Qa8 (Qas _) (.pointer (some ⟨g,26,none⟩)) kj kj (fun _=>kj) <| Qbc (Qas _) (.int .i64 ((m:Nat):Int)) kj kj (fun W hR=>(Qad 3 _ g 26 143 _ (.int .i64 ((m:Nat):Int)) _ (Qaa (Qaa q1_1 (Qaj _)) hR) rfl kj (Qam [ints .u64 (nw3 r),ints .u64 (nw3 s),ints .u64 (nw3 (S)),ints .u8 (pl)] [#[.int .i64 ((m:Nat):Int)]] [] 26 (by rw [Qac,Qac,Qac,Qac]; simp only [qS,cat,(izT (Qa3 _)),(izT hpl)]; rfl) 0 _ rfl) kj)) ?_
   refine Qa8 (Qas _) (.slice (some ⟨g,9+m,none⟩) (16-m) (17-m)) kj kj (fun W=>(Qb3 141 _ _ _ m 16 17 g 9 5 rfl kj kj kj ⟨.i64,by kernel_rfl⟩ ⟨.i64,by kernel_rfl⟩ (by omega) (by omega) (by omega))) <| Qa8 (Qas _) (.slice ab ((ys.drop k).length) cb) kj kj (fun _=>kj) <| QcO (hF _ fun W2 e2=>?_)
   simp only [zax,zay,za0,zaf,za1,za2,finE,up]
   clear hF
   have x2:=zbl xx1 e2
   have r1_2:=(Qaa q1_1 e2)
   have f13_2:=(hrb.ext e2)
   refine Qgq (k:=.u8) (e:=5) (n0:=9) (off:=m) (dl:=16-m) (dc:=17-m) (n:=n) (.tmp 15) (.tmp 16) 33 33 17 rfl kj kj rfl kj [ints .u64 (nw3 r),ints .u64 (nw3 s),ints .u64 (nw3 (S))] [#[.int .i64 ((m:Nat):Int)]] (xs:=pl) (z:=ys.drop k) kj kj kj f13_2 r1_2 (by rw [hpl]; omega) hnm hn0.1 fun W3 p3 r1_3=>?_
   have x3:=zbm x2 p3
   obtain ⟨z,ez⟩:∃ z,z=(ys.drop k).take n:=⟨_,rfl⟩
   have hzl:z.length=n:=by rw [ez,zae]; omega
   have hzb:Qai z:=ez▸Qbe (Qb7 hyb k) n
   rw [←ez] at r1_3
   obtain ⟨pl1,epl1⟩:∃ y,y=pl.take m++z++pl.drop (m+n):=⟨_,rfl⟩
   have hpl1:pl1.length=17:=by rw [epl1,into_len (by omega) hzl,hpl]
   have hpb1:Qai pl1:=epl1▸bytes_app (bytes_app (Qbe hpb m) hzb) (Qb7 hpb _)
   rw [←epl1] at r1_3
   have hpt1:pl1.take (m+n)=pl.take m++z:=by rw [epl1]; exact into_take (by omega) hzl
   refine sg 1 kj <| sgN hK5 <| sgC fun K14 hK14=>sg 2 kj <| Qab (.slice (QeY ab cb n) ((ys.drop k).length-n) (cb-n)) 20 rfl kj (Qei (len:=(ys.drop k).length) 33 _ _ n 5 rfl kj kj kj .i64 kj (by omega) hcb) <| sg 1 kj <| sgN hK14 <| sgC fun K15 hK15=>sg 3 kj <| Qab (.int .i64 ((m:Nat):Int)) 24 rfl kj (Qad 3 _ g 26 143 _ (.int .i64 ((m:Nat):Int)) _ r1_3 rfl kj (Qam [ints .u64 (nw3 r),ints .u64 (nw3 s),ints .u64 (nw3 (S)),ints .u8 (pl1)] [#[.int .i64 ((m:Nat):Int)]] [] 26 (by rw [Qac,Qac,Qac,Qac]; simp only [qS,cat,(izT (Qa3 _)),(izT hpl1)]; rfl) 0 _ rfl) kj) ?_
   refine sg 1 kj <| Qab (.int .i64 ((m+n:Nat):Int)) 26 rfl kj (Qah (u:=.int .i64 (zaz.wrap (((m:Nat):Int)+((n:Nat):Int)))) kj (congrArg (zau .i64) (i64n _ _ (by omega) (by omega)))) <| sg 2 kj <| Qan g _ (cat [ints .u64 (nw3 r),ints .u64 (nw3 s),ints .u64 (nw3 (S)),ints .u8 (pl1),#[.int .i64 ((m+n:Nat):Int)]]) 143 r1_3 rfl kj (run_storeQ 3 _ _ g 26 143 [ints .u64 (nw3 r),ints .u64 (nw3 s),ints .u64 (nw3 (S)),ints .u8 (pl1)] [] _ (.int .i64 ((m+n:Nat):Int)) r1_3 rfl kj kj kj (by rw [Qac,Qac,Qac,Qac]; simp only [qS,cat,(izT (Qa3 _)),(izT hpl1)]; rfl) rfl rfl) fun W4 p4 r1_4=>?_
   have x4:=zbm x3 p4
   refine sgN hK15 <| sgC fun K16 hK16=>sg 3 kj <| Qab (.int .i64 ((m+n:Nat):Int)) 32 rfl kj (Qad 3 _ g 26 143 _ (.int .i64 ((m+n:Nat):Int)) _ r1_4 rfl kj (Qam [ints .u64 (nw3 r),ints .u64 (nw3 s),ints .u64 (nw3 (S)),ints .u8 (pl1)] [#[.int .i64 ((m+n:Nat):Int)]] [] 26 (by rw [Qac,Qac,Qac,Qac]; simp only [qS,cat,(izT (Qa3 _)),(izT hpl1)]; rfl) 0 _ rfl) kj) ?_
   refine Qab (.bool false) 33 rfl kj (Qah (u:=.bool ((((m+n:Nat):Int)==16))) kj (congrArg zaI (beq_eq_false_iff_ne.2 (by omega)))) <| sgN hK16 <| cond_false kj <| wp_skip ?_
   have hu:(t++ys.take k).length=16*q+m:=by rw [zad,zae]; omega
   have htk:t++ys.take (k+n)=(t++ys.take k)++z:=by rw [Qgk ys k n,←ez,zal]
   repeat (first | with_reducible refine goX1 ?_ | with_reducible refine goX2 ?_ | with_reducible refine goX3 ?_)
   exact Qa5 ((k+n),(m+n),q,S,pl1,(.slice (QeY ab cb n) ((ys.drop k).length-n) (cb-n))) ⟨kj,kj,trivial⟩ ⟨(show k+n≤ys.length by omega),(by rw [show ys.drop (k+n)=(ys.drop k).drop n from (zbe ..).symm]; exact QfM ((f13_2.puts p3 hBg).puts p4 hBg) n (by omega)),(show t.length+(k+n)=16*q+(m+n)∧m+n<16 by omega),(show _=Qdu r (t++ys.take (k+n)) q by rw [htk,Qfa _ _ _ _ (by omega)]; exact hSm),hS,hpl1,hpb1,(show pl1.take (m+n)=(t++ys.take (k+n)).drop (16*q) by rw [htk,hpt1,hpt]; exact (zaD (by omega)).symm),r1_4,(zbs (zbs (zbr q1 e2) p3 (.inl (by simp))) p4 (.inl (by simp))),x4⟩ (by show ys.length-(k+n)<ys.length-k; omega)
 ·skip
  have hke:k=ys.length:=by have:=of_decide_eq_false c4; omega
  refine wp_exit ?_
  repeat (first | with_reducible refine goX1 ?_ | with_reducible refine goX2 ?_ | with_reducible refine goX3 ?_)
  exact (show bodyPost _ _ _ .normal _ _ from end0 rfl ⟨rfl,xx1,S,pl,q,m,by rw [zad]; omega,hmq.2,q1_1,by rw [hke,zbc] at hSm; exact hSm,hS,hpl,hpb,by rw [hke,zbc] at hpt; exact hpt⟩)
end Ae
end
end Go.Proofs.YtioglfpngaddfaaDoor
