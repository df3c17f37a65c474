/- Texts of this claim, joined (M1). -/
import Derived.Test.YtbonglpnkoegoaaGreatDoorZM0
import Derived.RangeFuncNested
import Derived.Scope
import Derived.Sort.LoopGhostIn
import Derived.Laws.Externs
import Derived.Shelf.Spec.BitsCarry
import Derived.Shelf.Bits.Mul64
import Derived.Laws.Bits64b

set_option linter.unusedVariables false
set_option linter.unusedSimpArgs false
set_option maxHeartbeats 4000000
open List renaming length_set → zaa, length_map → zab, replicate → zac, length_append → zad, length_take → zae, take_zero → zaf, append_nil → zah, take_of_length_le → zai, take_add_one → zaj, getElem?_eq_getElem → zak, append_assoc → zal, range → zam, length_range → zan, getD_eq_getElem?_getD → zap, getElem?_map → zaq, getElem?_range → zar, nil_append → zax, cons_append → zay, take_succ_cons → za0, drop_succ_cons → za1, drop_zero → za2, getElem?_eq_none → za4, map_toArray → za9, drop_append_of_le_length → zaD, drop_of_length_le → zaE, take_append_of_le_length → zaF, range_succ → zaG, map_take → zaH, map_congr_left → zaI, mem_range → zaJ, mem_cons → zaM, not_mem_nil → zaN, length_drop → zaO, getElem?_take → zaP, length_cons → zaR, mem_cons_self → zaS, mem_cons_of_mem → zaT, take_length → zbg, drop_drop → zbj
open Nat renaming sub_self → zag, lt_of_lt_of_eq → zav, zero_le → zaw, lt_or_ge → za3, min_eq_left → zaU, and_two_pow_sub_one_eq_mod → zaW, shiftLeft_add_eq_or_of_lt → zaZ, shiftLeft_eq → zba
open Go.IntKind renaming u8 → zao, i64 → zaz, u64 → zaX
open Option renaming map_some → zas
open BitVec renaming ofInt → zat, toNat_ofInt → zaQ
open Go.Value renaming int → zau, slice → za5, bool → zaL
open Go.Sem renaming run_bind → za6, run_pure → za7
open Go.Result renaming andThen_ok → za8
open Int renaming mul_le_mul_of_nonneg_right → zaA, toNat_natCast → zaB, tdiv → zaK, eq_ofNat_of_zero_le → zaV, natCast_mul → zaY, natCast_add → zbb, mul_nonneg → zbc, tmod → zbf, fdiv_eq_ediv_of_nonneg → zbh, mul_le_mul_of_nonneg_left → zbi, add_mul_ediv_left → zbk
open Go.Code renaming rangeFunc → zaC, wp → zbd, rounds → zbe
namespace Go.Proofs.YtbonglpnkoegoaaGreatDoor
open Rely.Ext renaming refl → zbl, trans → zbm
open Auto.Puts renaming row → zbn, ext → zbo
open Auto.Ext renaming tr → zbp
open Auto.Kn renaming val → zbq
open Own.ExtB renaming refl → zbr, ext → zbs, puts → zbt, row → zbu, up → zbv
open Auto.ExtB renaming putsN → zbw
open Auto.Qai renaming refl → zbx, row → zby, step → zbz, puts → zb0
section
namespace Cha
open Go Go.RowKit
open Rely Auto Own Sha
open Sha
def qrt (x : List Wd) (i j k l:Nat):List Wd:=(((x.set i (qA2 (wget x i) (wget x j) (wget x k) (wget x l))).set j (qB2 (wget x i) (wget x j) (wget x k) (wget x l))).set k (qC2 (wget x i) (wget x j) (wget x k) (wget x l))).set l (qD2 (wget x i) (wget x j) (wget x k) (wget x l))
theorem QjM (x : List Wd) (i j k l:Nat):(qrt x i j k l).length=x.length:=by unfold qrt; simp only [zaa]
def dbl (x : List Wd):List Wd:=qrt (qrt (qrt (qrt (qrt (qrt (qrt (qrt (x) 0 4 8 12) 1 5 9 13) 2 6 10 14) 3 7 11 15) 0 5 10 15) 1 6 11 12) 2 7 8 13) 3 4 9 14
def qrow (j : Nat):List Int:=(qQ:List Int).drop (4*j) |>.take 4
def qn (j k:Nat):Nat:=(nth (qrow j) k).toNat
theorem Qcx {j : Nat} (h:j<8):(qrow j).length=4:=(by decide:∀ j:Fin 8,(qrow j.val).length=4) ⟨j,h⟩
theorem Qlt {j : Nat} (h:j<8) (k:Nat) (hk:k<4):qn j k<16:=(by decide:∀ (j:Fin 8) (k:Fin 4),qn j.val k.val<16) ⟨j,h⟩ ⟨k,hk⟩
theorem Qe7 {j : Nat} (h:j<8) (k:Nat) (hk:k<4):nth (qrow j) k=((qn j k:Nat):Int):=(by decide:∀ (j:Fin 8) (k:Fin 4),nth (qrow j.val) k.val=((qn j.val k.val:Nat):Int)) ⟨j,h⟩ ⟨k,hk⟩
def qsN (x : List Wd):Nat→List Wd
  | 0=>x
  | j+1=>qrt (qsN x j) (qn j 0) (qn j 1) (qn j 2) (qn j 3)
theorem QcR (x : List Wd):∀ j,(qsN x j).length=x.length
  | 0=>rfl
  | j+1=>(QjM ..).trans (QcR x j)
theorem Qn6 (x : List Wd):(dbl x).length=x.length:=by unfold dbl; simp only [QjM]
def rounds (s : List Wd):Nat→List Wd
  | 0=>s
  | n+1=>dbl (rounds s n)
theorem Qen (s : List Wd):∀ n,(rounds s n).length=s.length
  | 0=>rfl
  | n+1=>(Qn6 _).trans (Qen s n)
theorem Qcy {x : List Wd} {n:Nat} (h:x.length=n):(x.map wv).length=n:=by rw [zab,h]
def fillL (xs : List Int) (n i:Nat):List Int:=xs.take i++zac (n-i) 0
theorem fillL_len (xs : List Int) (n i:Nat) (h:xs.length=n) (hi:i≤n):(fillL xs n i).length=n:=by unfold fillL; rw [zad,zae,qZ]; omega
theorem fillL_zero (xs : List Int) (n:Nat):zac n 0=fillL xs n 0:=by unfold fillL; rw [zaf,Nat.sub_zero]; rfl
theorem fillL_full (xs : List Int) (n:Nat) (h:xs.length=n):fillL xs n n=xs:=by unfold fillL; rw [zag,List.replicate_zero,zah,zai oo]
theorem fillL_step (xs : List Int) (n i:Nat) (h:xs.length=n) (hi:i<n):(fillL xs n i).set i (nth xs i)=fillL xs n (i+1):=by
  have hl:(xs.take i).length=i:=by rw [zae]; omega
  unfold fillL
  rw [List.set_append_right _ _ oo,hl,zag,show n-i=(n-(i+1))+1 by omega,List.replicate_succ,List.set_cons_zero]
  have e:xs.take (i+1)=xs.take i++[nth xs i]:=by
    rw [zaj,zak oo]
    simp [nth,show i<xs.length by omega]
  rw [e,zal]
  rfl
def Qco (x s:List Wd):List Int:=(zam 64).map fun n=>wv ((wget x (n/4)+wget s (n/4))>>>(8*(n%4)))%256
theorem QfF (x s:List Wd):(Qco x s).length=64:=by unfold Qco; rw [zab,zan]
theorem QpI (x s:List Wd) (i j:Nat) (hi:i<16) (hj:j<4):zao.wrap (wv ((wget x i+wget s i)>>>(8*j)))=nth (Qco x s) (4*i+j):=by
  have h1:(4*i+j)/4=i:=by omega
  have h2:(4*i+j)%4=j:=by omega
  have h3:∀ z:Int,zao.wrap z=z%2^8:=fun _=>rfl
  unfold nth Qco
  rw [h3,zap,zaq,zar oo,zas,Option.getD_some,h1,h2]
  rfl
def Qbu (ws : List Wd) (number:Int):List Int:=Qco (rounds (ws.set 12 (zat 32 number)) 10) (ws.set 12 (zat 32 number))
set_option maxRecDepth 100000 in
theorem Qms (ws : List Wd) (number:Int) (tq:TypeId) (w:World) (hq:w.heap[1]? = some (.cells (ints .i64 qQ) tq)) (hw:ws.length=16):Calls Tryz.prog 74 #[.agg (ints .u32 (ws.map wv)),.int .i64 number] w (Ret w (.agg (ints .u8 (Qbu ws number)))):=by
 refine enter 84 [(0,.agg (ints .u32 (ws.map wv))),(1,.int .i64 number)] Tryz.func74 rfl rfl kj rfl <| sgC fun K2 hK2=>Qah (ints .u32 (ws.map wv)) 140 2 rfl kj kj fun g3 W1 l3 e1 r3_1=>?_
 have x1:=zbp (zbl w) e1
 refine Qah (ints .u8 (zac 64 0)) 120 4 rfl kj kj fun g4 W2 l4 e2 r4_2=>sgN hK2 <| sgC fun K5 hK5=>sg 1 kj <| sv (.int .u32 (wv (zat 32 number))) 13 (Qac (u:=.int .u32 (IntKind.u32.wrap (number))) kj (congrArg (zau .u32) (by rw [Sha.wrap32,QdN]))) <| sg 1 kj ?_
 have r3_2:=(Qaa r3_1 e2)
 refine Qag g3 _ (ints .u32 ((ws.map wv).set 12 (wv (zat 32 number)))) 140 r3_2 rfl kj (Qa0 139 _ _ g3 12 140 _ _ r3_2 rfl kj kj kj (zav (show 12<16 by decide) (Qcy hw).symm)) fun W3 p3 r3_3=>?_
 have x3:=zbo p3 (zbp x1 e2) (qT (zbl w).size l3)
 obtain ⟨s,es⟩:∃ z:List Wd,z=ws.set 12 (zat 32 number):=⟨_,rfl⟩
 have hs:s.length=16:=by rw [es,zaa,hw]
 have r3_3_6:W3.heap[g3]? = some (.cells (ints .u32 (s.map wv)) 140):=Qa9 r3_3 (by rw [es,List.map_set])
 refine sgN hK5 <| sgC fun K7 hK7=>sv (.agg (ints .u32 (s.map wv))) 15 (Qae 140 _ g3 140 _ _ r3_3_6 rfl kj kj (isz (n:=16) kj (izT (Qcy hs)))) <| Qah (ints .u32 ([0,0,0,0,0,0,0,0,0,0,0,0,0,0,0,0])) 140 5 rfl kj kj fun g8 W4 l8 e4 r8_4=>?_
 have b8:=qT x3.size l8
 refine Qag g8 _ (ints .u32 (s.map wv)) 140 r8_4 rfl kj (Qaf 140 _ _ g8 140 _ _ r8_4 rfl kj kj (isz (n:=16) kj (izT (Qcy hs))) (eqsz (n:=16) kj (izT (Qcy hs))) (Qat _ _)) fun W5 p5 r8_5=>sgN hK7 <| wp_seq_k fun K9 hK9=>sgB kj <| wp_block <| Qa3 (fun (s1:Nat)=>[(2,pp g3 0),(4,pp g4 0),(5,pp g8 0),(16,.int .i64 (s1:Int))]) (fun (s1:Nat) W=>(s1≤10)∧(W.heap[g8]? = some (.cells (ints .u32 ((rounds s s1).map wv)) 140))∧(Qai [g8] W5 W)∧(Ext w W)) (fun (s1:Nat)=>10-s1) 0 ⟨kj,kj,kj,kj,trivial⟩ ⟨(zaw _),(Qa9 r8_5 rfl),(zbx [g8] W5),(zbo p5 (zbp x3 e4) b8)⟩ fun s1 X1 V1 hI1=>?_
 obtain ⟨i,hs1⟩:∃ z,z=s1:=⟨_,rfl⟩
 subst hs1
 obtain ⟨hi,q8_1,kk1,xx1⟩:=hI1
 replace hi:i≤10:=hi
 replace q8_1:V1.heap[g8]? = some (.cells (ints .u32 ((rounds s i).map wv)) 140):=q8_1
 replace kk1:Qai [g8] W5 V1:=kk1
 replace xx1:Ext w V1:=xx1
 have q6:=kk1
 refine sgB kj <| wp_seq_k fun K12 hK12=>Qay (t:=decide ((i:Int)<10)) kj (fun c13=>?_) (fun c13=>?_)
 ·skip
  have hlt17:i<10:=by have:=of_decide_eq_true c13; omega
  refine wp_skip <| hK12 _ _ <| wp_seq_k fun K14 hK14=>wp_block <| sgC fun K15 hK15=>?_
  have r1_3:=(zbn p3 (Qaa (Qaa hq e1) e2) (Qad hq l3))
  refine sv (.agg (ints .i64 (qQ))) 18 (Qae 155 _ 1 tq _ _ (zby q6 (rpn p5 r1_3 e4 l8) (Qaw (Qad r1_3 l8) QaF)) rfl kj kj (isz (n:=32) kj kj)) <| sg 1 kj <| sgN hK15 <| wp_block ?_
  obtain ⟨x0,ex0⟩:∃ z:List Wd,z=rounds s i:=⟨_,rfl⟩
  have h0:x0.length=16:=by rw [ex0,Qen,hs]
  have r8_6_16:V1.heap[g8]? = some (.cells (ints .u32 (x0.map wv)) 140):=Qa9 q8_1 (by rw [ex0])
  refine Qa3 (fun (s2:Nat)=>[(2,pp g3 0),(4,pp g4 0),(5,pp g8 0),(16,.int .i64 (i:Int)),(18,.agg (ints .i64 (qQ))),(19,.int .i64 (s2:Int))]) (fun (s2:Nat) W=>(s2≤8)∧(W.heap[g8]? = some (.cells (ints .u32 ((qsN x0 s2).map wv)) 140))∧(Qai [g8] V1 W)∧(Ext w W)) (fun (s2:Nat)=>8-s2) 0 ⟨kj,kj,kj,kj,kj,kj,trivial⟩ ⟨(zaw _),(Qa9 r8_6_16 (show x0.map wv=(qsN x0 0).map wv from rfl)),(zbx [g8] V1),xx1⟩ fun s2 X2 V2 hI2=>?_
  obtain ⟨j,hs2⟩:∃ z,z=s2:=⟨_,rfl⟩
  subst hs2
  obtain ⟨hj,q8_2,kk2,xx2⟩:=hI2
  replace hj:j≤8:=hj
  replace q8_2:V2.heap[g8]? = some (.cells (ints .u32 ((qsN x0 j).map wv)) 140):=q8_2
  replace kk2:Qai [g8] V1 V2:=kk2
  replace xx2:Ext w V2:=xx2
  have q7:=kk2
  refine sgB kj <| wp_seq_k fun K18 hK18=>Qay (t:=decide ((j:Int)<8)) kj (fun c19=>?_) (fun c19=>?_)
  ·skip
   have hlt20:j<8:=by have:=of_decide_eq_true c19; omega
   have hq0:qn j 0<16:=Qlt hlt20 0 dd
   have hq1:qn j 1<16:=Qlt hlt20 1 dd
   have hq2:qn j 2<16:=Qlt hlt20 2 dd
   have hq3:qn j 3<16:=Qlt hlt20 3 dd
   have hxj:(qsN x0 j).length=16:=(QcR x0 j).trans h0
   refine wp_skip <| hK18 _ _ <| wp_seq_k fun K20 hK20=>wp_block <| sgC fun K21 hK21=>sv (.agg (ints .i64 (qrow j))) 21 (by rcases (show j=0∨j=1∨j=2∨j=3∨j=4∨j=5∨j=6∨j=7 by omega) with rfl | rfl | rfl | rfl | rfl | rfl | rfl | rfl <;> kernel_rfl) ?_
   refine Qah ((Array.replicate 4 (.int .i64 0))) 154 7 rfl kj kj fun g22 W8 l22 e8 r22_8=>Qag g22 _ (ints .i64 (qrow j)) 154 r22_8 rfl kj (Qaf 154 _ _ g22 154 _ _ r22_8 rfl kj kj (isz (n:=4) kj (izT (Qcx hlt20))) (eqsz (n:=4) kj (izT (Qcx hlt20))) (Qat _ _)) fun W9 p9 r22_9=>?_
   have x9:=zbo p9 (zbp xx2 e8) (qT xx2.size l22)
   refine sgN hK21 <| Qce (fun W=>W.heap[g22]? = some (.cells (ints .i64 (qrow j)) 154)) [⟨none,[(7,none)]⟩,⟨none,[(23,some 0)]⟩,⟨none,[(7,none)]⟩,⟨none,[(25,some 2)]⟩,⟨none,[(7,none)]⟩,⟨none,[(27,some 4)]⟩,⟨none,[(7,none)]⟩,⟨none,[(29,some 6)]⟩,⟨none,[(7,none)]⟩,⟨none,[(31,some 8)]⟩,⟨none,[(5,none),(32,some 9)]⟩,⟨none,[(33,some 10)]⟩,⟨none,[(7,none)]⟩,⟨none,[(35,some 12)]⟩,⟨none,[(5,none),(36,some 13)]⟩,⟨none,[(37,some 14)]⟩,⟨none,[(7,none)]⟩,⟨none,[(39,some 16)]⟩,⟨none,[(5,none),(40,some 17)]⟩,⟨none,[(41,some 18)]⟩,⟨none,[(7,none)]⟩,⟨none,[(43,some 20)]⟩,⟨none,[(5,none),(44,some 21)]⟩,⟨none,[(45,some 22)]⟩,⟨none,[(34,some 11),(38,some 15),(42,some 19),(46,some 23)]⟩,⟨none,[(47,some 24)]⟩,⟨none,[(22,some 25)]⟩,⟨none,[(22,some 25)]⟩,⟨none,[(22,some 25)]⟩,⟨none,[(22,some 25)]⟩,⟨none,[(5,none),(24,some 1)]⟩,⟨none,[(52,some 30),(48,some 26)]⟩,⟨none,[(5,none),(26,some 3)]⟩,⟨none,[(53,some 32),(49,some 27)]⟩,⟨none,[(5,none),(28,some 5)]⟩,⟨none,[(54,some 34),(50,some 28)]⟩,⟨none,[(5,none),(30,some 7)]⟩,⟨none,[(55,some 36),(51,some 29)]⟩] [] [2,3,4,5,6,7,27,28,29,32,34,36] kj kj kj (fun W hR=>Qaa r22_9 hR) fun F hF=>Qbf (pp g22 0) kj kj rfl (fun _=>kj) <| Qcf (.int .i64 ((qn j 0:Nat):Int)) kj kj kj rfl (fun W hR=>(Qab 3 _ g22 0 154 _ (.int .i64 ((qn j 0:Nat):Int)) _ (Qaa (Qaa r22_9 (Qan _)) hR) rfl kj ((QaD _ _ _ (zav dd (Qcx hlt20).symm)).trans (congrArg (fun z=>some (zau .i64 z)) (Qe7 hlt20 0 dd))) kj)) <| Qbf (pp g22 1) kj kj rfl (fun _=>kj) <| QeZ (.int .i64 ((qn j 1:Nat):Int)) kj kj kj rfl (fun W hW=>(Qab 3 _ g22 1 154 _ (.int .i64 ((qn j 1:Nat):Int)) _ hW rfl kj ((QaD _ _ _ (zav dd (Qcx hlt20).symm)).trans (congrArg (fun z=>some (zau .i64 z)) (Qe7 hlt20 1 dd))) kj)) <| Qbf (pp g22 2) kj kj rfl (fun _=>kj) <| QeZ (.int .i64 ((qn j 2:Nat):Int)) kj kj kj rfl (fun W hW=>(Qab 3 _ g22 2 154 _ (.int .i64 ((qn j 2:Nat):Int)) _ hW rfl kj ((QaD _ _ _ (zav dd (Qcx hlt20).symm)).trans (congrArg (fun z=>some (zau .i64 z)) (Qe7 hlt20 2 dd))) kj)) <| Qbf (pp g22 3) kj kj rfl (fun _=>kj) <| QeZ (.int .i64 ((qn j 3:Nat):Int)) kj kj kj rfl (fun W hW=>(Qab 3 _ g22 3 154 _ (.int .i64 ((qn j 3:Nat):Int)) _ hW rfl kj ((QaD _ _ _ (zav dd (Qcx hlt20).symm)).trans (congrArg (fun z=>some (zau .i64 z)) (Qe7 hlt20 3 dd))) kj)) ?_
   refine Qbf (pp g22 0) kj kj rfl (fun _=>kj) <| Qcf (.int .i64 ((qn j 0:Nat):Int)) kj kj kj rfl (fun W hR=>(Qab 3 _ g22 0 154 _ (.int .i64 ((qn j 0:Nat):Int)) _ (Qaa (Qaa r22_9 (Qan _)) hR) rfl kj ((QaD _ _ _ (zav dd (Qcx hlt20).symm)).trans (congrArg (fun z=>some (zau .i64 z)) (Qe7 hlt20 0 dd))) kj)) <| Qbf (pp g8 (qn j 0)) kj kj rfl (fun W=>(Qa7 _ _ _ .i64 (qn j 0) _ 16 139 rfl kj kj kj kj oo)) ?_
   have r8_8:=(Qaa q8_2 e8)
   have r8_9:=(zbn p9 r8_8 (Qad q8_2 l22))
   refine Qcf (.int .u32 (wv (wget (qsN x0 j) (qn j 0)))) kj kj kj rfl (fun W hR=>(Qab 139 _ g8 (qn j 0) 140 _ (.int .u32 (wv (wget (qsN x0 j) (qn j 0)))) _ (Qaa (Qaa r8_9 (Qan _)) hR) rfl kj ((QaD _ _ _ (zav oo (Qcy ((QcR x0 j).trans h0)).symm)).trans (congrArg (fun z=>some (zau .u32 z)) (QbJ (qsN x0 j) (qn j 0)))) kj)) <| Qbf (pp g22 1) kj kj rfl (fun _=>kj) <| Qcf (.int .i64 ((qn j 1:Nat):Int)) kj kj kj rfl (fun W hR=>(Qab 3 _ g22 1 154 _ (.int .i64 ((qn j 1:Nat):Int)) _ (Qaa (Qaa r22_9 (Qan _)) hR) rfl kj ((QaD _ _ _ (zav dd (Qcx hlt20).symm)).trans (congrArg (fun z=>some (zau .i64 z)) (Qe7 hlt20 1 dd))) kj)) <| Qbf (pp g8 (qn j 1)) kj kj rfl (fun W=>(Qa7 _ _ _ .i64 (qn j 1) _ 16 139 rfl kj kj kj kj oo)) <| Qcf (.int .u32 (wv (wget (qsN x0 j) (qn j 1)))) kj kj kj rfl (fun W hR=>(Qab 139 _ g8 (qn j 1) 140 _ (.int .u32 (wv (wget (qsN x0 j) (qn j 1)))) _ (Qaa (Qaa r8_9 (Qan _)) hR) rfl kj ((QaD _ _ _ (zav oo (Qcy ((QcR x0 j).trans h0)).symm)).trans (congrArg (fun z=>some (zau .u32 z)) (QbJ (qsN x0 j) (qn j 1)))) kj)) <| Qbf (pp g22 2) kj kj rfl (fun _=>kj) <| Qcf (.int .i64 ((qn j 2:Nat):Int)) kj kj kj rfl (fun W hR=>(Qab 3 _ g22 2 154 _ (.int .i64 ((qn j 2:Nat):Int)) _ (Qaa (Qaa r22_9 (Qan _)) hR) rfl kj ((QaD _ _ _ (zav dd (Qcx hlt20).symm)).trans (congrArg (fun z=>some (zau .i64 z)) (Qe7 hlt20 2 dd))) kj)) <| Qbf (pp g8 (qn j 2)) kj kj rfl (fun W=>(Qa7 _ _ _ .i64 (qn j 2) _ 16 139 rfl kj kj kj kj oo)) <| Qcf (.int .u32 (wv (wget (qsN x0 j) (qn j 2)))) kj kj kj rfl (fun W hR=>(Qab 139 _ g8 (qn j 2) 140 _ (.int .u32 (wv (wget (qsN x0 j) (qn j 2)))) _ (Qaa (Qaa r8_9 (Qan _)) hR) rfl kj ((QaD _ _ _ (zav oo (Qcy ((QcR x0 j).trans h0)).symm)).trans (congrArg (fun z=>some (zau .u32 z)) (QbJ (qsN x0 j) (qn j 2)))) kj)) <| Qbf (pp g22 3) kj kj rfl (fun _=>kj) ?_
   refine Qcf (.int .i64 ((qn j 3:Nat):Int)) kj kj kj rfl (fun W hR=>(Qab 3 _ g22 3 154 _ (.int .i64 ((qn j 3:Nat):Int)) _ (Qaa (Qaa r22_9 (Qan _)) hR) rfl kj ((QaD _ _ _ (zav dd (Qcx hlt20).symm)).trans (congrArg (fun z=>some (zau .i64 z)) (Qe7 hlt20 3 dd))) kj)) <| Qbf (pp g8 (qn j 3)) kj kj rfl (fun W=>(Qa7 _ _ _ .i64 (qn j 3) _ 16 139 rfl kj kj kj kj oo)) <| Qcf (.int .u32 (wv (wget (qsN x0 j) (qn j 3)))) kj kj kj rfl (fun W hR=>(Qab 139 _ g8 (qn j 3) 140 _ (.int .u32 (wv (wget (qsN x0 j) (qn j 3)))) _ (Qaa (Qaa r8_9 (Qan _)) hR) rfl kj ((QaD _ _ _ (zav oo (Qcy ((QcR x0 j).trans h0)).symm)).trans (congrArg (fun z=>some (zau .u32 z)) (QbJ (qsN x0 j) (qn j 3)))) kj)) <| Qmk (.tuple #[.int .u32 (wv (qA2 (wget (qsN x0 j) (qn j 0)) (wget (qsN x0 j) (qn j 1)) (wget (qsN x0 j) (qn j 2)) (wget (qsN x0 j) (qn j 3)))),.int .u32 (wv (qB2 (wget (qsN x0 j) (qn j 0)) (wget (qsN x0 j) (qn j 1)) (wget (qsN x0 j) (qn j 2)) (wget (qsN x0 j) (qn j 3)))),.int .u32 (wv (qC2 (wget (qsN x0 j) (qn j 0)) (wget (qsN x0 j) (qn j 1)) (wget (qsN x0 j) (qn j 2)) (wget (qsN x0 j) (qn j 3)))),.int .u32 (wv (qD2 (wget (qsN x0 j) (qn j 0)) (wget (qsN x0 j) (qn j 1)) (wget (qsN x0 j) (qn j 2)) (wget (qsN x0 j) (qn j 3))))]) 87 #[.int .u32 (wv (wget (qsN x0 j) (qn j 0))),.int .u32 (wv (wget (qsN x0 j) (qn j 1))),.int .u32 (wv (wget (qsN x0 j) (qn j 2))),.int .u32 (wv (wget (qsN x0 j) (qn j 3)))] kj kj kj rfl (fun _=>kj) (fun W hR=>(Qls (wget (qsN x0 j) (qn j 0)) (wget (qsN x0 j) (qn j 1)) (wget (qsN x0 j) (qn j 2)) (wget (qsN x0 j) (qn j 3))) W) <| Qbf (.tuple #[.int .u32 (wv (qA2 (wget (qsN x0 j) (qn j 0)) (wget (qsN x0 j) (qn j 1)) (wget (qsN x0 j) (qn j 2)) (wget (qsN x0 j) (qn j 3)))),.int .u32 (wv (qB2 (wget (qsN x0 j) (qn j 0)) (wget (qsN x0 j) (qn j 1)) (wget (qsN x0 j) (qn j 2)) (wget (qsN x0 j) (qn j 3)))),.int .u32 (wv (qC2 (wget (qsN x0 j) (qn j 0)) (wget (qsN x0 j) (qn j 1)) (wget (qsN x0 j) (qn j 2)) (wget (qsN x0 j) (qn j 3)))),.int .u32 (wv (qD2 (wget (qsN x0 j) (qn j 0)) (wget (qsN x0 j) (qn j 1)) (wget (qsN x0 j) (qn j 2)) (wget (qsN x0 j) (qn j 3))))]) kj kj rfl (fun _=>kj) <| Qbf (.int .u32 (wv (qA2 (wget (qsN x0 j) (qn j 0)) (wget (qsN x0 j) (qn j 1)) (wget (qsN x0 j) (qn j 2)) (wget (qsN x0 j) (qn j 3))))) kj kj rfl (fun _=>kj) <| Qbf (.int .u32 (wv (qB2 (wget (qsN x0 j) (qn j 0)) (wget (qsN x0 j) (qn j 1)) (wget (qsN x0 j) (qn j 2)) (wget (qsN x0 j) (qn j 3))))) kj kj rfl (fun _=>kj) <| Qbf (.int .u32 (wv (qC2 (wget (qsN x0 j) (qn j 0)) (wget (qsN x0 j) (qn j 1)) (wget (qsN x0 j) (qn j 2)) (wget (qsN x0 j) (qn j 3))))) kj kj rfl (fun _=>kj) <| Qbf (.int .u32 (wv (qD2 (wget (qsN x0 j) (qn j 0)) (wget (qsN x0 j) (qn j 1)) (wget (qsN x0 j) (qn j 2)) (wget (qsN x0 j) (qn j 3))))) kj kj rfl (fun _=>kj) <| Qbf (pp g8 (qn j 0)) kj kj rfl (fun W=>(Qa7 _ _ _ .i64 (qn j 0) _ 16 139 rfl kj kj kj kj oo)) ?_
   refine Qc1 rfl <| Qbf (pp g8 (qn j 1)) kj kj rfl (fun W=>(Qa7 _ _ _ .i64 (qn j 1) _ 16 139 rfl kj kj kj kj oo)) <| Qc1 rfl <| Qbf (pp g8 (qn j 2)) kj kj rfl (fun W=>(Qa7 _ _ _ .i64 (qn j 2) _ 16 139 rfl kj kj kj kj oo)) <| Qc1 rfl <| Qbf (pp g8 (qn j 3)) kj kj rfl (fun W=>(Qa7 _ _ _ .i64 (qn j 3) _ 16 139 rfl kj kj kj kj oo)) <| Qc1 rfl <| Qho (hF _ kj fun W10 e10=>?_)
   simp only [zax,zay,fins,up]
   clear hF
   have r8_10:=(Qaa r8_9 e10)
   have r22_10:=(Qaa r22_9 e10)
   refine Qcw _ g8 _ (ints .u32 (((qsN x0 j).map wv).set (qn j 0) (wv (qA2 (wget (qsN x0 j) (qn j 0)) (wget (qsN x0 j) (qn j 1)) (wget (qsN x0 j) (qn j 2)) (wget (qsN x0 j) (qn j 3)))))) 140 r8_10 rfl (Qa0 139 _ _ g8 (qn j 0) 140 _ _ r8_10 rfl kj kj kj (zav oo (Qcy ((QcR x0 j).trans h0)).symm)) (fun W hp=>zbn hp r22_10 (QaI q8_2 l22)) fun W11 p11 r8_11=>?_
   have x11:=zbo p11 (zbp x9 e10) b8
   have r22_11:=(zbn p11 r22_10 (QaI q8_2 l22))
   refine Qcw _ g8 _ (ints .u32 ((((qsN x0 j).map wv).set (qn j 0) (wv (qA2 (wget (qsN x0 j) (qn j 0)) (wget (qsN x0 j) (qn j 1)) (wget (qsN x0 j) (qn j 2)) (wget (qsN x0 j) (qn j 3))))).set (qn j 1) (wv (qB2 (wget (qsN x0 j) (qn j 0)) (wget (qsN x0 j) (qn j 1)) (wget (qsN x0 j) (qn j 2)) (wget (qsN x0 j) (qn j 3)))))) 140 r8_11 rfl (Qa0 139 _ _ g8 (qn j 1) 140 _ _ r8_11 rfl kj kj kj (zav oo ((zaa ..).trans (Qcy ((QcR x0 j).trans h0))).symm)) (fun W hp=>zbn hp r22_11 (QaI q8_2 l22)) fun W12 p12 r8_12=>?_
   have r22_12:=(zbn p12 r22_11 (QaI q8_2 l22))
   refine Qcw _ g8 _ (ints .u32 (((((qsN x0 j).map wv).set (qn j 0) (wv (qA2 (wget (qsN x0 j) (qn j 0)) (wget (qsN x0 j) (qn j 1)) (wget (qsN x0 j) (qn j 2)) (wget (qsN x0 j) (qn j 3))))).set (qn j 1) (wv (qB2 (wget (qsN x0 j) (qn j 0)) (wget (qsN x0 j) (qn j 1)) (wget (qsN x0 j) (qn j 2)) (wget (qsN x0 j) (qn j 3))))).set (qn j 2) (wv (qC2 (wget (qsN x0 j) (qn j 0)) (wget (qsN x0 j) (qn j 1)) (wget (qsN x0 j) (qn j 2)) (wget (qsN x0 j) (qn j 3)))))) 140 r8_12 rfl (Qa0 139 _ _ g8 (qn j 2) 140 _ _ r8_12 rfl kj kj kj (zav oo ((zaa ..).trans ((zaa ..).trans (Qcy ((QcR x0 j).trans h0)))).symm)) (fun W hp=>zbn hp r22_12 (QaI q8_2 l22)) fun W13 p13 r8_13=>Qcw _ g8 _ (ints .u32 ((((((qsN x0 j).map wv).set (qn j 0) (wv (qA2 (wget (qsN x0 j) (qn j 0)) (wget (qsN x0 j) (qn j 1)) (wget (qsN x0 j) (qn j 2)) (wget (qsN x0 j) (qn j 3))))).set (qn j 1) (wv (qB2 (wget (qsN x0 j) (qn j 0)) (wget (qsN x0 j) (qn j 1)) (wget (qsN x0 j) (qn j 2)) (wget (qsN x0 j) (qn j 3))))).set (qn j 2) (wv (qC2 (wget (qsN x0 j) (qn j 0)) (wget (qsN x0 j) (qn j 1)) (wget (qsN x0 j) (qn j 2)) (wget (qsN x0 j) (qn j 3))))).set (qn j 3) (wv (qD2 (wget (qsN x0 j) (qn j 0)) (wget (qsN x0 j) (qn j 1)) (wget (qsN x0 j) (qn j 2)) (wget (qsN x0 j) (qn j 3)))))) 140 r8_13 rfl (Qa0 139 _ _ g8 (qn j 3) 140 _ _ r8_13 rfl kj kj kj (zav oo ((zaa ..).trans ((zaa ..).trans ((zaa ..).trans (Qcy ((QcR x0 j).trans h0))))).symm)) (fun W hp=>zbn hp (zbn p13 r22_12 (QaI q8_2 l22)) (QaI q8_2 l22)) fun W14 p14 r8_14=>QeW <| hK20 _ _ <| Qaj <| sv (.int .i64 ((j+1:Nat):Int)) 56 (Qac (u:=.int .i64 (zaz.wrap ((j:Int)+1))) kj (congrArg (zau .i64) (i64n _ _ oo oo))) <| sg 1 kj <| Qas ?_
   with_reducible repeat first | refine goX1 ?_ | refine goX2 ?_ | refine goX3 ?_
   exact Qa1 (j+1) ⟨kj,kj,kj,kj,kj,kj,trivial⟩ ⟨oo,(Qa9 r8_14 (by rw [show qsN x0 (j+1)=qrt (qsN x0 j) (qn j 0) (qn j 1) (qn j 2) (qn j 3) from rfl]; unfold qrt; simp only [List.map_set])),(zb0 (zb0 (zb0 (zb0 (zbz (zb0 (zbz q7 e8) p9 (.inr (qT (Qai.size q7) (qT (qR _) l22)))) e10) p11 (.inl (by simp))) p12 (.inl (by simp))) p13 (.inl (by simp))) p14 (.inl (by simp))),(zbo p14 (zbo p13 (zbo p12 x11 b8) b8) b8)⟩ (by show 8-(j+1)<8-j; omega)
  ·skip
   have heq20:j=8:=by have:=of_decide_eq_false c19; omega
   refine wp_exit <| hK14 _ _ <| Qaj <| sv (.int .i64 ((i+1:Nat):Int)) 57 (Qac (u:=.int .i64 (zaz.wrap ((i:Int)+1))) kj (congrArg (zau .i64) (i64n _ _ oo oo))) <| sg 1 kj <| Qas ?_
   with_reducible repeat first | refine goX1 ?_ | refine goX2 ?_ | refine goX3 ?_
   exact Qa1 (i+1) ⟨kj,kj,kj,kj,trivial⟩ ⟨oo,(Qa9 q8_2 (by rw [heq20,ex0]; rfl)),(Qai.keeps q6 q7 (QdE (.inl (by simp)) Qfi)),xx2⟩ oo
 ·skip
  have heq17:i=10:=by have:=of_decide_eq_false c13; omega
  obtain ⟨xF,exF⟩:∃ z:List Wd,z=rounds s 10:=⟨_,rfl⟩
  have hxF:xF.length=16:=by rw [exF,Qen,hs]
  subst heq17
  have r8_6_23:V1.heap[g8]? = some (.cells (ints .u32 (xF.map wv)) 140):=Qa9 q8_1 (by rw [exF])
  refine wp_exit <| hK9 _ _ <| sgC fun K24 hK24=>Qah (ints .u8 (zac 64 0)) 120 8 rfl kj kj fun g25 W7 l25 e7 r25_7=>sgN hK24 <| wp_seq_k fun K26 hK26=>sgB kj <| wp_block ?_
  have hP:(Qco xF s).length=64:=QfF _ _
  refine Qa3 (fun (s3:Nat)=>[(2,pp g3 0),(4,pp g4 0),(5,pp g8 0),(8,pp g25 0),(58,.int .i64 (s3:Int))]) (fun (s3:Nat) W=>(s3≤16)∧(W.heap[g25]? = some (.cells (ints .u8 (fillL (Qco xF s) 64 (4*s3))) 120))∧(Qai [g25] W7 W)∧(Ext w W)) (fun (s3:Nat)=>16-s3) 0 ⟨kj,kj,kj,kj,kj,trivial⟩ ⟨(zaw _),(Qa9 r25_7 (fillL_zero _ 64)),(zbx [g25] W7),(zbp xx1 e7)⟩ fun s3 X3 V3 hI3=>?_
  obtain ⟨i,hs3⟩:∃ z,z=s3:=⟨_,rfl⟩
  subst hs3
  obtain ⟨hi,q25_3,kk3,xx3⟩:=hI3
  replace hi:i≤16:=hi
  replace q25_3:V3.heap[g25]? = some (.cells (ints .u8 (fillL (Qco xF s) 64 (4*i))) 120):=q25_3
  replace kk3:Qai [g25] W7 V3:=kk3
  replace xx3:Ext w V3:=xx3
  have q8:=kk3
  refine sgB kj <| wp_seq_k fun K29 hK29=>Qay (t:=decide ((i:Int)<16)) kj (fun c30=>?_) (fun c30=>?_)
  ·skip
   have hlt59:i<16:=by have:=of_decide_eq_true c30; omega
   refine wp_skip <| hK29 _ _ <| wp_seq_k fun K31 hK31=>wp_block <| sgB kj <| wp_seq_k fun K33 hK33=>Qba 7 [⟨none,[(9,none)]⟩,⟨none,[(5,none),(61,some 0)]⟩,⟨none,[(62,some 1)]⟩,⟨none,[(9,none)]⟩,⟨none,[(2,none),(64,some 3)]⟩,⟨none,[(65,some 4)]⟩,⟨none,[(63,some 2),(66,some 5)]⟩] kj kj fun F hF=>Qar (.int .i64 (i:Int)) kj kj (fun _=>kj) <| Qar (pp g8 i) kj kj (fun W=>(Qa7 _ _ _ .i64 (i) _ 16 139 rfl kj kj kj kj oo)) ?_
   have r8_8:=(zby q8 (Qaa r8_6_23 e7) (Qaw (Qad r8_6_23 l25) QaF))
   refine QaK (.int .u32 (wv (wget xF i))) kj kj (fun W hR=>(Qab 139 _ g8 i 140 _ (.int .u32 (wv (wget xF i))) _ (Qaa (Qaa r8_8 (Qan _)) hR) rfl kj ((QaD _ _ _ (zav oo (Qcy hxF).symm)).trans (congrArg (fun z=>some (zau .u32 z)) (QbJ xF i))) kj)) <| Qar (.int .i64 (i:Int)) kj kj (fun _=>kj) <| Qar (pp g3 i) kj kj (fun W=>(Qa7 _ _ _ .i64 (i) _ 16 139 rfl kj kj kj kj oo)) ?_
   have r3_6:=(zby q6 (rpn p5 r3_3_6 e4 l8) (Qaw (Qad r3_3_6 l8) QaF))
   refine QaK (.int .u32 (wv (wget s i))) kj kj (fun W hR=>(Qab 139 _ g3 i 140 _ (.int .u32 (wv (wget s i))) _ (Qaa (Qaa (zby q8 (Qaa r3_6 e7) (Qaw (Qad r3_6 l25) QaF)) (Qan _)) hR) rfl kj ((QaD _ _ _ (zav oo (Qcy hs).symm)).trans (congrArg (fun z=>some (zau .u32 z)) (QbJ s i))) kj)) <| Qar (.int .u32 (wv (((wget xF i))+((wget s i))))) kj kj (fun W=>(Qac kj (congrArg (zau .u32) (Qcm _ _)))) <| Qbh (hF _ kj fun W9 e9=>?_)
   simp only [ups,up,zbq,za0,zaf,za1,za2,zax,zay]
   clear hF
   have x9:=zbp xx3 e9
   refine sg 1 kj <| sgN hK33 <| sgB kj <| wp_block <| Qa3 (fun (s4:Nat)=>[(2,pp g3 0),(4,pp g4 0),(5,pp g8 0),(8,pp g25 0),(58,.int .i64 (i:Int)),(9,.int .i64 (i:Int)),(10,.int .u32 (wv (wget xF i+wget s i))),(68,.int .i64 (s4:Int))]) (fun (s4:Nat) W=>(s4≤4)∧(W.heap[g25]? = some (.cells (ints .u8 (fillL (Qco xF s) 64 (4*i+s4))) 120))∧(Qai [g25] W9 W)∧(Ext w W)) (fun (s4:Nat)=>4-s4) 0 ⟨kj,kj,kj,kj,kj,kj,kj,kj,trivial⟩ ⟨(zaw _),(Qa9 (Qaa q25_3 e9) rfl),(zbx [g25] W9),x9⟩ fun s4 X4 V4 hI4=>?_
   obtain ⟨j,hs4⟩:∃ z,z=s4:=⟨_,rfl⟩
   subst hs4
   obtain ⟨hj,q25_4,kk4,xx4⟩:=hI4
   replace hj:j≤4:=hj
   replace q25_4:V4.heap[g25]? = some (.cells (ints .u8 (fillL (Qco xF s) 64 (4*i+j))) 120):=q25_4
   replace kk4:Qai [g25] W9 V4:=kk4
   replace xx4:Ext w V4:=xx4
   have q10:=kk4
   refine sgB kj <| wp_seq_k fun K36 hK36=>Qay (t:=decide ((j:Int)<4)) kj (fun c37=>?_) (fun c37=>?_)
   ·skip
    have hlt69:j<4:=by have:=of_decide_eq_true c37; omega
    refine wp_skip <| hK36 _ _ <| wp_seq_k fun K38 hK38=>wp_block <| sgB kj <| Qaj <| sg 1 kj <| sv (.int .i64 ((4*i:Nat):Int)) 72 (Qac (u:=.int .i64 (zaz.wrap (4*(i:Int)))) kj (congrArg (zau .i64) (i64n _ _ oo oo))) <| sg 1 kj <| sv (.int .i64 (((4*i)+j:Nat):Int)) 74 (Qac (u:=.int .i64 (zaz.wrap (((4*i:Nat):Int)+(j:Int)))) kj (congrArg (zau .i64) (i64n _ _ oo oo))) ?_
    refine sg 2 kj <| sv (.int .i64 ((8*j:Nat):Int)) 77 (Qac (u:=.int .i64 (zaz.wrap (8*(j:Int)))) kj (congrArg (zau .i64) (i64n _ _ oo oo))) <| sv (.int .u32 (wv ((wget xF i+wget s i)>>>(8*j)))) 78 (QaO .shr _ _ _ _ .u32 .i64 _ _ _ rfl kj kj (Qcd _ _ _ _ _ _ oo (Qf2 _ _ (8*j) rfl oo))) <| sv (.int .u8 (nth (Qco xF s) (4*i+j))) 79 (Qac (u:=.int .u8 (zao.wrap (wv ((wget xF i+wget s i)>>>(8*j))))) kj (congrArg (zau .u8) (QpI xF s i j hlt59 hlt69))) <| sv (pp g25 ((4*i)+j)) 80 (Qa7 _ _ _ .i64 ((4*i)+j) _ 64 5 rfl kj kj kj kj oo) <| Qag g25 _ (ints .u8 ((fillL (Qco xF s) 64 (4*i+j)).set ((4*i)+j) (nth (Qco xF s) (4*i+j)))) 120 q25_4 rfl kj (Qa0 5 _ _ g25 ((4*i)+j) 120 _ _ q25_4 rfl kj kj kj (zav oo (fillL_len _ 64 _ hP oo).symm)) fun W11 p11 r25_11=>?_
    have x11:=zbo p11 xx4 (qT xx1.size l25)
    refine Qas <| hK38 _ _ <| Qaj <| sv (.int .i64 ((j+1:Nat):Int)) 81 (Qac (u:=.int .i64 (zaz.wrap ((j:Int)+1))) kj (congrArg (zau .i64) (i64n _ _ oo oo))) <| sg 1 kj <| Qas ?_
    with_reducible repeat first | refine goX1 ?_ | refine goX2 ?_ | refine goX3 ?_
    exact Qa1 (j+1) ⟨kj,kj,kj,kj,kj,kj,kj,kj,trivial⟩ ⟨oo,(Qa9 r25_11 (fillL_step _ 64 (4*i+j) hP oo)),(zb0 q10 p11 (.inl (by simp))),x11⟩ oo
   ·skip
    have heq69:j=4:=by have:=of_decide_eq_false c37; omega
    refine wp_exit <| hK31 _ _ <| Qaj <| sv (.int .i64 ((i+1:Nat):Int)) 82 (Qac (u:=.int .i64 (zaz.wrap ((i:Int)+1))) kj (congrArg (zau .i64) (i64n _ _ oo oo))) <| sg 1 kj <| Qas ?_
    with_reducible repeat first | refine goX1 ?_ | refine goX2 ?_ | refine goX3 ?_
    exact Qa1 (i+1) ⟨kj,kj,kj,kj,kj,trivial⟩ ⟨oo,(Qa9 q25_4 (by rw [heq69]; rfl)),(Qai.keeps (zbz q8 e9) q10 (QdE (.inl (by simp)) Qfi)),xx4⟩ oo
  ·skip
   have heq59:i=16:=by have:=of_decide_eq_false c30; omega
   subst heq59
   have r25_8_40:V3.heap[g25]? = some (.cells (ints .u8 (Qco xF s)) 120):=Qa9 q25_3 (fillL_full _ 64 hP)
   refine wp_exit <| hK26 _ _ <| sgC fun K41 hK41=>sv (.agg (ints .u8 (Qco xF s))) 83 (Qae 120 _ g25 120 _ _ r25_8_40 rfl kj kj (isz (n:=64) kj (izT hP))) ?_
   have r4_3:=(zbn p3 r4_2 (QaI r3_1 l4))
   have r4_6:=(zby q6 (rpn p5 r4_3 e4 l8) (Qaw (Qad r4_3 l8) QaF))
   have r4_8:=(zby q8 (Qaa r4_6 e7) (Qaw (Qad r4_6 l25) QaF))
   refine Qag g4 _ (ints .u8 (Qco xF s)) 120 r4_8 rfl kj (Qaf 120 _ _ g4 120 _ _ r4_8 rfl kj kj (isz (n:=64) kj (izT hP)) (eqsz (n:=64) (izT (qZ (n:=64))) (izT hP)) (Qat _ _)) fun W9 p9 r4_9=>?_
   have x9:=zbo p9 xx3 (qT x1.size l4)
   refine sgN hK41 <| wp_ret ?_
   with_reducible repeat first | refine goR1 ?_ | refine goR2 ?_
   exact (show bodyPost _ _ _ .ret _ _ from ret1 (.agg (ints .u8 (Qco xF s))) rfl (QaJ g4 120 _ r4_9 kj kj (isz (n:=64) kj (izT hP))) ⟨by unfold Qbu; rw [exF,es],x9⟩)
end Cha
end
section
namespace Cha
open Go Go.RowKit
open Rely Auto Own Sha
open Sha
def Qbb (key nonce:List Int):List Wd:=[1634760805,857760878,2036477234,1797285236,le4 (sub4 key 0),le4 (sub4 key 1),le4 (sub4 key 2),le4 (sub4 key 3),le4 (sub4 key 4),le4 (sub4 key 5),le4 (sub4 key 6),le4 (sub4 key 7),0,le4 (sub4 nonce 0),le4 (sub4 nonce 1),le4 (sub4 nonce 2)]
theorem Qd1 (key nonce:List Int):(Qbb key nonce).length=16:=rfl
theorem Qml (key nonce:List Int):([1634760805,857760878,2036477234,1797285236,wv (le4 (sub4 key 0)),wv (le4 (sub4 key 1)),wv (le4 (sub4 key 2)),wv (le4 (sub4 key 3)),wv (le4 (sub4 key 4)),wv (le4 (sub4 key 5)),wv (le4 (sub4 key 6)),wv (le4 (sub4 key 7)),0,wv (le4 (sub4 nonce 0)),wv (le4 (sub4 nonce 1)),wv (le4 (sub4 nonce 2))]:List Int)=(Qbb key nonce).map wv:=rfl
theorem QbN (ws : List Wd) (n:Int):(Qbu ws n).length=64:=QfF _ _
set_option maxRecDepth 100000 in
theorem QnL (key nonce:List Int) (v:Value) (B:Nat) (number:Int) (th tq:TypeId) (w:World) (hh:w.heap[0]? = some (.cells (ints .u32 qH) th)) (hq:w.heap[1]? = some (.cells (ints .i64 qQ) tq)) (hkl:key.length=32) (hn:RdK .u8 B nonce v w) (h:nonce.length=12) (h1:0≤number) (h2:number≤4294967295):Calls Tryz.prog 53 #[.agg (ints .u8 key),v,.int .i64 number] w (Ret w (.tuple #[.agg (ints .u8 (Qbu (Qbb key nonce) number)),.nilIface])):=by
  obtain ⟨a_n,c_n,rfl,-⟩:=id hn
  refine enter 21 [(0,.agg (ints .u8 (key))),(1,.slice a_n nonce.length c_n),(2,.int .i64 number)] Tryz.func53 rfl rfl kj rfl <| sgC fun K3 hK3=>Qah (ints .u8 (key)) 74 3 rfl kj kj fun g4 W1 l4 e1 r4_1=>?_
  have x1:=zbp (zbl w) e1
  have b4:=qT (zbl w).size l4
  refine Qah (ints .u8 (zac 64 0)) 120 6 rfl kj kj fun g5 W2 l5 e2 r5_2=>?_
  have x2:=zbp x1 e2
  refine sg 1 kj <| sgN hK3 <| wp_seq_k fun K6 hK6=>sgC fun K7 hK7=>sg 2 kj <| Qao (.nilIface) 51 #[.slice a_n nonce.length c_n,.int .i64 number] 11 rfl kj kj ((check_D nonce _ _ number _ (RdK.ext hn x2) h h1 h2)) fun W3 e3=>?_
  have x3:=zbp x2 e3
  refine sg 1 kj <| sgN hK7 <| sgB kj <| cond_false kj <| wp_skip <| hK6 _ _ <| sgC fun K9 hK9=>sv (.agg (ints .u8 (key))) 16 (Qae 74 _ g4 74 _ _ (Qaa (Qaa r4_1 e2) e3) rfl kj kj (isz (n:=32) kj (izT hkl))) <| sg 1 kj <| Qao (.agg (ints .u32 ((Qbb key nonce).map wv))) 72 #[.agg (ints .u8 (key)),.slice a_n nonce.length c_n] 18 rfl kj kj ((by rw [←Qml]; exact Qmm key nonce _ _ th _ (Qaa (Qaa (Qaa hh e1) e2) e3) hkl (RdK.ext hn x3) h)) fun W4 e4=>?_
  refine sg 1 kj <| Qao (.agg (ints .u8 (Qbu (Qbb key nonce) number))) 74 #[.agg (ints .u32 ((Qbb key nonce).map wv)),.int .i64 number] 20 rfl kj kj ((Qms (Qbb key nonce) number tq _ (Qaa (Qaa (Qaa (Qaa hq e1) e2) e3) e4) (Qd1 _ _))) fun W5 e5=>?_
  have r5_5:=(Qaa (Qaa (Qaa r5_2 e3) e4) e5)
  refine Qag g5 _ (ints .u8 (Qbu (Qbb key nonce) number)) 120 r5_5 rfl kj (Qaf 120 _ _ g5 120 _ _ r5_5 rfl kj kj (isz (n:=64) kj (izT (QbN _ _))) (eqsz (n:=64) (izT (qZ (n:=64))) (izT (QbN _ _))) (Qat _ _)) fun W6 p6 r5_6=>sg 1 kj <| sgN hK9 <| wp_ret ?_
  with_reducible repeat first | refine goR1 ?_ | refine goR2 ?_
  exact (show bodyPost _ _ _ .ret _ _ from ret2 (.agg (ints .u8 (Qbu (Qbb key nonce) number))) (.nilIface) rfl (QaJ g5 120 _ r5_6 kj kj (isz (n:=64) kj (izT (QbN _ _)))) (Qax kj) ⟨rfl,(zbo p6 (zbp (zbp x3 e4) e5) (qT x1.size l5))⟩)
end Cha
end
section
namespace Cha
open Go Go.RowKit
open Rely Auto Own Sha
open Sha
theorem Qbl {b : List Int} (h:Qak b) (j:Nat):0≤nth b j∧nth b j<256:=by
  unfold nth
  rw [zap]
  rcases za3 j b.length with hj | hj
  · rw [zak hj]
    have h1:=h _ (List.getElem_mem hj)
    show 0≤b[j]∧b[j]<256
    omega
  · rw [za4 hj]; decide
def mxv (text : List Int) (ws:List Wd) (num:Int) (f:Nat→Nat) (m:Nat):List Int:=(zam m).map fun i=>bits .xor .u8 (nth text i) (nth (Qbu ws (num+((f (i/64):Nat):Int))) (i%64))
def mixV (ws : List Wd) (num:Int) (text:List Int):List Int:=mxv text ws num id text.length
theorem QdG (text : List Int) (ws:List Wd) (num:Int) (f:Nat→Nat) (m:Nat):(mxv text ws num f m).length=m:=by simp [mxv]
end Cha
end
section
namespace Sha
open Go Go.RowKit
open Rely Auto Own
theorem QbU {k : IntKind} {B:Nat} {ys:List Int} {a:Option Addr} {n c:Nat} {W:World} (h:RdK k B ys (.slice a n c) W) (h0:0<ys.length):∃ g o,a=some ⟨g,o,none⟩∧g<B∧∀ i,i<ys.length→W.cell? ⟨g,o+i,none⟩=some (.int k (nth ys i)):=by
  obtain ⟨a',cap',e,h2,h3,h4,h5⟩:=h
  simp only [za5.injEq] at e
  obtain ⟨rfl,-,-⟩:=e
  rcases h5 with h5 | ⟨g,o,q1,q2,q3,q4⟩
  · rw [h5] at h0; simp at h0
  · exact ⟨g,o,q1,q2,q4⟩
section
variable {P : Program} {ρ : Operand → Value} {o : Oper} {w : World}
theorem QaP (t : TypeId) (x y:Operand) (k:IntKind) (n g off len cap:Nat) (e:TypeId) (a:Option Addr) (z:Int) (ha:a=some ⟨g,off,none⟩) (hz:z=(n:Int)) (ho:o.op=.indexAddr t x y) (hx:ρ x=.slice a len cap) (hy:ρ y=.int k z)
    (hu:P.underlying t=some (.slice e)) (hs:(P.info? e).map (·.size)=some 1) (hn:n<len):(execOp ρ o).run P w=.ok (.value (pp g (off+n))) w:=by
  subst ha; subst hz
  exact Qct t x y k n g off len cap e ho hx hy hu hs hn
end
theorem run_extractT {P : Program} {ρ:Operand→Value} {o:Oper} {w:World} (x:Operand) (i:Nat) (vs:Array Value) (u:Value) (ho:o.op=.extract x i) (hx:ρ x=.tuple vs) (hi:vs[i]? = some u):(execOp ρ o).run P w=.ok (.value u) w:=by
  unfold execOp
  simp [ho,hx,Instr.extract,hi]
theorem nb_new {k : IntKind} {T:TypeId} {base g:Nat} {xs:List Int} {v:Value} {W:World} (h:OwnN k T base xs v W) (hg:W.heap.size≤g):v.ownBlock≠some g:=fun e=>by have:=h.lt e; omega
theorem Qoe (zs : List Int) (m:Nat) (y:Int) (h:m<zs.length):zs.take m++[y]++zs.drop (m+1)=zs.set m y:=by
  rw [List.set_eq_take_append_cons_drop,if_pos h,zal]; rfl
theorem QgE {P : Program} {k:IntKind} {T:TypeId} {b:Nat} {ρ:Operand→Value} {o:Oper} {W:World} (s x:Operand) (t:TypeId) (ho:o.op=.call { callee:=.builtin .append,args:=#[s,x],argTypes:=#[t,t] })
    (ht:P.underlying t=some (.slice T)) (hi:(P.info? T).map (fun i=>(i.zero,i.size,i.bytes))=some (some (.int k 0),1,b)) {g m n gy:Nat} {zs:List Int} {y:Int} {Ty:TypeId} (hs:ρ s=.slice (some ⟨g,0,none⟩) m n) (hx:ρ x=.slice (some ⟨gy,0,none⟩) 1 1)
    (hg:W.heap[g]? = some (.cells (ints k zs) T)) (hz:zs.length=n) (hm:m<n) (hy:W.heap[gy]? = some (.cells (ints k [y]) Ty)) :
    (execOp ρ o).run P W=.ok (.value (.slice (some ⟨g,0,none⟩) (m+1) n)) (W.setRow g (ints k (zs.set m y))):=by
  obtain ⟨i,hq,hi1,hi2,hi3⟩:=QlJ hi
  have hr:=run_append_room (P:=P) W t o.type T i ht hq g m n (ints k zs) hg ⟨gy,0,none⟩ 1 1 ([y].map (zau k)) (by simp [hi2]) (Qh7 (k:=k) (ys:=[y]) fun j hj=>by rw [Nat.zero_add]; exact Qdc hy (QaD k [y] j hj)) (Qh3 _ [y]) oo (by rw [hi2,Qbq]; simp; omega)
  have e:((ints k zs).toList.take (m*i.size)++[y].map (zau k)++(ints k zs).toList.drop (m*i.size+([y].map (zau k)).length)).toArray=ints k (zs.set m y):=by
    rw [←Qoe zs m y oo,hi2,Nat.mul_one]
    simp [ints]
  rw [e] at hr
  unfold execOp
  simp only [ho,resolve,invoke,builtin,za6,za7,za8,za9,List.map_cons,List.map_nil,hs,hx,hr]
section
variable {ds : List Deferred} {Fe : Fence} {nf : Nat} {P : Program} {ops : Array Oper} {Q : Exit → Act → World → Prop} {rest : List Oper} {o : Oper} {N : Nat} {L : Env} {w : World}
theorem Qnx {g : Nat} {old cs:Array Value} {T:TypeId} (v:Value) (d:Nat) (hd:o.dst=some d) (hF:Free Fe nf P) (hnd:Qcu o=true) (hg:Qbp ops o N L=some true) (r:w.heap[g]? = some (.cells old T)) (h:(execOp (Rely.look (envN N L)) o).run P w=.ok (.value v) (w.setRow g cs))
    (k:∀ W':World,Puts w g W'→W'.heap[g]? = some (.cells cs T)→WLI Fe nf P ops Q rest (Qav ds N ((d,v)::L)) W'):WLI Fe nf P ops Q (o::rest) (Qav ds N L) w :=
  Qkx _ _ d hd hF hnd hg h (k _ (Qbe _ _ _) (setRow_heap _ _ _ _ _ _ r))
end
section
variable {ds : List Deferred} {P : Program} {ops : Array Oper} {Q : Exit → Act → World → Prop} {rest : List Oper} {o : Oper} {N : Nat} {L : Env} {w : World}
theorem Qj6 (cs : Array Value) (T:TypeId) (m n d:Nat) (hd:o.dst=some d) (hg:Qbp ops o N L=some true) (h:(execOp (Rely.look (envN N L)) o).run P w=.ok (.value (.slice (some ⟨w.heap.size,0,none⟩) m n)) (w.alloc (.cells cs T)))
    (k:∀ (g:Nat) (W:World),w.heap.size≤g→Ext w W→W.heap[g]? = some (.cells cs T)→WL P ops Q rest (Qav ds N ((d,.slice (some ⟨g,0,none⟩) m n)::L)) W):WL P ops Q (o::rest) (Qav ds N L) w :=
  Qbs _ _ d hd hg h (k _ _ (qR _) (Qbi _ _) (heap_alloc_new _ _))
end
theorem QjB {P : Program} {ρ:Operand→Value} {o:Oper} {w:World} {k:IntKind} (t:TypeId) (x y:Operand) (kl kc:IntKind) (m n:Nat) (e:TypeId) (ho:o.op=.makeSlice t x y) (hx:ρ x=.int kl m) (hy:ρ y=.int kc n)
    (hu:P.underlying t=some (.slice e)) (hi:(P.info? e).map (fun i=>(i.zero,i.size,i.bytes))=some (some (.int k 0),1,8)∨(P.info? e).map (fun i=>(i.zero,i.size,i.bytes))=some (some (.int k 0),1,1)) (hm:m≤n) (hn:n≤16777216) :
    (execOp ρ o).run P w=.ok (.value (.slice (some ⟨w.heap.size,0,none⟩) m n)) (w.alloc (.cells (ints k (zac n 0)) e)):=by
  cases hq:P.info? e with
  | none=>rcases hi with hi | hi <;> simp [hq] at hi
  | some i =>
    have hz:i.zero=some (.int k 0)∧i.size=1∧i.bytes≤8:=by
      rcases hi with hi | hi <;> simp [hq] at hi <;> exact ⟨hi.1,hi.2.1,by omega⟩
    have hb:(i.bytes:Int)*(n:Int)≤281474976710656:=by
      have h1:(i.bytes:Int)*(n:Int)≤8*(n:Int):=zaA oo oo
      omega
    have h:=run_make w t e i (.int k 0) hu hq hz.1 kl kc (m:Int) (n:Int) oo oo hb oo
    rw [hz.2.1,zaB,zaB,Qfm] at h
    unfold execOp
    simp only [ho,hx,hy,za6,za7,h,za8]
theorem Qe8 {gs : List Nat} {V W:World} (q:Qai gs V W) (h:∀ g∈gs,∃ cs t,V.heap[g]? = some (.cells cs t)):KeepsOthers V W :=
  ⟨q.size,fun k o hk ho=>by
    by_cases e:k∈gs
    · obtain ⟨cs,t,r⟩:=h k e
      rw [r] at hk
      cases hk
      cases ho
    · exact (q.block k (Qaq hk) e).trans hk⟩
end Sha
end
section
namespace Auto
open Go Go.RowKit
open Rely Own
variable {ds : List Deferred}
theorem Qh1 {α : Type} {P:Program} {g:Operand} {p:Tmp} {assign body:Code} {Q:Exit→Act→World→Prop} {N:Nat} {L:Env} {w:World}
    {gf:Nat} {lb:Array Value} (hg:Rely.look (envN N L) g=.func (.func gf) #[] lb) (eg:∀ args w,(callFunc gf args).run P w=.ok (.enter gf args) w)
    {enc:α→Value} {Kp:World→World→Prop} {S Sp:List α→Prop} {M:Nat} {w0:World} (hseq:SeqStopsK Fence.wide 2 P gf lb (fun x=>#[enc x]) Kp S Sp M w0)
    (hKt:∀ {A B C:World},Kp A B→Kp B C→Kp A C) (hKb:∀ (W:World) (l:Nat) (o o':Obj),w.heap.size≤l→W.heap[l]? = some o→o.isCells=false→o.isWalk=false→Kp W (W.putObj l o')) (hb0:Below w0.heap.size w0 w)
    (I:List α→World→Prop) (Ix:Code→List α→World→Prop) (hI:OwnFrom w.heap.size I) (hIx:∀ c,OwnFrom w.heap.size (Ix c)) (h0:I [] w)
    (hKe:∀ {A B:World},Ext A B→Kp A B) (hIe:∀ pre {A B:World},I pre A→Ext A B→I pre B) (hIs:∀ pre W,I pre W→w.heap.size≤W.heap.size)
    (asg:α→Nat→Env) (cs:α→Array Value) (T:TypeId)
    (hassign:∀ (l:Nat) (x:α) (W:World) (K:Act→World→Prop),(∀ g W',W.heap.size≤g→Ext W W'→W'.heap[g]? = some (.cells (cs x) T)→K (Qav [] N (asg x g++L)) W')→assign.wpIn (Fence.wide.inRound l) 1 P (Exit.then K (fun _ _ _=>False)) (Qav [] N ((p,enc x)::L)) W)
    (hbody:∀ (l:Nat) (pre:List α) (x:α) (g:Nat) (W:World),w.heap.size≤g→I pre W→W.heap[g]? = some (.cells (cs x) T)→pre.length<M→body.wpIn (Fence.wide.inRound l) 1 P (ownPostK Kp I Ix (pre++[x]) W) (Qav [] N (asg x g++L)) W)
    (hdone:∀ (D:Nat) (xs:List α) (W:World),w.heap.size≤D→S xs→I xs W→W.heap[D]? = some (.deferred (some []))→Q .normal (Qav (mark D::ds) N L) W)
    (hstop:∀ (D:Nat) (c:Code) (pre:List α) (W:World),w.heap.size≤D→Sp pre→Ix c pre W→W.heap[D]? = some (.deferred (some []))→c.wp P Q (Qav (mark D::ds) N L) W) :
    (zaC g #[p] assign body).wp P Q (Qav ds N L) w:=by
  refine (wpIn_wide (n:=3)).1 <| wpIn_rangeFunc_ownH rfl oo (by rw [QaZ]; exact hg) trivial eg (w0:=w0) hseq hKt hKb hb0 (fun _=>rfl) I Ix hI hIx h0
    (fun x a' W=>∃ g,a'=Qav [] N (asg x g++L)∧w.heap.size≤g∧W.heap[g]? = some (.cells (cs x) T)) ?_ (fun l pre x W K hi hK=>?_) ?_ ?_ ?_
  · rintro x a' _ X Y row ⟨g,e,hl,r⟩ hgr hr
    exact ⟨g,e,hl,QbH r hgr (fun q e=>(hr q e).2)⟩
  · rw [Qhy]
    refine hassign l x W K fun g W' hg' e r=>hK _ _ ((QgZ e).from _) (hKe e) (hIe pre hi e) ⟨g,rfl,qT (hIs pre W hi) hg',r⟩
  · rintro l pre x a' W _ _ hi ⟨g,rfl,hl,r⟩ hlen
    exact wpIn_mono (hbody l pre x g W hl hi r hlen) ownPostG_of_ownPostK
  · intro D xs W h1 h2 h3 h4
    exact hdone D xs W h1 h2 h3 h4
  · intro D c pre W h1 h2 h3 h4
    exact wpIn_wide.2 (hstop D c pre W h1 h2 h3 h4)
section
variable {P : Program} {R : World → World → Prop} {w0 : World} {N : Nat} {L : Env} {F : List KE → Prop} {o : Oper} {os : List Oper} {s : Src} {ss : List Src} {C : List KE}
theorem x_op (k : KE) (hk0:k.ok R) (hs:seen (C.map KE.kn) o s=true) (hg:gOk s.guard (get (envS N L ((C.map KE.kn).map zbq) s.reads))=true)
    (h:∀ W,R w0 W→Qca P R W k.fact ((execOp (Rely.look (get (envS N L ((C.map KE.kn).map zbq) s.reads))) o).run P W))
    (hk:Qbn P R w0 N L F os ss (C++[k])):Qbn P R w0 N L F (o::os) (s::ss) C :=
  ⟨k,hk0,fun ρ W hR hh=>by
    have hh':Qcz (envN N L) ((C.map KE.kn).map (Kn.fact 0)) ρ W s.reads:=by
      refine Qiu s.reads ?_ hh
      have:=hs
      simp only [seen,Bool.and_eq_true] at this
      exact this.1.1.2
    rw [Qcr hs hh']
    refine Qcc hg ?_
    unfold QcI
    rw [QcU hs hh']
    exact h W hR,hk⟩
theorem QfR (hrf : ∀ W,R W W) (v:Value) (hs:seen (C.map KE.kn) o s=true) (hg:gOk s.guard (get (envS N L ((C.map KE.kn).map zbq) s.reads))=true)
    (h:∀ W,R w0 W→(execOp (Rely.look (get (envS N L ((C.map KE.kn).map zbq) s.reads))) o).run P W=.ok (.value v) W)
    (hk:Qbn P R w0 N L F os ss (C++[.is v])):Qbn P R w0 N L F (o::os) (s::ss) C :=
  x_op (.is v) trivial hs hg (fun W hR=>by rw [h W hR]; exact ⟨hrf _,rfl⟩) hk
theorem QnR (φ : Fact) (hφ:Qb2 R φ) (hs:seen (C.map KE.kn) o s=true) (hg:gOk s.guard (get (envS N L ((C.map KE.kn).map zbq) s.reads))=true)
    (h:∀ W,R w0 W→∃ v W',(execOp (Rely.look (get (envS N L ((C.map KE.kn).map zbq) s.reads))) o).run P W=.ok (.value v) W'∧R W W'∧φ v W')
    (hk:Qbn P R w0 N L F os ss (C++[.ex φ])):Qbn P R w0 N L F (o::os) (s::ss) C :=
  x_op (.ex φ) hφ hs hg (fun W hR=>by obtain ⟨v,W',e,r,q⟩:=h W hR; rw [e]; exact ⟨r,q⟩) hk
end
theorem QfN {P : Program} {Fe:Fence} {nf:Nat} {id:Nat} {Q:Exit→Act→World→Prop} {N:Nat} {L:Env} {w:World} {l:List Oper} (R:World→World→Prop) (hrf:∀ W,R W W) (htr:∀ {a b c:World},R a b→R b c→R a c) (n:Nat) (S:List Src) (hFr:Free Fe nf P) (hdf:(l.all Qcu)=true) (hm:P.follows .mixedOrders=true) (hok:ok l n N S=true)
    (h:∀ F:List KE→Prop,(∀ C,(∀ W,R w.drew W→finE (fun L W=>WLI Fe nf P l.toArray Q (l.drop n) (Qav ds N L) W) (l.take n) C L W)→F C)→Qbn P R w.drew N L F (l.take n) S []) :
    (Code.region id l.toArray true).wpIn Fe nf P Q (Qav ds N L) w:=by
  refine QeD R n N S hFr.fn hFr.dp hFr.calls hdf hm hok (Qc8 N L) hrf (fun a b=>htr a b) fun F r0 hr hF=>?_
  rw [QbF] at hr
  subst hr
  have:=h (fun C=>∀ W,R w.drew W→finE (fun L W=>WLI Fe nf P l.toArray Q (l.drop n) (Qav ds N L) W) (l.take n) C L W) (fun C h=>h)
  exact Qci (G:=F) (fun C h=>hF.out fun W hR=>Qjj (Q:=fun a W=>wpListIn Fe nf P l.toArray Q (l.drop n) a W) _ _ _ (QcZ (fun L W h=>h.out) _ _ _ _ (h W hR))) _ _ [] this
def Qda (g : Nat) (X Y:Obj) (A B:World):Prop:=ExtB g A B∧(B.heap[g]? = A.heap[g]?∨B.heap[g]? = some Y)
theorem QkD (g : Nat) (A:World):ExtB g A A:=⟨rfl,rfl,rfl,qR _,fun _ _ _=>rfl⟩
theorem extB_trans {g : Nat} {A B C:World} (h:ExtB g A B) (k:ExtB g B C):ExtB g A C :=
  ⟨k.1.trans h.1,k.2.1.trans h.2.1,k.2.2.1.trans h.2.2.1,qT h.2.2.2.1 k.2.2.2.1,fun i hi hn=>(k.2.2.2.2 i (qL hi h.2.2.2.1) hn).trans (h.2.2.2.2 i hi hn)⟩
theorem Qda.refl (g : Nat) (X Y:Obj) (A:World):Qda g X Y A A:=⟨QkD g A,.inl rfl⟩
theorem Qda.trans {g : Nat} {X Y:Obj} {A B C:World} (h:Qda g X Y A B) (k:Qda g X Y B C):Qda g X Y A C :=
  ⟨extB_trans h.1 k.1,by
    rcases k.2 with q | q
    · rcases h.2 with r | r
      · exact .inl (q.trans r)
      · exact .inr (q.trans r)
    · exact .inr q⟩
theorem Qda.row {g : Nat} {X Y:Obj} {A B:World} (h:Qda g X Y A B) (hX:A.heap[g]? = some X):B.heap[g]? = some X∨B.heap[g]? = some Y:=by
  rcases h.2 with q | q
  · exact .inl (q.trans hX)
  · exact .inr q
theorem Qda.stable (g : Nat) (X Y:Obj) (v:Value):Qb2 (Qda g X Y) (fun u W=>u=v∧W.heap[g]? = some Y):=fun _ _ _ hR h=>⟨h.1,by
  rcases hR.2 with q | q
  · exact q.trans h.2
  · exact q⟩
theorem RdK.keepC {k : IntKind} {B:Nat} {gs:List Nat} {ys:List Int} {v:Value} {V W:World} (h:RdK k B ys v V) (q:QbP gs V W) (hc:∀ c∈gs,B≤c):RdK k B ys v W:=by
  obtain ⟨a,cap,rfl,h1,h2,h3,h4⟩:=h
  refine ⟨a,cap,rfl,h1,h2,h3,?_⟩
  rcases h4 with h4 | ⟨g,o,e,hB,hl,hcell⟩
  · exact .inl h4
  · exact .inr ⟨g,o,e,hB,qL hl q.1,fun i hi=>q.cell (hcell i hi) (fun hm=>by have:=hc g hm; omega)⟩
theorem Qlu (xs t:List Int) (at_ m:Nat) (h1:at_+m≤xs.length) (h2:m≤t.length):(xs.take at_++t.take m++xs.drop (at_+m)).take at_++t.take m++(xs.take at_++t.take m++xs.drop (at_+m)).drop (at_+m)=xs.take at_++t.take m++xs.drop (at_+m):=by
  have l1:(xs.take at_).length=at_:=by rw [zae]; omega
  have l2:(xs.take at_++t.take m).length=at_+m:=by rw [zad,l1,zae]; omega
  rw [zaD oo,zaE (by omega:(xs.take at_++t.take m).length≤at_+m),zax,zal (xs.take at_),zaF oo,zai oo,←zal]
end Auto
end
section
namespace Auto
open Go Go.RowKit
open Rely Own
variable {ds : List Deferred} {Fe : Fence} {nf : Nat}
section
variable {P : Program} {ops : Array Oper} {Q : Exit → Act → World → Prop} {rest : List Oper} {o : Oper} {N : Nat} {L : Env} {w : World}
theorem Qny (v : Value) (f:FuncId) (args:Array Value) (d:Nat) (hd:o.dst=some d) (hF:Free Fe nf P) (hnd:Qcu o=true) (hg:Qbp ops o N L=some true) (h:(execOp (Rely.look (envN N L)) o).run P w=.ok (.enter f args) w)
    (hc:Calls P f args w (Ret w v)) (k:∀ W:World,Ext w W→WLI Fe nf P ops Q rest (Qav ds N ((d,v)::L)) W):WLI Fe nf P ops Q (o::rest) (Qav ds N L) w :=
  Qky hF hnd hg fun K hK=>by
    rw [h]
    refine ⟨hF.dp,(hF.calls hc).mono ?_⟩
    rintro e w' ⟨rfl,hw⟩
    show K _ _
    rw [hd,QaS]
    exact hK _ _ (k _ hw)
end
section
variable {P : Program} {Q : Exit → Act → World → Prop} {w : World} {N : Nat} {L : Env}
end
theorem QgF (N : Nat) (L:Env) (p q:Nat) (v u:Value):({ tmps:=(#[p,q].zip #[v,u]).foldl (fun t (p,v)=>t.setIfInBounds p v) (Qav ds N L).tmps,defers:=[] }:Act)=Qav [] N ((q,u)::(p,v)::L):=by
  rw [←QaS,←QaS]
  simp [Act.put,Qav]
theorem Qh0 {α : Type} {P:Program} {g:Operand} {p q:Tmp} {assign body:Code} {Q:Exit→Act→World→Prop} {N:Nat} {L:Env} {w:World}
    {gf:Nat} {lb:Array Value} (hg:Rely.look (envN N L) g=.func (.func gf) #[] lb) (eg:∀ args w,(callFunc gf args).run P w=.ok (.enter gf args) w)
    {enc enc2:α→Value} {Kp:World→World→Prop} {S Sp:List α→Prop} {M:Nat} {w0:World} (hseq:SeqStopsK Fence.wide 2 P gf lb (fun x=>#[enc x,enc2 x]) Kp S Sp M w0)
    (hKt:∀ {A B C:World},Kp A B→Kp B C→Kp A C) (hKb:∀ (W:World) (l:Nat) (o o':Obj),w.heap.size≤l→W.heap[l]? = some o→o.isCells=false→o.isWalk=false→Kp W (W.putObj l o')) (hb0:Below w0.heap.size w0 w)
    (I:List α→World→Prop) (Ix:Code→List α→World→Prop) (hI:OwnFrom w.heap.size I) (hIx:∀ c,OwnFrom w.heap.size (Ix c)) (h0:I [] w)
    (hKe:∀ {A B:World},Ext A B→Kp A B) (hIe:∀ pre {A B:World},I pre A→Ext A B→I pre B) (hIs:∀ pre W,I pre W→w.heap.size≤W.heap.size)
    (asg:α→Nat→Env) (cs:α→Array Value) (T:TypeId)
    (hassign:∀ (l:Nat) (x:α) (W:World) (K:Act→World→Prop),(∀ g W',W.heap.size≤g→Ext W W'→W'.heap[g]? = some (.cells (cs x) T)→K (Qav [] N (asg x g++L)) W')→assign.wpIn (Fence.wide.inRound l) 1 P (Exit.then K (fun _ _ _=>False)) (Qav [] N ((q,enc2 x)::(p,enc x)::L)) W)
    (hbody:∀ (l:Nat) (pre:List α) (x:α) (g:Nat) (W:World),w.heap.size≤g→I pre W→W.heap[g]? = some (.cells (cs x) T)→pre.length<M→body.wpIn (Fence.wide.inRound l) 1 P (ownPostK Kp I Ix (pre++[x]) W) (Qav [] N (asg x g++L)) W)
    (hdone:∀ (D:Nat) (xs:List α) (W:World),w.heap.size≤D→S xs→I xs W→W.heap[D]? = some (.deferred (some []))→Q .normal (Qav (mark D::ds) N L) W)
    (hstop:∀ (D:Nat) (c:Code) (pre:List α) (W:World),w.heap.size≤D→Sp pre→Ix c pre W→W.heap[D]? = some (.deferred (some []))→c.wp P Q (Qav (mark D::ds) N L) W) :
    (zaC g #[p,q] assign body).wp P Q (Qav ds N L) w:=by
  refine (wpIn_wide (n:=3)).1 <| wpIn_rangeFunc_ownH rfl oo (by rw [QaZ]; exact hg) trivial eg (w0:=w0) hseq hKt hKb hb0 (fun _=>rfl) I Ix hI hIx h0
    (fun x a' W=>∃ g,a'=Qav [] N (asg x g++L)∧w.heap.size≤g∧W.heap[g]? = some (.cells (cs x) T)) ?_ (fun l pre x W K hi hK=>?_) ?_ ?_ ?_
  · rintro x a' _ X Y row ⟨g,e,hl,r⟩ hgr hr
    exact ⟨g,e,hl,QbH r hgr (fun q e=>(hr q e).2)⟩
  · rw [QgF]
    refine hassign l x W K fun g W' hg' e r=>hK _ _ ((QgZ e).from _) (hKe e) (hIe pre hi e) ⟨g,rfl,qT (hIs pre W hi) hg',r⟩
  · rintro l pre x a' W _ _ hi ⟨g,rfl,hl,r⟩ hlen
    exact wpIn_mono (hbody l pre x g W hl hi r hlen) ownPostG_of_ownPostK
  · intro D xs W h1 h2 h3 h4
    exact hdone D xs W h1 h2 h3 h4
  · intro D c pre W h1 h2 h3 h4
    exact wpIn_wide.2 (hstop D c pre W h1 h2 h3 h4)
theorem Qh8 {α : Type} {P:Program} {body:Code} {Q:Exit→Act→World→Prop} {N:Nat} {L:Env} {w:World} (live:α→Env) (I:α→World→Prop) (μ:α→Nat) (s0:α) (hL:QhK L (live s0)) (h0:I s0 w)
    (round:∀ (s:α) (X:Env) (W:World),I s W→body.wpIn Fe nf P (Exit.then (Goes ds N live I μ s) Q) (Qav ds N (live s++X)) W):(Code.loop body).wpIn Fe nf P Q (Qav ds N L) w:=by
  rw [←Qf0 hL]
  refine Go.wpIn_loop_ghost (fun n a W=>∃ (s:α) (X:Env),a=Qav ds N (live s++X)∧I s W∧μ s=n) (μ s0) ⟨s0,L,rfl,h0,rfl⟩ ?_
  rintro n a W ⟨s,X,rfl,hI,rfl⟩
  refine wpIn_mono (round s X W hI) fun e a' w' h=>?_
  cases e <;> try exact h
  obtain ⟨s',X',h1,h2,h3⟩:=h
  exact ⟨μ s',h3,s',X',h1,h2,rfl⟩
theorem Qjg {P : Program} {id:Nat} {Q:Exit→Act→World→Prop} {N:Nat} {L:Env} {w:World} {l:List Oper} (n:Nat) (S:List Src) (hFr:Free Fe nf P) (hdf:(l.all Qcu)=true) (hm:P.follows .mixedOrders=true) (hok:ok l n N S=true)
    (h:∀ F:List KE→Prop,(∀ C,(∀ W,Ext w W→finE (fun L W=>WLI Fe nf P l.toArray Q (l.drop n) (Qav ds N L) W) (l.take n) C L W)→F C)→Qbn P Ext w.drew N L F (l.take n) S []) :
    (Code.region id l.toArray true).wpIn Fe nf P Q (Qav ds N L) w :=
  QfN Ext zbl zbm n S hFr hdf hm hok fun F hF=>h F fun C hC=>hF C fun W hR=>hC W (zbm (Qan w) hR)
section
variable {P : Program} {ops : Array Oper} {Q : Exit → Act → World → Prop} {rest : List Oper} {o : Oper} {N : Nat} {L : Env} {W : World}
end
theorem goXj {K : Act→World→Prop} {Q:Exit→Act→World→Prop} {a:Act} {w:World} {n m:Nat} (h:n≠m) (k:Q (.exit n) a w):Exit.inBlock m Q (.exit n) a w:=by
  unfold Exit.inBlock
  simp [h]
  exact k
end Auto
end
section
namespace Cha
open Go Go.RowKit
open Rely Auto Own Sha
open Sha
set_option maxRecDepth 100000 in
theorem QgK (m : Nat) (gs:List Nat) (g1 g2:Nat) (ws:List Wd) (number:Int) (r:Nat) (tq:TypeId) (w:World) (hr:number+(r:Int)=4294967296) (h1:0≤number) (h2:number≤4294967295) (hw:ws.length=16)
  (hqw:w.heap[1]? = some (.cells (ints .i64 qQ) tq)) (r1w:w.heap[g1]? = some (.cells #[.int .i64 number] 3)) (r2w:w.heap[g2]? = some (.cells (ints .u32 (ws.map wv)) 140)) (n1:g1∉gs) (n2:g2∉gs) (nq:1∉gs) :
  SeqStopsK Fence.wide m Tryz.prog 73 #[pp g1 0,pp g2 0] (fun i:Nat=>#[zau .i64 (number+(i:Int)),Value.agg (ints .u8 (Qbu ws (number+(i:Int))))]) (QbP gs) (fun ys=>ys=zam r) (fun ys=>∃ k,ys=zam k∧k≤r) r w:=fun l J Jx Wi hW hJ hJx hY h0=>by
 refine callsIn_wide.2 ?_
 have hqi:=Qaa hqw hW
 have r1:=Qaa r1w hW
 refine enter 17 [(0,.func (.yield l) #[] #[]),(1,pp g1 0),(2,pp g2 0)] Tryz.func73 rfl rfl kj rfl <| sgC fun K4 hK4=>sv (.int .i64 number) 5 (Qab 3 _ g1 0 3 _ (.int .i64 number) _ r1 rfl kj kj kj) <| sg 1 kj <| sgN hK4 <| wp_block <| Qa3 (fun (s1:Nat)=>[(0,.func (.yield l) #[] #[]),(1,pp g1 0),(2,pp g2 0),(4,.int .i64 (number+(s1:Int)))]) (fun (s1:Nat) W=>(s1≤r)∧(J (zam s1) W)∧(W.heap[g1]? = some (.cells #[.int .i64 number] 3))∧(W.heap[g2]? = some (.cells (ints .u32 (ws.map wv)) 140))∧(W.heap[1]? = some (.cells (ints .i64 qQ) tq))∧(Grew Wi W)) (fun (s1:Nat)=>r-s1) 0 ⟨kj,kj,kj,(congrArg (zau .i64) (show number=number+((0:Nat):Int) by omega)),trivial⟩ ⟨(zaw _),(show J (zam 0) _ from h0),r1,(Qaa r2w hW),hqi,(Grew.refl Wi)⟩ fun s1 X1 V1 hI1=>?_
 obtain ⟨k,hs1⟩:∃ z,z=s1:=⟨_,rfl⟩
 subst hs1
 obtain ⟨hkl_,hJ1,rr1,rr2,rrq,xx1⟩:=hI1
 replace hkl_:k≤r:=hkl_
 replace hJ1:J (zam k) V1:=hJ1
 replace rr1:V1.heap[g1]? = some (.cells #[.int .i64 number] 3):=rr1
 replace rr2:V1.heap[g2]? = some (.cells (ints .u32 (ws.map wv)) 140):=rr2
 replace rrq:V1.heap[1]? = some (.cells (ints .i64 qQ) tq):=rrq
 replace xx1:Grew Wi V1:=xx1
 refine wp_seq_k fun K5 hK5=>sgB kj <| Qay (t:=decide ((number+(k:Int))≤4294967295)) kj (fun c7=>?_) (fun c7=>?_)
 ·skip
  have hlt:k<r:=by have:=of_decide_eq_true c7; omega
  refine wp_skip <| hK5 _ _ <| wp_seq_k fun K8 hK8=>wp_block <| wp_seq_k fun K9 hK9=>(wpIn_wide (n:=m)).1 <| Qbz <| QbE (.func (.yield l) #[] #[]) 10 rfl (Qb0 _ _) rfl kj kj <| QbE (.int .i64 (number+(k:Int))) 11 rfl (Qb0 _ _) rfl kj kj <| QbE (.agg (ints .u32 (ws.map wv))) 12 rfl (Qb0 _ _) rfl kj (Qae 140 _ g2 140 _ _ rr2 rfl kj kj (isz (n:=16) kj (izT (Qcy hw)))) ?_
  refine QbE (.int .i64 (number+(k:Int))) 13 rfl (Qb0 _ _) rfl kj kj <| Qny (.agg (ints .u8 (Qbu ws (number+(k:Int))))) 74 #[.agg (ints .u32 (ws.map wv)),.int .i64 (number+(k:Int))] 14 rfl (Qb0 _ _) rfl kj kj ((Qms ws (number+(k:Int)) tq _ rrq hw)) fun W2 e2=>Qis (m:=m) (l:=l) (args:=#[.int .i64 (number+(k:Int)),.agg (ints .u8 (Qbu ws (number+(k:Int))))]) 15 rfl rfl kj kj (hY (zam k) k W2 (QfQ hJ hJ1 (zbm (zbl V1) e2)) (by rw [zan]; omega)) (fun W' hA=>?_) (fun W' hA=>?_)
  ·skip
   obtain ⟨W3,hW3⟩:∃ z,z=W':=⟨_,rfl⟩
   rw [←hW3] at hA ⊢
   obtain ⟨hj10,hk10⟩:=hA
   refine QbE (.bool false) 16 rfl (Qb0 _ _) rfl kj kj <| QcM <| hK9 _ _ <| cond_false kj <| wp_skip <| hK8 _ _ <| Qaj <| sg 1 kj <| sv (.int .i64 (number+((k+1:Nat):Int))) 9 (Qac (u:=.int .i64 (zaz.wrap ((number+(k:Int))+1))) kj (congrArg (zau .i64) (by rw [show number+(k:Int)+1=number+((k+1:Nat):Int) by omega]; exact IntWalk.i64_in _ oo))) ?_
   refine sg 1 kj <| Qas ?_
   with_reducible repeat first | refine goX1 ?_ | refine goX2 ?_ | refine goX3 ?_
   exact Qa1 (k+1) ⟨kj,kj,kj,kj,trivial⟩ ⟨oo,(by rw [zaG]; exact hj10),(QbP.row hk10 (Qaa rr1 e2) n1),(QbP.row hk10 (Qaa rr2 e2) n2),(QbP.row hk10 (Qaa rrq e2) nq),(Grew.keepC (Grew.ext xx1 e2) hk10)⟩ (by show r-(k+1)<r-k; omega)
  ·skip
   obtain ⟨W3,hW3⟩:∃ z,z=W':=⟨_,rfl⟩
   rw [←hW3] at hA ⊢
   refine QbE (.bool true) 16 rfl (Qb0 _ _) rfl kj kj <| QcM <| hK9 _ _ <| cond_true kj <| wp_ret ?_
   with_reducible repeat first | refine goR1 ?_ | refine goR2 ?_
   exact (show bodyPost _ _ _ .ret _ _ from ret0 rfl ⟨⟨_,rfl⟩,.inr ⟨_,⟨k+1,zaG.symm,hlt⟩,hA⟩⟩)
 ·skip
  have hke:k=r:=by have:=of_decide_eq_false c7; omega
  refine wp_exit ?_
  with_reducible repeat first | refine goX1 ?_ | refine goX2 ?_ | refine goX3 ?_
  exact (show bodyPost _ _ _ .normal _ _ from end0 rfl ⟨⟨_,rfl⟩,.inl ⟨_,congrArg zam hke,hJ1⟩⟩)
set_option maxRecDepth 100000 in
theorem Qlv (key nonce:List Int) (v:Value) (B:Nat) (number:Int) (th tq:TypeId) (w:World) (hh:w.heap[0]? = some (.cells (ints .u32 qH) th)) (hq:w.heap[1]? = some (.cells (ints .i64 qQ) tq)) (hkl:key.length=32) (hn:RdK .u8 B nonce v w) (h:nonce.length=12) (h1:0≤number) (h2:number≤4294967295):Calls Tryz.prog 52 #[.agg (ints .u8 key),v,.int .i64 number] w (Qby w (fun v W=>∃ g1 g2,v=.func (.func 73) #[] #[pp g1 0,pp g2 0]∧w.heap.size≤g1∧w.heap.size≤g2∧W.heap[g1]? = some (.cells #[.int .i64 number] 3)∧W.heap[g2]? = some (.cells (ints .u32 ((Qbb key nonce).map wv)) 140))):=by
  obtain ⟨a_n,c_n,rfl,-⟩:=id hn
  refine enter 16 [(0,.agg (ints .u8 (key))),(1,.slice a_n nonce.length c_n),(2,.int .i64 number)] Tryz.func52 rfl rfl kj rfl <| sgC fun K3 hK3=>Qah (ints .u8 (key)) 74 3 rfl kj kj fun g4 W1 l4 e1 r4_1=>?_
  have x1:=zbp (zbl w) e1
  have b4:=qT (zbl w).size l4
  refine Qah (#[.int .i64 number]) 3 5 rfl kj kj fun g5 W2 l5 e2 r5_2=>?_
  have x2:=zbp x1 e2
  refine sg 1 kj <| sgN hK3 <| wp_seq_k fun K6 hK6=>sgC fun K7 hK7=>sg 1 kj <| sv (.int .i64 number) 9 (Qab 3 _ g5 0 3 _ (.int .i64 number) _ r5_2 rfl kj kj kj) <| Qao (.nilIface) 51 #[.slice a_n nonce.length c_n,.int .i64 number] 10 rfl kj kj ((check_D nonce _ _ number _ (RdK.ext hn x2) h h1 h2)) fun W3 e3=>?_
  have x3:=zbp x2 e3
  refine sg 1 kj <| sgN hK7 <| cond_false kj <| wp_skip <| hK6 _ _ <| sgC fun K8 hK8=>sv (.agg (ints .u8 (key))) 12 (Qae 74 _ g4 74 _ _ (Qaa (Qaa r4_1 e2) e3) rfl kj kj (isz (n:=32) kj (izT hkl))) <| sg 1 kj <| Qao (.agg (ints .u32 ((Qbb key nonce).map wv))) 72 #[.agg (ints .u8 (key)),.slice a_n nonce.length c_n] 14 rfl kj kj ((by rw [←Qml]; exact Qmm key nonce _ _ th _ (Qaa (Qaa (Qaa hh e1) e2) e3) hkl (RdK.ext hn x3) h)) fun W4 e4=>?_
  have x4:=zbp x3 e4
  refine Qah (ints .u32 ([0,0,0,0,0,0,0,0,0,0,0,0,0,0,0,0])) 140 7 rfl kj kj fun g9 W5 l9 e5 r9_5=>?_
  have b9:=qT x4.size l9
  refine Qag g9 _ (ints .u32 ((Qbb key nonce).map wv)) 140 r9_5 rfl kj (Qaf 140 _ _ g9 140 _ _ r9_5 rfl kj kj (isz (n:=16) kj (izT (Qcy (Qd1 _ _)))) (eqsz (n:=16) kj (izT (Qcy (Qd1 _ _)))) (Qat _ _)) fun W6 p6 r9_6=>sgN hK8 <| sgB kj <| wp_ret ?_
  with_reducible repeat first | refine goR1 ?_ | refine goR2 ?_
  have r5_4:=(Qaa (Qaa r5_2 e3) e4)
  exact (show bodyPost _ _ _ .ret _ _ from ret1 (.func (.func 73) #[] #[pp g5 0,pp g9 0]) rfl (Qax kj) ⟨_,rfl,(zbo p6 (zbp x4 e5) b9),_,_,rfl,(qT x1.size l5),b9,(rpn p6 r5_4 e5 l9),r9_6⟩)
end Cha
end
section
namespace Cha
open Go Go.RowKit
open Rely Auto Own Sha
open Sha
def pg (pre : List Nat) (j:Nat):Nat:=pre.getD j 0
theorem QmV (pre : List Nat) (x:Nat):pg (pre++[x]) pre.length=x:=by simp [pg]
theorem Qpy (pre : List Nat) (x j:Nat) (h:j<pre.length):pg (pre++[x]) j=pg pre j:=by
  unfold pg
  rw [zap,zap,List.getElem?_append_left h]
theorem Qlw (k j:Nat) (h:j<k):pg (zam k) j=j:=by
  unfold pg
  rw [zap,zar h]; rfl
theorem Qii (text : List Int) (ws:List Wd) (num:Int) (f g:Nat→Nat) (n m:Nat) (h:∀ i,i<m→f (i/64)=g (i/64)):(mxv text ws num f n).take m=(mxv text ws num g n).take m:=by
  unfold mxv
  rw [←zaH,←zaH,List.take_range]
  refine zaI fun i hi=>?_
  rw [zaJ] at hi
  rw [h i oo]
theorem Qkb (text : List Int) (ws:List Wd) (num:Int) (f:Nat→Nat) (n m:Nat) (h:m<n):nth (mxv text ws num f n) m=bits .xor .u8 (nth text m) (nth (Qbu ws (num+((f (m/64):Nat):Int))) (m%64)):=by
  rw [show nth (mxv text ws num f n) m=(mxv text ws num f n).getD m 0 from rfl]
  unfold mxv
  rw [zap,zaq,zar h]; rfl
theorem Qnk (text : List Int) (ws:List Wd) (num:Int) (pre:List Nat) (x n:Nat):fillL (mxv text ws num (pg pre) n) n (64*pre.length)=fillL (mxv text ws num (pg (pre++[x])) n) n (64*pre.length):=by
  unfold fillL
  rw [Qii text ws num (pg pre) (pg (pre++[x])) n _ fun i hi=>(Qpy pre x (i/64) oo).symm]
theorem Qo6 (text : List Int) (ws:List Wd) (num:Int) (pre:List Nat) (x n j:Nat) (hj:j<64) (h:64*pre.length+j<n):nth (mxv text ws num (pg (pre++[x])) n) (64*pre.length+j)=bits .xor .u8 (nth text (64*pre.length+j)) (nth (Qbu ws (num+(x:Int))) j):=by
  rw [Qkb _ _ _ _ _ _ h,show (64*pre.length+j)/64=pre.length by omega,show (64*pre.length+j)%64=j by omega,QmV]
theorem Qkc (text : List Int) (ws:List Wd) (num:Int) (k:Nat) (h:text.length≤64*k):mxv text ws num (pg (zam k)) text.length=mixV ws num text:=by
  have h2:=Qii text ws num (pg (zam k)) id text.length text.length fun i hi=>Qlw k (i/64) oo
  rw [zai (by rw [QdG]; omega),zai (by rw [QdG]; omega)] at h2
  exact h2
theorem QbW (ws : List Wd) (num:Int) (text:List Int):(mixV ws num text).length=text.length:=QdG _ _ _ _ _
set_option maxRecDepth 100000 in
theorem QpM (key nonce text:List Int) (v v2:Value) (B B2:Nat) (number:Int) (th tq:TypeId) (w:World) (hh:w.heap[0]? = some (.cells (ints .u32 qH) th)) (hq:w.heap[1]? = some (.cells (ints .i64 qQ) tq)) (hkl:key.length=32) (hn:RdK .u8 B nonce v w) (ht:RdK .u8 B2 text v2 w) (h:nonce.length=12) (r:Nat) (hr:number+(r:Int)=4294967296) (h1:0≤number) (h2:number≤4294967295) (hfit:text.length≤64*r) (htl:text.length≤2000000):Calls Tryz.prog 38 #[.agg (ints .u8 key),v,.int .i64 number,v2] w (Qby w (fun v W=>∃ u,v=.tuple #[u,.nilIface]∧OwnN .u8 5 w.heap.size (mixV (Qbb key nonce) number text) u W)):=by
 obtain ⟨a_n,c_n,rfl,-⟩:=id hn
 obtain ⟨a_t,c_t,rfl,-⟩:=id ht
 refine Qm2 64 [(0,.agg (ints .u8 (key))),(1,.slice a_n nonce.length c_n),(2,.int .i64 number),(3,.slice a_t text.length c_t)] Tryz.func38 rfl rfl kj rfl <| sgC fun K3 hK3=>Qah (ints .u8 (key)) 74 4 rfl kj kj fun g4 W1 l4 e1 r4_1=>?_
 have x1:=zbp (zbl w) e1
 have b4:=qT (zbl w).size l4
 refine Qah (#[.slice a_t text.length c_t]) 41 7 rfl kj kj fun g5 W2 l5 e2 r5_2=>?_
 have x2:=zbp x1 e2
 have b5:=qT x1.size l5
 refine sg 2 kj <| sgN hK3 <| wp_scope_straight <| wp_seq_k fun K6 hK6=>sgC fun K7 hK7=>sg 2 kj <| Qao (.nilIface) 51 #[.slice a_n nonce.length c_n,.int .i64 number] 19 rfl kj kj ((check_D nonce _ _ number _ (RdK.ext hn x2) h h1 h2)) fun W3 e3=>?_
 have x3:=zbp x2 e3
 refine sg 1 kj <| sgN hK7 <| sgB kj <| cond_false kj <| wp_skip <| hK6 _ _ <| wp_seq_k fun K9 hK9=>sgC fun K10 hK10=>?_
 have r5_3:=(Qaa r5_2 e3)
 refine sv (.slice a_t text.length c_t) 23 (Qab 41 _ g5 0 41 _ (.slice a_t text.length c_t) _ r5_3 rfl kj kj kj) <| sg 1 kj <| sv (.int .i64 ((text.length+64:Nat):Int)) 25 (Qac (u:=.int .i64 (zaz.wrap ((text.length:Int)+64))) kj (congrArg (zau .i64) (i64n _ _ oo oo))) <| sv (.int .i64 (((text.length+64)-1:Nat):Int)) 26 (Qac (u:=.int .i64 (zaz.wrap (((text.length+64:Nat):Int)-1))) kj (congrArg (zau .i64) (i64n _ _ oo oo))) <| sv (.int .i64 ((((text.length+64)-1)/64:Nat):Int)) 27 (Qac (u:=.int .i64 (zaz.wrap (zaK ((((text.length+64)-1:Nat):Int)) (64)))) kj (congrArg (zau .i64) (Qcv _ 64 oo))) <| sg 1 kj <| sgN hK10 <| sgC fun K11 hK11=>sg 2 kj <| sv (.int .i64 ((r-1:Nat):Int)) 30 (Qac (u:=.int .i64 (zaz.wrap (4294967295-number))) kj (congrArg (zau .i64) (by rw [show (4294967295-number:Int)=((r-1:Nat):Int) by omega]; exact IntWalk.i64_in _ oo))) ?_
 refine sv (.int .i64 (((r-1)+1:Nat):Int)) 31 (Qac (u:=.int .i64 (zaz.wrap (((r-1:Nat):Int)+1))) kj (congrArg (zau .i64) (i64n _ _ oo oo))) <| sv (.bool false) 32 (Qac (u:=.bool (decide (((((text.length+64)-1)/64:Nat):Int)>(((r-1)+1:Nat):Int)))) kj (congrArg zaL (decide_eq_false oo))) <| sgN hK11 <| cond_false kj <| wp_skip <| hK9 _ _ <| sgC fun K12 hK12=>sv (.slice a_t text.length c_t) 34 (Qab 41 _ g5 0 41 _ (.slice a_t text.length c_t) _ r5_3 rfl kj kj kj) <| sg 1 kj <| Qj6 (ints .u8 (zac (text.length) 0)) 5 0 (text.length) 36 rfl kj (QjB 41 _ _ .i64 .i64 0 (text.length) 5 rfl kj kj kj (.inr kj) (zaw _) oo) fun g13 W4 l13 e4 r13_4=>?_
 have x4:=zbp x3 e4
 have b13:=qT x3.size l13
 refine Qah (#[.slice none 0 0]) 41 12 rfl kj kj fun g14 W5 l14 e5 r14_5=>?_
 have b14:=qT x4.size l14
 refine Qag g14 _ (#[.slice (some ⟨g13,0,none⟩) 0 text.length]) 41 r14_5 rfl kj (Qbj 41 _ _ g14 0 41 _ (.slice (some ⟨g13,0,none⟩) 0 text.length) r14_5 rfl kj kj kj kj kj rfl) fun W6 p6 r14_6=>?_
 have x6:=zbo p6 (zbp x4 e5) b14
 refine sgN hK12 <| wp_seq_k fun K15 hK15=>wp_label <| hK15 _ _ <| wp_seq_k fun K16 hK16=>sgC fun K17 hK17=>?_
 have r4_4:=(Qaa (Qaa (Qaa r4_1 e2) e3) e4)
 refine sv (.agg (ints .u8 (key))) 37 (Qae 74 _ g4 74 _ _ (rpn p6 r4_4 e5 l14) rfl kj kj (isz (n:=32) kj (izT hkl))) <| sg 2 kj ?_
 have r2_4:=(Qaa (Qaa (Qaa (Qaa hh e1) e2) e3) e4)
 have r1_4:=(Qaa (Qaa (Qaa (Qaa hq e1) e2) e3) e4)
 have r1_6:=(rpn p6 r1_4 e5 l14)
 refine Qau (fun v W'=>(fun v W=>∃ g1 g2,v=.func (.func 73) #[] #[pp g1 0,pp g2 0]∧W6.heap.size≤g1∧W6.heap.size≤g2∧W.heap[g1]? = some (.cells #[.int .i64 number] 3)∧W.heap[g2]? = some (.cells (ints .u32 ((Qbb key nonce).map wv)) 140)) v W'∧Ext W6 W') 52 #[.agg (ints .u8 (key)),.slice a_n nonce.length c_n,.int .i64 number] 40 rfl kj kj ((Qlv key nonce _ _ number th tq _ (rpn p6 r2_4 e5 l14) r1_6 hkl (RdK.ext hn x6) h h1 h2).mono mo1) fun vv18 W7 hh18=>?_
 obtain ⟨hv18,e7⟩:=hh18
 have x7:=zbp x6 e7
 obtain ⟨gp1,gp2,rfl,lp1,lp2,rp1,rp2⟩:=hv18
 refine sgN hK17 <| wp_block ?_
 have r5_4:=(Qaa r5_3 e4)
 have r5_7:=(Qaa (rpn p6 r5_4 e5 l14) e7)
 have r14_7:=(Qaa r14_6 e7)
 have r13_6:=(rpn p6 r13_4 e5 l14)
 have r13_7:=(Qaa r13_6 e7)
 have nb712:g5≠g14:=(Qad r5_4 l14)
 have nb7O:g5≠g13:=(Qad r5_3 l13)
 have nb127:g14≠g5:=(QaI r5_4 l14)
 have nb12O:g14≠g13:=(QaI r13_4 l14)
 have nbO7:g13≠g5:=(QaI r5_3 l13)
 have nbO12:g13≠g14:=(Qad r13_4 l14)
 have hgs:∀ c∈([g14,g13]:List Nat),w.heap.size≤c:=(fun c hc=>by simp only [zaM,zaN,or_false] at hc; rcases hc with rfl | rfl; exact b14; exact b13)
 have hgp:∀ c∈([g14,g13]:List Nat),c<W6.heap.size:=(fun c hc=>by simp only [zaM,zaN,or_false] at hc; rcases hc with rfl | rfl; exact Qaq r14_6; exact Qaq r13_6)
 refine Qh0 (gf:=73) (lb:=#[pp gp1 0,pp gp2 0]) (enc:=fun x:Nat=>.int .i64 (number+(x:Int))) (enc2:=fun x:Nat=>.agg (ints .u8 (Qbu (Qbb key nonce) (number+(x:Int))))) kj (enters_of Tryz.func73 kj rfl) (QgK 2 [g14,g13] gp1 gp2 (Qbb key nonce) number r tq W7 hr h1 h2 (Qd1 _ _) (Qaa r1_6 e7) rp1 rp2 (fun hm=>by have:=hgp _ hm; omega) (fun hm=>by have:=hgp _ hm; omega) (fun hm=>by have h1:=hgs _ hm; have h2:=Qaq hq; omega)) (fun h k=>QbP.trans h k) QbP.book (Below.refl _ _)
   (fun pre W=>((W.heap[g5]? = some (.cells (#[.slice a_t text.length c_t]) 41))∧(W.heap[g14]? = some (.cells (#[.slice (some ⟨g13,0,none⟩) (64*pre.length) text.length]) 41))∧(W.heap[g13]? = some (.cells (ints .u8 (fillL (mxv text (Qbb key nonce) number (pg pre) text.length) text.length (64*pre.length))) 5))∧64*pre.length≤text.length∧W7.heap.size≤W.heap.size)∧Ext w W)
   (fun c pre W=>(c=.exit 0∧text.length≤64*pre.length∧(W.heap[g14]? = some (.cells (#[.slice (some ⟨g13,0,none⟩) (text.length) text.length]) 41))∧(W.heap[g13]? = some (.cells (ints .u8 (fillL (mxv text (Qbb key nonce) number (pg pre) text.length) text.length (text.length))) 5)))∧Ext w W) (OwnFrom.and (Own.from (fun s A B row hs hg hr=>⟨QbH hs.1 hg hr,QbH hs.2.1 hg hr,QbH hs.2.2.1 hg hr,hs.2.2.2.1,qT hs.2.2.2.2 hg.size⟩) _) (ownFrom_below (qR _) x7.size)) (fun c=>OwnFrom.and (Own.from (fun s A B row hs hg hr=>⟨hs.1,hs.2.1,QbH hs.2.2.1 hg hr,QbH hs.2.2.2 hg hr⟩) _) (ownFrom_below (qR _) x7.size)) ⟨⟨r5_7,r14_7,Qa9 r13_7 (fillL_zero _ _),zaw _,qR _⟩,x7⟩ (fun e=>QbP.ext e) (fun pre A B h e=>⟨⟨Qaa h.1.1 e,Qaa h.1.2.1 e,Qaa h.1.2.2.1 e,h.1.2.2.2.1,qT h.1.2.2.2.2 e.size⟩,zbm h.2 e⟩) (fun pre W h=>h.1.2.2.2.2) (fun x g=>[(14,pp g 0),(42,.agg (ints .u8 (Qbu (Qbb key nonce) (number+(x:Int))))),(41,.int .i64 (number+(x:Int)))]) (fun x=>ints .u8 (Qbu (Qbb key nonce) (number+(x:Int)))) 120 (fun l x W K hK=>?_) (fun l pre x gP Wr hgP hI rP hp=>?_) (fun D ys W lD hS hI rD=>?_) (fun D c pre W lD hSp hIx rD=>?_)
 ·skip
  refine Qbz <| Qit (ints .u8 (zac 64 0)) 120 14 rfl (QaX l 1 _) rfl kj kj fun g301 W1 l301 e1 r301_1=>?_
  have x1:=zbp (zbl W) e1
  refine QeO g301 _ (ints .u8 (Qbu (Qbb key nonce) (number+(x:Int)))) 120 r301_1 rfl (QaX l 1 _) rfl kj (Qaf 120 _ _ g301 120 _ _ r301_1 rfl kj kj (isz (n:=64) kj (izT (QbN _ _))) (eqsz (n:=64) (izT (qZ (n:=64))) (izT (QbN _ _))) (Qat _ _)) fun W2 p2 r301_2=>?_
  have x2:=zbo p2 x1 (qT (zbl W).size l301)
  refine QcM ?_
  exact hK _ _ l301 (zbo p2 (zbm (zbl W) e1) l301) r301_2
 ·skip
  obtain ⟨⟨q7,q12,qO,hml,hsz⟩,xx⟩:=hI
  replace qO:=Qa9 qO (Qnk text (Qbb key nonce) number pre x text.length)
  have hl1:(pre++[x]).length=pre.length+1:=by simp
  have n147:gP≠g5:=by have h1:=Qaq r5_7; omega
  have n1412:gP≠g14:=by have h1:=Qaq r14_7; omega
  have n14O:gP≠g13:=by have h1:=Qaq r13_7; omega
  refine wpIn_block <| wpIn_seq_k fun K505 hK505=>Qbz <| QbE (.agg (ints .u8 (Qbu (Qbb key nonce) (number+(x:Int))))) 43 rfl (QaX l 1 _) rfl kj (Qae 120 _ gP 120 _ _ rP rfl kj kj (isz (n:=64) kj (izT (QbN _ _)))) <| QbE (.int .i64 0) 44 rfl (QaX l 1 _) rfl kj kj <| QcM <| hK505 _ _ <| wpIn_block <| Qh8 (fun (s1:Nat)=>[(7,pp g5 0),(12,pp g14 0),(43,.agg (ints .u8 (Qbu (Qbb key nonce) (number+(x:Int))))),(44,.int .i64 (s1:Int))]) (fun (s1:Nat) W=>(s1≤64)∧(64*pre.length+s1≤text.length)∧(W.heap[g14]? = some (.cells (#[.slice (some ⟨g13,0,none⟩) (64*pre.length+s1) text.length]) 41))∧(W.heap[g13]? = some (.cells (ints .u8 (fillL (mxv text (Qbb key nonce) number (pg (pre++[x])) text.length) text.length (64*pre.length+s1))) 5))∧(Qai [g14,g13] Wr W)∧(Ext w W)) (fun (s1:Nat)=>64-s1) 0 ⟨rfl,rfl,rfl,rfl,trivial⟩ ⟨(zaw _),oo,q12,qO,(zbx [g14,g13] Wr),xx⟩ fun s1 X1 V1 hI1=>?_
  obtain ⟨j,hs1⟩:∃ z,z=s1:=⟨_,rfl⟩
  subst hs1
  obtain ⟨hj,hmj,q503_1,q501_1,kk1,xx1⟩:=hI1
  replace hj:j≤64:=hj
  replace hmj:64*pre.length+j≤text.length:=hmj
  replace q503_1:V1.heap[g14]? = some (.cells (#[.slice (some ⟨g13,0,none⟩) (64*pre.length+j) text.length]) 41):=q503_1
  replace q501_1:V1.heap[g13]? = some (.cells (ints .u8 (fillL (mxv text (Qbb key nonce) number (pg (pre++[x])) text.length) text.length (64*pre.length+j))) 5):=q501_1
  replace kk1:Qai [g14,g13] Wr V1:=kk1
  replace xx1:Ext w V1:=xx1
  have q1:=kk1
  refine wpIn_seq_k fun K506 hK506=>Qbz <| QbE (.bool (decide ((j:Int)<64))) 45 rfl (QaX l 1 _) rfl kj kj <| QcM <| hK506 _ _ <| wpIn_seq_k fun K507 hK507=>Qdf (t:=decide ((j:Int)<64)) kj (fun c508=>?_) (fun c508=>?_)
  ·skip
   have hlt45:j<64:=by have:=of_decide_eq_true c508; omega
   refine wpIn_skip <| hK507 _ _ <| wpIn_seq_k fun K509 hK509=>wpIn_block <| wpIn_seq_k fun K510 hK510=>Qbz <| QbE (.int .u8 (nth (Qbu (Qbb key nonce) (number+(x:Int))) j)) 46 rfl (QaX l 1 _) rfl kj (QaE 120 _ _ .i64 .u8 (Qbu (Qbb key nonce) (number+(x:Int))) j 64 5 (nth (Qbu (Qbb key nonce) (number+(x:Int))) j) rfl kj kj kj kj kj (QbN _ _) oo rfl) <| QbE (.int .u8 (nth (Qbu (Qbb key nonce) (number+(x:Int))) j)) 16 rfl (QaX l 1 _) rfl kj kj <| QcM <| hK510 _ _ ?_
   refine wpIn_seq_k fun K511 hK511=>wpIn_seq_k fun K512 hK512=>Qbz <| QbE (.slice (some ⟨g13,0,none⟩) (64*pre.length+j) text.length) 47 rfl (QaX l 1 _) rfl kj (Qab 41 _ g14 0 41 _ (.slice (some ⟨g13,0,none⟩) (64*pre.length+j) text.length) _ q503_1 rfl kj kj kj) <| QbE (.int .i64 ((64*pre.length+j:Nat):Int)) 48 rfl (QaX l 1 _) rfl kj kj ?_
   have r502_1:=(zby q1 q7 (Qaw nb712 (Qaw nb7O QaF)))
   refine QbE (.slice a_t text.length c_t) 49 rfl (QaX l 1 _) rfl kj (Qab 41 _ g5 0 41 _ (.slice a_t text.length c_t) _ r502_1 rfl kj kj kj) <| QbE (.int .i64 (text.length:Int)) 50 rfl (QaX l 1 _) rfl kj kj <| QbE (.bool ((((64*pre.length+j:Nat):Int)==(text.length:Int)))) 51 rfl (QaX l 1 _) rfl kj kj <| QcM <| hK512 _ _ <| Qdf (t:=(((64*pre.length+j:Nat):Int)==(text.length:Int))) kj (fun c513=>?_) (fun c513=>?_)
   ·skip
    have hmn:64*pre.length+j=text.length:=by have:=eq_of_beq c513; omega
    refine wpIn_exit ?_
    repeat (first | with_reducible refine goX1 ?_ | with_reducible refine goXj dd ?_)
    have hq12:=q503_1
    have hqO:=q501_1
    rw [hmn] at hq12 hqO
    exact ⟨(Qe8 q1 (fun c hc=>by simp only [zaM,zaN,or_false] at hc; rcases hc with rfl | rfl; exact ⟨_,_,q12⟩; exact ⟨_,_,qO⟩)),⟨rfl,by rw [hl1]; omega,hq12,hqO⟩,xx1⟩
   ·skip
    have hmn:64*pre.length+j<text.length:=by
     rcases za3 (64*pre.length+j) text.length with hh | hh
     ·exact hh
     ·exfalso; have e:(((64*pre.length+j:Nat):Int)==(text.length:Int))=true:=by rw [beq_iff_eq]; omega
      rw [e] at c513; cases c513
    obtain ⟨gt,ot,hat,-,hlt_,hct⟩:=Qe6 (RdK.ext ht xx1) oo
    refine wpIn_skip <| hK511 _ _ <| Qjg 9 [⟨none,[(12,none)]⟩,⟨none,[(7,none)]⟩,⟨none,[(12,none)]⟩,⟨none,[(54,some 2)]⟩,⟨none,[(53,some 1),(55,some 3)]⟩,⟨none,[(56,some 4)]⟩,⟨none,[(16,none)]⟩,⟨none,[(57,some 5),(58,some 6)]⟩,⟨none,[(59,some 7)]⟩] (QaX l 1 _) rfl kj kj fun F hF=>QaN (Qam _) (.slice (some ⟨g13,0,none⟩) (64*pre.length+j) text.length) kj kj (fun W hR=>(Qab 41 _ g14 0 41 _ (.slice (some ⟨g13,0,none⟩) (64*pre.length+j) text.length) _ (Qaa (Qaa q503_1 (Qan _)) hR) rfl kj kj kj)) <| QaN (Qam _) (.slice a_t text.length c_t) kj kj (fun W hR=>(Qab 41 _ g5 0 41 _ (.slice a_t text.length c_t) _ (Qaa (Qaa r502_1 (Qan _)) hR) rfl kj kj kj)) <| QaN (Qam _) (.slice (some ⟨g13,0,none⟩) (64*pre.length+j) text.length) kj kj (fun W hR=>(Qab 41 _ g14 0 41 _ (.slice (some ⟨g13,0,none⟩) (64*pre.length+j) text.length) _ (Qaa (Qaa q503_1 (Qan _)) hR) rfl kj kj kj)) <| Qa2 (Qam _) (.int .i64 ((64*pre.length+j:Nat):Int)) kj kj (fun _=>kj) <| Qa2 (Qam _) (pp gt (ot+(64*pre.length+j))) kj kj (fun W=>(QaP 41 _ _ .i64 (64*pre.length+j) gt ot text.length c_t 5 a_t _ hat rfl rfl kj kj kj kj (zav (show 64*pre.length+j<text.length by omega) (rfl:text.length=text.length).symm))) <| QaN (Qam _) (.int .u8 (nth (text) ((64*pre.length+j)))) kj kj (fun W hR=>(QaB 5 _ _ (.int .u8 (nth (text) ((64*pre.length+j)))) ((Below.cell (zbm (Qan _) hR) hlt_).trans (hct (64*pre.length+j) (zav (show 64*pre.length+j<text.length by omega) (rfl:text.length=text.length).symm))) rfl kj kj)) <| Qa2 (Qam _) (.int .u8 (nth (Qbu (Qbb key nonce) (number+(x:Int))) j)) kj kj (fun _=>kj) ?_
    refine Qa2 (Qam _) (.int .u8 (bits .xor .u8 ((nth (text) ((64*pre.length+j)))) ((nth (Qbu (Qbb key nonce) (number+(x:Int))) j)))) kj kj (fun _=>kj) <| QkF (Qam _) (ints .u8 ([(bits .xor .u8 ((nth (text) ((64*pre.length+j)))) ((nth (Qbu (Qbb key nonce) (number+(x:Int))) j)))])) 5 1 (NewS.stable _ _ _ _) kj kj (fun _=>kj) <| Qc3 (hF _ fun W2 e2=>?_)
    simp only [zax,zay,za0,zaf,za1,za2,finE,up]
    intro vv514 hv514
    clear hF
    have x2:=zbp xx1 e2
    obtain ⟨g514,rfl,l514,r514_2⟩:=hv514
    have b514:=qT xx1.size l514
    have r501_2:=(Qaa q501_1 e2)
    refine Qnx (.slice (some ⟨g13,0,none⟩) (64*pre.length+j+1) text.length) 61 rfl (QaX l 1 _) rfl kj r501_2 (QgE (k:=.u8) (b:=1) (.tmp 52) (.tmp 60) 41 rfl kj kj kj kj r501_2 (fillL_len _ _ _ (QdG _ _ _ _ _) oo) oo r514_2) fun W3 p3 r501_3=>?_
    have x3:=zbo p3 x2 b13
    have r501_3_515:W3.heap[g13]? = some (.cells (ints .u8 (fillL (mxv text (Qbb key nonce) number (pg (pre++[x])) text.length) text.length (64*pre.length+(j+1)))) 5):=Qa9 r501_3 (by rw [←Qo6 text (Qbb key nonce) number pre x text.length j hlt45 hmn]; exact fillL_step _ text.length (64*pre.length+j) (QdG _ _ _ _ _) hmn)
    have r503_3:=(zbn p3 (Qaa q503_1 e2) nb12O)
    refine QeO g14 _ (#[.slice (some ⟨g13,0,none⟩) (64*pre.length+j+1) text.length]) 41 r503_3 rfl (QaX l 1 _) rfl kj (Qbj 41 _ _ g14 0 41 _ (.slice (some ⟨g13,0,none⟩) (64*pre.length+j+1) text.length) r503_3 rfl kj kj kj kj kj rfl) fun W4 p4 r503_4=>?_
    have x4:=zbo p4 x3 b14
    refine QcM <| hK509 _ _ <| Qbz <| QbE (.int .i64 ((j+1:Nat):Int)) 62 rfl (QaX l 1 _) rfl kj (Qac (u:=.int .i64 (zaz.wrap ((j:Int)+1))) kj (congrArg (zau .i64) (i64n _ _ oo oo))) <| QbE (.int .i64 ((j+1:Nat):Int)) 44 rfl (QaX l 1 _) rfl kj kj <| QcM ?_
    with_reducible repeat first | refine goX1 ?_ | refine goX2 ?_ | refine goX3 ?_
    exact Qa1 (j+1) ⟨kj,kj,kj,kj,trivial⟩ ⟨oo,oo,r503_4,(zbn p4 r501_3_515 nbO12),(zb0 (zb0 (zbz q1 e2) p3 (.inl (by simp))) p4 (.inl (by simp))),x4⟩ (by show 64-(j+1)<64-j; omega)
  ·skip
   have heq45:j=64:=by have:=of_decide_eq_false c508; omega
   refine wpIn_exit ?_
   subst heq45
   with_reducible repeat first | refine goX1 ?_ | refine goX2 ?_ | refine goX3 ?_
   have r502_1:=(zby q1 q7 (Qaw nb712 (Qaw nb7O QaF)))
   exact ⟨(Qe8 q1 (fun c hc=>by simp only [zaM,zaN,or_false] at hc; rcases hc with rfl | rfl; exact ⟨_,_,q12⟩; exact ⟨_,_,qO⟩)),(QbP.keeps q1),⟨r502_1,by rw [hl1,Nat.mul_add]; exact q503_1,by rw [hl1,Nat.mul_add]; exact q501_1,by rw [hl1]; omega,qT hsz (qT (qR _) (Qai.size q1))⟩,xx1⟩
 ·obtain ⟨⟨-,q12,qO,hml,-⟩,xx⟩:=hI
  subst hS
  rw [zan] at q12 qO hml
  have hge:text.length≤64*r:=by omega
  have hee:64*r=text.length:=by omega
  rw [hee] at q12 qO
  have qO2:=Qa9 (Qa9 qO (fillL_full _ _ (QdG _ _ _ _ _))) (Qkc text (Qbb key nonce) number r hge)
  have bD:w.heap.size≤D:=qT x7.size lD
  refine hK16 _ _ <| sgC fun K20 hK20=>sv (.slice (some ⟨g13,0,none⟩) text.length text.length) 63 (Qab 41 _ g14 0 41 _ (.slice (some ⟨g13,0,none⟩) text.length text.length) _ q12 rfl kj kj kj) <| sg 2 kj <| sgN hK20 <| wp_ret ?_
  with_reducible repeat first | refine goR1 ?_ | refine goR2 ?_
  exact (show bodyPostM _ _ _ _ _ .ret _ _ from QmP (.slice (some ⟨g13,0,none⟩) text.length text.length) (.nilIface) rfl rD (Qax kj) (Qax kj) ⟨_,rfl,Qgf xx bD rD _,_,rfl,Qb3 (QbW _ _ _) b13 (Qge qO2 rD _) (by simp only [maxLen]; omega)⟩)
 ·obtain ⟨⟨rfl,hge,q12,qO⟩,xx⟩:=hIx
  obtain ⟨kR,rfl,-⟩:=hSp
  rw [zan] at hge
  have qO2:=Qa9 (Qa9 qO (fillL_full _ _ (QdG _ _ _ _ _))) (Qkc text (Qbb key nonce) number kR hge)
  have bD:w.heap.size≤D:=qT x7.size lD
  refine wp_exit <| hK16 _ _ <| sgC fun K22 hK22=>sv (.slice (some ⟨g13,0,none⟩) text.length text.length) 63 (Qab 41 _ g14 0 41 _ (.slice (some ⟨g13,0,none⟩) text.length text.length) _ q12 rfl kj kj kj) <| sg 2 kj <| sgN hK22 <| wp_ret ?_
  with_reducible repeat first | refine goR1 ?_ | refine goR2 ?_
  exact (show bodyPostM _ _ _ _ _ .ret _ _ from QmP (.slice (some ⟨g13,0,none⟩) text.length text.length) (.nilIface) rfl rD (Qax kj) (Qax kj) ⟨_,rfl,Qgf xx bD rD _,_,rfl,Qb3 (QbW _ _ _) b13 (Qge qO2 rD _) (by simp only [maxLen]; omega)⟩)
end Cha
end
section
namespace Sha
open Go Go.RowKit
open Rely Auto Own
section
variable {P : Program} {ρ : Operand → Value} {o : Oper} {w : World}
theorem QiO (t : TypeId) (x z:Operand) (h:Nat) (e:TypeId) (ho:o.op=.slice t x none (some z) none) {a:Option Addr} {len cap:Nat} (hx:ρ x=.slice a len cap)
    (hu:P.underlying t=some (.slice e)) (hs:(P.info? e).map (·.size)=some 1) (kz:IntKind) (hz:ρ z=.int kz (h:Int)) (h2:h≤cap) :
    (execOp ρ o).run P w=.ok (.value (.slice a h cap)) w:=by
  cases hq:P.info? e with
  | none=>simp [hq] at hs
  | some i =>
    have hs':i.size=1:=by simpa [hq] using hs
    unfold execOp
    have hadd:∀ a:Option Addr,Option.map (fun x=>x.add 0) a=a:=fun a=>by
      cases a with
      | none=>rfl
      | some a=>obtain ⟨b,o,s⟩:=a; cases s <;> simp [Addr.add]
    simp [ho,hx,hz,Instr.sliceAt,Instr.slice,Instr.sliceBounds,run_sliceBound,run_underlying hu,sizeOf,typeInfo,hq,hs',h2,hadd]
end
section
variable {ds : List Deferred} {P : Program} {ops : Array Oper} {Q : Exit → Act → World → Prop} {rest : List Oper} {o : Oper} {N : Nat} {L : Env} {w : World}
end
def QpQ (T : TypeId) (base:Nat) (t:List Int) (v:Value) (W:World):Prop:=∃ g c,v=.slice (some ⟨g,0,none⟩) t.length c∧OwnN .u8 T base (t++[165,90]) (.slice (some ⟨g,0,none⟩) (t++[165,90]).length c) W
def Qfd (a : Option Addr) (c l:Nat):Option Addr:=if c=l then a else a.map fun z=>z.add l
theorem Qel {P : Program} {ρ:Operand→Value} {o:Oper} {w:World} (t:TypeId) (x z:Operand) (l:Nat) (e:TypeId) (ho:o.op=.slice t x (some z) none none) {a:Option Addr} {len cap:Nat} (hx:ρ x=.slice a len cap)
    (hu:P.underlying t=some (.slice e)) (hs:(P.info? e).map (·.size)=some 1) (kz:IntKind) (hz:ρ z=.int kz (l:Int)) (h1:l≤len) (h2:len≤cap) :
    (execOp ρ o).run P w=.ok (.value (.slice (Qfd a cap l) (len-l) (cap-l))) w:=by
  cases hq:P.info? e with
  | none=>simp [hq] at hs
  | some i =>
    have hs':i.size=1:=by simpa [hq] using hs
    unfold execOp Qfd
    have hadd:∀ a:Option Addr,Option.map (fun x=>x.add 0) a=a:=fun a=>by
      cases a with
      | none=>rfl
      | some a=>obtain ⟨b,o,s⟩:=a; cases s <;> simp [Addr.add]
    by_cases hc:cap=l
    · simp [ho,hx,hz,Instr.sliceAt,Instr.slice,Instr.sliceBounds,run_sliceBound,run_underlying hu,sizeOf,typeInfo,hq,hs',h1,h2,hadd,hc]
    · simp [ho,hx,hz,Instr.sliceAt,Instr.slice,Instr.sliceBounds,run_sliceBound,run_underlying hu,sizeOf,typeInfo,hq,hs',h1,h2,hadd,hc]
theorem Qgd {k : IntKind} {B n c:Nat} {ys:List Int} {a:Option Addr} {W:World} (h:RdK k B ys (.slice a n c) W) (l:Nat) (hl:l≤ys.length):RdK k B (ys.drop l) (.slice (Qfd a c l) (n-l) (c-l)) W:=by
  obtain ⟨a',cap,e,h2,h3,h4,h5⟩:=h
  simp only [za5.injEq] at e
  obtain ⟨rfl,rfl,rfl⟩:=e
  refine ⟨_,_,by rw [zaO],by rw [zaO]; omega,by omega,?_,?_⟩
  · intro e
    unfold Qfd at e
    split at e
    · omega
    · have:=h4 (by cases a <;> simp_all); omega
  · rcases h5 with h5 | ⟨g,o,rfl,q2,q3,q4⟩
    · left; rw [h5]; simp
    · rcases za3 l ys.length with hlt | hge
      · right
        refine ⟨g,o+l,?_,q2,q3,fun i hi=>?_⟩
        · unfold Qfd
          rw [if_neg oo,zas]
          simp [Addr.add]
        · rw [zaO] at hi
          rw [Nat.add_assoc,q4 (l+i) oo]
          simp [nth]
      · left; exact zaE hge
theorem QhX {k : IntKind} {B n c:Nat} {ys:List Int} {a:Option Addr} {W:World} (h:RdK k B ys (.slice a n c) W) (l:Nat) (hl:l≤ys.length):RdK k B (ys.take l) (.slice a l c) W:=by
  obtain ⟨a',cap,e,h2,h3,h4,h5⟩:=h
  simp only [za5.injEq] at e
  obtain ⟨rfl,rfl,rfl⟩:=e
  have hlen:(ys.take l).length=l:=by rw [zae]; omega
  refine ⟨_,_,by rw [hlen],by omega,h3,h4,?_⟩
  rcases h5 with rfl | ⟨g,off,rfl,q2,q3,q4⟩
  · exact .inl (by simp)
  · refine .inr ⟨g,off,rfl,q2,q3,fun i hi=>?_⟩
    rw [hlen] at hi
    rw [q4 i oo]
    simp [nth,zaP,hi]
end Sha
end
section
namespace Cha
open Go Go.RowKit
open Rely Auto Own Sha
open Sha
theorem QkO (x y:Int):bits .xor .u8 x y=(((zat 8 x)^^^(zat 8 y)).toNat:Int):=by
  have h:bits .xor .u8 x y=zao.wrap (((zat 8 x)^^^(zat 8 y)).toNat:Int):=rfl
  have h3:∀ z:Int,zao.wrap z=z%256:=fun _=>rfl
  rw [h,h3]
  have:=((zat 8 x)^^^(zat 8 y)).isLt
  omega
theorem Qey (a b:Int) (h0:0≤a) (h1:a≤255):bits .xor .u8 (bits .xor .u8 a b) b=a:=by
  rw [QkO,QkO]
  have e:zat 8 (((zat 8 a)^^^(zat 8 b)).toNat:Int)=(zat 8 a)^^^(zat 8 b):=by
    apply BitVec.eq_of_toNat_eq
    rw [zaQ]
    have:=((zat 8 a)^^^(zat 8 b)).isLt
    omega
  rw [e,BitVec.xor_assoc,BitVec.xor_self,BitVec.xor_zero,zaQ]
  omega
theorem QfL (ws : List Wd) (num:Int) (text:List Int):Qak (mixV ws num text):=fun n hn=>by
  unfold mixV mxv at hn
  obtain ⟨i,-,rfl⟩:=List.mem_map.1 hn
  rw [QkO]
  have:=((zat 8 (nth text i))^^^(zat 8 (nth (Qbu ws (num+((id (i/64):Nat):Int))) (i%64)))).isLt
  omega
theorem Qik (ws : List Wd) (num:Int) (text:List Int) (i:Nat) (h:i<text.length):nth (mixV ws num text) i=bits .xor .u8 (nth text i) (nth (Qbu ws (num+((i/64:Nat):Int))) (i%64)):=Qkb text ws num id text.length i h
theorem Qng {xs ys:List Int} (hl:xs.length=ys.length) (h:∀ i,i<xs.length→nth xs i=nth ys i):xs=ys:=by
  apply List.ext_getElem? 
  intro i
  rcases za3 i xs.length with hi | hi
  · have h1:=h i hi
    unfold nth at h1
    rw [zap,zap,zak hi,zak oo] at h1
    rw [zak hi,zak oo]
    exact congrArg some h1
  · rw [za4 hi,za4 oo]
theorem Qnp (ws : List Wd) (num:Int) (text:List Int) (hb:Qak text):mixV ws num (mixV ws num text)=text:=by
  refine Qng (by rw [QbW,QbW]) fun i hi=>?_
  rw [QbW,QbW] at hi
  rw [Qik _ _ _ _ (by rw [QbW]; exact hi),Qik _ _ _ _ hi]
  have h:=Qbl hb i
  exact Qey _ _ oo oo
theorem Qgm (xs : List Int) (k i:Nat) (h:i<k):nth (xs.take k) i=nth xs i:=by
  unfold nth; rw [zap,zap,zaP,if_pos h]
theorem Qih (xs : List Int) (k i:Nat):nth (xs.drop k) i=nth xs (k+i):=by
  unfold nth; rw [zap,zap,List.getElem?_drop]
def MixR (base : Nat) (xs:List Int):Value→World→Prop:=fun v W=>∃ u,v=.tuple #[u,.nilIface]∧OwnN .u8 5 base xs u W
theorem Qfl (base : Nat) (xs:List Int):Qb2 Ext (MixR base xs):=fun _ _ _ hR ⟨u,e,h⟩=>⟨u,e,h.ext hR⟩
theorem MixG (n0 : Nat) (key nonce text:List Int) (v v2:Value) (B B2:Nat) (number:Int) (th tq:TypeId) (w:World) (hh:w.heap[0]? = some (.cells (ints .u32 qH) th)) (hq:w.heap[1]? = some (.cells (ints .i64 qQ) tq)) (hkl:key.length=32) (hn:RdK .u8 B nonce v w) (ht:RdK .u8 B2 text v2 w) (h:nonce.length=12) (r:Nat) (hr:number+(r:Int)=4294967296) (h1:0≤number) (h2:number≤4294967295) (hfit:text.length≤64*r) (htl:text.length≤2000000) (hn0:n0≤w.heap.size) :
    Calls Tryz.prog 38 #[.agg (ints .u8 key),v,.int .i64 number,v2] w (Qby w (MixR n0 (mixV (Qbb key nonce) number text))) :=
  (QpM key nonce text v v2 B B2 number th tq w hh hq hkl hn ht h r hr h1 h2 hfit htl).mono fun e W' hg=>by
    obtain ⟨v',e1,e2,u,e3,e4⟩:=hg
    exact ⟨v',e1,e2,u,e3,e4.base hn0⟩
end Cha
end
section
namespace Ae
open Go Go.RowKit
open Rely Auto Own Sha Cha
def lev : List Int→Int
  | []=>0
  | a::t=>a+256*lev t
def p256 (n : Nat):Int:=256^n
theorem Qmt : p256 0=1:=rfl
theorem QdT (n : Nat):p256 (n+1)=256*p256 n:=by unfold p256; rw [Int.pow_succ,Int.mul_comm]
theorem Qd3 (m n:Nat):p256 (m+n)=p256 m*p256 n:=by unfold p256; rw [Int.pow_add]
theorem Qde (n : Nat):0<p256 n:=Int.pow_pos dd
theorem Qgr : ∀ (xs:List Int) (x:Int),lev (xs++[x])=lev xs+x*p256 xs.length
  | [],x=>by simp [lev,Qmt]
  | a::t,x=>by
    rw [zay,lev,Qgr t x,lev,zaR,QdT]
    grind
theorem QcX : ∀ {xs:List Int},Qak xs→0≤lev xs
  | [],_=>by simp [lev]
  | a::t,h=>by
    have h1:=h a (zaS ..)
    have h2:=QcX (xs:=t) fun x hx=>h x (zaT _ hx)
    rw [lev]; omega
theorem QgY : ∀ {xs:List Int},Qak xs→lev xs<p256 xs.length
  | [],_=>by simp [lev,Qmt]
  | a::t,h=>by
    have h1:=h a (zaS ..)
    have h2:=QgY (xs:=t) fun x hx=>h x (zaT _ hx)
    rw [lev,zaR,QdT]; omega
theorem QdW (xs : List Int) (i:Nat) (h:i<xs.length):lev (xs.take (i+1))=lev (xs.take i)+nth xs i*p256 i:=by
  have e:xs.take (i+1)=xs.take i++[nth xs i]:=by
    rw [zaj,zak h]
    simp [nth,h]
  rw [e,Qgr,zae,zaU oo]
theorem bytes_app {a b:List Int} (ha:Qak a) (hb:Qak b):Qak (a++b):=fun x hx=>by
  rcases List.mem_append.1 hx with h | h
  · exact ha x h
  · exact hb x h
theorem Qbg {a : List Int} (ha:Qak a) (n:Nat):Qak (a.take n):=fun x hx=>ha x (List.mem_of_mem_take hx)
theorem QbC {a : List Int} (ha:Qak a) (n:Nat):Qak (a.drop n):=fun x hx=>ha x (List.mem_of_mem_drop hx)
theorem QbS {a : List Int} (ha:Qak a) (n:Nat) {x:Int} (h0:0≤x) (h1:x≤255):Qak (a.set n x):=fun y hy=>by
  rcases List.mem_or_eq_of_mem_set hy with h | h
  · exact ha y h
  · subst h; exact ⟨h0,h1⟩
def PP : Int:=1361129467683753853853498429727072845819
def Qdu (r : Int) (t:List Int):Nat→Int
  | 0=>0
  | n+1=>(Qdu r t n+lev (((t.drop (16*n)).take 16)++[1]))*r%PP
def QdC (r : Int) (t:List Int):Int:=Qdu r t ((t.length+15)/16)
def by16 (v : Int):List Int:=(zam 16).map fun i=>v/p256 i%256
def tagV (r s:Int) (t:List Int):List Int:=by16 (QdC r t+s)
theorem QaV (v : Int):(by16 v).length=16:=by simp [by16]
theorem Qjn (v : Int):Qak (by16 v):=fun x hx=>by
  obtain ⟨i,-,rfl⟩:=List.mem_map.1 hx
  omega
theorem Qmb (v : Int) (i:Nat) (h:i<16):nth (by16 v) i=v/p256 i%256:=by
  unfold nth by16
  rw [zap,zaq,zar h]; rfl
end Ae
end
section
namespace Ae
open Go Go.RowKit
open Rely Auto Own Sha
open Sha Cha
theorem QeX (b : List Int) (i:Nat) (h:i<b.length):b.take (i+1)=b.take i++[nth b i]:=by
  rw [zaj,zak h]
  simp [nth,h]
theorem p16 : p256 16=340282366920938463463374607431768211456:=by decide +kernel
theorem QjK {k : IntKind} {T:TypeId} {g n l h:Nat} {xs:List Int} {W:World} (hn:xs.length=n) (r:W.heap[g]? = some (.cells (ints k xs) T)) (h1:l≤h) (h2:h≤n) (h3:n≤maxLen):RdK k W.heap.size ((xs.drop l).take (h-l)) (.slice (some ⟨g,l,none⟩) (h-l) (n-l)) W :=
  Qeq l (by rw [zae,zaO]; omega) r (fun i hi=>by rw [Qgm _ _ _ hi,Qih]; exact QaD k xs (l+i) oo) (Qaq r) oo oo
def QeB (b : List Int):List Int :=
  let b1:=b.set 3 (nth b 3%16)
  let b2:=b1.set 7 (nth b1 7%16)
  let b3:=b2.set 11 (nth b2 11%16)
  let b4:=b3.set 15 (nth b3 15%16)
  let b5:=b4.set 4 (nth b4 4/4*4)
  let b6:=b5.set 8 (nth b5 8/4*4)
  b6.set 12 (nth b6 12/4*4)
def rOf (key : List Int):Int:=lev (QeB ((key.drop 0).take (16-0)))
def sOf (key : List Int):Int:=lev ((key.drop 16).take (32-16))
theorem Qf8 {x c r q y:Int} (h:x%PP=q) (hy:y%PP=(x+c)*r%PP):y%PP=(q+c)*r%PP:=by
  rw [hy,←h,Int.mul_emod (x+c),Int.add_emod x c,Int.mul_emod (x%PP+c),Int.add_emod (x%PP) c,Int.emod_emod_of_dvd x (Int.dvd_refl PP)]
end Ae
end
section
namespace Ae
open Go Go.RowKit
open Rely Auto Own Sha
open Sha Cha
def isW (x : Int):Prop:=0≤x∧x<18446744073709551616
theorem QcG (x y c:Int) (hx:isW x) (hy:isW y) (hc:0≤c∧c≤1) :
    ∃ s d:Int,isW s∧(0≤d∧d≤1)∧s+18446744073709551616*d=x+y+c ∧
      ∀ W,(callFunc 95 #[.int .u64 x,.int .u64 y,.int .u64 c]).run Tryz.prog W=.ok (.value (.tuple #[.int .u64 s,.int .u64 d])) W:=by
  unfold isW at hx hy
  refine ⟨(x+y+c)%18446744073709551616,(x+y+c)/18446744073709551616,⟨by omega,by omega⟩,by omega,by omega,fun W=>?_⟩
  rw [run_callFunc_extern Tryz.func95 kj kj kj (e:=add64Entry) kj,run_add64 x y c hx.1 hy.1 hc.1 hc.2]
  rfl
theorem maskN (a : Int) (h:isW a):bits .and .u64 a 4294967295=a%4294967296:=by
  obtain ⟨A,rfl⟩:=zaV h.1
  have h:=bits_and_u64_nat A 4294967295 (by have:=h.2; omega) oo
  have e:A&&&4294967295=A%4294967296:=zaW A 32
  rw [e] at h
  exact h
theorem Qjt (a : Int) (h:isW a):zaX.wrap a=a:=by rw [IntKind.wrap_u64]; have:=h.1; have:=h.2; omega
theorem Qke (x y:Int) (hx:isW x) (hy:isW y) :
    ∃ hi lo:Int,isW hi∧isW lo∧lo+18446744073709551616*hi=x*y∧∀ w,Calls Tryz.prog 103 #[.int .u64 x,.int .u64 y] w (fun e w'=>e=.returned (.tuple #[.int .u64 hi,.int .u64 lo])∧w'=w):=by
  obtain ⟨X,rfl⟩:=zaV hx.1
  obtain ⟨Y,rfl⟩:=zaV hy.1
  have hX:X<18446744073709551616:=by have:=hx.2; omega
  have hY:Y<18446744073709551616:=by have:=hy.2; omega
  have hXY:X*Y<18446744073709551616*18446744073709551616:=Nat.mul_lt_mul'' hX hY
  refine ⟨((X*Y/18446744073709551616:Nat):Int),((X*Y%18446744073709551616:Nat):Int),⟨by omega,by omega⟩,⟨by omega,by omega⟩,?_,fun w=>?_⟩
  · rw [←zaY]; omega
  obtain ⟨bd,bt,bw,hhi⟩:=Lib.mul64_hi X Y hX hY
  have ba:=Lib.half_mul_le (a:=X/4294967296) (b:=Y/4294967296) oo oo
  have bb:=Lib.half_mul_le (a:=X/4294967296) (b:=Y%4294967296) oo oo
  have bc:=Lib.half_mul_le (a:=X%4294967296) (b:=Y/4294967296) oo oo
  have ba':X/4294967296*(Y/4294967296)<18446744073709551616:=by omega
  have bb':X/4294967296*(Y%4294967296)<18446744073709551616:=by omega
  have bc':X%4294967296*(Y/4294967296)<18446744073709551616:=by omega
  have bh1:X/4294967296*(Y/4294967296)+(X/4294967296*(Y%4294967296)+X%4294967296*(Y%4294967296)/4294967296)/4294967296<18446744073709551616:=by omega
  have bh:X/4294967296*(Y/4294967296)+(X/4294967296*(Y%4294967296)+X%4294967296*(Y%4294967296)/4294967296)/4294967296+((X/4294967296*(Y%4294967296)+X%4294967296*(Y%4294967296)/4294967296)%4294967296+X%4294967296*(Y/4294967296))/4294967296<18446744073709551616:=by omega
  go_enter Tryz.func103,Tryz.ntmps103
  go_wp2
  simp only [Mul64.maskN X hX,Mul64.maskN Y hY,Mul64.divN,Mul64.mulN,Mul64.addN,Mul64.wrapN _ bd,Mul64.wrapN _ bb',Mul64.wrapN _ bt,Mul64.maskN _ bt,Mul64.wrapN _ bc',Mul64.wrapN _ bw,Mul64.wrapN _ ba',Mul64.wrapN _ bh1,Mul64.wrapN _ bh,Mul64.wrapM (X*Y)]
  rw [hhi]
  go_ret2
  exact ⟨rfl,rfl⟩
theorem Qbx : isW 0:=⟨by decide,by decide⟩
def nw3 (v : Int):List Int:=[v%18446744073709551616,v/18446744073709551616%18446744073709551616,v/340282366920938463463374607431768211456%18446744073709551616]
theorem Qmu {a b c v:Int} (ha:isW a) (hb:isW b) (hc:isW c) (h:a+18446744073709551616*b+340282366920938463463374607431768211456*c=v):[a,b,c]=nw3 v:=by
  obtain ⟨a0,a1⟩:=ha
  obtain ⟨b0,b1⟩:=hb
  obtain ⟨c0,c1⟩:=hc
  subst h
  unfold nw3
  have e1:(a+18446744073709551616*b+340282366920938463463374607431768211456*c)%18446744073709551616=a:=by omega
  have e2:(a+18446744073709551616*b+340282366920938463463374607431768211456*c)/18446744073709551616%18446744073709551616=b:=by omega
  have e3:(a+18446744073709551616*b+340282366920938463463374607431768211456*c)/340282366920938463463374607431768211456%18446744073709551616=c:=by omega
  rw [e1,e2,e3]
theorem Qc0 (v : Int):isW (v%18446744073709551616):=⟨by omega,by omega⟩
theorem Qgk (v : Int) (h0:0≤v) (h:v<6277101735386680763835789423207666416102355444464034512896):v%18446744073709551616+18446744073709551616*(v/18446744073709551616%18446744073709551616)+340282366920938463463374607431768211456*(v/340282366920938463463374607431768211456%18446744073709551616)=v:=by omega
theorem Qna (t : Nat) (ht:t<8):0<p256 t∧256*p256 t≤18446744073709551616:=by
  have:∀ t:Fin 8,0<p256 t.1∧256*p256 t.1≤18446744073709551616:=by decide +kernel
  exact this ⟨t,ht⟩
theorem QjZ (u x:Int) (t:Nat) (h0:0≤u) (h1:u<p256 t) (hx:0≤x∧x<256) (ht:t<8):bits .or .u64 u (x*p256 t)=u+x*p256 t:=by
  obtain ⟨U,rfl⟩:=zaV h0
  obtain ⟨X,rfl⟩:=zaV hx.1
  obtain ⟨q0,q1⟩:=Qna t ht
  have e:p256 t=((2^(8*t):Nat):Int):=by unfold p256; rw [Nat.pow_mul]; simp
  have hX:X<256:=by omega
  rw [e] at h1 q0 q1 ⊢
  have hU:U<2^(8*t):=by omega
  have q2:256*2^(8*t)≤18446744073709551616:=by omega
  have hm:X*2^(8*t)+2^(8*t)≤18446744073709551616:=by
    have:(X+1)*2^(8*t)≤256*2^(8*t):=Nat.mul_le_mul_right _ hX
    rw [Nat.succ_mul] at this; omega
  rw [←zaY,bits_or_u64_nat U (X*2^(8*t)) oo oo]
  have h:=zaZ hU X
  rw [zba] at h
  rw [Nat.or_comm,←h]
  rw [zbb]; omega
theorem Qpq (x : Int) (t:Nat) (c:Int) (hc:c=((8*t:Nat):Int)) (hx:0≤x∧x<256) (ht:t<8):zaX.wrap (x*2^min c.toNat zaX.bits)=x*p256 t:=by
  subst hc
  have hm:min ((8*t:Nat):Int).toNat zaX.bits=8*t:=by show min ((8*t:Nat):Int).toNat 64=8*t; omega
  have e:(2:Int)^(8*t)=p256 t:=by unfold p256; rw [Int.pow_mul]; rfl
  obtain ⟨q0,q1⟩:=Qna t ht
  rw [hm,e]
  have h1:0≤x*p256 t:=zbc hx.1 oo
  have h2:x*p256 t≤255*p256 t:=zaA oo oo
  exact Qjt _ ⟨h1,by omega⟩
theorem QiE (v x:Int) (i:Nat) (hi:i<24) (h0:0≤v) (h1:v<p256 i) (hx:0≤x∧x<256) :
    bits .or .u64 (nth (nw3 v) (i/8)) (x*p256 (i%8))=nth (nw3 (v+x*p256 i)) (i/8)∧(nw3 v).set (i/8) (nth (nw3 (v+x*p256 i)) (i/8))=nw3 (v+x*p256 i):=by
  obtain ⟨t,et⟩:∃ t,t=i%8:=⟨_,rfl⟩
  have ht:t<8:=by omega
  obtain ⟨q0,q1⟩:=Qna t ht
  obtain ⟨z,ez⟩:∃ z,z=x*p256 t:=⟨_,rfl⟩
  have hz0:0≤z:=by rw [ez]; exact zbc hx.1 oo
  have hz1:z≤255*p256 t:=by rw [ez]; exact zaA oo oo
  rw [←et]
  have hp8:p256 8=18446744073709551616:=by decide +kernel
  have hp16:p256 16=340282366920938463463374607431768211456:=p16
  rcases (show i=t∨i=8+t∨i=16+t by omega) with e | e | e
  · have hd:i/8=0:=by omega
    have hv:v<p256 t:=by rw [e] at h1; exact h1
    have hxp:x*p256 i=z:=by rw [e,ez]
    rw [hd,hxp]
    have e1:nth (nw3 v) 0=v:=by show v%_=v; omega
    have e2:nth (nw3 (v+z)) 0=v+z:=by show (v+z)%_=v+z; omega
    rw [e1,e2]
    refine ⟨by rw [QjZ v x t h0 hv hx ht,ez],?_⟩
    show [v+z,v/18446744073709551616%18446744073709551616,v/340282366920938463463374607431768211456%18446744073709551616]=[(v+z)%18446744073709551616,(v+z)/18446744073709551616%18446744073709551616,(v+z)/340282366920938463463374607431768211456%18446744073709551616]
    congr 1
    · omega
    · congr 1
      · omega
      · congr 1; omega
  · have hd:i/8=1:=by omega
    have hpi:p256 i=18446744073709551616*p256 t:=by rw [e,Qd3,hp8]
    have hv:v<18446744073709551616*p256 t:=by rw [hpi] at h1; exact h1
    have hxp:x*p256 i=18446744073709551616*z:=by rw [hpi,ez]; grind
    rw [hd,hxp]
    have e1:nth (nw3 v) 1=v/18446744073709551616:=by show v/_%_=v/_; omega
    have e2:nth (nw3 (v+18446744073709551616*z)) 1=v/18446744073709551616+z:=by show (v+_*z)/_%_=_; omega
    rw [e1,e2]
    refine ⟨by rw [QjZ (v/18446744073709551616) x t oo oo hx ht,ez],?_⟩
    show [v%18446744073709551616,v/18446744073709551616+z,v/340282366920938463463374607431768211456%18446744073709551616]=[(v+18446744073709551616*z)%18446744073709551616,(v+18446744073709551616*z)/18446744073709551616%18446744073709551616,(v+18446744073709551616*z)/340282366920938463463374607431768211456%18446744073709551616]
    congr 1
    · omega
    · congr 1
      · omega
      · congr 1; omega
  · have hd:i/8=2:=by omega
    have hpi:p256 i=340282366920938463463374607431768211456*p256 t:=by rw [e,Qd3,hp16]
    have hv:v<340282366920938463463374607431768211456*p256 t:=by rw [hpi] at h1; exact h1
    have hxp:x*p256 i=340282366920938463463374607431768211456*z:=by rw [hpi,ez]; grind
    rw [hd,hxp]
    have e1:nth (nw3 v) 2=v/340282366920938463463374607431768211456:=by show v/_%_=v/_; omega
    have e2:nth (nw3 (v+340282366920938463463374607431768211456*z)) 2=v/340282366920938463463374607431768211456+z:=by show (v+_*z)/_%_=_; omega
    rw [e1,e2]
    refine ⟨by rw [QjZ (v/340282366920938463463374607431768211456) x t oo oo hx ht,ez],?_⟩
    show [v%18446744073709551616,v/18446744073709551616%18446744073709551616,v/340282366920938463463374607431768211456+z]=[(v+340282366920938463463374607431768211456*z)%18446744073709551616,(v+340282366920938463463374607431768211456*z)/18446744073709551616%18446744073709551616,(v+340282366920938463463374607431768211456*z)/340282366920938463463374607431768211456%18446744073709551616]
    congr 1
    · omega
    · congr 1
      · omega
      · congr 1; omega
theorem Qa8 (v : Int):(nw3 v).length=3:=rfl
theorem Qpx (m0_ m1_ m2_ n0_ n1_ n2_ v:Int) (hm0_:isW m0_) (hm1_:isW m1_) (hm2_:isW m2_) (hn0_:isW n0_) (hn1_:isW n1_) (hn2_:isW n2_) (hv:(m0_+18446744073709551616*m1_+340282366920938463463374607431768211456*m2_)+(n0_+18446744073709551616*n1_+340282366920938463463374607431768211456*n2_)=v) (hlt:v<6277101735386680763835789423207666416102355444464034512896) (w:World) :
    Calls Tryz.prog 90 #[.agg (ints .u64 [m0_,m1_,m2_]),.agg (ints .u64 [n0_,n1_,n2_])] w (Ret w (.agg (ints .u64 (nw3 v)))):=by
  refine enter 25 [(0,.agg (ints .u64 ([m0_,m1_,m2_]))),(1,.agg (ints .u64 ([n0_,n1_,n2_])))] Tryz.func90 rfl rfl kj rfl <| sgC fun K1 hK1=>Qah (ints .u64 ([m0_,m1_,m2_])) 159 2 rfl kj kj fun g2 W1 l2 e1 r2_1=>?_
  have x1:=zbp (zbl w) e1
  have b2:=qT (zbl w).size l2
  refine Qah (ints .u64 ([n0_,n1_,n2_])) 159 3 rfl kj kj fun g3 W2 l3 e2 r3_2=>?_
  have x2:=zbp x1 e2
  have b3:=qT x1.size l3
  refine Qah (ints .u64 ([0,0,0])) 159 4 rfl kj kj fun g4 W3 l4 e3 r4_3=>sgN hK1 <| sgB kj <| wp_seq_k fun K6 hK6=>sgB kj <| wp_block <| wp_loop_rounds 4 ?_
  show zbd _ _ (Exit.then (zbe _ _ _ 3) _) _ _
  refine sgB kj <| sgT kj <| wp_seq_k fun K10 hK10=>wp_block <| sgB kj <| Qce (fun W=>True) [⟨none,[(6,none)]⟩,⟨none,[(6,none)]⟩,⟨none,[(2,none),(12,some 1)]⟩,⟨none,[(13,some 2)]⟩,⟨none,[(6,none)]⟩,⟨none,[(3,none),(15,some 4)]⟩,⟨none,[(16,some 5)]⟩,⟨none,[(5,none)]⟩,⟨none,[(14,some 3),(17,some 6),(18,some 7)]⟩,⟨none,[(19,some 8)]⟩,⟨none,[(10,some 9)]⟩,⟨none,[(10,some 9)]⟩,⟨none,[(2,none),(11,some 0)]⟩,⟨none,[(22,some 12),(20,some 10)]⟩,⟨none,[(21,some 11)]⟩] [] [11,14] kj kj kj (fun W hR=>trivial) fun F hF=>Qbf (.int .i64 0) kj kj rfl (fun _=>kj) <| Qbf (.int .i64 0) kj kj rfl (fun _=>kj) <| Qbf (pp g2 0) kj kj rfl (fun _=>kj) ?_
  have r2_2:=(Qaa r2_1 e2)
  have r2_3:=(Qaa r2_2 e3)
  refine Qcf (.int .u64 m0_) kj kj kj rfl (fun W hR=>(Qab 93 _ g2 0 159 _ (.int .u64 m0_) _ (Qaa (Qaa r2_3 (Qan _)) hR) rfl kj kj kj)) <| Qbf (.int .i64 0) kj kj rfl (fun _=>kj) <| Qbf (pp g3 0) kj kj rfl (fun _=>kj) ?_
  have r3_3:=(Qaa r3_2 e3)
  refine Qcf (.int .u64 n0_) kj kj kj rfl (fun W hR=>(Qab 93 _ g3 0 159 _ (.int .u64 n0_) _ (Qaa (Qaa r3_3 (Qan _)) hR) rfl kj kj kj)) <| Qbf (.int .u64 0) kj kj rfl (fun _=>kj) ?_
  obtain ⟨s1,d1,hs1,hd1,he1,ra1⟩:=QcG (m0_) (n0_) (0) hm0_ hn0_ ⟨by decide,by decide⟩
  refine Qbf (.tuple #[.int .u64 (s1),.int .u64 (d1)]) kj kj rfl (fun W=>(Qbo (f:=95) (args:=#[.int .u64 m0_,.int .u64 n0_,.int .u64 0]) _ _ _ rfl kj kj (ra1 _))) <| Qbf (.tuple #[.int .u64 (s1),.int .u64 (d1)]) kj kj rfl (fun _=>kj) <| Qbf (.int .u64 (s1)) kj kj rfl (fun _=>kj) <| Qbf (.int .u64 (d1)) kj kj rfl (fun _=>kj) <| Qbf (pp g2 0) kj kj rfl (fun _=>kj) <| Qc1 rfl <| Qbf (.int .u64 (d1)) kj kj rfl (fun _=>kj) <| Qho (hF _ kj fun W4 e4=>?_)
  simp only [zax,zay,fins,up]
  clear hF
  have r2_4:=(Qaa r2_3 e4)
  refine Qcw _ g2 _ (ints .u64 ([(s1),m1_,m2_])) 159 r2_4 rfl (Qa0 93 _ _ g2 0 159 _ _ r2_4 rfl kj kj kj (show 0<3 by decide)) (fun W hp=>trivial) fun W5 p5 r2_5=>QeW <| hK10 _ _ <| sgA kj ?_
  show zbe _ _ _ 3 _ _
  show zbd _ _ (Exit.then (zbe _ _ _ 2) _) _ _
  refine sgB kj <| sgT kj <| wp_seq_k fun K14 hK14=>wp_block <| sgB kj <| Qce (fun W=>True) [⟨none,[(6,none)]⟩,⟨none,[(6,none)]⟩,⟨none,[(2,none),(12,some 1)]⟩,⟨none,[(13,some 2)]⟩,⟨none,[(6,none)]⟩,⟨none,[(3,none),(15,some 4)]⟩,⟨none,[(16,some 5)]⟩,⟨none,[(5,none)]⟩,⟨none,[(14,some 3),(17,some 6),(18,some 7)]⟩,⟨none,[(19,some 8)]⟩,⟨none,[(10,some 9)]⟩,⟨none,[(10,some 9)]⟩,⟨none,[(2,none),(11,some 0)]⟩,⟨none,[(22,some 12),(20,some 10)]⟩,⟨none,[(21,some 11)]⟩] [] [11,14] kj kj kj (fun W hR=>trivial) fun F hF=>Qbf (.int .i64 1) kj kj rfl (fun _=>kj) <| Qbf (.int .i64 1) kj kj rfl (fun _=>kj) <| Qbf (pp g2 1) kj kj rfl (fun _=>kj) <| Qcf (.int .u64 m1_) kj kj kj rfl (fun W hR=>(Qab 93 _ g2 1 159 _ (.int .u64 m1_) _ (Qaa (Qaa r2_5 (Qan _)) hR) rfl kj kj kj)) ?_
  refine Qbf (.int .i64 1) kj kj rfl (fun _=>kj) <| Qbf (pp g3 1) kj kj rfl (fun _=>kj) ?_
  have r3_5:=(zbn p5 (Qaa r3_3 e4) (QaI r2_1 l3))
  refine Qcf (.int .u64 n1_) kj kj kj rfl (fun W hR=>(Qab 93 _ g3 1 159 _ (.int .u64 n1_) _ (Qaa (Qaa r3_5 (Qan _)) hR) rfl kj kj kj)) <| Qbf (.int .u64 (d1)) kj kj rfl (fun _=>kj) ?_
  obtain ⟨s2,d2,hs2,hd2,he2,ra2⟩:=QcG (m1_) (n1_) (d1) hm1_ hn1_ hd1
  refine Qbf (.tuple #[.int .u64 (s2),.int .u64 (d2)]) kj kj rfl (fun W=>(Qbo (f:=95) (args:=#[.int .u64 m1_,.int .u64 n1_,.int .u64 (d1)]) _ _ _ rfl kj kj (ra2 _))) <| Qbf (.tuple #[.int .u64 (s2),.int .u64 (d2)]) kj kj rfl (fun _=>kj) <| Qbf (.int .u64 (s2)) kj kj rfl (fun _=>kj) <| Qbf (.int .u64 (d2)) kj kj rfl (fun _=>kj) <| Qbf (pp g2 1) kj kj rfl (fun _=>kj) <| Qc1 rfl <| Qbf (.int .u64 (d2)) kj kj rfl (fun _=>kj) <| Qho (hF _ kj fun W6 e6=>?_)
  simp only [zax,zay,fins,up]
  clear hF
  have r2_6:=(Qaa r2_5 e6)
  refine Qcw _ g2 _ (ints .u64 ([(s1),(s2),m2_])) 159 r2_6 rfl (Qa0 93 _ _ g2 1 159 _ _ r2_6 rfl kj kj kj (show 1<3 by decide)) (fun W hp=>trivial) fun W7 p7 r2_7=>QeW <| hK14 _ _ <| sgA kj ?_
  show zbe _ _ _ 2 _ _
  show zbd _ _ (Exit.then (zbe _ _ _ 1) _) _ _
  refine sgB kj <| sgT kj <| wp_seq_k fun K18 hK18=>wp_block <| sgB kj <| Qce (fun W=>True) [⟨none,[(6,none)]⟩,⟨none,[(6,none)]⟩,⟨none,[(2,none),(12,some 1)]⟩,⟨none,[(13,some 2)]⟩,⟨none,[(6,none)]⟩,⟨none,[(3,none),(15,some 4)]⟩,⟨none,[(16,some 5)]⟩,⟨none,[(5,none)]⟩,⟨none,[(14,some 3),(17,some 6),(18,some 7)]⟩,⟨none,[(19,some 8)]⟩,⟨none,[(10,some 9)]⟩,⟨none,[(10,some 9)]⟩,⟨none,[(2,none),(11,some 0)]⟩,⟨none,[(22,some 12),(20,some 10)]⟩,⟨none,[(21,some 11)]⟩] [] [11,14] kj kj kj (fun W hR=>trivial) fun F hF=>Qbf (.int .i64 2) kj kj rfl (fun _=>kj) <| Qbf (.int .i64 2) kj kj rfl (fun _=>kj) <| Qbf (pp g2 2) kj kj rfl (fun _=>kj) <| Qcf (.int .u64 m2_) kj kj kj rfl (fun W hR=>(Qab 93 _ g2 2 159 _ (.int .u64 m2_) _ (Qaa (Qaa r2_7 (Qan _)) hR) rfl kj kj kj)) ?_
  refine Qbf (.int .i64 2) kj kj rfl (fun _=>kj) <| Qbf (pp g3 2) kj kj rfl (fun _=>kj) <| Qcf (.int .u64 n2_) kj kj kj rfl (fun W hR=>(Qab 93 _ g3 2 159 _ (.int .u64 n2_) _ (Qaa (Qaa (zbn p7 (Qaa r3_5 e6) (QaI r2_1 l3)) (Qan _)) hR) rfl kj kj kj)) <| Qbf (.int .u64 (d2)) kj kj rfl (fun _=>kj) ?_
  obtain ⟨s3,d3,hs3,hd3,he3,ra3⟩:=QcG (m2_) (n2_) (d2) hm2_ hn2_ hd2
  refine Qbf (.tuple #[.int .u64 (s3),.int .u64 (d3)]) kj kj rfl (fun W=>(Qbo (f:=95) (args:=#[.int .u64 m2_,.int .u64 n2_,.int .u64 (d2)]) _ _ _ rfl kj kj (ra3 _))) <| Qbf (.tuple #[.int .u64 (s3),.int .u64 (d3)]) kj kj rfl (fun _=>kj) <| Qbf (.int .u64 (s3)) kj kj rfl (fun _=>kj) <| Qbf (.int .u64 (d3)) kj kj rfl (fun _=>kj) <| Qbf (pp g2 2) kj kj rfl (fun _=>kj) <| Qc1 rfl <| Qbf (.int .u64 (d3)) kj kj rfl (fun _=>kj) <| Qho (hF _ kj fun W8 e8=>?_)
  simp only [zax,zay,fins,up]
  clear hF
  have r2_8:=(Qaa r2_7 e8)
  refine Qcw _ g2 _ (ints .u64 ([(s1),(s2),(s3)])) 159 r2_8 rfl (Qa0 93 _ _ g2 2 159 _ _ r2_8 rfl kj kj kj (show 2<3 by decide)) (fun W hp=>trivial) fun W9 p9 r2_9=>QeW <| hK18 _ _ <| sgA kj ?_
  show zbe _ _ _ 1 _ _
  show zbd _ _ (Exit.then (zbe _ _ _ 0) _) _ _
  refine sgB kj <| wp_seq_k fun K21 hK21=>cond_false kj <| wp_exit <| hK6 _ _ <| sgC fun K22 hK22=>sv (.agg (ints .u64 ([(s1),(s2),(s3)]))) 24 (Qae 159 _ g2 159 _ _ r2_9 rfl kj kj (isz (n:=3) kj kj)) ?_
  have r4_9:=(zbn p9 (Qaa (zbn p7 (Qaa (zbn p5 (Qaa r4_3 e4) (QaI r2_2 l4)) e6) (QaI r2_2 l4)) e8) (QaI r2_2 l4))
  refine Qag g4 _ (ints .u64 ([(s1),(s2),(s3)])) 159 r4_9 rfl kj (Qaf 159 _ _ g4 159 _ _ r4_9 rfl kj kj (isz (n:=3) kj kj) (eqsz (n:=3) kj kj) (Qat _ _)) fun W10 p10 r4_10=>sgN hK22 <| wp_ret ?_
  with_reducible repeat first | refine goR1 ?_ | refine goR2 ?_
  exact (show bodyPost _ _ _ .ret _ _ from ret1 (.agg (ints .u64 ([(s1),(s2),(s3)]))) rfl (QaJ g4 159 _ r4_10 kj kj (isz (n:=3) kj kj)) ⟨by rw [Qmu (v:=v) hs1 hs2 hs3 (by obtain ⟨hs10,hs11⟩:=hs1; obtain ⟨hs20,hs21⟩:=hs2; obtain ⟨hs30,hs31⟩:=hs3; omega)],(zbo p10 (zbo p9 (zbp (zbo p7 (zbp (zbo p5 (zbp (zbp x2 e3) e4) b2) e6) b2) e8) b2) (qT x2.size l4))⟩)
theorem Qh2 (a b:Int) (ha:0≤a) (hb:0≤b) (ha2:a<6277101735386680763835789423207666416102355444464034512896) (hb2:b<6277101735386680763835789423207666416102355444464034512896) (hlt:a+b<6277101735386680763835789423207666416102355444464034512896) (w:World) :
    Calls Tryz.prog 90 #[.agg (ints .u64 (nw3 a)),.agg (ints .u64 (nw3 b))] w (Ret w (.agg (ints .u64 (nw3 (a+b))))) :=
  Qpx _ _ _ _ _ _ (a+b) (Qc0 _) (Qc0 _) (Qc0 _) (Qc0 _) (Qc0 _) (Qc0 _) (by rw [Qgk a ha ha2,Qgk b hb hb2]) hlt w
theorem Qjz (b : List Int) (v:Value) (B:Nat) (w:World) (hb:RdK .u8 B b v w) (hl:b.length≤24) (hbb:Qak b):Calls Tryz.prog 88 #[v] w (Ret w (.agg (ints .u64 (nw3 (lev b))))):=by
 obtain ⟨a_b,c_b,rfl,-⟩:=id hb
 refine enter 27 [(0,.slice a_b b.length c_b)] Tryz.func88 rfl rfl kj rfl <| sgC fun K1 hK1=>Qah (ints .u64 ([0,0,0])) 159 2 rfl kj kj fun g2 W1 l2 e1 r2_1=>?_
 have x1:=zbp (zbl w) e1
 refine sgN hK1 <| sgC fun K3 hK3=>Qah (ints .u64 ([0,0,0])) 159 3 rfl kj kj fun g4 W2 l4 e2 r4_2=>sgN hK3 <| wp_seq_k fun K5 hK5=>sgB kj <| wp_block ?_
 have r4_2_7:W2.heap[g4]? = some (.cells (ints .u64 (nw3 (lev (b.take 0)))) 159):=Qa9 r4_2 (by rw [zaf]; rfl)
 refine Qa3 (fun (s1:Nat)=>[(2,pp g2 0),(3,pp g4 0),(6,.slice a_b b.length c_b),(7,.int .i64 (b.length:Int)),(8,.int .i64 (s1:Int))]) (fun (s1:Nat) W=>(s1≤b.length)∧(W.heap[g4]? = some (.cells (ints .u64 (nw3 (lev (b.take s1)))) 159))∧(Qai [g4] W2 W)∧(Ext w W)) (fun (s1:Nat)=>b.length-s1) 0 ⟨kj,kj,kj,kj,kj,trivial⟩ ⟨(zaw _),r4_2_7,(zbx [g4] W2),(zbp x1 e2)⟩ fun s1 X1 V1 hI1=>?_
 obtain ⟨i,hs1⟩:∃ z,z=s1:=⟨_,rfl⟩
 subst hs1
 obtain ⟨hi,q4_1,kk1,xx1⟩:=hI1
 replace hi:i≤b.length:=hi
 replace q4_1:V1.heap[g4]? = some (.cells (ints .u64 (nw3 (lev (b.take i)))) 159):=q4_1
 replace kk1:Qai [g4] W2 V1:=kk1
 replace xx1:Ext w V1:=xx1
 have q3:=kk1
 refine sgB kj <| wp_seq_k fun K9 hK9=>Qay (t:=decide ((i:Int)<(b.length:Int))) kj (fun c10=>?_) (fun c10=>?_)
 ·skip
  have hlt9:i<b.length:=by have:=of_decide_eq_true c10; omega
  obtain ⟨grb11,orb11,harb11,-,hlrb11,hcrb11⟩:=Qe6 (RdK.ext hb xx1) oo
  have hbi:=Qbl hbb i
  have hn0:=QcX (Qbg hbb i)
  have hn1:=QgY (Qbg hbb i)
  rw [zae,zaU oo] at hn1
  obtain ⟨hst1,hst2⟩:=QiE (lev (b.take i)) (nth b i) i oo hn0 hn1 hbi
  rw [←QdW b i hlt9] at hst1 hst2
  refine wp_skip <| hK9 _ _ <| wp_seq_k fun K12 hK12=>wp_block <| sgC fun K13 hK13=>sg 1 kj <| sv (pp grb11 (orb11+i)) 11 (QaP 41 _ _ .i64 i grb11 orb11 b.length c_b 5 a_b _ harb11 rfl rfl kj kj kj kj (zav (show i<(b).length by omega) (rfl:(b).length=(b).length).symm)) <| sv (.int .u8 (nth (b) (i))) 12 (QaB 5 _ _ (.int .u8 (nth (b) (i))) (hcrb11 i (zav (show i<(b).length by omega) (rfl:(b).length=(b).length).symm)) rfl kj kj) <| sg 2 kj <| sgN hK13 ?_
  refine QaT 10 [⟨none,[(4,none)]⟩,⟨none,[(13,some 0)]⟩,⟨none,[(3,none),(14,some 1)]⟩,⟨none,[(15,some 2)]⟩,⟨none,[(5,none)]⟩,⟨none,[(17,some 4)]⟩,⟨none,[(4,none)]⟩,⟨none,[(19,some 6)]⟩,⟨none,[(20,some 7)]⟩,⟨none,[(18,some 5),(21,some 8)]⟩] kj kj fun F hF=>Qa2 (Qam _) (.int .i64 (i:Int)) kj kj (fun _=>kj) <| Qa2 (Qam _) (.int .i64 ((i/8:Nat):Int)) kj kj (fun W=>(Qac (u:=.int .i64 (zaz.wrap (zaK ((i:Int)) (8)))) kj (congrArg (zau .i64) (Qcv _ 8 oo)))) <| Qa2 (Qam _) (pp g4 (i/8)) kj kj (fun W=>(Qa7 _ _ _ .i64 (i/8) _ 3 93 rfl kj kj kj kj oo)) <| QaN (Qam _) (.int .u64 (nth (nw3 (lev (b.take i))) (i/8))) kj kj (fun W hR=>(Qab 93 _ g4 (i/8) 159 _ (.int .u64 (nth (nw3 (lev (b.take i))) (i/8))) _ (Qaa (Qaa q4_1 (Qan _)) hR) rfl kj (QaD _ _ _ (zav oo (Qa8 _).symm)) kj)) <| Qa2 (Qam _) (.int .u8 (nth (b) (i))) kj kj (fun _=>kj) <| Qa2 (Qam _) (.int .u64 (nth b i)) kj kj (fun W=>(Qac (u:=.int .u64 (zaX.wrap (nth (b) (i)))) kj (congrArg (zau .u64) (Qjt _ ⟨hbi.1,by omega⟩)))) <| Qa2 (Qam _) (.int .i64 (i:Int)) kj kj (fun _=>kj) <| Qa2 (Qam _) (.int .i64 ((i%8:Nat):Int)) kj kj (fun W=>(Qac (u:=.int .i64 (zbf ((i:Int)) (8))) kj (congrArg (zau .i64) (QbK _ 8)))) <| Qa2 (Qam _) (.int .i64 ((8*(i%8):Nat):Int)) kj kj (fun W=>(Qac (u:=.int .i64 (zaz.wrap (8*((i%8:Nat):Int)))) kj (congrArg (zau .i64) (i64n _ _ oo oo)))) ?_
  refine Qa2 (Qam _) (.int .u64 (nth b i*p256 (i%8))) kj kj (fun W=>(QaO .shl _ _ _ _ .u64 .i64 _ _ _ rfl kj kj (Qef _ _ _ _ _ _ oo (Qpq _ (i%8) _ rfl hbi oo)))) <| Qc3 (hF _ fun W4 e4=>?_)
  simp only [zax,zay,za0,zaf,za1,za2,finE,up]
  clear hF
  have x4:=zbp xx1 e4
  refine sv (.int .u64 (nth (nw3 (lev (b.take (i+1)))) (i/8))) 23 (Qac (u:=.int .u64 (bits .or .u64 ((nth (nw3 (lev (b.take i))) (i/8))) ((nth b i*p256 (i%8))))) kj (congrArg (zau .u64) hst1)) <| sv (pp g4 (i/8)) 24 (Qa7 _ _ _ .i64 (i/8) _ 3 93 rfl kj kj kj kj oo) ?_
  have r4_4:=(Qaa q4_1 e4)
  refine Qag g4 _ (ints .u64 ((nw3 (lev (b.take i))).set (i/8) (nth (nw3 (lev (b.take (i+1)))) (i/8)))) 159 r4_4 rfl kj (Qa0 93 _ _ g4 (i/8) 159 _ _ r4_4 rfl kj kj kj (zav oo (Qa8 _).symm)) fun W5 p5 r4_5=>Qas <| hK12 _ _ <| Qaj <| sv (.int .i64 ((i+1:Nat):Int)) 25 (Qac (u:=.int .i64 (zaz.wrap ((i:Int)+1))) kj (congrArg (zau .i64) (i64n _ _ oo oo))) <| sg 1 kj <| Qas ?_
  with_reducible repeat first | refine goX1 ?_ | refine goX2 ?_ | refine goX3 ?_
  exact Qa1 (i+1) ⟨kj,kj,kj,kj,kj,trivial⟩ ⟨(show i+1≤b.length by omega),(Qa9 r4_5 hst2),(zb0 (zbz q3 e4) p5 (.inl (by simp))),(zbo p5 x4 (qT x1.size l4))⟩ (by show b.length-(i+1)<b.length-i; omega)
 ·skip
  have heq9:i=b.length:=by have:=of_decide_eq_false c10; omega
  subst heq9
  have r4_3_14:V1.heap[g4]? = some (.cells (ints .u64 (nw3 (lev b))) 159):=Qa9 q4_1 (by rw [zbg])
  refine wp_exit <| hK5 _ _ <| sgC fun K15 hK15=>sv (.agg (ints .u64 (nw3 (lev b)))) 26 (Qae 159 _ g4 159 _ _ r4_3_14 rfl kj kj (isz (n:=3) kj (izT (Qa8 _)))) ?_
  have r2_3:=(zby q3 (Qaa r2_1 e2) (Qaw (Qad r2_1 l4) QaF))
  refine Qag g2 _ (ints .u64 (nw3 (lev b))) 159 r2_3 rfl kj (Qaf 159 _ _ g2 159 _ _ r2_3 rfl kj kj (isz (n:=3) kj (izT (Qa8 _))) (eqsz (n:=3) kj (izT (Qa8 _))) (Qat _ _)) fun W4 p4 r2_4=>?_
  have x4:=zbo p4 xx1 (qT (zbl w).size l2)
  refine sgN hK15 <| wp_ret ?_
  with_reducible repeat first | refine goR1 ?_ | refine goR2 ?_
  exact (show bodyPost _ _ _ .ret _ _ from ret1 (.agg (ints .u64 (nw3 (lev b)))) rfl (QaJ g2 159 _ r2_4 kj kj (isz (n:=3) kj (izT (Qa8 _)))) ⟨rfl,x4⟩)
end Ae
end
section
namespace Ae
open Go Go.RowKit
open Rely Auto Own Sha
open Sha Cha
theorem mulR {x y hi lo:Int} {w:World} (h:Calls Tryz.prog 103 #[.int .u64 x,.int .u64 y] w (fun e w'=>e=.returned (.tuple #[.int .u64 hi,.int .u64 lo])∧w'=w)):Calls Tryz.prog 103 #[.int .u64 x,.int .u64 y] w (Ret w (.tuple #[.int .u64 hi,.int .u64 lo])) :=
  h.mono fun e w' h=>⟨h.1,h.2▸zbl _⟩
set_option maxRecDepth 100000 in
theorem Qmw (g : Nat) (q0_ q1_ q2_ q3_ q4_ q5_ xx yy p:Int) (hq0_:isW q0_) (hq1_:isW q1_) (hq2_:isW q2_) (hq3_:isW q3_) (hq4_:isW q4_) (hq5_:isW q5_) (hxx:isW xx) (hyy:isW yy) (hp:xx*yy=p) (hlt:(q0_+18446744073709551616*q1_+340282366920938463463374607431768211456*q2_+6277101735386680763835789423207666416102355444464034512896*q3_+115792089237316195423570985008687907853269984665640564039457584007913129639936*q4_+2135987035920910082395021706169552114602704522356652769947041607822219725780640550022962086936576*q5_)+1*p<39402006196394479212279040100143613805079739270465446667948293404245721771497210611414266254884915640806627990306816) (w:World) (hg:w.heap[g]? = some (.cells (ints .u64 [q0_,q1_,q2_,q3_,q4_,q5_]) 184)) :
    Calls Tryz.prog 102 #[.int .i64 0,.int .u64 xx,.int .u64 yy,pp g 0] w (fun e W=>e=.returned (.tuple #[])∧∃ r0 r1 r2 r3 r4 r5:Int,isW r0∧isW r1∧isW r2∧isW r3∧isW r4∧isW r5∧(r0+18446744073709551616*r1+340282366920938463463374607431768211456*r2+6277101735386680763835789423207666416102355444464034512896*r3+115792089237316195423570985008687907853269984665640564039457584007913129639936*r4+2135987035920910082395021706169552114602704522356652769947041607822219725780640550022962086936576*r5)=(q0_+18446744073709551616*q1_+340282366920938463463374607431768211456*q2_+6277101735386680763835789423207666416102355444464034512896*q3_+115792089237316195423570985008687907853269984665640564039457584007913129639936*q4_+2135987035920910082395021706169552114602704522356652769947041607822219725780640550022962086936576*q5_)+1*p∧ExtB g w W∧W.heap[g]? = some (.cells (ints .u64 [r0,r1,r2,r3,r4,r5]) 184)):=by
  refine enter 44 [(0,.int .i64 0),(1,.int .u64 (xx)),(2,.int .u64 (yy)),(3,pp g 0)] Tryz.func102 rfl rfl kj rfl <| sgC fun K2 hK2=>sg 2 kj ?_
  obtain ⟨hi_,lo_,hhi,hlo,hml,cml⟩:=Qke xx yy hxx hyy
  rw [hp] at hml
  refine Qao (.tuple #[.int .u64 (hi_),.int .u64 (lo_)]) 103 #[.int .u64 (xx),.int .u64 (yy)] 14 rfl kj kj ((mulR (cml _))) fun W1 e1=>sg 5 kj <| sgN hK2 <| sgB kj <| sgC fun K4 hK4=>sg 3 kj ?_
  have r1_1:=(Qaa hg e1)
  refine sv (.int .u64 q0_) 21 (Qab 93 _ g 0 184 _ (.int .u64 q0_) _ r1_1 rfl kj kj kj) <| sg 1 kj ?_
  obtain ⟨s1,d1,hs1,hd1,he1,ra1⟩:=QcG (q0_) (lo_) (0) hq0_ hlo ⟨by decide,by decide⟩
  refine sv (.tuple #[.int .u64 (s1),.int .u64 (d1)]) 23 (Qbo (f:=95) (args:=#[.int .u64 q0_,.int .u64 (lo_),.int .u64 0]) _ _ _ rfl kj kj (ra1 _)) <| sg 4 kj <| Qag g _ (ints .u64 ([(s1),q1_,q2_,q3_,q4_,q5_])) 184 r1_1 rfl kj (Qa0 93 _ _ g 0 184 _ _ r1_1 rfl kj kj kj (show 0<6 by decide)) fun W2 p2 r1_2=>sg 1 kj <| sgN hK4 <| sgB kj <| wp_block <| wp_loop_rounds 6 ?_
  show zbd _ _ (Exit.then (zbe _ _ _ 5) _) _ _
  refine wp_seq_k fun K6 hK6=>sgB kj <| cond_true kj <| wp_skip <| hK6 _ _ <| wp_seq_k fun K8 hK8=>wp_block <| sgC fun K9 hK9=>sg 3 kj <| sv (.int .u64 q1_) 37 (Qab 93 _ g 1 184 _ (.int .u64 q1_) _ r1_2 rfl kj kj kj) ?_
  refine sg 2 kj ?_
  obtain ⟨s2,d2,hs2,hd2,he2,ra2⟩:=QcG (q1_) (hi_) (d1) hq1_ hhi hd1
  refine sv (.tuple #[.int .u64 (s2),.int .u64 (d2)]) 40 (Qbo (f:=95) (args:=#[.int .u64 q1_,.int .u64 (hi_),.int .u64 (d1)]) _ _ _ rfl kj kj (ra2 _)) <| sg 4 kj <| Qag g _ (ints .u64 ([(s1),(s2),q2_,q3_,q4_,q5_])) 184 r1_2 rfl kj (Qa0 93 _ _ g 1 184 _ _ r1_2 rfl kj kj kj (show 1<6 by decide)) fun W3 p3 r1_3=>sg 1 kj <| sgN hK9 <| sgA kj <| hK8 _ _ <| sgA kj ?_
  show zbe _ _ _ 5 _ _
  show zbd _ _ (Exit.then (zbe _ _ _ 4) _) _ _
  refine wp_seq_k fun K10 hK10=>sgB kj <| cond_true kj <| wp_skip <| hK10 _ _ <| wp_seq_k fun K12 hK12=>wp_block <| sgC fun K13 hK13=>sg 3 kj <| sv (.int .u64 q2_) 37 (Qab 93 _ g 2 184 _ (.int .u64 q2_) _ r1_3 rfl kj kj kj) ?_
  refine sg 2 kj ?_
  obtain ⟨s3,d3,hs3,hd3,he3,ra3⟩:=QcG (q2_) (0) (d2) hq2_ Qbx hd2
  refine sv (.tuple #[.int .u64 (s3),.int .u64 (d3)]) 40 (Qbo (f:=95) (args:=#[.int .u64 q2_,.int .u64 0,.int .u64 (d2)]) _ _ _ rfl kj kj (ra3 _)) <| sg 4 kj <| Qag g _ (ints .u64 ([(s1),(s2),(s3),q3_,q4_,q5_])) 184 r1_3 rfl kj (Qa0 93 _ _ g 2 184 _ _ r1_3 rfl kj kj kj (show 2<6 by decide)) fun W4 p4 r1_4=>sg 1 kj <| sgN hK13 <| sgA kj <| hK12 _ _ <| sgA kj ?_
  show zbe _ _ _ 4 _ _
  show zbd _ _ (Exit.then (zbe _ _ _ 3) _) _ _
  refine wp_seq_k fun K14 hK14=>sgB kj <| cond_true kj <| wp_skip <| hK14 _ _ <| wp_seq_k fun K16 hK16=>wp_block <| sgC fun K17 hK17=>sg 3 kj <| sv (.int .u64 q3_) 37 (Qab 93 _ g 3 184 _ (.int .u64 q3_) _ r1_4 rfl kj kj kj) ?_
  refine sg 2 kj ?_
  obtain ⟨s4,d4,hs4,hd4,he4,ra4⟩:=QcG (q3_) (0) (d3) hq3_ Qbx hd3
  refine sv (.tuple #[.int .u64 (s4),.int .u64 (d4)]) 40 (Qbo (f:=95) (args:=#[.int .u64 q3_,.int .u64 0,.int .u64 (d3)]) _ _ _ rfl kj kj (ra4 _)) <| sg 4 kj <| Qag g _ (ints .u64 ([(s1),(s2),(s3),(s4),q4_,q5_])) 184 r1_4 rfl kj (Qa0 93 _ _ g 3 184 _ _ r1_4 rfl kj kj kj (show 3<6 by decide)) fun W5 p5 r1_5=>sg 1 kj <| sgN hK17 <| sgA kj <| hK16 _ _ <| sgA kj ?_
  show zbe _ _ _ 3 _ _
  show zbd _ _ (Exit.then (zbe _ _ _ 2) _) _ _
  refine wp_seq_k fun K18 hK18=>sgB kj <| cond_true kj <| wp_skip <| hK18 _ _ <| wp_seq_k fun K20 hK20=>wp_block <| sgC fun K21 hK21=>sg 3 kj <| sv (.int .u64 q4_) 37 (Qab 93 _ g 4 184 _ (.int .u64 q4_) _ r1_5 rfl kj kj kj) ?_
  refine sg 2 kj ?_
  obtain ⟨s5,d5,hs5,hd5,he5,ra5⟩:=QcG (q4_) (0) (d4) hq4_ Qbx hd4
  refine sv (.tuple #[.int .u64 (s5),.int .u64 (d5)]) 40 (Qbo (f:=95) (args:=#[.int .u64 q4_,.int .u64 0,.int .u64 (d4)]) _ _ _ rfl kj kj (ra5 _)) <| sg 4 kj <| Qag g _ (ints .u64 ([(s1),(s2),(s3),(s4),(s5),q5_])) 184 r1_5 rfl kj (Qa0 93 _ _ g 4 184 _ _ r1_5 rfl kj kj kj (show 4<6 by decide)) fun W6 p6 r1_6=>sg 1 kj <| sgN hK21 <| sgA kj <| hK20 _ _ <| sgA kj ?_
  show zbe _ _ _ 2 _ _
  show zbd _ _ (Exit.then (zbe _ _ _ 1) _) _ _
  refine wp_seq_k fun K22 hK22=>sgB kj <| cond_true kj <| wp_skip <| hK22 _ _ <| wp_seq_k fun K24 hK24=>wp_block <| sgC fun K25 hK25=>sg 3 kj <| sv (.int .u64 q5_) 37 (Qab 93 _ g 5 184 _ (.int .u64 q5_) _ r1_6 rfl kj kj kj) ?_
  refine sg 2 kj ?_
  obtain ⟨s6,d6,hs6,hd6,he6,ra6⟩:=QcG (q5_) (0) (d5) hq5_ Qbx hd5
  refine sv (.tuple #[.int .u64 (s6),.int .u64 (d6)]) 40 (Qbo (f:=95) (args:=#[.int .u64 q5_,.int .u64 0,.int .u64 (d5)]) _ _ _ rfl kj kj (ra6 _)) <| sg 4 kj <| Qag g _ (ints .u64 ([(s1),(s2),(s3),(s4),(s5),(s6)])) 184 r1_6 rfl kj (Qa0 93 _ _ g 5 184 _ _ r1_6 rfl kj kj kj (show 5<6 by decide)) fun W7 p7 r1_7=>sg 1 kj <| sgN hK25 <| sgA kj <| hK24 _ _ <| sgA kj ?_
  show zbe _ _ _ 1 _ _
  show zbd _ _ (Exit.then (zbe _ _ _ 0) _) _ _
  refine wp_seq_k fun K26 hK26=>sgB kj <| cond_false kj <| wp_exit ?_
  with_reducible repeat first | refine goX1 ?_ | refine goX2 ?_ | refine goX3 ?_
  exact (show bodyPost _ _ _ .normal _ _ from end0 rfl ⟨rfl,s1,s2,s3,s4,s5,s6,hs1,hs2,hs3,hs4,hs5,hs6,(by obtain ⟨u1,v1⟩:=id hs1; obtain ⟨u2,v2⟩:=id hs2; obtain ⟨u3,v3⟩:=id hs3; obtain ⟨u4,v4⟩:=id hs4; obtain ⟨u5,v5⟩:=id hs5; obtain ⟨u6,v6⟩:=id hs6; obtain ⟨uq0,vq0⟩:=id hq0_; obtain ⟨uq1,vq1⟩:=id hq1_; obtain ⟨uq2,vq2⟩:=id hq2_; obtain ⟨uq3,vq3⟩:=id hq3_; obtain ⟨uq4,vq4⟩:=id hq4_; obtain ⟨uq5,vq5⟩:=id hq5_; obtain ⟨ud1,vd1⟩:=id hd1; obtain ⟨ud2,vd2⟩:=id hd2; obtain ⟨ud3,vd3⟩:=id hd3; obtain ⟨ud4,vd4⟩:=id hd4; obtain ⟨ud5,vd5⟩:=id hd5; obtain ⟨ud6,vd6⟩:=id hd6; obtain ⟨uh1,uh2⟩:=id hhi; obtain ⟨ul1,ul2⟩:=id hlo; omega),(zbt (zbt (zbt (zbt (zbt (zbt (zbs (zbr g w) e1) p2) p3) p4) p5) p6) p7),r1_7⟩)
set_option maxRecDepth 100000 in
theorem Qkk (g : Nat) (q0_ q1_ q2_ q3_ q4_ q5_ xx yy p:Int) (hq0_:isW q0_) (hq1_:isW q1_) (hq2_:isW q2_) (hq3_:isW q3_) (hq4_:isW q4_) (hq5_:isW q5_) (hxx:isW xx) (hyy:isW yy) (hp:xx*yy=p) (hlt:(q0_+18446744073709551616*q1_+340282366920938463463374607431768211456*q2_+6277101735386680763835789423207666416102355444464034512896*q3_+115792089237316195423570985008687907853269984665640564039457584007913129639936*q4_+2135987035920910082395021706169552114602704522356652769947041607822219725780640550022962086936576*q5_)+18446744073709551616*p<39402006196394479212279040100143613805079739270465446667948293404245721771497210611414266254884915640806627990306816) (w:World) (hg:w.heap[g]? = some (.cells (ints .u64 [q0_,q1_,q2_,q3_,q4_,q5_]) 184)) :
    Calls Tryz.prog 102 #[.int .i64 1,.int .u64 xx,.int .u64 yy,pp g 0] w (fun e W=>e=.returned (.tuple #[])∧∃ r0 r1 r2 r3 r4 r5:Int,isW r0∧isW r1∧isW r2∧isW r3∧isW r4∧isW r5∧(r0+18446744073709551616*r1+340282366920938463463374607431768211456*r2+6277101735386680763835789423207666416102355444464034512896*r3+115792089237316195423570985008687907853269984665640564039457584007913129639936*r4+2135987035920910082395021706169552114602704522356652769947041607822219725780640550022962086936576*r5)=(q0_+18446744073709551616*q1_+340282366920938463463374607431768211456*q2_+6277101735386680763835789423207666416102355444464034512896*q3_+115792089237316195423570985008687907853269984665640564039457584007913129639936*q4_+2135987035920910082395021706169552114602704522356652769947041607822219725780640550022962086936576*q5_)+18446744073709551616*p∧ExtB g w W∧W.heap[g]? = some (.cells (ints .u64 [r0,r1,r2,r3,r4,r5]) 184)):=by
  refine enter 44 [(0,.int .i64 1),(1,.int .u64 (xx)),(2,.int .u64 (yy)),(3,pp g 0)] Tryz.func102 rfl rfl kj rfl <| sgC fun K2 hK2=>sg 2 kj ?_
  obtain ⟨hi_,lo_,hhi,hlo,hml,cml⟩:=Qke xx yy hxx hyy
  rw [hp] at hml
  refine Qao (.tuple #[.int .u64 (hi_),.int .u64 (lo_)]) 103 #[.int .u64 (xx),.int .u64 (yy)] 14 rfl kj kj ((mulR (cml _))) fun W1 e1=>sg 5 kj <| sgN hK2 <| sgB kj <| sgC fun K4 hK4=>sg 3 kj ?_
  have r1_1:=(Qaa hg e1)
  refine sv (.int .u64 q1_) 21 (Qab 93 _ g 1 184 _ (.int .u64 q1_) _ r1_1 rfl kj kj kj) <| sg 1 kj ?_
  obtain ⟨s1,d1,hs1,hd1,he1,ra1⟩:=QcG (q1_) (lo_) (0) hq1_ hlo ⟨by decide,by decide⟩
  refine sv (.tuple #[.int .u64 (s1),.int .u64 (d1)]) 23 (Qbo (f:=95) (args:=#[.int .u64 q1_,.int .u64 (lo_),.int .u64 0]) _ _ _ rfl kj kj (ra1 _)) <| sg 4 kj <| Qag g _ (ints .u64 ([q0_,(s1),q2_,q3_,q4_,q5_])) 184 r1_1 rfl kj (Qa0 93 _ _ g 1 184 _ _ r1_1 rfl kj kj kj (show 1<6 by decide)) fun W2 p2 r1_2=>sg 1 kj <| sgN hK4 <| sgB kj <| wp_block <| wp_loop_rounds 5 ?_
  show zbd _ _ (Exit.then (zbe _ _ _ 4) _) _ _
  refine wp_seq_k fun K6 hK6=>sgB kj <| cond_true kj <| wp_skip <| hK6 _ _ <| wp_seq_k fun K8 hK8=>wp_block <| sgC fun K9 hK9=>sg 3 kj <| sv (.int .u64 q2_) 37 (Qab 93 _ g 2 184 _ (.int .u64 q2_) _ r1_2 rfl kj kj kj) ?_
  refine sg 2 kj ?_
  obtain ⟨s2,d2,hs2,hd2,he2,ra2⟩:=QcG (q2_) (hi_) (d1) hq2_ hhi hd1
  refine sv (.tuple #[.int .u64 (s2),.int .u64 (d2)]) 40 (Qbo (f:=95) (args:=#[.int .u64 q2_,.int .u64 (hi_),.int .u64 (d1)]) _ _ _ rfl kj kj (ra2 _)) <| sg 4 kj <| Qag g _ (ints .u64 ([q0_,(s1),(s2),q3_,q4_,q5_])) 184 r1_2 rfl kj (Qa0 93 _ _ g 2 184 _ _ r1_2 rfl kj kj kj (show 2<6 by decide)) fun W3 p3 r1_3=>sg 1 kj <| sgN hK9 <| sgA kj <| hK8 _ _ <| sgA kj ?_
  show zbe _ _ _ 4 _ _
  show zbd _ _ (Exit.then (zbe _ _ _ 3) _) _ _
  refine wp_seq_k fun K10 hK10=>sgB kj <| cond_true kj <| wp_skip <| hK10 _ _ <| wp_seq_k fun K12 hK12=>wp_block <| sgC fun K13 hK13=>sg 3 kj <| sv (.int .u64 q3_) 37 (Qab 93 _ g 3 184 _ (.int .u64 q3_) _ r1_3 rfl kj kj kj) ?_
  refine sg 2 kj ?_
  obtain ⟨s3,d3,hs3,hd3,he3,ra3⟩:=QcG (q3_) (0) (d2) hq3_ Qbx hd2
  refine sv (.tuple #[.int .u64 (s3),.int .u64 (d3)]) 40 (Qbo (f:=95) (args:=#[.int .u64 q3_,.int .u64 0,.int .u64 (d2)]) _ _ _ rfl kj kj (ra3 _)) <| sg 4 kj <| Qag g _ (ints .u64 ([q0_,(s1),(s2),(s3),q4_,q5_])) 184 r1_3 rfl kj (Qa0 93 _ _ g 3 184 _ _ r1_3 rfl kj kj kj (show 3<6 by decide)) fun W4 p4 r1_4=>sg 1 kj <| sgN hK13 <| sgA kj <| hK12 _ _ <| sgA kj ?_
  show zbe _ _ _ 3 _ _
  show zbd _ _ (Exit.then (zbe _ _ _ 2) _) _ _
  refine wp_seq_k fun K14 hK14=>sgB kj <| cond_true kj <| wp_skip <| hK14 _ _ <| wp_seq_k fun K16 hK16=>wp_block <| sgC fun K17 hK17=>sg 3 kj <| sv (.int .u64 q4_) 37 (Qab 93 _ g 4 184 _ (.int .u64 q4_) _ r1_4 rfl kj kj kj) ?_
  refine sg 2 kj ?_
  obtain ⟨s4,d4,hs4,hd4,he4,ra4⟩:=QcG (q4_) (0) (d3) hq4_ Qbx hd3
  refine sv (.tuple #[.int .u64 (s4),.int .u64 (d4)]) 40 (Qbo (f:=95) (args:=#[.int .u64 q4_,.int .u64 0,.int .u64 (d3)]) _ _ _ rfl kj kj (ra4 _)) <| sg 4 kj <| Qag g _ (ints .u64 ([q0_,(s1),(s2),(s3),(s4),q5_])) 184 r1_4 rfl kj (Qa0 93 _ _ g 4 184 _ _ r1_4 rfl kj kj kj (show 4<6 by decide)) fun W5 p5 r1_5=>sg 1 kj <| sgN hK17 <| sgA kj <| hK16 _ _ <| sgA kj ?_
  show zbe _ _ _ 2 _ _
  show zbd _ _ (Exit.then (zbe _ _ _ 1) _) _ _
  refine wp_seq_k fun K18 hK18=>sgB kj <| cond_true kj <| wp_skip <| hK18 _ _ <| wp_seq_k fun K20 hK20=>wp_block <| sgC fun K21 hK21=>sg 3 kj <| sv (.int .u64 q5_) 37 (Qab 93 _ g 5 184 _ (.int .u64 q5_) _ r1_5 rfl kj kj kj) ?_
  refine sg 2 kj ?_
  obtain ⟨s5,d5,hs5,hd5,he5,ra5⟩:=QcG (q5_) (0) (d4) hq5_ Qbx hd4
  refine sv (.tuple #[.int .u64 (s5),.int .u64 (d5)]) 40 (Qbo (f:=95) (args:=#[.int .u64 q5_,.int .u64 0,.int .u64 (d4)]) _ _ _ rfl kj kj (ra5 _)) <| sg 4 kj <| Qag g _ (ints .u64 ([q0_,(s1),(s2),(s3),(s4),(s5)])) 184 r1_5 rfl kj (Qa0 93 _ _ g 5 184 _ _ r1_5 rfl kj kj kj (show 5<6 by decide)) fun W6 p6 r1_6=>sg 1 kj <| sgN hK21 <| sgA kj <| hK20 _ _ <| sgA kj ?_
  show zbe _ _ _ 1 _ _
  show zbd _ _ (Exit.then (zbe _ _ _ 0) _) _ _
  refine wp_seq_k fun K22 hK22=>sgB kj <| cond_false kj <| wp_exit ?_
  with_reducible repeat first | refine goX1 ?_ | refine goX2 ?_ | refine goX3 ?_
  exact (show bodyPost _ _ _ .normal _ _ from end0 rfl ⟨rfl,q0_,s1,s2,s3,s4,s5,hq0_,hs1,hs2,hs3,hs4,hs5,(by obtain ⟨u1,v1⟩:=id hs1; obtain ⟨u2,v2⟩:=id hs2; obtain ⟨u3,v3⟩:=id hs3; obtain ⟨u4,v4⟩:=id hs4; obtain ⟨u5,v5⟩:=id hs5; obtain ⟨uq0,vq0⟩:=id hq0_; obtain ⟨uq1,vq1⟩:=id hq1_; obtain ⟨uq2,vq2⟩:=id hq2_; obtain ⟨uq3,vq3⟩:=id hq3_; obtain ⟨uq4,vq4⟩:=id hq4_; obtain ⟨uq5,vq5⟩:=id hq5_; obtain ⟨ud1,vd1⟩:=id hd1; obtain ⟨ud2,vd2⟩:=id hd2; obtain ⟨ud3,vd3⟩:=id hd3; obtain ⟨ud4,vd4⟩:=id hd4; obtain ⟨ud5,vd5⟩:=id hd5; obtain ⟨uh1,uh2⟩:=id hhi; obtain ⟨ul1,ul2⟩:=id hlo; omega),(zbt (zbt (zbt (zbt (zbt (zbs (zbr g w) e1) p2) p3) p4) p5) p6),r1_6⟩)
set_option maxRecDepth 100000 in
theorem Qkj (g : Nat) (q0_ q1_ q2_ q3_ q4_ q5_ xx yy p:Int) (hq0_:isW q0_) (hq1_:isW q1_) (hq2_:isW q2_) (hq3_:isW q3_) (hq4_:isW q4_) (hq5_:isW q5_) (hxx:isW xx) (hyy:isW yy) (hp:xx*yy=p) (hlt:(q0_+18446744073709551616*q1_+340282366920938463463374607431768211456*q2_+6277101735386680763835789423207666416102355444464034512896*q3_+115792089237316195423570985008687907853269984665640564039457584007913129639936*q4_+2135987035920910082395021706169552114602704522356652769947041607822219725780640550022962086936576*q5_)+340282366920938463463374607431768211456*p<39402006196394479212279040100143613805079739270465446667948293404245721771497210611414266254884915640806627990306816) (w:World) (hg:w.heap[g]? = some (.cells (ints .u64 [q0_,q1_,q2_,q3_,q4_,q5_]) 184)) :
    Calls Tryz.prog 102 #[.int .i64 2,.int .u64 xx,.int .u64 yy,pp g 0] w (fun e W=>e=.returned (.tuple #[])∧∃ r0 r1 r2 r3 r4 r5:Int,isW r0∧isW r1∧isW r2∧isW r3∧isW r4∧isW r5∧(r0+18446744073709551616*r1+340282366920938463463374607431768211456*r2+6277101735386680763835789423207666416102355444464034512896*r3+115792089237316195423570985008687907853269984665640564039457584007913129639936*r4+2135987035920910082395021706169552114602704522356652769947041607822219725780640550022962086936576*r5)=(q0_+18446744073709551616*q1_+340282366920938463463374607431768211456*q2_+6277101735386680763835789423207666416102355444464034512896*q3_+115792089237316195423570985008687907853269984665640564039457584007913129639936*q4_+2135987035920910082395021706169552114602704522356652769947041607822219725780640550022962086936576*q5_)+340282366920938463463374607431768211456*p∧ExtB g w W∧W.heap[g]? = some (.cells (ints .u64 [r0,r1,r2,r3,r4,r5]) 184)):=by
  refine enter 44 [(0,.int .i64 2),(1,.int .u64 (xx)),(2,.int .u64 (yy)),(3,pp g 0)] Tryz.func102 rfl rfl kj rfl <| sgC fun K2 hK2=>sg 2 kj ?_
  obtain ⟨hi_,lo_,hhi,hlo,hml,cml⟩:=Qke xx yy hxx hyy
  rw [hp] at hml
  refine Qao (.tuple #[.int .u64 (hi_),.int .u64 (lo_)]) 103 #[.int .u64 (xx),.int .u64 (yy)] 14 rfl kj kj ((mulR (cml _))) fun W1 e1=>sg 5 kj <| sgN hK2 <| sgB kj <| sgC fun K4 hK4=>sg 3 kj ?_
  have r1_1:=(Qaa hg e1)
  refine sv (.int .u64 q2_) 21 (Qab 93 _ g 2 184 _ (.int .u64 q2_) _ r1_1 rfl kj kj kj) <| sg 1 kj ?_
  obtain ⟨s1,d1,hs1,hd1,he1,ra1⟩:=QcG (q2_) (lo_) (0) hq2_ hlo ⟨by decide,by decide⟩
  refine sv (.tuple #[.int .u64 (s1),.int .u64 (d1)]) 23 (Qbo (f:=95) (args:=#[.int .u64 q2_,.int .u64 (lo_),.int .u64 0]) _ _ _ rfl kj kj (ra1 _)) <| sg 4 kj <| Qag g _ (ints .u64 ([q0_,q1_,(s1),q3_,q4_,q5_])) 184 r1_1 rfl kj (Qa0 93 _ _ g 2 184 _ _ r1_1 rfl kj kj kj (show 2<6 by decide)) fun W2 p2 r1_2=>sg 1 kj <| sgN hK4 <| sgB kj <| wp_block <| wp_loop_rounds 4 ?_
  show zbd _ _ (Exit.then (zbe _ _ _ 3) _) _ _
  refine wp_seq_k fun K6 hK6=>sgB kj <| cond_true kj <| wp_skip <| hK6 _ _ <| wp_seq_k fun K8 hK8=>wp_block <| sgC fun K9 hK9=>sg 3 kj <| sv (.int .u64 q3_) 37 (Qab 93 _ g 3 184 _ (.int .u64 q3_) _ r1_2 rfl kj kj kj) ?_
  refine sg 2 kj ?_
  obtain ⟨s2,d2,hs2,hd2,he2,ra2⟩:=QcG (q3_) (hi_) (d1) hq3_ hhi hd1
  refine sv (.tuple #[.int .u64 (s2),.int .u64 (d2)]) 40 (Qbo (f:=95) (args:=#[.int .u64 q3_,.int .u64 (hi_),.int .u64 (d1)]) _ _ _ rfl kj kj (ra2 _)) <| sg 4 kj <| Qag g _ (ints .u64 ([q0_,q1_,(s1),(s2),q4_,q5_])) 184 r1_2 rfl kj (Qa0 93 _ _ g 3 184 _ _ r1_2 rfl kj kj kj (show 3<6 by decide)) fun W3 p3 r1_3=>sg 1 kj <| sgN hK9 <| sgA kj <| hK8 _ _ <| sgA kj ?_
  show zbe _ _ _ 3 _ _
  show zbd _ _ (Exit.then (zbe _ _ _ 2) _) _ _
  refine wp_seq_k fun K10 hK10=>sgB kj <| cond_true kj <| wp_skip <| hK10 _ _ <| wp_seq_k fun K12 hK12=>wp_block <| sgC fun K13 hK13=>sg 3 kj <| sv (.int .u64 q4_) 37 (Qab 93 _ g 4 184 _ (.int .u64 q4_) _ r1_3 rfl kj kj kj) ?_
  refine sg 2 kj ?_
  obtain ⟨s3,d3,hs3,hd3,he3,ra3⟩:=QcG (q4_) (0) (d2) hq4_ Qbx hd2
  refine sv (.tuple #[.int .u64 (s3),.int .u64 (d3)]) 40 (Qbo (f:=95) (args:=#[.int .u64 q4_,.int .u64 0,.int .u64 (d2)]) _ _ _ rfl kj kj (ra3 _)) <| sg 4 kj <| Qag g _ (ints .u64 ([q0_,q1_,(s1),(s2),(s3),q5_])) 184 r1_3 rfl kj (Qa0 93 _ _ g 4 184 _ _ r1_3 rfl kj kj kj (show 4<6 by decide)) fun W4 p4 r1_4=>sg 1 kj <| sgN hK13 <| sgA kj <| hK12 _ _ <| sgA kj ?_
  show zbe _ _ _ 2 _ _
  show zbd _ _ (Exit.then (zbe _ _ _ 1) _) _ _
  refine wp_seq_k fun K14 hK14=>sgB kj <| cond_true kj <| wp_skip <| hK14 _ _ <| wp_seq_k fun K16 hK16=>wp_block <| sgC fun K17 hK17=>sg 3 kj <| sv (.int .u64 q5_) 37 (Qab 93 _ g 5 184 _ (.int .u64 q5_) _ r1_4 rfl kj kj kj) ?_
  refine sg 2 kj ?_
  obtain ⟨s4,d4,hs4,hd4,he4,ra4⟩:=QcG (q5_) (0) (d3) hq5_ Qbx hd3
  refine sv (.tuple #[.int .u64 (s4),.int .u64 (d4)]) 40 (Qbo (f:=95) (args:=#[.int .u64 q5_,.int .u64 0,.int .u64 (d3)]) _ _ _ rfl kj kj (ra4 _)) <| sg 4 kj <| Qag g _ (ints .u64 ([q0_,q1_,(s1),(s2),(s3),(s4)])) 184 r1_4 rfl kj (Qa0 93 _ _ g 5 184 _ _ r1_4 rfl kj kj kj (show 5<6 by decide)) fun W5 p5 r1_5=>sg 1 kj <| sgN hK17 <| sgA kj <| hK16 _ _ <| sgA kj ?_
  show zbe _ _ _ 1 _ _
  show zbd _ _ (Exit.then (zbe _ _ _ 0) _) _ _
  refine wp_seq_k fun K18 hK18=>sgB kj <| cond_false kj <| wp_exit ?_
  with_reducible repeat first | refine goX1 ?_ | refine goX2 ?_ | refine goX3 ?_
  exact (show bodyPost _ _ _ .normal _ _ from end0 rfl ⟨rfl,q0_,q1_,s1,s2,s3,s4,hq0_,hq1_,hs1,hs2,hs3,hs4,(by obtain ⟨u1,v1⟩:=id hs1; obtain ⟨u2,v2⟩:=id hs2; obtain ⟨u3,v3⟩:=id hs3; obtain ⟨u4,v4⟩:=id hs4; obtain ⟨uq0,vq0⟩:=id hq0_; obtain ⟨uq1,vq1⟩:=id hq1_; obtain ⟨uq2,vq2⟩:=id hq2_; obtain ⟨uq3,vq3⟩:=id hq3_; obtain ⟨uq4,vq4⟩:=id hq4_; obtain ⟨uq5,vq5⟩:=id hq5_; obtain ⟨ud1,vd1⟩:=id hd1; obtain ⟨ud2,vd2⟩:=id hd2; obtain ⟨ud3,vd3⟩:=id hd3; obtain ⟨ud4,vd4⟩:=id hd4; obtain ⟨uh1,uh2⟩:=id hhi; obtain ⟨ul1,ul2⟩:=id hlo; omega),(zbt (zbt (zbt (zbt (zbs (zbr g w) e1) p2) p3) p4) p5),r1_5⟩)
set_option maxRecDepth 100000 in
theorem Qmv (g : Nat) (q0_ q1_ q2_ q3_ q4_ q5_ xx yy p:Int) (hq0_:isW q0_) (hq1_:isW q1_) (hq2_:isW q2_) (hq3_:isW q3_) (hq4_:isW q4_) (hq5_:isW q5_) (hxx:isW xx) (hyy:isW yy) (hp:xx*yy=p) (hlt:(q0_+18446744073709551616*q1_+340282366920938463463374607431768211456*q2_+6277101735386680763835789423207666416102355444464034512896*q3_+115792089237316195423570985008687907853269984665640564039457584007913129639936*q4_+2135987035920910082395021706169552114602704522356652769947041607822219725780640550022962086936576*q5_)+6277101735386680763835789423207666416102355444464034512896*p<39402006196394479212279040100143613805079739270465446667948293404245721771497210611414266254884915640806627990306816) (w:World) (hg:w.heap[g]? = some (.cells (ints .u64 [q0_,q1_,q2_,q3_,q4_,q5_]) 184)) :
    Calls Tryz.prog 102 #[.int .i64 3,.int .u64 xx,.int .u64 yy,pp g 0] w (fun e W=>e=.returned (.tuple #[])∧∃ r0 r1 r2 r3 r4 r5:Int,isW r0∧isW r1∧isW r2∧isW r3∧isW r4∧isW r5∧(r0+18446744073709551616*r1+340282366920938463463374607431768211456*r2+6277101735386680763835789423207666416102355444464034512896*r3+115792089237316195423570985008687907853269984665640564039457584007913129639936*r4+2135987035920910082395021706169552114602704522356652769947041607822219725780640550022962086936576*r5)=(q0_+18446744073709551616*q1_+340282366920938463463374607431768211456*q2_+6277101735386680763835789423207666416102355444464034512896*q3_+115792089237316195423570985008687907853269984665640564039457584007913129639936*q4_+2135987035920910082395021706169552114602704522356652769947041607822219725780640550022962086936576*q5_)+6277101735386680763835789423207666416102355444464034512896*p∧ExtB g w W∧W.heap[g]? = some (.cells (ints .u64 [r0,r1,r2,r3,r4,r5]) 184)):=by
  refine enter 44 [(0,.int .i64 3),(1,.int .u64 (xx)),(2,.int .u64 (yy)),(3,pp g 0)] Tryz.func102 rfl rfl kj rfl <| sgC fun K2 hK2=>sg 2 kj ?_
  obtain ⟨hi_,lo_,hhi,hlo,hml,cml⟩:=Qke xx yy hxx hyy
  rw [hp] at hml
  refine Qao (.tuple #[.int .u64 (hi_),.int .u64 (lo_)]) 103 #[.int .u64 (xx),.int .u64 (yy)] 14 rfl kj kj ((mulR (cml _))) fun W1 e1=>sg 5 kj <| sgN hK2 <| sgB kj <| sgC fun K4 hK4=>sg 3 kj ?_
  have r1_1:=(Qaa hg e1)
  refine sv (.int .u64 q3_) 21 (Qab 93 _ g 3 184 _ (.int .u64 q3_) _ r1_1 rfl kj kj kj) <| sg 1 kj ?_
  obtain ⟨s1,d1,hs1,hd1,he1,ra1⟩:=QcG (q3_) (lo_) (0) hq3_ hlo ⟨by decide,by decide⟩
  refine sv (.tuple #[.int .u64 (s1),.int .u64 (d1)]) 23 (Qbo (f:=95) (args:=#[.int .u64 q3_,.int .u64 (lo_),.int .u64 0]) _ _ _ rfl kj kj (ra1 _)) <| sg 4 kj <| Qag g _ (ints .u64 ([q0_,q1_,q2_,(s1),q4_,q5_])) 184 r1_1 rfl kj (Qa0 93 _ _ g 3 184 _ _ r1_1 rfl kj kj kj (show 3<6 by decide)) fun W2 p2 r1_2=>sg 1 kj <| sgN hK4 <| sgB kj <| wp_block <| wp_loop_rounds 3 ?_
  show zbd _ _ (Exit.then (zbe _ _ _ 2) _) _ _
  refine wp_seq_k fun K6 hK6=>sgB kj <| cond_true kj <| wp_skip <| hK6 _ _ <| wp_seq_k fun K8 hK8=>wp_block <| sgC fun K9 hK9=>sg 3 kj <| sv (.int .u64 q4_) 37 (Qab 93 _ g 4 184 _ (.int .u64 q4_) _ r1_2 rfl kj kj kj) ?_
  refine sg 2 kj ?_
  obtain ⟨s2,d2,hs2,hd2,he2,ra2⟩:=QcG (q4_) (hi_) (d1) hq4_ hhi hd1
  refine sv (.tuple #[.int .u64 (s2),.int .u64 (d2)]) 40 (Qbo (f:=95) (args:=#[.int .u64 q4_,.int .u64 (hi_),.int .u64 (d1)]) _ _ _ rfl kj kj (ra2 _)) <| sg 4 kj <| Qag g _ (ints .u64 ([q0_,q1_,q2_,(s1),(s2),q5_])) 184 r1_2 rfl kj (Qa0 93 _ _ g 4 184 _ _ r1_2 rfl kj kj kj (show 4<6 by decide)) fun W3 p3 r1_3=>sg 1 kj <| sgN hK9 <| sgA kj <| hK8 _ _ <| sgA kj ?_
  show zbe _ _ _ 2 _ _
  show zbd _ _ (Exit.then (zbe _ _ _ 1) _) _ _
  refine wp_seq_k fun K10 hK10=>sgB kj <| cond_true kj <| wp_skip <| hK10 _ _ <| wp_seq_k fun K12 hK12=>wp_block <| sgC fun K13 hK13=>sg 3 kj <| sv (.int .u64 q5_) 37 (Qab 93 _ g 5 184 _ (.int .u64 q5_) _ r1_3 rfl kj kj kj) ?_
  refine sg 2 kj ?_
  obtain ⟨s3,d3,hs3,hd3,he3,ra3⟩:=QcG (q5_) (0) (d2) hq5_ Qbx hd2
  refine sv (.tuple #[.int .u64 (s3),.int .u64 (d3)]) 40 (Qbo (f:=95) (args:=#[.int .u64 q5_,.int .u64 0,.int .u64 (d2)]) _ _ _ rfl kj kj (ra3 _)) <| sg 4 kj <| Qag g _ (ints .u64 ([q0_,q1_,q2_,(s1),(s2),(s3)])) 184 r1_3 rfl kj (Qa0 93 _ _ g 5 184 _ _ r1_3 rfl kj kj kj (show 5<6 by decide)) fun W4 p4 r1_4=>sg 1 kj <| sgN hK13 <| sgA kj <| hK12 _ _ <| sgA kj ?_
  show zbe _ _ _ 1 _ _
  show zbd _ _ (Exit.then (zbe _ _ _ 0) _) _ _
  refine wp_seq_k fun K14 hK14=>sgB kj <| cond_false kj <| wp_exit ?_
  with_reducible repeat first | refine goX1 ?_ | refine goX2 ?_ | refine goX3 ?_
  exact (show bodyPost _ _ _ .normal _ _ from end0 rfl ⟨rfl,q0_,q1_,q2_,s1,s2,s3,hq0_,hq1_,hq2_,hs1,hs2,hs3,(by obtain ⟨u1,v1⟩:=id hs1; obtain ⟨u2,v2⟩:=id hs2; obtain ⟨u3,v3⟩:=id hs3; obtain ⟨uq0,vq0⟩:=id hq0_; obtain ⟨uq1,vq1⟩:=id hq1_; obtain ⟨uq2,vq2⟩:=id hq2_; obtain ⟨uq3,vq3⟩:=id hq3_; obtain ⟨uq4,vq4⟩:=id hq4_; obtain ⟨uq5,vq5⟩:=id hq5_; obtain ⟨ud1,vd1⟩:=id hd1; obtain ⟨ud2,vd2⟩:=id hd2; obtain ⟨ud3,vd3⟩:=id hd3; obtain ⟨uh1,uh2⟩:=id hhi; obtain ⟨ul1,ul2⟩:=id hlo; omega),(zbt (zbt (zbt (zbs (zbr g w) e1) p2) p3) p4),r1_4⟩)
set_option maxRecDepth 100000 in
theorem QoC (g : Nat) (q0_ q1_ q2_ q3_ q4_ q5_ xx yy p:Int) (hq0_:isW q0_) (hq1_:isW q1_) (hq2_:isW q2_) (hq3_:isW q3_) (hq4_:isW q4_) (hq5_:isW q5_) (hxx:isW xx) (hyy:isW yy) (hp:xx*yy=p) (hlt:(q0_+18446744073709551616*q1_+340282366920938463463374607431768211456*q2_+6277101735386680763835789423207666416102355444464034512896*q3_+115792089237316195423570985008687907853269984665640564039457584007913129639936*q4_+2135987035920910082395021706169552114602704522356652769947041607822219725780640550022962086936576*q5_)+115792089237316195423570985008687907853269984665640564039457584007913129639936*p<39402006196394479212279040100143613805079739270465446667948293404245721771497210611414266254884915640806627990306816) (w:World) (hg:w.heap[g]? = some (.cells (ints .u64 [q0_,q1_,q2_,q3_,q4_,q5_]) 184)) :
    Calls Tryz.prog 102 #[.int .i64 4,.int .u64 xx,.int .u64 yy,pp g 0] w (fun e W=>e=.returned (.tuple #[])∧∃ r0 r1 r2 r3 r4 r5:Int,isW r0∧isW r1∧isW r2∧isW r3∧isW r4∧isW r5∧(r0+18446744073709551616*r1+340282366920938463463374607431768211456*r2+6277101735386680763835789423207666416102355444464034512896*r3+115792089237316195423570985008687907853269984665640564039457584007913129639936*r4+2135987035920910082395021706169552114602704522356652769947041607822219725780640550022962086936576*r5)=(q0_+18446744073709551616*q1_+340282366920938463463374607431768211456*q2_+6277101735386680763835789423207666416102355444464034512896*q3_+115792089237316195423570985008687907853269984665640564039457584007913129639936*q4_+2135987035920910082395021706169552114602704522356652769947041607822219725780640550022962086936576*q5_)+115792089237316195423570985008687907853269984665640564039457584007913129639936*p∧ExtB g w W∧W.heap[g]? = some (.cells (ints .u64 [r0,r1,r2,r3,r4,r5]) 184)):=by
  refine enter 44 [(0,.int .i64 4),(1,.int .u64 (xx)),(2,.int .u64 (yy)),(3,pp g 0)] Tryz.func102 rfl rfl kj rfl <| sgC fun K2 hK2=>sg 2 kj ?_
  obtain ⟨hi_,lo_,hhi,hlo,hml,cml⟩:=Qke xx yy hxx hyy
  rw [hp] at hml
  refine Qao (.tuple #[.int .u64 (hi_),.int .u64 (lo_)]) 103 #[.int .u64 (xx),.int .u64 (yy)] 14 rfl kj kj ((mulR (cml _))) fun W1 e1=>sg 5 kj <| sgN hK2 <| sgB kj <| sgC fun K4 hK4=>sg 3 kj ?_
  have r1_1:=(Qaa hg e1)
  refine sv (.int .u64 q4_) 21 (Qab 93 _ g 4 184 _ (.int .u64 q4_) _ r1_1 rfl kj kj kj) <| sg 1 kj ?_
  obtain ⟨s1,d1,hs1,hd1,he1,ra1⟩:=QcG (q4_) (lo_) (0) hq4_ hlo ⟨by decide,by decide⟩
  refine sv (.tuple #[.int .u64 (s1),.int .u64 (d1)]) 23 (Qbo (f:=95) (args:=#[.int .u64 q4_,.int .u64 (lo_),.int .u64 0]) _ _ _ rfl kj kj (ra1 _)) <| sg 4 kj <| Qag g _ (ints .u64 ([q0_,q1_,q2_,q3_,(s1),q5_])) 184 r1_1 rfl kj (Qa0 93 _ _ g 4 184 _ _ r1_1 rfl kj kj kj (show 4<6 by decide)) fun W2 p2 r1_2=>sg 1 kj <| sgN hK4 <| sgB kj <| wp_block <| wp_loop_rounds 2 ?_
  show zbd _ _ (Exit.then (zbe _ _ _ 1) _) _ _
  refine wp_seq_k fun K6 hK6=>sgB kj <| cond_true kj <| wp_skip <| hK6 _ _ <| wp_seq_k fun K8 hK8=>wp_block <| sgC fun K9 hK9=>sg 3 kj <| sv (.int .u64 q5_) 37 (Qab 93 _ g 5 184 _ (.int .u64 q5_) _ r1_2 rfl kj kj kj) ?_
  refine sg 2 kj ?_
  obtain ⟨s2,d2,hs2,hd2,he2,ra2⟩:=QcG (q5_) (hi_) (d1) hq5_ hhi hd1
  refine sv (.tuple #[.int .u64 (s2),.int .u64 (d2)]) 40 (Qbo (f:=95) (args:=#[.int .u64 q5_,.int .u64 (hi_),.int .u64 (d1)]) _ _ _ rfl kj kj (ra2 _)) <| sg 4 kj <| Qag g _ (ints .u64 ([q0_,q1_,q2_,q3_,(s1),(s2)])) 184 r1_2 rfl kj (Qa0 93 _ _ g 5 184 _ _ r1_2 rfl kj kj kj (show 5<6 by decide)) fun W3 p3 r1_3=>sg 1 kj <| sgN hK9 <| sgA kj <| hK8 _ _ <| sgA kj ?_
  show zbe _ _ _ 1 _ _
  show zbd _ _ (Exit.then (zbe _ _ _ 0) _) _ _
  refine wp_seq_k fun K10 hK10=>sgB kj <| cond_false kj <| wp_exit ?_
  with_reducible repeat first | refine goX1 ?_ | refine goX2 ?_ | refine goX3 ?_
  exact (show bodyPost _ _ _ .normal _ _ from end0 rfl ⟨rfl,q0_,q1_,q2_,q3_,s1,s2,hq0_,hq1_,hq2_,hq3_,hs1,hs2,(by obtain ⟨u1,v1⟩:=id hs1; obtain ⟨u2,v2⟩:=id hs2; obtain ⟨uq0,vq0⟩:=id hq0_; obtain ⟨uq1,vq1⟩:=id hq1_; obtain ⟨uq2,vq2⟩:=id hq2_; obtain ⟨uq3,vq3⟩:=id hq3_; obtain ⟨uq4,vq4⟩:=id hq4_; obtain ⟨uq5,vq5⟩:=id hq5_; obtain ⟨ud1,vd1⟩:=id hd1; obtain ⟨ud2,vd2⟩:=id hd2; obtain ⟨uh1,uh2⟩:=id hhi; obtain ⟨ul1,ul2⟩:=id hlo; omega),(zbt (zbt (zbs (zbr g w) e1) p2) p3),r1_3⟩)
end Ae
end
section
namespace Ae
open Go Go.RowKit
open Rely Auto Own Sha
open Sha Cha
def mulV (v : Int):Int:=v%1361129467683753853853498429727072845824+5*(v/1361129467683753853853498429727072845824)
theorem shr2 (q : Int) (h:isW q):q.fdiv (2^min (2:Int).toNat zaX.bits)=q/4:=by
  have e:(2:Int)^min (2:Int).toNat zaX.bits=4:=by decide
  rw [e,zbh _ dd]
theorem Qpr (q : Int) (h:isW q):zaX.wrap (q*2^min (62:Int).toNat zaX.bits)=q%4*4611686018427387904:=by
  have e:(2:Int)^min (62:Int).toNat zaX.bits=4611686018427387904:=by decide
  have h3:∀ z:Int,zaX.wrap z=z%18446744073709551616:=fun _=>rfl
  rw [e,h3]
  obtain ⟨h1,h2⟩:=h
  omega
theorem or62 (q r:Int) (hq:isW q) (hr:isW r):bits .or .u64 (q/4) (r%4*4611686018427387904)=q/4+r%4*4611686018427387904:=by
  obtain ⟨q0,q1⟩:=hq
  obtain ⟨r0,r1⟩:=hr
  obtain ⟨A,hA⟩:=zaV (show 0≤q/4 by omega)
  obtain ⟨C,hC⟩:=zaV (show 0≤r%4 by omega)
  rw [hA,hC]
  have hA2:A<2^62:=by omega
  have hC2:C<4:=by omega
  have e:(C:Int)*4611686018427387904=((C*4611686018427387904:Nat):Int):=by rw [zaY]; rfl
  rw [e,bits_or_u64_nat A (C*4611686018427387904) oo oo]
  have h:=zaZ hA2 C
  rw [zba] at h
  rw [Nat.or_comm,←show C*2^62=C*4611686018427387904 from rfl,←h]
  rw [zbb]; omega
theorem and3 (q : Int) (h:isW q):bits .and .u64 q 3=q%4:=by
  obtain ⟨A,rfl⟩:=zaV h.1
  have h:=bits_and_u64_nat A 3 (by have:=h.2; omega) oo
  have e:A&&&3=A%4:=zaW A 2
  rw [e] at h
  exact h
theorem Qnm {a0 a1 a2 a3 a4 a5 e0 e1 f0 f1 f2 f3 f4 f5 v:Int} (ha0:isW a0) (ha1:isW a1) (ha2:isW a2) (ha3:isW a3) (ha4:isW a4) (ha5:isW a5) (hf0:isW f0) (hf1:isW f1) (hf2:isW f2) (hf3:isW f3) (hf4:isW f4) (hf5:isW f5)
    (ha:(a0+18446744073709551616*a1+340282366920938463463374607431768211456*a2+6277101735386680763835789423207666416102355444464034512896*a3+115792089237316195423570985008687907853269984665640564039457584007913129639936*a4+2135987035920910082395021706169552114602704522356652769947041607822219725780640550022962086936576*a5)=v) (hv:v<115792089237316195423570985008687907853269984665640564039457584007913129639936) (h0:e0=a2/4+a3%4*4611686018427387904) (h1:e1=a3/4)
    (hf:(f0+18446744073709551616*f1+340282366920938463463374607431768211456*f2+6277101735386680763835789423207666416102355444464034512896*f3+115792089237316195423570985008687907853269984665640564039457584007913129639936*f4+2135987035920910082395021706169552114602704522356652769947041607822219725780640550022962086936576*f5)=(a0+18446744073709551616*a1+340282366920938463463374607431768211456*(a2%4))+5*e0+18446744073709551616*(5*e1)):f0+18446744073709551616*f1+340282366920938463463374607431768211456*f2=mulV v:=by
  obtain ⟨a0a,a0b⟩:=ha0
  obtain ⟨a1a,a1b⟩:=ha1
  obtain ⟨a2a,a2b⟩:=ha2
  obtain ⟨a3a,a3b⟩:=ha3
  obtain ⟨a4a,-⟩:=ha4
  obtain ⟨a5a,-⟩:=ha5
  obtain ⟨f0a,f0b⟩:=hf0
  obtain ⟨f1a,f1b⟩:=hf1
  obtain ⟨f2a,f2b⟩:=hf2
  obtain ⟨f3a,-⟩:=hf3
  obtain ⟨f4a,-⟩:=hf4
  obtain ⟨f5a,-⟩:=hf5
  have z5:a5=0:=by omega
  have z4:a4=0:=by omega
  subst z5 z4
  have e3:v=a0+18446744073709551616*a1+340282366920938463463374607431768211456*(a2%4)+1361129467683753853853498429727072845824*(a2/4+4611686018427387904*a3):=by omega
  have hl:0≤a0+18446744073709551616*a1+340282366920938463463374607431768211456*(a2%4)∧a0+18446744073709551616*a1+340282366920938463463374607431768211456*(a2%4)<1361129467683753853853498429727072845824:=by omega
  have hm:v%1361129467683753853853498429727072845824=a0+18446744073709551616*a1+340282366920938463463374607431768211456*(a2%4):=by omega
  have hd:v/1361129467683753853853498429727072845824=a2/4+4611686018427387904*a3:=by omega
  have he:e0+18446744073709551616*e1=a2/4+4611686018427387904*a3:=by omega
  have hlt:a2/4+4611686018427387904*a3<85070591730234615865843651857942052864:=by omega
  have hsum:(f0+18446744073709551616*f1+340282366920938463463374607431768211456*f2+6277101735386680763835789423207666416102355444464034512896*f3+115792089237316195423570985008687907853269984665640564039457584007913129639936*f4+2135987035920910082395021706169552114602704522356652769947041607822219725780640550022962086936576*f5)<2722258935367507707706996859454145691648:=by omega
  have y5:f5=0:=by omega
  have y4:f4=0:=by omega
  have y3:f3=0:=by omega
  subst y5 y4 y3
  unfold mulV
  rw [hm,hd]
  omega
theorem QgT {a b:Int} (ha:0≤a) (hb:0≤b) (ha2:a<5444517870735015415413993718908291383296) (hb2:b<21267647932558653966460912964485513216):a*b<115792089237316195423570985008687907853269984665640564039457584007913129639936:=by
  have h1:a*b≤a*21267647932558653966460912964485513216:=zbi oo ha
  omega
set_option maxRecDepth 100000 in
theorem mulW (m0_ m1_ m2_ n0_ n1_ n2_ va vb:Int) (hm0_:isW m0_) (hm1_:isW m1_) (hm2_:isW m2_) (hn0_:isW n0_) (hn1_:isW n1_) (hn2_:isW n2_) (hva:(m0_+18446744073709551616*m1_+340282366920938463463374607431768211456*m2_)=va) (hvb:(n0_+18446744073709551616*n1_+340282366920938463463374607431768211456*n2_)=vb) (hal:va<5444517870735015415413993718908291383296) (hbl:vb<21267647932558653966460912964485513216) (w:World) :
    Calls Tryz.prog 94 #[.agg (ints .u64 [m0_,m1_,m2_]),.agg (ints .u64 [n0_,n1_,n2_])] w (Ret w (.agg (ints .u64 (nw3 (mulV (va*vb)))))):=by
  obtain ⟨p00,ep00⟩:∃ z,z=m0_*n0_:=⟨_,rfl⟩
  have hp00:0≤p00:=by rw [ep00]; exact zbc hm0_.1 hn0_.1
  obtain ⟨p01,ep01⟩:∃ z,z=m0_*n1_:=⟨_,rfl⟩
  have hp01:0≤p01:=by rw [ep01]; exact zbc hm0_.1 hn1_.1
  obtain ⟨p02,ep02⟩:∃ z,z=m0_*n2_:=⟨_,rfl⟩
  have hp02:0≤p02:=by rw [ep02]; exact zbc hm0_.1 hn2_.1
  obtain ⟨p10,ep10⟩:∃ z,z=m1_*n0_:=⟨_,rfl⟩
  have hp10:0≤p10:=by rw [ep10]; exact zbc hm1_.1 hn0_.1
  obtain ⟨p11,ep11⟩:∃ z,z=m1_*n1_:=⟨_,rfl⟩
  have hp11:0≤p11:=by rw [ep11]; exact zbc hm1_.1 hn1_.1
  obtain ⟨p12,ep12⟩:∃ z,z=m1_*n2_:=⟨_,rfl⟩
  have hp12:0≤p12:=by rw [ep12]; exact zbc hm1_.1 hn2_.1
  obtain ⟨p20,ep20⟩:∃ z,z=m2_*n0_:=⟨_,rfl⟩
  have hp20:0≤p20:=by rw [ep20]; exact zbc hm2_.1 hn0_.1
  obtain ⟨p21,ep21⟩:∃ z,z=m2_*n1_:=⟨_,rfl⟩
  have hp21:0≤p21:=by rw [ep21]; exact zbc hm2_.1 hn1_.1
  obtain ⟨p22,ep22⟩:∃ z,z=m2_*n2_:=⟨_,rfl⟩
  have hp22:0≤p22:=by rw [ep22]; exact zbc hm2_.1 hn2_.1
  have hT:1*p00+18446744073709551616*p01+340282366920938463463374607431768211456*p02+18446744073709551616*p10+340282366920938463463374607431768211456*p11+6277101735386680763835789423207666416102355444464034512896*p12+340282366920938463463374607431768211456*p20+6277101735386680763835789423207666416102355444464034512896*p21+115792089237316195423570985008687907853269984665640564039457584007913129639936*p22=va*vb:=by rw [ep00,ep01,ep02,ep10,ep11,ep12,ep20,ep21,ep22,←hva,←hvb]; grind
  have hTl:1*p00+18446744073709551616*p01+340282366920938463463374607431768211456*p02+18446744073709551616*p10+340282366920938463463374607431768211456*p11+6277101735386680763835789423207666416102355444464034512896*p12+340282366920938463463374607431768211456*p20+6277101735386680763835789423207666416102355444464034512896*p21+115792089237316195423570985008687907853269984665640564039457584007913129639936*p22<115792089237316195423570985008687907853269984665640564039457584007913129639936:=by
    rw [hT]
    obtain ⟨a0,a1⟩:=id hm0_; obtain ⟨a2,a3⟩:=id hm1_; obtain ⟨a4,a5⟩:=id hm2_; obtain ⟨c0,c1⟩:=id hn0_; obtain ⟨c2,c3⟩:=id hn1_; obtain ⟨c4,c5⟩:=id hn2_
    exact QgT oo oo hal hbl
  refine enter 70 [(0,.agg (ints .u64 ([m0_,m1_,m2_]))),(1,.agg (ints .u64 ([n0_,n1_,n2_])))] Tryz.func94 rfl rfl kj rfl <| sgC fun K1 hK1=>Qah (ints .u64 ([m0_,m1_,m2_])) 159 2 rfl kj kj fun g2 W1 l2 e1 r2_1=>?_
  have x1:=zbp (zbl w) e1
  have b2:=qT (zbl w).size l2
  refine Qah (ints .u64 ([n0_,n1_,n2_])) 159 3 rfl kj kj fun g3 W2 l3 e2 r3_2=>?_
  have x2:=zbp x1 e2
  have b3:=qT x1.size l3
  refine Qah (ints .u64 ([0,0,0])) 159 4 rfl kj kj fun g4 W3 l4 e3 r4_3=>?_
  have x3:=zbp x2 e3
  refine sgN hK1 <| sgC fun K5 hK5=>Qah (ints .u64 ([0,0,0,0,0,0])) 184 5 rfl kj kj fun g6 W4 l6 e4 r6_4=>?_
  have b6:=qT x3.size l6
  refine sgN hK5 <| sgB kj <| wp_seq_k fun K8 hK8=>sgC fun K9 hK9=>sv (.agg (ints .u64 ([m0_,m1_,m2_]))) 15 (Qae 159 _ g2 159 _ _ (Qaa (Qaa (Qaa r2_1 e2) e3) e4) rfl kj kj (isz (n:=3) kj kj)) <| sg 1 kj <| sgN hK9 <| wp_block <| wp_loop_rounds 4 ?_
  show zbd _ _ (Exit.then (zbe _ _ _ 3) _) _ _
  refine sgB kj <| sgT kj <| wp_seq_k fun K12 hK12=>wp_block <| sgC fun K13 hK13=>sg 1 kj <| sv (.int .u64 m0_) 19 (QaE 159 _ _ .i64 .u64 ([m0_,m1_,m2_]) 0 3 93 m0_ rfl kj kj kj kj kj rfl dd rfl) <| sg 2 kj <| sgN hK13 <| sgC fun K14 hK14=>?_
  have r3_3:=(Qaa r3_2 e3)
  have r3_4:=(Qaa r3_3 e4)
  refine sv (.agg (ints .u64 ([n0_,n1_,n2_]))) 20 (Qae 159 _ g3 159 _ _ r3_4 rfl kj kj (isz (n:=3) kj kj)) <| sg 1 kj <| sgN hK14 <| wp_block <| wp_loop_rounds 4 ?_
  show zbd _ _ (Exit.then (zbe _ _ _ 3) _) _ _
  refine sgB kj <| sgT kj <| wp_seq_k fun K17 hK17=>wp_block <| sgC fun K18 hK18=>sg 1 kj <| sv (.int .u64 n0_) 24 (QaE 159 _ _ .i64 .u64 ([n0_,n1_,n2_]) 0 3 93 n0_ rfl kj kj kj kj kj rfl dd rfl) <| sg 2 kj <| sgN hK18 <| Qaj ?_
  refine sg 6 kj <| Qau (fun v W'=>v=.tuple #[]∧∃ r0 r1 r2 r3 r4 r5:Int,isW r0∧isW r1∧isW r2∧isW r3∧isW r4∧isW r5∧(r0+18446744073709551616*r1+340282366920938463463374607431768211456*r2+6277101735386680763835789423207666416102355444464034512896*r3+115792089237316195423570985008687907853269984665640564039457584007913129639936*r4+2135987035920910082395021706169552114602704522356652769947041607822219725780640550022962086936576*r5)=(0+18446744073709551616*0+340282366920938463463374607431768211456*0+6277101735386680763835789423207666416102355444464034512896*0+115792089237316195423570985008687907853269984665640564039457584007913129639936*0+2135987035920910082395021706169552114602704522356652769947041607822219725780640550022962086936576*0)+1*p00∧ExtB g6 W4 W'∧W'.heap[g6]? = some (.cells (ints .u64 [r0,r1,r2,r3,r4,r5]) 184)) 102 #[.int .i64 0,.int .u64 m0_,.int .u64 n0_,pp g6 0] 31 rfl kj kj ((Qmw g6 0 0 0 0 0 0 m0_ n0_ p00 Qbx Qbx Qbx Qbx Qbx Qbx hm0_ hn0_ ep00.symm oo _ r6_4).mono fun e w' h=>⟨_,h.1,rfl,h.2⟩) fun v W5 h=>?_
  obtain ⟨rfl,z1w0,z1w1,z1w2,z1w3,z1w4,z1w5,hz1w0,hz1w1,hz1w2,hz1w3,hz1w4,hz1w5,hV1,q5,r6_5⟩:=h
  have hS1:(z1w0+18446744073709551616*z1w1+340282366920938463463374607431768211456*z1w2+6277101735386680763835789423207666416102355444464034512896*z1w3+115792089237316195423570985008687907853269984665640564039457584007913129639936*z1w4+2135987035920910082395021706169552114602704522356652769947041607822219725780640550022962086936576*z1w5)=1*p00:=by omega
  refine Qas <| hK17 _ _ <| sgA kj ?_
  show zbe _ _ _ 3 _ _
  show zbd _ _ (Exit.then (zbe _ _ _ 2) _) _ _
  refine sgB kj <| sgT kj <| wp_seq_k fun K21 hK21=>wp_block <| sgC fun K22 hK22=>sg 1 kj <| sv (.int .u64 n1_) 24 (QaE 159 _ _ .i64 .u64 ([n0_,n1_,n2_]) 1 3 93 n1_ rfl kj kj kj kj kj rfl dd rfl) <| sg 2 kj <| sgN hK22 <| Qaj ?_
  refine sg 6 kj <| Qau (fun v W'=>v=.tuple #[]∧∃ r0 r1 r2 r3 r4 r5:Int,isW r0∧isW r1∧isW r2∧isW r3∧isW r4∧isW r5∧(r0+18446744073709551616*r1+340282366920938463463374607431768211456*r2+6277101735386680763835789423207666416102355444464034512896*r3+115792089237316195423570985008687907853269984665640564039457584007913129639936*r4+2135987035920910082395021706169552114602704522356652769947041607822219725780640550022962086936576*r5)=(z1w0+18446744073709551616*z1w1+340282366920938463463374607431768211456*z1w2+6277101735386680763835789423207666416102355444464034512896*z1w3+115792089237316195423570985008687907853269984665640564039457584007913129639936*z1w4+2135987035920910082395021706169552114602704522356652769947041607822219725780640550022962086936576*z1w5)+18446744073709551616*p01∧ExtB g6 W5 W'∧W'.heap[g6]? = some (.cells (ints .u64 [r0,r1,r2,r3,r4,r5]) 184)) 102 #[.int .i64 1,.int .u64 m0_,.int .u64 n1_,pp g6 0] 31 rfl kj kj ((Qkk g6 z1w0 z1w1 z1w2 z1w3 z1w4 z1w5 m0_ n1_ p01 hz1w0 hz1w1 hz1w2 hz1w3 hz1w4 hz1w5 hm0_ hn1_ ep01.symm (by rw [hS1]; omega) _ r6_5).mono fun e w' h=>⟨_,h.1,rfl,h.2⟩) fun v W6 h=>?_
  obtain ⟨rfl,z2w0,z2w1,z2w2,z2w3,z2w4,z2w5,hz2w0,hz2w1,hz2w2,hz2w3,hz2w4,hz2w5,hV2,q6,r6_6⟩:=h
  have hS2:(z2w0+18446744073709551616*z2w1+340282366920938463463374607431768211456*z2w2+6277101735386680763835789423207666416102355444464034512896*z2w3+115792089237316195423570985008687907853269984665640564039457584007913129639936*z2w4+2135987035920910082395021706169552114602704522356652769947041607822219725780640550022962086936576*z2w5)=1*p00+18446744073709551616*p01:=by omega
  refine Qas <| hK21 _ _ <| sgA kj ?_
  show zbe _ _ _ 2 _ _
  show zbd _ _ (Exit.then (zbe _ _ _ 1) _) _ _
  refine sgB kj <| sgT kj <| wp_seq_k fun K25 hK25=>wp_block <| sgC fun K26 hK26=>sg 1 kj <| sv (.int .u64 n2_) 24 (QaE 159 _ _ .i64 .u64 ([n0_,n1_,n2_]) 2 3 93 n2_ rfl kj kj kj kj kj rfl dd rfl) <| sg 2 kj <| sgN hK26 <| Qaj ?_
  refine sg 6 kj <| Qau (fun v W'=>v=.tuple #[]∧∃ r0 r1 r2 r3 r4 r5:Int,isW r0∧isW r1∧isW r2∧isW r3∧isW r4∧isW r5∧(r0+18446744073709551616*r1+340282366920938463463374607431768211456*r2+6277101735386680763835789423207666416102355444464034512896*r3+115792089237316195423570985008687907853269984665640564039457584007913129639936*r4+2135987035920910082395021706169552114602704522356652769947041607822219725780640550022962086936576*r5)=(z2w0+18446744073709551616*z2w1+340282366920938463463374607431768211456*z2w2+6277101735386680763835789423207666416102355444464034512896*z2w3+115792089237316195423570985008687907853269984665640564039457584007913129639936*z2w4+2135987035920910082395021706169552114602704522356652769947041607822219725780640550022962086936576*z2w5)+340282366920938463463374607431768211456*p02∧ExtB g6 W6 W'∧W'.heap[g6]? = some (.cells (ints .u64 [r0,r1,r2,r3,r4,r5]) 184)) 102 #[.int .i64 2,.int .u64 m0_,.int .u64 n2_,pp g6 0] 31 rfl kj kj ((Qkj g6 z2w0 z2w1 z2w2 z2w3 z2w4 z2w5 m0_ n2_ p02 hz2w0 hz2w1 hz2w2 hz2w3 hz2w4 hz2w5 hm0_ hn2_ ep02.symm (by rw [hS2]; omega) _ r6_6).mono fun e w' h=>⟨_,h.1,rfl,h.2⟩) fun v W7 h=>?_
  obtain ⟨rfl,z3w0,z3w1,z3w2,z3w3,z3w4,z3w5,hz3w0,hz3w1,hz3w2,hz3w3,hz3w4,hz3w5,hV3,q7,r6_7⟩:=h
  have hS3:(z3w0+18446744073709551616*z3w1+340282366920938463463374607431768211456*z3w2+6277101735386680763835789423207666416102355444464034512896*z3w3+115792089237316195423570985008687907853269984665640564039457584007913129639936*z3w4+2135987035920910082395021706169552114602704522356652769947041607822219725780640550022962086936576*z3w5)=1*p00+18446744073709551616*p01+340282366920938463463374607431768211456*p02:=by omega
  refine Qas <| hK25 _ _ <| sgA kj ?_
  show zbe _ _ _ 1 _ _
  show zbd _ _ (Exit.then (zbe _ _ _ 0) _) _ _
  refine sgB kj <| wp_seq_k fun K28 hK28=>cond_false kj <| wp_exit <| hK12 _ _ <| sgA kj ?_
  show zbe _ _ _ 3 _ _
  show zbd _ _ (Exit.then (zbe _ _ _ 2) _) _ _
  refine sgB kj <| sgT kj <| wp_seq_k fun K31 hK31=>wp_block <| sgC fun K32 hK32=>sg 1 kj <| sv (.int .u64 m1_) 19 (QaE 159 _ _ .i64 .u64 ([m0_,m1_,m2_]) 1 3 93 m1_ rfl kj kj kj kj kj rfl dd rfl) <| sg 2 kj <| sgN hK32 <| sgC fun K33 hK33=>?_
  have r3_7:=(zbu q7 (zbu q6 (zbu q5 r3_4 (Qad r3_3 l6)) (Qad r3_3 l6)) (Qad r3_3 l6))
  refine sv (.agg (ints .u64 ([n0_,n1_,n2_]))) 20 (Qae 159 _ g3 159 _ _ r3_7 rfl kj kj (isz (n:=3) kj kj)) <| sg 1 kj <| sgN hK33 <| wp_block <| wp_loop_rounds 4 ?_
  show zbd _ _ (Exit.then (zbe _ _ _ 3) _) _ _
  refine sgB kj <| sgT kj <| wp_seq_k fun K36 hK36=>wp_block <| sgC fun K37 hK37=>sg 1 kj <| sv (.int .u64 n0_) 24 (QaE 159 _ _ .i64 .u64 ([n0_,n1_,n2_]) 0 3 93 n0_ rfl kj kj kj kj kj rfl dd rfl) <| sg 2 kj <| sgN hK37 <| Qaj ?_
  refine sg 6 kj <| Qau (fun v W'=>v=.tuple #[]∧∃ r0 r1 r2 r3 r4 r5:Int,isW r0∧isW r1∧isW r2∧isW r3∧isW r4∧isW r5∧(r0+18446744073709551616*r1+340282366920938463463374607431768211456*r2+6277101735386680763835789423207666416102355444464034512896*r3+115792089237316195423570985008687907853269984665640564039457584007913129639936*r4+2135987035920910082395021706169552114602704522356652769947041607822219725780640550022962086936576*r5)=(z3w0+18446744073709551616*z3w1+340282366920938463463374607431768211456*z3w2+6277101735386680763835789423207666416102355444464034512896*z3w3+115792089237316195423570985008687907853269984665640564039457584007913129639936*z3w4+2135987035920910082395021706169552114602704522356652769947041607822219725780640550022962086936576*z3w5)+18446744073709551616*p10∧ExtB g6 W7 W'∧W'.heap[g6]? = some (.cells (ints .u64 [r0,r1,r2,r3,r4,r5]) 184)) 102 #[.int .i64 1,.int .u64 m1_,.int .u64 n0_,pp g6 0] 31 rfl kj kj ((Qkk g6 z3w0 z3w1 z3w2 z3w3 z3w4 z3w5 m1_ n0_ p10 hz3w0 hz3w1 hz3w2 hz3w3 hz3w4 hz3w5 hm1_ hn0_ ep10.symm (by rw [hS3]; omega) _ r6_7).mono fun e w' h=>⟨_,h.1,rfl,h.2⟩) fun v W8 h=>?_
  obtain ⟨rfl,z4w0,z4w1,z4w2,z4w3,z4w4,z4w5,hz4w0,hz4w1,hz4w2,hz4w3,hz4w4,hz4w5,hV4,q8,r6_8⟩:=h
  have hS4:(z4w0+18446744073709551616*z4w1+340282366920938463463374607431768211456*z4w2+6277101735386680763835789423207666416102355444464034512896*z4w3+115792089237316195423570985008687907853269984665640564039457584007913129639936*z4w4+2135987035920910082395021706169552114602704522356652769947041607822219725780640550022962086936576*z4w5)=1*p00+18446744073709551616*p01+340282366920938463463374607431768211456*p02+18446744073709551616*p10:=by omega
  refine Qas <| hK36 _ _ <| sgA kj ?_
  show zbe _ _ _ 3 _ _
  show zbd _ _ (Exit.then (zbe _ _ _ 2) _) _ _
  refine sgB kj <| sgT kj <| wp_seq_k fun K40 hK40=>wp_block <| sgC fun K41 hK41=>sg 1 kj <| sv (.int .u64 n1_) 24 (QaE 159 _ _ .i64 .u64 ([n0_,n1_,n2_]) 1 3 93 n1_ rfl kj kj kj kj kj rfl dd rfl) <| sg 2 kj <| sgN hK41 <| Qaj ?_
  refine sg 6 kj <| Qau (fun v W'=>v=.tuple #[]∧∃ r0 r1 r2 r3 r4 r5:Int,isW r0∧isW r1∧isW r2∧isW r3∧isW r4∧isW r5∧(r0+18446744073709551616*r1+340282366920938463463374607431768211456*r2+6277101735386680763835789423207666416102355444464034512896*r3+115792089237316195423570985008687907853269984665640564039457584007913129639936*r4+2135987035920910082395021706169552114602704522356652769947041607822219725780640550022962086936576*r5)=(z4w0+18446744073709551616*z4w1+340282366920938463463374607431768211456*z4w2+6277101735386680763835789423207666416102355444464034512896*z4w3+115792089237316195423570985008687907853269984665640564039457584007913129639936*z4w4+2135987035920910082395021706169552114602704522356652769947041607822219725780640550022962086936576*z4w5)+340282366920938463463374607431768211456*p11∧ExtB g6 W8 W'∧W'.heap[g6]? = some (.cells (ints .u64 [r0,r1,r2,r3,r4,r5]) 184)) 102 #[.int .i64 2,.int .u64 m1_,.int .u64 n1_,pp g6 0] 31 rfl kj kj ((Qkj g6 z4w0 z4w1 z4w2 z4w3 z4w4 z4w5 m1_ n1_ p11 hz4w0 hz4w1 hz4w2 hz4w3 hz4w4 hz4w5 hm1_ hn1_ ep11.symm (by rw [hS4]; omega) _ r6_8).mono fun e w' h=>⟨_,h.1,rfl,h.2⟩) fun v W9 h=>?_
  obtain ⟨rfl,z5w0,z5w1,z5w2,z5w3,z5w4,z5w5,hz5w0,hz5w1,hz5w2,hz5w3,hz5w4,hz5w5,hV5,q9,r6_9⟩:=h
  have hS5:(z5w0+18446744073709551616*z5w1+340282366920938463463374607431768211456*z5w2+6277101735386680763835789423207666416102355444464034512896*z5w3+115792089237316195423570985008687907853269984665640564039457584007913129639936*z5w4+2135987035920910082395021706169552114602704522356652769947041607822219725780640550022962086936576*z5w5)=1*p00+18446744073709551616*p01+340282366920938463463374607431768211456*p02+18446744073709551616*p10+340282366920938463463374607431768211456*p11:=by omega
  refine Qas <| hK40 _ _ <| sgA kj ?_
  show zbe _ _ _ 2 _ _
  show zbd _ _ (Exit.then (zbe _ _ _ 1) _) _ _
  refine sgB kj <| sgT kj <| wp_seq_k fun K44 hK44=>wp_block <| sgC fun K45 hK45=>sg 1 kj <| sv (.int .u64 n2_) 24 (QaE 159 _ _ .i64 .u64 ([n0_,n1_,n2_]) 2 3 93 n2_ rfl kj kj kj kj kj rfl dd rfl) <| sg 2 kj <| sgN hK45 <| Qaj ?_
  refine sg 6 kj <| Qau (fun v W'=>v=.tuple #[]∧∃ r0 r1 r2 r3 r4 r5:Int,isW r0∧isW r1∧isW r2∧isW r3∧isW r4∧isW r5∧(r0+18446744073709551616*r1+340282366920938463463374607431768211456*r2+6277101735386680763835789423207666416102355444464034512896*r3+115792089237316195423570985008687907853269984665640564039457584007913129639936*r4+2135987035920910082395021706169552114602704522356652769947041607822219725780640550022962086936576*r5)=(z5w0+18446744073709551616*z5w1+340282366920938463463374607431768211456*z5w2+6277101735386680763835789423207666416102355444464034512896*z5w3+115792089237316195423570985008687907853269984665640564039457584007913129639936*z5w4+2135987035920910082395021706169552114602704522356652769947041607822219725780640550022962086936576*z5w5)+6277101735386680763835789423207666416102355444464034512896*p12∧ExtB g6 W9 W'∧W'.heap[g6]? = some (.cells (ints .u64 [r0,r1,r2,r3,r4,r5]) 184)) 102 #[.int .i64 3,.int .u64 m1_,.int .u64 n2_,pp g6 0] 31 rfl kj kj ((Qmv g6 z5w0 z5w1 z5w2 z5w3 z5w4 z5w5 m1_ n2_ p12 hz5w0 hz5w1 hz5w2 hz5w3 hz5w4 hz5w5 hm1_ hn2_ ep12.symm (by rw [hS5]; omega) _ r6_9).mono fun e w' h=>⟨_,h.1,rfl,h.2⟩) fun v W10 h=>?_
  obtain ⟨rfl,z6w0,z6w1,z6w2,z6w3,z6w4,z6w5,hz6w0,hz6w1,hz6w2,hz6w3,hz6w4,hz6w5,hV6,q10,r6_10⟩:=h
  have hS6:(z6w0+18446744073709551616*z6w1+340282366920938463463374607431768211456*z6w2+6277101735386680763835789423207666416102355444464034512896*z6w3+115792089237316195423570985008687907853269984665640564039457584007913129639936*z6w4+2135987035920910082395021706169552114602704522356652769947041607822219725780640550022962086936576*z6w5)=1*p00+18446744073709551616*p01+340282366920938463463374607431768211456*p02+18446744073709551616*p10+340282366920938463463374607431768211456*p11+6277101735386680763835789423207666416102355444464034512896*p12:=by omega
  refine Qas <| hK44 _ _ <| sgA kj ?_
  show zbe _ _ _ 1 _ _
  show zbd _ _ (Exit.then (zbe _ _ _ 0) _) _ _
  refine sgB kj <| wp_seq_k fun K47 hK47=>cond_false kj <| wp_exit <| hK31 _ _ <| sgA kj ?_
  show zbe _ _ _ 2 _ _
  show zbd _ _ (Exit.then (zbe _ _ _ 1) _) _ _
  refine sgB kj <| sgT kj <| wp_seq_k fun K50 hK50=>wp_block <| sgC fun K51 hK51=>sg 1 kj <| sv (.int .u64 m2_) 19 (QaE 159 _ _ .i64 .u64 ([m0_,m1_,m2_]) 2 3 93 m2_ rfl kj kj kj kj kj rfl dd rfl) <| sg 2 kj <| sgN hK51 <| sgC fun K52 hK52=>?_
  refine sv (.agg (ints .u64 ([n0_,n1_,n2_]))) 20 (Qae 159 _ g3 159 _ _ (zbu q10 (zbu q9 (zbu q8 r3_7 (Qad r3_3 l6)) (Qad r3_3 l6)) (Qad r3_3 l6)) rfl kj kj (isz (n:=3) kj kj)) <| sg 1 kj <| sgN hK52 <| wp_block <| wp_loop_rounds 4 ?_
  show zbd _ _ (Exit.then (zbe _ _ _ 3) _) _ _
  refine sgB kj <| sgT kj <| wp_seq_k fun K55 hK55=>wp_block <| sgC fun K56 hK56=>sg 1 kj <| sv (.int .u64 n0_) 24 (QaE 159 _ _ .i64 .u64 ([n0_,n1_,n2_]) 0 3 93 n0_ rfl kj kj kj kj kj rfl dd rfl) <| sg 2 kj <| sgN hK56 <| Qaj ?_
  refine sg 6 kj <| Qau (fun v W'=>v=.tuple #[]∧∃ r0 r1 r2 r3 r4 r5:Int,isW r0∧isW r1∧isW r2∧isW r3∧isW r4∧isW r5∧(r0+18446744073709551616*r1+340282366920938463463374607431768211456*r2+6277101735386680763835789423207666416102355444464034512896*r3+115792089237316195423570985008687907853269984665640564039457584007913129639936*r4+2135987035920910082395021706169552114602704522356652769947041607822219725780640550022962086936576*r5)=(z6w0+18446744073709551616*z6w1+340282366920938463463374607431768211456*z6w2+6277101735386680763835789423207666416102355444464034512896*z6w3+115792089237316195423570985008687907853269984665640564039457584007913129639936*z6w4+2135987035920910082395021706169552114602704522356652769947041607822219725780640550022962086936576*z6w5)+340282366920938463463374607431768211456*p20∧ExtB g6 W10 W'∧W'.heap[g6]? = some (.cells (ints .u64 [r0,r1,r2,r3,r4,r5]) 184)) 102 #[.int .i64 2,.int .u64 m2_,.int .u64 n0_,pp g6 0] 31 rfl kj kj ((Qkj g6 z6w0 z6w1 z6w2 z6w3 z6w4 z6w5 m2_ n0_ p20 hz6w0 hz6w1 hz6w2 hz6w3 hz6w4 hz6w5 hm2_ hn0_ ep20.symm (by rw [hS6]; omega) _ r6_10).mono fun e w' h=>⟨_,h.1,rfl,h.2⟩) fun v W11 h=>?_
  obtain ⟨rfl,z7w0,z7w1,z7w2,z7w3,z7w4,z7w5,hz7w0,hz7w1,hz7w2,hz7w3,hz7w4,hz7w5,hV7,q11,r6_11⟩:=h
  have hS7:(z7w0+18446744073709551616*z7w1+340282366920938463463374607431768211456*z7w2+6277101735386680763835789423207666416102355444464034512896*z7w3+115792089237316195423570985008687907853269984665640564039457584007913129639936*z7w4+2135987035920910082395021706169552114602704522356652769947041607822219725780640550022962086936576*z7w5)=1*p00+18446744073709551616*p01+340282366920938463463374607431768211456*p02+18446744073709551616*p10+340282366920938463463374607431768211456*p11+6277101735386680763835789423207666416102355444464034512896*p12+340282366920938463463374607431768211456*p20:=by omega
  refine Qas <| hK55 _ _ <| sgA kj ?_
  show zbe _ _ _ 3 _ _
  show zbd _ _ (Exit.then (zbe _ _ _ 2) _) _ _
  refine sgB kj <| sgT kj <| wp_seq_k fun K59 hK59=>wp_block <| sgC fun K60 hK60=>sg 1 kj <| sv (.int .u64 n1_) 24 (QaE 159 _ _ .i64 .u64 ([n0_,n1_,n2_]) 1 3 93 n1_ rfl kj kj kj kj kj rfl dd rfl) <| sg 2 kj <| sgN hK60 <| Qaj ?_
  refine sg 6 kj <| Qau (fun v W'=>v=.tuple #[]∧∃ r0 r1 r2 r3 r4 r5:Int,isW r0∧isW r1∧isW r2∧isW r3∧isW r4∧isW r5∧(r0+18446744073709551616*r1+340282366920938463463374607431768211456*r2+6277101735386680763835789423207666416102355444464034512896*r3+115792089237316195423570985008687907853269984665640564039457584007913129639936*r4+2135987035920910082395021706169552114602704522356652769947041607822219725780640550022962086936576*r5)=(z7w0+18446744073709551616*z7w1+340282366920938463463374607431768211456*z7w2+6277101735386680763835789423207666416102355444464034512896*z7w3+115792089237316195423570985008687907853269984665640564039457584007913129639936*z7w4+2135987035920910082395021706169552114602704522356652769947041607822219725780640550022962086936576*z7w5)+6277101735386680763835789423207666416102355444464034512896*p21∧ExtB g6 W11 W'∧W'.heap[g6]? = some (.cells (ints .u64 [r0,r1,r2,r3,r4,r5]) 184)) 102 #[.int .i64 3,.int .u64 m2_,.int .u64 n1_,pp g6 0] 31 rfl kj kj ((Qmv g6 z7w0 z7w1 z7w2 z7w3 z7w4 z7w5 m2_ n1_ p21 hz7w0 hz7w1 hz7w2 hz7w3 hz7w4 hz7w5 hm2_ hn1_ ep21.symm (by rw [hS7]; omega) _ r6_11).mono fun e w' h=>⟨_,h.1,rfl,h.2⟩) fun v W12 h=>?_
  obtain ⟨rfl,z8w0,z8w1,z8w2,z8w3,z8w4,z8w5,hz8w0,hz8w1,hz8w2,hz8w3,hz8w4,hz8w5,hV8,q12,r6_12⟩:=h
  have hS8:(z8w0+18446744073709551616*z8w1+340282366920938463463374607431768211456*z8w2+6277101735386680763835789423207666416102355444464034512896*z8w3+115792089237316195423570985008687907853269984665640564039457584007913129639936*z8w4+2135987035920910082395021706169552114602704522356652769947041607822219725780640550022962086936576*z8w5)=1*p00+18446744073709551616*p01+340282366920938463463374607431768211456*p02+18446744073709551616*p10+340282366920938463463374607431768211456*p11+6277101735386680763835789423207666416102355444464034512896*p12+340282366920938463463374607431768211456*p20+6277101735386680763835789423207666416102355444464034512896*p21:=by omega
  refine Qas <| hK59 _ _ <| sgA kj ?_
  show zbe _ _ _ 2 _ _
  show zbd _ _ (Exit.then (zbe _ _ _ 1) _) _ _
  refine sgB kj <| sgT kj <| wp_seq_k fun K63 hK63=>wp_block <| sgC fun K64 hK64=>sg 1 kj <| sv (.int .u64 n2_) 24 (QaE 159 _ _ .i64 .u64 ([n0_,n1_,n2_]) 2 3 93 n2_ rfl kj kj kj kj kj rfl dd rfl) <| sg 2 kj <| sgN hK64 <| Qaj ?_
  refine sg 6 kj <| Qau (fun v W'=>v=.tuple #[]∧∃ r0 r1 r2 r3 r4 r5:Int,isW r0∧isW r1∧isW r2∧isW r3∧isW r4∧isW r5∧(r0+18446744073709551616*r1+340282366920938463463374607431768211456*r2+6277101735386680763835789423207666416102355444464034512896*r3+115792089237316195423570985008687907853269984665640564039457584007913129639936*r4+2135987035920910082395021706169552114602704522356652769947041607822219725780640550022962086936576*r5)=(z8w0+18446744073709551616*z8w1+340282366920938463463374607431768211456*z8w2+6277101735386680763835789423207666416102355444464034512896*z8w3+115792089237316195423570985008687907853269984665640564039457584007913129639936*z8w4+2135987035920910082395021706169552114602704522356652769947041607822219725780640550022962086936576*z8w5)+115792089237316195423570985008687907853269984665640564039457584007913129639936*p22∧ExtB g6 W12 W'∧W'.heap[g6]? = some (.cells (ints .u64 [r0,r1,r2,r3,r4,r5]) 184)) 102 #[.int .i64 4,.int .u64 m2_,.int .u64 n2_,pp g6 0] 31 rfl kj kj ((QoC g6 z8w0 z8w1 z8w2 z8w3 z8w4 z8w5 m2_ n2_ p22 hz8w0 hz8w1 hz8w2 hz8w3 hz8w4 hz8w5 hm2_ hn2_ ep22.symm (by rw [hS8]; omega) _ r6_12).mono fun e w' h=>⟨_,h.1,rfl,h.2⟩) fun v W13 h=>?_
  obtain ⟨rfl,z9w0,z9w1,z9w2,z9w3,z9w4,z9w5,hz9w0,hz9w1,hz9w2,hz9w3,hz9w4,hz9w5,hV9,q13,r6_13⟩:=h
  have x13:=zbv (zbv (zbv (zbv (zbv (zbv (zbv (zbv (zbv (zbp x3 e4) q5 b6) q6 b6) q7 b6) q8 b6) q9 b6) q10 b6) q11 b6) q12 b6) q13 b6
  have hS9:(z9w0+18446744073709551616*z9w1+340282366920938463463374607431768211456*z9w2+6277101735386680763835789423207666416102355444464034512896*z9w3+115792089237316195423570985008687907853269984665640564039457584007913129639936*z9w4+2135987035920910082395021706169552114602704522356652769947041607822219725780640550022962086936576*z9w5)=1*p00+18446744073709551616*p01+340282366920938463463374607431768211456*p02+18446744073709551616*p10+340282366920938463463374607431768211456*p11+6277101735386680763835789423207666416102355444464034512896*p12+340282366920938463463374607431768211456*p20+6277101735386680763835789423207666416102355444464034512896*p21+115792089237316195423570985008687907853269984665640564039457584007913129639936*p22:=by omega
  refine Qas <| hK63 _ _ <| sgA kj ?_
  show zbe _ _ _ 1 _ _
  show zbd _ _ (Exit.then (zbe _ _ _ 0) _) _ _
  refine sgB kj <| wp_seq_k fun K66 hK66=>cond_false kj <| wp_exit <| hK50 _ _ <| sgA kj ?_
  show zbe _ _ _ 1 _ _
  show zbd _ _ (Exit.then (zbe _ _ _ 0) _) _ _
  refine sgB kj <| wp_seq_k fun K68 hK68=>cond_false kj <| wp_exit <| hK8 _ _ <| sgC fun K69 hK69=>?_
  obtain ⟨e0_,ee0⟩:∃ z,z=z9w2/4+z9w3%4*4611686018427387904:=⟨_,rfl⟩
  obtain ⟨e1_,ee1⟩:∃ z,z=z9w3/4:=⟨_,rfl⟩
  have he0:isW e0_:=by obtain ⟨a1,a2⟩:=id hz9w2; obtain ⟨a3,a4⟩:=id hz9w3; exact ⟨by omega,by omega⟩
  have he1:isW e1_:=by obtain ⟨a3,a4⟩:=id hz9w3; exact ⟨by omega,by omega⟩
  refine sg 1 kj <| sv (.int .u64 z9w2) 35 (Qab 93 _ g6 2 184 _ (.int .u64 z9w2) _ r6_13 rfl kj kj kj) <| sv (.int .u64 (z9w2/4)) 36 (QaO .shr _ _ _ _ .u64 .u64 _ _ _ rfl kj kj (Qcd _ _ _ _ _ _ dd (shr2 _ hz9w2))) <| sg 1 kj <| sv (.int .u64 z9w3) 38 (Qab 93 _ g6 3 184 _ (.int .u64 z9w3) _ r6_13 rfl kj kj kj) <| sv (.int .u64 (z9w3%4*4611686018427387904)) 39 (QaO .shl _ _ _ _ .u64 .u64 _ _ _ rfl kj kj (Qef _ _ _ _ _ _ dd (Qpr _ hz9w3))) <| sv (.int .u64 (e0_)) 40 (Qac (u:=.int .u64 (bits .or .u64 ((z9w2/4)) ((z9w3%4*4611686018427387904)))) kj (congrArg (zau .u64) ((or62 _ _ hz9w2 hz9w3).trans ee0.symm))) <| sg 1 kj <| sv (.int .u64 z9w3) 42 (Qab 93 _ g6 3 184 _ (.int .u64 z9w3) _ r6_13 rfl kj kj kj) <| sv (.int .u64 (e1_)) 43 (QaO .shr _ _ _ _ .u64 .u64 _ _ _ rfl kj kj (Qcd _ _ _ _ _ _ dd ((shr2 _ hz9w3).trans ee1.symm))) ?_
  refine sg 1 kj <| Qah (ints .u64 ([0,0])) 187 11 rfl kj kj fun g70 W14 l70 e14 r70_14=>Qag g70 _ (ints .u64 ([(e0_),(e1_)])) 187 r70_14 rfl kj (Qaf 187 _ _ g70 187 _ _ r70_14 rfl kj kj (isz (n:=2) kj kj) (eqsz (n:=2) kj kj) (Qat _ _)) fun W15 p15 r70_15=>sgN hK69 <| sgC fun K71 hK71=>sg 1 kj ?_
  have r6_15:=(rpn p15 r6_13 e14 l70)
  refine sv (.int .u64 z9w0) 46 (Qab 93 _ g6 0 184 _ (.int .u64 z9w0) _ r6_15 rfl kj kj kj) <| sg 1 kj <| sv (.int .u64 z9w1) 48 (Qab 93 _ g6 1 184 _ (.int .u64 z9w1) _ r6_15 rfl kj kj kj) <| sg 1 kj <| sv (.int .u64 z9w2) 50 (Qab 93 _ g6 2 184 _ (.int .u64 z9w2) _ r6_15 rfl kj kj kj) <| sv (.int .u64 (z9w2%4)) 51 (Qac (u:=.int .u64 (bits .and .u64 (z9w2) (3))) kj (congrArg (zau .u64) (and3 _ hz9w2))) <| sg 1 kj <| Qag g6 _ (ints .u64 ([z9w0,z9w1,(z9w2%4),0,0,0])) 184 r6_15 rfl kj (Qaf 184 _ _ g6 184 _ _ r6_15 rfl kj kj (isz (n:=6) kj kj) (eqsz (n:=6) kj kj) (Qat _ _)) fun W16 p16 r6_16=>?_
  obtain ⟨aq0,bq0⟩:=id hz9w0
  obtain ⟨aq1,bq1⟩:=id hz9w1
  obtain ⟨aq2,bq2⟩:=id hz9w2
  obtain ⟨aq3,bq3⟩:=id hz9w3
  obtain ⟨aq4,bq4⟩:=id hz9w4
  obtain ⟨aq5,bq5⟩:=id hz9w5
  obtain ⟨ae0,be0⟩:=id he0
  obtain ⟨ae1,be1⟩:=id he1
  refine sgN hK71 <| wp_seq_k fun K72 hK72=>sgC fun K73 hK73=>sv (.agg (ints .u64 ([(e0_),(e1_)]))) 53 (Qae 187 _ g70 187 _ _ (zbn p16 r70_15 (QaI r6_13 l70)) rfl kj kj (isz (n:=2) kj kj)) <| sg 1 kj <| sgN hK73 <| wp_block <| wp_loop_rounds 3 ?_
  show zbd _ _ (Exit.then (zbe _ _ _ 2) _) _ _
  refine sgB kj <| sgT kj <| wp_seq_k fun K76 hK76=>wp_block <| sgC fun K77 hK77=>sg 1 kj <| sv (.int .u64 (e0_)) 57 (QaE 187 _ _ .i64 .u64 ([(e0_),(e1_)]) 0 2 93 (e0_) rfl kj kj kj kj kj rfl dd rfl) <| sg 2 kj <| sgN hK77 <| Qaj ?_
  refine sg 3 kj <| Qau (fun v W'=>v=.tuple #[]∧∃ r0 r1 r2 r3 r4 r5:Int,isW r0∧isW r1∧isW r2∧isW r3∧isW r4∧isW r5∧(r0+18446744073709551616*r1+340282366920938463463374607431768211456*r2+6277101735386680763835789423207666416102355444464034512896*r3+115792089237316195423570985008687907853269984665640564039457584007913129639936*r4+2135987035920910082395021706169552114602704522356652769947041607822219725780640550022962086936576*r5)=(z9w0+18446744073709551616*z9w1+340282366920938463463374607431768211456*(z9w2%4)+6277101735386680763835789423207666416102355444464034512896*0+115792089237316195423570985008687907853269984665640564039457584007913129639936*0+2135987035920910082395021706169552114602704522356652769947041607822219725780640550022962086936576*0)+1*(5*e0_)∧ExtB g6 W16 W'∧W'.heap[g6]? = some (.cells (ints .u64 [r0,r1,r2,r3,r4,r5]) 184)) 102 #[.int .i64 0,.int .u64 (e0_),.int .u64 5,pp g6 0] 61 rfl kj kj ((Qmw g6 z9w0 z9w1 (z9w2%4) 0 0 0 e0_ 5 (5*e0_) hz9w0 hz9w1 ⟨by omega,by omega⟩ Qbx Qbx Qbx he0 ⟨by decide,by decide⟩ oo oo _ r6_16).mono fun e w' h=>⟨_,h.1,rfl,h.2⟩) fun v W17 h=>?_
  obtain ⟨rfl,z10w0,z10w1,z10w2,z10w3,z10w4,z10w5,hz10w0,hz10w1,hz10w2,hz10w3,hz10w4,hz10w5,hV10,q17,r6_17⟩:=h
  have hS10:(z10w0+18446744073709551616*z10w1+340282366920938463463374607431768211456*z10w2+6277101735386680763835789423207666416102355444464034512896*z10w3+115792089237316195423570985008687907853269984665640564039457584007913129639936*z10w4+2135987035920910082395021706169552114602704522356652769947041607822219725780640550022962086936576*z10w5)=(z9w0+18446744073709551616*z9w1+340282366920938463463374607431768211456*(z9w2%4))+1*(5*e0_):=by omega
  refine Qas <| hK76 _ _ <| sgA kj ?_
  show zbe _ _ _ 2 _ _
  show zbd _ _ (Exit.then (zbe _ _ _ 1) _) _ _
  refine sgB kj <| sgT kj <| wp_seq_k fun K80 hK80=>wp_block <| sgC fun K81 hK81=>sg 1 kj <| sv (.int .u64 (e1_)) 57 (QaE 187 _ _ .i64 .u64 ([(e0_),(e1_)]) 1 2 93 (e1_) rfl kj kj kj kj kj rfl dd rfl) <| sg 2 kj <| sgN hK81 <| Qaj ?_
  refine sg 3 kj <| Qau (fun v W'=>v=.tuple #[]∧∃ r0 r1 r2 r3 r4 r5:Int,isW r0∧isW r1∧isW r2∧isW r3∧isW r4∧isW r5∧(r0+18446744073709551616*r1+340282366920938463463374607431768211456*r2+6277101735386680763835789423207666416102355444464034512896*r3+115792089237316195423570985008687907853269984665640564039457584007913129639936*r4+2135987035920910082395021706169552114602704522356652769947041607822219725780640550022962086936576*r5)=(z10w0+18446744073709551616*z10w1+340282366920938463463374607431768211456*z10w2+6277101735386680763835789423207666416102355444464034512896*z10w3+115792089237316195423570985008687907853269984665640564039457584007913129639936*z10w4+2135987035920910082395021706169552114602704522356652769947041607822219725780640550022962086936576*z10w5)+18446744073709551616*(5*e1_)∧ExtB g6 W17 W'∧W'.heap[g6]? = some (.cells (ints .u64 [r0,r1,r2,r3,r4,r5]) 184)) 102 #[.int .i64 1,.int .u64 (e1_),.int .u64 5,pp g6 0] 61 rfl kj kj ((Qkk g6 z10w0 z10w1 z10w2 z10w3 z10w4 z10w5 e1_ 5 (5*e1_) hz10w0 hz10w1 hz10w2 hz10w3 hz10w4 hz10w5 he1 ⟨by decide,by decide⟩ oo (by rw [hS10]; omega) _ r6_17).mono fun e w' h=>⟨_,h.1,rfl,h.2⟩) fun v W18 h=>?_
  obtain ⟨rfl,z11w0,z11w1,z11w2,z11w3,z11w4,z11w5,hz11w0,hz11w1,hz11w2,hz11w3,hz11w4,hz11w5,hV11,q18,r6_18⟩:=h
  have hS11:(z11w0+18446744073709551616*z11w1+340282366920938463463374607431768211456*z11w2+6277101735386680763835789423207666416102355444464034512896*z11w3+115792089237316195423570985008687907853269984665640564039457584007913129639936*z11w4+2135987035920910082395021706169552114602704522356652769947041607822219725780640550022962086936576*z11w5)=(z9w0+18446744073709551616*z9w1+340282366920938463463374607431768211456*(z9w2%4))+1*(5*e0_)+18446744073709551616*(5*e1_):=by omega
  refine Qas <| hK80 _ _ <| sgA kj ?_
  show zbe _ _ _ 1 _ _
  show zbd _ _ (Exit.then (zbe _ _ _ 0) _) _ _
  refine sgB kj <| wp_seq_k fun K83 hK83=>cond_false kj <| wp_exit <| hK72 _ _ <| sgC fun K84 hK84=>sg 1 kj <| sv (.int .u64 z11w0) 64 (Qab 93 _ g6 0 184 _ (.int .u64 z11w0) _ r6_18 rfl kj kj kj) <| sg 1 kj <| sv (.int .u64 z11w1) 66 (Qab 93 _ g6 1 184 _ (.int .u64 z11w1) _ r6_18 rfl kj kj kj) ?_
  refine sg 1 kj <| sv (.int .u64 z11w2) 68 (Qab 93 _ g6 2 184 _ (.int .u64 z11w2) _ r6_18 rfl kj kj kj) <| sg 1 kj ?_
  have r4_13:=(zbu q13 (zbu q12 (zbu q11 (zbu q10 (zbu q9 (zbu q8 (zbu q7 (zbu q6 (zbu q5 (Qaa r4_3 e4) (Qad r4_3 l6)) (Qad r4_3 l6)) (Qad r4_3 l6)) (Qad r4_3 l6)) (Qad r4_3 l6)) (Qad r4_3 l6)) (Qad r4_3 l6)) (Qad r4_3 l6)) (Qad r4_3 l6))
  have r4_18:=(zbu q18 (zbu q17 (zbn p16 (rpn p15 r4_13 e14 l70) (Qad r4_3 l6)) (Qad r4_3 l6)) (Qad r4_3 l6))
  refine Qag g4 _ (ints .u64 ([z11w0,z11w1,z11w2])) 159 r4_18 rfl kj (Qaf 159 _ _ g4 159 _ _ r4_18 rfl kj kj (isz (n:=3) kj kj) (eqsz (n:=3) kj kj) (Qat _ _)) fun W19 p19 r4_19=>sgN hK84 <| wp_ret ?_
  with_reducible repeat first | refine goR1 ?_ | refine goR2 ?_
  exact (show bodyPost _ _ _ .ret _ _ from ret1 (.agg (ints .u64 ([z11w0,z11w1,z11w2]))) rfl (QaJ g4 159 _ r4_19 kj kj (isz (n:=3) kj kj)) ⟨by rw [Qmu (v:=mulV (va*vb)) hz11w0 hz11w1 hz11w2 (Qnm hz9w0 hz9w1 hz9w2 hz9w3 hz9w4 hz9w5 hz11w0 hz11w1 hz11w2 hz11w3 hz11w4 hz11w5 (hS9.trans hT) (by rw [←hT]; exact hTl) ee0 ee1 (by rw [hS11]; omega))],(zbo p19 (zbv (zbv (zbo p16 (zbo p15 (zbp x13 e14) (qT x13.size l70)) b6) q17 b6) q18 b6) (qT x2.size l4))⟩)
theorem Qkd (a b:Int) (ha:0≤a) (hb:0≤b) (hal:a<5444517870735015415413993718908291383296) (hbl:b<21267647932558653966460912964485513216) (w:World) :
    Calls Tryz.prog 94 #[.agg (ints .u64 (nw3 a)),.agg (ints .u64 (nw3 b))] w (Ret w (.agg (ints .u64 (nw3 (mulV (a*b)))))) :=
  mulW _ _ _ _ _ _ a b (Qc0 _) (Qc0 _) (Qc0 _) (Qc0 _) (Qc0 _) (Qc0 _) (Qgk a ha oo) (Qgk b hb oo) hal hbl w
end Ae
end
section
namespace Ae
open Go Go.RowKit
open Rely Auto Own Sha
open Sha Cha
theorem run_storeQ {P : Program} {ρ:Operand→Value} {o:Oper} {w:World} (ty:TypeId) (x y:Operand) (g off:Nat) (t:TypeId) (pre post:List (Array Value)) (u v:Value) (hg:w.heap[g]? = some (.cells (cat (pre++([#[u]]++post))) t))
    (ho:o.op=.store ty x y) (hx:ρ x=pp g off) (hy:ρ y=v) (hi:(P.info? ty).map (·.size)=some 1) (hp:(cat pre).size=off) (h1:v.oneCell'=true) (hcs:v.cells=#[v]) :
    (execOp ρ o).run P w=.ok .skip (w.setRow g (cat (pre++([#[v]]++post)))):=by
  subst hp
  have hs:Nat.blt (cat pre).size (cat (pre++([#[u]]++post))).size=true:=by
    have:(cat pre).size<(cat (pre++([#[u]]++post))).size:=by
      rw [QaG,QaG,qS,qS]
      have e1:(cat [#[u]]).size=1:=rfl
      omega
    simpa using this
  have e:(cat (pre++([#[u]]++post))).setIfInBounds (cat pre).size v=cat (pre++([#[v]]++post)):=by
    rw [QaG,QaG,QaG,QaG]
    have e1:∀ z,cat [#[z]]=#[z]:=fun z=>rfl
    rw [e1,e1,Array.setIfInBounds_append_right (qR _),zag,Array.setIfInBounds_append_left (by simp)]
    rfl
  rw [←e]
  exact Qbj ty x y g _ t _ v hg ho hx hy hi hs h1 hcs
theorem QmQ {k : IntKind} {T:TypeId} {g n0 n l h:Nat} {xs:List Int} (pre post:List (Array Value)) {W:World} (hp:(cat pre).size=n0) (hn:xs.length=n) (r:W.heap[g]? = some (.cells (cat (pre++([ints k xs]++post))) T)) (h1:l≤h) (h2:h≤n) (h3:n≤maxLen) :
    RdK k W.heap.size ((xs.drop l).take (h-l)) (.slice (some ⟨g,n0+l,none⟩) (h-l) (n-l)) W :=
  Qeq (n0+l) (by rw [zae,zaO]; omega) r (fun i hi=>by
    rw [Qgm _ _ _ hi,Qih]
    exact QdZ pre post xs n0 (l+i) _ hp oo oo) (Qaq r) oo oo
theorem Qij (v : Int):mulV v%PP=v%PP:=by
  unfold mulV PP
  omega
theorem Qnn (v : Int) (h0:0≤v) (h:v<115792089237316195423570985008687907853269984665640564039457584007913129639936):0≤mulV v∧mulV v<2041694201525630780780247644590609268736:=by
  unfold mulV
  omega
theorem QgX {c : List Int} (hb:Qak c) (hl:c.length≤16):0≤lev (c++[1])∧lev (c++[1])≤680564733841876926926749214863536422912:=by
  have h1:=QgY hb
  have h0:=QcX hb
  rw [Qgr]
  have h2:p256 16=p256 c.length*p256 (16-c.length):=by rw [←Qd3]; congr 1; omega
  have h3:=Qde (16-c.length)
  have h4:p256 c.length*1≤p256 c.length*p256 (16-c.length):=zbi oo (Int.le_of_lt (Qde _))
  have h5:=Qde c.length
  rw [p16] at h2
  omega
theorem Qlf (pl : List Int) (m:Nat) (h:m<pl.length):((pl.set m 1).drop 0).take (m+1-0)=pl.take m++[1]:=by
  show (pl.set m 1).take (m+1)=_
  rw [QeX _ m (by rw [zaa]; exact h)]
  congr 1
  · rw [List.take_set_of_le (qR _)]
  · simp [nth,h]
def QeV (r S:Int) (c:List Int):Int:=mulV ((S+lev (c++[1]))*r)
theorem QhN {r S:Int} {c:List Int} (hS:0≤S∧S<2041694201525630780780247644590609268736) (hr:0≤r∧r<21267647932558653966460912964485513216) (hb:Qak c) (hl:c.length≤16):0≤QeV r S c∧QeV r S c<2041694201525630780780247644590609268736:=by
  obtain ⟨h0,h1⟩:=QgX hb hl
  exact Qnn _ (zbc oo hr.1) (QgT oo hr.1 oo hr.2)
set_option maxRecDepth 100000 in
theorem turnC (g : Nat) (r s S:Int) (pl:List Int) (m:Nat) (w:World) (hr:0≤r∧r<21267647932558653966460912964485513216) (hS:0≤S∧S<2041694201525630780780247644590609268736) (hpl:pl.length=17) (hpb:Qak pl) (hm:m≤16) (hg:w.heap[g]? = some (.cells (cat [ints .u64 (nw3 r),ints .u64 (nw3 s),ints .u64 (nw3 (S)),ints .u8 (pl),#[.int .i64 (m:Int)]]) 164)) :
    Calls Tryz.prog 89 #[pp g 0] w (fun e W=>e=.returned (.tuple #[])∧ExtB g w W∧W.heap[g]? = some (.cells (cat [ints .u64 (nw3 r),ints .u64 (nw3 s),ints .u64 (nw3 (QeV r S (pl.take m))),ints .u8 (pl.set m 1),#[.int .i64 0]]) 164)):=by
  have hpl1:(pl.set m 1).length=17:=by rw [zaa,hpl]
  have hpb1:Qak (pl.set m 1):=QbS hpb _ dd dd
  have hset:=Qlf pl m oo
  obtain ⟨hc0,hc1⟩:0≤lev (((pl.set m 1).drop 0).take (m+1-0))∧lev (((pl.set m 1).drop 0).take (m+1-0))≤680564733841876926926749214863536422912:=by rw [hset]; exact QgX (Qbg hpb m) (by rw [zae]; omega)
  refine enter 36 [(0,pp g 0)] Tryz.func89 rfl rfl kj rfl <| wp_seq_k fun K2 hK2=>Qba 8 [⟨none,[(0,none)]⟩,⟨none,[(0,none)]⟩,⟨none,[(3,some 1)]⟩,⟨none,[(4,some 2)]⟩,⟨none,[(5,some 3)]⟩,⟨none,[(2,some 0)]⟩,⟨none,[(7,some 5)]⟩,⟨none,[(8,some 6),(6,some 4)]⟩] kj kj fun F hF=>Qar (pp g 0) kj kj (fun _=>kj) <| Qar (pp g 0) kj kj (fun _=>kj) <| Qar (pp g 0) kj kj (fun _=>kj) <| Qar (pp g 26) kj kj (fun _=>kj) <| QaK (.int .i64 (m:Int)) kj kj (fun W hR=>(Qab 3 _ g 26 164 _ (.int .i64 (m:Int)) _ (Qaa (Qaa hg (Qan _)) hR) rfl kj (Qap [ints .u64 (nw3 r),ints .u64 (nw3 s),ints .u64 (nw3 (S)),ints .u8 (pl)] [#[.int .i64 (m:Int)]] [] 26 (by rw [Qal,Qal,Qal,Qal]; simp only [qS,cat,(izT (Qa8 _)),(izT hpl)]; rfl) 0 _ rfl) kj)) ?_
  refine Qar (pp g 0) kj kj (fun _=>kj) <| Qar (pp g 9) kj kj (fun _=>kj) <| Qar (pp g (9+m*1)) kj kj (fun W=>(Qcj 162 _ _ .i64 m g 9 17 5 1 rfl kj kj kj kj (show m<17 by omega))) <| Qbh (hF _ kj fun W1 e1=>?_)
  simp only [ups,up,zbq,za0,zaf,za1,za2,zax,zay]
  clear hF
  have r1_1:=(Qaa hg e1)
  refine Qag g _ (cat [ints .u64 (nw3 r),ints .u64 (nw3 s),ints .u64 (nw3 (S)),ints .u8 ((pl).set m 1),#[.int .i64 (m:Int)]]) 164 r1_1 rfl kj (Qek 5 _ _ g (9+m*1) 164 [ints .u64 (nw3 r),ints .u64 (nw3 s),ints .u64 (nw3 (S))] [#[.int .i64 (m:Int)]] pl 9 m _ r1_1 rfl kj kj kj (by rw [Qal,Qal,Qal]; simp only [qS,cat,(izT (Qa8 _))]; rfl) oo (zav (show m<17 by omega) hpl.symm)) fun W2 p2 r1_2=>?_
  refine sgN hK2 <| wp_seq_k fun K3 hK3=>Qba 23 [⟨none,[(0,none)]⟩,⟨none,[(0,none)]⟩,⟨none,[(11,some 1)]⟩,⟨none,[(12,some 2)]⟩,⟨none,[(13,some 3)]⟩,⟨none,[(0,none)]⟩,⟨none,[(15,some 5)]⟩,⟨none,[(16,some 6)]⟩,⟨none,[(0,none)]⟩,⟨none,[(18,some 8)]⟩,⟨none,[(19,some 9)]⟩,⟨none,[(20,some 10)]⟩,⟨none,[(21,some 11)]⟩,⟨none,[(17,some 7),(22,some 12)]⟩,⟨none,[(23,some 13)]⟩,⟨none,[(14,some 4),(24,some 14)]⟩,⟨none,[(0,none)]⟩,⟨none,[(26,some 16)]⟩,⟨none,[(27,some 17)]⟩,⟨none,[(28,some 18)]⟩,⟨none,[(25,some 15),(29,some 19)]⟩,⟨none,[(10,some 0)]⟩,⟨none,[(31,some 21)]⟩] kj kj fun F hF=>Qar (pp g 0) kj kj (fun _=>kj) <| Qar (pp g 0) kj kj (fun _=>kj) <| Qar (pp g 0) kj kj (fun _=>kj) <| Qar (pp g 6) kj kj (fun _=>kj) <| QaK (.agg (ints .u64 (nw3 (S)))) kj kj (fun W hR=>(Qa4 159 _ g 6 164 _ _ _ (Qaa (Qaa r1_2 (Qan _)) hR) rfl kj (Qap [ints .u64 (nw3 r),ints .u64 (nw3 s)] [ints .u64 (nw3 (S))] [ints .u8 ((pl).set m 1),#[.int .i64 (m:Int)]] 6 (by rw [Qal,Qal]; simp only [qS,cat,(izT (Qa8 _))]; rfl)) kj (isz (n:=3) kj (izT (Qa8 _))))) ?_
  refine Qar (pp g 0) kj kj (fun _=>kj) <| Qar (pp g 0) kj kj (fun _=>kj) <| Qar (pp g 9) kj kj (fun _=>kj) <| Qar (pp g 0) kj kj (fun _=>kj) <| Qar (pp g 0) kj kj (fun _=>kj) <| Qar (pp g 26) kj kj (fun _=>kj) <| QaK (.int .i64 (m:Int)) kj kj (fun W hR=>(Qab 3 _ g 26 164 _ (.int .i64 (m:Int)) _ (Qaa (Qaa r1_2 (Qan _)) hR) rfl kj (Qap [ints .u64 (nw3 r),ints .u64 (nw3 s),ints .u64 (nw3 (S)),ints .u8 ((pl).set m 1)] [#[.int .i64 (m:Int)]] [] 26 (by rw [Qal,Qal,Qal,Qal]; simp only [qS,cat,(izT ((zaa ..).trans hpl)),(izT (Qa8 _))]; rfl) 0 _ rfl) kj)) ?_
  refine Qar (.int .i64 ((m+1:Nat):Int)) kj kj (fun W=>(Qac (u:=.int .i64 (zaz.wrap ((m:Int)+1))) kj (congrArg (zau .i64) (IntWalk.i64_in _ oo)))) <| Qar (.slice (some ⟨g,9+0,none⟩) ((m+1)-0) (17-0)) kj kj (fun W=>(QbA 162 _ _ _ 0 (m+1) 17 g 9 5 rfl kj kj kj rfl ⟨.i64,by kernel_rfl⟩ oo oo oo)) <| QcP (.agg (ints .u64 (nw3 (lev (((pl.set m 1).drop 0).take (m+1-0)))))) 88 #[.slice (some ⟨g,9+0,none⟩) ((m+1)-0) (17-0)] kj kj (fun _=>kj) (fun W hR=>(Qjz (((pl.set m 1).drop 0).take (m+1-0)) _ _ W (QmQ (n0:=9) (l:=0) (h:=m+1) [ints .u64 (nw3 r),ints .u64 (nw3 s),ints .u64 (nw3 (S))] [#[.int .i64 (m:Int)]] kj hpl1 (Qaa (Qaa r1_2 (Qan _)) hR) oo oo dd) (by rw [zae]; omega) (Qbg (QbC hpb1 0) _))) ?_
  refine QcP (.agg (ints .u64 (nw3 (S+lev (((pl.set m 1).drop 0).take (m+1-0)))))) 90 #[.agg (ints .u64 (nw3 (S))),.agg (ints .u64 (nw3 (lev (((pl.set m 1).drop 0).take (m+1-0)))))] kj kj (fun _=>kj) (fun W hR=>(Qh2 S (lev (((pl.set m 1).drop 0).take (m+1-0))) hS.1 hc0 oo oo oo) W) <| Qar (pp g 0) kj kj (fun _=>kj) <| Qar (pp g 0) kj kj (fun _=>kj) <| Qar (pp g 0) kj kj (fun _=>kj) <| QaK (.agg (ints .u64 (nw3 r))) kj kj (fun W hR=>(Qa4 159 _ g 0 164 _ _ _ (Qaa (Qaa r1_2 (Qan _)) hR) rfl kj (Qap [] [ints .u64 (nw3 r)] [ints .u64 (nw3 s),ints .u64 (nw3 (S)),ints .u8 ((pl).set m 1),#[.int .i64 (m:Int)]] 0 kj) kj (isz (n:=3) kj (izT (Qa8 _))))) <| QcP (.agg (ints .u64 (nw3 (mulV ((S+lev (((pl.set m 1).drop 0).take (m+1-0)))*r))))) 94 #[.agg (ints .u64 (nw3 (S+lev (((pl.set m 1).drop 0).take (m+1-0))))),.agg (ints .u64 (nw3 r))] kj kj (fun _=>kj) (fun W hR=>(Qkd (S+lev (((pl.set m 1).drop 0).take (m+1-0))) r oo hr.1 oo hr.2) W) <| Qar (pp g 0) kj kj (fun _=>kj) <| Qar (pp g 6) kj kj (fun _=>kj) <| Qbh (hF _ kj fun W3 e3=>?_)
  simp only [ups,up,zbq,za0,zaf,za1,za2,zax,zay]
  clear hF
  have r1_3:=(Qaa r1_2 e3)
  refine Qag g _ (cat [ints .u64 (nw3 r),ints .u64 (nw3 s),ints .u64 (nw3 (mulV ((S+lev (((pl.set m 1).drop 0).take (m+1-0)))*r))),ints .u8 ((pl).set m 1),#[.int .i64 (m:Int)]]) 164 r1_3 rfl kj (QbG 159 _ _ g 6 164 [ints .u64 (nw3 r),ints .u64 (nw3 s)] [ints .u64 (nw3 (S))] [ints .u64 (nw3 (mulV ((S+lev (((pl.set m 1).drop 0).take (m+1-0)))*r)))] [ints .u8 ((pl).set m 1),#[.int .i64 (m:Int)]] r1_3 rfl kj kj (isz (n:=3) kj (izT (Qa8 _))) (by rw [Qal,Qal]; simp only [qS,cat,(izT (Qa8 _))]; rfl) (eqsz (n:=3) (izT (Qa8 _)) (izT (Qa8 _))) (Qat _ _)) fun W4 p4 r1_4=>?_
  refine sgN hK3 <| Qaj <| sg 3 kj <| Qag g _ (cat [ints .u64 (nw3 r),ints .u64 (nw3 s),ints .u64 (nw3 (mulV ((S+lev (((pl.set m 1).drop 0).take (m+1-0)))*r))),ints .u8 ((pl).set m 1),#[.int .i64 0]]) 164 r1_4 rfl kj (run_storeQ 3 _ _ g 26 164 [ints .u64 (nw3 r),ints .u64 (nw3 s),ints .u64 (nw3 (mulV ((S+lev (((pl.set m 1).drop 0).take (m+1-0)))*r))),ints .u8 ((pl).set m 1)] [] _ (.int .i64 0) r1_4 rfl kj kj kj (by rw [Qal,Qal,Qal,Qal]; simp only [qS,cat,(izT ((zaa ..).trans hpl)),(izT (Qa8 _))]; rfl) rfl rfl) fun W5 p5 r1_5=>?_
  refine Qas ?_
  with_reducible repeat first | refine goX1 ?_ | refine goX2 ?_ | refine goX3 ?_
  exact (show bodyPost _ _ _ .normal _ _ from end0 rfl ⟨rfl,(zbt (zbt (zbs (zbt (zbs (zbr g w) e1) p2) e3) p4) p5),by have h9:=r1_5; rw [hset] at h9; exact h9⟩)
end Ae
end
section
namespace Ae
open Go Go.RowKit
open Rely Auto Own Sha
open Sha Cha
section
variable {ds : List Deferred} {P : Program} {ops : Array Oper} {Q : Exit → Act → World → Prop} {rest : List Oper} {o : Oper} {N : Nat} {L : Env} {W : World}
theorem Qg6 {k : IntKind} {e:TypeId} (x y:Operand) (tx ty:TypeId) (d:Nat) (ho:o.op=.call { callee:=.builtin .copy,args:=#[x,y],argTypes:=#[tx,ty] }) (hu:P.underlying tx=some (.slice e)) (hsz:(P.info? e).map (·.size)=some 1) (hd:o.dst=some d) (hgd:Qbp ops o N L=some true)
    {g n0 off dl dc n B:Nat} (pre post:List (Array Value)) {xs z:List Int} {v:Value} {T:TypeId} (hp:(cat pre).size=n0) (hx:Rely.look (envN N L) x=.slice (some ⟨g,n0+off,none⟩) dl dc) (hy:Rely.look (envN N L) y=v) (hr:RdK k B z v W)
    (hg:W.heap[g]? = some (.cells (cat (pre++([ints k xs]++post))) T)) (hq:off+dl≤xs.length) (hn:n=min z.length dl) (h0:0<n)
    (kk:∀ W':World,Puts W g W'→W'.heap[g]? = some (.cells (cat (pre++([ints k (xs.take off++z.take n++xs.drop (off+n))]++post))) T)→WL P ops Q rest (Qav ds N ((d,.int .i64 (n:Int))::L)) W'):WL P ops Q (o::rest) (Qav ds N L) W:=by
  obtain ⟨a,cap,rfl,y2,y3,y4,y5⟩:=hr
  have hgo:∀ W',(Builtin.copy_ #[tx,ty] o.type #[.slice (some ⟨g,n0+off,none⟩) dl dc,.slice a z.length cap]).run P W=.ok (goInt n) W'→(execOp (Rely.look (envN N L)) o).run P W=.ok (.value (.int .i64 (n:Int))) W':=fun W' h=>by
    unfold execOp
    simp only [ho,resolve,invoke,builtin,za6,za7,za8,za9,List.map_cons,List.map_nil,hx,hy,h,goInt]
  obtain ⟨gz,oz,rfl,z2,z3,z4⟩:=y5.resolve_left (fun e=>by rw [e] at hn; simp at hn; omega)
  have hlen:((z.take n).map (zau k)).length=n:=by simp; omega
  have hsz2:(cat (pre++([ints k xs]++post))).size=n0+xs.length+(cat post).size:=by
    rw [QaG,QaG,qS,qS,hp]
    show n0+((cat [ints k xs]).size+(cat post).size)=_
    rw [show cat [ints k xs]=ints k xs by simp [cat],Qbq]; omega
  have h:=run_copy_row (P:=P) W tx ty o.type e g (n0+off) dl dc ⟨gz,oz,none⟩ z.length cap (cat (pre++([ints k xs]++post))) T ((z.take n).map (zau k)) hu hsz hg (by rw [hlen]; exact hn)
    (Qh7 (k:=k) (ys:=z.take n) fun i hi=>by
      rw [zae] at hi
      rw [z4 i oo]
      simp [nth,show i<n by omega]) (by rw [hlen,hsz2]; omega) (Qh3 k _)
  rw [hlen] at h
  have hpl:(cat pre).toList.length=n0:=by rw [Array.length_toList,hp]
  have e1:((cat (pre++([ints k xs]++post))).toList.take (n0+off)++(z.take n).map (zau k)++(cat (pre++([ints k xs]++post))).toList.drop (n0+off+n)).toArray=cat (pre++([ints k (xs.take off++z.take n++xs.drop (off+n))]++post)):=by
    apply Array.ext'
    have ec:∀ ys:List Int,(cat (pre++([ints k ys]++post))).toList=(cat pre).toList++(ys.map (zau k)++(cat post).toList):=fun ys=>by
      rw [QaG,QaG]
      simp [cat,ints]
    show (cat (pre++([ints k xs]++post))).toList.take (n0+off)++(z.take n).map (zau k)++(cat (pre++([ints k xs]++post))).toList.drop (n0+off+n)=_
    rw [ec,ec,List.take_append,zai oo,hpl,show n0+off-n0=off by omega,zaF (by rw [zab]; omega),List.drop_append,zaE oo,hpl,show n0+off+n-n0=off+n by omega,zax,zaD (by rw [zab]; omega)]
    simp only [List.map_append,zaH,List.map_drop,zal]
  rw [e1] at h
  exact Qbs _ _ d hd hgd (hgo _ h) (kk _ (Qbe _ _ _) (setRow_heap _ _ _ _ _ _ hg))
end
theorem Qfh (r : Int) (u z:List Int):∀ n,16*n≤u.length→Qdu r (u++z) n=Qdu r u n
  | 0,_=>rfl
  | n+1,h=>by
    unfold Qdu
    rw [Qfh r u z n oo,zaD oo,zaF (by rw [zaO]; omega)]
theorem Qpo {r S:Int} {u z:List Int} {q m:Nat} (hu:u.length=16*q+m) (hz:z.length=16-m) (hm:m<16) (hS:S%PP=Qdu r u q):QeV r S (u.drop (16*q)++z)%PP=Qdu r (u++z) (q+1):=by
  unfold Qdu QeV
  rw [Qfh r u z q oo,zaD oo,zai (by rw [zad,zaO]; omega)]
  exact Qf8 hS (Qij _)
theorem into_take {pl z:List Int} {m n:Nat} (hm:m≤pl.length) (hz:z.length=n):(pl.take m++z++pl.drop (m+n)).take (m+n)=pl.take m++z:=by
  have h1:(pl.take m++z).length=m+n:=by rw [zad,zae,hz]; omega
  rw [zaF oo,zai oo]
theorem into_len {pl z:List Int} {m n:Nat} (hm:m+n≤pl.length) (hz:z.length=n):(pl.take m++z++pl.drop (m+n)).length=pl.length:=by
  rw [zad,zad,zae,zaO,hz]; omega
theorem Qg2 (ys : List Int) (k n:Nat):ys.take (k+n)=ys.take k++(ys.drop k).take n:=List.take_add ..
def Mk (g : Nat) (r s:Int) (t:List Int) (W:World):Prop:=∃ (S:Int) (pl:List Int) (q m:Nat),t.length=16*q+m∧m<16∧W.heap[g]? = some (.cells (cat [ints .u64 (nw3 r),ints .u64 (nw3 s),ints .u64 (nw3 (S)),ints .u8 (pl),#[.int .i64 (m:Int)]]) 164)∧S%PP=Qdu r t q∧(0≤S∧S<2041694201525630780780247644590609268736)∧pl.length=17∧Qak pl∧pl.take m=t.drop (16*q)
set_option maxRecDepth 100000 in
theorem addC (g : Nat) (r s:Int) (t ys:List Int) (v:Value) (B:Nat) (w:World) (hr:0≤r∧r<21267647932558653966460912964485513216) (hBg:B≤g) (hy:RdK .u8 B ys v w) (hyb:Qak ys) (hyl:ys.length≤3000000) (hM:Mk g r s t w) :
  Calls Tryz.prog 76 #[pp g 0,v] w (fun e W=>e=.returned (.tuple #[])∧ExtB g w W∧Mk g r s (t++ys) W):=by
 obtain ⟨S0,pl0,q0,m0,hq0,hm0,hg,hSm0,hS0,hpl0,hpb0,hpt0⟩:=hM
 refine enter 36 [(0,pp g 0),(1,v)] Tryz.func76 rfl rfl kj rfl <| wp_block <| Qa3 (fun (s1:Nat×Nat×Nat×Int×List Int×Value)=>[(0,pp g 0),(1,s1.2.2.2.2.2)]) (fun (s1:Nat×Nat×Nat×Int×List Int×Value) W=>(s1.1≤ys.length)∧(RdK .u8 B (ys.drop s1.1) s1.2.2.2.2.2 W)∧(t.length+s1.1=16*s1.2.2.1+s1.2.1∧s1.2.1<16)∧(s1.2.2.2.1%PP=Qdu r (t++ys.take s1.1) s1.2.2.1)∧(0≤s1.2.2.2.1∧s1.2.2.2.1<2041694201525630780780247644590609268736)∧(s1.2.2.2.2.1.length=17)∧(Qak s1.2.2.2.2.1)∧(s1.2.2.2.2.1.take s1.2.1=(t++ys.take s1.1).drop (16*s1.2.2.1))∧(W.heap[g]? = some (.cells (cat [ints .u64 (nw3 r),ints .u64 (nw3 s),ints .u64 (nw3 (s1.2.2.2.1)),ints .u8 (s1.2.2.2.2.1),#[.int .i64 (s1.2.1:Int)]]) 164))∧(Qai [g] w W)∧(ExtB g w W)) (fun (s1:Nat×Nat×Nat×Int×List Int×Value)=>ys.length-s1.1) (0,m0,q0,S0,pl0,v) ⟨kj,kj,trivial⟩ ⟨(zaw _),(show RdK .u8 B (ys.drop 0) v w from hy),⟨hq0,hm0⟩,(show S0%PP=Qdu r (t++ys.take 0) q0 by rw [zaf,zah]; exact hSm0),hS0,hpl0,hpb0,(show pl0.take m0=(t++ys.take 0).drop (16*q0) by rw [zaf,zah]; exact hpt0),hg,(zbx [g] w),(zbr g w)⟩ fun s1 X1 V1 hI1=>?_
 obtain ⟨k,m,q,S,pl,bv⟩:=s1
 obtain ⟨hk,hrb,hmq,hSm,hS,hpl,hpb,hpt,q1_1,kk1,xx1⟩:=hI1
 replace hk:k≤ys.length:=hk
 replace hrb:RdK .u8 B (ys.drop k) bv V1:=hrb
 replace hmq:t.length+k=16*q+m∧m<16:=hmq
 replace hSm:S%PP=Qdu r (t++ys.take k) q:=hSm
 replace hS:0≤S∧S<2041694201525630780780247644590609268736:=hS
 replace hpl:pl.length=17:=hpl
 replace hpb:Qak pl:=hpb
 replace hpt:pl.take m=(t++ys.take k).drop (16*q):=hpt
 replace q1_1:V1.heap[g]? = some (.cells (cat [ints .u64 (nw3 r),ints .u64 (nw3 s),ints .u64 (nw3 (S)),ints .u8 (pl),#[.int .i64 (m:Int)]]) 164):=q1_1
 replace kk1:Qai [g] w V1:=kk1
 replace xx1:ExtB g w V1:=xx1
 have q1:=kk1
 obtain ⟨ab,cb,rfl,hcb,-,-,-⟩:=id hrb
 have hld:(ys.drop k).length=ys.length-k:=zaO ..
 refine wp_seq_k fun K2 hK2=>sgB kj <| Qay (t:=decide ((((ys.drop k).length:Nat):Int)>0)) kj (fun c4=>?_) (fun c4=>?_)
 ·skip
  have hlt:k<ys.length:=by have:=of_decide_eq_true c4; omega
  refine wp_skip <| hK2 _ _ <| wp_block <| wp_seq_k fun K5 hK5=>?_
  rcases (show 16-m≤ys.length-k∨ys.length-k<16-m by omega) with hq | hq
  ·skip
   obtain ⟨n,en⟩:∃ z,z=(16-m):=⟨_,rfl⟩
   have hn0:0<n∧m+n≤16∧k+n≤ys.length:=by omega
   have hnm:n=min (ys.drop k).length (16-m):=by omega
   refine QaT 9 [⟨none,[(0,none)]⟩,⟨none,[(8,some 0)]⟩,⟨none,[(9,some 1)]⟩,⟨none,[(0,none)]⟩,⟨none,[(11,some 3)]⟩,⟨none,[(12,some 4)]⟩,⟨none,[(13,some 5)]⟩,⟨none,[(10,some 2),(14,some 6)]⟩,⟨none,[(1,none)]⟩] kj kj fun F hF=>Qa2 (Qam _) (pp g 0) kj kj (fun _=>kj) <| Qa2 (Qam _) (pp g 0) kj kj (fun _=>kj) <| Qa2 (Qam _) (pp g 9) kj kj (fun _=>kj) <| Qa2 (Qam _) (pp g 0) kj kj (fun _=>kj) <| Qa2 (Qam _) (pp g 0) kj kj (fun _=>kj) <| Qa2 (Qam _) (pp g 26) kj kj (fun _=>kj) <| QaN (Qam _) (.int .i64 (m:Int)) kj kj (fun W hR=>(Qab 3 _ g 26 164 _ (.int .i64 (m:Int)) _ (Qaa (Qaa q1_1 (Qan _)) hR) rfl kj (Qap [ints .u64 (nw3 r),ints .u64 (nw3 s),ints .u64 (nw3 (S)),ints .u8 (pl)] [#[.int .i64 (m:Int)]] [] 26 (by rw [Qal,Qal,Qal,Qal]; simp only [qS,cat,(izT (Qa8 _)),(izT hpl)]; rfl) 0 _ rfl) kj)) ?_
   refine Qa2 (Qam _) (.slice (some ⟨g,9+m,none⟩) (16-m) (17-m)) kj kj (fun W=>(QbA 162 _ _ _ m 16 17 g 9 5 rfl kj kj kj ⟨.i64,by kernel_rfl⟩ ⟨.i64,by kernel_rfl⟩ oo oo oo)) <| Qa2 (Qam _) (.slice ab ((ys.drop k).length) cb) kj kj (fun _=>kj) <| Qc3 (hF _ fun W2 e2=>?_)
   simp only [zax,zay,za0,zaf,za1,za2,finE,up]
   clear hF
   have x2:=zbs xx1 e2
   have r1_2:=(Qaa q1_1 e2)
   have f6_2:=(hrb.ext e2)
   refine Qg6 (k:=.u8) (e:=5) (n0:=9) (off:=m) (dl:=16-m) (dc:=17-m) (n:=n) (.tmp 15) (.tmp 16) 41 41 17 rfl kj kj rfl kj [ints .u64 (nw3 r),ints .u64 (nw3 s),ints .u64 (nw3 (S))] [#[.int .i64 (m:Int)]] (xs:=pl) (z:=ys.drop k) kj kj kj f6_2 r1_2 (by rw [hpl]; omega) hnm hn0.1 fun W3 p3 r1_3=>?_
   have x3:=zbt x2 p3
   obtain ⟨z,ez⟩:∃ z,z=(ys.drop k).take n:=⟨_,rfl⟩
   have hzl:z.length=n:=by rw [ez,zae]; omega
   have hzb:Qak z:=ez▸Qbg (QbC hyb k) n
   rw [←ez] at r1_3
   obtain ⟨pl1,epl1⟩:∃ y,y=pl.take m++z++pl.drop (m+n):=⟨_,rfl⟩
   have hpl1:pl1.length=17:=by rw [epl1,into_len oo hzl,hpl]
   have hpb1:Qak pl1:=epl1▸bytes_app (bytes_app (Qbg hpb m) hzb) (QbC hpb _)
   rw [←epl1] at r1_3
   have hpt1:pl1.take (m+n)=pl.take m++z:=by rw [epl1]; exact into_take oo hzl
   refine sg 1 kj <| sgN hK5 <| sgC fun K7 hK7=>sg 2 kj <| sv (.slice (Qfd ab cb n) ((ys.drop k).length-n) (cb-n)) 20 (Qel (len:=(ys.drop k).length) 41 _ _ n 5 rfl kj kj kj .i64 kj oo hcb) <| sg 1 kj <| sgN hK7 <| sgC fun K8 hK8=>sg 3 kj <| sv (.int .i64 (m:Int)) 24 (Qab 3 _ g 26 164 _ (.int .i64 (m:Int)) _ r1_3 rfl kj (Qap [ints .u64 (nw3 r),ints .u64 (nw3 s),ints .u64 (nw3 (S)),ints .u8 (pl1)] [#[.int .i64 (m:Int)]] [] 26 (by rw [Qal,Qal,Qal,Qal]; simp only [qS,cat,(izT (Qa8 _)),(izT hpl1)]; rfl) 0 _ rfl) kj) ?_
   refine sg 1 kj <| sv (.int .i64 ((m+n:Nat):Int)) 26 (Qac (u:=.int .i64 (zaz.wrap ((m:Int)+(n:Int)))) kj (congrArg (zau .i64) (i64n _ _ oo oo))) <| sg 2 kj <| Qag g _ (cat [ints .u64 (nw3 r),ints .u64 (nw3 s),ints .u64 (nw3 (S)),ints .u8 (pl1),#[.int .i64 ((m+n:Nat):Int)]]) 164 r1_3 rfl kj (run_storeQ 3 _ _ g 26 164 [ints .u64 (nw3 r),ints .u64 (nw3 s),ints .u64 (nw3 (S)),ints .u8 (pl1)] [] _ (.int .i64 ((m+n:Nat):Int)) r1_3 rfl kj kj kj (by rw [Qal,Qal,Qal,Qal]; simp only [qS,cat,(izT (Qa8 _)),(izT hpl1)]; rfl) rfl rfl) fun W4 p4 r1_4=>?_
   have x4:=zbt x3 p4
   refine sgN hK8 <| sgC fun K9 hK9=>sg 3 kj <| sv (.int .i64 ((m+n:Nat):Int)) 32 (Qab 3 _ g 26 164 _ (.int .i64 ((m+n:Nat):Int)) _ r1_4 rfl kj (Qap [ints .u64 (nw3 r),ints .u64 (nw3 s),ints .u64 (nw3 (S)),ints .u8 (pl1)] [#[.int .i64 ((m+n:Nat):Int)]] [] 26 (by rw [Qal,Qal,Qal,Qal]; simp only [qS,cat,(izT (Qa8 _)),(izT hpl1)]; rfl) 0 _ rfl) kj) ?_
   refine sv (.bool true) 33 (Qac (u:=.bool ((((m+n:Nat):Int)==16))) kj (congrArg zaL (by rw [show m+n=16 by omega]; rfl))) ?_
   refine sgN hK9 <| cond_true kj <| Qaj <| sg 1 kj <| Qau (fun v W'=>v=.tuple #[]∧ExtB g W4 W'∧W'.heap[g]? = some (.cells (cat [ints .u64 (nw3 r),ints .u64 (nw3 s),ints .u64 (nw3 (QeV r S (pl1.take (m+n)))),ints .u8 (pl1.set (m+n) 1),#[.int .i64 0]]) 164)) 89 #[pp g 0] 35 rfl kj kj ((turnC g r s S pl1 (m+n) _ hr hS hpl1 hpb1 hn0.2.1 r1_4).mono fun e w' h=>⟨_,h.1,rfl,h.2⟩) fun v W5 h=>?_
   obtain ⟨rfl,q5,r1_5⟩:=h
   have hpl2:(pl1.set (m+n) 1).length=17:=by rw [zaa,hpl1]
   refine Qas ?_
   have hu:(t++ys.take k).length=16*q+m:=by rw [zad,zae]; omega
   have htk:t++ys.take (k+n)=(t++ys.take k)++z:=by rw [Qg2 ys k n,←ez,zal]
   with_reducible repeat first | refine goX1 ?_ | refine goX2 ?_ | refine goX3 ?_
   exact Qa1 ((k+n),0,(q+1),(QeV r S (pl1.take (m+n))),(pl1.set (m+n) 1),(.slice (Qfd ab cb n) ((ys.drop k).length-n) (cb-n))) ⟨kj,kj,trivial⟩ ⟨(show k+n≤ys.length by omega),(by rw [show ys.drop (k+n)=(ys.drop k).drop n from (zbj ..).symm]; exact Qgd (((f6_2.puts p3 hBg).puts p4 hBg).extB q5 hBg) n oo),(show t.length+(k+n)=16*(q+1)+0∧0<16 by omega),(show _=Qdu r (t++ys.take (k+n)) (q+1) by rw [hpt1,hpt,htk]; exact Qpo hu oo hmq.2 hSm),(QhN hS hr (Qbg hpb1 _) (by rw [zae]; omega)),hpl2,(QbS hpb1 _ dd dd),(show (pl1.set (m+n) 1).take 0=(t++ys.take (k+n)).drop (16*(q+1)) by rw [htk,zaf,zaE (by rw [zad,hu]; omega)]),r1_5,(Qai.but (zb0 (zb0 (zbz q1 e2) p3 (.inl (by simp))) p4 (.inl (by simp))) q5 (.inl (by simp))),(ExtB.trans x4 q5)⟩ (by show ys.length-(k+n)<ys.length-k; omega)
  ·skip
   obtain ⟨n,en⟩:∃ z,z=(ys.length-k):=⟨_,rfl⟩
   have hn0:0<n∧m+n≤16∧k+n≤ys.length:=by omega
   have hnm:n=min (ys.drop k).length (16-m):=by omega
   refine QaT 9 [⟨none,[(0,none)]⟩,⟨none,[(8,some 0)]⟩,⟨none,[(9,some 1)]⟩,⟨none,[(0,none)]⟩,⟨none,[(11,some 3)]⟩,⟨none,[(12,some 4)]⟩,⟨none,[(13,some 5)]⟩,⟨none,[(10,some 2),(14,some 6)]⟩,⟨none,[(1,none)]⟩] kj kj fun F hF=>Qa2 (Qam _) (pp g 0) kj kj (fun _=>kj) <| Qa2 (Qam _) (pp g 0) kj kj (fun _=>kj) <| Qa2 (Qam _) (pp g 9) kj kj (fun _=>kj) <| Qa2 (Qam _) (pp g 0) kj kj (fun _=>kj) <| Qa2 (Qam _) (pp g 0) kj kj (fun _=>kj) <| Qa2 (Qam _) (pp g 26) kj kj (fun _=>kj) <| QaN (Qam _) (.int .i64 (m:Int)) kj kj (fun W hR=>(Qab 3 _ g 26 164 _ (.int .i64 (m:Int)) _ (Qaa (Qaa q1_1 (Qan _)) hR) rfl kj (Qap [ints .u64 (nw3 r),ints .u64 (nw3 s),ints .u64 (nw3 (S)),ints .u8 (pl)] [#[.int .i64 (m:Int)]] [] 26 (by rw [Qal,Qal,Qal,Qal]; simp only [qS,cat,(izT (Qa8 _)),(izT hpl)]; rfl) 0 _ rfl) kj)) ?_
   refine Qa2 (Qam _) (.slice (some ⟨g,9+m,none⟩) (16-m) (17-m)) kj kj (fun W=>(QbA 162 _ _ _ m 16 17 g 9 5 rfl kj kj kj ⟨.i64,by kernel_rfl⟩ ⟨.i64,by kernel_rfl⟩ oo oo oo)) <| Qa2 (Qam _) (.slice ab ((ys.drop k).length) cb) kj kj (fun _=>kj) <| Qc3 (hF _ fun W2 e2=>?_)
   simp only [zax,zay,za0,zaf,za1,za2,finE,up]
   clear hF
   have x2:=zbs xx1 e2
   have r1_2:=(Qaa q1_1 e2)
   have f13_2:=(hrb.ext e2)
   refine Qg6 (k:=.u8) (e:=5) (n0:=9) (off:=m) (dl:=16-m) (dc:=17-m) (n:=n) (.tmp 15) (.tmp 16) 41 41 17 rfl kj kj rfl kj [ints .u64 (nw3 r),ints .u64 (nw3 s),ints .u64 (nw3 (S))] [#[.int .i64 (m:Int)]] (xs:=pl) (z:=ys.drop k) kj kj kj f13_2 r1_2 (by rw [hpl]; omega) hnm hn0.1 fun W3 p3 r1_3=>?_
   have x3:=zbt x2 p3
   obtain ⟨z,ez⟩:∃ z,z=(ys.drop k).take n:=⟨_,rfl⟩
   have hzl:z.length=n:=by rw [ez,zae]; omega
   have hzb:Qak z:=ez▸Qbg (QbC hyb k) n
   rw [←ez] at r1_3
   obtain ⟨pl1,epl1⟩:∃ y,y=pl.take m++z++pl.drop (m+n):=⟨_,rfl⟩
   have hpl1:pl1.length=17:=by rw [epl1,into_len oo hzl,hpl]
   have hpb1:Qak pl1:=epl1▸bytes_app (bytes_app (Qbg hpb m) hzb) (QbC hpb _)
   rw [←epl1] at r1_3
   have hpt1:pl1.take (m+n)=pl.take m++z:=by rw [epl1]; exact into_take oo hzl
   refine sg 1 kj <| sgN hK5 <| sgC fun K14 hK14=>sg 2 kj <| sv (.slice (Qfd ab cb n) ((ys.drop k).length-n) (cb-n)) 20 (Qel (len:=(ys.drop k).length) 41 _ _ n 5 rfl kj kj kj .i64 kj oo hcb) <| sg 1 kj <| sgN hK14 <| sgC fun K15 hK15=>sg 3 kj <| sv (.int .i64 (m:Int)) 24 (Qab 3 _ g 26 164 _ (.int .i64 (m:Int)) _ r1_3 rfl kj (Qap [ints .u64 (nw3 r),ints .u64 (nw3 s),ints .u64 (nw3 (S)),ints .u8 (pl1)] [#[.int .i64 (m:Int)]] [] 26 (by rw [Qal,Qal,Qal,Qal]; simp only [qS,cat,(izT (Qa8 _)),(izT hpl1)]; rfl) 0 _ rfl) kj) ?_
   refine sg 1 kj <| sv (.int .i64 ((m+n:Nat):Int)) 26 (Qac (u:=.int .i64 (zaz.wrap ((m:Int)+(n:Int)))) kj (congrArg (zau .i64) (i64n _ _ oo oo))) <| sg 2 kj <| Qag g _ (cat [ints .u64 (nw3 r),ints .u64 (nw3 s),ints .u64 (nw3 (S)),ints .u8 (pl1),#[.int .i64 ((m+n:Nat):Int)]]) 164 r1_3 rfl kj (run_storeQ 3 _ _ g 26 164 [ints .u64 (nw3 r),ints .u64 (nw3 s),ints .u64 (nw3 (S)),ints .u8 (pl1)] [] _ (.int .i64 ((m+n:Nat):Int)) r1_3 rfl kj kj kj (by rw [Qal,Qal,Qal,Qal]; simp only [qS,cat,(izT (Qa8 _)),(izT hpl1)]; rfl) rfl rfl) fun W4 p4 r1_4=>?_
   have x4:=zbt x3 p4
   refine sgN hK15 <| sgC fun K16 hK16=>sg 3 kj <| sv (.int .i64 ((m+n:Nat):Int)) 32 (Qab 3 _ g 26 164 _ (.int .i64 ((m+n:Nat):Int)) _ r1_4 rfl kj (Qap [ints .u64 (nw3 r),ints .u64 (nw3 s),ints .u64 (nw3 (S)),ints .u8 (pl1)] [#[.int .i64 ((m+n:Nat):Int)]] [] 26 (by rw [Qal,Qal,Qal,Qal]; simp only [qS,cat,(izT (Qa8 _)),(izT hpl1)]; rfl) 0 _ rfl) kj) ?_
   refine sv (.bool false) 33 (Qac (u:=.bool ((((m+n:Nat):Int)==16))) kj (congrArg zaL (beq_eq_false_iff_ne.2 oo))) <| sgN hK16 <| cond_false kj <| wp_skip ?_
   have hu:(t++ys.take k).length=16*q+m:=by rw [zad,zae]; omega
   have htk:t++ys.take (k+n)=(t++ys.take k)++z:=by rw [Qg2 ys k n,←ez,zal]
   with_reducible repeat first | refine goX1 ?_ | refine goX2 ?_ | refine goX3 ?_
   exact Qa1 ((k+n),(m+n),q,S,pl1,(.slice (Qfd ab cb n) ((ys.drop k).length-n) (cb-n))) ⟨kj,kj,trivial⟩ ⟨(show k+n≤ys.length by omega),(by rw [show ys.drop (k+n)=(ys.drop k).drop n from (zbj ..).symm]; exact Qgd ((f13_2.puts p3 hBg).puts p4 hBg) n oo),(show t.length+(k+n)=16*q+(m+n)∧m+n<16 by omega),(show _=Qdu r (t++ys.take (k+n)) q by rw [htk,Qfh _ _ _ _ oo]; exact hSm),hS,hpl1,hpb1,(show pl1.take (m+n)=(t++ys.take (k+n)).drop (16*q) by rw [htk,hpt1,hpt]; exact (zaD oo).symm),r1_4,(zb0 (zb0 (zbz q1 e2) p3 (.inl (by simp))) p4 (.inl (by simp))),x4⟩ (by show ys.length-(k+n)<ys.length-k; omega)
 ·skip
  have hke:k=ys.length:=by have:=of_decide_eq_false c4; omega
  refine wp_exit ?_
  with_reducible repeat first | refine goX1 ?_ | refine goX2 ?_ | refine goX3 ?_
  exact (show bodyPost _ _ _ .normal _ _ from end0 rfl ⟨rfl,xx1,S,pl,q,m,by rw [zad]; omega,hmq.2,q1_1,by rw [hke,zbg] at hSm; exact hSm,hS,hpl,hpb,by rw [hke,zbg] at hpt; exact hpt⟩)
end Ae
end
section
namespace Ae
open Go Go.RowKit
open Rely Auto Own Sha
open Sha Cha
def QkI (b : List Int):List Int :=
  let b1:=b.set 3 (nth b 3%16)
  let b2:=b1.set 7 (nth b1 7%16)
  let b3:=b2.set 11 (nth b2 11%16)
  let b4:=b3.set 15 (nth b3 15%16)
  let b5:=b4.set 4 (nth b4 4/4*4)
  let b6:=b5.set 8 (nth b5 8/4*4)
  let b7:=b6.set 12 (nth b6 12/4*4)
  b7
theorem QhG : ∀ key:List Int,key.length=32→((QkI key).drop 0).take (16-0)=QeB ((key.drop 0).take (16-0))
  | [a0,a1,a2,a3,a4,a5,a6,a7,a8,a9,a10,a11,a12,a13,a14,a15,a16,a17,a18,a19,a20,a21,a22,a23,a24,a25,a26,a27,a28,a29,a30,a31],_=>by kernel_rfl
theorem Qme (x : Int) (h:0≤x∧x<256):bits .and .u8 x 15=x%16:=by
  have:∀ n:Fin 256,bits .and .u8 (n.1:Int) 15=(n.1:Int)%16:=by decide +kernel
  obtain ⟨X,rfl⟩:=zaV h.1
  exact this ⟨X,by omega⟩
theorem QkS (x : Int) (h:0≤x∧x<256):bits .and .u8 x 252=x/4*4:=by
  have:∀ n:Fin 256,bits .and .u8 (n.1:Int) 252=(n.1:Int)/4*4:=by decide +kernel
  obtain ⟨X,rfl⟩:=zaV h.1
  exact this ⟨X,by omega⟩
theorem QmR {r : Int} {t:List Int} {q:Nat} (h:t.length=16*q+0):QdC r t=Qdu r t q:=by unfold QdC; rw [show (t.length+15)/16=q by omega]
theorem Qpn {r S:Int} {t:List Int} {q m:Nat} (hu:t.length=16*q+m) (h0:0<m) (hm:m<16) (hS:S%PP=Qdu r t q):QeV r S (t.drop (16*q))%PP=QdC r t:=by
  unfold QdC
  rw [show (t.length+15)/16=q+1 by omega]
  unfold Qdu QeV
  rw [zai (by rw [zaO]; omega)]
  exact Qf8 hS (Qij _)
theorem geq4 (S : Int) (h0:0≤S) (h:S<2041694201525630780780247644590609268736):decide (nth (nw3 (S+5)) 2≥4)=decide (1361129467683753853853498429727072845824≤S+5):=by
  have e:nth (nw3 (S+5)) 2=(S+5)/340282366920938463463374607431768211456%18446744073709551616:=rfl
  rw [e]
  exact decide_eq_decide.2 oo
theorem Qi2 (x : Int):by16 (x+1361129467683753853853498429727072845824)=by16 x:=by
  unfold by16
  refine zaI fun i hi=>?_
  rw [zaJ] at hi
  have h1:(1361129467683753853853498429727072845824:Int)=p256 i*(256*(4*p256 (15-i))):=by
    have h2:p256 16=p256 i*p256 (16-i):=by rw [←Qd3]; congr 1; omega
    rw [show 16-i=(15-i)+1 by omega,QdT (15-i),p16] at h2
    grind
  rw [h1,zbk _ _ (Int.ne_of_gt (Qde i))]
  omega
theorem QlR (a : Int) (b c:Nat):a/p256 b/p256 c=a/p256 (b+c):=by
  rw [Qd3,Int.ediv_ediv,if_neg (by have:=Qde b; omega)]; exact Int.sub_zero _
theorem out_byte (V : Int) (i:Nat) (hi:i<16):zao.wrap (nth (nw3 V) (i/8)/p256 (i%8))=nth (by16 V) i:=by
  have h3:∀ z:Int,zao.wrap z=z%256:=fun _=>rfl
  have hp8:p256 8=18446744073709551616:=by decide +kernel
  rw [h3,Qmb _ _ hi]
  have hB:(18446744073709551616:Int)=p256 (i%8)*(256*p256 (7-i%8)):=by
    have h2:p256 8=p256 (i%8)*p256 (8-i%8):=by rw [←Qd3]; congr 1; omega
    rw [show 8-i%8=(7-i%8)+1 by omega,QdT (7-i%8),hp8] at h2
    exact h2
  have key:∀ x:Int,x%18446744073709551616/p256 (i%8)%256=x/p256 (i%8)%256:=fun x=>by
    have h5:x=x%18446744073709551616+p256 (i%8)*(256*(p256 (7-i%8)*(x/18446744073709551616))):=by
      have h6:x=x%18446744073709551616+18446744073709551616*(x/18446744073709551616):=(Int.emod_add_mul_ediv x _).symm
      have h7:(18446744073709551616:Int)*(x/18446744073709551616)=p256 (i%8)*(256*(p256 (7-i%8)*(x/18446744073709551616))):=by
        generalize x/18446744073709551616=y at *
        rw [hB]; grind
      omega
    have h8:x/p256 (i%8)=x%18446744073709551616/p256 (i%8)+256*(p256 (7-i%8)*(x/18446744073709551616)):=by
      have h9:=zbk (x%18446744073709551616) (256*(p256 (7-i%8)*(x/18446744073709551616))) (Int.ne_of_gt (Qde (i%8)))
      rw [←h5] at h9
      exact h9
    omega
  rcases (show i/8=0∨i/8=1 by omega) with h | h
  · rw [h]
    show V%18446744073709551616/p256 (i%8)%256=_
    rw [key,show i%8=i by omega]
  · rw [h]
    show V/18446744073709551616%18446744073709551616/p256 (i%8)%256=_
    rw [key,←hp8,QlR,show 8+i%8=i by omega]
theorem shr8 (q : Int) (t:Nat) (c:Int) (hc:c=((8*t:Nat):Int)) (ht:t<8):q.fdiv (2^min c.toNat zaX.bits)=q/p256 t:=by
  subst hc
  have hm:min ((8*t:Nat):Int).toNat zaX.bits=8*t:=by show min ((8*t:Nat):Int).toNat 64=8*t; omega
  have e:(2:Int)^(8*t)=p256 t:=by unfold p256; rw [Int.pow_mul]; rfl
  rw [hm,e,zbh _ (Int.le_of_lt (Qde t))]
theorem Qi3 {b : List Int} (h:Qak b) (i:Nat):Qak (b.set i (nth b i%16)):=QbS h _ oo oo
theorem QnH {b : List Int} (h:Qak b) (i:Nat):Qak (b.set i (nth b i/4*4)):=QbS h _ (by have:=Qbl h i; omega) (by have:=Qbl h i; omega)
theorem QfE (key : List Int) (hkl:key.length=32) (hkb:Qak key):0≤rOf key∧rOf key<21267647932558653966460912964485513216:=by
  unfold rOf
  obtain ⟨b0,e0⟩:∃ z,z=(key.drop 0).take (16-0):=⟨_,rfl⟩
  have hl0:b0.length=16:=by rw [e0,zae,zaO,hkl]; rfl
  have hb0:Qak b0:=e0▸Qbg (QbC hkb 0) _
  rw [←e0]
  have hcb:Qak (QeB b0):=by
    exact QnH (QnH (QnH (Qi3 (Qi3 (Qi3 (Qi3 hb0 3) 7) 11) 15) 4) 8) 12
  have hl:(QeB b0).length=16:=by unfold QeB; simp only [zaa,hl0]
  have h15:nth (QeB b0) 15≤15:=by
    obtain ⟨x15,e15⟩:∃ x,nth (QeB b0) 15=x%16:=by
      match b0,hl0 with
      | [a0,a1,a2,a3,a4,a5,a6,a7,a8,a9,a10,a11,a12,a13,a14,a15],_=>exact ⟨a15,rfl⟩
    rw [e15]; omega
  have h1:=QdW (QeB b0) 15 oo
  rw [zai oo] at h1
  have h2:=QgY (Qbg hcb 15)
  have h3:=QcX hcb
  rw [zae,zaU oo] at h2
  have hp15:p256 15=1329227995784915872903807060280344576:=by decide +kernel
  rw [hp15] at h1 h2
  omega
theorem Qoh (key : List Int) (hkl:key.length=32) (hkb:Qak key):0≤sOf key∧sOf key<340282366920938463463374607431768211456:=by
  unfold sOf
  have h1:=QgY (Qbg (QbC hkb 16) (32-16))
  rw [zae,zaO,hkl] at h1
  exact ⟨QcX (Qbg (QbC hkb 16) _),by rw [←p16]; exact h1⟩
set_option maxRecDepth 100000 in
theorem QiY (key : List Int) (w:World) (hkl:key.length=32) (hkb:Qak key):Calls Tryz.prog 75 #[.agg (ints .u8 key)] w (Qby w (fun v W=>∃ g,v=pp g 0∧w.heap.size≤g∧Mk g (rOf key) (sOf key) [] W)):=by
  refine enter 35 [(0,.agg (ints .u8 (key)))] Tryz.func75 rfl rfl kj rfl <| sgC fun K1 hK1=>Qah (ints .u8 (key)) 74 1 rfl kj kj fun g2 W1 l2 e1 r2_1=>?_
  have b2:=qT (zbl w).size l2
  refine sg 1 kj <| sgN hK1 <| sgC fun K3 hK3=>sv (.slice (some ⟨g2,0+16,none⟩) (32-16) (32-16)) 8 (QbA 74 _ _ _ 16 32 32 g2 0 5 rfl kj kj kj ⟨.i64,by kernel_rfl⟩ rfl oo oo oo) <| Qao (.agg (ints .u64 (nw3 (lev ((key.drop 16).take (32-16)))))) 88 #[.slice (some ⟨g2,0+16,none⟩) (32-16) (32-16)] 9 rfl kj kj ((Qjz ((key.drop 16).take (32-16)) _ _ _ (QjK (l:=16) (h:=32) hkl r2_1 dd dd dd) (by rw [zae]; omega) (Qbg (QbC hkb 16) _))) fun W2 e2=>?_
  have x2:=zbp (zbp (zbl w) e1) e2
  refine Qah (ints .u64 ([0,0,0])) 159 3 rfl kj kj fun g4 W3 l4 e3 r4_3=>Qag g4 _ (ints .u64 (nw3 (lev ((key.drop 16).take (32-16))))) 159 r4_3 rfl kj (Qaf 159 _ _ g4 159 _ _ r4_3 rfl kj kj (isz (n:=3) kj (izT (Qa8 _))) (eqsz (n:=3) kj (izT (Qa8 _))) (Qat _ _)) fun W4 p4 r4_4=>sgN hK3 <| wp_seq_k fun K5 hK5=>sgB kj <| wp_block <| wp_loop_rounds 5 ?_
  show zbd _ _ (Exit.then (zbe _ _ _ 4) _) _ _
  refine sgB kj <| sgT kj <| wp_seq_k fun K9 hK9=>wp_block <| sgC fun K10 hK10=>sv (.int .i64 3) 13 (QaE 154 _ _ .i64 .i64 ([3,7,11,15]) 0 4 3 3 rfl kj kj kj kj kj rfl dd rfl) <| sg 1 kj <| sgN hK10 <| Qaj <| sg 2 kj ?_
  have r2_2:=(Qaa r2_1 e2)
  have r2_4:=(rpn p4 r2_2 e3 l4)
  refine sv (.int .u8 (nth (key) 3)) 16 (Qab 5 _ g2 3 74 _ (.int .u8 (nth (key) 3)) _ r2_4 rfl kj (QaD _ _ _ (zav dd hkl.symm)) kj) <| sv (.int .u8 (nth key 3%16)) 17 (Qac (u:=.int .u8 (bits .and .u8 ((nth (key) 3)) (15))) kj (congrArg (zau .u8) (Qme _ (Qbl hkb 3)))) <| sg 1 kj <| Qag g2 _ (ints .u8 ((key).set 3 (nth key 3%16))) 74 r2_4 rfl kj (Qa0 5 _ _ g2 3 74 _ _ r2_4 rfl kj kj kj (zav (show 3<32 by decide) hkl.symm)) fun W5 p5 r2_5=>?_
  obtain ⟨c1_,ec1_⟩:∃ z,z=(key).set 3 (nth key 3%16):=⟨_,rfl⟩
  have hlc1_:c1_.length=32:=by rw [ec1_,zaa,hkl]
  have hxc1_:=Qbl hkb 3
  have hbc1_:Qak c1_:=ec1_▸QbS hkb _ oo oo
  have r2_5_11:W5.heap[g2]? = some (.cells (ints .u8 (c1_)) 74):=Qa9 r2_5 (by rw [ec1_])
  refine Qas <| hK9 _ _ <| sgA kj ?_
  show zbe _ _ _ 4 _ _
  show zbd _ _ (Exit.then (zbe _ _ _ 3) _) _ _
  refine sgB kj <| sgT kj <| wp_seq_k fun K14 hK14=>wp_block <| sgC fun K15 hK15=>sv (.int .i64 7) 13 (QaE 154 _ _ .i64 .i64 ([3,7,11,15]) 1 4 3 7 rfl kj kj kj kj kj rfl dd rfl) <| sg 1 kj <| sgN hK15 <| Qaj <| sg 2 kj ?_
  refine sv (.int .u8 (nth (c1_) 7)) 16 (Qab 5 _ g2 7 74 _ (.int .u8 (nth (c1_) 7)) _ r2_5_11 rfl kj (QaD _ _ _ (zav dd hlc1_.symm)) kj) <| sv (.int .u8 (nth c1_ 7%16)) 17 (Qac (u:=.int .u8 (bits .and .u8 ((nth (c1_) 7)) (15))) kj (congrArg (zau .u8) (Qme _ (Qbl hbc1_ 7)))) <| sg 1 kj <| Qag g2 _ (ints .u8 ((c1_).set 7 (nth c1_ 7%16))) 74 r2_5_11 rfl kj (Qa0 5 _ _ g2 7 74 _ _ r2_5_11 rfl kj kj kj (zav (show 7<32 by decide) hlc1_.symm)) fun W6 p6 r2_6=>?_
  obtain ⟨c2_,ec2_⟩:∃ z,z=(c1_).set 7 (nth c1_ 7%16):=⟨_,rfl⟩
  have hlc2_:c2_.length=32:=by rw [ec2_,zaa,hlc1_]
  have hxc2_:=Qbl hbc1_ 7
  have hbc2_:Qak c2_:=ec2_▸QbS hbc1_ _ oo oo
  have r2_6_16:W6.heap[g2]? = some (.cells (ints .u8 (c2_)) 74):=Qa9 r2_6 (by rw [ec2_])
  refine Qas <| hK14 _ _ <| sgA kj ?_
  show zbe _ _ _ 3 _ _
  show zbd _ _ (Exit.then (zbe _ _ _ 2) _) _ _
  refine sgB kj <| sgT kj <| wp_seq_k fun K19 hK19=>wp_block <| sgC fun K20 hK20=>sv (.int .i64 11) 13 (QaE 154 _ _ .i64 .i64 ([3,7,11,15]) 2 4 3 11 rfl kj kj kj kj kj rfl dd rfl) <| sg 1 kj <| sgN hK20 <| Qaj <| sg 2 kj ?_
  refine sv (.int .u8 (nth (c2_) 11)) 16 (Qab 5 _ g2 11 74 _ (.int .u8 (nth (c2_) 11)) _ r2_6_16 rfl kj (QaD _ _ _ (zav dd hlc2_.symm)) kj) <| sv (.int .u8 (nth c2_ 11%16)) 17 (Qac (u:=.int .u8 (bits .and .u8 ((nth (c2_) 11)) (15))) kj (congrArg (zau .u8) (Qme _ (Qbl hbc2_ 11)))) <| sg 1 kj <| Qag g2 _ (ints .u8 ((c2_).set 11 (nth c2_ 11%16))) 74 r2_6_16 rfl kj (Qa0 5 _ _ g2 11 74 _ _ r2_6_16 rfl kj kj kj (zav (show 11<32 by decide) hlc2_.symm)) fun W7 p7 r2_7=>?_
  obtain ⟨c3_,ec3_⟩:∃ z,z=(c2_).set 11 (nth c2_ 11%16):=⟨_,rfl⟩
  have hlc3_:c3_.length=32:=by rw [ec3_,zaa,hlc2_]
  have hxc3_:=Qbl hbc2_ 11
  have hbc3_:Qak c3_:=ec3_▸QbS hbc2_ _ oo oo
  have r2_7_21:W7.heap[g2]? = some (.cells (ints .u8 (c3_)) 74):=Qa9 r2_7 (by rw [ec3_])
  refine Qas <| hK19 _ _ <| sgA kj ?_
  show zbe _ _ _ 2 _ _
  show zbd _ _ (Exit.then (zbe _ _ _ 1) _) _ _
  refine sgB kj <| sgT kj <| wp_seq_k fun K24 hK24=>wp_block <| sgC fun K25 hK25=>sv (.int .i64 15) 13 (QaE 154 _ _ .i64 .i64 ([3,7,11,15]) 3 4 3 15 rfl kj kj kj kj kj rfl dd rfl) <| sg 1 kj <| sgN hK25 <| Qaj <| sg 2 kj ?_
  refine sv (.int .u8 (nth (c3_) 15)) 16 (Qab 5 _ g2 15 74 _ (.int .u8 (nth (c3_) 15)) _ r2_7_21 rfl kj (QaD _ _ _ (zav dd hlc3_.symm)) kj) <| sv (.int .u8 (nth c3_ 15%16)) 17 (Qac (u:=.int .u8 (bits .and .u8 ((nth (c3_) 15)) (15))) kj (congrArg (zau .u8) (Qme _ (Qbl hbc3_ 15)))) <| sg 1 kj <| Qag g2 _ (ints .u8 ((c3_).set 15 (nth c3_ 15%16))) 74 r2_7_21 rfl kj (Qa0 5 _ _ g2 15 74 _ _ r2_7_21 rfl kj kj kj (zav (show 15<32 by decide) hlc3_.symm)) fun W8 p8 r2_8=>?_
  obtain ⟨c4_,ec4_⟩:∃ z,z=(c3_).set 15 (nth c3_ 15%16):=⟨_,rfl⟩
  have hlc4_:c4_.length=32:=by rw [ec4_,zaa,hlc3_]
  have hxc4_:=Qbl hbc3_ 15
  have hbc4_:Qak c4_:=ec4_▸QbS hbc3_ _ oo oo
  have r2_8_26:W8.heap[g2]? = some (.cells (ints .u8 (c4_)) 74):=Qa9 r2_8 (by rw [ec4_])
  refine Qas <| hK24 _ _ <| sgA kj ?_
  show zbe _ _ _ 1 _ _
  show zbd _ _ (Exit.then (zbe _ _ _ 0) _) _ _
  refine sgB kj <| wp_seq_k fun K28 hK28=>cond_false kj <| wp_exit <| hK5 _ _ <| wp_seq_k fun K29 hK29=>sgB kj <| wp_block <| wp_loop_rounds 4 ?_
  show zbd _ _ (Exit.then (zbe _ _ _ 3) _) _ _
  refine sgB kj <| sgT kj <| wp_seq_k fun K33 hK33=>wp_block <| sgC fun K34 hK34=>sv (.int .i64 4) 23 (QaE 161 _ _ .i64 .i64 ([4,8,12]) 0 3 3 4 rfl kj kj kj kj kj rfl dd rfl) <| sg 1 kj <| sgN hK34 <| Qaj <| sg 2 kj ?_
  refine sv (.int .u8 (nth (c4_) 4)) 26 (Qab 5 _ g2 4 74 _ (.int .u8 (nth (c4_) 4)) _ r2_8_26 rfl kj (QaD _ _ _ (zav dd hlc4_.symm)) kj) <| sv (.int .u8 (nth c4_ 4/4*4)) 27 (Qac (u:=.int .u8 (bits .and .u8 ((nth (c4_) 4)) (252))) kj (congrArg (zau .u8) (QkS _ (Qbl hbc4_ 4)))) <| sg 1 kj <| Qag g2 _ (ints .u8 ((c4_).set 4 (nth c4_ 4/4*4))) 74 r2_8_26 rfl kj (Qa0 5 _ _ g2 4 74 _ _ r2_8_26 rfl kj kj kj (zav (show 4<32 by decide) hlc4_.symm)) fun W9 p9 r2_9=>?_
  obtain ⟨c5_,ec5_⟩:∃ z,z=(c4_).set 4 (nth c4_ 4/4*4):=⟨_,rfl⟩
  have hlc5_:c5_.length=32:=by rw [ec5_,zaa,hlc4_]
  have hxc5_:=Qbl hbc4_ 4
  have hbc5_:Qak c5_:=ec5_▸QbS hbc4_ _ oo oo
  have r2_9_35:W9.heap[g2]? = some (.cells (ints .u8 (c5_)) 74):=Qa9 r2_9 (by rw [ec5_])
  refine Qas <| hK33 _ _ <| sgA kj ?_
  show zbe _ _ _ 3 _ _
  show zbd _ _ (Exit.then (zbe _ _ _ 2) _) _ _
  refine sgB kj <| sgT kj <| wp_seq_k fun K38 hK38=>wp_block <| sgC fun K39 hK39=>sv (.int .i64 8) 23 (QaE 161 _ _ .i64 .i64 ([4,8,12]) 1 3 3 8 rfl kj kj kj kj kj rfl dd rfl) <| sg 1 kj <| sgN hK39 <| Qaj <| sg 2 kj ?_
  refine sv (.int .u8 (nth (c5_) 8)) 26 (Qab 5 _ g2 8 74 _ (.int .u8 (nth (c5_) 8)) _ r2_9_35 rfl kj (QaD _ _ _ (zav dd hlc5_.symm)) kj) <| sv (.int .u8 (nth c5_ 8/4*4)) 27 (Qac (u:=.int .u8 (bits .and .u8 ((nth (c5_) 8)) (252))) kj (congrArg (zau .u8) (QkS _ (Qbl hbc5_ 8)))) <| sg 1 kj <| Qag g2 _ (ints .u8 ((c5_).set 8 (nth c5_ 8/4*4))) 74 r2_9_35 rfl kj (Qa0 5 _ _ g2 8 74 _ _ r2_9_35 rfl kj kj kj (zav (show 8<32 by decide) hlc5_.symm)) fun W10 p10 r2_10=>?_
  obtain ⟨c6_,ec6_⟩:∃ z,z=(c5_).set 8 (nth c5_ 8/4*4):=⟨_,rfl⟩
  have hlc6_:c6_.length=32:=by rw [ec6_,zaa,hlc5_]
  have hxc6_:=Qbl hbc5_ 8
  have hbc6_:Qak c6_:=ec6_▸QbS hbc5_ _ oo oo
  have r2_10_40:W10.heap[g2]? = some (.cells (ints .u8 (c6_)) 74):=Qa9 r2_10 (by rw [ec6_])
  refine Qas <| hK38 _ _ <| sgA kj ?_
  show zbe _ _ _ 2 _ _
  show zbd _ _ (Exit.then (zbe _ _ _ 1) _) _ _
  refine sgB kj <| sgT kj <| wp_seq_k fun K43 hK43=>wp_block <| sgC fun K44 hK44=>sv (.int .i64 12) 23 (QaE 161 _ _ .i64 .i64 ([4,8,12]) 2 3 3 12 rfl kj kj kj kj kj rfl dd rfl) <| sg 1 kj <| sgN hK44 <| Qaj <| sg 2 kj ?_
  refine sv (.int .u8 (nth (c6_) 12)) 26 (Qab 5 _ g2 12 74 _ (.int .u8 (nth (c6_) 12)) _ r2_10_40 rfl kj (QaD _ _ _ (zav dd hlc6_.symm)) kj) <| sv (.int .u8 (nth c6_ 12/4*4)) 27 (Qac (u:=.int .u8 (bits .and .u8 ((nth (c6_) 12)) (252))) kj (congrArg (zau .u8) (QkS _ (Qbl hbc6_ 12)))) <| sg 1 kj <| Qag g2 _ (ints .u8 ((c6_).set 12 (nth c6_ 12/4*4))) 74 r2_10_40 rfl kj (Qa0 5 _ _ g2 12 74 _ _ r2_10_40 rfl kj kj kj (zav (show 12<32 by decide) hlc6_.symm)) fun W11 p11 r2_11=>?_
  obtain ⟨c7_,ec7_⟩:∃ z,z=(c6_).set 12 (nth c6_ 12/4*4):=⟨_,rfl⟩
  have hlc7_:c7_.length=32:=by rw [ec7_,zaa,hlc6_]
  have hxc7_:=Qbl hbc6_ 12
  have hbc7_:Qak c7_:=ec7_▸QbS hbc6_ _ oo oo
  have r2_11_45:W11.heap[g2]? = some (.cells (ints .u8 (c7_)) 74):=Qa9 r2_11 (by rw [ec7_])
  refine Qas <| hK43 _ _ <| sgA kj ?_
  show zbe _ _ _ 1 _ _
  show zbd _ _ (Exit.then (zbe _ _ _ 0) _) _ _
  refine sgB kj <| wp_seq_k fun K47 hK47=>cond_false kj <| wp_exit <| hK29 _ _ <| wp_seq_k fun K48 hK48=>?_
  have hck:c7_=QkI key:=by unfold QkI; rw [ec7_,ec6_,ec5_,ec4_,ec3_,ec2_,ec1_]
  have hro:lev ((c7_.drop 0).take (16-0))=rOf key:=by unfold rOf; rw [hck,QhG key hkl]
  refine QaT 3 [⟨none,[(1,none)]⟩,⟨none,[(30,some 0)]⟩,⟨none,[(3,none)]⟩] kj kj fun F hF=>Qa2 (Qam _) (.slice (some ⟨g2,0+0,none⟩) (16-0) (32-0)) kj kj (fun W=>(QbA 74 _ _ _ 0 16 32 g2 0 5 rfl kj kj kj rfl ⟨.i64,by kernel_rfl⟩ oo oo oo)) <| Qdn (Qam _) (.agg (ints .u64 (nw3 (lev ((c7_.drop 0).take (16-0)))))) 88 #[.slice (some ⟨g2,0+0,none⟩) (16-0) (32-0)] kj kj (fun _=>kj) (fun W hR=>(Qjz ((c7_.drop 0).take (16-0)) _ _ W (QjK (l:=0) (h:=16) hlc7_ (Qaa (Qaa r2_11_45 (Qan _)) hR) dd dd dd) (by rw [zae]; omega) (Qbg (QbC hbc7_ 0) _))) ?_
  refine QaN (Qam _) (.agg (ints .u64 (nw3 (lev ((key.drop 16).take (32-16)))))) kj kj (fun W hR=>(Qae 159 _ g4 159 _ _ (Qaa (Qaa (zbn p11 (zbn p10 (zbn p9 (zbn p8 (zbn p7 (zbn p6 (zbn p5 r4_4 (QaI r2_2 l4)) (QaI r2_2 l4)) (QaI r2_2 l4)) (QaI r2_2 l4)) (QaI r2_2 l4)) (QaI r2_2 l4)) (QaI r2_2 l4)) (Qan _)) hR) rfl kj kj (isz (n:=3) kj (izT (Qa8 _))))) <| Qc3 (hF _ fun W12 e12=>?_)
  simp only [zax,zay,za0,zaf,za1,za2,finE,up]
  clear hF
  have x12:=zbp (zbo p11 (zbo p10 (zbo p9 (zbo p8 (zbo p7 (zbo p6 (zbo p5 (zbo p4 (zbp x2 e3) (qT x2.size l4)) b2) b2) b2) b2) b2) b2) b2) e12
  refine sg 1 kj <| Qah (cat [ints .u64 (nw3 (lev ((c7_.drop 0).take (16-0)))),ints .u64 (nw3 (lev ((key.drop 16).take (32-16)))),ints .u64 (nw3 (0)),ints .u8 (zac 17 0),#[.int .i64 0]]) 164 34 rfl kj kj fun g49 W13 l49 e13 r49_13=>sg 1 kj <| sgN hK48 <| wp_ret ?_
  with_reducible repeat first | refine goR1 ?_ | refine goR2 ?_
  exact (show bodyPost _ _ _ .ret _ _ from ret1 (pp g49 0) rfl (Qax kj) ⟨_,rfl,(zbp x12 e13),g49,rfl,(qT x12.size l49),0,zac 17 0,0,0,rfl,dd,(by have h9:=r49_13; rw [hro] at h9; exact h9),rfl,⟨by decide,by decide⟩,qZ ..,(fun x hx=>by rw [List.mem_replicate] at hx; omega),rfl⟩)
set_option maxRecDepth 100000 in
theorem endC (g : Nat) (r s:Int) (t:List Int) (w:World) (hr:0≤r∧r<21267647932558653966460912964485513216) (hs:0≤s∧s<340282366920938463463374607431768211456) (hM:Mk g r s t w) :
  Calls Tryz.prog 77 #[pp g 0] w (fun e W=>e=.returned (.agg (ints .u8 (tagV r s t)))∧ExtB g w W):=by
 obtain ⟨S,pl,q,m,hq,hm,hg,hSm,hS,hpl,hpb,hpt⟩:=hM
 refine enter 47 [(0,pp g 0)] Tryz.func77 rfl rfl kj rfl <| sgC fun K2 hK2=>Qah (ints .u8 (zac 16 0)) 102 2 rfl kj kj fun g3 W1 l3 e1 r3_1=>?_
 have x1:=zbs (zbr g w) e1
 have b3:=qT (zbr g w).size l3
 refine sgN hK2 <| wp_seq_k fun K4 hK4=>sgC fun K5 hK5=>sg 3 kj ?_
 have r1_1:=(Qaa hg e1)
 refine sv (.int .i64 (m:Int)) 10 (Qab 3 _ g 26 164 _ (.int .i64 (m:Int)) _ r1_1 rfl kj (Qap [ints .u64 (nw3 r),ints .u64 (nw3 s),ints .u64 (nw3 (S)),ints .u8 (pl)] [#[.int .i64 (m:Int)]] [] 26 (by rw [Qal,Qal,Qal,Qal]; simp only [qS,cat,(izT (Qa8 _)),(izT hpl)]; rfl) 0 _ rfl) kj) ?_
 refine sg 1 kj <| sgN hK5 <| Qay (t:=decide ((m:Int)>0)) kj (fun c6=>?_) (fun c6=>?_)
 ·skip
  have hm0:0<m:=by have:=of_decide_eq_true c6; omega
  refine Qaj <| sg 1 kj <| Qau (fun v W'=>v=.tuple #[]∧ExtB g W1 W'∧W'.heap[g]? = some (.cells (cat [ints .u64 (nw3 r),ints .u64 (nw3 s),ints .u64 (nw3 (QeV r S (pl.take m))),ints .u8 (pl.set m 1),#[.int .i64 0]]) 164)) 89 #[pp g 0] 13 rfl kj kj ((turnC g r s S pl m _ hr hS hpl hpb oo r1_1).mono fun e w' h=>⟨_,h.1,rfl,h.2⟩) fun v W2 h=>?_
  obtain ⟨rfl,q2,r1_2⟩:=h
  have hpl2:(pl.set m 1).length=17:=by rw [zaa,hpl]
  have x2:=ExtB.trans x1 q2
  obtain ⟨SS,eSS⟩:∃ z,z=QeV r S (pl.take m):=⟨_,rfl⟩
  have hSS:SS%PP=QdC r t:=by rw [eSS,hpt]; exact Qpn hq oo hm hSm
  have hSb:0≤SS∧SS<2041694201525630780780247644590609268736:=eSS▸QhN hS hr (Qbg hpb m) (by rw [zae]; omega)
  rw [←eSS] at r1_2
  refine Qas <| hK4 _ _ <| sgC fun K7 hK7=>sg 3 kj <| sv (.agg (ints .u64 (nw3 (SS)))) 17 (Qa4 159 _ g 6 164 _ _ _ r1_2 rfl kj (Qap [ints .u64 (nw3 r),ints .u64 (nw3 s)] [ints .u64 (nw3 (SS))] [ints .u8 (pl.set m 1),#[.int .i64 0]] 6 (by rw [Qal,Qal]; simp only [qS,cat,(izT (Qa8 _))]; rfl)) kj (isz (n:=3) kj (izT (Qa8 _)))) ?_
  refine Qah (ints .u64 ([0,0,0])) 159 3 rfl kj kj fun g8 W3 l8 e3 r8_3=>?_
  have x3:=zbs x2 e3
  have b8:=qT x2.size l8
  refine Qag g8 _ (ints .u64 (nw3 (SS))) 159 r8_3 rfl kj (Qaf 159 _ _ g8 159 _ _ r8_3 rfl kj kj (isz (n:=3) kj (izT (Qa8 _))) (eqsz (n:=3) kj (izT (Qa8 _))) (Qat _ _)) fun W4 p4 r8_4=>?_
  have x4:=zbw x3 p4 b8
  refine sgN hK7 <| wp_seq_k fun K9 hK9=>sgC fun K10 hK10=>sv (.agg (ints .u64 (nw3 (SS)))) 18 (Qae 159 _ g8 159 _ _ r8_4 rfl kj kj (isz (n:=3) kj (izT (Qa8 _)))) <| sg 1 kj <| Qao (.agg (ints .u64 (nw3 (SS+5)))) 90 #[.agg (ints .u64 (nw3 (SS))),.agg (ints .u64 (nw3 5))] 20 rfl kj kj ((Qh2 SS 5 hSb.1 dd oo dd oo) _) fun W5 e5=>?_
  have x5:=zbs x4 e5
  refine Qah (ints .u64 ([0,0,0])) 159 4 rfl kj kj fun g11 W6 l11 e6 r11_6=>?_
  have x6:=zbs x5 e6
  refine Qag g11 _ (ints .u64 (nw3 (SS+5))) 159 r11_6 rfl kj (Qaf 159 _ _ g11 159 _ _ r11_6 rfl kj kj (isz (n:=3) kj (izT (Qa8 _))) (eqsz (n:=3) kj (izT (Qa8 _))) (Qat _ _)) fun W7 p7 r11_7=>?_
  have x7:=zbw x6 p7 (qT x5.size l11)
  refine sgN hK10 <| sgC fun K12 hK12=>sg 1 kj <| sv (.int .u64 (nth (nw3 (SS+5)) 2)) 22 (Qab 93 _ g11 2 159 _ (.int .u64 (nth (nw3 (SS+5)) 2)) _ r11_7 rfl kj (QaD _ _ _ (zav dd (Qa8 _).symm)) kj) <| sv (.bool (decide (1361129467683753853853498429727072845824≤SS+5))) 23 (Qac (u:=.bool (decide ((nth (nw3 (SS+5)) 2)≥4))) kj (congrArg zaL (geq4 SS hSb.1 hSb.2))) <| sgN hK12 <| Qay (t:=decide (1361129467683753853853498429727072845824≤SS+5)) kj (fun c13=>?_) (fun c13=>?_)
  ·skip
   have hbig:1361129467683753853853498429727072845824≤SS+5:=of_decide_eq_true c13
   have hfin:by16 (SS+5+s)=by16 (QdC r t+s):=by
    have e:SS+5+s=(QdC r t+s)+1361129467683753853853498429727072845824:=by rw [←hSS]; unfold PP; omega
    rw [e,Qi2]
   refine Qaj <| sv (.agg (ints .u64 (nw3 (SS+5)))) 24 (Qae 159 _ g11 159 _ _ r11_7 rfl kj kj (isz (n:=3) kj (izT (Qa8 _)))) ?_
   have r8_5:=(Qaa r8_4 e5)
   have r8_6:=(Qaa r8_5 e6)
   have r8_7:=(zbn p7 r8_6 (Qad r8_5 l11))
   refine Qag g8 _ (ints .u64 (nw3 (SS+5))) 159 r8_7 rfl kj (Qaf 159 _ _ g8 159 _ _ r8_7 rfl kj kj (isz (n:=3) kj (izT (Qa8 _))) (eqsz (n:=3) (izT (Qa8 _)) (izT (Qa8 _))) (Qat _ _)) fun W8 p8 r8_8=>?_
   have x8:=zbw x7 p8 b8
   refine Qas <| hK9 _ _ <| wp_seq_k fun K14 hK14=>Qba 6 [⟨none,[(3,none)]⟩,⟨none,[(0,none)]⟩,⟨none,[(26,some 1)]⟩,⟨none,[(27,some 2)]⟩,⟨none,[(28,some 3)]⟩,⟨none,[(25,some 0),(29,some 4)]⟩] kj kj fun F hF=>QaK (.agg (ints .u64 (nw3 (SS+5)))) kj kj (fun W hR=>(Qae 159 _ g8 159 _ _ (Qaa (Qaa r8_8 (Qan _)) hR) rfl kj kj (isz (n:=3) kj (izT (Qa8 _))))) <| Qar (pp g 0) kj kj (fun _=>kj) <| Qar (pp g 0) kj kj (fun _=>kj) <| Qar (pp g 3) kj kj (fun _=>kj) ?_
   have r1_3:=(Qaa r1_2 e3)
   have r1_4:=(zbn p4 r1_3 (Qad r1_2 l8))
   have r1_5:=(Qaa r1_4 e5)
   have r1_6:=(Qaa r1_5 e6)
   have r1_7:=(zbn p7 r1_6 (Qad r1_5 l11))
   refine QaK (.agg (ints .u64 (nw3 s))) kj kj (fun W hR=>(Qa4 159 _ g 3 164 _ _ _ (Qaa (Qaa (zbn p8 r1_7 (Qad r1_2 l8)) (Qan _)) hR) rfl kj (Qap [ints .u64 (nw3 r)] [ints .u64 (nw3 s)] [ints .u64 (nw3 (SS)),ints .u8 (pl.set m 1),#[.int .i64 0]] 3 (izT (Qa8 _))) kj (isz (n:=3) kj (izT (Qa8 _))))) <| QcP (.agg (ints .u64 (nw3 (SS+5+s)))) 90 #[.agg (ints .u64 (nw3 (SS+5))),.agg (ints .u64 (nw3 s))] kj kj (fun _=>kj) (fun W hR=>(Qh2 (SS+5) s oo hs.1 oo oo oo) W) <| Qbh (hF _ kj fun W9 e9=>?_)
   simp only [ups,up,zbq,za0,zaf,za1,za2,zax,zay]
   clear hF
   have x9:=zbs x8 e9
   have r8_9:=(Qaa r8_8 e9)
   refine Qag g8 _ (ints .u64 (nw3 (SS+5+s))) 159 r8_9 rfl kj (Qaf 159 _ _ g8 159 _ _ r8_9 rfl kj kj (isz (n:=3) kj (izT (Qa8 _))) (eqsz (n:=3) (izT (Qa8 _)) (izT (Qa8 _))) (Qat _ _)) fun W10 p10 r8_10=>?_
   have x10:=zbw x9 p10 b8
   refine sgN hK14 <| sgC fun K15 hK15=>Qah (ints .u8 (zac 16 0)) 102 5 rfl kj kj fun g16 W11 l16 e11 r16_11=>?_
   have x11:=zbs x10 e11
   refine sgN hK15 <| wp_seq_k fun K17 hK17=>sgB kj <| wp_block <| Qa3 (fun (s1:Nat)=>[(2,pp g3 0),(3,pp g8 0),(5,pp g16 0),(31,.int .i64 (s1:Int))]) (fun (s1:Nat) W=>(s1≤16)∧(W.heap[g16]? = some (.cells (ints .u8 (fillL (by16 (SS+5+s)) 16 s1)) 102))∧(Qai [g16] W11 W)∧(ExtB g w W)) (fun (s1:Nat)=>16-s1) 0 ⟨kj,kj,kj,kj,trivial⟩ ⟨(zaw _),(Qa9 r16_11 (fillL_zero _ 16)),(zbx [g16] W11),x11⟩ fun s1 X1 V1 hI1=>?_
   obtain ⟨i,hs1⟩:∃ z,z=s1:=⟨_,rfl⟩
   subst hs1
   obtain ⟨hi,q16_1,kk1,xx1⟩:=hI1
   replace hi:i≤16:=hi
   replace q16_1:V1.heap[g16]? = some (.cells (ints .u8 (fillL (by16 (SS+5+s)) 16 i)) 102):=q16_1
   replace kk1:Qai [g16] W11 V1:=kk1
   replace xx1:ExtB g w V1:=xx1
   have q12:=kk1
   refine sgB kj <| wp_seq_k fun K20 hK20=>Qay (t:=decide ((i:Int)<16)) kj (fun c21=>?_) (fun c21=>?_)
   ·skip
    have hlt32:i<16:=by have:=of_decide_eq_true c21; omega
    refine wp_skip <| hK20 _ _ <| wp_seq_k fun K22 hK22=>wp_block <| sgB kj <| Qaj <| sg 2 kj <| sv (.int .i64 ((i/8:Nat):Int)) 36 (Qac (u:=.int .i64 (zaz.wrap (zaK ((i:Int)) (8)))) kj (congrArg (zau .i64) (Qcv _ 8 oo))) <| sv (pp g8 (i/8)) 37 (Qa7 _ _ _ .i64 (i/8) _ 3 93 rfl kj kj kj kj oo) ?_
    have r8_11:=(Qaa r8_10 e11)
    refine sv (.int .u64 (nth (nw3 (SS+5+s)) (i/8))) 38 (Qab 93 _ g8 (i/8) 159 _ (.int .u64 (nth (nw3 (SS+5+s)) (i/8))) _ (zby q12 r8_11 (Qaw (Qad r8_10 l16) QaF)) rfl kj (QaD _ _ _ (zav oo (Qa8 _).symm)) kj) <| sg 1 kj <| sv (.int .i64 ((i%8:Nat):Int)) 40 (Qac (u:=.int .i64 (zbf ((i:Int)) (8))) kj (congrArg (zau .i64) (QbK _ 8))) <| sv (.int .i64 ((8*(i%8):Nat):Int)) 41 (Qac (u:=.int .i64 (zaz.wrap (8*((i%8:Nat):Int)))) kj (congrArg (zau .i64) (i64n _ _ oo oo))) <| sv (.int .u64 (nth (nw3 (SS+5+s)) (i/8)/p256 (i%8))) 42 (QaO .shr _ _ _ _ .u64 .i64 _ _ _ rfl kj kj (Qcd _ _ _ _ _ _ oo (shr8 _ (i%8) _ rfl oo))) <| sv (.int .u8 (nth (by16 (SS+5+s)) i)) 43 (Qac (u:=.int .u8 (zao.wrap (nth (nw3 (SS+5+s)) (i/8)/p256 (i%8)))) kj (congrArg (zau .u8) (out_byte _ i hlt32))) <| sv (pp g16 i) 44 (Qa7 _ _ _ .i64 (i) _ 16 5 rfl kj kj kj kj oo) <| Qag g16 _ (ints .u8 ((fillL (by16 (SS+5+s)) 16 i).set i (nth (by16 (SS+5+s)) i))) 102 q16_1 rfl kj (Qa0 5 _ _ g16 i 102 _ _ q16_1 rfl kj kj kj (zav oo (fillL_len _ 16 _ (QaV _) hi).symm)) fun W13 p13 r16_13=>?_
    have x13:=zbw xx1 p13 (qT x10.size l16)
    refine Qas <| hK22 _ _ <| Qaj <| sv (.int .i64 ((i+1:Nat):Int)) 45 (Qac (u:=.int .i64 (zaz.wrap ((i:Int)+1))) kj (congrArg (zau .i64) (i64n _ _ oo oo))) <| sg 1 kj <| Qas ?_
    with_reducible repeat first | refine goX1 ?_ | refine goX2 ?_ | refine goX3 ?_
    exact Qa1 (i+1) ⟨kj,kj,kj,kj,trivial⟩ ⟨(show i+1≤16 by omega),(Qa9 r16_13 (fillL_step _ 16 i (QaV _) hlt32)),(zb0 q12 p13 (.inl (by simp))),x13⟩ (by show 16-(i+1)<16-i; omega)
   ·skip
    have heq32:i=16:=by have:=of_decide_eq_false c21; omega
    subst heq32
    have r16_12_24:V1.heap[g16]? = some (.cells (ints .u8 (by16 (SS+5+s))) 102):=Qa9 q16_1 (fillL_full _ 16 (QaV _))
    refine wp_exit <| hK17 _ _ <| sgC fun K25 hK25=>sv (.agg (ints .u8 (by16 (SS+5+s)))) 46 (Qae 102 _ g16 102 _ _ r16_12_24 rfl kj kj (isz (n:=16) kj (izT (QaV _)))) ?_
    have r3_2:=(zbu q2 r3_1 (QaI hg l3))
    have r3_3:=(Qaa r3_2 e3)
    have r3_4:=(zbn p4 r3_3 (Qad r3_2 l8))
    have r3_5:=(Qaa r3_4 e5)
    have r3_6:=(Qaa r3_5 e6)
    have r3_7:=(zbn p7 r3_6 (Qad r3_5 l11))
    have r3_8:=(zbn p8 r3_7 (Qad r3_2 l8))
    have r3_9:=(Qaa r3_8 e9)
    have r3_10:=(zbn p10 r3_9 (Qad r3_2 l8))
    have r3_11:=(Qaa r3_10 e11)
    have r3_12:=(zby q12 r3_11 (Qaw (Qad r3_10 l16) QaF))
    refine Qag g3 _ (ints .u8 (by16 (SS+5+s))) 102 r3_12 rfl kj (Qaf 102 _ _ g3 102 _ _ r3_12 rfl kj kj (isz (n:=16) kj (izT (QaV _))) (eqsz (n:=16) (izT (qZ (n:=16))) (izT (QaV _))) (Qat _ _)) fun W13 p13 r3_13=>?_
    have x13:=zbw xx1 p13 b3
    refine sgN hK25 <| wp_ret ?_
    with_reducible repeat first | refine goR1 ?_ | refine goR2 ?_
    exact (show bodyPost _ _ _ .ret _ _ from ret1 (.agg (ints .u8 (by16 (SS+5+s)))) rfl (QaJ g3 102 _ r3_13 kj kj (isz (n:=16) kj (izT (QaV _)))) ⟨by unfold tagV; rw [hfin],x13⟩)
  ·skip
   have hbig:¬ 1361129467683753853853498429727072845824≤SS+5:=of_decide_eq_false c13
   have hfin:by16 (SS+s)=by16 (QdC r t+s):=by
    have e:SS+s=QdC r t+s:=by rw [←hSS]; unfold PP; omega
    rw [e]
   refine wp_skip <| hK9 _ _ <| wp_seq_k fun K26 hK26=>Qba 6 [⟨none,[(3,none)]⟩,⟨none,[(0,none)]⟩,⟨none,[(26,some 1)]⟩,⟨none,[(27,some 2)]⟩,⟨none,[(28,some 3)]⟩,⟨none,[(25,some 0),(29,some 4)]⟩] kj kj fun F hF=>?_
   have r8_5:=(Qaa r8_4 e5)
   have r8_6:=(Qaa r8_5 e6)
   have r8_7:=(zbn p7 r8_6 (Qad r8_5 l11))
   refine QaK (.agg (ints .u64 (nw3 (SS)))) kj kj (fun W hR=>(Qae 159 _ g8 159 _ _ (Qaa (Qaa r8_7 (Qan _)) hR) rfl kj kj (isz (n:=3) kj (izT (Qa8 _))))) <| Qar (pp g 0) kj kj (fun _=>kj) <| Qar (pp g 0) kj kj (fun _=>kj) <| Qar (pp g 3) kj kj (fun _=>kj) ?_
   have r1_3:=(Qaa r1_2 e3)
   have r1_4:=(zbn p4 r1_3 (Qad r1_2 l8))
   have r1_5:=(Qaa r1_4 e5)
   have r1_6:=(Qaa r1_5 e6)
   have r1_7:=(zbn p7 r1_6 (Qad r1_5 l11))
   refine QaK (.agg (ints .u64 (nw3 s))) kj kj (fun W hR=>(Qa4 159 _ g 3 164 _ _ _ (Qaa (Qaa r1_7 (Qan _)) hR) rfl kj (Qap [ints .u64 (nw3 r)] [ints .u64 (nw3 s)] [ints .u64 (nw3 (SS)),ints .u8 (pl.set m 1),#[.int .i64 0]] 3 (izT (Qa8 _))) kj (isz (n:=3) kj (izT (Qa8 _))))) <| QcP (.agg (ints .u64 (nw3 (SS+s)))) 90 #[.agg (ints .u64 (nw3 (SS))),.agg (ints .u64 (nw3 s))] kj kj (fun _=>kj) (fun W hR=>(Qh2 (SS) s oo hs.1 oo oo oo) W) <| Qbh (hF _ kj fun W8 e8=>?_)
   simp only [ups,up,zbq,za0,zaf,za1,za2,zax,zay]
   clear hF
   have x8:=zbs x7 e8
   have r8_8:=(Qaa r8_7 e8)
   refine Qag g8 _ (ints .u64 (nw3 (SS+s))) 159 r8_8 rfl kj (Qaf 159 _ _ g8 159 _ _ r8_8 rfl kj kj (isz (n:=3) kj (izT (Qa8 _))) (eqsz (n:=3) (izT (Qa8 _)) (izT (Qa8 _))) (Qat _ _)) fun W9 p9 r8_9=>?_
   have x9:=zbw x8 p9 b8
   refine sgN hK26 <| sgC fun K27 hK27=>Qah (ints .u8 (zac 16 0)) 102 5 rfl kj kj fun g28 W10 l28 e10 r28_10=>?_
   have x10:=zbs x9 e10
   refine sgN hK27 <| wp_seq_k fun K29 hK29=>sgB kj <| wp_block <| Qa3 (fun (s2:Nat)=>[(2,pp g3 0),(3,pp g8 0),(5,pp g28 0),(31,.int .i64 (s2:Int))]) (fun (s2:Nat) W=>(s2≤16)∧(W.heap[g28]? = some (.cells (ints .u8 (fillL (by16 (SS+s)) 16 s2)) 102))∧(Qai [g28] W10 W)∧(ExtB g w W)) (fun (s2:Nat)=>16-s2) 0 ⟨kj,kj,kj,kj,trivial⟩ ⟨(zaw _),(Qa9 r28_10 (fillL_zero _ 16)),(zbx [g28] W10),x10⟩ fun s2 X2 V2 hI2=>?_
   obtain ⟨i,hs2⟩:∃ z,z=s2:=⟨_,rfl⟩
   subst hs2
   obtain ⟨hi,q28_2,kk2,xx2⟩:=hI2
   replace hi:i≤16:=hi
   replace q28_2:V2.heap[g28]? = some (.cells (ints .u8 (fillL (by16 (SS+s)) 16 i)) 102):=q28_2
   replace kk2:Qai [g28] W10 V2:=kk2
   replace xx2:ExtB g w V2:=xx2
   have q11:=kk2
   refine sgB kj <| wp_seq_k fun K32 hK32=>Qay (t:=decide ((i:Int)<16)) kj (fun c33=>?_) (fun c33=>?_)
   ·skip
    have hlt32:i<16:=by have:=of_decide_eq_true c33; omega
    refine wp_skip <| hK32 _ _ <| wp_seq_k fun K34 hK34=>wp_block <| sgB kj <| Qaj <| sg 2 kj <| sv (.int .i64 ((i/8:Nat):Int)) 36 (Qac (u:=.int .i64 (zaz.wrap (zaK ((i:Int)) (8)))) kj (congrArg (zau .i64) (Qcv _ 8 oo))) <| sv (pp g8 (i/8)) 37 (Qa7 _ _ _ .i64 (i/8) _ 3 93 rfl kj kj kj kj oo) ?_
    have r8_10:=(Qaa r8_9 e10)
    have r8_11:=(zby q11 r8_10 (Qaw (Qad r8_9 l28) QaF))
    refine sv (.int .u64 (nth (nw3 (SS+s)) (i/8))) 38 (Qab 93 _ g8 (i/8) 159 _ (.int .u64 (nth (nw3 (SS+s)) (i/8))) _ r8_11 rfl kj (QaD _ _ _ (zav oo (Qa8 _).symm)) kj) <| sg 1 kj <| sv (.int .i64 ((i%8:Nat):Int)) 40 (Qac (u:=.int .i64 (zbf ((i:Int)) (8))) kj (congrArg (zau .i64) (QbK _ 8))) <| sv (.int .i64 ((8*(i%8):Nat):Int)) 41 (Qac (u:=.int .i64 (zaz.wrap (8*((i%8:Nat):Int)))) kj (congrArg (zau .i64) (i64n _ _ oo oo))) <| sv (.int .u64 (nth (nw3 (SS+s)) (i/8)/p256 (i%8))) 42 (QaO .shr _ _ _ _ .u64 .i64 _ _ _ rfl kj kj (Qcd _ _ _ _ _ _ oo (shr8 _ (i%8) _ rfl oo))) <| sv (.int .u8 (nth (by16 (SS+s)) i)) 43 (Qac (u:=.int .u8 (zao.wrap (nth (nw3 (SS+s)) (i/8)/p256 (i%8)))) kj (congrArg (zau .u8) (out_byte _ i hlt32))) <| sv (pp g28 i) 44 (Qa7 _ _ _ .i64 (i) _ 16 5 rfl kj kj kj kj oo) <| Qag g28 _ (ints .u8 ((fillL (by16 (SS+s)) 16 i).set i (nth (by16 (SS+s)) i))) 102 q28_2 rfl kj (Qa0 5 _ _ g28 i 102 _ _ q28_2 rfl kj kj kj (zav oo (fillL_len _ 16 _ (QaV _) hi).symm)) fun W12 p12 r28_12=>?_
    have x12:=zbw xx2 p12 (qT x9.size l28)
    refine Qas <| hK34 _ _ <| Qaj <| sv (.int .i64 ((i+1:Nat):Int)) 45 (Qac (u:=.int .i64 (zaz.wrap ((i:Int)+1))) kj (congrArg (zau .i64) (i64n _ _ oo oo))) <| sg 1 kj <| Qas ?_
    with_reducible repeat first | refine goX1 ?_ | refine goX2 ?_ | refine goX3 ?_
    exact Qa1 (i+1) ⟨kj,kj,kj,kj,trivial⟩ ⟨(show i+1≤16 by omega),(Qa9 r28_12 (fillL_step _ 16 i (QaV _) hlt32)),(zb0 q11 p12 (.inl (by simp))),x12⟩ (by show 16-(i+1)<16-i; omega)
   ·skip
    have heq32:i=16:=by have:=of_decide_eq_false c33; omega
    subst heq32
    have r28_11_36:V2.heap[g28]? = some (.cells (ints .u8 (by16 (SS+s))) 102):=Qa9 q28_2 (fillL_full _ 16 (QaV _))
    refine wp_exit <| hK29 _ _ <| sgC fun K37 hK37=>sv (.agg (ints .u8 (by16 (SS+s)))) 46 (Qae 102 _ g28 102 _ _ r28_11_36 rfl kj kj (isz (n:=16) kj (izT (QaV _)))) ?_
    have r3_2:=(zbu q2 r3_1 (QaI hg l3))
    have r3_3:=(Qaa r3_2 e3)
    have r3_4:=(zbn p4 r3_3 (Qad r3_2 l8))
    have r3_5:=(Qaa r3_4 e5)
    have r3_6:=(Qaa r3_5 e6)
    have r3_7:=(zbn p7 r3_6 (Qad r3_5 l11))
    have r3_8:=(Qaa r3_7 e8)
    have r3_9:=(zbn p9 r3_8 (Qad r3_2 l8))
    have r3_10:=(Qaa r3_9 e10)
    have r3_11:=(zby q11 r3_10 (Qaw (Qad r3_9 l28) QaF))
    refine Qag g3 _ (ints .u8 (by16 (SS+s))) 102 r3_11 rfl kj (Qaf 102 _ _ g3 102 _ _ r3_11 rfl kj kj (isz (n:=16) kj (izT (QaV _))) (eqsz (n:=16) (izT (qZ (n:=16))) (izT (QaV _))) (Qat _ _)) fun W12 p12 r3_12=>?_
    have x12:=zbw xx2 p12 b3
    refine sgN hK37 <| wp_ret ?_
    with_reducible repeat first | refine goR1 ?_ | refine goR2 ?_
    exact (show bodyPost _ _ _ .ret _ _ from ret1 (.agg (ints .u8 (by16 (SS+s)))) rfl (QaJ g3 102 _ r3_12 kj kj (isz (n:=16) kj (izT (QaV _)))) ⟨by unfold tagV; rw [hfin],x12⟩)
 ·skip
  have hm0:m=0:=by have:=of_decide_eq_false c6; omega
  obtain ⟨SS,eSS⟩:∃ z,z=S:=⟨_,rfl⟩
  have hSS:SS%PP=QdC r t:=by rw [eSS,QmR (hm0▸hq)]; exact hSm
  have hSb:0≤SS∧SS<2041694201525630780780247644590609268736:=eSS▸hS
  have r1_1_n:=r1_1
  rw [←eSS] at r1_1_n
  refine wp_skip <| hK4 _ _ <| sgC fun K38 hK38=>sg 3 kj <| sv (.agg (ints .u64 (nw3 (SS)))) 17 (Qa4 159 _ g 6 164 _ _ _ r1_1_n rfl kj (Qap [ints .u64 (nw3 r),ints .u64 (nw3 s)] [ints .u64 (nw3 (SS))] [ints .u8 (pl),#[.int .i64 (m:Int)]] 6 (by rw [Qal,Qal]; simp only [qS,cat,(izT (Qa8 _))]; rfl)) kj (isz (n:=3) kj (izT (Qa8 _)))) ?_
  refine Qah (ints .u64 ([0,0,0])) 159 3 rfl kj kj fun g39 W2 l39 e2 r39_2=>?_
  have x2:=zbs x1 e2
  have b39:=qT x1.size l39
  refine Qag g39 _ (ints .u64 (nw3 (SS))) 159 r39_2 rfl kj (Qaf 159 _ _ g39 159 _ _ r39_2 rfl kj kj (isz (n:=3) kj (izT (Qa8 _))) (eqsz (n:=3) kj (izT (Qa8 _))) (Qat _ _)) fun W3 p3 r39_3=>?_
  have x3:=zbw x2 p3 b39
  refine sgN hK38 <| wp_seq_k fun K40 hK40=>sgC fun K41 hK41=>sv (.agg (ints .u64 (nw3 (SS)))) 18 (Qae 159 _ g39 159 _ _ r39_3 rfl kj kj (isz (n:=3) kj (izT (Qa8 _)))) <| sg 1 kj <| Qao (.agg (ints .u64 (nw3 (SS+5)))) 90 #[.agg (ints .u64 (nw3 (SS))),.agg (ints .u64 (nw3 5))] 20 rfl kj kj ((Qh2 SS 5 hSb.1 dd oo dd oo) _) fun W4 e4=>?_
  have x4:=zbs x3 e4
  refine Qah (ints .u64 ([0,0,0])) 159 4 rfl kj kj fun g42 W5 l42 e5 r42_5=>?_
  have x5:=zbs x4 e5
  refine Qag g42 _ (ints .u64 (nw3 (SS+5))) 159 r42_5 rfl kj (Qaf 159 _ _ g42 159 _ _ r42_5 rfl kj kj (isz (n:=3) kj (izT (Qa8 _))) (eqsz (n:=3) kj (izT (Qa8 _))) (Qat _ _)) fun W6 p6 r42_6=>?_
  have x6:=zbw x5 p6 (qT x4.size l42)
  refine sgN hK41 <| sgC fun K43 hK43=>sg 1 kj <| sv (.int .u64 (nth (nw3 (SS+5)) 2)) 22 (Qab 93 _ g42 2 159 _ (.int .u64 (nth (nw3 (SS+5)) 2)) _ r42_6 rfl kj (QaD _ _ _ (zav dd (Qa8 _).symm)) kj) <| sv (.bool (decide (1361129467683753853853498429727072845824≤SS+5))) 23 (Qac (u:=.bool (decide ((nth (nw3 (SS+5)) 2)≥4))) kj (congrArg zaL (geq4 SS hSb.1 hSb.2))) <| sgN hK43 <| Qay (t:=decide (1361129467683753853853498429727072845824≤SS+5)) kj (fun c44=>?_) (fun c44=>?_)
  ·skip
   have hbig:1361129467683753853853498429727072845824≤SS+5:=of_decide_eq_true c44
   have hfin:by16 (SS+5+s)=by16 (QdC r t+s):=by
    have e:SS+5+s=(QdC r t+s)+1361129467683753853853498429727072845824:=by rw [←hSS]; unfold PP; omega
    rw [e,Qi2]
   refine Qaj <| sv (.agg (ints .u64 (nw3 (SS+5)))) 24 (Qae 159 _ g42 159 _ _ r42_6 rfl kj kj (isz (n:=3) kj (izT (Qa8 _)))) ?_
   have r39_4:=(Qaa r39_3 e4)
   have r39_5:=(Qaa r39_4 e5)
   have r39_6:=(zbn p6 r39_5 (Qad r39_4 l42))
   refine Qag g39 _ (ints .u64 (nw3 (SS+5))) 159 r39_6 rfl kj (Qaf 159 _ _ g39 159 _ _ r39_6 rfl kj kj (isz (n:=3) kj (izT (Qa8 _))) (eqsz (n:=3) (izT (Qa8 _)) (izT (Qa8 _))) (Qat _ _)) fun W7 p7 r39_7=>?_
   have x7:=zbw x6 p7 b39
   refine Qas <| hK40 _ _ <| wp_seq_k fun K45 hK45=>Qba 6 [⟨none,[(3,none)]⟩,⟨none,[(0,none)]⟩,⟨none,[(26,some 1)]⟩,⟨none,[(27,some 2)]⟩,⟨none,[(28,some 3)]⟩,⟨none,[(25,some 0),(29,some 4)]⟩] kj kj fun F hF=>QaK (.agg (ints .u64 (nw3 (SS+5)))) kj kj (fun W hR=>(Qae 159 _ g39 159 _ _ (Qaa (Qaa r39_7 (Qan _)) hR) rfl kj kj (isz (n:=3) kj (izT (Qa8 _))))) <| Qar (pp g 0) kj kj (fun _=>kj) <| Qar (pp g 0) kj kj (fun _=>kj) <| Qar (pp g 3) kj kj (fun _=>kj) ?_
   have r1_2:=(Qaa r1_1_n e2)
   have r1_3:=(zbn p3 r1_2 (Qad r1_1_n l39))
   have r1_4:=(Qaa r1_3 e4)
   have r1_5:=(Qaa r1_4 e5)
   have r1_6:=(zbn p6 r1_5 (Qad r1_4 l42))
   have r1_7:=(zbn p7 r1_6 (Qad r1_1_n l39))
   refine QaK (.agg (ints .u64 (nw3 s))) kj kj (fun W hR=>(Qa4 159 _ g 3 164 _ _ _ (Qaa (Qaa r1_7 (Qan _)) hR) rfl kj (Qap [ints .u64 (nw3 r)] [ints .u64 (nw3 s)] [ints .u64 (nw3 (SS)),ints .u8 (pl),#[.int .i64 (m:Int)]] 3 (izT (Qa8 _))) kj (isz (n:=3) kj (izT (Qa8 _))))) <| QcP (.agg (ints .u64 (nw3 (SS+5+s)))) 90 #[.agg (ints .u64 (nw3 (SS+5))),.agg (ints .u64 (nw3 s))] kj kj (fun _=>kj) (fun W hR=>(Qh2 (SS+5) s oo hs.1 oo oo oo) W) <| Qbh (hF _ kj fun W8 e8=>?_)
   simp only [ups,up,zbq,za0,zaf,za1,za2,zax,zay]
   clear hF
   have x8:=zbs x7 e8
   have r39_8:=(Qaa r39_7 e8)
   refine Qag g39 _ (ints .u64 (nw3 (SS+5+s))) 159 r39_8 rfl kj (Qaf 159 _ _ g39 159 _ _ r39_8 rfl kj kj (isz (n:=3) kj (izT (Qa8 _))) (eqsz (n:=3) (izT (Qa8 _)) (izT (Qa8 _))) (Qat _ _)) fun W9 p9 r39_9=>?_
   have x9:=zbw x8 p9 b39
   refine sgN hK45 <| sgC fun K46 hK46=>Qah (ints .u8 (zac 16 0)) 102 5 rfl kj kj fun g47 W10 l47 e10 r47_10=>?_
   have x10:=zbs x9 e10
   refine sgN hK46 <| wp_seq_k fun K48 hK48=>sgB kj <| wp_block <| Qa3 (fun (s3:Nat)=>[(2,pp g3 0),(3,pp g39 0),(5,pp g47 0),(31,.int .i64 (s3:Int))]) (fun (s3:Nat) W=>(s3≤16)∧(W.heap[g47]? = some (.cells (ints .u8 (fillL (by16 (SS+5+s)) 16 s3)) 102))∧(Qai [g47] W10 W)∧(ExtB g w W)) (fun (s3:Nat)=>16-s3) 0 ⟨kj,kj,kj,kj,trivial⟩ ⟨(zaw _),(Qa9 r47_10 (fillL_zero _ 16)),(zbx [g47] W10),x10⟩ fun s3 X3 V3 hI3=>?_
   obtain ⟨i,hs3⟩:∃ z,z=s3:=⟨_,rfl⟩
   subst hs3
   obtain ⟨hi,q47_3,kk3,xx3⟩:=hI3
   replace hi:i≤16:=hi
   replace q47_3:V3.heap[g47]? = some (.cells (ints .u8 (fillL (by16 (SS+5+s)) 16 i)) 102):=q47_3
   replace kk3:Qai [g47] W10 V3:=kk3
   replace xx3:ExtB g w V3:=xx3
   have q11:=kk3
   refine sgB kj <| wp_seq_k fun K51 hK51=>Qay (t:=decide ((i:Int)<16)) kj (fun c52=>?_) (fun c52=>?_)
   ·skip
    have hlt32:i<16:=by have:=of_decide_eq_true c52; omega
    refine wp_skip <| hK51 _ _ <| wp_seq_k fun K53 hK53=>wp_block <| sgB kj <| Qaj <| sg 2 kj <| sv (.int .i64 ((i/8:Nat):Int)) 36 (Qac (u:=.int .i64 (zaz.wrap (zaK ((i:Int)) (8)))) kj (congrArg (zau .i64) (Qcv _ 8 oo))) <| sv (pp g39 (i/8)) 37 (Qa7 _ _ _ .i64 (i/8) _ 3 93 rfl kj kj kj kj oo) ?_
    have r39_10:=(Qaa r39_9 e10)
    refine sv (.int .u64 (nth (nw3 (SS+5+s)) (i/8))) 38 (Qab 93 _ g39 (i/8) 159 _ (.int .u64 (nth (nw3 (SS+5+s)) (i/8))) _ (zby q11 r39_10 (Qaw (Qad r39_9 l47) QaF)) rfl kj (QaD _ _ _ (zav oo (Qa8 _).symm)) kj) <| sg 1 kj <| sv (.int .i64 ((i%8:Nat):Int)) 40 (Qac (u:=.int .i64 (zbf ((i:Int)) (8))) kj (congrArg (zau .i64) (QbK _ 8))) <| sv (.int .i64 ((8*(i%8):Nat):Int)) 41 (Qac (u:=.int .i64 (zaz.wrap (8*((i%8:Nat):Int)))) kj (congrArg (zau .i64) (i64n _ _ oo oo))) <| sv (.int .u64 (nth (nw3 (SS+5+s)) (i/8)/p256 (i%8))) 42 (QaO .shr _ _ _ _ .u64 .i64 _ _ _ rfl kj kj (Qcd _ _ _ _ _ _ oo (shr8 _ (i%8) _ rfl oo))) <| sv (.int .u8 (nth (by16 (SS+5+s)) i)) 43 (Qac (u:=.int .u8 (zao.wrap (nth (nw3 (SS+5+s)) (i/8)/p256 (i%8)))) kj (congrArg (zau .u8) (out_byte _ i hlt32))) <| sv (pp g47 i) 44 (Qa7 _ _ _ .i64 (i) _ 16 5 rfl kj kj kj kj oo) <| Qag g47 _ (ints .u8 ((fillL (by16 (SS+5+s)) 16 i).set i (nth (by16 (SS+5+s)) i))) 102 q47_3 rfl kj (Qa0 5 _ _ g47 i 102 _ _ q47_3 rfl kj kj kj (zav oo (fillL_len _ 16 _ (QaV _) hi).symm)) fun W12 p12 r47_12=>?_
    have x12:=zbw xx3 p12 (qT x9.size l47)
    refine Qas <| hK53 _ _ <| Qaj <| sv (.int .i64 ((i+1:Nat):Int)) 45 (Qac (u:=.int .i64 (zaz.wrap ((i:Int)+1))) kj (congrArg (zau .i64) (i64n _ _ oo oo))) <| sg 1 kj <| Qas ?_
    with_reducible repeat first | refine goX1 ?_ | refine goX2 ?_ | refine goX3 ?_
    exact Qa1 (i+1) ⟨kj,kj,kj,kj,trivial⟩ ⟨(show i+1≤16 by omega),(Qa9 r47_12 (fillL_step _ 16 i (QaV _) hlt32)),(zb0 q11 p12 (.inl (by simp))),x12⟩ (by show 16-(i+1)<16-i; omega)
   ·skip
    have heq32:i=16:=by have:=of_decide_eq_false c52; omega
    subst heq32
    have r47_11_55:V3.heap[g47]? = some (.cells (ints .u8 (by16 (SS+5+s))) 102):=Qa9 q47_3 (fillL_full _ 16 (QaV _))
    refine wp_exit <| hK48 _ _ <| sgC fun K56 hK56=>sv (.agg (ints .u8 (by16 (SS+5+s)))) 46 (Qae 102 _ g47 102 _ _ r47_11_55 rfl kj kj (isz (n:=16) kj (izT (QaV _)))) ?_
    have r3_2:=(Qaa r3_1 e2)
    have r3_3:=(zbn p3 r3_2 (Qad r3_1 l39))
    have r3_4:=(Qaa r3_3 e4)
    have r3_5:=(Qaa r3_4 e5)
    have r3_6:=(zbn p6 r3_5 (Qad r3_4 l42))
    have r3_7:=(zbn p7 r3_6 (Qad r3_1 l39))
    have r3_8:=(Qaa r3_7 e8)
    have r3_9:=(zbn p9 r3_8 (Qad r3_1 l39))
    have r3_10:=(Qaa r3_9 e10)
    have r3_11:=(zby q11 r3_10 (Qaw (Qad r3_9 l47) QaF))
    refine Qag g3 _ (ints .u8 (by16 (SS+5+s))) 102 r3_11 rfl kj (Qaf 102 _ _ g3 102 _ _ r3_11 rfl kj kj (isz (n:=16) kj (izT (QaV _))) (eqsz (n:=16) (izT (qZ (n:=16))) (izT (QaV _))) (Qat _ _)) fun W12 p12 r3_12=>?_
    have x12:=zbw xx3 p12 b3
    refine sgN hK56 <| wp_ret ?_
    with_reducible repeat first | refine goR1 ?_ | refine goR2 ?_
    exact (show bodyPost _ _ _ .ret _ _ from ret1 (.agg (ints .u8 (by16 (SS+5+s)))) rfl (QaJ g3 102 _ r3_12 kj kj (isz (n:=16) kj (izT (QaV _)))) ⟨by unfold tagV; rw [hfin],x12⟩)
  ·skip
   have hbig:¬ 1361129467683753853853498429727072845824≤SS+5:=of_decide_eq_false c44
   have hfin:by16 (SS+s)=by16 (QdC r t+s):=by
    have e:SS+s=QdC r t+s:=by rw [←hSS]; unfold PP; omega
    rw [e]
   refine wp_skip <| hK40 _ _ <| wp_seq_k fun K57 hK57=>Qba 6 [⟨none,[(3,none)]⟩,⟨none,[(0,none)]⟩,⟨none,[(26,some 1)]⟩,⟨none,[(27,some 2)]⟩,⟨none,[(28,some 3)]⟩,⟨none,[(25,some 0),(29,some 4)]⟩] kj kj fun F hF=>?_
   have r39_4:=(Qaa r39_3 e4)
   have r39_5:=(Qaa r39_4 e5)
   have r39_6:=(zbn p6 r39_5 (Qad r39_4 l42))
   refine QaK (.agg (ints .u64 (nw3 (SS)))) kj kj (fun W hR=>(Qae 159 _ g39 159 _ _ (Qaa (Qaa r39_6 (Qan _)) hR) rfl kj kj (isz (n:=3) kj (izT (Qa8 _))))) <| Qar (pp g 0) kj kj (fun _=>kj) <| Qar (pp g 0) kj kj (fun _=>kj) <| Qar (pp g 3) kj kj (fun _=>kj) ?_
   have r1_2:=(Qaa r1_1_n e2)
   have r1_3:=(zbn p3 r1_2 (Qad r1_1_n l39))
   have r1_4:=(Qaa r1_3 e4)
   have r1_5:=(Qaa r1_4 e5)
   have r1_6:=(zbn p6 r1_5 (Qad r1_4 l42))
   refine QaK (.agg (ints .u64 (nw3 s))) kj kj (fun W hR=>(Qa4 159 _ g 3 164 _ _ _ (Qaa (Qaa r1_6 (Qan _)) hR) rfl kj (Qap [ints .u64 (nw3 r)] [ints .u64 (nw3 s)] [ints .u64 (nw3 (SS)),ints .u8 (pl),#[.int .i64 (m:Int)]] 3 (izT (Qa8 _))) kj (isz (n:=3) kj (izT (Qa8 _))))) <| QcP (.agg (ints .u64 (nw3 (SS+s)))) 90 #[.agg (ints .u64 (nw3 (SS))),.agg (ints .u64 (nw3 s))] kj kj (fun _=>kj) (fun W hR=>(Qh2 (SS) s oo hs.1 oo oo oo) W) <| Qbh (hF _ kj fun W7 e7=>?_)
   simp only [ups,up,zbq,za0,zaf,za1,za2,zax,zay]
   clear hF
   have x7:=zbs x6 e7
   have r39_7:=(Qaa r39_6 e7)
   refine Qag g39 _ (ints .u64 (nw3 (SS+s))) 159 r39_7 rfl kj (Qaf 159 _ _ g39 159 _ _ r39_7 rfl kj kj (isz (n:=3) kj (izT (Qa8 _))) (eqsz (n:=3) (izT (Qa8 _)) (izT (Qa8 _))) (Qat _ _)) fun W8 p8 r39_8=>?_
   have x8:=zbw x7 p8 b39
   refine sgN hK57 <| sgC fun K58 hK58=>Qah (ints .u8 (zac 16 0)) 102 5 rfl kj kj fun g59 W9 l59 e9 r59_9=>?_
   have x9:=zbs x8 e9
   refine sgN hK58 <| wp_seq_k fun K60 hK60=>sgB kj <| wp_block <| Qa3 (fun (s4:Nat)=>[(2,pp g3 0),(3,pp g39 0),(5,pp g59 0),(31,.int .i64 (s4:Int))]) (fun (s4:Nat) W=>(s4≤16)∧(W.heap[g59]? = some (.cells (ints .u8 (fillL (by16 (SS+s)) 16 s4)) 102))∧(Qai [g59] W9 W)∧(ExtB g w W)) (fun (s4:Nat)=>16-s4) 0 ⟨kj,kj,kj,kj,trivial⟩ ⟨(zaw _),(Qa9 r59_9 (fillL_zero _ 16)),(zbx [g59] W9),x9⟩ fun s4 X4 V4 hI4=>?_
   obtain ⟨i,hs4⟩:∃ z,z=s4:=⟨_,rfl⟩
   subst hs4
   obtain ⟨hi,q59_4,kk4,xx4⟩:=hI4
   replace hi:i≤16:=hi
   replace q59_4:V4.heap[g59]? = some (.cells (ints .u8 (fillL (by16 (SS+s)) 16 i)) 102):=q59_4
   replace kk4:Qai [g59] W9 V4:=kk4
   replace xx4:ExtB g w V4:=xx4
   have q10:=kk4
   refine sgB kj <| wp_seq_k fun K63 hK63=>Qay (t:=decide ((i:Int)<16)) kj (fun c64=>?_) (fun c64=>?_)
   ·skip
    have hlt32:i<16:=by have:=of_decide_eq_true c64; omega
    refine wp_skip <| hK63 _ _ <| wp_seq_k fun K65 hK65=>wp_block <| sgB kj <| Qaj <| sg 2 kj <| sv (.int .i64 ((i/8:Nat):Int)) 36 (Qac (u:=.int .i64 (zaz.wrap (zaK ((i:Int)) (8)))) kj (congrArg (zau .i64) (Qcv _ 8 oo))) <| sv (pp g39 (i/8)) 37 (Qa7 _ _ _ .i64 (i/8) _ 3 93 rfl kj kj kj kj oo) ?_
    have r39_9:=(Qaa r39_8 e9)
    have r39_10:=(zby q10 r39_9 (Qaw (Qad r39_8 l59) QaF))
    refine sv (.int .u64 (nth (nw3 (SS+s)) (i/8))) 38 (Qab 93 _ g39 (i/8) 159 _ (.int .u64 (nth (nw3 (SS+s)) (i/8))) _ r39_10 rfl kj (QaD _ _ _ (zav oo (Qa8 _).symm)) kj) <| sg 1 kj <| sv (.int .i64 ((i%8:Nat):Int)) 40 (Qac (u:=.int .i64 (zbf ((i:Int)) (8))) kj (congrArg (zau .i64) (QbK _ 8))) <| sv (.int .i64 ((8*(i%8):Nat):Int)) 41 (Qac (u:=.int .i64 (zaz.wrap (8*((i%8:Nat):Int)))) kj (congrArg (zau .i64) (i64n _ _ oo oo))) <| sv (.int .u64 (nth (nw3 (SS+s)) (i/8)/p256 (i%8))) 42 (QaO .shr _ _ _ _ .u64 .i64 _ _ _ rfl kj kj (Qcd _ _ _ _ _ _ oo (shr8 _ (i%8) _ rfl oo))) <| sv (.int .u8 (nth (by16 (SS+s)) i)) 43 (Qac (u:=.int .u8 (zao.wrap (nth (nw3 (SS+s)) (i/8)/p256 (i%8)))) kj (congrArg (zau .u8) (out_byte _ i hlt32))) <| sv (pp g59 i) 44 (Qa7 _ _ _ .i64 (i) _ 16 5 rfl kj kj kj kj oo) <| Qag g59 _ (ints .u8 ((fillL (by16 (SS+s)) 16 i).set i (nth (by16 (SS+s)) i))) 102 q59_4 rfl kj (Qa0 5 _ _ g59 i 102 _ _ q59_4 rfl kj kj kj (zav oo (fillL_len _ 16 _ (QaV _) hi).symm)) fun W11 p11 r59_11=>?_
    have x11:=zbw xx4 p11 (qT x8.size l59)
    refine Qas <| hK65 _ _ <| Qaj <| sv (.int .i64 ((i+1:Nat):Int)) 45 (Qac (u:=.int .i64 (zaz.wrap ((i:Int)+1))) kj (congrArg (zau .i64) (i64n _ _ oo oo))) <| sg 1 kj <| Qas ?_
    with_reducible repeat first | refine goX1 ?_ | refine goX2 ?_ | refine goX3 ?_
    exact Qa1 (i+1) ⟨kj,kj,kj,kj,trivial⟩ ⟨(show i+1≤16 by omega),(Qa9 r59_11 (fillL_step _ 16 i (QaV _) hlt32)),(zb0 q10 p11 (.inl (by simp))),x11⟩ (by show 16-(i+1)<16-i; omega)
   ·skip
    have heq32:i=16:=by have:=of_decide_eq_false c64; omega
    subst heq32
    have r59_10_67:V4.heap[g59]? = some (.cells (ints .u8 (by16 (SS+s))) 102):=Qa9 q59_4 (fillL_full _ 16 (QaV _))
    refine wp_exit <| hK60 _ _ <| sgC fun K68 hK68=>sv (.agg (ints .u8 (by16 (SS+s)))) 46 (Qae 102 _ g59 102 _ _ r59_10_67 rfl kj kj (isz (n:=16) kj (izT (QaV _)))) ?_
    have r3_2:=(Qaa r3_1 e2)
    have r3_3:=(zbn p3 r3_2 (Qad r3_1 l39))
    have r3_4:=(Qaa r3_3 e4)
    have r3_5:=(Qaa r3_4 e5)
    have r3_6:=(zbn p6 r3_5 (Qad r3_4 l42))
    have r3_7:=(Qaa r3_6 e7)
    have r3_8:=(zbn p8 r3_7 (Qad r3_1 l39))
    have r3_9:=(Qaa r3_8 e9)
    have r3_10:=(zby q10 r3_9 (Qaw (Qad r3_8 l59) QaF))
    refine Qag g3 _ (ints .u8 (by16 (SS+s))) 102 r3_10 rfl kj (Qaf 102 _ _ g3 102 _ _ r3_10 rfl kj kj (isz (n:=16) kj (izT (QaV _))) (eqsz (n:=16) (izT (qZ (n:=16))) (izT (QaV _))) (Qat _ _)) fun W11 p11 r3_11=>?_
    have x11:=zbw xx4 p11 b3
    refine sgN hK68 <| wp_ret ?_
    with_reducible repeat first | refine goR1 ?_ | refine goR2 ?_
    exact (show bodyPost _ _ _ .ret _ _ from ret1 (.agg (ints .u8 (by16 (SS+s)))) rfl (QaJ g3 102 _ r3_11 kj kj (isz (n:=16) kj (izT (QaV _)))) ⟨by unfold tagV; rw [hfin],x11⟩)
end Ae
end
end Go.Proofs.YtbonglpnkoegoaaGreatDoor
