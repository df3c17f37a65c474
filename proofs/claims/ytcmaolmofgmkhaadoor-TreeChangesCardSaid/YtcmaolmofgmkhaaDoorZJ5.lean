/- Texts of this claim, joined (J5). -/
import Derived.Test.YtcmaolmofgmkhaaDoorZJ4
import Derived.Lib.SmallJoins
import Derived.Lib.LaidTab
import Derived.Deep.Strs

set_option linter.unusedVariables false
set_option linter.unusedSimpArgs false
set_option maxHeartbeats 4000000
section
namespace Go.Proofs.YtcmaolmofgmkhaaDoor.Te
open Go Go.RowKit
open Rely Auto Own Seat Sha
set_option maxRecDepth 100000 in
theorem QlB (ts : List NdV) (a_t:Option Addr) (c_t B1:Nat) (w:World) (ht:TrAt B1 w a_t ts) (htl:ts.length≤100000) (hmt:∀ i,i<ts.length→(ndi ts i).n.ms.length≤1000) (nd:NdV) (hok:NdOk nd.n) (hc:chkT ts=true) (hs:QaD nd.n=true) (hf:Qa7 ts nd.n.nm<0) (L:Nat) (hL:leaves ((ts.length:Nat):Int)=((L:Nat):Int)) (hL3:L≤16) (hlen:ts.length+1=2*L) (hL1:1≤L) (T0:List NdV) (hT0:T0=ts++List.replicate (ts.length+1) zn) (F:Form T0 (2*L)) (m:Nat) (hmL:m=L) (hfu:∀ j,j<m→(ndi ts (2*j)).n.us=true) (hfm:(ndi T0 (2*m)).n.us=false) (hm9:∀ i,(ndi T0 i).n.ms.length≤900) (hms:nd.n.ms=[]) (B3:Nat) (hr0:RdK .i64 B3 [] (.slice nd.a 0 nd.c) w):Calls Tryd.prog 26 #[.slice a_t ts.length c_t,.agg (cat [#[.bool nd.n.us],#[.int .i64 nd.n.nm],ints .u8 (nd.n.key),ints .u8 (nd.n.sg),ints .u8 (nd.n.pa),#[.slice nd.a nd.n.ms.length nd.c]])] w (Qbw w (fun v W=>∃ us vs,AsC us ts∧AsC vs (addT us m nd (2*L))∧∃ u,v=.tuple #[u,.int .i64 ((m:Nat):Int),.int .i64 0]∧FrT w.heap.size vs u W)):=by
 have hTr:=F.tr
 have hl0:T0.length=2*ts.length+1:=by rw [hT0,List.length_append,qZ]; omega
 have hL2:=Qct (m:=2*ts.length+1) hTr (by omega)
 obtain ⟨K,hK,hneg,hall⟩:=Qhi (2*((m:Nat):Int)) ((2*L:Nat):Int)
 refine enter 123 [(0,.slice a_t ts.length c_t),(1,.agg (cat [#[.bool nd.n.us],#[.int .i64 nd.n.nm],ints .u8 (nd.n.key),ints .u8 (nd.n.sg),ints .u8 (nd.n.pa),#[.slice nd.a nd.n.ms.length nd.c]]))] Tryd.func26 rfl rfl kj rfl ?_
 refine wp_seq_k fun K1 hK1=>?_
 refine Qab ?_
 refine Qan (cat [#[.bool nd.n.us],#[.int .i64 nd.n.nm],ints .u8 (nd.n.key),ints .u8 (nd.n.sg),ints .u8 (nd.n.pa),#[.slice nd.a nd.n.ms.length nd.c]]) 41 3 rfl kj kj fun g2 W1 l2 e1 r2_1=>?_
 have x1:Ext w W1:=Ext.tr (Rely.Ext.refl w) e1
 have b2:w.heap.size≤g2:=qT (Rely.Ext.refl w).size l2
 refine Qaa (.slice none 0 0) 4 rfl kj kj ?_
 refine Qaa (.int .i64 0) 5 rfl kj kj ?_
 refine Qaa (.int .i64 0) 6 rfl kj kj ?_
 refine Qae ?_
 refine hK1 _ _ ?_
 refine wp_seq_k fun K3 hK3=>?_
 refine wp_seq_k fun K4 hK4=>?_
 refine Qab ?_
 refine Qaa (.slice a_t ts.length c_t) 15 rfl kj kj ?_
 refine Qaj (.bool true) 12 #[.slice a_t ts.length c_t] 16 rfl kj kj (Qcs ts a_t c_t _ _ (TrAt.ext ht x1) htl (fun i hi=>qT (hmt i hi) (by decide)) true hc) fun W2 e2=>?_
 have x2:Ext w W2:=Ext.tr x1 e2
 refine Qaa (.bool false) 17 rfl kj kj ?_
 refine Qaa (.bool false) 18 rfl kj kj ?_
 have r2_2:=(Qah r2_1 e2)
 refine Qaa (.agg (cat [#[.bool nd.n.us],#[.int .i64 nd.n.nm],ints .u8 (nd.n.key),ints .u8 (nd.n.sg),ints .u8 (nd.n.pa),#[.slice nd.a nd.n.ms.length nd.c]])) 19 rfl kj (Qau 41 _ g2 41 _ _ r2_2 rfl kj kj (isz (n:=99) kj (by rw [Qac,Qac,Qac,Qac,Qac,Qac]; simp only [qS,cat,((Qaf _ _).trans hok.gl),((Qaf _ _).trans hok.kl),((Qaf _ _).trans hok.pl)]; rfl))) ?_
 refine Qaj (.bool true) 43 #[.agg (cat [#[.bool nd.n.us],#[.int .i64 nd.n.nm],ints .u8 (nd.n.key),ints .u8 (nd.n.sg),ints .u8 (nd.n.pa),#[.slice nd.a nd.n.ms.length nd.c]])] 20 rfl kj kj ((hs▸Qcv nd hok _)) fun W3 e3=>?_
 have x3:Ext w W3:=Ext.tr x2 e3
 refine Qaa (.bool false) 21 rfl kj kj ?_
 refine Qaa (.bool false) 22 rfl kj kj ?_
 refine Qae ?_
 refine hK4 _ _ ?_
 refine cond_false kj ?_
 refine wp_skip ?_
 refine hK3 _ _ ?_
 refine wp_seq_k fun K5 hK5=>?_
 refine wp_seq_k fun K6 hK6=>?_
 refine Qab ?_
 refine Qaa (.slice a_t ts.length c_t) 23 rfl kj kj ?_
 refine Qaa (.pointer (some ⟨g2,1,none⟩)) 24 rfl kj kj ?_
 have r2_3:=(Qah r2_2 e3)
 refine Qaa (.int .i64 nd.n.nm) 25 rfl kj (Qag 3 _ g2 1 41 _ (.int .i64 nd.n.nm) _ r2_3 rfl kj (Qal [#[.bool nd.n.us]] [#[.int .i64 nd.n.nm]] [ints .u8 (nd.n.key),ints .u8 (nd.n.sg),ints .u8 (nd.n.pa),#[.slice nd.a nd.n.ms.length nd.c]] 1 kj 0 _ rfl) kj) ?_
 refine Qaj (.int .i64 (Qa7 ts nd.n.nm)) 17 #[.slice a_t ts.length c_t,.int .i64 nd.n.nm] 26 rfl kj kj (Qfc ts a_t c_t _ _ (TrAt.ext ht x3) htl nd.n.nm) fun W4 e4=>?_
 have x4:Ext w W4:=Ext.tr x3 e4
 refine Qaa (.bool false) 27 rfl kj (Qai (u:=.bool (decide ((Qa7 ts nd.n.nm)≥0))) kj (congrArg Value.bool (decide_eq_false (by omega)))) ?_
 refine Qae ?_
 refine hK6 _ _ ?_
 refine cond_false kj ?_
 refine wp_skip ?_
 refine hK5 _ _ ?_
 refine wp_seq_k fun K7 hK7=>?_
 refine Qab ?_
 refine Qaa (.int .i64 0) 7 rfl kj kj ?_
 refine Qae ?_
 refine hK7 _ _ ?_
 refine wp_seq_k fun K8 hK8=>?_
 refine wp_block ?_
 refine Qaz (fun (s1:Nat)=>[(0,.slice a_t ts.length c_t),(3,.pointer (some ⟨g2,0,none⟩)),(7,.int .i64 ((s1:Nat):Int))]) (fun (s1:Nat) W=>(s1≤m)∧(Ext W4 W)∧(Ext w W)) (fun (s1:Nat)=>m-s1) 0 ⟨rfl,rfl,rfl,trivial⟩ ⟨(Nat.zero_le _),(Rely.Ext.refl W4),x4⟩ fun s1 X1 V1 hI1=>?_
 obtain ⟨k,hs1⟩:∃ z,z=s1:=⟨_,rfl⟩
 subst hs1
 obtain ⟨hk,kk1,xx1⟩:=hI1
 replace hk:k≤m:=hk
 replace kk1:Ext W4 V1:=kk1
 replace xx1:Ext w V1:=xx1
 have e5:=kk1
 refine wp_seq_k fun K9 hK9=>?_
 refine wp_seq_k fun K10 hK10=>?_
 rcases (show k<m∨m=k by omega) with hq | hq
 ·skip
  obtain ⟨gyT,oyT,hay,hnys⟩:=TrAt.ext ht xx1
  have hny:=hnys (2*k) (by omega)
  obtain ⟨ny,eny⟩:∃ z,z=ndi ts (2*k):=⟨_,rfl⟩
  rw [←eny] at hny
  have oky:=hny.ok
  have rdy:=hny.rd
  have hyu:ny.n.us=true:=eny▸hfu k hq
  refine Qab ?_
  refine Qaa (.int .i64 ((k:Nat):Int)) 28 rfl kj kj ?_
  refine Qaa (.int .i64 (((2*k:Nat):Int))) 29 rfl kj (Qai (u:=.int .i64 (IntKind.i64.wrap (2*((k:Nat):Int)))) kj (congrArg (Value.int .i64) ((IntWalk.i64_in _ (by omega)).trans (by omega)))) ?_
  refine Qaa (.slice a_t ts.length c_t) 30 rfl kj kj ?_
  refine Qaa (.int .i64 ((ts.length:Nat):Int)) 31 rfl kj kj ?_
  refine Qaa (.bool true) 32 rfl kj (Qai (u:=.bool (decide (((2*k:Nat):Int)<((ts.length:Nat):Int)))) kj (congrArg Value.bool (decide_eq_true (by omega)))) ?_
  refine Qaa (.bool true) 33 rfl kj kj ?_
  refine Qaa (.slice a_t ts.length c_t) 34 rfl kj kj ?_
  refine Qaa (.int .i64 ((k:Nat):Int)) 35 rfl kj kj ?_
  refine Qaa (.int .i64 (((2*k:Nat):Int))) 36 rfl kj (Qai (u:=.int .i64 (IntKind.i64.wrap (2*((k:Nat):Int)))) kj (congrArg (Value.int .i64) ((IntWalk.i64_in _ (by omega)).trans (by omega)))) ?_
  refine Qaa (.pointer (some ⟨gyT,oyT+(2*k)*99,none⟩)) 37 rfl kj (Qao 23 _ _ .i64 (2*k) gyT oyT ts.length c_t 41 99 a_t (hay (by omega)) rfl kj kj kj kj (by omega)) ?_
  refine Qaa (.pointer (some ⟨gyT,oyT+(2*k)*99,none⟩)) 38 rfl kj kj ?_
  refine Qaa (.bool true) 39 rfl kj (Qak 4 _ _ (.bool true) ((NdAt.at3 hny).1.trans (congrArg (fun z=>some (Value.bool z)) hyu)) rfl kj kj) ?_
  refine Qaa (.bool true) 40 rfl kj kj ?_
  refine Qae ?_
  refine hK10 _ _ ?_
  refine cond_true kj ?_
  refine wp_skip ?_
  refine hK9 _ _ ?_
  refine wp_block ?_
  refine Qab ?_
  refine Qaa (.int .i64 ((k:Nat):Int)) 41 rfl kj kj ?_
  refine Qaa (.int .i64 ((k+1:Nat):Int)) 42 rfl kj (Qai (u:=.int .i64 (IntKind.i64.wrap (((k:Nat):Int)+1))) kj (congrArg (Value.int .i64) (i64n _ _ (by omega) (by omega)))) ?_
  refine Qaa (.int .i64 ((k+1:Nat):Int)) 7 rfl kj kj ?_
  refine Qae ?_
  repeat (first | with_reducible refine goX1 ?_ | with_reducible refine goX2 ?_ | with_reducible refine goX3 ?_)
  exact Qaq (k+1) ⟨rfl,rfl,rfl,trivial⟩ ⟨(by omega),e5,xx1⟩ (by show m-(k+1)<m-k; omega)
 ·skip
  refine Qab ?_
  refine Qaa (.int .i64 ((k:Nat):Int)) 28 rfl kj kj ?_
  refine Qaa (.int .i64 (((2*k:Nat):Int))) 29 rfl kj (Qai (u:=.int .i64 (IntKind.i64.wrap (2*((k:Nat):Int)))) kj (congrArg (Value.int .i64) ((IntWalk.i64_in _ (by omega)).trans (by omega)))) ?_
  refine Qaa (.slice a_t ts.length c_t) 30 rfl kj kj ?_
  refine Qaa (.int .i64 ((ts.length:Nat):Int)) 31 rfl kj kj ?_
  refine Qaa (.bool false) 32 rfl kj (Qai (u:=.bool (decide (((2*k:Nat):Int)<((ts.length:Nat):Int)))) kj (congrArg Value.bool (decide_eq_false (by omega)))) ?_
  refine Qaa (.bool false) 33 rfl kj kj ?_
  refine Qad 34 rfl kj ?_
  refine Qad 35 rfl kj ?_
  refine Qad 36 rfl kj ?_
  refine Qad 37 rfl kj ?_
  refine Qad 38 rfl kj ?_
  refine Qad 39 rfl kj ?_
  refine Qaa (.bool false) 40 rfl kj kj ?_
  refine Qae ?_
  refine hK10 _ _ ?_
  refine cond_false kj ?_
  refine wp_exit ?_
  refine hK8 _ _ ?_
  refine wp_seq_k fun K11 hK11=>?_
  refine wp_seq_k fun K12 hK12=>?_
  rw [←hq]
  skip
  ·skip
   refine Qab ?_
   refine Qaa (.int .i64 ((m:Nat):Int)) 43 rfl kj kj ?_
   refine Qaa (.bool false) 44 rfl kj (Qai (u:=.bool ((((m:Nat):Int)==32))) kj (congrArg Value.bool (beq_eq_false_iff_ne.2 (by omega)))) ?_
   refine Qae ?_
   refine hK12 _ _ ?_
   refine cond_false kj ?_
   refine wp_skip ?_
   refine hK11 _ _ ?_
   refine wp_seq_k fun K13 hK13=>?_
   refine Qab ?_
   refine Qaa (.slice a_t ts.length c_t) 45 rfl kj kj ?_
   refine Qa0 (fun v W'=>(fun v W9=>∃ us,AsC us ts∧OwT V1.heap.size us v W9) v W'∧Ext V1 W') 21 #[.slice a_t ts.length c_t] 46 rfl kj kj ((Qgq ts a_t _ _ _ (TrAt.ext ht xx1) htl hmt).mono (by rintro e w' ⟨v,rfl,e1,hv⟩; exact ⟨v,rfl,hv,e1⟩)) fun vv14 W6 hh14=>?_
   obtain ⟨hv14,e6⟩:=hh14
   have x6:Ext w W6:=Ext.tr xx1 e6
   obtain ⟨us,has,hU⟩:=hv14
   have hM0:us.length=ts.length:=has.1
   refine Qaa (vv14) 8 rfl kj kj ?_
   refine Qae ?_
   refine hK13 _ _ ?_
   refine wp_seq_k fun K15 hK15=>?_
   refine wp_block ?_
   refine Qaz (fun (s2:Nat×Value)=>[(0,.slice a_t ts.length c_t),(3,.pointer (some ⟨g2,0,none⟩)),(7,.int .i64 ((m:Nat):Int)),(8,s2.2)]) (fun (s2:Nat×Value) W=>(s2.1≤1)∧(OwT V1.heap.size (us++List.replicate (s2.1*(ts.length+1)) zn) s2.2 W)∧(Below V1.heap.size W6 W)∧(Ext w W)) (fun (s2:Nat×Value)=>1-s2.1) (0,vv14) ⟨rfl,rfl,rfl,rfl,trivial⟩ ⟨(Nat.zero_le _),(by rw [Nat.zero_mul,List.replicate_zero,List.append_nil]; exact hU),(RowKit.Below.refl _ W6),x6⟩ fun s2 X2 V2 hI2=>?_
   obtain ⟨q,gv⟩:=s2
   obtain ⟨hq1,hG,kk2,xx2⟩:=hI2
   replace hq1:q≤1:=hq1
   replace hG:OwT V1.heap.size (us++List.replicate (q*(ts.length+1)) zn) gv V2:=hG
   replace kk2:Below V1.heap.size W6 V2:=kk2
   replace xx2:Ext w V2:=xx2
   have l7:=kk2
   have hgl:(us++List.replicate (q*(ts.length+1)) zn).length=ts.length+q*(ts.length+1):=by rw [List.length_append,qZ,hM0]
   obtain ⟨aG,cG,hvG⟩:=OwH.slice hG
   rw [hgl] at hvG
   subst hvG
   refine wp_seq_k fun K16 hK16=>?_
   refine wp_seq_k fun K17 hK17=>?_
   rcases (show q=0∨q=1 by omega) with hq | hq
   ·skip
    have hgn:ts.length+q*(ts.length+1)=ts.length:=by rw [hq]; omega
    rw [hgn] at hG ⊢
    refine Qab ?_
    refine Qaa (.slice aG (ts.length) cG) 47 rfl kj kj ?_
    refine Qaa (.int .i64 ((ts.length:Nat):Int)) 48 rfl kj kj ?_
    refine Qaa (.int .i64 ((m:Nat):Int)) 49 rfl kj kj ?_
    refine Qaa (.int .i64 (((2*m:Nat):Int))) 50 rfl kj (Qai (u:=.int .i64 (IntKind.i64.wrap (2*((m:Nat):Int)))) kj (congrArg (Value.int .i64) ((IntWalk.i64_in _ (by omega)).trans (by omega)))) ?_
    refine Qaa (.int .i64 (((2*m)+1:Nat):Int)) 51 rfl kj (Qai (u:=.int .i64 (IntKind.i64.wrap ((((2*m:Nat):Int))+1))) kj (congrArg (Value.int .i64) (i64n _ _ (by omega) (by omega)))) ?_
    refine Qaa (.bool true) 52 rfl kj (Qai (u:=.bool (decide (((ts.length:Nat):Int)<(((2*m)+1:Nat):Int)))) kj (congrArg Value.bool (decide_eq_true (by omega)))) ?_
    refine Qae ?_
    refine hK17 _ _ ?_
    refine cond_true kj ?_
    refine wp_skip ?_
    refine hK16 _ _ ?_
    refine wp_block ?_
    refine wp_seq_k fun K18 hK18=>?_
    refine Qab ?_
    refine Qaa (.slice aG (ts.length) cG) 53 rfl kj kj ?_
    refine Qaa (.int .i64 ((ts.length:Nat):Int)) 54 rfl kj kj ?_
    refine Qaa (.int .i64 ((ts.length:Nat):Int)) 9 rfl kj kj ?_
    refine Qae ?_
    refine hK18 _ _ ?_
    refine wp_seq_k fun K19 hK19=>?_
    refine Qab ?_
    refine Qaa (.int .i64 0) 10 rfl kj kj ?_
    refine Qae ?_
    refine hK19 _ _ ?_
    refine wp_block ?_
    refine Qaz (fun (s3:Nat×Value)=>[(0,.slice a_t ts.length c_t),(3,.pointer (some ⟨g2,0,none⟩)),(7,.int .i64 ((m:Nat):Int)),(8,s3.2),(9,.int .i64 ((ts.length:Nat):Int)),(10,.int .i64 ((s3.1:Nat):Int))]) (fun (s3:Nat×Value) W=>(s3.1≤ts.length+1)∧(OwT V1.heap.size (us++List.replicate (s3.1) zn) s3.2 W)∧(Below V1.heap.size V2 W)∧(Ext w W)) (fun (s3:Nat×Value)=>ts.length+1-s3.1) (0,.slice aG (ts.length) cG) ⟨rfl,rfl,rfl,rfl,rfl,rfl,trivial⟩ ⟨(Nat.zero_le _),(by rw [List.replicate_zero,List.append_nil]; rw [hq,Nat.zero_mul,List.replicate_zero,List.append_nil] at hG; exact (OwH.ext hG (Rely.Ext.refl V2))),(RowKit.Below.refl _ V2),xx2⟩ fun s3 X3 V3 hI3=>?_
    obtain ⟨j,jv⟩:=s3
    obtain ⟨hj,hJ,kk3,xx3⟩:=hI3
    replace hj:j≤ts.length+1:=hj
    replace hJ:OwT V1.heap.size (us++List.replicate (j) zn) jv V3:=hJ
    replace kk3:Below V1.heap.size V2 V3:=kk3
    replace xx3:Ext w V3:=xx3
    have l8:=kk3
    refine wp_seq_k fun K20 hK20=>?_
    refine wp_seq_k fun K21 hK21=>?_
    refine Qab ?_
    refine Qaa (.int .i64 ((j:Nat):Int)) 55 rfl kj kj ?_
    refine Qaa (.int .i64 ((ts.length:Nat):Int)) 56 rfl kj kj ?_
    refine Qaa (.bool (decide (((j:Nat):Int)≤((ts.length:Nat):Int)))) 57 rfl kj kj ?_
    refine Qae ?_
    refine hK21 _ _ ?_
    refine Qas (t:=decide (((j:Nat):Int)≤((ts.length:Nat):Int))) kj (fun c22=>?_) (fun c22=>?_)
    ·skip
     have h57:j≤ts.length:=by have:=of_decide_eq_true c22; omega
     refine wp_skip ?_
     refine hK20 _ _ ?_
     refine wp_seq_k fun K23 hK23=>?_
     refine wp_block ?_
     refine Qab ?_
     refine Qaa (jv) 60 rfl kj kj ?_
     refine Qaa (.agg (cat [#[.bool false],#[.int .i64 0],ints .u8 (List.replicate 32 0),ints .u8 (List.replicate 32 0),ints .u8 (List.replicate 32 0),#[.slice none 0 0]])) 61 rfl kj kj ?_
     refine Qfs (cat (ndP zn)) 41 1 1 62 rfl kj (Qh8 23 41 99 _ (.agg (cat (ndP zn))) rfl kj kj kj kj (Qbd zn Qdk) (by decide) (by decide)) fun gz W9 lz e9 rz=>?_
     have x9:Ext w W9:=Ext.tr xx3 e9
     have y8_9:Ext V3 W9:=(Rely.Ext.trans (Rely.Ext.refl V3) e9)
     refine Qgn 136 (.tmp 60) (.tmp 62) 23 rfl kj kj (by decide) 63 rfl kj kj kj (OwH.ext hJ y8_9) (n:=zn) (QgH _ _) (fun _ _ g h=>by rw [Qjj] at h; cases h) rz (by rw [List.length_append,qZ]; omega) (qT (qT (qT (qT (qR _) e6.size) l7.size) l8.size) e9.size) fun u2 W10 hJ2 l10=>?_
     have x10:Ext w W10:=Ext.low x9 l10 xx1.size
     refine Qaa (u2) 8 rfl kj kj ?_
     refine Qae ?_
     refine hK23 _ _ ?_
     refine Qab ?_
     refine Qaa (.int .i64 ((j:Nat):Int)) 58 rfl kj kj ?_
     refine Qaa (.int .i64 (((j+1:Nat):Int))) 59 rfl kj (Qai (u:=.int .i64 (IntKind.i64.wrap (((j:Nat):Int)+1))) kj (congrArg (Value.int .i64) (i64n _ _ (by omega) (by omega)))) ?_
     refine Qaa (.int .i64 (((j+1:Nat):Int))) 10 rfl kj kj ?_
     refine Qae ?_
     have y5_6:Ext V1 W6:=(Rely.Ext.trans (Rely.Ext.refl V1) e6)
     have y5_7:Ext V1 V2:=(Ext.low y5_6 l7 (Rely.Ext.refl V1).size)
     have y5_8:Ext V1 V3:=(Ext.low y5_7 l8 (Rely.Ext.refl V1).size)
     repeat (first | with_reducible refine goX1 ?_ | with_reducible refine goX2 ?_ | with_reducible refine goX3 ?_)
     exact Qaq ((j+1),u2) ⟨rfl,rfl,rfl,rfl,rfl,rfl,trivial⟩ ⟨(by omega),(by rw [List.replicate_succ',←List.append_assoc]; exact hJ2),(RowKit.Below.trans (RowKit.Below.trans l8 (RowKit.Below.mono e9 y5_8.size)) l10),x10⟩ (by show ts.length+1-(j+1)<ts.length+1-j; omega)
    ·skip
     have h57:ts.length<j:=by have:=of_decide_eq_false c22; omega
     refine wp_exit ?_
     repeat (first | with_reducible refine goX1 ?_ | with_reducible refine goX2 ?_ | with_reducible refine goX3 ?_)
     exact Qaq (1,jv) ⟨rfl,rfl,rfl,rfl,trivial⟩ ⟨(qR _),(by rw [Nat.one_mul]; rw [show ts.length+1=j by omega]; exact hJ),(RowKit.Below.trans l7 l8),xx3⟩ (by show 1-1<1-q; omega)
   ·skip
    have hgn:ts.length+q*(ts.length+1)=2*ts.length+1:=by rw [hq]; omega
    rw [hgn] at hG ⊢
    have hG1:OwT V1.heap.size (us++List.replicate (ts.length+1) zn) (.slice aG (2*ts.length+1) cG) V2:=by rw [hq,Nat.one_mul] at hG; exact hG
    obtain ⟨gO,c9,cuO,hvO,lgO,rO,-,hcO,-⟩:=hG1.opens (by rw [List.length_append,qZ]; omega)
    simp only [Value.slice.injEq] at hvO
    obtain ⟨rfl,-,rfl⟩:=hvO
    have hM:(us++List.replicate (ts.length+1) zn).length=2*ts.length+1:=by rw [List.length_append,qZ,hM0]; omega
    have bgO:w.heap.size≤gO:=qT xx1.size lgO
    have hasT:AsC (us++List.replicate (ts.length+1) zn) T0:=hT0▸has.app _
    clear hG
    refine Qab ?_
    refine Qaa (.slice (some ⟨gO,0,none⟩) (2*ts.length+1) cG) 47 rfl kj kj ?_
    refine Qaa (.int .i64 ((2*ts.length+1:Nat):Int)) 48 rfl kj kj ?_
    refine Qaa (.int .i64 ((m:Nat):Int)) 49 rfl kj kj ?_
    refine Qaa (.int .i64 (((2*m:Nat):Int))) 50 rfl kj (Qai (u:=.int .i64 (IntKind.i64.wrap (2*((m:Nat):Int)))) kj (congrArg (Value.int .i64) ((IntWalk.i64_in _ (by omega)).trans (by omega)))) ?_
    refine Qaa (.int .i64 (((2*m)+1:Nat):Int)) 51 rfl kj (Qai (u:=.int .i64 (IntKind.i64.wrap ((((2*m:Nat):Int))+1))) kj (congrArg (Value.int .i64) (i64n _ _ (by omega) (by omega)))) ?_
    refine Qaa (.bool false) 52 rfl kj (Qai (u:=.bool (decide (((2*ts.length+1:Nat):Int)<(((2*m)+1:Nat):Int)))) kj (congrArg Value.bool (decide_eq_false (by omega)))) ?_
    refine Qae ?_
    refine hK17 _ _ ?_
    refine cond_false kj ?_
    refine wp_exit ?_
    refine hK15 _ _ ?_
    refine wp_seq_k fun K25 hK25=>?_
    refine Qab ?_
    refine Qaa (.slice (some ⟨gO,0,none⟩) (2*ts.length+1) cG) 64 rfl kj kj ?_
    refine Qaa (.int .i64 ((m:Nat):Int)) 65 rfl kj kj ?_
    refine Qaa (.int .i64 (((2*m:Nat):Int))) 66 rfl kj (Qai (u:=.int .i64 (IntKind.i64.wrap (2*((m:Nat):Int)))) kj (congrArg (Value.int .i64) ((IntWalk.i64_in _ (by omega)).trans (by omega)))) ?_
    have r2_4:=(Qah r2_3 e4)
    have r2_5:=(Qah r2_4 e5)
    have r2_6:=(Qah r2_5 e6)
    have r2_7:=(Qie l7 r2_6 (QaC r2_5))
    refine Qaa (.agg (cat [#[.bool nd.n.us],#[.int .i64 nd.n.nm],ints .u8 (nd.n.key),ints .u8 (nd.n.sg),ints .u8 (nd.n.pa),#[.slice nd.a nd.n.ms.length nd.c]])) 67 rfl kj (Qau 41 _ g2 41 _ _ r2_7 rfl kj kj (isz (n:=99) kj (by rw [Qac,Qac,Qac,Qac,Qac,Qac]; simp only [qS,cat,((Qaf _ _).trans hok.gl),((Qaf _ _).trans hok.kl),((Qaf _ _).trans hok.pl)]; rfl))) ?_
    refine Qaa (.pointer (some ⟨gO,0+(2*m)*99,none⟩)) 68 rfl kj (Qa1 23 _ _ .i64 (2*m) gO 0 (2*ts.length+1) cG 41 99 rfl kj kj kj kj (by omega)) ?_
    refine QeL 41 _ _ gO (2*m) cG (n:=nd) hM hG1 (by omega) hok rfl kj kj kj rfl kj fun W8 p8 hV0=>?_
    have x8:Ext w W8:=Puts.ext p8 xx2 bgO
    obtain ⟨-,cuV0,rV8⟩:=hV0.rowBlock (g:=gO) rfl
    refine Qae ?_
    refine hK25 _ _ ?_
    refine wp_seq_k fun K26 hK26=>?_
    refine Qab ?_
    refine Qaa (.int .i64 ((m:Nat):Int)) 69 rfl kj kj ?_
    refine Qaa (.int .i64 (2*((m:Nat):Int))) 70 rfl kj (Qai (u:=.int .i64 (IntKind.i64.wrap (2*((m:Nat):Int)))) kj (congrArg (Value.int .i64) (IntWalk.i64_in _ (by omega)))) ?_
    refine Qaa (.slice (some ⟨gO,0,none⟩) (2*ts.length+1) cG) 71 rfl kj kj ?_
    refine Qaa (.int .i64 ((2*ts.length+1:Nat):Int)) 72 rfl kj kj ?_
    refine Qaj (.int .i64 ((2*L:Nat):Int)) 32 #[.int .i64 ((2*ts.length+1:Nat):Int)] 73 rfl kj kj (Qcp ((2*ts.length+1:Nat):Int) _ (QbG (by omega) hL2) _) fun W9 e9=>?_
    have x9:Ext w W9:=Ext.tr x8 e9
    refine Qa0 (fun v W'=>(OwnN .i64 3 W9.heap.size (upL (2*((m:Nat):Int)) ((2*L:Nat):Int) K)) v W'∧Ext W9 W') 54 #[.int .i64 (2*((m:Nat):Int)),.int .i64 ((2*L:Nat):Int)] 74 rfl kj kj ((QhD (2*((m:Nat):Int)) ((2*L:Nat):Int) K hK hneg hall _).mono (by rintro e w' ⟨v,rfl,e1,hv⟩; exact ⟨v,rfl,hv,e1⟩)) fun vv27 W10 hh27=>?_
    obtain ⟨hv27,e10⟩:=hh27
    have x10:Ext w W10:=Ext.tr x9 e10
    have r24_9:=(Qah rV8 e9)
    have nbp:Value.ownBlock vv27≠some gO:=OwnN.nb hv27 (QaC r24_9)
    have hrp:=OwnN.rd hv27
    obtain ⟨ap,cp,hvp,-⟩:=id hrp
    subst hvp
    refine Qaa (.slice ap ((upL (2*((m:Nat):Int)) ((2*L:Nat):Int) K).length) cp) 11 rfl kj kj ?_
    refine Qae ?_
    refine hK26 _ _ ?_
    refine wp_seq_k fun K28 hK28=>?_
    refine wp_seq_k fun K29 hK29=>?_
    refine Qab ?_
    refine Qaa (.int .i64 0) 12 rfl kj kj ?_
    refine Qae ?_
    refine hK29 _ _ ?_
    refine wp_block ?_
    have y8_9:Ext W8 W9:=(Rely.Ext.trans (Rely.Ext.refl W8) e9)
    have y8_10:Ext W8 W10:=(Rely.Ext.trans y8_9 e10)
    refine Qaz (fun (s4:Nat×List NdV)=>[(7,.int .i64 ((m:Nat):Int)),(8,.slice (some ⟨gO,0,none⟩) (2*ts.length+1) cG),(11,.slice ap ((upL (2*((m:Nat):Int)) ((2*L:Nat):Int) K).length) cp),(12,.int .i64 ((s4.1:Nat):Int))]) (fun (s4:Nat×List NdV) W=>(s4.1≤(upL (2*((m:Nat):Int)) ((2*L:Nat):Int) K).length)∧(s4.2.length=2*ts.length+1)∧(AsC s4.2 (insL ((us++List.replicate (ts.length+1) zn).set (2*m) nd) (2*((m:Nat):Int)) ((2*L:Nat):Int) ((m:Nat):Int) (List.range s4.1)))∧(ndi s4.2 (2*m)=nd)∧(OwH V1.heap.size s4.2 (.slice (some ⟨gO,0,none⟩) (2*ts.length+1) cG) W (some (2*m)))∧(QaO [gO] W10 W)∧(Ext w W)) (fun (s4:Nat×List NdV)=>(upL (2*((m:Nat):Int)) ((2*L:Nat):Int) K).length-s4.1) (0,((us++List.replicate (ts.length+1) zn).set (2*m) nd)) ⟨rfl,rfl,rfl,rfl,trivial⟩ ⟨(Nat.zero_le _),((List.length_set ..).trans hM),(AsC.refl _),(by rw [Qa8 nd (by omega),if_pos rfl]),(OwH.ext hV0 y8_10),(QaO.refl [gO] W10),x10⟩ fun s4 X4 V4 hI4=>?_
    obtain ⟨k,vs⟩:=s4
    obtain ⟨hk,hvl,hvc,hh2,hV,kk4,xx4⟩:=hI4
    replace hk:k≤(upL (2*((m:Nat):Int)) ((2*L:Nat):Int) K).length:=hk
    replace hvl:vs.length=2*ts.length+1:=hvl
    replace hvc:AsC vs (insL ((us++List.replicate (ts.length+1) zn).set (2*m) nd) (2*((m:Nat):Int)) ((2*L:Nat):Int) ((m:Nat):Int) (List.range k)):=hvc
    replace hh2:ndi vs (2*m)=nd:=hh2
    replace hV:OwH V1.heap.size vs (.slice (some ⟨gO,0,none⟩) (2*ts.length+1) cG) V4 (some (2*m)):=hV
    replace kk4:QaO [gO] W10 V4:=kk4
    replace xx4:Ext w V4:=xx4
    have q11:=kk4
    obtain ⟨-,cuV,rOv⟩:=hV.rowBlock (g:=gO) rfl
    refine wp_seq_k fun K30 hK30=>?_
    refine wp_seq_k fun K31 hK31=>?_
    refine Qab ?_
    refine Qaa (.int .i64 ((k:Nat):Int)) 75 rfl kj kj ?_
    refine Qaa (.slice ap ((upL (2*((m:Nat):Int)) ((2*L:Nat):Int) K).length) cp) 76 rfl kj kj ?_
    refine Qaa (.int .i64 (((upL (2*((m:Nat):Int)) ((2*L:Nat):Int) K).length:Nat):Int)) 77 rfl kj kj ?_
    refine Qaa (.bool (decide (((k:Nat):Int)<(((upL (2*((m:Nat):Int)) ((2*L:Nat):Int) K).length:Nat):Int)))) 78 rfl kj kj ?_
    refine Qae ?_
    refine hK31 _ _ ?_
    refine Qas (t:=decide (((k:Nat):Int)<(((upL (2*((m:Nat):Int)) ((2*L:Nat):Int) K).length:Nat):Int))) kj (fun c32=>?_) (fun c32=>?_)
    ·skip
     have hlt78:k<(upL (2*((m:Nat):Int)) ((2*L:Nat):Int) K).length:=by have:=of_decide_eq_true c32; omega
     have f34_11:=(OwnN.keepsL hv27 q11 (QfP nbp QhX))
     have hnx_33:(upL (2*((m:Nat):Int)) ((2*L:Nat):Int) K).length=(upL (2*((m:Nat):Int)) ((2*L:Nat):Int) K).length:=rfl
     obtain ⟨gcx_33,ocx_33,hax_33,hlx_33,hcx_33⟩:=QaV (OwnN.rd f34_11) (by rw [hnx_33]; omega)
     have hkK:k<K:=by rw [QcM] at hlt78; exact hlt78
     have hk0:=hall k hkK
     obtain ⟨u,hu⟩:∃ u,u=upN (2*((m:Nat):Int)) ((2*L:Nat):Int) k:=⟨_,rfl⟩
     have hue:=Qb9 hk0
     rw [←hu] at hue
     have huo:=QcL hk0
     have hul:=Qdx (x:=2*((m:Nat):Int)) k hTr
     rw [←hu] at hul
     have hnu:nth (upL (2*((m:Nat):Int)) ((2*L:Nat):Int) K) k=((u:Nat):Int):=(QfC hkK).trans hue.symm
     have hnt:=OwH.nodeH hvl hV (x:=u) (by omega) (by omega)
     obtain ⟨nt,ent⟩:∃ z,z=ndi vs u:=⟨_,rfl⟩
     rw [←ent] at hnt
     have okt:=hnt.ok
     obtain ⟨hpn,hpd⟩:=Qgs (Qel hTr (show (0:Int)≤((m:Nat):Int) by omega) (show ((m:Nat):Int)<((2*L:Nat):Int) by omega)) (show k<6 by omega) (fun i hi=>hall i (by omega))
     have hcu:nt.n=(ndi T0 u).n:=by
      rw [ent,hvc.all u,QeZ _ _ (fun z _=>by rw [List.length_set,hM]; exact QhL hTr (by omega) z) hpd,if_neg (fun q=>hpn (by rw [←hu]; exact q.1)),Qa8 nd (by omega),if_neg (show u≠2*m by omega)]; exact hasT.all u
     have hil:upN (2*((m:Nat):Int)) ((2*L:Nat):Int) k<(insL ((us++List.replicate (ts.length+1) zn).set (2*m) nd) (2*((m:Nat):Int)) ((2*L:Nat):Int) ((m:Nat):Int) (List.range k)).length:=by rw [Qbx,List.length_set,hM,←hu]; omega
     refine wp_skip ?_
     refine hK30 _ _ ?_
     refine wp_seq_k fun K35 hK35=>?_
     refine wp_block ?_
     refine wp_seq_k fun K36 hK36=>?_
     refine wp_seq_k fun K37 hK37=>?_
     rcases (show nt.n.us=true∨nt.n.us=false from by cases nt.n.us; exact .inr rfl; exact .inl rfl) with hq | hq
     ·skip
      have hnx_38:(upL (2*((m:Nat):Int)) ((2*L:Nat):Int) K).length=(upL (2*((m:Nat):Int)) ((2*L:Nat):Int) K).length:=rfl
      obtain ⟨gcx_38,ocx_38,hax_38,hlx_38,hcx_38⟩:=QaV (OwnN.rd f34_11) (by rw [hnx_38]; omega)
      have hmp:=F.ms_lt (x:=u) (by omega) (by omega) (hcu▸hq)
      rw [←hcu] at hmp
      have hmn:((m:Nat):Int)∉nt.n.ms:=fun q=>by have h9:=(hmp.2 _ q).2.2; rw [Int.toNat_natCast,hfm] at h9; cases h9
      have hntm:nt.n.ms.length≤900:=by rw [hcu]; exact hm9 u
      refine Qab ?_
      refine Qaa (.slice (some ⟨gO,0,none⟩) (2*ts.length+1) cG) 81 rfl kj kj ?_
      refine Qaa (.slice ap ((upL (2*((m:Nat):Int)) ((2*L:Nat):Int) K).length) cp) 82 rfl kj kj ?_
      refine Qaa (.int .i64 ((k:Nat):Int)) 83 rfl kj kj ?_
      refine Qaa (.pointer (some ⟨gcx_38,ocx_38+k,none⟩)) 84 rfl kj (Qa9 36 _ _ .i64 k gcx_38 ocx_38 ((upL (2*((m:Nat):Int)) ((2*L:Nat):Int) K).length) cp 3 ap _ hax_38 rfl rfl kj kj kj kj (Nat.lt_of_lt_of_eq (show k<(upL (2*((m:Nat):Int)) ((2*L:Nat):Int) K).length by omega) hnx_38.symm)) ?_
      refine Qaa (.int .i64 ((u:Nat):Int)) 85 rfl kj (by rw [←hnu]; exact (Qak 3 _ _ (.int .i64 (nth (upL (2*((m:Nat):Int)) ((2*L:Nat):Int) K) (k))) (hcx_38 k (Nat.lt_of_lt_of_eq (show k<(upL (2*((m:Nat):Int)) ((2*L:Nat):Int) K).length by omega) hnx_38.symm)) rfl kj kj)) ?_
      refine Qaa (.pointer (some ⟨gO,0+u*99,none⟩)) 86 rfl kj (Qa1 23 _ _ .i64 u gO 0 (2*ts.length+1) cG 41 99 rfl kj kj kj kj (by omega)) ?_
      refine Qaa (.pointer (some ⟨gO,0+u*99,none⟩)) 87 rfl kj kj ?_
      refine Qaa (.bool true) 88 rfl kj (Qak 4 _ _ (.bool true) ((NdAt.at3 hnt).1.trans (congrArg (fun z=>some (Value.bool z)) hq)) rfl kj kj) ?_
      refine Qaa (.bool false) 89 rfl kj kj ?_
      refine Qae ?_
      refine hK37 _ _ ?_
      refine cond_false kj ?_
      refine wp_skip ?_
      refine hK36 _ _ ?_
      refine wp_seq_k fun K39 hK39=>?_
      refine Qab ?_
      refine Qaa (.slice none 0 0) 13 rfl kj kj ?_
      refine Qae ?_
      refine hK39 _ _ ?_
      refine wp_seq_k fun K40 hK40=>?_
      refine wp_seq_k fun K41 hK41=>?_
      refine Qab ?_
      refine Qaa (.int .i64 0) 14 rfl kj kj ?_
      refine Qae ?_
      refine hK41 _ _ ?_
      refine wp_block ?_
      refine Qaz (fun (s5:Nat×Value)=>[(7,.int .i64 ((m:Nat):Int)),(8,.slice (some ⟨gO,0,none⟩) (2*ts.length+1) cG),(11,.slice ap ((upL (2*((m:Nat):Int)) ((2*L:Nat):Int) K).length) cp),(12,.int .i64 ((k:Nat):Int)),(13,s5.2),(14,.int .i64 ((s5.1:Nat):Int))]) (fun (s5:Nat×Value) W=>(s5.1≤32)∧(OwnN .i64 3 V4.heap.size (wl (QbX nt.n.ms m s5.1)) s5.2 W)∧(Below V4.heap.size V4 W)∧(Ext w W)) (fun (s5:Nat×Value)=>32-s5.1) (0,(.slice none 0 0)) ⟨rfl,rfl,rfl,rfl,rfl,rfl,trivial⟩ ⟨(Nat.zero_le _),(QcD _ _ _ _),(RowKit.Below.refl _ V4),xx4⟩ fun s5 X5 V5 hI5=>?_
      obtain ⟨j,uu⟩:=s5
      obtain ⟨hj,huu,kk5,xx5⟩:=hI5
      replace hj:j≤32:=hj
      replace huu:OwnN .i64 3 V4.heap.size (wl (QbX nt.n.ms m j)) uu V5:=huu
      replace kk5:Below V4.heap.size V4 V5:=kk5
      replace xx5:Ext w V5:=xx5
      have l12:=kk5
      refine wp_seq_k fun K42 hK42=>?_
      refine wp_seq_k fun K43 hK43=>?_
      refine Qab ?_
      refine Qaa (.int .i64 ((j:Nat):Int)) 90 rfl kj kj ?_
      refine Qaa (.bool (decide (((j:Nat):Int)<32))) 91 rfl kj kj ?_
      refine Qae ?_
      refine hK43 _ _ ?_
      refine Qas (t:=decide (((j:Nat):Int)<32)) kj (fun c44=>?_) (fun c44=>?_)
      ·skip
       have hlt91:j<32:=by have:=of_decide_eq_true c44; omega
       refine wp_skip ?_
       refine hK42 _ _ ?_
       refine wp_seq_k fun K45 hK45=>?_
       refine wp_block ?_
       refine wp_seq_k fun K46 hK46=>?_
       have y11_12:Ext V4 V5:=(Ext.low (Rely.Ext.refl V4) l12 (Rely.Ext.refl V4).size)
       have hnj:=NdAt.ext hnt y11_12
       have f48_12:=(OwnN.low (n:=0) f34_11 f34_11 l12)
       have hnx_47:(upL (2*((m:Nat):Int)) ((2*L:Nat):Int) K).length=(upL (2*((m:Nat):Int)) ((2*L:Nat):Int) K).length:=rfl
       obtain ⟨gcx_47,ocx_47,hax_47,hlx_47,hcx_47⟩:=QaV (OwnN.rd f48_12) (by rw [hnx_47]; omega)
       rcases (show j=m∨(j≠m∧((j:Nat):Int)∈nt.n.ms)∨(j≠m∧((j:Nat):Int)∉nt.n.ms) from by by_cases h8:j=m; exact .inl h8; by_cases h7:((j:Nat):Int)∈nt.n.ms; exact .inr (.inl ⟨h8,h7⟩); exact .inr (.inr ⟨h8,h7⟩)) with hqj | hqj | hqj
       ·skip
        refine Qab ?_
        refine Qaa (.int .i64 ((j:Nat):Int)) 94 rfl kj kj ?_
        refine Qaa (.int .i64 ((m:Nat):Int)) 95 rfl kj kj ?_
        refine Qaa (.bool true) 96 rfl kj (Qai (u:=.bool ((((j:Nat):Int)==((m:Nat):Int)))) kj (congrArg Value.bool (beq_iff_eq.2 (by omega)))) ?_
        refine Qaa (.bool true) 97 rfl kj kj ?_
        refine Qad 98 rfl kj ?_
        refine Qad 99 rfl kj ?_
        refine Qad 100 rfl kj ?_
        refine Qad 101 rfl kj ?_
        refine Qad 102 rfl kj ?_
        refine Qad 103 rfl kj ?_
        refine Qad 104 rfl kj ?_
        refine Qad 105 rfl kj ?_
        refine Qad 106 rfl kj ?_
        refine Qad 107 rfl kj ?_
        refine Qaa (.bool true) 108 rfl kj kj ?_
        refine Qae ?_
        refine hK46 _ _ ?_
        refine cond_true kj ?_
        refine Qab ?_
        refine Qaa (uu) 109 rfl kj kj ?_
        refine Qaa (.int .i64 ((j:Nat):Int)) 110 rfl kj kj ?_
        refine Qbu (ints .i64 ([((j:Nat):Int)])) 3 1 111 rfl kj kj fun g49 W13 l49 e13 r49_13=>?_
        have x13:Ext w W13:=Ext.tr xx5 e13
        have b49:w.heap.size≤g49:=qT xx5.size l49
        have f50_13:=(huu.ext e13)
        have y11_13:Ext V4 W13:=(Rely.Ext.trans y11_12 e13)
        refine Qbz (k:=.i64) (T:=3) (xs:=wl (QbX nt.n.ms m j)) (ys:=[((j:Nat):Int)]) (V:=V4) 8 (.tmp 109) (.tmp 111) 36 rfl kj kj (by decide) 112 rfl kj kj kj f50_13 (QcY (xs:=[((j:Nat):Int)]) (n:=1) rfl r49_13 (QaC r49_13) (show 1≤maxLen from by decide)) (by have h9:=QdL nt.n.ms m j; rw [Qgc]; show (QbX nt.n.ms m j).length+1≤1000000000; omega) y11_13 fun u2 W14 f51 y14 l14=>?_
        have x14:Ext w W14:=Ext.low x13 l14 xx4.size
        refine Qaa (u2) 13 rfl kj kj ?_
        refine Qae ?_
        refine hK45 _ _ ?_
        refine Qab ?_
        refine Qaa (.int .i64 ((j:Nat):Int)) 92 rfl kj kj ?_
        refine Qaa (.int .i64 ((j+1:Nat):Int)) 93 rfl kj (Qai (u:=.int .i64 (IntKind.i64.wrap (((j:Nat):Int)+1))) kj (congrArg (Value.int .i64) (i64n _ _ (by omega) (by omega)))) ?_
        refine Qaa (.int .i64 ((j+1:Nat):Int)) 14 rfl kj kj ?_
        refine Qae ?_
        repeat (first | with_reducible refine goX1 ?_ | with_reducible refine goX2 ?_ | with_reducible refine goX3 ?_)
        exact Qaq ((j+1),u2) ⟨rfl,rfl,rfl,rfl,rfl,rfl,trivial⟩ ⟨(by omega),(by rw [QdK (.inl hqj),Qgd]; exact f51),(RowKit.Below.trans (RowKit.Below.trans l12 (RowKit.Below.mono e13 y11_12.size)) l14),x14⟩ (by show 32-(j+1)<32-j; omega)
       ·skip
        refine Qab ?_
        refine Qaa (.int .i64 ((j:Nat):Int)) 94 rfl kj kj ?_
        refine Qaa (.int .i64 ((m:Nat):Int)) 95 rfl kj kj ?_
        refine Qaa (.bool false) 96 rfl kj (Qai (u:=.bool ((((j:Nat):Int)==((m:Nat):Int)))) kj (congrArg Value.bool (beq_eq_false_iff_ne.2 (by omega)))) ?_
        refine Qaa (.bool false) 97 rfl kj kj ?_
        refine Qaa (.int .i64 ((j:Nat):Int)) 98 rfl kj kj ?_
        refine Qaa (.slice (some ⟨gO,0,none⟩) (2*ts.length+1) cG) 99 rfl kj kj ?_
        refine Qaa (.slice ap ((upL (2*((m:Nat):Int)) ((2*L:Nat):Int) K).length) cp) 100 rfl kj kj ?_
        refine Qaa (.int .i64 ((k:Nat):Int)) 101 rfl kj kj ?_
        refine Qaa (.pointer (some ⟨gcx_47,ocx_47+k,none⟩)) 102 rfl kj (Qa9 36 _ _ .i64 k gcx_47 ocx_47 ((upL (2*((m:Nat):Int)) ((2*L:Nat):Int) K).length) cp 3 ap _ hax_47 rfl rfl kj kj kj kj (Nat.lt_of_lt_of_eq (show k<(upL (2*((m:Nat):Int)) ((2*L:Nat):Int) K).length by omega) hnx_47.symm)) ?_
        refine Qaa (.int .i64 ((u:Nat):Int)) 103 rfl kj (by rw [←hnu]; exact (Qak 3 _ _ (.int .i64 (nth (upL (2*((m:Nat):Int)) ((2*L:Nat):Int) K) (k))) (hcx_47 k (Nat.lt_of_lt_of_eq (show k<(upL (2*((m:Nat):Int)) ((2*L:Nat):Int) K).length by omega) hnx_47.symm)) rfl kj kj)) ?_
        refine Qaa (.pointer (some ⟨gO,0+u*99,none⟩)) 104 rfl kj (Qa1 23 _ _ .i64 u gO 0 (2*ts.length+1) cG 41 99 rfl kj kj kj kj (by omega)) ?_
        refine Qaa (.pointer (some ⟨gO,0+u*99+98,none⟩)) 105 rfl kj kj ?_
        refine Qaa (.slice nt.a nt.n.ms.length nt.c) 106 rfl kj (Qak 36 _ _ (.slice nt.a nt.n.ms.length nt.c) (NdAt.at3 hnj).2.2 rfl kj kj) ?_
        refine Qaj (.bool true) 34 #[.int .i64 ((j:Nat):Int),.slice nt.a nt.n.ms.length nt.c] 107 rfl kj kj (inRb nt.n.ms ((j:Nat):Int) nt.a nt.c _ _ (qT hntm (by decide)) (RdK.here (RdK.ext hnj.rd (Rely.Ext.refl V5))) true (decide_eq_true hqj.2)) fun W13 e13=>?_
        have x13:Ext w W13:=Ext.tr xx5 e13
        refine Qaa (.bool true) 108 rfl kj kj ?_
        refine Qae ?_
        refine hK46 _ _ ?_
        refine cond_true kj ?_
        refine Qab ?_
        refine Qaa (uu) 109 rfl kj kj ?_
        refine Qaa (.int .i64 ((j:Nat):Int)) 110 rfl kj kj ?_
        refine Qbu (ints .i64 ([((j:Nat):Int)])) 3 1 111 rfl kj kj fun g52 W14 l52 e14 r52_14=>?_
        have x14:Ext w W14:=Ext.tr x13 e14
        have b52:w.heap.size≤g52:=qT x13.size l52
        have f53_13:=(huu.ext e13)
        have f54_14:=(f53_13.ext e14)
        have y11_13:Ext V4 W13:=(Rely.Ext.trans y11_12 e13)
        have y11_14:Ext V4 W14:=(Rely.Ext.trans y11_13 e14)
        refine Qbz (k:=.i64) (T:=3) (xs:=wl (QbX nt.n.ms m j)) (ys:=[((j:Nat):Int)]) (V:=V4) 8 (.tmp 109) (.tmp 111) 36 rfl kj kj (by decide) 112 rfl kj kj kj f54_14 (QcY (xs:=[((j:Nat):Int)]) (n:=1) rfl r52_14 (QaC r52_14) (show 1≤maxLen from by decide)) (by have h9:=QdL nt.n.ms m j; rw [Qgc]; show (QbX nt.n.ms m j).length+1≤1000000000; omega) y11_14 fun u2 W15 f55 y15 l15=>?_
        have x15:Ext w W15:=Ext.low x14 l15 xx4.size
        refine Qaa (u2) 13 rfl kj kj ?_
        refine Qae ?_
        refine hK45 _ _ ?_
        refine Qab ?_
        refine Qaa (.int .i64 ((j:Nat):Int)) 92 rfl kj kj ?_
        refine Qaa (.int .i64 ((j+1:Nat):Int)) 93 rfl kj (Qai (u:=.int .i64 (IntKind.i64.wrap (((j:Nat):Int)+1))) kj (congrArg (Value.int .i64) (i64n _ _ (by omega) (by omega)))) ?_
        refine Qaa (.int .i64 ((j+1:Nat):Int)) 14 rfl kj kj ?_
        refine Qae ?_
        repeat (first | with_reducible refine goX1 ?_ | with_reducible refine goX2 ?_ | with_reducible refine goX3 ?_)
        exact Qaq ((j+1),u2) ⟨rfl,rfl,rfl,rfl,rfl,rfl,trivial⟩ ⟨(by omega),(by rw [QdK (.inr hqj.2),Qgd]; exact f55),(RowKit.Below.trans (RowKit.Below.trans (RowKit.Below.trans l12 (RowKit.Below.mono e13 y11_12.size)) (RowKit.Below.mono e14 y11_13.size)) l15),x15⟩ (by show 32-(j+1)<32-j; omega)
       ·skip
        refine Qab ?_
        refine Qaa (.int .i64 ((j:Nat):Int)) 94 rfl kj kj ?_
        refine Qaa (.int .i64 ((m:Nat):Int)) 95 rfl kj kj ?_
        refine Qaa (.bool false) 96 rfl kj (Qai (u:=.bool ((((j:Nat):Int)==((m:Nat):Int)))) kj (congrArg Value.bool (beq_eq_false_iff_ne.2 (by omega)))) ?_
        refine Qaa (.bool false) 97 rfl kj kj ?_
        refine Qaa (.int .i64 ((j:Nat):Int)) 98 rfl kj kj ?_
        refine Qaa (.slice (some ⟨gO,0,none⟩) (2*ts.length+1) cG) 99 rfl kj kj ?_
        refine Qaa (.slice ap ((upL (2*((m:Nat):Int)) ((2*L:Nat):Int) K).length) cp) 100 rfl kj kj ?_
        refine Qaa (.int .i64 ((k:Nat):Int)) 101 rfl kj kj ?_
        refine Qaa (.pointer (some ⟨gcx_47,ocx_47+k,none⟩)) 102 rfl kj (Qa9 36 _ _ .i64 k gcx_47 ocx_47 ((upL (2*((m:Nat):Int)) ((2*L:Nat):Int) K).length) cp 3 ap _ hax_47 rfl rfl kj kj kj kj (Nat.lt_of_lt_of_eq (show k<(upL (2*((m:Nat):Int)) ((2*L:Nat):Int) K).length by omega) hnx_47.symm)) ?_
        refine Qaa (.int .i64 ((u:Nat):Int)) 103 rfl kj (by rw [←hnu]; exact (Qak 3 _ _ (.int .i64 (nth (upL (2*((m:Nat):Int)) ((2*L:Nat):Int) K) (k))) (hcx_47 k (Nat.lt_of_lt_of_eq (show k<(upL (2*((m:Nat):Int)) ((2*L:Nat):Int) K).length by omega) hnx_47.symm)) rfl kj kj)) ?_
        refine Qaa (.pointer (some ⟨gO,0+u*99,none⟩)) 104 rfl kj (Qa1 23 _ _ .i64 u gO 0 (2*ts.length+1) cG 41 99 rfl kj kj kj kj (by omega)) ?_
        refine Qaa (.pointer (some ⟨gO,0+u*99+98,none⟩)) 105 rfl kj kj ?_
        refine Qaa (.slice nt.a nt.n.ms.length nt.c) 106 rfl kj (Qak 36 _ _ (.slice nt.a nt.n.ms.length nt.c) (NdAt.at3 hnj).2.2 rfl kj kj) ?_
        refine Qaj (.bool false) 34 #[.int .i64 ((j:Nat):Int),.slice nt.a nt.n.ms.length nt.c] 107 rfl kj kj (inRb nt.n.ms ((j:Nat):Int) nt.a nt.c _ _ (qT hntm (by decide)) (RdK.here (RdK.ext hnj.rd (Rely.Ext.refl V5))) false (decide_eq_false hqj.2)) fun W13 e13=>?_
        have x13:Ext w W13:=Ext.tr xx5 e13
        refine Qaa (.bool false) 108 rfl kj kj ?_
        refine Qae ?_
        refine hK46 _ _ ?_
        refine cond_false kj ?_
        refine wp_skip ?_
        refine hK45 _ _ ?_
        refine Qab ?_
        refine Qaa (.int .i64 ((j:Nat):Int)) 92 rfl kj kj ?_
        refine Qaa (.int .i64 ((j+1:Nat):Int)) 93 rfl kj (Qai (u:=.int .i64 (IntKind.i64.wrap (((j:Nat):Int)+1))) kj (congrArg (Value.int .i64) (i64n _ _ (by omega) (by omega)))) ?_
        refine Qaa (.int .i64 ((j+1:Nat):Int)) 14 rfl kj kj ?_
        refine Qae ?_
        have f56_13:=(huu.ext e13)
        repeat (first | with_reducible refine goX1 ?_ | with_reducible refine goX2 ?_ | with_reducible refine goX3 ?_)
        exact Qaq ((j+1),uu) ⟨rfl,rfl,rfl,rfl,rfl,rfl,trivial⟩ ⟨(by omega),(by rw [QhN hqj.1 hqj.2]; exact f56_13),(RowKit.Below.trans l12 (RowKit.Below.mono e13 y11_12.size)),x13⟩ (by show 32-(j+1)<32-j; omega)
      ·skip
       have heq91:j=32:=by have:=of_decide_eq_false c44; omega
       refine wp_exit ?_
       refine hK40 _ _ ?_
       have f58_12:=(OwnN.low (n:=0) f34_11 f34_11 l12)
       have hnx_57:(upL (2*((m:Nat):Int)) ((2*L:Nat):Int) K).length=(upL (2*((m:Nat):Int)) ((2*L:Nat):Int) K).length:=rfl
       obtain ⟨gcx_57,ocx_57,hax_57,hlx_57,hcx_57⟩:=QaV (OwnN.rd f58_12) (by rw [hnx_57]; omega)
       skip
       ·skip
        refine Qab ?_
        refine Qaa (.slice (some ⟨gO,0,none⟩) (2*ts.length+1) cG) 113 rfl kj kj ?_
        refine Qaa (.slice ap ((upL (2*((m:Nat):Int)) ((2*L:Nat):Int) K).length) cp) 114 rfl kj kj ?_
        refine Qaa (.int .i64 ((k:Nat):Int)) 115 rfl kj kj ?_
        refine Qaa (.pointer (some ⟨gcx_57,ocx_57+k,none⟩)) 116 rfl kj (Qa9 36 _ _ .i64 k gcx_57 ocx_57 ((upL (2*((m:Nat):Int)) ((2*L:Nat):Int) K).length) cp 3 ap _ hax_57 rfl rfl kj kj kj kj (Nat.lt_of_lt_of_eq (show k<(upL (2*((m:Nat):Int)) ((2*L:Nat):Int) K).length by omega) hnx_57.symm)) ?_
        refine Qaa (.int .i64 ((u:Nat):Int)) 117 rfl kj (by rw [←hnu]; exact (Qak 3 _ _ (.int .i64 (nth (upL (2*((m:Nat):Int)) ((2*L:Nat):Int) K) (k))) (hcx_57 k (Nat.lt_of_lt_of_eq (show k<(upL (2*((m:Nat):Int)) ((2*L:Nat):Int) K).length by omega) hnx_57.symm)) rfl kj kj)) ?_
        refine Qaa (uu) 118 rfl kj kj ?_
        refine Qaa (.pointer (some ⟨gO,0+u*99,none⟩)) 119 rfl kj (Qa1 23 _ _ .i64 u gO 0 (2*ts.length+1) cG 41 99 rfl kj kj kj kj (by omega)) ?_
        refine Qaa (.pointer (some ⟨gO,0+u*99+98,none⟩)) 120 rfl kj kj ?_
        have y11_12:Ext V4 V5:=(Ext.low (Rely.Ext.refl V4) l12 (Rely.Ext.refl V4).size)
        have hV1:=OwH.ext hV y11_12
        have hl5:=huu
        rw [heq91,Qgz hmp.1 (fun j hj=>⟨(hmp.2 j hj).1,(hmp.2 j hj).2.1⟩) (by omega) hmn] at hl5
        obtain ⟨a6,c6,hv6,-⟩:=id (OwnN.rd hl5)
        rw [hv6] at hl5
        have hlen6:(insA nt.n.ms (posI nt.n.ms ((m:Nat):Int)) ((m:Nat):Int)).length≤1000:=by rw [QcH (Qdt _ _)]; omega
        have hn6:NdIn V1.heap.size V5 ⟨{ (ndi vs u).n with ms:=insA nt.n.ms (posI nt.n.ms ((m:Nat):Int)) ((m:Nat):Int) },a6,c6⟩:=⟨⟨(ent▸okt).kl,(ent▸okt).gl,(ent▸okt).pl,(ent▸okt).kb,(ent▸okt).gb,(ent▸okt).pb⟩,hlen6,OwnN.base (qT (qT (qT (qT (qT (qT (qT (qR _) e6.size) l7.size) (qE p8.2.2.2.1.symm)) e9.size) e10.size) (QaO.size q11)) (qR _)) hl5⟩
        have ha6:∀ j,j<2*ts.length+1→j≠u→j≠2*m→∀ g,ob ⟨{ (ndi vs u).n with ms:=insA nt.n.ms (posI nt.n.ms ((m:Nat):Int)) ((m:Nat):Int) },a6,c6⟩=some g→ob (ndi vs j)≠some g:=fun j hj hju hjh g h1 h2=>by have h3:=OwnN.ge hl5 h1; have:=(hV.nd j (by omega) (by simpa using hjh)).lt h2; omega
        refine Qfq 36 _ _ (ms:=insA nt.n.ms (posI nt.n.ms ((m:Nat):Int)) ((m:Nat):Int)) (a':=a6) (c':=c6) hvl hV1 (by omega) (by omega) hn6 ha6 rfl kj hv6 kj rfl kj fun W13 p13 hV2=>?_
        have x13:Ext w W13:=Puts.ext p13 xx5 bgO
        refine Qae ?_
        refine hK35 _ _ ?_
        refine Qab ?_
        refine Qaa (.int .i64 ((k:Nat):Int)) 79 rfl kj kj ?_
        refine Qaa (.int .i64 ((k+1:Nat):Int)) 80 rfl kj (Qai (u:=.int .i64 (IntKind.i64.wrap (((k:Nat):Int)+1))) kj (congrArg (Value.int .i64) (i64n _ _ (by omega) (by omega)))) ?_
        refine Qaa (.int .i64 ((k+1:Nat):Int)) 12 rfl kj kj ?_
        refine Qae ?_
        repeat (first | with_reducible refine goX1 ?_ | with_reducible refine goX2 ?_ | with_reducible refine goX3 ?_)
        exact Qaq ((k+1),(vs.set u ⟨{ (ndi vs u).n with ms:=insA nt.n.ms (posI nt.n.ms ((m:Nat):Int)) ((m:Nat):Int) },a6,c6⟩)) ⟨rfl,rfl,rfl,rfl,trivial⟩ ⟨(by omega),((List.length_set ..).trans hvl),(by rw [List.range_succ,QbZ,ent]; have:=AsC.step (i:=((m:Nat):Int)) (a:=a6) (c:=c6) hvc hil (by rw [←hu,←ent]; exact hq); rw [←hu] at this; exact this),(by rw [Qa8 _ (by omega),if_neg (by omega)]; exact hh2),hV2,(QaO.puts (QaO.low q11 l12 (qT (QaO.size q11) (qR _))) p13 (.inl (by simp))),x13⟩ (by show (upL (2*((m:Nat):Int)) ((2*L:Nat):Int) K).length-(k+1)<(upL (2*((m:Nat):Int)) ((2*L:Nat):Int) K).length-k; omega)
     ·skip
      have hnx_59:(upL (2*((m:Nat):Int)) ((2*L:Nat):Int) K).length=(upL (2*((m:Nat):Int)) ((2*L:Nat):Int) K).length:=rfl
      obtain ⟨gcx_59,ocx_59,hax_59,hlx_59,hcx_59⟩:=QaV (OwnN.rd f34_11) (by rw [hnx_59]; omega)
      refine Qab ?_
      refine Qaa (.slice (some ⟨gO,0,none⟩) (2*ts.length+1) cG) 81 rfl kj kj ?_
      refine Qaa (.slice ap ((upL (2*((m:Nat):Int)) ((2*L:Nat):Int) K).length) cp) 82 rfl kj kj ?_
      refine Qaa (.int .i64 ((k:Nat):Int)) 83 rfl kj kj ?_
      refine Qaa (.pointer (some ⟨gcx_59,ocx_59+k,none⟩)) 84 rfl kj (Qa9 36 _ _ .i64 k gcx_59 ocx_59 ((upL (2*((m:Nat):Int)) ((2*L:Nat):Int) K).length) cp 3 ap _ hax_59 rfl rfl kj kj kj kj (Nat.lt_of_lt_of_eq (show k<(upL (2*((m:Nat):Int)) ((2*L:Nat):Int) K).length by omega) hnx_59.symm)) ?_
      refine Qaa (.int .i64 ((u:Nat):Int)) 85 rfl kj (by rw [←hnu]; exact (Qak 3 _ _ (.int .i64 (nth (upL (2*((m:Nat):Int)) ((2*L:Nat):Int) K) (k))) (hcx_59 k (Nat.lt_of_lt_of_eq (show k<(upL (2*((m:Nat):Int)) ((2*L:Nat):Int) K).length by omega) hnx_59.symm)) rfl kj kj)) ?_
      refine Qaa (.pointer (some ⟨gO,0+u*99,none⟩)) 86 rfl kj (Qa1 23 _ _ .i64 u gO 0 (2*ts.length+1) cG 41 99 rfl kj kj kj kj (by omega)) ?_
      refine Qaa (.pointer (some ⟨gO,0+u*99,none⟩)) 87 rfl kj kj ?_
      refine Qaa (.bool false) 88 rfl kj (Qak 4 _ _ (.bool false) ((NdAt.at3 hnt).1.trans (congrArg (fun z=>some (Value.bool z)) hq)) rfl kj kj) ?_
      refine Qaa (.bool true) 89 rfl kj kj ?_
      refine Qae ?_
      refine hK37 _ _ ?_
      refine cond_true kj ?_
      refine wp_exit ?_
      refine hK35 _ _ ?_
      refine Qab ?_
      refine Qaa (.int .i64 ((k:Nat):Int)) 79 rfl kj kj ?_
      refine Qaa (.int .i64 ((k+1:Nat):Int)) 80 rfl kj (Qai (u:=.int .i64 (IntKind.i64.wrap (((k:Nat):Int)+1))) kj (congrArg (Value.int .i64) (i64n _ _ (by omega) (by omega)))) ?_
      refine Qaa (.int .i64 ((k+1:Nat):Int)) 12 rfl kj kj ?_
      refine Qae ?_
      repeat (first | with_reducible refine goX1 ?_ | with_reducible refine goX2 ?_ | with_reducible refine goX3 ?_)
      exact Qaq ((k+1),vs) ⟨rfl,rfl,rfl,rfl,trivial⟩ ⟨(by omega),hvl,(by rw [List.range_succ,QbZ]; exact hvc.stay hil (by rw [←hu,←ent]; exact hq)),hh2,(OwH.ext hV (Rely.Ext.refl V4)),q11,xx4⟩ (by show (upL (2*((m:Nat):Int)) ((2*L:Nat):Int) K).length-(k+1)<(upL (2*((m:Nat):Int)) ((2*L:Nat):Int) K).length-k; omega)
    ·skip
     have heq78:k=(upL (2*((m:Nat):Int)) ((2*L:Nat):Int) K).length:=by have:=of_decide_eq_false c32; omega
     refine wp_exit ?_
     refine hK28 _ _ ?_
     refine wp_seq_k fun K60 hK60=>?_
     refine Qab ?_
     refine Qaa (.slice (some ⟨gO,0,none⟩) (2*ts.length+1) cG) 121 rfl kj kj ?_
     refine Qaa (.int .i64 ((m:Nat):Int)) 122 rfl kj kj ?_
     refine Qaa (.slice (some ⟨gO,0,none⟩) (2*ts.length+1) cG) 4 rfl kj kj ?_
     refine Qaa (.int .i64 ((m:Nat):Int)) 5 rfl kj kj ?_
     refine Qaa (.int .i64 0) 6 rfl kj kj ?_
     refine Qae ?_
     refine hK60 _ _ ?_
     refine wp_ret ?_
     repeat (first | with_reducible refine goR1 ?_ | with_reducible refine goR2 ?_)
     have hcE:AsC vs (insT ((us++List.replicate (ts.length+1) zn).set (2*m) nd) (2*((m:Nat):Int)) ((2*L:Nat):Int) ((m:Nat):Int)):=by have h9:=hvc; rw [heq78,QcM,←Qec hK hneg hall] at h9; exact h9
     have hVf:=hV.low xx1.size
     have hms2:(ndi vs (2*m)).n.ms=[]:=by rw [hh2]; exact hms
     rw [←hvl] at hVf
     have hfr:=hVf.frE hms2 (by rw [hh2]; exact rdE hr0)
     rw [hvl] at hfr
     exact (show bodyPost _ _ _ .ret _ _ from ret3 (.slice (some ⟨gO,0,none⟩) (2*ts.length+1) cG) (.int .i64 ((m:Nat):Int)) (.int .i64 0) rfl (Qam kj) (Qam kj) (Qam kj) ⟨_,rfl,xx4,us,vs,has,(by unfold addT; rw [if_neg (by omega),hM0]; exact hcE),_,rfl,hfr⟩)
end Go.Proofs.YtcmaolmofgmkhaaDoor.Te
end
section
namespace Go.Proofs.YtcmaolmofgmkhaaDoor.Te
open Go Go.RowKit
open Rely Auto Own Seat Sha
def named (ts : List NdV) (x:Int):Prop:=∃ j,2*j<ts.length∧(ndi ts (2*j)).n.us=true∧(ndi ts (2*j)).n.nm=x
theorem QkD {us ts:List NdV} (h:AsC us ts) (x:Int):named us x↔named ts x:=by
  unfold named
  simp only [h.1,h.all]
def Qi8 (ts : List NdV) (nd:NdV) (m:Nat) (R:List NdV):Prop:=(∀ x,named R x↔named ts x∨x=nd.n.nm)∧¬ named ts nd.n.nm∧2*m<R.length∧(ndi R (2*m)).n.us=true∧(ndi R (2*m)).n.nm=nd.n.nm
theorem QgG {ts R:List NdV} {L K m:Nat} {nd:NdV} (hl:ts.length+1=2*L) (hR:R.length+1=2*K) (hK:L≤K) (hm:m<K) (hu:nd.n.us=true) (hn:∀ j,j<L→(ndi ts (2*j)).n.us=true→(ndi ts (2*j)).n.nm≠nd.n.nm)
    (hfree:∀ j,j<L→(ndi ts (2*j)).n.us=true→j≠m) (e0:(ndi R (2*m)).n=nd.n) (e1:∀ j,j<L→j≠m→(ndi R (2*j)).n=(ndi ts (2*j)).n) (e2:∀ j,L≤j→j<K→j≠m→(ndi R (2*j)).n.us=false):Qi8 ts nd m R:=by
  refine ⟨fun x=>⟨?_,?_⟩,?_,by omega,by rw [e0]; exact hu,by rw [e0]⟩
  · rintro ⟨j,h1,h2,h3⟩
    by_cases e:j=m
    · subst e; rw [e0] at h3; exact .inr h3.symm
    · rcases Nat.lt_or_ge j L with q | q
      · rw [e1 j q e] at h2 h3; exact .inl ⟨j,by omega,h2,h3⟩
      · rw [e2 j q (by omega) e] at h2; cases h2
  · rintro (⟨j,h1,h2,h3⟩ | rfl)
    · have hj:j<L:=by omega
      have e:=hfree j hj h2
      exact ⟨j,by omega,by rw [e1 j hj e]; exact h2,by rw [e1 j hj e]; exact h3⟩
    · exact ⟨m,by omega,by rw [e0]; exact hu,by rw [e0]⟩
  · rintro ⟨j,h1,h2,h3⟩
    exact hn j (by omega) h2 h3
theorem Qgm {n : NdC} (hs:QaD n=true):n.us=true:=by
  unfold QaD at hs
  simp only [Bool.and_eq_true] at hs
  exact hs.1.1.1
theorem QgT {ts : List NdV} {L m:Nat} {nd:NdV} (f:Form ts L) (hm:m<L) (hf:(ndi ts (2*m)).n.us=false) (hs:QaD nd.n=true) (hn:∀ j,j<L→(ndi ts (2*j)).n.us=true→(ndi ts (2*j)).n.nm≠nd.n.nm):Qi8 ts nd m (addT ts m nd L):=by
  have hlen:=f.len
  unfold addT
  rw [if_pos (by omega)]
  obtain ⟨F,ev⟩:=QdM f hm hf hs hn
  exact QgG hlen F.len (qR _) hm (Qgm hs) hn (fun j _ hu e=>by rw [e,hf] at hu; cases hu) (by rw [ev m hm,if_pos rfl]) (fun j hj e=>by rw [ev j hj,if_neg e]) (fun j h1 h2=>absurd h2 (by omega))
theorem QgS {ts : List NdV} {L:Nat} {nd:NdV} (f:Form ts L) (h16:L≤16) (hs:QaD nd.n=true) (hn:∀ j,j<L→(ndi ts (2*j)).n.us=true→(ndi ts (2*j)).n.nm≠nd.n.nm):Qi8 ts nd L (addT ts L nd (2*L)):=by
  have hlen:=f.len
  have h1:1≤L:=by have:=Qay f.tr; omega
  unfold addT
  rw [if_neg (by omega)]
  have D:=f.dbl h16
  have az:∀ x,ts.length≤x→x<2*ts.length+1→ndi (ts++List.replicate (ts.length+1) zn) x=zn:=fun x hx hx2=>by rw [Qbp,if_neg (by omega),QbF zn (by omega)]
  have hf:(ndi (ts++List.replicate (ts.length+1) zn) (2*L)).n.us=false:=by rw [az _ (by omega) (by omega)]; rfl
  obtain ⟨F,ev⟩:=QdM (nd:=nd) D (show L<2*L by omega) hf hs (fun j hj hu=>by
    rcases Nat.lt_or_ge (2*j) ts.length with q | q
    · rw [Qbp,if_pos q] at hu ⊢
      exact hn j (by omega) hu
    · rw [az _ q (by omega)] at hu; cases hu)
  exact QgG hlen F.len (by omega) (by omega) (Qgm hs) hn (fun j h _ e=>by omega) (by rw [ev L (by omega),if_pos rfl]) (fun j hj e=>by rw [ev j (by omega),if_neg e,Qbp,if_pos (by omega)]) (fun j h1 h2 e=>by rw [ev j h2,if_neg e,az _ (by omega) (by omega)]; rfl)
theorem Qf1 {x : Int}:∀ (k:Nat) (rs:List NdV) (L:Nat),Form rs L→anyU rs 0=true→(named (cutT k rs) x↔named rs x)
  | 0,rs,L,f,h=>Iff.rfl
  | k+1,rs,L,f,h=>by
    have hL:=Qbv (Qct f.tr f.len)
    cases hu:anyU rs (L/2) with
    | true=>rw [QdN hL hu]
    | false =>
      have h2:2≤L∧L%2=0:=by
        have:=Qay f.tr
        rcases (show L=1∨(2≤L∧L%2=0) by omega) with e | e
        · subst e; rw [show 1/2=0 from rfl,h] at hu; cases hu
        · exact e
      obtain ⟨j,rfl⟩:∃ j,L=2*j:=⟨L/2,by omega⟩
      have hlen:=f.len
      rw [Qdh hL (Nat.succ_pos _) hu]
      show named (cutT k (rs.take (rs.length/2))) x↔named rs x
      have ht:=Qdi f.len h2.2 h hu
      have hq:rs.length/2=2*j-1:=by omega
      rw [hq] at ht ⊢
      have ih:=Qf1 (x:=x) k (rs.take (2*j-1)) j (f.half (by omega)) ht
      rw [ih]
      constructor
      · rintro ⟨i,h1,h2,h3⟩
        rw [List.length_take] at h1
        rw [Qb3 (by omega)] at h2 h3
        exact ⟨i,by omega,h2,h3⟩
      · rintro ⟨i,h1,h2,h3⟩
        have hi:i<j:=by
          rcases Nat.lt_or_ge i j with q | q
          · exact q
          · rw [Qby.2 ⟨i,by omega,h1,h2⟩] at hu; cases hu
        exact ⟨i,by rw [List.length_take]; omega,by rw [Qb3 (by omega)]; exact h2,by rw [Qb3 (by omega)]; exact h3⟩
theorem Qia {ts : List NdV} {L m j:Nat} (f:Form ts L) (hm:m<L) (hu:(ndi ts (2*m)).n.us=true) (hj:j<L) (hjm:j≠m) (huj:(ndi ts (2*j)).n.us=true) (x:Int):named (remT ts m L) x↔named ts x∧x≠(ndi ts (2*m)).n.nm:=by
  have hlen:=f.len
  have hl:(ts.set (2*m) zn).length=ts.length:=List.length_set ..
  have ev:∀ j,j<L→ndi (blkT (ts.set (2*m) zn) (2*((m:Nat):Int)) ((L:Nat):Int)) (2*j)=if j=m then zn else ndi ts (2*j):=fun j hj=>by
    rw [Qc7,Qa8 zn (by omega)]
    by_cases e:j=m
    · rw [if_pos (by omega),if_pos e]
    · rw [if_neg (by omega),if_neg e]
  have od:∀ x,x<ts.length→x%2=1→ndi (blkT (ts.set (2*m) zn) (2*((m:Nat):Int)) ((L:Nat):Int)) x=if abv ((x:Nat):Int) (2*((m:Nat):Int)) ((L:Nat):Int)=true then zn else ndi ts x:=fun x hx ho=>by
    rw [Qfd f.tr (by omega) hm (by omega) ho,Qa8 zn (by omega),if_neg (show x≠2*m by omega)]
  have F:Form (blkT (ts.set (2*m) zn) (2*((m:Nat):Int)) ((L:Nat):Int)) L:=f.upd (nd:=zn.n) hm (by rw [Qb7,hl]) (fun q=>by cases q) (fun _=>rfl) (fun q=>by cases q) (by rw [ev m hm,if_pos rfl]) (fun x hx ho ha=>by rw [od x hx ho,if_pos ha]) (fun x hx ho ha=>by rw [od x hx ho,if_neg (by rw [ha]; decide)]) (fun j hj hjm=>by rw [ev j hj,if_neg hjm])
  have hF:=F.len
  have e:=Qf1 (x:=x) ts.length _ L F (Qby.2 ⟨j,Nat.zero_le _,by rw [Qb7,hl]; omega,by rw [ev j hj,if_neg hjm]; exact huj⟩)
  refine Iff.trans e ⟨?_,?_⟩
  · rintro ⟨i,h1,h2,h3⟩
    have hi:i<L:=by omega
    rw [ev i hi] at h2 h3
    by_cases q:i=m
    · rw [if_pos q] at h2; cases h2
    · rw [if_neg q] at h2 h3
      exact ⟨⟨i,by omega,h2,h3⟩,fun z=>q (f.nms i m hi hm h2 hu (h3.trans z))⟩
  · rintro ⟨⟨i,h1,h2,h3⟩,hx⟩
    have hi:i<L:=by omega
    have q:i≠m:=fun q=>hx (by rw [←h3,q])
    exact ⟨i,by omega,by rw [ev i hi,if_neg q]; exact h2,by rw [ev i hi,if_neg q]; exact h3⟩
def Nms (ts : List NdV) (ks:List Int):Prop:=ks.Nodup∧∀ x,x∈ks↔named ts x
theorem Nms.start {ts : List NdV} {L:Nat} (f:Form ts L):Nms ts (QaU ts L):=by
  have hlen:=f.len
  refine ⟨QbU.2 f.nms,fun x=>Qc4.trans ⟨?_,?_⟩⟩
  · rintro ⟨j,h1,h2,h3⟩; exact ⟨j,by omega,h2,h3⟩
  · rintro ⟨j,h1,h2,h3⟩; exact ⟨j,by omega,h2,h3⟩
theorem Nms.add {ts R:List NdV} {ks:List Int} {nd:NdV} {m:Nat} (h:Nms ts ks) (a:Qi8 ts nd m R):Nms R (ks++[nd.n.nm]):=by
  refine ⟨QcE h.1 fun q=>a.2.1 ((h.2 _).1 q),fun x=>?_⟩
  rw [List.mem_append,List.mem_singleton,h.2,a.1]
theorem Nms.c {us ts:List NdV} {ks:List Int} (h:Nms ts ks) (e:AsC us ts):Nms us ks:=⟨h.1,fun x=>(h.2 x).trans (QkD e x).symm⟩
theorem QeQ : ∀ {xs ys:List Int},xs.Nodup→(∀ x∈xs,x∈ys)→xs.length≤ys.length
  | [],_,_,_=>Nat.zero_le _
  | x::r,ys,h,hs=>by
    have hx:x∈ys:=hs x (by simp)
    have hn:=List.nodup_cons.1 h
    have:=QeQ (ys:=ys.erase x) hn.2 fun z hz=>(List.mem_erase_of_ne (fun e=>by rw [e] at hz; exact hn.1 hz)).2 (hs z (List.mem_cons_of_mem _ hz))
    rw [List.length_erase_of_mem hx] at this
    have:=List.length_pos_of_mem hx
    rw [List.length_cons]; omega
theorem QdT (ts : List NdV):∀ k,(QaU ts k).length=(QaF ts k).length
  | 0=>rfl
  | k+1=>by
    unfold QaU QaF
    split
    · rw [List.length_append,List.length_append,QdT ts k]; rfl
    · exact QdT ts k
theorem Nms.len {ts : List NdV} {ks:List Int} {L:Nat} (f:Form ts L) (h:Nms ts ks):(QaF ts L).length=ks.length:=by
  have s:=Nms.start f
  rw [←QdT]
  exact Nat.le_antisymm (QeQ s.1 fun x hx=>(h.2 x).2 ((s.2 x).1 hx)) (QeQ h.1 fun x hx=>(s.2 x).2 ((h.2 x).1 hx))
def IntV (ms : List (Int×Value)):Prop:=∀ p∈ms,∃ v:Int,p.2=.int .i64 v
theorem IntV.get {ms : List (Int×Value)} (h:IntV ms) (n:Int):∃ v:Int,mget ms n (.int .i64 0)=.int .i64 v:=by
  unfold mget
  cases hf:ms.find? (fun p=>p.1==n) with
  | none=>exact ⟨0,rfl⟩
  | some p=>exact h p (List.mem_of_find?_eq_some hf)
theorem IntV.snoc {ms : List (Int×Value)} (h:IntV ms) (n v:Int):IntV (ms++[(n,.int .i64 v)]):=fun p hp=>by
  rcases List.mem_append.1 hp with q | q
  · exact h p q
  · rw [List.mem_singleton.1 q]; exact ⟨v,rfl⟩
theorem IntV.set {ms : List (Int×Value)} (h:IntV ms) (n v:Int):IntV (mset ms n (.int .i64 v)):=fun p hp=>by
  obtain ⟨q,hq,rfl⟩:=List.mem_map.1 hp
  split
  · exact ⟨v,rfl⟩
  · exact h q hq
def Cnt (nm : Nat→Int) (g:Nat) (pre:List Nat) (W:World):Prop:=∃ ms,MpAt g ms W∧IntV ms∧((pre.map nm).Nodup→ms=(pre.map nm).map tmv)
theorem Cnt.keep {nm : Nat→Int} {g:Nat} {pre:List Nat} {W W':World} (h:Cnt nm g pre W) (e:W'.heap[g]? = W.heap[g]?):Cnt nm g pre W':=by
  obtain ⟨ms,h1,h2⟩:=h
  exact ⟨ms,h1.keep e,h2⟩
theorem Cnt.lt {nm : Nat→Int} {g:Nat} {pre:List Nat} {W:World} (h:Cnt nm g pre W):g<W.heap.size:=by
  obtain ⟨ms,h1,-⟩:=h
  exact h1.lt
theorem Cnt.ne {nm : Nat→Int} {g k:Nat} {pre:List Nat} {W:World} {cs:Array Value} {T:TypeId} (h:Cnt nm g pre W) (r:W.heap[k]? = some (.cells cs T)):k≠g:=by
  obtain ⟨ms,h1,-⟩:=h
  exact h1.ne r
theorem Cnt.step {nm : Nat→Int} {g:Nat} {pre:List Nat} {W:World} (h:Cnt nm g pre W) (z:Nat):∃ ms,MpAt g ms W∧∃ v:Int,mget ms (nm z) (.int .i64 0)=.int .i64 v ∧
    ((nm z∉ms.map Prod.fst∧∀ W',MpAt g (ms++[(nm z,.int .i64 (IntKind.i64.wrap (v+1)))]) W'→Cnt nm g (pre++[z]) W')∨(nm z∈ms.map Prod.fst∧∀ W',MpAt g (mset ms (nm z) (.int .i64 (IntKind.i64.wrap (v+1)))) W'→Cnt nm g (pre++[z]) W')):=by
  obtain ⟨ms,h1,h2,h3⟩:=h
  obtain ⟨v,hv⟩:=h2.get (nm z)
  refine ⟨ms,h1,v,hv,?_⟩
  by_cases q:nm z∈ms.map Prod.fst
  · refine .inr ⟨q,fun W' hW=>⟨_,hW,h2.set _ _,fun hd=>?_⟩⟩
    rw [List.map_append] at hd
    have hd:=List.nodup_append.1 hd
    have e:=h3 hd.1
    rw [e,QdX] at q
    exact absurd rfl (hd.2.2 _ q _ (by simp))
  · refine .inl ⟨q,fun W' hW=>⟨_,hW,h2.snoc _ _,fun hd=>?_⟩⟩
    rw [List.map_append] at hd ⊢
    have e:=h3 (List.nodup_append.1 hd).1
    rw [e] at hv q ⊢
    rw [QdX] at q
    rw [QjA q] at hv
    simp only [Value.int.injEq,true_and] at hv
    subst hv
    rw [List.map_append]; rfl
end Go.Proofs.YtcmaolmofgmkhaaDoor.Te
end
section
namespace Go.Proofs.YtcmaolmofgmkhaaDoor.Te
open Go Go.RowKit
open Rely Auto Own Seat Sha
theorem QlE {xs : List Int} (h:xs.Pairwise (· < ·)) (hb:∀ j∈xs,0≤j∧j<32):xs.length≤32:=by
  have key:∀ k:Nat,k<xs.length→((k:Nat):Int)≤nth xs k:=by
    intro k
    induction k with
    | zero=>intro hk; have:=hb _ (QjH hk); omega
    | succ k ih=>intro hk; have:=ih (by omega); have:=QlF h (k+1) hk k (by omega); omega
  rcases Nat.lt_or_ge 32 xs.length with q | q
  · have h1:=key 32 q
    have h2:=hb _ (QjH q)
    omega
  · exact q
theorem Form.small {ts : List NdV} {L:Nat} (f:Form ts L):ts.length≤63∧Rise 32 ts:=by
  have hlen:=f.len
  have hT:=Qay f.tr
  refine ⟨by omega,fun j hj=>?_⟩
  have nil:(ndi ts j).n.ms=[]→(ndi ts j).n.ms.Pairwise (·≤·)∧(ndi ts j).n.ms.length≤32:=fun e=>by rw [e]; exact ⟨List.Pairwise.nil,by decide⟩
  cases hu:(ndi ts j).n.us with
  | false=>exact nil (by rw [f.zero j hj hu]; rfl)
  | true =>
    by_cases ho:j%2=1
    · have h:=f.ms_lt hj ho hu
      exact ⟨h.1.imp fun q=>Int.le_of_lt q,QlE h.1 fun x hx=>⟨(h.2 x hx).1,(h.2 x hx).2.1⟩⟩
    · have e:j=2*(j/2):=by omega
      have h:=f.leaf (j/2) (by omega) (by rw [←e]; exact hu)
      rw [←e] at h
      unfold QaD at h
      simp only [Bool.and_eq_true,beq_iff_eq] at h
      exact nil (List.length_eq_zero_iff.1 h.1.1.2)
def Qmd (ts : List NdV) (n b:Int):Prop:=(∀ (us:List NdV) (a:Option Addr) (c B:Nat) (w:World),AsC us ts→TrAt B w a us→TabAt w→Calls Tryd.prog 29 #[.slice a us.length c,.int .i64 n] w (Ret w (.tuple #[.slice none 0 0,.iface 30 (.int .i64 b)])))∧∀ (a:Option Addr) (c B:Nat) (w:World),TrAt B w a ts→Calls Tryd.prog 30 #[.slice a ts.length c,.int .i64 n] w (Ret w (.tuple #[.slice none 0 0,.int .i64 b]))
def QjU (ts : List NdV) (n:Int) (R:List NdV):Prop:=(∀ (us:List NdV) (a:Option Addr) (c B:Nat) (w:World),AsC us ts→TrAt B w a us→TabAt w→Calls Tryd.prog 29 #[.slice a us.length c,.int .i64 n] w (Qbw w (fun v W=>∃ rs,AsC rs R∧∃ u,v=.tuple #[u,.nilIface]∧FrT w.heap.size rs u W)))∧∀ (a:Option Addr) (c B:Nat) (w:World),TrAt B w a ts→Calls Tryd.prog 30 #[.slice a ts.length c,.int .i64 n] w (Qbw w (fun v W=>∃ rs,AsC rs R∧∃ u,v=.tuple #[u,.int .i64 0]∧FrT w.heap.size rs u W))
def Qm3 (ts : List NdV) (n:Int) (R:List NdV):Prop:=∃ m:Nat,n=((m:Nat):Int)∧(ndi ts (2*m)).n.us=true∧∀ x,named R x↔named ts x∧x≠(ndi ts (2*m)).n.nm
theorem Qk4 (ts : List NdV) (htl:ts.length≤71) (hmt:∀ i,i<ts.length→(ndi ts i).n.ms.length≤50) (n:Int):(∃ b:Int,(b=3∨b=9)∧Qmd ts n b)∨∃ R,(Qdj R∧Qm3 ts n R)∧QjU ts n R:=by
  have htl2:ts.length≤100000:=by omega
  have hmt2:∀ i,i<ts.length→(ndi ts i).n.ms.length≤1000:=fun i hi=>qT (hmt i hi) (by decide)
  have hul:∀ us:List NdV,AsC us ts→us.length≤100000:=fun us h=>by rw [h.1]; exact htl2
  have hum:∀ us:List NdV,AsC us ts→∀ i,i<us.length→(ndi us i).n.ms.length≤1000:=fun us h i hi=>by rw [h.all]; exact hmt2 i (by rw [←h.1]; exact hi)
  cases hc:chkT ts with
  | false=>exact .inl ⟨3,.inl rfl,fun us a c B w h t hT=>Qjb us a c B w t (hul us h) (hum us h) hT ((Qcg h).trans hc) n,fun a c B w t=>QhA ts a c B w t htl2 hmt2 hc n⟩
  | true =>
    obtain ⟨L,F,hr⟩:=QcT htl2 hc
    have hL:=Qct F.tr F.len
    have hL3:L≤32:=by have:=Qay F.tr; omega
    have hlen:=F.len
    have hTr:=F.tr
    have hcu:∀ us:List NdV,AsC us ts→chkT us=true:=fun us h=>(Qcg h).trans hc
    have hLu:∀ us:List NdV,AsC us ts→leaves ((us.length:Nat):Int)=((L:Nat):Int):=fun us h=>by rw [h.1]; exact hL
    have hlu:∀ us:List NdV,AsC us ts→us.length+1=2*L:=fun us h=>by rw [h.1]; exact hlen
    by_cases h0:n<0
    · exact .inl ⟨9,.inr rfl,fun us a c B w h t hT=>Qjf us a c B w t (hul us h) (hum us h) hT (hcu us h) L (hLu us h) hL3 (hlu us h) hTr n h0,fun a c B w t=>Qfx ts a c B w t htl2 hmt2 hc L hL hL3 hlen hTr n (.inl h0)⟩
    · by_cases h1:((L:Nat):Int)≤n
      · exact .inl ⟨9,.inr rfl,fun us a c B w h t hT=>Qje us a c B w t (hul us h) (hum us h) hT (hcu us h) L (hLu us h) hL3 (hlu us h) hTr n (by omega) h1,fun a c B w t=>Qfx ts a c B w t htl2 hmt2 hc L hL hL3 hlen hTr n (.inr h1)⟩
      · obtain ⟨m,rfl⟩:=Int.eq_ofNat_of_zero_le (show 0≤n by omega)
        have hm:m<L:=by omega
        cases hus:(ndi ts (2*m)).n.us with
        | false=>exact .inl ⟨9,.inr rfl,fun us a c B w h t hT=>Qjd us a c B w t (hul us h) (hum us h) hT (hcu us h) L (hLu us h) hL3 (hlu us h) hTr m hm (by rw [h.all]; exact hus),fun a c B w t=>QhC ts a c B w t htl2 hmt2 hc L hL hL3 hlen hTr m hm hus⟩
        | true =>
          cases hal:((((QaF ts L).length:Nat):Int)==1) with
          | true=>exact .inl ⟨9,.inr rfl,fun us a c B w h t hT=>Qjc us a c B w t (hul us h) (hum us h) hT (hcu us h) L (hLu us h) hL3 (hlu us h) hTr m hm (by rw [h.all]; exact hus) (by rw [QdV h]; exact hal),fun a c B w t=>QhB ts a c B w t htl2 hmt2 hc L hL hL3 hlen hTr m hm hus hal⟩
          | false =>
            obtain ⟨j,hj,hjm⟩:=Qfz (Qck ts L) (QbJ.2 ⟨hm,hus⟩) (fun e=>by rw [e] at hal; cases hal)
            obtain ⟨j1,j2⟩:=QbJ.1 hj
            refine .inr ⟨remT ts m L,⟨Qlc F hm j1 hjm j2,m,rfl,hus,fun x=>Qia F hm hus j1 hjm j2 x⟩,fun us a c B w h t hT=>(QeP us a c B w t (hul us h) (hum us h) hT (hcu us h) L (hLu us h) hL3 (hlu us h) hTr m hm (by rw [h.all]; exact hus) (by rw [QdV h]; exact hal)).mono ?_,fun a c B w t=>(Qh9 ts a c B w t htl2 hmt2 hc L hL hL3 hlen hTr m hm hus hal).mono ?_⟩
            · rintro e W ⟨v,h1,h2,us2,rs,q1,q2,u,e2,q3,q4,q5⟩
              exact ⟨v,h1,h2,rs,by rw [q2]; exact (q1.trans h).remT m L,u,by rw [q3,q4],q5⟩
            · rintro e W ⟨v,h1,h2,us2,rs,q1,q2,u,q3,q5⟩
              exact ⟨v,h1,h2,rs,by rw [q2]; exact q1.remT m L,u,q3,q5⟩
end Go.Proofs.YtcmaolmofgmkhaaDoor.Te
end
section
namespace Go.Proofs.YtcmaolmofgmkhaaDoor.Te
open Go Go.RowKit
open Rely Auto Own Seat Sha
theorem Qiq {ts : List NdV} {nm:Int} (h:Qa7 ts nm<0) {j:Nat} (hj:2*j<ts.length) (hu:(ndi ts (2*j)).n.us=true):(ndi ts (2*j)).n.nm≠nm:=fun e=>by
  unfold Qa7 at h
  split at h
  · omega
  · rename_i h2
    have:=List.find?_eq_none.1 h2 j (List.mem_range.2 (by omega))
    unfold fitT at this
    rw [decide_eq_true hj,hu,e,beq_self_eq_true] at this
    exact this rfl
theorem QkY {ts : List NdV} {nm:Int} {m:Nat} (h:Qa7 ts nm=((m:Nat):Int)):(ndi ts (2*m)).n.us=true∧(ndi ts (2*m)).n.nm=nm∧2*m<ts.length:=by
  unfold Qa7 at h
  split at h
  · rename_i j h2
    obtain rfl:j=m:=by omega
    have:=List.find?_some h2
    unfold fitT at this
    simp only [Bool.and_eq_true,decide_eq_true_eq,beq_iff_eq] at this
    exact ⟨this.1.2,this.2,this.1.1⟩
  · omega
structure QdC (nd : NdV) (w : World) : Prop where
  rd:∃ B,RdK .i64 B nd.n.ms (.slice nd.a nd.n.ms.length nd.c) w
def Qmb (ts : List NdV) (nd:NdV) (n b:Int):Prop:=(∀ (us:List NdV) (a:Option Addr) (c B:Nat) (w:World),AsC us ts→TrAt B w a us→TabAt w→QdC nd w→Calls Tryd.prog 27 #[.slice a us.length c,.int .i64 n,.agg (cat (ndP nd))] w (Ret w (.tuple #[.slice none 0 0,.iface 30 (.int .i64 b)])))∧∀ (a:Option Addr) (c B:Nat) (w:World),TrAt B w a ts→QdC nd w→Calls Tryd.prog 28 #[.slice a ts.length c,.int .i64 n,.agg (cat (ndP nd))] w (Ret w (.tuple #[.slice none 0 0,.int .i64 b]))
def QjT (ts : List NdV) (nd:NdV) (n:Int) (R:List NdV):Prop:=(∀ (us:List NdV) (a:Option Addr) (c B:Nat) (w:World),AsC us ts→TrAt B w a us→TabAt w→QdC nd w→Calls Tryd.prog 27 #[.slice a us.length c,.int .i64 n,.agg (cat (ndP nd))] w (Qbw w (fun v W=>∃ rs,AsC rs R∧∃ u,v=.tuple #[u,.nilIface]∧FrT w.heap.size rs u W)))∧∀ (a:Option Addr) (c B:Nat) (w:World),TrAt B w a ts→QdC nd w→Calls Tryd.prog 28 #[.slice a ts.length c,.int .i64 n,.agg (cat (ndP nd))] w (Qbw w (fun v W=>∃ rs,AsC rs R∧∃ u,v=.tuple #[u,.int .i64 0]∧FrT w.heap.size rs u W))
theorem Qkl (ts : List NdV) (htl:ts.length≤71) (hmt:∀ i,i<ts.length→(ndi ts i).n.ms.length≤50) (nd:NdV) (hok:NdOk nd.n) (hml:nd.n.ms.length≤50) (n:Int):(∃ b:Int,(b=3∨b=9)∧Qmb ts nd n b)∨∃ R,Qdj R∧QjT ts nd n R:=by
  have htl2:ts.length≤100000:=by omega
  have hml2:nd.n.ms.length≤1000:=by omega
  have hmt2:∀ i,i<ts.length→(ndi ts i).n.ms.length≤1000:=fun i hi=>qT (hmt i hi) (by decide)
  have hul:∀ us:List NdV,AsC us ts→us.length≤100000:=fun us h=>by rw [h.1]; exact htl2
  have hum:∀ us:List NdV,AsC us ts→∀ i,i<us.length→(ndi us i).n.ms.length≤1000:=fun us h i hi=>by rw [h.all]; exact hmt2 i (by rw [←h.1]; exact hi)
  cases hc:chkT ts with
  | false=>exact .inl ⟨3,.inl rfl,fun us a c B w h t hT _=>QiE us a c B w t (hul us h) (hum us h) hT nd hok ((Qcg h).trans hc) n,fun a c B w t ⟨⟨B2,rd⟩⟩=>Qh3 ts a c B w t htl2 hmt2 nd hok B2 rd hml2 hc n⟩
  | true =>
    obtain ⟨L,F,hr⟩:=QcT htl2 hc
    have hL:=Qct F.tr F.len
    have hL3:L≤32:=by have:=Qay F.tr; omega
    have hlen:=F.len
    have hTr:=F.tr
    have hcu:∀ us:List NdV,AsC us ts→chkT us=true:=fun us h=>(Qcg h).trans hc
    have hLu:∀ us:List NdV,AsC us ts→leaves ((us.length:Nat):Int)=((L:Nat):Int):=fun us h=>by rw [h.1]; exact hL
    have hlu:∀ us:List NdV,AsC us ts→us.length+1=2*L:=fun us h=>by rw [h.1]; exact hlen
    cases hs:QaD nd.n with
    | false=>exact .inl ⟨3,.inl rfl,fun us a c B w h t hT _=>QiC us a c B w t (hul us h) (hum us h) hT nd hok (hcu us h) hs n,fun a c B w t ⟨⟨B2,rd⟩⟩=>Qh1 ts a c B w t htl2 hmt2 nd hok B2 rd hml2 hc hs n⟩
    | true =>
      have hms:nd.n.ms=[]:=by
        unfold QaD at hs
        simp only [Bool.and_eq_true,beq_iff_eq] at hs
        exact List.length_eq_zero_iff.1 hs.1.1.2
      by_cases h0:n<0
      · exact .inl ⟨9,.inr rfl,fun us a c B w h t hT _=>QiI us a c B w t (hul us h) (hum us h) hT nd hok (hcu us h) hs L (hLu us h) hL3 (hlu us h) hTr n h0,fun a c B w t ⟨⟨B2,rd⟩⟩=>Qfv ts a c B w t htl2 hmt2 nd hok B2 rd hml2 hc hs L hL hL3 hlen hTr n (.inl h0)⟩
      · by_cases h1:((L:Nat):Int)≤n
        · exact .inl ⟨9,.inr rfl,fun us a c B w h t hT _=>QiH us a c B w t (hul us h) (hum us h) hT nd hok (hcu us h) hs L (hLu us h) hL3 (hlu us h) hTr n (by omega) h1,fun a c B w t ⟨⟨B2,rd⟩⟩=>Qfv ts a c B w t htl2 hmt2 nd hok B2 rd hml2 hc hs L hL hL3 hlen hTr n (.inr h1)⟩
        · obtain ⟨m,rfl⟩:=Int.eq_ofNat_of_zero_le (show 0≤n by omega)
          have hm:m<L:=by omega
          cases hus:(ndi ts (2*m)).n.us with
          | false=>exact .inl ⟨9,.inr rfl,fun us a c B w h t hT _=>QiG us a c B w t (hul us h) (hum us h) hT nd hok (hcu us h) hs L (hLu us h) hL3 (hlu us h) hTr m hm (by rw [h.all]; exact hus),fun a c B w t ⟨⟨B2,rd⟩⟩=>Qh5 ts a c B w t htl2 hmt2 nd hok B2 rd hml2 hc hs L hL hL3 hlen hTr m hm hus⟩
          | true =>
            have asR:∀ (us2:List NdV) (n5:NdV),AsC us2 ts→n5.n=nd.n→AsC (blkT (us2.set (2*m) n5) (2*((m:Nat):Int)) ((L:Nat):Int)) (blkT (ts.set (2*m) nd) (2*((m:Nat):Int)) ((L:Nat):Int)):=fun us2 n5 h e=>AsC.blkL _ _ _ (h.set _ e)
            have yesP:∀ {w:World} {us:List NdV} {e:Ending} {W:World},AsC us ts→(∃ v,e=.returned v∧Ext w W∧UpdR us nd m L w v W)→∃ v,e=.returned v∧Ext w W∧∃ rs,AsC rs (blkT (ts.set (2*m) nd) (2*((m:Nat):Int)) ((L:Nat):Int))∧∃ u,v=.tuple #[u,.nilIface]∧FrT w.heap.size rs u W:=fun h ⟨v,h1,h2,us2,n5,q1,q2,q3,u,e2,q4,q5⟩=>⟨v,h1,h2,_,asR us2 n5 (q1.trans h) q2,u,q4,q5.fr⟩
            have yesR:∀ {w:World} {e:Ending} {W:World},(∃ v,e=.returned v∧Ext w W∧∃ us2,AsC us2 ts∧∃ u,v=.tuple #[u,.int .i64 0]∧FrT w.heap.size (blkT (us2.set (2*m) nd) (2*((m:Nat):Int)) ((L:Nat):Int)) u W∧(blkT (us2.set (2*m) nd) (2*((m:Nat):Int)) ((L:Nat):Int)).length=ts.length)→∃ v,e=.returned v∧Ext w W∧∃ rs,AsC rs (blkT (ts.set (2*m) nd) (2*((m:Nat):Int)) ((L:Nat):Int))∧∃ u,v=.tuple #[u,.int .i64 0]∧FrT w.heap.size rs u W:=fun ⟨v,h1,h2,us2,q1,u,q4,q5,q6⟩=>⟨v,h1,h2,_,asR us2 nd q1 rfl,u,q4,q5⟩
            by_cases hf:Qa7 ts nd.n.nm<0
            · refine .inr ⟨_,Qix F hr hm hus hs fun j hj _ hu=>Qiq hf (by omega) hu,fun us a c B w h t hT ⟨⟨B2,rd⟩⟩=>(QiF us a c B w t (hul us h) (hum us h) hT nd hok (hcu us h) hs L (hLu us h) hL3 (hlu us h) hTr m hm (by rw [h.all]; exact hus) (by rw [Qcb h]; exact hf) hml2 B2 rd).mono fun e W q=>yesP h q,fun a c B w t ⟨⟨B2,rd⟩⟩=>(Qh4 ts a c B w t htl2 hmt2 nd hok B2 rd hml2 hc hs L hL hL3 hlen hTr m hm hus hf hms B2 (by rw [hms] at rd; exact rd)).mono fun e W q=>yesR q⟩
            · by_cases hf2:Qa7 ts nd.n.nm=((m:Nat):Int)
              · have hfm:=QkY hf2
                refine .inr ⟨_,Qix F hr hm hus hs fun j hj hjm hu e=>hjm (F.nms j m hj hm hu hus (e.trans hfm.2.1.symm)),fun us a c B w h t hT ⟨⟨B2,rd⟩⟩=>(QiB us a c B w t (hul us h) (hum us h) hT nd hok (hcu us h) hs L (hLu us h) hL3 (hlu us h) hTr m hm (by rw [h.all]; exact hus) (by rw [Qcb h]; omega) (by rw [Qcb h]; exact hf2) hml2 B2 rd).mono fun e W q=>yesP h q,fun a c B w t ⟨⟨B2,rd⟩⟩=>(Qh0 ts a c B w t htl2 hmt2 nd hok B2 rd hml2 hc hs L hL hL3 hlen hTr m hm hus (by omega) hf2 hms B2 (by rw [hms] at rd; exact rd)).mono fun e W q=>yesR q⟩
              · exact .inl ⟨9,.inr rfl,fun us a c B w h t hT _=>QiD us a c B w t (hul us h) (hum us h) hT nd hok (hcu us h) hs L (hLu us h) hL3 (hlu us h) hTr m hm (by rw [h.all]; exact hus) (by rw [Qcb h]; omega) (by rw [Qcb h]; exact hf2),fun a c B w t ⟨⟨B2,rd⟩⟩=>Qh2 ts a c B w t htl2 hmt2 nd hok B2 rd hml2 hc hs L hL hL3 hlen hTr m hm hus (by omega) hf2⟩
end Go.Proofs.YtcmaolmofgmkhaaDoor.Te
end
section
namespace Go.Proofs.YtcmaolmofgmkhaaDoor.Te
open Go Go.RowKit
open Rely Auto Own Seat Sha
theorem QkW {ts : List NdV} (L:Nat):(Qc6 ts L=L∧∀ j,j<L→(ndi ts (2*j)).n.us=true)∨∃ m,m<L∧Qc6 ts L=m∧(ndi ts (2*m)).n.us=false∧∀ j,j<m→(ndi ts (2*j)).n.us=true:=by
  have key:∀ k,k≤L→(∀ j,j<k→(ndi ts (2*j)).n.us=true)∨∃ m,m<k∧(ndi ts (2*m)).n.us=false∧∀ j,j<m→(ndi ts (2*j)).n.us=true:=by
    intro k
    induction k with
    | zero=>exact fun _=>.inl fun j hj=>absurd hj (Nat.not_lt_zero _)
    | succ k ih =>
      intro hk
      rcases ih (by omega) with h | ⟨m,h1,h2,h3⟩
      · cases hu:(ndi ts (2*k)).n.us with
        | true=>exact .inl fun j hj=>by by_cases e:j=k; (rw [e]; exact hu); exact h j (by omega)
        | false=>exact .inr ⟨k,by omega,hu,h⟩
      · exact .inr ⟨m,by omega,h2,h3⟩
  rcases key L (qR _) with h | ⟨m,h1,h2,h3⟩
  · exact .inl ⟨Qio h,h⟩
  · exact .inr ⟨m,h1,Qg3 h1 h2 h3,h2,h3⟩
def Qmf (ts : List NdV) (nd:NdV) (b:Int):Prop:=(∀ (us:List NdV) (a:Option Addr) (c B:Nat) (w:World),AsC us ts→TrAt B w a us→TabAt w→QdC nd w→Calls Tryd.prog 25 #[.slice a us.length c,.agg (cat (ndP nd))] w (Ret w (.tuple #[.slice none 0 0,.int .i64 0,.iface 30 (.int .i64 b)])))∧∀ (a:Option Addr) (c B:Nat) (w:World),TrAt B w a ts→QdC nd w→Calls Tryd.prog 26 #[.slice a ts.length c,.agg (cat (ndP nd))] w (Ret w (.tuple #[.slice none 0 0,.int .i64 0,.int .i64 b]))
def QjV (ts : List NdV) (nd:NdV) (m:Nat) (R:List NdV):Prop:=(∀ (us:List NdV) (a:Option Addr) (c B:Nat) (w:World),AsC us ts→TrAt B w a us→TabAt w→QdC nd w→Calls Tryd.prog 25 #[.slice a us.length c,.agg (cat (ndP nd))] w (Qbw w (fun v W=>∃ rs,AsC rs R∧∃ u,v=.tuple #[u,.int .i64 ((m:Nat):Int),.nilIface]∧FrT w.heap.size rs u W)))∧∀ (a:Option Addr) (c B:Nat) (w:World),TrAt B w a ts→QdC nd w→Calls Tryd.prog 26 #[.slice a ts.length c,.agg (cat (ndP nd))] w (Qbw w (fun v W=>∃ rs,AsC rs R∧∃ u,v=.tuple #[u,.int .i64 ((m:Nat):Int),.int .i64 0]∧FrT w.heap.size rs u W))
theorem Qlp (ts : List NdV) (htl:ts.length≤71) (hmt:∀ i,i<ts.length→(ndi ts i).n.ms.length≤50) (nd:NdV) (hok:NdOk nd.n) (hml:nd.n.ms.length≤50):(∃ b:Int,(b=3∨b=5∨b=9)∧Qmf ts nd b)∨∃ (m:Nat) (R:List NdV),(Qdj R∧Qi8 ts nd m R)∧QjV ts nd m R:=by
  have htl2:ts.length≤100000:=by omega
  have hmt2:∀ i,i<ts.length→(ndi ts i).n.ms.length≤1000:=fun i hi=>qT (hmt i hi) (by decide)
  have hul:∀ us:List NdV,AsC us ts→us.length≤100000:=fun us h=>by rw [h.1]; exact htl2
  have hum:∀ us:List NdV,AsC us ts→∀ i,i<us.length→(ndi us i).n.ms.length≤1000:=fun us h i hi=>by rw [h.all]; exact hmt2 i (by rw [←h.1]; exact hi)
  cases hc:chkT ts with
  | false=>exact .inl ⟨3,.inl rfl,fun us a c B w h t hT _=>Qm2 us a c B w t (hul us h) (hum us h) hT nd hok ((Qcg h).trans hc),fun a c B w t ⟨⟨B2,rd⟩⟩=>QlA ts a c B w t htl2 hmt2 nd hok B2 rd hc⟩
  | true =>
    obtain ⟨L,F,hr⟩:=QcT htl2 hc
    have hL:=Qct F.tr F.len
    have hLc:=Qay F.tr
    have hL3:L≤32:=by omega
    have hlen:=F.len
    have hTr:=F.tr
    have hcu:∀ us:List NdV,AsC us ts→chkT us=true:=fun us h=>(Qcg h).trans hc
    have hLu:∀ us:List NdV,AsC us ts→leaves ((us.length:Nat):Int)=((L:Nat):Int):=fun us h=>by rw [h.1]; exact hL
    have hlu:∀ us:List NdV,AsC us ts→us.length+1=2*L:=fun us h=>by rw [h.1]; exact hlen
    have hri:Rise 900 ts:=fun j hj=>⟨(F.small.2 j hj).1,qT (F.small.2 j hj).2 (by decide)⟩
    have hm9:∀ i,i<ts.length→(ndi ts i).n.ms.length≤900:=fun i hi=>(hri i hi).2
    cases hs:QaD nd.n with
    | false=>exact .inl ⟨3,.inl rfl,fun us a c B w h t hT _=>Qm0 us a c B w t (hul us h) (hum us h) hT nd hok (hcu us h) hs,fun a c B w t ⟨⟨B2,rd⟩⟩=>Ql8 ts a c B w t htl2 hmt2 nd hok B2 rd hc hs⟩
    | true =>
      have hms:nd.n.ms=[]:=by
        unfold QaD at hs
        simp only [Bool.and_eq_true,beq_iff_eq] at hs
        exact List.length_eq_zero_iff.1 hs.1.1.2
      have hpw:nd.n.ms.Pairwise (·≤·):=by rw [hms]; exact List.Pairwise.nil
      by_cases hf:Qa7 ts nd.n.nm<0
      · have hfu:∀ us:List NdV,AsC us ts→Qa7 us nd.n.nm<0:=fun us h=>by rw [Qcb h]; exact hf
        have hnn:∀ j,j<L→(ndi ts (2*j)).n.us=true→(ndi ts (2*j)).n.nm≠nd.n.nm:=fun j hj hu=>Qiq hf (by omega) hu
        rcases QkW (ts:=ts) L with ⟨h1,h2⟩ | ⟨m,h1,h2,h3,h4⟩
        · by_cases h32:L=32
          · exact .inl ⟨5,.inr (.inl rfl),fun us a c B w h t hT _=>Qmz us a c B w t (hul us h) (hum us h) hT nd hok (hcu us h) hs L (hLu us h) hL3 (hlu us h) (hfu us h) (by rw [Qdw h,h1]; exact h32),fun a c B w t ⟨⟨B2,rd⟩⟩=>Ql7 ts a c B w t htl2 hmt2 nd hok B2 rd hc hs hf L hL hL3 hlen h32 h2⟩
          · have h16:L≤16:=by omega
            obtain ⟨T0,hT0⟩:∃ z,z=ts++List.replicate (ts.length+1) zn:=⟨_,rfl⟩
            have F0:Form T0 (2*L):=hT0▸F.dbl h16
            have hz:∀ i,ts.length≤i→(ndi T0 i).n.us=false∧(ndi T0 i).n.ms.length≤900:=fun i hi=>by
              rw [hT0,Qbp,if_neg (by omega)]
              rcases Nat.lt_or_ge (i-ts.length) (ts.length+1) with q | q
              · rw [QbF zn q]; exact ⟨rfl,by decide⟩
              · unfold ndi; rw [List.getD_eq_getElem?_getD,List.getElem?_eq_none (by simpa using q)]; exact ⟨rfl,by decide⟩
            refine .inr ⟨L,addT ts L nd (2*L),⟨Qj3 F h16 hs hnn,QgS F h16 hs hnn⟩,fun us a c B w h t hT ⟨⟨B2,rd⟩⟩=>(Qlo us a c B w t (hul us h) (hum us h) hT nd hok (hcu us h) hs L (hLu us h) hL3 (hlu us h) hTr (hfu us h) L (by rw [Qdw h]; exact h1) rfl h32 (by omega) hpw (h.rise hri) B2 rd).mono ?_,fun a c B w t ⟨⟨B2,rd⟩⟩=>(QlB ts a c B w t htl2 hmt2 nd hok hc hs hf L hL h16 hlen (by omega) T0 hT0 F0 L rfl h2 (hz _ (by omega)).1 (fun i=>?_) hms B2 (by rw [hms] at rd; exact rd)).mono ?_⟩
            · rintro e W ⟨v,q1,q2,us2,rs,n5,q3,q4,q5,a2,c2,q6,q7⟩
              exact ⟨v,q1,q2,rs,q5.trans ((q3.trans h).addT L (2*L) q4),_,q6,q7.fr⟩
            · rcases Nat.lt_or_ge i ts.length with q | q
              · rw [hT0,Qbp,if_pos q]; exact hm9 i q
              · exact (hz i q).2
            · rintro e W ⟨v,q1,q2,us2,rs,q3,q5,u,q6,q7⟩
              exact ⟨v,q1,q2,rs,q5.trans (q3.addT L (2*L) rfl),u,q6,q7⟩
        · refine .inr ⟨m,addT ts m nd L,⟨Qj4 F hr h1 h3 hs hnn,QgT F h1 h3 hs hnn⟩,fun us a c B w h t hT ⟨⟨B2,rd⟩⟩=>(Qma us a c B w t (hul us h) (hum us h) hT nd hok (hcu us h) hs L (hLu us h) hL3 (hlu us h) hTr (hfu us h) m (by rw [Qdw h]; exact h2) h1 (by omega) hpw (h.rise hri) B2 rd).mono ?_,fun a c B w t ⟨⟨B2,rd⟩⟩=>(QlC ts a c B w t htl2 hmt2 nd hok hc hs hf L hL hL3 hlen hTr F m h1 h4 h3 hm9 hms B2 (by rw [hms] at rd; exact rd)).mono ?_⟩
          · rintro e W ⟨v,q1,q2,us2,rs,n5,q3,q4,q5,a2,c2,q6,q7⟩
            exact ⟨v,q1,q2,rs,q5.trans ((q3.trans h).addT m L q4),_,q6,q7.fr⟩
          · rintro e W ⟨v,q1,q2,us2,rs,q3,q5,u,q6,q7⟩
            exact ⟨v,q1,q2,rs,q5.trans (q3.addT m L rfl),u,q6,q7⟩
      · exact .inl ⟨9,.inr (.inr rfl),fun us a c B w h t hT _=>Qm1 us a c B w t (hul us h) (hum us h) hT nd hok (hcu us h) hs L (hLu us h) hL3 (hlu us h) (by rw [Qcb h]; omega),fun a c B w t ⟨⟨B2,rd⟩⟩=>Ql9 ts a c B w t htl2 hmt2 nd hok B2 rd hc hs (by omega)⟩
end Go.Proofs.YtcmaolmofgmkhaaDoor.Te
end
section
namespace Go.Proofs.YtcmaolmofgmkhaaDoor.Te
open Go Go.RowKit
open Rely Auto Own Seat Sha
theorem FrT.parts {base : Nat} {us:List NdV} {v:Value} {W:World} (h:FrT base us v W):∃ a c,v=.slice a us.length c∧TrAt W.heap.size W a us∧AvT (fun g=>base≤g) a us:=by
  obtain ⟨a,c,e,h1,h2,-⟩:=h
  exact ⟨a,c,e,h1,h2⟩
theorem Qcn {rs R:List NdV} (h:AsC rs R) (hc:Qdj R):rs.length≤63∧(∀ i,i<rs.length→(ndi rs i).n.ms.length≤32)∧chkT rs=true:=by
  obtain ⟨L,F,hr⟩:=hc
  have h2:=F.small
  refine ⟨by rw [h.1]; exact h2.1,fun i hi=>?_,(Qcg h).trans (QfY F hr)⟩
  rw [h.all]
  exact (h2.2 i (by rw [←h.1]; exact hi)).2
theorem Qhy {us vs R:List NdV} (h:AsC us R) (k:AsC vs R):Qdo us vs=true:=QeM (h.trans k.symm)
end Go.Proofs.YtcmaolmofgmkhaaDoor.Te
end
section
namespace Go.Proofs.YtcmaolmofgmkhaaDoor.Te
open Go Go.RowKit
open Rely Auto Own Seat Sha
structure ChV where
  k:Int
  i:Int
  nd:NdV
def ch0 : ChV:=⟨0,0,nd0⟩
def chi (cs : List ChV) (i:Nat):ChV:=cs.getD i ch0
def chP (c : ChV):List (Array Value):=[#[.int .i64 c.k],#[.int .i64 c.i],#[.bool c.nd.n.us],#[.int .i64 c.nd.n.nm],ints .u8 c.nd.n.key,ints .u8 c.nd.n.sg,ints .u8 c.nd.n.pa,#[.slice c.nd.a c.nd.n.ms.length c.nd.c]]
theorem Qj5 (c : ChV) (h:NdOk c.nd.n):(cat (chP c)).size=101:=by
  unfold chP
  simp only [cat,qS,Qaf,h.kl,h.gl,h.pl]
  rfl
structure ChAt (w : World) (g off : Nat) (c : ChV) : Prop where
  lt:g<w.heap.size
  cell:∀ j u,(cat (chP c))[j]? = some u→w.cell? ⟨g,off+j,none⟩=some u
  rd:RdK .i64 w.heap.size c.nd.n.ms (.slice c.nd.a c.nd.n.ms.length c.nd.c) w
  ok:NdOk c.nd.n
theorem ChAt.ext {w W:World} {g off:Nat} {c:ChV} (h:ChAt w g off c) (e:Ext w W):ChAt W g off c :=
  ⟨qL h.lt e.size,fun j u hu=>by rw [←h.cell j u hu]; exact World.cell?_of_block (e.block g h.lt),RdK.here (h.rd.ext e),h.ok⟩
def QfA (w : World) (a:Option Addr) (cs:List ChV):Prop:=∃ g o,(0<cs.length→a=some ⟨g,o,none⟩)∧∀ i,i<cs.length→ChAt w g (o+i*101) (chi cs i)
theorem QfA.ext {w W:World} {a:Option Addr} {cs:List ChV} (h:QfA w a cs) (e:Ext w W):QfA W a cs:=by
  obtain ⟨g,o,h1,h2⟩:=h
  exact ⟨g,o,h1,fun i hi=>(h2 i hi).ext e⟩
theorem QfG {P : Program} {ρ:Operand→Value} {o:Oper} {w:World} (ty:TypeId) (x:Operand) (g off:Nat) (c:ChV) (h:ChAt w g off c)
    (ho:o.op=.load ty x) (hx:ρ x=.pointer (some ⟨g,off,none⟩)) (hu:aggD P ty=some true) (hi:(P.info? ty).map (·.size)=some 101):(execOp ρ o).run P w=.ok (.value (.agg (cat [#[.int .i64 c.k],#[.int .i64 c.i],#[.bool c.nd.n.us],#[.int .i64 c.nd.n.nm],ints .u8 c.nd.n.key,ints .u8 c.nd.n.sg,ints .u8 c.nd.n.pa,#[.slice c.nd.a c.nd.n.ms.length c.nd.c]]))) w:=by
  have h0:(cat (chP c))[0]? = some (.int .i64 c.k):=by
    unfold chP
    show (#[Value.int .i64 c.k]++cat _)[0]? = _
    rw [Array.getElem?_append_left (show 0<1 by decide)]
    rfl
  obtain ⟨cs,t,fr,hg⟩:=QdZ (h.cell 0 _ h0)
  refine Qap ty x g off t cs (cat (chP c)) fr hg ho hx (fun j v hv=>?_) hu (by rw [hi,Qj5 c h.ok])
  have h1:=h.cell j v hv
  unfold World.cell? at h1
  simp only [hg] at h1
  rw [←h1]; rfl
theorem TrAt.keepP {B : Nat} {p:Nat→Prop} {V W:World} {a:Option Addr} {ts:List NdV} (h:TrAt B V a ts) (q:Qbl p V W) (hv:AvT (fun g=>¬ p g) a ts):TrAt B W a ts:=by
  obtain ⟨g,o,h1,h2⟩:=h
  refine ⟨g,o,h1,fun i hi=>?_⟩
  have hn:=h2 i hi
  have hg:¬ p g:=hv.1 g o none (by omega) (h1 (by omega))
  refine ⟨hn.lt,qL hn.lt2 q.1,fun j u hu=>q.cell (hn.cell j u hu) hg,?_,hn.ok⟩
  by_cases hne:(ndi ts i).n.ms=[]
  · obtain ⟨a',cap,e,e1,e2,e3,e4⟩:=hn.rd
    exact ⟨a',cap,e,e1,e2,e3,.inl hne⟩
  obtain ⟨a',cap,e,e1,e2,e3,e4⟩:=hn.rd
  refine ⟨a',cap,e,e1,e2,e3,?_⟩
  rcases e4 with e4 | ⟨gm,om,q1,q2,q3,q4⟩
  · exact .inl e4
  · have ha:(ndi ts i).a=some ⟨gm,om,none⟩:=by simp only [Value.slice.injEq] at e; rw [e.1,q1]
    exact .inr ⟨gm,om,q1,q2,qL q3 q.1,fun k hk=>q.cell (q4 k hk) (hv.2 i hi hne gm om none ha)⟩
theorem Qbl.refl (p : Nat→Prop) (W:World):Qbl p W W:=⟨qR _,fun _ _ _ _ h _=>h⟩
theorem Qbl.puts {p : Nat→Prop} {g:Nat} {V A B:World} (h:Qbl p V A) (q:Puts A g B) (hg:p g):Qbl p V B :=
  ⟨qT h.1 (qE q.2.2.2.1.symm),fun k cs t fr r n=>(q.2.2.2.2 k fun e=>n (e▸hg)).trans (h.2 k cs t fr r n)⟩
theorem Qlk {p : Nat→Prop} {a:Option Addr} {ts:List NdV} {i:Nat} {v:Int} (h:AvT p a ts) (hi:i<ts.length):AvT p a (nmS ts i v):=by
  refine ⟨fun g o m hl e=>h.1 g o m (by rwa [QfN] at hl) e,fun k hk hne g o m e=>?_⟩
  rw [QfN] at hk
  unfold nmS at hne e
  rw [Qa8 _ hi] at hne e
  by_cases q:k=i
  · rw [if_pos q] at hne e
    exact h.2 i hi hne g o m e
  · rw [if_neg q] at hne e
    exact h.2 k hk hne g o m e
theorem Qlm {p : Nat→Prop} {a:Option Addr} {ts:List NdV} {i j:Nat} {v:Int} (h:AvT p a ts) (hi:i<ts.length):AvT p a (msS ts i j v):=by
  refine ⟨fun g o m hl e=>h.1 g o m (by rwa [QfQ] at hl) e,fun k hk hne g o m e=>?_⟩
  rw [QfQ] at hk
  unfold msS at hne e
  rw [Qa8 _ hi] at hne e
  by_cases q:k=i
  · rw [if_pos q] at hne e
    exact h.2 i hi (fun z=>hne (by show (ndi ts i).n.ms.set j v=[]; rw [z]; rfl)) g o m e
  · rw [if_neg q] at hne e
    exact h.2 k hk hne g o m e
theorem Qj7 {base : Nat} {us:List NdV} {a:Option Addr} {c:Nat} {W:World} (t:OwT base us (.slice a us.length c) W):AvT (fun g=>base≤g∧g<W.heap.size) a us:=by
  refine ⟨fun g o m h0 e=>?_,fun i hi hn g o m e=>?_⟩
  · subst e
    exact ⟨(t.rowBlock (g:=g) rfl).1,t.lt rfl⟩
  · have h1:=(t.nd i hi (by simp)).2.2
    have h2:(slv (ndi us i)).ownBlock=some g:=by unfold slv; rw [e]; rfl
    exact ⟨h1.ge h2,h1.lt h2⟩
theorem OwH.addr {base : Nat} {us:List NdV} {a:Option Addr} {c n:Nat} {W:World} (t:OwT base us (.slice a n c) W) (hn:us.length=n) (h0:0<n):∃ g,a=some ⟨g,0,none⟩:=by
  obtain ⟨g,c',cur,e,-⟩:=t.opens (by omega)
  simp only [Value.slice.injEq] at e
  exact ⟨g,e.1⟩
theorem Qk9 {b : Int} (h:b=3∨b=5∨b=9) (w:World):Calls Tryd.prog 31 #[.iface 30 (.int .i64 b)] w (Ret w (.int .i64 b)):=by
  rcases h with rfl | rfl | rfl
  · exact Qmn w
  · exact Qmm w
  · exact Qml w
theorem QcG {K : Act→World→Prop} {ds:List Deferred} {N:Nat} {L:Env} {W:World} (M:Env) (h:K (Qat ds N (M++L)) W) (ha:Qgb L M):K (Qat ds N L) W:=Qeq (ds:=ds) (N:=N) ha▸h
theorem Qiy (ts : List NdV) (htl:ts.length≤71) (hmt:∀ i,i<ts.length→(ndi ts i).n.ms.length≤50) (c:ChV) (hok:NdOk c.nd.n) (hml:c.nd.n.ms.length≤50) :
    (c.k=0∧∃ b:Int,(b=3∨b=5∨b=9)∧Qmf ts c.nd b)∨(c.k=0∧∃ (m:Nat) (R:List NdV),Qdj R∧QjV ts c.nd m R)∨(c.k=1∧∃ b:Int,(b=3∨b=5∨b=9)∧Qmb ts c.nd c.i b)∨(c.k=1∧∃ R:List NdV,Qdj R∧QjT ts c.nd c.i R)∨((c.k≠0∧c.k≠1)∧∃ b:Int,(b=3∨b=5∨b=9)∧Qmd ts c.i b)∨((c.k≠0∧c.k≠1)∧∃ R:List NdV,Qdj R∧QjU ts c.i R):=by
  by_cases h0:c.k=0
  · rcases Qlp ts htl hmt c.nd hok hml with h | ⟨m,R,h1,h⟩
    · exact .inl ⟨h0,h⟩
    · exact .inr (.inl ⟨h0,m,R,h1.1,h⟩)
  by_cases h1:c.k=1
  · rcases Qkl ts htl hmt c.nd hok hml c.i with ⟨b,hb,h⟩ | h
    · exact .inr (.inr (.inl ⟨h1,b,hb.elim .inl fun q=>.inr (.inr q),h⟩))
    · exact .inr (.inr (.inr (.inl ⟨h1,h⟩)))
  rcases Qk4 ts htl hmt c.i with ⟨b,hb,h⟩ | ⟨R,hR,h⟩
  · exact .inr (.inr (.inr (.inr (.inl ⟨⟨h0,h1⟩,b,hb.elim .inl fun q=>.inr (.inr q),h⟩))))
  · exact .inr (.inr (.inr (.inr (.inr ⟨⟨h0,h1⟩,R,hR.1,h⟩))))
end Go.Proofs.YtcmaolmofgmkhaaDoor.Te
end
section
namespace Go.Proofs.YtcmaolmofgmkhaaDoor.Te
open Go Go.RowKit
open Rely Auto Own Seat Sha
set_option maxRecDepth 100000 in
theorem QlN (ts0 : List NdV) (a_0:Option Addr) (c_0 B0:Nat) (chs:List ChV) (a_c:Option Addr) (c_c:Nat) (w:World) (ht0:TrAt B0 w a_0 ts0) (hch:QfA w a_c chs) (hT:TabAt w) (hs:¬ (∀ i,i<ts0.length→i≤70∧(ndi ts0 i).n.ms.length≤50)):Calls Tryd.prog 6 #[.slice a_0 ts0.length c_0,.slice a_c chs.length c_c] w (Ret w (.bool true)):=by
  refine enter 158 [(0,.slice a_0 ts0.length c_0),(1,.slice a_c chs.length c_c)] Tryd.func6 rfl rfl kj rfl ?_
  refine wp_seq_k fun K1 hK1=>?_
  refine Qab ?_
  refine Qaa (.bool false) 4 rfl kj kj ?_
  refine Qae ?_
  refine hK1 _ _ ?_
  refine wp_seq_k fun K2 hK2=>?_
  refine wp_seq_k fun K3 hK3=>?_
  refine Qab ?_
  refine Qaj (.bool true) 9 #[] 16 rfl kj kj (QjS _ (TabAt.ext hT (Rely.Ext.refl w))) fun W1 e1=>?_
  have x1:Ext w W1:=Ext.tr (Rely.Ext.refl w) e1
  refine Qaa (.bool false) 17 rfl kj kj ?_
  refine Qae ?_
  refine hK3 _ _ ?_
  refine cond_false kj ?_
  refine wp_skip ?_
  refine hK2 _ _ ?_
  refine wp_seq_k fun K4 hK4=>?_
  refine wp_seq_k fun K5 hK5=>?_
  refine Qab ?_
  refine Qaa (.slice a_0 ts0.length c_0) 18 rfl kj kj ?_
  refine Qaj (.bool true) 10 #[.slice a_0 ts0.length c_0] 19 rfl kj kj (Qif ts0 a_0 c_0 _ _ (TrAt.ext ht0 x1) hs) fun W2 e2=>?_
  have x2:Ext w W2:=Ext.tr x1 e2
  refine Qaa (.bool true) 20 rfl kj kj ?_
  refine Qad 21 rfl kj ?_
  refine Qad 22 rfl kj ?_
  refine Qad 23 rfl kj ?_
  refine Qaa (.bool true) 24 rfl kj kj ?_
  refine Qae ?_
  refine hK5 _ _ ?_
  refine cond_true kj ?_
  refine wp_seq_k fun K6 hK6=>?_
  refine Qab ?_
  refine Qaa (.bool true) 4 rfl kj kj ?_
  refine Qae ?_
  refine hK6 _ _ ?_
  refine wp_ret ?_
  repeat (first | with_reducible refine goR1 ?_ | with_reducible refine goR2 ?_)
  exact (show bodyPost _ _ _ .ret _ _ from ret1 (.bool true) rfl (Qam kj) ⟨rfl,x2⟩)
set_option maxRecDepth 100000 in
theorem QlO (ts0 : List NdV) (a_0:Option Addr) (c_0 B0:Nat) (chs:List ChV) (a_c:Option Addr) (c_c:Nat) (w:World) (ht0:TrAt B0 w a_0 ts0) (hch:QfA w a_c chs) (hT:TabAt w) (hs:∀ i,i<ts0.length→i≤70∧(ndi ts0 i).n.ms.length≤50):Calls Tryd.prog 6 #[.slice a_0 ts0.length c_0,.slice a_c chs.length c_c] w (Ret w (.bool true)):=by
 refine enter 158 [(0,.slice a_0 ts0.length c_0),(1,.slice a_c chs.length c_c)] Tryd.func6 rfl rfl kj rfl ?_
 refine wp_seq_k fun K1 hK1=>?_
 refine Qab ?_
 refine Qaa (.bool false) 4 rfl kj kj ?_
 refine Qae ?_
 refine hK1 _ _ ?_
 refine wp_seq_k fun K2 hK2=>?_
 refine wp_seq_k fun K3 hK3=>?_
 refine Qab ?_
 refine Qaj (.bool true) 9 #[] 16 rfl kj kj (QjS _ (TabAt.ext hT (Rely.Ext.refl w))) fun W1 e1=>?_
 have x1:Ext w W1:=Ext.tr (Rely.Ext.refl w) e1
 refine Qaa (.bool false) 17 rfl kj kj ?_
 refine Qae ?_
 refine hK3 _ _ ?_
 refine cond_false kj ?_
 refine wp_skip ?_
 refine hK2 _ _ ?_
 refine wp_seq_k fun K4 hK4=>?_
 refine wp_seq_k fun K5 hK5=>?_
 refine Qab ?_
 refine Qaa (.slice a_0 ts0.length c_0) 18 rfl kj kj ?_
 refine Qaj (.bool false) 10 #[.slice a_0 ts0.length c_0] 19 rfl kj kj (Qig ts0 a_0 c_0 _ _ (TrAt.ext ht0 x1) hs) fun W2 e2=>?_
 have x2:Ext w W2:=Ext.tr x1 e2
 refine Qaa (.bool false) 20 rfl kj kj ?_
 refine Qaa (.slice a_c chs.length c_c) 21 rfl kj kj ?_
 refine Qaa (.int .i64 ((chs.length:Nat):Int)) 22 rfl kj kj ?_
 refine Qaa (.bool (decide (((chs.length:Nat):Int)>40))) 23 rfl kj kj ?_
 refine Qaa (.bool (decide (((chs.length:Nat):Int)>40))) 24 rfl kj kj ?_
 refine Qae ?_
 refine hK5 _ _ ?_
 refine Qas (t:=decide (((chs.length:Nat):Int)>40)) kj (fun c6=>?_) (fun c6=>?_)
 ·skip
  refine wp_seq_k fun K7 hK7=>?_
  refine Qab ?_
  refine Qaa (.bool true) 4 rfl kj kj ?_
  refine Qae ?_
  refine hK7 _ _ ?_
  refine wp_ret ?_
  repeat (first | with_reducible refine goR1 ?_ | with_reducible refine goR2 ?_)
  exact (show bodyPost _ _ _ .ret _ _ from ret1 (.bool true) rfl (Qam kj) ⟨rfl,x2⟩)
 ·skip
  have hlc:chs.length≤40:=by have:=of_decide_eq_false c6; omega
  refine wp_skip ?_
  refine hK4 _ _ ?_
  refine wp_seq_k fun K8 hK8=>?_
  refine wp_seq_k fun K9 hK9=>?_
  refine Qab ?_
  refine Qaa (.slice a_c chs.length c_c) 25 rfl kj kj ?_
  refine Qaa (.int .i64 ((chs.length:Nat):Int)) 26 rfl kj kj ?_
  refine Qaa (.int .i64 0) 27 rfl kj kj ?_
  refine Qae ?_
  refine hK9 _ _ ?_
  refine wp_block ?_
  refine Qaz (fun (s1:Nat×List NdV×Option Addr×Nat)=>[(0,.slice s1.2.2.1 s1.2.1.length s1.2.2.2),(25,.slice a_c chs.length c_c),(26,.int .i64 ((chs.length:Nat):Int)),(27,.int .i64 ((s1.1:Nat):Int))]) (fun (s1:Nat×List NdV×Option Addr×Nat) W=>(s1.1≤chs.length)∧(s1.2.1.length≤71)∧(∀ i,i<s1.2.1.length→(ndi s1.2.1 i).n.ms.length≤50)∧(TrAt W.heap.size W s1.2.2.1 s1.2.1)∧(Ext w W)) (fun (s1:Nat×List NdV×Option Addr×Nat)=>chs.length-s1.1) (0,ts0,a_0,c_0) ⟨rfl,rfl,rfl,rfl,trivial⟩ ⟨(Nat.zero_le _),(Ql2 hs),(fun i hi=>(hs i hi).2),(TrAt.ext ht0 x2).here,x2⟩ fun s1 X1 V1 hI1=>?_
  obtain ⟨ci,ts,a_t,c_t⟩:=s1
  obtain ⟨hci,htl71,hm50,ht,xx1⟩:=hI1
  replace hci:ci≤chs.length:=hci
  replace htl71:ts.length≤71:=htl71
  replace hm50:∀ i,i<ts.length→(ndi ts i).n.ms.length≤50:=hm50
  replace ht:TrAt V1.heap.size V1 a_t ts:=ht
  replace xx1:Ext w V1:=xx1
  refine wp_seq_k fun K10 hK10=>?_
  refine Qab ?_
  refine Qaa (.bool (decide (((ci:Nat):Int)<((chs.length:Nat):Int)))) 28 rfl kj kj ?_
  refine Qae ?_
  refine hK10 _ _ ?_
  refine wp_seq_k fun K11 hK11=>?_
  refine Qas (t:=decide (((ci:Nat):Int)<((chs.length:Nat):Int))) kj (fun c12=>?_) (fun c12=>?_)
  ·skip
   have hlt28:ci<chs.length:=by have:=of_decide_eq_true c12; omega
   refine wp_skip ?_
   refine hK11 _ _ ?_
   refine wp_seq_k fun K13 hK13=>?_
   refine wp_block ?_
   refine wp_seq_k fun K14 hK14=>?_
   refine Qab ?_
   obtain ⟨gC,oC,haC,hcC⟩:=QfA.ext hch xx1
   have hcc:=hcC ci (by omega)
   obtain ⟨ch,ech⟩:∃ z,z=chi chs ci:=⟨_,rfl⟩
   rw [←ech] at hcc
   have hok:=hcc.ok
   have hcr:=hcc.rd
   refine Qaa (.pointer (some ⟨gC,oC+ci*101,none⟩)) 29 rfl kj (Qao 49 _ _ .i64 ci gC oC chs.length c_c 51 101 a_c (haC (by omega)) rfl kj kj kj kj (by omega)) ?_
   refine Qaa (.agg (cat [#[.int .i64 ch.k],#[.int .i64 ch.i],#[.bool ch.nd.n.us],#[.int .i64 ch.nd.n.nm],ints .u8 (ch.nd.n.key),ints .u8 (ch.nd.n.sg),ints .u8 (ch.nd.n.pa),#[.slice ch.nd.a ch.nd.n.ms.length ch.nd.c]])) 30 rfl kj (QfG 51 _ gC (oC+ci*101) ch hcc rfl kj kj kj) ?_
   refine Qan (cat [#[.int .i64 0],#[.int .i64 0],#[.bool false],#[.int .i64 0],ints .u8 (List.replicate 32 0),ints .u8 (List.replicate 32 0),ints .u8 (List.replicate 32 0),#[.slice none 0 0]]) 51 6 rfl kj kj fun g15 W4 l15 e4 r15_4=>?_
   have x4:Ext w W4:=Ext.tr xx1 e4
   have b15:w.heap.size≤g15:=qT xx1.size l15
   refine Qa5 g15 _ (cat [#[.int .i64 ch.k],#[.int .i64 ch.i],#[.bool ch.nd.n.us],#[.int .i64 ch.nd.n.nm],ints .u8 (ch.nd.n.key),ints .u8 (ch.nd.n.sg),ints .u8 (ch.nd.n.pa),#[.slice ch.nd.a ch.nd.n.ms.length ch.nd.c]]) 51 r15_4 rfl kj (QaG 51 _ _ g15 51 _ _ r15_4 rfl kj kj (isz (n:=101) kj (by rw [Qac,Qac,Qac,Qac,Qac,Qac,Qac,Qac]; simp only [qS,cat,((Qaf _ _).trans hok.gl),((Qaf _ _).trans hok.kl),((Qaf _ _).trans hok.pl)]; rfl)) (eqsz (n:=101) (by rw [Qac,Qac,Qac,Qac,Qac,Qac,Qac,Qac]; simp only [qS,cat,((Qaf _ _).trans (qZ (n:=32)))]; rfl) (by rw [Qac,Qac,Qac,Qac,Qac,Qac,Qac,Qac]; simp only [qS,cat,((Qaf _ _).trans hok.gl),((Qaf _ _).trans hok.kl),((Qaf _ _).trans hok.pl)]; rfl)) (Qb0 _ (by intro a ha; simp only [List.mem_cons,List.not_mem_nil,or_false] at ha; rcases ha with rfl | rfl | rfl | rfl | rfl | rfl | rfl | rfl; exact (Qa3 _ rfl); exact (Qa3 _ rfl); exact (Qa3 _ rfl); exact (Qa3 _ rfl); exact (Qa4 _ _); exact (Qa4 _ _); exact (Qa4 _ _); exact (Qa3 _ rfl)))) fun W5 p5 r15_5=>?_
   have x5:Ext w W5:=Puts.ext p5 x4 b15
   refine Qae ?_
   refine hK14 _ _ ?_
   refine wp_seq_k fun K16 hK16=>?_
   refine wp_seq_k fun K17 hK17=>?_
   refine Qab ?_
   refine Qaa (.pointer (some ⟨g15,2,none⟩)) 31 rfl kj kj ?_
   refine Qaa (.pointer (some ⟨g15,100,none⟩)) 32 rfl kj kj ?_
   refine Qaa (.slice ch.nd.a ch.nd.n.ms.length ch.nd.c) 33 rfl kj (Qag 36 _ g15 100 51 _ (.slice ch.nd.a ch.nd.n.ms.length ch.nd.c) _ r15_5 rfl kj (Qal [#[.int .i64 ch.k],#[.int .i64 ch.i],#[.bool ch.nd.n.us],#[.int .i64 ch.nd.n.nm],ints .u8 (ch.nd.n.key),ints .u8 (ch.nd.n.sg),ints .u8 (ch.nd.n.pa)] [#[.slice ch.nd.a ch.nd.n.ms.length ch.nd.c]] [] 100 (by rw [Qac,Qac,Qac,Qac,Qac,Qac,Qac]; simp only [qS,cat,((Qaf _ _).trans hok.gl),((Qaf _ _).trans hok.kl),((Qaf _ _).trans hok.pl)]; rfl) 0 _ rfl) kj) ?_
   refine Qaa (.int .i64 ((ch.nd.n.ms.length:Nat):Int)) 34 rfl kj kj ?_
   refine Qaa (.bool (decide (((ch.nd.n.ms.length:Nat):Int)>50))) 35 rfl kj kj ?_
   refine Qae ?_
   refine hK17 _ _ ?_
   refine Qas (t:=decide (((ch.nd.n.ms.length:Nat):Int)>50)) kj (fun c18=>?_) (fun c18=>?_)
   ·skip
    refine wp_seq_k fun K19 hK19=>?_
    refine Qab ?_
    refine Qaa (.bool true) 4 rfl kj kj ?_
    refine Qae ?_
    refine hK19 _ _ ?_
    refine wp_ret ?_
    repeat (first | with_reducible refine goR1 ?_ | with_reducible refine goR2 ?_)
    exact (show bodyPost _ _ _ .ret _ _ from ret1 (.bool true) rfl (Qam kj) ⟨rfl,x5⟩)
   ·skip
    have hml:ch.nd.n.ms.length≤50:=by have:=of_decide_eq_false c18; omega
    have htl:ts.length≤100000:=by omega
    have htl6:ts.length≤1000000:=by omega
    have hm1:∀ i,i<ts.length→(ndi ts i).n.ms.length≤1000:=fun i hi=>qT (hm50 i hi) (by decide)
    have htm6:∀ i,i<ts.length→(ndi ts i).n.ms.length≤1000000:=fun i hi=>qT (hm50 i hi) (by decide)
    refine wp_skip ?_
    refine hK16 _ _ ?_
    refine wp_seq_k fun K20 hK20=>?_
    refine Qab ?_
    refine Qaa (.slice a_t ts.length c_t) 36 rfl kj kj ?_
    have y3_4:Ext V1 W4:=(Rely.Ext.trans (Rely.Ext.refl V1) e4)
    have y3_5:Ext V1 W5:=(Puts.ext p5 y3_4 l15)
    refine Qa0 (fun v W'=>(fun v W9=>∃ us,AsC us ts∧OwT W5.heap.size us v W9) v W'∧Ext W5 W') 21 #[.slice a_t ts.length c_t] 37 rfl kj kj ((Qgq ts a_t _ _ _ (TrAt.ext ht y3_5) htl hm1).mono (by rintro e w' ⟨v,rfl,e1,hv⟩; exact ⟨v,rfl,hv,e1⟩)) fun vv21 W6 hh21=>?_
    obtain ⟨hv21,e6⟩:=hh21
    have x6:Ext w W6:=Ext.tr x5 e6
    obtain ⟨us,has,hU0⟩:=hv21
    obtain ⟨aD,cD,hvD⟩:=hU0.slice
    subst hvD
    have hU:OwT W5.heap.size us (.slice aD us.length cD) W6:=hU0
    clear hU0
    have hul:us.length=ts.length:=has.1
    have hul6:us.length≤1000000:=by omega
    have hum6:∀ i,i<us.length→(ndi us i).n.ms.length≤1000000:=fun i hi=>by rw [has.all]; exact htm6 i (by omega)
    refine Qaa (.slice aD us.length cD) 7 rfl kj kj ?_
    refine Qae ?_
    refine hK20 _ _ ?_
    refine wp_seq_k fun K22 hK22=>?_
    refine Qab ?_
    refine Qaa (.slice none 0 0) 8 rfl kj kj ?_
    refine Qaa (.slice none 0 0) 9 rfl kj kj ?_
    refine Qae ?_
    refine hK22 _ _ ?_
    refine wp_seq_k fun K23 hK23=>?_
    refine Qab ?_
    refine Qaa (.nilIface) 10 rfl kj kj ?_
    refine Qae ?_
    refine hK23 _ _ ?_
    refine wp_seq_k fun K24 hK24=>?_
    refine Qab ?_
    refine Qaa (.int .i64 0) 11 rfl kj kj ?_
    refine Qaa (.int .i64 0) 12 rfl kj kj ?_
    refine Qaa (.int .i64 0) 13 rfl kj kj ?_
    refine Qae ?_
    refine hK24 _ _ ?_
    refine wp_seq_k fun K25 hK25=>?_
    have hJN:∀ (bb:Int) (X:Env) (WJ:World),(bb=3∨bb=5∨bb=9)→Ext W6 WJ→K25 (Qat [] 158 ([(0,.slice a_t ts.length c_t),(25,.slice a_c chs.length c_c),(26,.int .i64 ((chs.length:Nat):Int)),(27,.int .i64 ((ci:Nat):Int)),(7,.slice aD us.length cD),(8,.slice none 0 0),(9,.slice none 0 0),(10,.iface 30 (.int .i64 bb)),(11,.int .i64 bb),(12,.int .i64 0),(13,.int .i64 0)]++X)) WJ:=by
     intro bb X25 WJ hb e7
     refine hK25 _ _ ?_
     have x7:Ext w WJ:=Ext.tr x6 e7
     refine wp_seq_k fun K26 hK26=>?_
     refine wp_seq_k fun K27 hK27=>?_
     refine Qab ?_
     refine Qaa (.slice none 0 0) 92 rfl kj kj ?_
     refine Qaa (.slice none 0 0) 93 rfl kj kj ?_
     refine Qaj (.bool true) 15 #[.slice none 0 0,.slice none 0 0] 94 rfl kj kj (Qer true [] [] none none 0 0 0 0 _ (by decide) (by decide) (fun i hi=>absurd hi (Nat.not_lt_zero _)) (fun i hi=>absurd hi (Nat.not_lt_zero _)) (Qgl _ _ _) (Qgl _ _ _) rfl) fun W8 e8=>?_
     have x8:Ext w W8:=Ext.tr x7 e8
     refine Qaa (.bool false) 95 rfl kj kj ?_
     refine Qaa (.bool false) 96 rfl kj kj ?_
     refine Qaa (.iface 30 (.int .i64 bb)) 97 rfl kj kj ?_
     refine Qaj (.int .i64 bb) 31 #[.iface 30 (.int .i64 bb)] 98 rfl kj kj ((Qk9 hb) _) fun W9 e9=>?_
     have x9:Ext w W9:=Ext.tr x8 e9
     refine Qaa (.int .i64 bb) 99 rfl kj kj ?_
     refine Qaa (.bool false) 100 rfl kj (Qai (u:=.bool ((bb != bb))) kj (congrArg Value.bool (bne_self_eq_false _))) ?_
     refine Qaa (.bool false) 101 rfl kj kj ?_
     refine Qaa (.bool false) 102 rfl kj kj ?_
     refine Qaa (.int .i64 0) 103 rfl kj kj ?_
     refine Qaa (.int .i64 0) 104 rfl kj kj ?_
     refine Qaa (.bool false) 105 rfl kj kj ?_
     refine Qaa (.bool false) 106 rfl kj kj ?_
     refine Qaa (.bool false) 107 rfl kj kj ?_
     refine Qaa (.slice aD us.length cD) 108 rfl kj kj ?_
     refine Qaa (.slice a_t ts.length c_t) 109 rfl kj kj ?_
     have y6_7:Ext W6 WJ:=(Rely.Ext.trans (Rely.Ext.refl W6) e7)
     have y6_8:Ext W6 W8:=(Rely.Ext.trans y6_7 e8)
     have y6_9:Ext W6 W9:=(Rely.Ext.trans y6_8 e9)
     have y3_6:Ext V1 W6:=(Rely.Ext.trans y3_5 e6)
     have y3_7:Ext V1 WJ:=(Rely.Ext.trans y3_6 e7)
     have y3_8:Ext V1 W8:=(Rely.Ext.trans y3_7 e8)
     have y3_9:Ext V1 W9:=(Rely.Ext.trans y3_8 e9)
     refine Qaj (.bool true) 15 #[.slice aD us.length cD,.slice a_t ts.length c_t] 110 rfl kj kj (Qer true us ts aD a_t cD c_t _ _ _ hul6 htl6 hum6 htm6 (TrAt.ext hU.tr y6_9) (TrAt.ext ht y3_9) (QeM has)) fun W10 e10=>?_
     have x10:Ext w W10:=Ext.tr x9 e10
     refine Qaa (.bool false) 111 rfl kj kj ?_
     refine Qaa (.bool false) 112 rfl kj kj ?_
     refine Qae ?_
     refine hK27 _ _ ?_
     refine cond_false kj ?_
     refine wp_skip ?_
     refine hK26 _ _ ?_
     refine wp_seq_k fun K28 hK28=>?_
     refine Qab ?_
     refine Qaa (.int .i64 bb) 113 rfl kj kj ?_
     refine Qaa (.bool false) 114 rfl kj (Qai (u:=.bool ((bb==0))) kj (congrArg Value.bool (beq_eq_false_iff_ne.2 (by omega)))) ?_
     refine Qae ?_
     refine hK28 _ _ ?_
     refine cond_false kj ?_
     refine wp_skip ?_
     have y3_10:Ext V1 W10:=(Rely.Ext.trans y3_9 e10)
     refine hK13 _ _ ?_
     refine Qab ?_
     refine Qaa (.int .i64 ((ci+1:Nat):Int)) 157 rfl kj (Qai (u:=.int .i64 (IntKind.i64.wrap (((ci:Nat):Int)+1))) kj (congrArg (Value.int .i64) (i64n _ _ (by omega) (by omega)))) ?_
     refine Qaa (.int .i64 ((ci+1:Nat):Int)) 27 rfl kj kj ?_
     refine Qae ?_
     repeat (first | with_reducible refine goX1 ?_ | with_reducible refine goX2 ?_ | with_reducible refine goX3 ?_)
     exact Qaq ((ci+1),ts,a_t,c_t) ⟨rfl,rfl,rfl,rfl,trivial⟩ ⟨(by omega),htl71,hm50,(TrAt.ext ht y3_10).here,x10⟩ (by show chs.length-(ci+1)<chs.length-ci; omega)
    have hJY:∀ (m:Nat) (R rs ss:List NdV) (a_r a_s:Option Addr) (c_r c_s:Nat) (X:Env) (WJ:World),Qdj R→AsC rs R→AsC ss R→rs.length≤63→ss.length≤63→(∀ i,i<rs.length→(ndi rs i).n.ms.length≤32)→(∀ i,i<ss.length→(ndi ss i).n.ms.length≤32)→TrAt WJ.heap.size WJ a_r rs→AvT (fun g=>W6.heap.size≤g) a_r rs→TrAt WJ.heap.size WJ a_s ss→AvT (fun g=>W6.heap.size≤g) a_s ss→Ext W6 WJ→K25 (Qat [] 158 ([(0,.slice a_t ts.length c_t),(25,.slice a_c chs.length c_c),(26,.int .i64 ((chs.length:Nat):Int)),(27,.int .i64 ((ci:Nat):Int)),(7,.slice aD us.length cD),(8,.slice a_r rs.length c_r),(9,.slice a_s ss.length c_s),(10,.nilIface),(11,.int .i64 0),(12,.int .i64 ((m:Nat):Int)),(13,.int .i64 ((m:Nat):Int))]++X)) WJ:=by
     intro m R rs ss a_r a_s c_r c_s X25 WJ hcR hrs hss hrl hsl hrm hsm htr hvr hts hvs e7
     refine hK25 _ _ ?_
     have hrl6:rs.length≤1000000:=by omega
     have hsl6:ss.length≤1000000:=by omega
     have hrl5:rs.length≤100000:=by omega
     have hrm6:∀ i,i<rs.length→(ndi rs i).n.ms.length≤1000000:=fun i hi=>qT (hrm i hi) (by decide)
     have hsm6:∀ i,i<ss.length→(ndi ss i).n.ms.length≤1000000:=fun i hi=>qT (hsm i hi) (by decide)
     have hcr9:chkT rs=true:=(Qcn hrs hcR).2.2
     have x7:Ext w WJ:=Ext.tr x6 e7
     refine wp_seq_k fun K29 hK29=>?_
     refine wp_seq_k fun K30 hK30=>?_
     refine Qab ?_
     refine Qaa (.slice a_r rs.length c_r) 92 rfl kj kj ?_
     refine Qaa (.slice a_s ss.length c_s) 93 rfl kj kj ?_
     refine Qaj (.bool true) 15 #[.slice a_r rs.length c_r,.slice a_s ss.length c_s] 94 rfl kj kj (Qer true rs ss a_r a_s c_r c_s _ _ _ hrl6 hsl6 hrm6 hsm6 (TrAt.ext htr (Rely.Ext.refl WJ)) (TrAt.ext hts (Rely.Ext.refl WJ)) (Qhy hrs hss)) fun W8 e8=>?_
     have x8:Ext w W8:=Ext.tr x7 e8
     refine Qaa (.bool false) 95 rfl kj kj ?_
     refine Qaa (.bool false) 96 rfl kj kj ?_
     refine Qaa (.nilIface) 97 rfl kj kj ?_
     refine Qaj (.int .i64 0) 31 #[.nilIface] 98 rfl kj kj (Qmo _) fun W9 e9=>?_
     have x9:Ext w W9:=Ext.tr x8 e9
     refine Qaa (.int .i64 0) 99 rfl kj kj ?_
     refine Qaa (.bool false) 100 rfl kj kj ?_
     refine Qaa (.bool false) 101 rfl kj kj ?_
     refine Qaa (.bool false) 102 rfl kj kj ?_
     refine Qaa (.int .i64 ((m:Nat):Int)) 103 rfl kj kj ?_
     refine Qaa (.int .i64 ((m:Nat):Int)) 104 rfl kj kj ?_
     refine Qaa (.bool false) 105 rfl kj (Qai (u:=.bool ((((m:Nat):Int) != ((m:Nat):Int)))) kj (congrArg Value.bool (bne_self_eq_false _))) ?_
     refine Qaa (.bool false) 106 rfl kj kj ?_
     refine Qaa (.bool false) 107 rfl kj kj ?_
     refine Qaa (.slice aD us.length cD) 108 rfl kj kj ?_
     refine Qaa (.slice a_t ts.length c_t) 109 rfl kj kj ?_
     have y6_7:Ext W6 WJ:=(Rely.Ext.trans (Rely.Ext.refl W6) e7)
     have y6_8:Ext W6 W8:=(Rely.Ext.trans y6_7 e8)
     have y6_9:Ext W6 W9:=(Rely.Ext.trans y6_8 e9)
     have y3_6:Ext V1 W6:=(Rely.Ext.trans y3_5 e6)
     have y3_7:Ext V1 WJ:=(Rely.Ext.trans y3_6 e7)
     have y3_8:Ext V1 W8:=(Rely.Ext.trans y3_7 e8)
     have y3_9:Ext V1 W9:=(Rely.Ext.trans y3_8 e9)
     refine Qaj (.bool true) 15 #[.slice aD us.length cD,.slice a_t ts.length c_t] 110 rfl kj kj (Qer true us ts aD a_t cD c_t _ _ _ hul6 htl6 hum6 htm6 (TrAt.ext hU.tr y6_9) (TrAt.ext ht y3_9) (QeM has)) fun W10 e10=>?_
     have x10:Ext w W10:=Ext.tr x9 e10
     refine Qaa (.bool false) 111 rfl kj kj ?_
     refine Qaa (.bool false) 112 rfl kj kj ?_
     refine Qae ?_
     refine hK30 _ _ ?_
     refine cond_false kj ?_
     refine wp_skip ?_
     refine hK29 _ _ ?_
     refine wp_seq_k fun K31 hK31=>?_
     refine Qab ?_
     refine Qaa (.int .i64 0) 113 rfl kj kj ?_
     refine Qaa (.bool true) 114 rfl kj kj ?_
     refine Qae ?_
     refine hK31 _ _ ?_
     refine cond_true kj ?_
     refine wp_seq_k fun K32 hK32=>?_
     refine wp_seq_k fun K33 hK33=>?_
     refine Qab ?_
     refine Qaa (.slice aD us.length cD) 115 rfl kj kj ?_
     refine Qaa (.int .i64 ((us.length:Nat):Int)) 116 rfl kj kj ?_
     refine Qaa (.int .i64 0) 117 rfl kj kj ?_
     refine Qae ?_
     refine hK33 _ _ ?_
     refine wp_block ?_
     have y7_8:Ext WJ W8:=(Rely.Ext.trans (Rely.Ext.refl WJ) e8)
     have y7_9:Ext WJ W9:=(Rely.Ext.trans y7_8 e9)
     have y7_10:Ext WJ W10:=(Rely.Ext.trans y7_9 e10)
     have y6_10:Ext W6 W10:=(Rely.Ext.trans y6_9 e10)
     have htr0:=TrAt.ext htr y7_10
     have hts0:=TrAt.ext hts y7_10
     have hU0:=OwH.ext hU y6_10
     have hb0:w.heap.size≤W5.heap.size:=x5.size
     refine Qaz (fun (s2:Nat×List NdV)=>[(25,.slice a_c chs.length c_c),(26,.int .i64 ((chs.length:Nat):Int)),(27,.int .i64 ((ci:Nat):Int)),(8,.slice a_r rs.length c_r),(9,.slice a_s ss.length c_s),(7,.slice aD us.length cD),(116,.int .i64 ((us.length:Nat):Int)),(117,.int .i64 ((s2.1:Nat):Int))]) (fun (s2:Nat×List NdV) W=>(s2.1≤us.length)∧(s2.2.length=us.length)∧(OwT W5.heap.size s2.2 (.slice aD us.length cD) W)∧(AvT (fun g=>W5.heap.size≤g∧g<W6.heap.size) aD s2.2)∧(Qbl (fun g=>W5.heap.size≤g∧g<W6.heap.size) W10 W)∧(Ext w W)) (fun (s2:Nat×List NdV)=>us.length-s2.1) (0,us) ⟨rfl,rfl,rfl,rfl,rfl,rfl,rfl,rfl,trivial⟩ ⟨(Nat.zero_le _),rfl,hU0,(Qj7 hU),(Qbl.refl _ _),x10⟩ fun s2 X2 V2 hI2=>?_
     obtain ⟨i,vs⟩:=s2
     obtain ⟨hi,hvl,hV,hvA,hKP,xx2⟩:=hI2
     replace hi:i≤us.length:=hi
     replace hvl:vs.length=us.length:=hvl
     replace hV:OwT W5.heap.size vs (.slice aD us.length cD) V2:=hV
     replace hvA:AvT (fun g=>W5.heap.size≤g∧g<W6.heap.size) aD vs:=hvA
     replace hKP:Qbl (fun g=>W5.heap.size≤g∧g<W6.heap.size) W10 V2:=hKP
     replace xx2:Ext w V2:=xx2
     refine wp_seq_k fun K34 hK34=>?_
     refine Qab ?_
     refine Qaa (.bool (decide (((i:Nat):Int)<((us.length:Nat):Int)))) 118 rfl kj kj ?_
     refine Qae ?_
     refine hK34 _ _ ?_
     refine wp_seq_k fun K35 hK35=>?_
     refine Qas (t:=decide (((i:Nat):Int)<((us.length:Nat):Int))) kj (fun c36=>?_) (fun c36=>?_)
     ·skip
      have hlt118:i<us.length:=by have:=of_decide_eq_true c36; omega
      obtain ⟨gO,rfl⟩:=hV.addr hvl (by omega)
      refine wp_skip ?_
      refine hK35 _ _ ?_
      refine wp_seq_k fun K37 hK37=>?_
      refine wp_block ?_
      refine wp_seq_k fun K38 hK38=>?_
      refine Qab ?_
      refine Qaa (.int .i64 ((i:Nat):Int)) 119 rfl kj kj ?_
      refine Qaa (.int .i64 ((i:Nat):Int)) 14 rfl kj kj ?_
      refine Qae ?_
      refine hK38 _ _ ?_
      refine wp_seq_k fun K39 hK39=>?_
      refine Qab ?_
      refine Qaa (.slice (some ⟨gO,0,none⟩) us.length cD) 120 rfl kj kj ?_
      refine Qaa (.int .i64 ((i:Nat):Int)) 121 rfl kj kj ?_
      refine Qaa (.pointer (some ⟨gO,0+i*99,none⟩)) 122 rfl kj (Qa1 23 _ _ .i64 i gO 0 us.length cD 41 99 rfl kj kj kj kj (by omega)) ?_
      refine Qaa (.pointer (some ⟨gO,0+i*99+1,none⟩)) 123 rfl kj kj ?_
      have hgp:=hvA.1 gO 0 none (by omega) rfl
      refine Qhu (i:=i) (v:=99) 3 _ _ hvl hV (by omega) rfl kj kj kj rfl kj fun W12 p12 hV2=>?_
      obtain ⟨vs2,hvs2⟩:∃ z,z=nmS vs i 99:=⟨_,rfl⟩
      rw [←hvs2] at hV2
      have hvl2:vs2.length=us.length:=by rw [hvs2,QfN]; exact hvl
      have hvA2:AvT _ _ vs2:=hvs2▸Qlk hvA (by omega)
      have hKP2:=Qbl.puts hKP p12 hgp
      have x12:Ext w W12:=Puts.ext p12 xx2 (qT hb0 hgp.1)
      refine Qae ?_
      refine hK39 _ _ ?_
      refine wp_seq_k fun K41 hK41=>?_
      refine Qab ?_
      refine Qaa (.slice (some ⟨gO,0,none⟩) us.length cD) 124 rfl kj kj ?_
      refine Qaa (.int .i64 ((i:Nat):Int)) 125 rfl kj kj ?_
      refine Qaa (.pointer (some ⟨gO,0+i*99,none⟩)) 126 rfl kj (Qa1 23 _ _ .i64 i gO 0 us.length cD 41 99 rfl kj kj kj kj (by omega)) ?_
      refine Qaa (.pointer (some ⟨gO,0+i*99+98,none⟩)) 127 rfl kj kj ?_
      obtain ⟨nt,ent⟩:∃ z,z=ndi vs2 i:=⟨_,rfl⟩
      have hnt:NdAt _ _ gO (0+i*99) nt:=ent▸OwH.node hvl2 hV2 (by omega)
      have hntm:nt.n.ms.length≤1000:=ent▸(hV2.nd i (by omega) (by simp)).2.1
      refine Qaa (.slice nt.a nt.n.ms.length nt.c) 128 rfl kj (Qak 36 _ _ (.slice nt.a nt.n.ms.length nt.c) (NdAt.at3 hnt).2.2 rfl kj kj) ?_
      refine Qaa (.int .i64 ((nt.n.ms.length:Nat):Int)) 129 rfl kj kj ?_
      refine Qaa (.int .i64 0) 130 rfl kj kj ?_
      refine Qae ?_
      refine hK41 _ _ ?_
      refine wp_block ?_
      refine Qaz (fun (s3:Nat×List NdV)=>[(25,.slice a_c chs.length c_c),(26,.int .i64 ((chs.length:Nat):Int)),(27,.int .i64 ((ci:Nat):Int)),(8,.slice a_r rs.length c_r),(9,.slice a_s ss.length c_s),(7,.slice (some ⟨gO,0,none⟩) us.length cD),(14,.int .i64 ((i:Nat):Int)),(116,.int .i64 ((us.length:Nat):Int)),(117,.int .i64 ((i:Nat):Int)),(129,.int .i64 ((nt.n.ms.length:Nat):Int)),(130,.int .i64 ((s3.1:Nat):Int))]) (fun (s3:Nat×List NdV) W=>(s3.1≤nt.n.ms.length)∧(s3.2.length=us.length)∧((ndi s3.2 i).n.ms.length=nt.n.ms.length)∧(OwT W5.heap.size s3.2 (.slice (some ⟨gO,0,none⟩) us.length cD) W)∧(AvT (fun g=>W5.heap.size≤g∧g<W6.heap.size) (some ⟨gO,0,none⟩) s3.2)∧(Qbl (fun g=>W5.heap.size≤g∧g<W6.heap.size) W10 W)∧(Ext w W)) (fun (s3:Nat×List NdV)=>nt.n.ms.length-s3.1) (0,vs2) ⟨rfl,rfl,rfl,rfl,rfl,rfl,rfl,rfl,rfl,rfl,rfl,trivial⟩ ⟨(Nat.zero_le _),hvl2,(by rw [ent]),hV2,hvA2,hKP2,x12⟩ fun s3 X3 V3 hI3=>?_
      obtain ⟨j,ws⟩:=s3
      obtain ⟨hj,hwl,hwm,hW,hwA,hKQ,xx3⟩:=hI3
      replace hj:j≤nt.n.ms.length:=hj
      replace hwl:ws.length=us.length:=hwl
      replace hwm:(ndi ws i).n.ms.length=nt.n.ms.length:=hwm
      replace hW:OwT W5.heap.size ws (.slice (some ⟨gO,0,none⟩) us.length cD) V3:=hW
      replace hwA:AvT (fun g=>W5.heap.size≤g∧g<W6.heap.size) (some ⟨gO,0,none⟩) ws:=hwA
      replace hKQ:Qbl (fun g=>W5.heap.size≤g∧g<W6.heap.size) W10 V3:=hKQ
      replace xx3:Ext w V3:=xx3
      refine wp_seq_k fun K42 hK42=>?_
      refine Qab ?_
      refine Qaa (.bool (decide (((j:Nat):Int)<((nt.n.ms.length:Nat):Int)))) 131 rfl kj kj ?_
      refine Qae ?_
      refine hK42 _ _ ?_
      refine wp_seq_k fun K43 hK43=>?_
      refine Qas (t:=decide (((j:Nat):Int)<((nt.n.ms.length:Nat):Int))) kj (fun c44=>?_) (fun c44=>?_)
      ·skip
       have hlt131:j<nt.n.ms.length:=by have:=of_decide_eq_true c44; omega
       refine wp_skip ?_
       refine hK43 _ _ ?_
       refine wp_seq_k fun K45 hK45=>?_
       refine wp_block ?_
       refine wp_seq_k fun K46 hK46=>?_
       refine Qab ?_
       refine Qaa (.int .i64 ((j:Nat):Int)) 132 rfl kj kj ?_
       refine Qaa (.int .i64 ((j:Nat):Int)) 15 rfl kj kj ?_
       refine Qae ?_
       refine hK46 _ _ ?_
       refine Qab ?_
       refine Qaa (.slice (some ⟨gO,0,none⟩) us.length cD) 133 rfl kj kj ?_
       refine Qaa (.int .i64 ((i:Nat):Int)) 134 rfl kj kj ?_
       refine Qaa (.pointer (some ⟨gO,0+i*99,none⟩)) 135 rfl kj (Qa1 23 _ _ .i64 i gO 0 us.length cD 41 99 rfl kj kj kj kj (by omega)) ?_
       refine Qaa (.pointer (some ⟨gO,0+i*99+98,none⟩)) 136 rfl kj kj ?_
       obtain ⟨mt,emt⟩:∃ z,z=ndi ws i:=⟨_,rfl⟩
       have hmt0:NdAt _ _ gO (0+i*99) mt:=emt▸OwH.node hwl hW (by omega)
       obtain ⟨bL,hba,hbb,hbs,hbc⟩:=OwH.list hwl hW (i:=i) (by omega) (by omega)
       have hjm:j<(ndi ws i).n.ms.length:=by omega
       have hpb:=hwA.2 i (by omega) (fun e=>by rw [e] at hjm; exact Nat.not_lt_zero _ hjm) bL 0 none hba
       have hba2:=hba
       rw [←emt] at hba2
       have hjm2:j<mt.n.ms.length:=emt▸hjm
       refine Qaa (.slice mt.a mt.n.ms.length mt.c) 137 rfl kj (Qak 36 _ _ (.slice mt.a mt.n.ms.length mt.c) (NdAt.at3 hmt0).2.2 rfl kj kj) ?_
       refine Qaa (.int .i64 ((j:Nat):Int)) 138 rfl kj kj ?_
       refine Qaa (.pointer (some ⟨bL,0+j,none⟩)) 139 rfl kj (Qa9 36 _ _ .i64 j bL 0 mt.n.ms.length mt.c 3 mt.a _ hba2 rfl rfl kj kj kj kj hjm2) ?_
       refine Qhv (i:=i) (j:=j) (v:=77) 3 _ _ hwl hW (by omega) hjm hba rfl kj kj kj rfl kj fun W14 p14 _ _ hW2=>?_
       have hwA2:=Qlm (j:=j) (v:=77) hwA (show i<ws.length by omega)
       have hKQ2:=Qbl.puts hKQ p14 hpb
       have x14:Ext w W14:=Puts.ext p14 xx3 (qT hb0 hpb.1)
       refine Qae ?_
       refine hK45 _ _ ?_
       refine Qab ?_
       refine Qaa (.int .i64 ((j+1:Nat):Int)) 140 rfl kj (Qai (u:=.int .i64 (IntKind.i64.wrap (((j:Nat):Int)+1))) kj (congrArg (Value.int .i64) (i64n _ _ (by omega) (by omega)))) ?_
       refine Qaa (.int .i64 ((j+1:Nat):Int)) 130 rfl kj kj ?_
       refine Qae ?_
       repeat (first | with_reducible refine goX1 ?_ | with_reducible refine goX2 ?_ | with_reducible refine goX3 ?_)
       exact Qaq ((j+1),(msS ws i j 77)) ⟨rfl,rfl,rfl,rfl,rfl,rfl,rfl,rfl,rfl,rfl,rfl,trivial⟩ ⟨(by omega),(by rw [QfQ]; exact hwl),(by rw [QlI _ _ _ _ (by omega)]; exact hwm),hW2,hwA2,hKQ2,x14⟩ (by show nt.n.ms.length-(j+1)<nt.n.ms.length-j; omega)
      ·skip
       have heq131:j=nt.n.ms.length:=by have:=of_decide_eq_false c44; omega
       refine wp_exit ?_
       refine hK37 _ _ ?_
       refine Qab ?_
       refine Qaa (.int .i64 ((i+1:Nat):Int)) 141 rfl kj (Qai (u:=.int .i64 (IntKind.i64.wrap (((i:Nat):Int)+1))) kj (congrArg (Value.int .i64) (i64n _ _ (by omega) (by omega)))) ?_
       refine Qaa (.int .i64 ((i+1:Nat):Int)) 117 rfl kj kj ?_
       refine Qae ?_
       repeat (first | with_reducible refine goX1 ?_ | with_reducible refine goX2 ?_ | with_reducible refine goX3 ?_)
       exact Qaq ((i+1),ws) ⟨rfl,rfl,rfl,rfl,rfl,rfl,rfl,rfl,trivial⟩ ⟨(by omega),hwl,hW,hwA,hKQ,xx3⟩ (by show us.length-(i+1)<us.length-i; omega)
     ·skip
      have heq118:i=us.length:=by have:=of_decide_eq_false c36; omega
      have htr9:=TrAt.keepP htr0 hKP (hvr.mono fun g hg=>by omega)
      have hts9:=TrAt.keepP hts0 hKP (hvs.mono fun g hg=>by omega)
      refine wp_exit ?_
      refine hK32 _ _ ?_
      refine wp_seq_k fun K48 hK48=>?_
      refine wp_seq_k fun K49 hK49=>?_
      refine Qab ?_
      refine Qaa (.slice a_r rs.length c_r) 142 rfl kj kj ?_
      refine Qaa (.slice a_s ss.length c_s) 143 rfl kj kj ?_
      refine Qaj (.bool true) 15 #[.slice a_r rs.length c_r,.slice a_s ss.length c_s] 144 rfl kj kj (Qer true rs ss a_r a_s c_r c_s _ _ _ hrl6 hsl6 hrm6 hsm6 (TrAt.ext htr9 (Rely.Ext.refl V2)) (TrAt.ext hts9 (Rely.Ext.refl V2)) (Qhy hrs hss)) fun W12 e12=>?_
      have x12:Ext w W12:=Ext.tr xx2 e12
      refine Qaa (.bool false) 145 rfl kj kj ?_
      refine Qaa (.bool false) 146 rfl kj kj ?_
      refine Qaa (.slice a_r rs.length c_r) 147 rfl kj kj ?_
      have y11_12:Ext V2 W12:=(Rely.Ext.trans (Rely.Ext.refl V2) e12)
      refine Qaj (.bool true) 12 #[.slice a_r rs.length c_r] 148 rfl kj kj (Qcs rs a_r c_r _ _ (TrAt.ext htr9 y11_12) hrl5 hrm6 true hcr9) fun W13 e13=>?_
      have x13:Ext w W13:=Ext.tr x12 e13
      refine Qaa (.bool false) 149 rfl kj kj ?_
      refine Qaa (.bool false) 150 rfl kj kj ?_
      refine Qaa (.bool false) 151 rfl kj kj ?_
      refine Qaa (.slice a_r rs.length c_r) 152 rfl kj kj ?_
      have y11_13:Ext V2 W13:=(Rely.Ext.trans y11_12 e13)
      refine Qaj (.nilIface) 11 #[.slice a_r rs.length c_r] 153 rfl kj kj (Qb6 rs a_r c_r _ _ (TrAt.ext htr9 y11_13) hrl5 hrm6 (TabAt.ext hT x13) hcr9) fun W14 e14=>?_
      have x14:Ext w W14:=Ext.tr x13 e14
      refine Qaa (.bool false) 154 rfl kj kj ?_
      refine Qaa (.bool false) 155 rfl kj kj ?_
      refine Qae ?_
      refine hK49 _ _ ?_
      refine cond_false kj ?_
      refine wp_skip ?_
      refine hK48 _ _ ?_
      refine Qab ?_
      refine Qaa (.slice a_s ss.length c_s) 156 rfl kj kj ?_
      refine Qaa (.slice a_s ss.length c_s) 0 rfl kj kj ?_
      refine Qae ?_
      have y11_14:Ext V2 W14:=(Rely.Ext.trans y11_13 e14)
      refine hK13 _ _ ?_
      refine Qab ?_
      refine Qaa (.int .i64 ((ci+1:Nat):Int)) 157 rfl kj (Qai (u:=.int .i64 (IntKind.i64.wrap (((ci:Nat):Int)+1))) kj (congrArg (Value.int .i64) (i64n _ _ (by omega) (by omega)))) ?_
      refine Qaa (.int .i64 ((ci+1:Nat):Int)) 27 rfl kj kj ?_
      refine Qae ?_
      repeat (first | with_reducible refine goX1 ?_ | with_reducible refine goX2 ?_ | with_reducible refine goX3 ?_)
      exact Qaq ((ci+1),ss,a_s,c_s) ⟨rfl,rfl,rfl,rfl,trivial⟩ ⟨(by omega),(show ss.length≤71 by omega),(fun i hi=>qT (hsm i hi) (by decide)),(TrAt.ext hts9 y11_14).here,x14⟩ (by show chs.length-(ci+1)<chs.length-ci; omega)
    clear hK25
    refine wp_seq_k fun K50 hK50=>?_
    refine Qab ?_
    refine Qaa (.pointer (some ⟨g15,0,none⟩)) 38 rfl kj kj ?_
    have r15_6:=(Qah r15_5 e6)
    refine Qaa (.int .i64 ch.k) 39 rfl kj (Qag 3 _ g15 0 51 _ (.int .i64 ch.k) _ r15_6 rfl kj (Qal [] [#[.int .i64 ch.k]] [#[.int .i64 ch.i],#[.bool ch.nd.n.us],#[.int .i64 ch.nd.n.nm],ints .u8 (ch.nd.n.key),ints .u8 (ch.nd.n.sg),ints .u8 (ch.nd.n.pa),#[.slice ch.nd.a ch.nd.n.ms.length ch.nd.c]] 0 kj 0 _ rfl) kj) ?_
    refine Qae ?_
    refine hK50 _ _ ?_
    refine wp_block ?_
    refine wp_seq_k fun K51 hK51=>?_
    rcases Qiy ts htl71 hm50 ch hok hml with ⟨hk,bb,hb,hN⟩ | ⟨hk,m,R,hcR,hY⟩ | ⟨hk,bb,hb,hN⟩ | ⟨hk,R,hcR,hY⟩ | ⟨hk,bb,hb,hN⟩ | ⟨hk,R,hcR,hY⟩
    ·skip
     refine Qab ?_
     refine Qaa (.bool true) 55 rfl kj (Qai (u:=.bool ((ch.k==0))) kj (congrArg Value.bool (beq_iff_eq.2 hk))) ?_
     refine Qaa (.bool true) 54 rfl kj kj ?_
     refine Qae ?_
     refine hK51 _ _ ?_
     refine cond_true kj ?_
     refine wp_seq_k fun K52 hK52=>?_
     refine Qab ?_
     refine Qaa (.slice aD us.length cD) 57 rfl kj kj ?_
     refine Qaa (.pointer (some ⟨g15,2,none⟩)) 58 rfl kj kj ?_
     refine Qaa (.agg (cat [#[.bool ch.nd.n.us],#[.int .i64 ch.nd.n.nm],ints .u8 (ch.nd.n.key),ints .u8 (ch.nd.n.sg),ints .u8 (ch.nd.n.pa),#[.slice ch.nd.a ch.nd.n.ms.length ch.nd.c]])) 59 rfl kj (Qap 41 _ g15 2 51 _ _ _ r15_6 rfl kj (Qal [#[.int .i64 ch.k],#[.int .i64 ch.i]] [#[.bool ch.nd.n.us],#[.int .i64 ch.nd.n.nm],ints .u8 (ch.nd.n.key),ints .u8 (ch.nd.n.sg),ints .u8 (ch.nd.n.pa),#[.slice ch.nd.a ch.nd.n.ms.length ch.nd.c]] [] 2 kj) kj (isz (n:=99) kj (by rw [Qac,Qac,Qac,Qac,Qac,Qac]; simp only [qS,cat,((Qaf _ _).trans hok.gl),((Qaf _ _).trans hok.kl),((Qaf _ _).trans hok.pl)]; rfl))) ?_
     have y3_6:Ext V1 W6:=(Rely.Ext.trans y3_5 e6)
     refine Qaj (.tuple #[.slice none 0 0,.int .i64 0,.iface 30 (.int .i64 bb)]) 25 #[.slice aD us.length cD,.agg (cat [#[.bool ch.nd.n.us],#[.int .i64 ch.nd.n.nm],ints .u8 (ch.nd.n.key),ints .u8 (ch.nd.n.sg),ints .u8 (ch.nd.n.pa),#[.slice ch.nd.a ch.nd.n.ms.length ch.nd.c]])] 60 rfl kj kj (hN.1 us aD cD _ _ has (TrAt.ext hU.tr (Rely.Ext.refl W6)) (TabAt.ext hT x6) ⟨⟨_,RdK.ext hcr y3_6⟩⟩) fun W7 e7=>?_
     have x7:Ext w W7:=Ext.tr x6 e7
     refine Qaa (.tuple #[.slice none 0 0,.int .i64 0,.iface 30 (.int .i64 bb)]) 56 rfl kj kj ?_
     refine Qaa (.slice none 0 0) 61 rfl kj kj ?_
     refine Qaa (.int .i64 0) 62 rfl kj kj ?_
     refine Qaa (.iface 30 (.int .i64 bb)) 63 rfl kj kj ?_
     refine Qaa (.slice none 0 0) 8 rfl kj kj ?_
     refine Qaa (.int .i64 0) 12 rfl kj kj ?_
     refine Qaa (.iface 30 (.int .i64 bb)) 10 rfl kj kj ?_
     refine Qae ?_
     refine hK52 _ _ ?_
     refine Qab ?_
     refine Qaa (.slice a_t ts.length c_t) 65 rfl kj kj ?_
     refine Qaa (.pointer (some ⟨g15,2,none⟩)) 66 rfl kj kj ?_
     have r15_7:=(Qah r15_6 e7)
     refine Qaa (.agg (cat [#[.bool ch.nd.n.us],#[.int .i64 ch.nd.n.nm],ints .u8 (ch.nd.n.key),ints .u8 (ch.nd.n.sg),ints .u8 (ch.nd.n.pa),#[.slice ch.nd.a ch.nd.n.ms.length ch.nd.c]])) 67 rfl kj (Qap 41 _ g15 2 51 _ _ _ r15_7 rfl kj (Qal [#[.int .i64 ch.k],#[.int .i64 ch.i]] [#[.bool ch.nd.n.us],#[.int .i64 ch.nd.n.nm],ints .u8 (ch.nd.n.key),ints .u8 (ch.nd.n.sg),ints .u8 (ch.nd.n.pa),#[.slice ch.nd.a ch.nd.n.ms.length ch.nd.c]] [] 2 kj) kj (isz (n:=99) kj (by rw [Qac,Qac,Qac,Qac,Qac,Qac]; simp only [qS,cat,((Qaf _ _).trans hok.gl),((Qaf _ _).trans hok.kl),((Qaf _ _).trans hok.pl)]; rfl))) ?_
     have y3_7:Ext V1 W7:=(Rely.Ext.trans y3_6 e7)
     refine Qaj (.tuple #[.slice none 0 0,.int .i64 0,.int .i64 bb]) 26 #[.slice a_t ts.length c_t,.agg (cat [#[.bool ch.nd.n.us],#[.int .i64 ch.nd.n.nm],ints .u8 (ch.nd.n.key),ints .u8 (ch.nd.n.sg),ints .u8 (ch.nd.n.pa),#[.slice ch.nd.a ch.nd.n.ms.length ch.nd.c]])] 68 rfl kj kj (hN.2 a_t c_t _ _ (TrAt.ext ht y3_7) ⟨⟨_,RdK.ext hcr y3_7⟩⟩) fun W8 e8=>?_
     have x8:Ext w W8:=Ext.tr x7 e8
     refine Qaa (.tuple #[.slice none 0 0,.int .i64 0,.int .i64 bb]) 64 rfl kj kj ?_
     refine Qaa (.slice none 0 0) 69 rfl kj kj ?_
     refine Qaa (.int .i64 0) 70 rfl kj kj ?_
     refine Qaa (.int .i64 bb) 71 rfl kj kj ?_
     refine Qaa (.slice none 0 0) 9 rfl kj kj ?_
     refine Qaa (.int .i64 0) 13 rfl kj kj ?_
     refine Qaa (.int .i64 bb) 11 rfl kj kj ?_
     refine Qae ?_
     have y6_7:Ext W6 W7:=(Rely.Ext.trans (Rely.Ext.refl W6) e7)
     have y6_8:Ext W6 W8:=(Rely.Ext.trans y6_7 e8)
     exact QcG (K:=K25) [(0,.slice a_t ts.length c_t),(25,.slice a_c chs.length c_c),(26,.int .i64 ((chs.length:Nat):Int)),(27,.int .i64 ((ci:Nat):Int)),(7,.slice aD us.length cD),(8,.slice none 0 0),(9,.slice none 0 0),(10,.iface 30 (.int .i64 bb)),(11,.int .i64 bb),(12,.int .i64 0),(13,.int .i64 0)] (hJN bb _ _ hb y6_8) ⟨rfl,rfl,rfl,rfl,rfl,rfl,rfl,rfl,rfl,rfl,rfl,trivial⟩
    ·skip
     refine Qab ?_
     refine Qaa (.bool true) 55 rfl kj (Qai (u:=.bool ((ch.k==0))) kj (congrArg Value.bool (beq_iff_eq.2 hk))) ?_
     refine Qaa (.bool true) 54 rfl kj kj ?_
     refine Qae ?_
     refine hK51 _ _ ?_
     refine cond_true kj ?_
     refine wp_seq_k fun K53 hK53=>?_
     refine Qab ?_
     refine Qaa (.slice aD us.length cD) 57 rfl kj kj ?_
     refine Qaa (.pointer (some ⟨g15,2,none⟩)) 58 rfl kj kj ?_
     refine Qaa (.agg (cat [#[.bool ch.nd.n.us],#[.int .i64 ch.nd.n.nm],ints .u8 (ch.nd.n.key),ints .u8 (ch.nd.n.sg),ints .u8 (ch.nd.n.pa),#[.slice ch.nd.a ch.nd.n.ms.length ch.nd.c]])) 59 rfl kj (Qap 41 _ g15 2 51 _ _ _ r15_6 rfl kj (Qal [#[.int .i64 ch.k],#[.int .i64 ch.i]] [#[.bool ch.nd.n.us],#[.int .i64 ch.nd.n.nm],ints .u8 (ch.nd.n.key),ints .u8 (ch.nd.n.sg),ints .u8 (ch.nd.n.pa),#[.slice ch.nd.a ch.nd.n.ms.length ch.nd.c]] [] 2 kj) kj (isz (n:=99) kj (by rw [Qac,Qac,Qac,Qac,Qac,Qac]; simp only [qS,cat,((Qaf _ _).trans hok.gl),((Qaf _ _).trans hok.kl),((Qaf _ _).trans hok.pl)]; rfl))) ?_
     have y3_6:Ext V1 W6:=(Rely.Ext.trans y3_5 e6)
     refine Qa0 (fun v W'=>(fun v W9=>∃ rs,AsC rs R∧∃ u,v=.tuple #[u,.int .i64 ((m:Nat):Int),.nilIface]∧FrT W6.heap.size rs u W9) v W'∧Ext W6 W') 25 #[.slice aD us.length cD,.agg (cat [#[.bool ch.nd.n.us],#[.int .i64 ch.nd.n.nm],ints .u8 (ch.nd.n.key),ints .u8 (ch.nd.n.sg),ints .u8 (ch.nd.n.pa),#[.slice ch.nd.a ch.nd.n.ms.length ch.nd.c]])] 60 rfl kj kj ((hY.1 us aD cD _ W6 has (TrAt.ext hU.tr (Rely.Ext.refl W6)) (TabAt.ext hT x6) ⟨⟨_,RdK.ext hcr y3_6⟩⟩).mono (by rintro e w' ⟨v,rfl,e1,hv⟩; exact ⟨v,rfl,hv,e1⟩)) fun vv54 W7 hh54=>?_
     obtain ⟨hv54,e7⟩:=hh54
     have x7:Ext w W7:=Ext.tr x6 e7
     obtain ⟨rs,hrs,ur,rfl,hfr⟩:=hv54
     obtain ⟨a_r,c_r,rfl,htr,hvr0⟩:=FrT.parts hfr
     have hvr:AvT (fun g=>W6.heap.size≤g) a_r rs:=hvr0.mono fun g hg=>qT (qR _) hg
     refine Qaa (.tuple #[.slice a_r rs.length c_r,.int .i64 ((m:Nat):Int),.nilIface]) 56 rfl kj kj ?_
     refine Qaa (.slice a_r rs.length c_r) 61 rfl kj kj ?_
     refine Qaa (.int .i64 ((m:Nat):Int)) 62 rfl kj kj ?_
     refine Qaa (.nilIface) 63 rfl kj kj ?_
     refine Qaa (.slice a_r rs.length c_r) 8 rfl kj kj ?_
     refine Qaa (.int .i64 ((m:Nat):Int)) 12 rfl kj kj ?_
     refine Qaa (.nilIface) 10 rfl kj kj ?_
     refine Qae ?_
     refine hK53 _ _ ?_
     refine Qab ?_
     refine Qaa (.slice a_t ts.length c_t) 65 rfl kj kj ?_
     refine Qaa (.pointer (some ⟨g15,2,none⟩)) 66 rfl kj kj ?_
     have r15_7:=(Qah r15_6 e7)
     refine Qaa (.agg (cat [#[.bool ch.nd.n.us],#[.int .i64 ch.nd.n.nm],ints .u8 (ch.nd.n.key),ints .u8 (ch.nd.n.sg),ints .u8 (ch.nd.n.pa),#[.slice ch.nd.a ch.nd.n.ms.length ch.nd.c]])) 67 rfl kj (Qap 41 _ g15 2 51 _ _ _ r15_7 rfl kj (Qal [#[.int .i64 ch.k],#[.int .i64 ch.i]] [#[.bool ch.nd.n.us],#[.int .i64 ch.nd.n.nm],ints .u8 (ch.nd.n.key),ints .u8 (ch.nd.n.sg),ints .u8 (ch.nd.n.pa),#[.slice ch.nd.a ch.nd.n.ms.length ch.nd.c]] [] 2 kj) kj (isz (n:=99) kj (by rw [Qac,Qac,Qac,Qac,Qac,Qac]; simp only [qS,cat,((Qaf _ _).trans hok.gl),((Qaf _ _).trans hok.kl),((Qaf _ _).trans hok.pl)]; rfl))) ?_
     have y3_7:Ext V1 W7:=(Rely.Ext.trans y3_6 e7)
     refine Qa0 (fun v W'=>(fun v W9=>∃ ss,AsC ss R∧∃ u,v=.tuple #[u,.int .i64 ((m:Nat):Int),.int .i64 0]∧FrT W7.heap.size ss u W9) v W'∧Ext W7 W') 26 #[.slice a_t ts.length c_t,.agg (cat [#[.bool ch.nd.n.us],#[.int .i64 ch.nd.n.nm],ints .u8 (ch.nd.n.key),ints .u8 (ch.nd.n.sg),ints .u8 (ch.nd.n.pa),#[.slice ch.nd.a ch.nd.n.ms.length ch.nd.c]])] 68 rfl kj kj ((hY.2 a_t c_t _ W7 (TrAt.ext ht y3_7) ⟨⟨_,RdK.ext hcr y3_7⟩⟩).mono (by rintro e w' ⟨v,rfl,e1,hv⟩; exact ⟨v,rfl,hv,e1⟩)) fun vv55 W8 hh55=>?_
     obtain ⟨hv55,e8⟩:=hh55
     have x8:Ext w W8:=Ext.tr x7 e8
     obtain ⟨ss,hss,us,rfl,hfs⟩:=hv55
     obtain ⟨a_s,c_s,rfl,hts,hvs0⟩:=FrT.parts hfs
     have hvs:AvT (fun g=>W6.heap.size≤g) a_s ss:=hvs0.mono fun g hg=>qT (qT (qR _) e7.size) hg
     refine Qaa (.tuple #[.slice a_s ss.length c_s,.int .i64 ((m:Nat):Int),.int .i64 0]) 64 rfl kj kj ?_
     refine Qaa (.slice a_s ss.length c_s) 69 rfl kj kj ?_
     refine Qaa (.int .i64 ((m:Nat):Int)) 70 rfl kj kj ?_
     refine Qaa (.int .i64 0) 71 rfl kj kj ?_
     refine Qaa (.slice a_s ss.length c_s) 9 rfl kj kj ?_
     refine Qaa (.int .i64 ((m:Nat):Int)) 13 rfl kj kj ?_
     refine Qaa (.int .i64 0) 11 rfl kj kj ?_
     refine Qae ?_
     have y6_7:Ext W6 W7:=(Rely.Ext.trans (Rely.Ext.refl W6) e7)
     have y6_8:Ext W6 W8:=(Rely.Ext.trans y6_7 e8)
     obtain ⟨hrl,hrm,-⟩:=Qcn hrs hcR 
     obtain ⟨hsl,hsm,-⟩:=Qcn hss hcR 
     have y7_8:Ext W7 W8:=(Rely.Ext.trans (Rely.Ext.refl W7) e8)
     exact QcG (K:=K25) [(0,.slice a_t ts.length c_t),(25,.slice a_c chs.length c_c),(26,.int .i64 ((chs.length:Nat):Int)),(27,.int .i64 ((ci:Nat):Int)),(7,.slice aD us.length cD),(8,.slice a_r rs.length c_r),(9,.slice a_s ss.length c_s),(10,.nilIface),(11,.int .i64 0),(12,.int .i64 ((m:Nat):Int)),(13,.int .i64 ((m:Nat):Int))] (hJY m R rs ss a_r a_s c_r c_s _ _ hcR hrs hss hrl hsl hrm hsm (TrAt.ext htr y7_8).here hvr (TrAt.ext hts (Rely.Ext.refl W8)).here hvs y6_8) ⟨rfl,rfl,rfl,rfl,rfl,rfl,rfl,rfl,rfl,rfl,rfl,trivial⟩
    ·skip
     refine Qab ?_
     refine Qaa (.bool false) 55 rfl kj (Qai (u:=.bool ((ch.k==0))) kj (congrArg Value.bool (beq_eq_false_iff_ne.2 (by omega)))) ?_
     refine Qaa (.bool false) 54 rfl kj kj ?_
     refine Qae ?_
     refine hK51 _ _ ?_
     refine cond_false kj ?_
     refine wp_seq_k fun K56 hK56=>?_
     refine Qab ?_
     refine Qaa (.bool true) 73 rfl kj (Qai (u:=.bool ((ch.k==1))) kj (congrArg Value.bool (beq_iff_eq.2 hk))) ?_
     refine Qaa (.bool true) 72 rfl kj kj ?_
     refine Qae ?_
     refine hK56 _ _ ?_
     refine cond_true kj ?_
     refine wp_seq_k fun K57 hK57=>?_
     refine Qab ?_
     refine Qaa (.slice aD us.length cD) 75 rfl kj kj ?_
     refine Qaa (.pointer (some ⟨g15,1,none⟩)) 76 rfl kj kj ?_
     refine Qaa (.int .i64 ch.i) 77 rfl kj (Qag 3 _ g15 1 51 _ (.int .i64 ch.i) _ r15_6 rfl kj (Qal [#[.int .i64 ch.k]] [#[.int .i64 ch.i]] [#[.bool ch.nd.n.us],#[.int .i64 ch.nd.n.nm],ints .u8 (ch.nd.n.key),ints .u8 (ch.nd.n.sg),ints .u8 (ch.nd.n.pa),#[.slice ch.nd.a ch.nd.n.ms.length ch.nd.c]] 1 kj 0 _ rfl) kj) ?_
     refine Qaa (.pointer (some ⟨g15,2,none⟩)) 78 rfl kj kj ?_
     refine Qaa (.agg (cat [#[.bool ch.nd.n.us],#[.int .i64 ch.nd.n.nm],ints .u8 (ch.nd.n.key),ints .u8 (ch.nd.n.sg),ints .u8 (ch.nd.n.pa),#[.slice ch.nd.a ch.nd.n.ms.length ch.nd.c]])) 79 rfl kj (Qap 41 _ g15 2 51 _ _ _ r15_6 rfl kj (Qal [#[.int .i64 ch.k],#[.int .i64 ch.i]] [#[.bool ch.nd.n.us],#[.int .i64 ch.nd.n.nm],ints .u8 (ch.nd.n.key),ints .u8 (ch.nd.n.sg),ints .u8 (ch.nd.n.pa),#[.slice ch.nd.a ch.nd.n.ms.length ch.nd.c]] [] 2 kj) kj (isz (n:=99) kj (by rw [Qac,Qac,Qac,Qac,Qac,Qac]; simp only [qS,cat,((Qaf _ _).trans hok.gl),((Qaf _ _).trans hok.kl),((Qaf _ _).trans hok.pl)]; rfl))) ?_
     have y3_6:Ext V1 W6:=(Rely.Ext.trans y3_5 e6)
     refine Qaj (.tuple #[.slice none 0 0,.iface 30 (.int .i64 bb)]) 27 #[.slice aD us.length cD,.int .i64 ch.i,.agg (cat [#[.bool ch.nd.n.us],#[.int .i64 ch.nd.n.nm],ints .u8 (ch.nd.n.key),ints .u8 (ch.nd.n.sg),ints .u8 (ch.nd.n.pa),#[.slice ch.nd.a ch.nd.n.ms.length ch.nd.c]])] 80 rfl kj kj (hN.1 us aD cD _ _ has (TrAt.ext hU.tr (Rely.Ext.refl W6)) (TabAt.ext hT x6) ⟨⟨_,RdK.ext hcr y3_6⟩⟩) fun W7 e7=>?_
     have x7:Ext w W7:=Ext.tr x6 e7
     refine Qaa (.tuple #[.slice none 0 0,.iface 30 (.int .i64 bb)]) 74 rfl kj kj ?_
     refine Qaa (.slice none 0 0) 81 rfl kj kj ?_
     refine Qaa (.iface 30 (.int .i64 bb)) 82 rfl kj kj ?_
     refine Qaa (.slice none 0 0) 8 rfl kj kj ?_
     refine Qaa (.iface 30 (.int .i64 bb)) 10 rfl kj kj ?_
     refine Qae ?_
     refine hK57 _ _ ?_
     refine Qab ?_
     refine Qaa (.slice a_t ts.length c_t) 84 rfl kj kj ?_
     refine Qaa (.pointer (some ⟨g15,1,none⟩)) 85 rfl kj kj ?_
     have r15_7:=(Qah r15_6 e7)
     refine Qaa (.int .i64 ch.i) 86 rfl kj (Qag 3 _ g15 1 51 _ (.int .i64 ch.i) _ r15_7 rfl kj (Qal [#[.int .i64 ch.k]] [#[.int .i64 ch.i]] [#[.bool ch.nd.n.us],#[.int .i64 ch.nd.n.nm],ints .u8 (ch.nd.n.key),ints .u8 (ch.nd.n.sg),ints .u8 (ch.nd.n.pa),#[.slice ch.nd.a ch.nd.n.ms.length ch.nd.c]] 1 kj 0 _ rfl) kj) ?_
     refine Qaa (.pointer (some ⟨g15,2,none⟩)) 87 rfl kj kj ?_
     refine Qaa (.agg (cat [#[.bool ch.nd.n.us],#[.int .i64 ch.nd.n.nm],ints .u8 (ch.nd.n.key),ints .u8 (ch.nd.n.sg),ints .u8 (ch.nd.n.pa),#[.slice ch.nd.a ch.nd.n.ms.length ch.nd.c]])) 88 rfl kj (Qap 41 _ g15 2 51 _ _ _ r15_7 rfl kj (Qal [#[.int .i64 ch.k],#[.int .i64 ch.i]] [#[.bool ch.nd.n.us],#[.int .i64 ch.nd.n.nm],ints .u8 (ch.nd.n.key),ints .u8 (ch.nd.n.sg),ints .u8 (ch.nd.n.pa),#[.slice ch.nd.a ch.nd.n.ms.length ch.nd.c]] [] 2 kj) kj (isz (n:=99) kj (by rw [Qac,Qac,Qac,Qac,Qac,Qac]; simp only [qS,cat,((Qaf _ _).trans hok.gl),((Qaf _ _).trans hok.kl),((Qaf _ _).trans hok.pl)]; rfl))) ?_
     have y3_7:Ext V1 W7:=(Rely.Ext.trans y3_6 e7)
     refine Qaj (.tuple #[.slice none 0 0,.int .i64 bb]) 28 #[.slice a_t ts.length c_t,.int .i64 ch.i,.agg (cat [#[.bool ch.nd.n.us],#[.int .i64 ch.nd.n.nm],ints .u8 (ch.nd.n.key),ints .u8 (ch.nd.n.sg),ints .u8 (ch.nd.n.pa),#[.slice ch.nd.a ch.nd.n.ms.length ch.nd.c]])] 89 rfl kj kj (hN.2 a_t c_t _ _ (TrAt.ext ht y3_7) ⟨⟨_,RdK.ext hcr y3_7⟩⟩) fun W8 e8=>?_
     have x8:Ext w W8:=Ext.tr x7 e8
     refine Qaa (.tuple #[.slice none 0 0,.int .i64 bb]) 83 rfl kj kj ?_
     refine Qaa (.slice none 0 0) 90 rfl kj kj ?_
     refine Qaa (.int .i64 bb) 91 rfl kj kj ?_
     refine Qaa (.slice none 0 0) 9 rfl kj kj ?_
     refine Qaa (.int .i64 bb) 11 rfl kj kj ?_
     refine Qae ?_
     have y6_7:Ext W6 W7:=(Rely.Ext.trans (Rely.Ext.refl W6) e7)
     have y6_8:Ext W6 W8:=(Rely.Ext.trans y6_7 e8)
     exact QcG (K:=K25) [(0,.slice a_t ts.length c_t),(25,.slice a_c chs.length c_c),(26,.int .i64 ((chs.length:Nat):Int)),(27,.int .i64 ((ci:Nat):Int)),(7,.slice aD us.length cD),(8,.slice none 0 0),(9,.slice none 0 0),(10,.iface 30 (.int .i64 bb)),(11,.int .i64 bb),(12,.int .i64 0),(13,.int .i64 0)] (hJN bb _ _ hb y6_8) ⟨rfl,rfl,rfl,rfl,rfl,rfl,rfl,rfl,rfl,rfl,rfl,trivial⟩
    ·skip
     refine Qab ?_
     refine Qaa (.bool false) 55 rfl kj (Qai (u:=.bool ((ch.k==0))) kj (congrArg Value.bool (beq_eq_false_iff_ne.2 (by omega)))) ?_
     refine Qaa (.bool false) 54 rfl kj kj ?_
     refine Qae ?_
     refine hK51 _ _ ?_
     refine cond_false kj ?_
     refine wp_seq_k fun K58 hK58=>?_
     refine Qab ?_
     refine Qaa (.bool true) 73 rfl kj (Qai (u:=.bool ((ch.k==1))) kj (congrArg Value.bool (beq_iff_eq.2 hk))) ?_
     refine Qaa (.bool true) 72 rfl kj kj ?_
     refine Qae ?_
     refine hK58 _ _ ?_
     refine cond_true kj ?_
     refine wp_seq_k fun K59 hK59=>?_
     refine Qab ?_
     refine Qaa (.slice aD us.length cD) 75 rfl kj kj ?_
     refine Qaa (.pointer (some ⟨g15,1,none⟩)) 76 rfl kj kj ?_
     refine Qaa (.int .i64 ch.i) 77 rfl kj (Qag 3 _ g15 1 51 _ (.int .i64 ch.i) _ r15_6 rfl kj (Qal [#[.int .i64 ch.k]] [#[.int .i64 ch.i]] [#[.bool ch.nd.n.us],#[.int .i64 ch.nd.n.nm],ints .u8 (ch.nd.n.key),ints .u8 (ch.nd.n.sg),ints .u8 (ch.nd.n.pa),#[.slice ch.nd.a ch.nd.n.ms.length ch.nd.c]] 1 kj 0 _ rfl) kj) ?_
     refine Qaa (.pointer (some ⟨g15,2,none⟩)) 78 rfl kj kj ?_
     refine Qaa (.agg (cat [#[.bool ch.nd.n.us],#[.int .i64 ch.nd.n.nm],ints .u8 (ch.nd.n.key),ints .u8 (ch.nd.n.sg),ints .u8 (ch.nd.n.pa),#[.slice ch.nd.a ch.nd.n.ms.length ch.nd.c]])) 79 rfl kj (Qap 41 _ g15 2 51 _ _ _ r15_6 rfl kj (Qal [#[.int .i64 ch.k],#[.int .i64 ch.i]] [#[.bool ch.nd.n.us],#[.int .i64 ch.nd.n.nm],ints .u8 (ch.nd.n.key),ints .u8 (ch.nd.n.sg),ints .u8 (ch.nd.n.pa),#[.slice ch.nd.a ch.nd.n.ms.length ch.nd.c]] [] 2 kj) kj (isz (n:=99) kj (by rw [Qac,Qac,Qac,Qac,Qac,Qac]; simp only [qS,cat,((Qaf _ _).trans hok.gl),((Qaf _ _).trans hok.kl),((Qaf _ _).trans hok.pl)]; rfl))) ?_
     have y3_6:Ext V1 W6:=(Rely.Ext.trans y3_5 e6)
     refine Qa0 (fun v W'=>(fun v W9=>∃ rs,AsC rs R∧∃ u,v=.tuple #[u,.nilIface]∧FrT W6.heap.size rs u W9) v W'∧Ext W6 W') 27 #[.slice aD us.length cD,.int .i64 ch.i,.agg (cat [#[.bool ch.nd.n.us],#[.int .i64 ch.nd.n.nm],ints .u8 (ch.nd.n.key),ints .u8 (ch.nd.n.sg),ints .u8 (ch.nd.n.pa),#[.slice ch.nd.a ch.nd.n.ms.length ch.nd.c]])] 80 rfl kj kj ((hY.1 us aD cD _ W6 has (TrAt.ext hU.tr (Rely.Ext.refl W6)) (TabAt.ext hT x6) ⟨⟨_,RdK.ext hcr y3_6⟩⟩).mono (by rintro e w' ⟨v,rfl,e1,hv⟩; exact ⟨v,rfl,hv,e1⟩)) fun vv60 W7 hh60=>?_
     obtain ⟨hv60,e7⟩:=hh60
     have x7:Ext w W7:=Ext.tr x6 e7
     obtain ⟨rs,hrs,ur,rfl,hfr⟩:=hv60
     obtain ⟨a_r,c_r,rfl,htr,hvr0⟩:=FrT.parts hfr
     have hvr:AvT (fun g=>W6.heap.size≤g) a_r rs:=hvr0.mono fun g hg=>qT (qR _) hg
     refine Qaa (.tuple #[.slice a_r rs.length c_r,.nilIface]) 74 rfl kj kj ?_
     refine Qaa (.slice a_r rs.length c_r) 81 rfl kj kj ?_
     refine Qaa (.nilIface) 82 rfl kj kj ?_
     refine Qaa (.slice a_r rs.length c_r) 8 rfl kj kj ?_
     refine Qaa (.nilIface) 10 rfl kj kj ?_
     refine Qae ?_
     refine hK59 _ _ ?_
     refine Qab ?_
     refine Qaa (.slice a_t ts.length c_t) 84 rfl kj kj ?_
     refine Qaa (.pointer (some ⟨g15,1,none⟩)) 85 rfl kj kj ?_
     have r15_7:=(Qah r15_6 e7)
     refine Qaa (.int .i64 ch.i) 86 rfl kj (Qag 3 _ g15 1 51 _ (.int .i64 ch.i) _ r15_7 rfl kj (Qal [#[.int .i64 ch.k]] [#[.int .i64 ch.i]] [#[.bool ch.nd.n.us],#[.int .i64 ch.nd.n.nm],ints .u8 (ch.nd.n.key),ints .u8 (ch.nd.n.sg),ints .u8 (ch.nd.n.pa),#[.slice ch.nd.a ch.nd.n.ms.length ch.nd.c]] 1 kj 0 _ rfl) kj) ?_
     refine Qaa (.pointer (some ⟨g15,2,none⟩)) 87 rfl kj kj ?_
     refine Qaa (.agg (cat [#[.bool ch.nd.n.us],#[.int .i64 ch.nd.n.nm],ints .u8 (ch.nd.n.key),ints .u8 (ch.nd.n.sg),ints .u8 (ch.nd.n.pa),#[.slice ch.nd.a ch.nd.n.ms.length ch.nd.c]])) 88 rfl kj (Qap 41 _ g15 2 51 _ _ _ r15_7 rfl kj (Qal [#[.int .i64 ch.k],#[.int .i64 ch.i]] [#[.bool ch.nd.n.us],#[.int .i64 ch.nd.n.nm],ints .u8 (ch.nd.n.key),ints .u8 (ch.nd.n.sg),ints .u8 (ch.nd.n.pa),#[.slice ch.nd.a ch.nd.n.ms.length ch.nd.c]] [] 2 kj) kj (isz (n:=99) kj (by rw [Qac,Qac,Qac,Qac,Qac,Qac]; simp only [qS,cat,((Qaf _ _).trans hok.gl),((Qaf _ _).trans hok.kl),((Qaf _ _).trans hok.pl)]; rfl))) ?_
     have y3_7:Ext V1 W7:=(Rely.Ext.trans y3_6 e7)
     refine Qa0 (fun v W'=>(fun v W9=>∃ ss,AsC ss R∧∃ u,v=.tuple #[u,.int .i64 0]∧FrT W7.heap.size ss u W9) v W'∧Ext W7 W') 28 #[.slice a_t ts.length c_t,.int .i64 ch.i,.agg (cat [#[.bool ch.nd.n.us],#[.int .i64 ch.nd.n.nm],ints .u8 (ch.nd.n.key),ints .u8 (ch.nd.n.sg),ints .u8 (ch.nd.n.pa),#[.slice ch.nd.a ch.nd.n.ms.length ch.nd.c]])] 89 rfl kj kj ((hY.2 a_t c_t _ W7 (TrAt.ext ht y3_7) ⟨⟨_,RdK.ext hcr y3_7⟩⟩).mono (by rintro e w' ⟨v,rfl,e1,hv⟩; exact ⟨v,rfl,hv,e1⟩)) fun vv61 W8 hh61=>?_
     obtain ⟨hv61,e8⟩:=hh61
     have x8:Ext w W8:=Ext.tr x7 e8
     obtain ⟨ss,hss,us,rfl,hfs⟩:=hv61
     obtain ⟨a_s,c_s,rfl,hts,hvs0⟩:=FrT.parts hfs
     have hvs:AvT (fun g=>W6.heap.size≤g) a_s ss:=hvs0.mono fun g hg=>qT (qT (qR _) e7.size) hg
     refine Qaa (.tuple #[.slice a_s ss.length c_s,.int .i64 0]) 83 rfl kj kj ?_
     refine Qaa (.slice a_s ss.length c_s) 90 rfl kj kj ?_
     refine Qaa (.int .i64 0) 91 rfl kj kj ?_
     refine Qaa (.slice a_s ss.length c_s) 9 rfl kj kj ?_
     refine Qaa (.int .i64 0) 11 rfl kj kj ?_
     refine Qae ?_
     have y6_7:Ext W6 W7:=(Rely.Ext.trans (Rely.Ext.refl W6) e7)
     have y6_8:Ext W6 W8:=(Rely.Ext.trans y6_7 e8)
     obtain ⟨hrl,hrm,-⟩:=Qcn hrs hcR 
     obtain ⟨hsl,hsm,-⟩:=Qcn hss hcR 
     have y7_8:Ext W7 W8:=(Rely.Ext.trans (Rely.Ext.refl W7) e8)
     exact QcG (K:=K25) [(0,.slice a_t ts.length c_t),(25,.slice a_c chs.length c_c),(26,.int .i64 ((chs.length:Nat):Int)),(27,.int .i64 ((ci:Nat):Int)),(7,.slice aD us.length cD),(8,.slice a_r rs.length c_r),(9,.slice a_s ss.length c_s),(10,.nilIface),(11,.int .i64 0),(12,.int .i64 ((0:Nat):Int)),(13,.int .i64 ((0:Nat):Int))] (hJY 0 R rs ss a_r a_s c_r c_s _ _ hcR hrs hss hrl hsl hrm hsm (TrAt.ext htr y7_8).here hvr (TrAt.ext hts (Rely.Ext.refl W8)).here hvs y6_8) ⟨rfl,rfl,rfl,rfl,rfl,rfl,rfl,rfl,rfl,rfl,rfl,trivial⟩
    ·skip
     refine Qab ?_
     refine Qaa (.bool false) 55 rfl kj (Qai (u:=.bool ((ch.k==0))) kj (congrArg Value.bool (beq_eq_false_iff_ne.2 (by omega)))) ?_
     refine Qaa (.bool false) 54 rfl kj kj ?_
     refine Qae ?_
     refine hK51 _ _ ?_
     refine cond_false kj ?_
     refine wp_seq_k fun K62 hK62=>?_
     refine Qab ?_
     refine Qaa (.bool false) 73 rfl kj (Qai (u:=.bool ((ch.k==1))) kj (congrArg Value.bool (beq_eq_false_iff_ne.2 (by omega)))) ?_
     refine Qaa (.bool false) 72 rfl kj kj ?_
     refine Qae ?_
     refine hK62 _ _ ?_
     refine cond_false kj ?_
     refine wp_seq_k fun K63 hK63=>?_
     refine Qab ?_
     refine Qaa (.slice aD us.length cD) 41 rfl kj kj ?_
     refine Qaa (.pointer (some ⟨g15,1,none⟩)) 42 rfl kj kj ?_
     refine Qaa (.int .i64 ch.i) 43 rfl kj (Qag 3 _ g15 1 51 _ (.int .i64 ch.i) _ r15_6 rfl kj (Qal [#[.int .i64 ch.k]] [#[.int .i64 ch.i]] [#[.bool ch.nd.n.us],#[.int .i64 ch.nd.n.nm],ints .u8 (ch.nd.n.key),ints .u8 (ch.nd.n.sg),ints .u8 (ch.nd.n.pa),#[.slice ch.nd.a ch.nd.n.ms.length ch.nd.c]] 1 kj 0 _ rfl) kj) ?_
     refine Qaj (.tuple #[.slice none 0 0,.iface 30 (.int .i64 bb)]) 29 #[.slice aD us.length cD,.int .i64 ch.i] 44 rfl kj kj (hN.1 us aD cD _ _ has (TrAt.ext hU.tr (Rely.Ext.refl W6)) (TabAt.ext hT x6)) fun W7 e7=>?_
     have x7:Ext w W7:=Ext.tr x6 e7
     refine Qaa (.tuple #[.slice none 0 0,.iface 30 (.int .i64 bb)]) 40 rfl kj kj ?_
     refine Qaa (.slice none 0 0) 45 rfl kj kj ?_
     refine Qaa (.iface 30 (.int .i64 bb)) 46 rfl kj kj ?_
     refine Qaa (.slice none 0 0) 8 rfl kj kj ?_
     refine Qaa (.iface 30 (.int .i64 bb)) 10 rfl kj kj ?_
     refine Qae ?_
     refine hK63 _ _ ?_
     refine Qab ?_
     refine Qaa (.slice a_t ts.length c_t) 48 rfl kj kj ?_
     refine Qaa (.pointer (some ⟨g15,1,none⟩)) 49 rfl kj kj ?_
     have r15_7:=(Qah r15_6 e7)
     refine Qaa (.int .i64 ch.i) 50 rfl kj (Qag 3 _ g15 1 51 _ (.int .i64 ch.i) _ r15_7 rfl kj (Qal [#[.int .i64 ch.k]] [#[.int .i64 ch.i]] [#[.bool ch.nd.n.us],#[.int .i64 ch.nd.n.nm],ints .u8 (ch.nd.n.key),ints .u8 (ch.nd.n.sg),ints .u8 (ch.nd.n.pa),#[.slice ch.nd.a ch.nd.n.ms.length ch.nd.c]] 1 kj 0 _ rfl) kj) ?_
     have y3_6:Ext V1 W6:=(Rely.Ext.trans y3_5 e6)
     have y3_7:Ext V1 W7:=(Rely.Ext.trans y3_6 e7)
     refine Qaj (.tuple #[.slice none 0 0,.int .i64 bb]) 30 #[.slice a_t ts.length c_t,.int .i64 ch.i] 51 rfl kj kj (hN.2 a_t c_t _ _ (TrAt.ext ht y3_7)) fun W8 e8=>?_
     have x8:Ext w W8:=Ext.tr x7 e8
     refine Qaa (.tuple #[.slice none 0 0,.int .i64 bb]) 47 rfl kj kj ?_
     refine Qaa (.slice none 0 0) 52 rfl kj kj ?_
     refine Qaa (.int .i64 bb) 53 rfl kj kj ?_
     refine Qaa (.slice none 0 0) 9 rfl kj kj ?_
     refine Qaa (.int .i64 bb) 11 rfl kj kj ?_
     refine Qae ?_
     have y6_7:Ext W6 W7:=(Rely.Ext.trans (Rely.Ext.refl W6) e7)
     have y6_8:Ext W6 W8:=(Rely.Ext.trans y6_7 e8)
     exact QcG (K:=K25) [(0,.slice a_t ts.length c_t),(25,.slice a_c chs.length c_c),(26,.int .i64 ((chs.length:Nat):Int)),(27,.int .i64 ((ci:Nat):Int)),(7,.slice aD us.length cD),(8,.slice none 0 0),(9,.slice none 0 0),(10,.iface 30 (.int .i64 bb)),(11,.int .i64 bb),(12,.int .i64 0),(13,.int .i64 0)] (hJN bb _ _ hb y6_8) ⟨rfl,rfl,rfl,rfl,rfl,rfl,rfl,rfl,rfl,rfl,rfl,trivial⟩
    ·skip
     refine Qab ?_
     refine Qaa (.bool false) 55 rfl kj (Qai (u:=.bool ((ch.k==0))) kj (congrArg Value.bool (beq_eq_false_iff_ne.2 (by omega)))) ?_
     refine Qaa (.bool false) 54 rfl kj kj ?_
     refine Qae ?_
     refine hK51 _ _ ?_
     refine cond_false kj ?_
     refine wp_seq_k fun K64 hK64=>?_
     refine Qab ?_
     refine Qaa (.bool false) 73 rfl kj (Qai (u:=.bool ((ch.k==1))) kj (congrArg Value.bool (beq_eq_false_iff_ne.2 (by omega)))) ?_
     refine Qaa (.bool false) 72 rfl kj kj ?_
     refine Qae ?_
     refine hK64 _ _ ?_
     refine cond_false kj ?_
     refine wp_seq_k fun K65 hK65=>?_
     refine Qab ?_
     refine Qaa (.slice aD us.length cD) 41 rfl kj kj ?_
     refine Qaa (.pointer (some ⟨g15,1,none⟩)) 42 rfl kj kj ?_
     refine Qaa (.int .i64 ch.i) 43 rfl kj (Qag 3 _ g15 1 51 _ (.int .i64 ch.i) _ r15_6 rfl kj (Qal [#[.int .i64 ch.k]] [#[.int .i64 ch.i]] [#[.bool ch.nd.n.us],#[.int .i64 ch.nd.n.nm],ints .u8 (ch.nd.n.key),ints .u8 (ch.nd.n.sg),ints .u8 (ch.nd.n.pa),#[.slice ch.nd.a ch.nd.n.ms.length ch.nd.c]] 1 kj 0 _ rfl) kj) ?_
     refine Qa0 (fun v W'=>(fun v W9=>∃ rs,AsC rs R∧∃ u,v=.tuple #[u,.nilIface]∧FrT W6.heap.size rs u W9) v W'∧Ext W6 W') 29 #[.slice aD us.length cD,.int .i64 ch.i] 44 rfl kj kj ((hY.1 us aD cD _ W6 has (TrAt.ext hU.tr (Rely.Ext.refl W6)) (TabAt.ext hT x6)).mono (by rintro e w' ⟨v,rfl,e1,hv⟩; exact ⟨v,rfl,hv,e1⟩)) fun vv66 W7 hh66=>?_
     obtain ⟨hv66,e7⟩:=hh66
     have x7:Ext w W7:=Ext.tr x6 e7
     obtain ⟨rs,hrs,ur,rfl,hfr⟩:=hv66
     obtain ⟨a_r,c_r,rfl,htr,hvr0⟩:=FrT.parts hfr
     have hvr:AvT (fun g=>W6.heap.size≤g) a_r rs:=hvr0.mono fun g hg=>qT (qR _) hg
     refine Qaa (.tuple #[.slice a_r rs.length c_r,.nilIface]) 40 rfl kj kj ?_
     refine Qaa (.slice a_r rs.length c_r) 45 rfl kj kj ?_
     refine Qaa (.nilIface) 46 rfl kj kj ?_
     refine Qaa (.slice a_r rs.length c_r) 8 rfl kj kj ?_
     refine Qaa (.nilIface) 10 rfl kj kj ?_
     refine Qae ?_
     refine hK65 _ _ ?_
     refine Qab ?_
     refine Qaa (.slice a_t ts.length c_t) 48 rfl kj kj ?_
     refine Qaa (.pointer (some ⟨g15,1,none⟩)) 49 rfl kj kj ?_
     have r15_7:=(Qah r15_6 e7)
     refine Qaa (.int .i64 ch.i) 50 rfl kj (Qag 3 _ g15 1 51 _ (.int .i64 ch.i) _ r15_7 rfl kj (Qal [#[.int .i64 ch.k]] [#[.int .i64 ch.i]] [#[.bool ch.nd.n.us],#[.int .i64 ch.nd.n.nm],ints .u8 (ch.nd.n.key),ints .u8 (ch.nd.n.sg),ints .u8 (ch.nd.n.pa),#[.slice ch.nd.a ch.nd.n.ms.length ch.nd.c]] 1 kj 0 _ rfl) kj) ?_
     have y3_6:Ext V1 W6:=(Rely.Ext.trans y3_5 e6)
     have y3_7:Ext V1 W7:=(Rely.Ext.trans y3_6 e7)
     refine Qa0 (fun v W'=>(fun v W9=>∃ ss,AsC ss R∧∃ u,v=.tuple #[u,.int .i64 0]∧FrT W7.heap.size ss u W9) v W'∧Ext W7 W') 30 #[.slice a_t ts.length c_t,.int .i64 ch.i] 51 rfl kj kj ((hY.2 a_t c_t _ W7 (TrAt.ext ht y3_7)).mono (by rintro e w' ⟨v,rfl,e1,hv⟩; exact ⟨v,rfl,hv,e1⟩)) fun vv67 W8 hh67=>?_
     obtain ⟨hv67,e8⟩:=hh67
     have x8:Ext w W8:=Ext.tr x7 e8
     obtain ⟨ss,hss,us,rfl,hfs⟩:=hv67
     obtain ⟨a_s,c_s,rfl,hts,hvs0⟩:=FrT.parts hfs
     have hvs:AvT (fun g=>W6.heap.size≤g) a_s ss:=hvs0.mono fun g hg=>qT (qT (qR _) e7.size) hg
     refine Qaa (.tuple #[.slice a_s ss.length c_s,.int .i64 0]) 47 rfl kj kj ?_
     refine Qaa (.slice a_s ss.length c_s) 52 rfl kj kj ?_
     refine Qaa (.int .i64 0) 53 rfl kj kj ?_
     refine Qaa (.slice a_s ss.length c_s) 9 rfl kj kj ?_
     refine Qaa (.int .i64 0) 11 rfl kj kj ?_
     refine Qae ?_
     have y6_7:Ext W6 W7:=(Rely.Ext.trans (Rely.Ext.refl W6) e7)
     have y6_8:Ext W6 W8:=(Rely.Ext.trans y6_7 e8)
     obtain ⟨hrl,hrm,-⟩:=Qcn hrs hcR 
     obtain ⟨hsl,hsm,-⟩:=Qcn hss hcR 
     have y7_8:Ext W7 W8:=(Rely.Ext.trans (Rely.Ext.refl W7) e8)
     exact QcG (K:=K25) [(0,.slice a_t ts.length c_t),(25,.slice a_c chs.length c_c),(26,.int .i64 ((chs.length:Nat):Int)),(27,.int .i64 ((ci:Nat):Int)),(7,.slice aD us.length cD),(8,.slice a_r rs.length c_r),(9,.slice a_s ss.length c_s),(10,.nilIface),(11,.int .i64 0),(12,.int .i64 ((0:Nat):Int)),(13,.int .i64 ((0:Nat):Int))] (hJY 0 R rs ss a_r a_s c_r c_s _ _ hcR hrs hss hrl hsl hrm hsm (TrAt.ext htr y7_8).here hvr (TrAt.ext hts (Rely.Ext.refl W8)).here hvs y6_8) ⟨rfl,rfl,rfl,rfl,rfl,rfl,rfl,rfl,rfl,rfl,rfl,trivial⟩
  ·skip
   have heq28:ci=chs.length:=by have:=of_decide_eq_false c12; omega
   refine wp_exit ?_
   refine hK8 _ _ ?_
   refine wp_seq_k fun K68 hK68=>?_
   refine Qab ?_
   refine Qaa (.bool true) 4 rfl kj kj ?_
   refine Qae ?_
   refine hK68 _ _ ?_
   refine wp_ret ?_
   repeat (first | with_reducible refine goR1 ?_ | with_reducible refine goR2 ?_)
   exact (show bodyPost _ _ _ .ret _ _ from ret1 (.bool true) rfl (Qam kj) ⟨rfl,xx1⟩)
theorem lawChanges (ts0 : List NdV) (a_0:Option Addr) (c_0 B0:Nat) (chs:List ChV) (a_c:Option Addr) (c_c:Nat) (w:World) (ht0:TrAt B0 w a_0 ts0) (hch:QfA w a_c chs) (hT:TabAt w):Calls Tryd.prog 6 #[.slice a_0 ts0.length c_0,.slice a_c chs.length c_c] w (Ret w (.bool true)):=by
  by_cases hs:∀ i,i<ts0.length→i≤70∧(ndi ts0 i).n.ms.length≤50
  case neg=>exact QlN ts0 a_0 c_0 B0 chs a_c c_c w ht0 hch hT hs
  exact QlO ts0 a_0 c_0 B0 chs a_c c_c w ht0 hch hT hs
end Go.Proofs.YtcmaolmofgmkhaaDoor.Te
end
section
namespace Go.Proofs.YtcmaolmofgmkhaaDoor.Auto
open Go Go.RowKit Go.WideShapes
open Rely
section
variable {H : Type} {enc : TypeId × Value → H} {P : Program} {W w : World} {r : Reach} {base b0 : Nat} {sp : Nat → Bool} {held : Bool}
theorem open_raw {n : Nat} {t e:TypeId} {cs:List Value} {fuel:Nat} {x:DataW H×List MemPlace} (ht:P.underlying t=some (.array n e)) (he:P.underlying e=some (.int .u8)) (hce:P.cellsOf e=1) (hct:P.cellsOf t=n)
    (hf:DataW.trod enc P w b0 sp held fuel t cs=some x):∃ xs:List Int,cs=xs.map (Value.int .u8)∧xs.length=n∧Qb8 xs:=by
  obtain ⟨xs,m,-,-,hl,hn,hx⟩:=DataW.trod_array ht hf
  have hcs:cs.length=n:=by simpa [hct] using hl
  have each:∀ i,i<n→∃ z:Int,cs[i]? = some (.int .u8 z)∧(0≤z∧z≤255):=by
    intro i hi
    have h1:=hx i hi
    rw [hce,Nat.mul_one] at h1
    have hlt:i<cs.length:=by omega
    have h2:cs.drop i=cs[i]::cs.drop (i+1):=List.drop_eq_getElem_cons hlt
    have h1:DataW.trod enc P w b0 sp held m e ((cs.drop i).take 1)=xs[i]?:=h1
    rw [h2] at h1
    simp only [List.take_succ_cons,List.take_zero] at h1
    obtain ⟨y,hy⟩:∃ y,xs[i]? = some y:=⟨xs[i],by simp [hn,hi]⟩
    rw [hy] at h1
    obtain ⟨z,hc,-,hw⟩:=DataW.trod_int he h1
    refine ⟨z,?_,?_⟩
    · rw [List.getElem?_eq_getElem hlt]
      simp only [List.cons.injEq] at hc
      rw [hc.1]
    · simpa [Lit.wf,IntKind.min,IntKind.max,IntKind.signed,IntKind.bits] using hw
  have all:∀ (l:List Value),(∀ i,i<l.length→∃ z:Int,l[i]? = some (.int .u8 z)∧(0≤z∧z≤255))→∃ zs:List Int,l=zs.map (Value.int .u8)∧Qb8 zs:=by
    intro l
    induction l with
    | nil=>exact fun _=>⟨[],rfl,fun x hx=>by simp at hx⟩
    | cons a l ih =>
      intro h
      obtain ⟨zs,h1,h2⟩:=ih fun i hi=>by simpa using h (i+1) (by simp; omega)
      obtain ⟨z,h3,h4⟩:=h 0 (by simp)
      simp only [List.getElem?_cons_zero,Option.some.injEq] at h3
      refine ⟨z::zs,by rw [h3,h1]; rfl,fun x hx=>?_⟩
      rcases List.mem_cons.1 hx with e | e
      · rw [e]; exact h4
      · exact h2 x e
  obtain ⟨zs,h1,h2⟩:=all cs fun i hi=>each i (by omega)
  exact ⟨zs,h1,by rw [←hcs,h1,List.length_map],h2⟩
end
end Go.Proofs.YtcmaolmofgmkhaaDoor.Auto
end
section
namespace Go.Proofs.YtcmaolmofgmkhaaDoor.Auto
open Go Go.RowKit Go.WideShapes
open Rely
section
variable {H : Type} {enc : TypeId × Value → H} {P : Program} {W w : World} {r : Reach} {base b0 : Nat} {sp : Nat → Bool} {held : Bool}
theorem QiM {t : TypeId} {f0 f1 f2 f3 f4 f5:Field} {fuel:Nat} {cs:List Value} {x:DataW H×List MemPlace} (ht:P.underlying t=some (.struct #[f0,f1,f2,f3,f4,f5])) (h:DataW.trod enc P w b0 sp held fuel t cs=some x) :
    ∃ y0 y1 y2 y3 y4 y5 n,cs.length=P.cellsOf t∧DataW.trod enc P w b0 sp held n f0.type ((cs.drop f0.offset).take (P.cellsOf f0.type))=some y0∧DataW.trod enc P w b0 sp held n f1.type ((cs.drop f1.offset).take (P.cellsOf f1.type))=some y1∧DataW.trod enc P w b0 sp held n f2.type ((cs.drop f2.offset).take (P.cellsOf f2.type))=some y2∧DataW.trod enc P w b0 sp held n f3.type ((cs.drop f3.offset).take (P.cellsOf f3.type))=some y3∧DataW.trod enc P w b0 sp held n f4.type ((cs.drop f4.offset).take (P.cellsOf f4.type))=some y4∧DataW.trod enc P w b0 sp held n f5.type ((cs.drop f5.offset).take (P.cellsOf f5.type))=some y5:=by
  obtain ⟨xs,n,_,rfl,hl,hlen,hf⟩:=DataW.trod_struct ht h
  match xs,hlen with
  | [y0,y1,y2,y3,y4,y5],_=>exact ⟨y0,y1,y2,y3,y4,y5,n,hl,by simpa using hf 0 f0 rfl,by simpa using hf 1 f1 rfl,by simpa using hf 2 f2 rfl,by simpa using hf 3 f3 rfl,by simpa using hf 4 f4 rfl,by simpa using hf 5 f5 rfl⟩
theorem sub_st6 {t : TypeId} {f0 f1 f2 f3 f4 f5:Field} {fuel:Nat} {cs:List Value} {x:DataW H×List MemPlace} {n0 n1 n2 n3 n4 n5:Nat} (ht:P.underlying t=some (.struct #[f0,f1,f2,f3,f4,f5]))
    (ho:f0.offset=0∧f1.offset=n0∧f2.offset=n0+n1∧f3.offset=n0+n1+n2∧f4.offset=n0+n1+n2+n3∧f5.offset=n0+n1+n2+n3+n4) (hc:P.cellsOf f0.type=n0∧P.cellsOf f1.type=n1∧P.cellsOf f2.type=n2∧P.cellsOf f3.type=n3∧P.cellsOf f4.type=n4∧P.cellsOf f5.type=n5) (hC:P.cellsOf t=n0+n1+n2+n3+n4+n5) (h:DataW.trod enc P w b0 sp held fuel t cs=some x) :
    ∃ (X0 X1 X2 X3 X4 X5:List Value) (y0 y1 y2 y3 y4 y5:DataW H×List MemPlace) (n:Nat),cs=X0++X1++X2++X3++X4++X5∧DataW.trod enc P w b0 sp held n f0.type X0=some y0∧DataW.trod enc P w b0 sp held n f1.type X1=some y1∧DataW.trod enc P w b0 sp held n f2.type X2=some y2∧DataW.trod enc P w b0 sp held n f3.type X3=some y3∧DataW.trod enc P w b0 sp held n f4.type X4=some y4∧DataW.trod enc P w b0 sp held n f5.type X5=some y5:=by
  obtain ⟨y0,y1,y2,y3,y4,y5,n,hl,h0,h1,h2,h3,h4,h5⟩:=QiM ht h
  obtain ⟨o0,o1,o2,o3,o4,o5⟩:=ho
  obtain ⟨c0,c1,c2,c3,c4,c5⟩:=hc
  rw [o0,c0] at h0
  rw [o1,c1] at h1
  rw [o2,c2] at h2
  rw [o3,c3] at h3
  rw [o4,c4] at h4
  rw [o5,c5] at h5
  refine ⟨_,_,_,_,_,_,y0,y1,y2,y3,y4,y5,n,?_,h0,h1,h2,h3,h4,h5⟩
  rw [hC] at hl
  simp only [List.drop_zero]
  have e1:cs.take (n0)++(cs.drop (n0)).take n1=cs.take (n0+n1):=by rw [List.take_add (i:=n0)]
  have e2:cs.take (n0+n1)++(cs.drop (n0+n1)).take n2=cs.take (n0+n1+n2):=by rw [List.take_add (i:=n0+n1)]
  have e3:cs.take (n0+n1+n2)++(cs.drop (n0+n1+n2)).take n3=cs.take (n0+n1+n2+n3):=by rw [List.take_add (i:=n0+n1+n2)]
  have e4:cs.take (n0+n1+n2+n3)++(cs.drop (n0+n1+n2+n3)).take n4=cs.take (n0+n1+n2+n3+n4):=by rw [List.take_add (i:=n0+n1+n2+n3)]
  have e5:cs.take (n0+n1+n2+n3+n4)++(cs.drop (n0+n1+n2+n3+n4)).take n5=cs.take (n0+n1+n2+n3+n4+n5):=by rw [List.take_add (i:=n0+n1+n2+n3+n4)]
  rw [e1,e2,e3,e4,e5,List.take_of_length_le (by omega)]
end
end Go.Proofs.YtcmaolmofgmkhaaDoor.Auto
end
section
namespace Go.Proofs.YtcmaolmofgmkhaaDoor.Auto
open Go Go.RowKit
open Rely
end Go.Proofs.YtcmaolmofgmkhaaDoor.Auto
end
section
namespace Go.Proofs.YtcmaolmofgmkhaaDoor.Te
open Go Go.RowKit
open Rely Auto Own Sha
open Go.WideShapes Go.ChangeShapes Go.ChangeAt Go.Deep
open Go.Proofs.YtcmaolmofgmkhaaDoor
section
variable {H : Type} {enc : TypeId × Value → H} {P : Program} {w : World} {b0 : Nat} {held : Bool}
theorem QgF (x : Addr) (i j:Nat):(x.add i).add j=x.add (i+j):=by
  by_cases hi:i=0 <;> by_cases hj:j=0 <;> simp [Addr.add,hi,hj,Nat.add_assoc]
theorem open_tree {t s e5 e3:TypeId} {f0 f1 f2 f3 f4 f5:Field} {ad:Option Addr} {len cap:Nat} {d:DataW H} {p:List MemPlace} (hs:P.underlying t=some (.slice s)) (hss:P.underlying s=some (.struct #[f0,f1,f2,f3,f4,f5]))
    (ho:f0.offset=0∧f1.offset=1∧f2.offset=1+1∧f3.offset=1+1+32∧f4.offset=1+1+32+32∧f5.offset=1+1+32+32+32) (hc:P.cellsOf f0.type=1∧P.cellsOf f1.type=1∧P.cellsOf f2.type=32∧P.cellsOf f3.type=32∧P.cellsOf f4.type=32∧P.cellsOf f5.type=1) (hC:P.cellsOf s=1+1+32+32+32+1)
    (h0:P.underlying f0.type=some .bool) (h1:P.underlying f1.type=some (.int .i64)) (h2:P.underlying f2.type=some (.array 32 e5)) (h3:P.underlying f3.type=some (.array 32 e5)) (h4:P.underlying f4.type=some (.array 32 e5)) (h5:P.underlying f5.type=some (.slice e3))
    (he5:P.underlying e5=some (.int .u8)) (hc5:P.cellsOf e5=1) (he3:P.underlying e3=some (.int .i64)) (hc3:P.cellsOf e3=1)
    (h:DataW.Trod enc P w b0 (fun _=>true) held t (.slice ad len cap) d p) :
    ∃ ts:List NdV,ts.length=len∧TrAt w.heap.size w ad ts∧∀ n∈ts,NdOk n.n:=by
  obtain ⟨fuel,hf⟩:=h
  rcases DataW.trod_slice hs hf with ⟨hcs',-⟩ | ⟨x,l,c,elems,rest,n,-,hcs',-,hb,hl,hmx,hlen,hel,-,-⟩
  · simp [Value.cells] at hcs'
    obtain ⟨rfl,rfl,rfl⟩:=hcs'
    exact ⟨[],rfl,⟨0,0,fun h=>absurd h (by decide),fun i hi=>absurd hi (Nat.not_lt_zero _)⟩,fun n hn=>by cases hn⟩
  · simp [Value.cells] at hcs'
    obtain ⟨rfl,rfl,rfl⟩:=hcs'
    have key:∀ i,i<len→∃ n:NdV,(∀ j u,(cat (ndP n))[j]? = some u→w.cell? (x.add (i*99+j))=some u)∧RdK .i64 w.heap.size n.n.ms (.slice n.a n.n.ms.length n.c) w∧NdOk n.n:=fun i hi=>by
      have h9:=hel i hi
      rw [hC,List.getElem?_eq_getElem (by omega)] at h9
      obtain ⟨cs,hc1,hc2⟩:=Option.bind_eq_some_iff.1 h9
      obtain ⟨hn,q1,q2⟩:=World.cells?_some hc1
      obtain ⟨X0,X1,X2,X3,X4,X5,y0,y1,y2,y3,y4,y5,m,hcs,t0,t1,t2,t3,t4,t5⟩:=Auto.sub_st6 hss ho hc hC hc2
      obtain ⟨us,rfl,-⟩:=DataW.trod_bool h0 t0
      obtain ⟨nm,rfl,-,-⟩:=DataW.trod_int h1 t1
      obtain ⟨key,rfl,hkl,hkb⟩:=Auto.open_raw h2 he5 hc5 hc.2.2.1 t2
      obtain ⟨sg,rfl,hgl,hgb⟩:=Auto.open_raw h3 he5 hc5 hc.2.2.2.1 t3
      obtain ⟨pa,rfl,hpl,hpb⟩:=Auto.open_raw h4 he5 hc5 hc.2.2.2.2.1 t4
      have fin:∀ (a:Option Addr) (ms:List Int) (c:Nat),X5=[.slice a ms.length c]→RdK .i64 w.heap.size ms (.slice a ms.length c) w→∃ n:NdV,(∀ j u,(cat (ndP n))[j]? = some u→w.cell? (x.add (i*99+j))=some u)∧RdK .i64 w.heap.size n.n.ms (.slice n.a n.n.ms.length n.c) w∧NdOk n.n:=fun a ms c e r=>by
        refine ⟨⟨⟨us,nm,key,sg,pa,ms⟩,a,c⟩,fun j u hu=>?_,r,⟨hkl,hgl,hpl,hkb,hgb,hpb⟩⟩
        have e9:(cat (ndP ⟨⟨us,nm,key,sg,pa,ms⟩,a,c⟩)).toList=cs:=by
          rw [hcs,e]
          unfold ndP
          simp [cat,Rely.ints]
        rw [←Array.getElem?_toList,e9] at hu
        have hj:j<99:=by have:=(List.getElem?_eq_some_iff.1 hu).1; omega
        have:=q2 j hj
        rw [QgF] at this
        rw [this]; exact hu
      rcases open_ints h5 he3 hc3 t5 with ⟨hcv,-⟩ | ⟨y,l,cc,zs,hcv,-,hl2,hm2,hz2,-,hcell,hwz⟩
      · exact fin none [] 0 hcv ⟨none,0,rfl,qR _,Nat.zero_le _,fun _=>rfl,.inl rfl⟩
      · obtain ⟨r,rl,rf⟩:=Auto.rdK_of_row (k:=.i64) (w:=w) (a:=some y) (len:=l) (cap:=cc) (zs:=zs) (.inr ⟨y,rfl,hl2,hm2,by simpa using hz2,hcell,hwz⟩)
        refine fin (some y) (zs.take l) cc (by rw [rl]; exact hcv) ?_
        rw [rl]; exact r
    rcases Nat.eq_zero_or_pos len with h0' | h0'
    · subst h0'
      exact ⟨[],rfl,⟨0,0,fun h=>absurd h (by decide),fun i hi=>absurd hi (Nat.not_lt_zero _)⟩,fun n hn=>by cases hn⟩
    obtain ⟨b,off,spot⟩:=x
    have first:∀ n:NdV,(cat (ndP n))[0]? = some (.bool n.n.us):=fun n=>by
      unfold ndP
      show (#[Value.bool n.n.us]++cat _)[0]? = _
      rw [Array.getElem?_append_left (show 0<1 by decide)]
      rfl
    obtain ⟨n0,hq,-⟩:=key 0 h0'
    have hq0:=hq 0 _ (first n0)
    have hspot:spot=none:=by simpa [Addr.add] using World.cell?_spot hq0
    subst hspot
    rw [WideShapes.add_plain] at hq0
    have hlt:b<w.heap.size:=QcF hq0
    have all:∀ m,m≤len→∃ ts:List NdV,ts.length=m∧∀ i,i<m→NdAt w.heap.size w b (off+i*99) (ndi ts i):=by
      intro m
      induction m with
      | zero=>exact fun _=>⟨[],rfl,fun i hi=>absurd hi (Nat.not_lt_zero _)⟩
      | succ m ih =>
        intro hm
        obtain ⟨ts,htl,hts⟩:=ih (by omega)
        obtain ⟨n,k1,k2,k3⟩:=key m (by omega)
        refine ⟨ts++[n],by rw [List.length_append,htl]; rfl,fun i hi=>?_⟩
        have e:ndi (ts++[n]) i=if i<m then ndi ts i else n:=by
          unfold ndi
          rw [List.getD_eq_getElem?_getD,List.getD_eq_getElem?_getD]
          split
          · rename_i h; rw [List.getElem?_append_left (by omega)]
          · rename_i h
            rw [List.getElem?_append_right (by omega),show i-ts.length=0 by omega]; rfl
        rw [e]
        split
        · rename_i h; exact hts i h
        · rename_i h
          obtain rfl:i=m:=by omega
          exact ⟨hlt,hlt,fun j u hu=>by have:=k1 j u hu; rw [WideShapes.add_plain] at this; rw [Nat.add_assoc]; exact this,k2,k3⟩
    obtain ⟨ts,htl,hts⟩:=all len (qR _)
    refine ⟨ts,htl,⟨b,off,fun _=>rfl,fun i hi=>hts i (by omega)⟩,fun n hn=>?_⟩
    obtain ⟨i,hi,e⟩:=List.mem_iff_getElem.1 hn
    have:=(hts i (by omega)).ok
    unfold ndi at this
    rw [List.getD_eq_getElem?_getD,List.getElem?_eq_getElem hi] at this
    rw [←e]; exact this
end
end Go.Proofs.YtcmaolmofgmkhaaDoor.Te
end
section
namespace Go.Proofs.YtcmaolmofgmkhaaDoor.Auto
open Go Go.RowKit Go.WideShapes
open Rely
section
variable {H : Type} {enc : TypeId × Value → H} {P : Program} {W w : World} {r : Reach} {base b0 : Nat} {sp : Nat → Bool} {held : Bool}
theorem QiN {t : TypeId} {f0 f1 f2:Field} {fuel:Nat} {cs:List Value} {x:DataW H×List MemPlace} (ht:P.underlying t=some (.struct #[f0,f1,f2])) (h:DataW.trod enc P w b0 sp held fuel t cs=some x) :
    ∃ y0 y1 y2 n,cs.length=P.cellsOf t∧DataW.trod enc P w b0 sp held n f0.type ((cs.drop f0.offset).take (P.cellsOf f0.type))=some y0∧DataW.trod enc P w b0 sp held n f1.type ((cs.drop f1.offset).take (P.cellsOf f1.type))=some y1∧DataW.trod enc P w b0 sp held n f2.type ((cs.drop f2.offset).take (P.cellsOf f2.type))=some y2:=by
  obtain ⟨xs,n,_,rfl,hl,hlen,hf⟩:=DataW.trod_struct ht h
  match xs,hlen with
  | [y0,y1,y2],_=>exact ⟨y0,y1,y2,n,hl,by simpa using hf 0 f0 rfl,by simpa using hf 1 f1 rfl,by simpa using hf 2 f2 rfl⟩
theorem sub_st3 {t : TypeId} {f0 f1 f2:Field} {fuel:Nat} {cs:List Value} {x:DataW H×List MemPlace} {n0 n1 n2:Nat} (ht:P.underlying t=some (.struct #[f0,f1,f2]))
    (ho:f0.offset=0∧f1.offset=n0∧f2.offset=n0+n1) (hc:P.cellsOf f0.type=n0∧P.cellsOf f1.type=n1∧P.cellsOf f2.type=n2) (hC:P.cellsOf t=n0+n1+n2) (h:DataW.trod enc P w b0 sp held fuel t cs=some x) :
    ∃ (X0 X1 X2:List Value) (y0 y1 y2:DataW H×List MemPlace) (n:Nat),cs=X0++X1++X2∧DataW.trod enc P w b0 sp held n f0.type X0=some y0∧DataW.trod enc P w b0 sp held n f1.type X1=some y1∧DataW.trod enc P w b0 sp held n f2.type X2=some y2:=by
  obtain ⟨y0,y1,y2,n,hl,h0,h1,h2⟩:=QiN ht h
  obtain ⟨o0,o1,o2⟩:=ho
  obtain ⟨c0,c1,c2⟩:=hc
  rw [o0,c0] at h0
  rw [o1,c1] at h1
  rw [o2,c2] at h2
  refine ⟨_,_,_,y0,y1,y2,n,?_,h0,h1,h2⟩
  rw [hC] at hl
  simp only [List.drop_zero]
  have e1:cs.take (n0)++(cs.drop (n0)).take n1=cs.take (n0+n1):=by rw [List.take_add (i:=n0)]
  have e2:cs.take (n0+n1)++(cs.drop (n0+n1)).take n2=cs.take (n0+n1+n2):=by rw [List.take_add (i:=n0+n1)]
  rw [e1,e2,List.take_of_length_le (by omega)]
end
end Go.Proofs.YtcmaolmofgmkhaaDoor.Auto
end
section
namespace Go.Proofs.YtcmaolmofgmkhaaDoor.Te
open Go Go.RowKit
open Rely Auto Own Sha
open Go.WideShapes Go.ChangeShapes Go.ChangeAt Go.Deep
open Go.Proofs.YtcmaolmofgmkhaaDoor
section
variable {H : Type} {enc : TypeId × Value → H} {P : Program} {w : World} {b0 : Nat} {held : Bool}
theorem open_chgs {t s e5 e3:TypeId} {g0 g1 g2 f0 f1 f2 f3 f4 f5:Field} {ad:Option Addr} {len cap:Nat} {d:DataW H} {p:List MemPlace} (hs:P.underlying t=some (.slice s)) (hsg:P.underlying s=some (.struct #[g0,g1,g2])) (hgo:g0.offset=0∧g1.offset=1∧g2.offset=1+1) (hgc:P.cellsOf g0.type=1∧P.cellsOf g1.type=1∧P.cellsOf g2.type=99) (hgC:P.cellsOf s=1+1+99)
    (hg0:P.underlying g0.type=some (.int .i64)) (hg1:P.underlying g1.type=some (.int .i64)) (hss:P.underlying g2.type=some (.struct #[f0,f1,f2,f3,f4,f5]))
    (ho:f0.offset=0∧f1.offset=1∧f2.offset=1+1∧f3.offset=1+1+32∧f4.offset=1+1+32+32∧f5.offset=1+1+32+32+32) (hc:P.cellsOf f0.type=1∧P.cellsOf f1.type=1∧P.cellsOf f2.type=32∧P.cellsOf f3.type=32∧P.cellsOf f4.type=32∧P.cellsOf f5.type=1) (hC:P.cellsOf g2.type=1+1+32+32+32+1)
    (h0:P.underlying f0.type=some .bool) (h1:P.underlying f1.type=some (.int .i64)) (h2:P.underlying f2.type=some (.array 32 e5)) (h3:P.underlying f3.type=some (.array 32 e5)) (h4:P.underlying f4.type=some (.array 32 e5)) (h5:P.underlying f5.type=some (.slice e3))
    (he5:P.underlying e5=some (.int .u8)) (hc5:P.cellsOf e5=1) (he3:P.underlying e3=some (.int .i64)) (hc3:P.cellsOf e3=1)
    (h:DataW.Trod enc P w b0 (fun _=>true) held t (.slice ad len cap) d p) :
    ∃ ts:List ChV,ts.length=len∧QfA w ad ts:=by
  obtain ⟨fuel,hf⟩:=h
  rcases DataW.trod_slice hs hf with ⟨hcs',-⟩ | ⟨x,l,c,elems,rest,n,-,hcs',-,hb,hl,hmx,hlen,hel,-,-⟩
  · simp [Value.cells] at hcs'
    obtain ⟨rfl,rfl,rfl⟩:=hcs'
    exact ⟨[],rfl,0,0,fun h=>absurd h (by decide),fun i hi=>absurd hi (Nat.not_lt_zero _)⟩
  · simp [Value.cells] at hcs'
    obtain ⟨rfl,rfl,rfl⟩:=hcs'
    have key:∀ i,i<len→∃ n:ChV,(∀ j u,(cat (chP n))[j]? = some u→w.cell? (x.add (i*101+j))=some u)∧RdK .i64 w.heap.size n.nd.n.ms (.slice n.nd.a n.nd.n.ms.length n.nd.c) w∧NdOk n.nd.n:=fun i hi=>by
      have h9:=hel i hi
      rw [hgC,List.getElem?_eq_getElem (by omega)] at h9
      obtain ⟨cs,hc1,hc2⟩:=Option.bind_eq_some_iff.1 h9
      obtain ⟨hn,q1,q2⟩:=World.cells?_some hc1
      obtain ⟨Z0,Z1,Z2,v0,v1,v2,m0,hcz,r0,r1,r2⟩:=Auto.sub_st3 (n0:=1) (n1:=1) (n2:=99) hsg hgo hgc hgC hc2
      obtain ⟨kd,rfl,-,-⟩:=DataW.trod_int hg0 r0
      obtain ⟨ki,rfl,-,-⟩:=DataW.trod_int hg1 r1
      obtain ⟨X0,X1,X2,X3,X4,X5,y0,y1,y2,y3,y4,y5,m,hcs,t0,t1,t2,t3,t4,t5⟩:=Auto.sub_st6 hss ho hc hC r2
      obtain ⟨us,rfl,-⟩:=DataW.trod_bool h0 t0
      obtain ⟨nm,rfl,-,-⟩:=DataW.trod_int h1 t1
      obtain ⟨key,rfl,hkl,hkb⟩:=Auto.open_raw h2 he5 hc5 hc.2.2.1 t2
      obtain ⟨sg,rfl,hgl,hgb⟩:=Auto.open_raw h3 he5 hc5 hc.2.2.2.1 t3
      obtain ⟨pa,rfl,hpl,hpb⟩:=Auto.open_raw h4 he5 hc5 hc.2.2.2.2.1 t4
      have fin:∀ (a:Option Addr) (ms:List Int) (c:Nat),X5=[.slice a ms.length c]→RdK .i64 w.heap.size ms (.slice a ms.length c) w→∃ n:ChV,(∀ j u,(cat (chP n))[j]? = some u→w.cell? (x.add (i*101+j))=some u)∧RdK .i64 w.heap.size n.nd.n.ms (.slice n.nd.a n.nd.n.ms.length n.nd.c) w∧NdOk n.nd.n:=fun a ms c e r=>by
        refine ⟨⟨kd,ki,⟨us,nm,key,sg,pa,ms⟩,a,c⟩,fun j u hu=>?_,r,⟨hkl,hgl,hpl,hkb,hgb,hpb⟩⟩
        have e9:(cat (chP ⟨kd,ki,⟨us,nm,key,sg,pa,ms⟩,a,c⟩)).toList=cs:=by
          rw [hcz,hcs,e]
          unfold chP
          simp [cat,Rely.ints]
        rw [←Array.getElem?_toList,e9] at hu
        have hj:j<101:=by have:=(List.getElem?_eq_some_iff.1 hu).1; omega
        have:=q2 j hj
        rw [QgF] at this
        rw [this]; exact hu
      rcases open_ints h5 he3 hc3 t5 with ⟨hcv,-⟩ | ⟨y,l,cc,zs,hcv,-,hl2,hm2,hz2,-,hcell,hwz⟩
      · exact fin none [] 0 hcv ⟨none,0,rfl,qR _,Nat.zero_le _,fun _=>rfl,.inl rfl⟩
      · obtain ⟨r,rl,rf⟩:=Auto.rdK_of_row (k:=.i64) (w:=w) (a:=some y) (len:=l) (cap:=cc) (zs:=zs) (.inr ⟨y,rfl,hl2,hm2,by simpa using hz2,hcell,hwz⟩)
        refine fin (some y) (zs.take l) cc (by rw [rl]; exact hcv) ?_
        rw [rl]; exact r
    rcases Nat.eq_zero_or_pos len with h0' | h0'
    · subst h0'
      exact ⟨[],rfl,0,0,fun h=>absurd h (by decide),fun i hi=>absurd hi (Nat.not_lt_zero _)⟩
    obtain ⟨b,off,spot⟩:=x
    have first:∀ n:ChV,(cat (chP n))[0]? = some (.int .i64 n.k):=fun n=>by
      unfold chP
      show (#[Value.int .i64 n.k]++cat _)[0]? = _
      rw [Array.getElem?_append_left (show 0<1 by decide)]
      rfl
    obtain ⟨n0,hq,-⟩:=key 0 h0'
    have hq0:=hq 0 _ (first n0)
    have hspot:spot=none:=by simpa [Addr.add] using World.cell?_spot hq0
    subst hspot
    rw [WideShapes.add_plain] at hq0
    have hlt:b<w.heap.size:=QcF hq0
    have all:∀ m,m≤len→∃ ts:List ChV,ts.length=m∧∀ i,i<m→ChAt w b (off+i*101) (chi ts i):=by
      intro m
      induction m with
      | zero=>exact fun _=>⟨[],rfl,fun i hi=>absurd hi (Nat.not_lt_zero _)⟩
      | succ m ih =>
        intro hm
        obtain ⟨ts,htl,hts⟩:=ih (by omega)
        obtain ⟨n,k1,k2,k3⟩:=key m (by omega)
        refine ⟨ts++[n],by rw [List.length_append,htl]; rfl,fun i hi=>?_⟩
        have e:chi (ts++[n]) i=if i<m then chi ts i else n:=by
          unfold chi
          rw [List.getD_eq_getElem?_getD,List.getD_eq_getElem?_getD]
          split
          · rename_i h; rw [List.getElem?_append_left (by omega)]
          · rename_i h
            rw [List.getElem?_append_right (by omega),show i-ts.length=0 by omega]; rfl
        rw [e]
        split
        · rename_i h; exact hts i h
        · rename_i h
          obtain rfl:i=m:=by omega
          exact ⟨hlt,fun j u hu=>by have:=k1 j u hu; rw [WideShapes.add_plain] at this; rw [Nat.add_assoc]; exact this,k2,k3⟩
    obtain ⟨ts,htl,hts⟩:=all len (qR _)
    exact ⟨ts,htl,b,off,fun _=>rfl,fun i hi=>hts i (by omega)⟩
end
end Go.Proofs.YtcmaolmofgmkhaaDoor.Te
end
