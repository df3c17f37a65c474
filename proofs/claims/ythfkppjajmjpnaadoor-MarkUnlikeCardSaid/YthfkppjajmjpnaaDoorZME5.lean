/- Texts of this claim, joined (ME5). -/
import Derived.Test.YthfkppjajmjpnaaDoorZME4
import Derived.WideKeyArr
import Derived.Laws.BytesString
import Derived.Laws.Strings
import Derived.Lib.SmallJoins
import Derived.Lib.LaidTab
import Derived.Deep.Strs

set_option linter.unusedVariables false
set_option linter.unusedSimpArgs false
set_option maxHeartbeats 4000000
section
namespace Go.Proofs.YthfkppjajmjpnaaDoor.Te
open Go Go.RowKit
open Rely Auto Own Seat Wk Sha
theorem QmE (ts : List NdV) (a_t:Option Addr) (c_t B1:Nat) (htl:ts.length≤100000) (hmt:∀ i,i<ts.length→(ndi ts i).n.ms.length≤50) (hc:chkT ts=false) (w:World) (ht:TrAt B1 w a_t ts) (hT:TabAt w):Calls Tryd.prog 18 #[.slice a_t ts.length c_t] w (Ret w (.bool false)):=by
  refine enter 45 [(0,.slice a_t ts.length c_t)] Tryd.func18 rfl rfl kj rfl ?_
  refine wp_seq_k fun K1 hK1=>?_
  refine Qab ?_
  refine Qaa (.bool false) 2 rfl kj kj ?_
  refine Qaf ?_
  refine hK1 _ _ ?_
  refine wp_seq_k fun K2 hK2=>?_
  refine wp_seq_k fun K3 hK3=>?_
  refine Qab ?_
  refine Qaa (.slice a_t ts.length c_t) 7 rfl kj kj ?_
  refine Qal (.iface 68 (.int .i64 3)) 26 #[.slice a_t ts.length c_t] 8 rfl kj kj (Qmi ts a_t c_t _ _ (TrAt.ext ht (Rely.Ext.refl w)) htl (fun i hi=>qT (hmt i hi) (by decide)) (TabAt.ext hT (Rely.Ext.refl w)) hc) fun W1 e1=>?_
  have x1:Ext w W1:=Ext.tr (Rely.Ext.refl w) e1
  refine Qaa (.bool true) 9 rfl kj kj ?_
  refine Qaf ?_
  refine hK3 _ _ ?_
  refine cond_true kj ?_
  refine wp_seq_k fun K4 hK4=>?_
  refine Qab ?_
  refine Qaa (.bool false) 2 rfl kj kj ?_
  refine Qaf ?_
  refine hK4 _ _ ?_
  refine wp_ret ?_
  repeat (first | with_reducible refine goR1 ?_ | with_reducible refine goR2 ?_)
  exact (show bodyPost _ _ _ .ret _ _ from ret1 (.bool false) rfl (Qaq kj) ⟨rfl,x1⟩)
set_option maxRecDepth 100000 in
theorem QmF (ts : List NdV) (a_t:Option Addr) (c_t B1:Nat) (htl:ts.length≤100000) (hmt:∀ i,i<ts.length→(ndi ts i).n.ms.length≤50) (hc:chkT ts=true) (h1:ts.length=1) (w:World) (ht:TrAt B1 w a_t ts) (hT:TabAt w):Calls Tryd.prog 18 #[.slice a_t ts.length c_t] w (Ret w (.bool true)):=by
 refine enter 45 [(0,.slice a_t ts.length c_t)] Tryd.func18 rfl rfl kj rfl ?_
 refine wp_seq_k fun K1 hK1=>?_
 refine Qab ?_
 refine Qaa (.bool false) 2 rfl kj kj ?_
 refine Qaf ?_
 refine hK1 _ _ ?_
 refine wp_seq_k fun K2 hK2=>?_
 refine wp_seq_k fun K3 hK3=>?_
 refine Qab ?_
 refine Qaa (.slice a_t ts.length c_t) 7 rfl kj kj ?_
 refine Qal (.nilIface) 26 #[.slice a_t ts.length c_t] 8 rfl kj kj (QjM ts a_t c_t _ _ (TrAt.ext ht (Rely.Ext.refl w)) htl (fun i hi=>qT (hmt i hi) (by decide)) (TabAt.ext hT (Rely.Ext.refl w)) hc) fun W1 e1=>?_
 have x1:Ext w W1:=Ext.tr (Rely.Ext.refl w) e1
 refine Qaa (.bool false) 9 rfl kj kj ?_
 refine Qaf ?_
 refine hK3 _ _ ?_
 refine cond_false kj ?_
 refine wp_skip ?_
 refine hK2 _ _ ?_
 refine wp_seq_k fun K4 hK4=>?_
 refine wp_seq_k fun K5 hK5=>?_
 refine Qab ?_
 refine Qaa (.slice a_t ts.length c_t) 10 rfl kj kj ?_
 refine Qaa (.int .i64 ((ts.length:Nat):Int)) 11 rfl kj kj ?_
 refine Qaa (.int .i64 0) 12 rfl kj kj ?_
 refine Qaf ?_
 refine hK5 _ _ ?_
 refine wp_block ?_
 refine Qa0 (fun (s1:Nat)=>[(0,.slice a_t ts.length c_t),(10,.slice a_t ts.length c_t),(11,.int .i64 ((ts.length:Nat):Int)),(12,.int .i64 ((s1:Nat):Int))]) (fun (s1:Nat) W=>(s1≤ts.length)∧(Ext W1 W)∧(Ext w W)) (fun (s1:Nat)=>ts.length-s1) 0 ⟨rfl,rfl,rfl,rfl,trivial⟩ ⟨(Nat.zero_le _),(Rely.Ext.refl W1),x1⟩ fun s1 X1 V1 hI1=>?_
 obtain ⟨i,hs1⟩:∃ z,z=s1:=⟨_,rfl⟩
 subst hs1
 obtain ⟨hi,kk1,xx1⟩:=hI1
 replace hi:i≤ts.length:=hi
 replace kk1:Ext W1 V1:=kk1
 replace xx1:Ext w V1:=xx1
 have e2:=kk1
 refine wp_seq_k fun K6 hK6=>?_
 refine Qab ?_
 refine Qaa (.bool (decide (((i:Nat):Int)<((ts.length:Nat):Int)))) 13 rfl kj kj ?_
 refine Qaf ?_
 refine hK6 _ _ ?_
 refine wp_seq_k fun K7 hK7=>?_
 refine Qar (t:=decide (((i:Nat):Int)<((ts.length:Nat):Int))) kj (fun c8=>?_) (fun c8=>?_)
 ·skip
  have hlt13:i<ts.length:=by have:=of_decide_eq_true c8; omega
  refine wp_skip ?_
  refine hK7 _ _ ?_
  refine wp_seq_k fun K9 hK9=>?_
  refine wp_block ?_
  refine wp_seq_k fun K10 hK10=>?_
  refine Qab ?_
  refine Qaa (.int .i64 ((i:Nat):Int)) 14 rfl kj kj ?_
  obtain ⟨gtT,otT,hat,hnts⟩:=TrAt.ext ht xx1
  have hnt:=hnts i (by omega)
  obtain ⟨nt,ent⟩:∃ z,z=ndi ts i:=⟨_,rfl⟩
  rw [←ent] at hnt
  have okt:=hnt.ok
  have rdt:=hnt.rd
  refine Qaa (.pointer (some ⟨gtT,otT+i*99,none⟩)) 15 rfl kj (Qap 23 _ _ .i64 i gtT otT ts.length c_t 50 99 a_t (hat (by omega)) rfl kj kj kj kj (by omega)) ?_
  refine Qaa (.agg (cat [#[.bool nt.n.us],#[.int .i64 nt.n.nm],ints .u8 (nt.n.key),ints .u8 (nt.n.sg),ints .u8 (nt.n.pa),#[.slice nt.a nt.n.ms.length nt.c]])) 16 rfl kj (QaH 50 _ gtT (otT+i*99) nt hnt rfl kj kj kj) ?_
  refine Qan (cat [#[.bool false],#[.int .i64 0],ints .u8 (List.replicate 32 0),ints .u8 (List.replicate 32 0),ints .u8 (List.replicate 32 0),#[.slice none 0 0]]) 50 4 rfl kj kj fun g11 W3 l11 e3 r11_3=>?_
  have x3:Ext w W3:=Ext.tr xx1 e3
  have b11:w.heap.size≤g11:=qT xx1.size l11
  refine Qaa (.int .i64 ((i:Nat):Int)) 3 rfl kj kj ?_
  refine Qau g11 _ (cat [#[.bool nt.n.us],#[.int .i64 nt.n.nm],ints .u8 (nt.n.key),ints .u8 (nt.n.sg),ints .u8 (nt.n.pa),#[.slice nt.a nt.n.ms.length nt.c]]) 50 r11_3 rfl kj (Qas 50 _ _ g11 50 _ _ r11_3 rfl kj kj (isz (n:=99) kj (by rw [Qac,Qac,Qac,Qac,Qac,Qac]; simp only [qS,cat,((Qae _ _).trans okt.gl),((Qae _ _).trans okt.kl),((Qae _ _).trans okt.pl)]; rfl)) (eqsz (n:=99) (by rw [Qac,Qac,Qac,Qac,Qac,Qac]; simp only [qS,cat,((Qae _ _).trans (qZ (n:=32)))]; rfl) (by rw [Qac,Qac,Qac,Qac,Qac,Qac]; simp only [qS,cat,((Qae _ _).trans okt.gl),((Qae _ _).trans okt.kl),((Qae _ _).trans okt.pl)]; rfl)) (Qbm _ (by intro a ha; simp only [List.mem_cons,List.not_mem_nil,or_false] at ha; rcases ha with rfl | rfl | rfl | rfl | rfl | rfl; exact (Qa7 _ rfl); exact (Qa7 _ rfl); exact (Qaw _ _); exact (Qaw _ _); exact (Qaw _ _); exact (Qa7 _ rfl)))) fun W4 p4 r11_4=>?_
  have x4:Ext w W4:=Puts.ext p4 x3 b11
  refine Qaf ?_
  refine hK10 _ _ ?_
  refine wp_seq_k fun K12 hK12=>?_
  refine Qab ?_
  refine Qaa (.int .i64 ((i:Nat):Int)) 18 rfl kj kj ?_
  have hki:∀ W,TabAt W→Calls Tryd.prog 36 #[.int .i64 ((i:Nat):Int)] W (Ret W (.tuple #[.int .i64 (-1),.int .i64 (-1)])):=fun W h=>by
   obtain rfl:i=0:=by omega
   have h9:=quiet (children ((0:Nat):Int) ⟨by decide,by decide⟩ W h)
   rw [show kidL ((0:Nat):Int)=-1 by decide +kernel,show kidR ((0:Nat):Int)=-1 by decide +kernel] at h9; exact h9
  refine Qal (.tuple #[.int .i64 (-1),.int .i64 (-1)]) 36 #[.int .i64 ((i:Nat):Int)] 19 rfl kj kj (hki _ (TabAt.ext hT x4)) fun W5 e5=>?_
  have x5:Ext w W5:=Ext.tr x4 e5
  refine Qaa (.tuple #[.int .i64 (-1),.int .i64 (-1)]) 17 rfl kj kj ?_
  refine Qaa (.int .i64 (-1)) 20 rfl kj kj ?_
  refine Qaa (.int .i64 (-1)) 21 rfl kj kj ?_
  refine Qaa (.int .i64 (-1)) 5 rfl kj kj ?_
  refine Qaa (.int .i64 (-1)) 6 rfl kj kj ?_
  refine Qaf ?_
  refine hK12 _ _ ?_
  refine wp_seq_k fun K13 hK13=>?_
  cases hus:nt.n.us
  ·skip
   have r11_5:=(Qah r11_4 e5)
   have rbx:W5.heap[g11]? = some (.cells (cat [#[.bool false],#[.int .i64 nt.n.nm],ints .u8 (nt.n.key),ints .u8 (nt.n.sg),ints .u8 (nt.n.pa),#[.slice nt.a nt.n.ms.length nt.c]]) 50):=by have h9:=r11_5; rw [hus] at h9; exact h9
   refine Qab ?_
   refine Qaa (.pointer (some ⟨g11,0,none⟩)) 22 rfl kj kj ?_
   refine Qaa (.bool false) 23 rfl kj (Qag 4 _ g11 0 50 _ (.bool false) _ rbx rfl kj (Qaj [] [#[.bool false]] [#[.int .i64 nt.n.nm],ints .u8 (nt.n.key),ints .u8 (nt.n.sg),ints .u8 (nt.n.pa),#[.slice nt.a nt.n.ms.length nt.c]] 0 kj 0 _ rfl) kj) ?_
   refine Qaa (.bool false) 24 rfl kj kj ?_
   refine Qad 25 rfl kj ?_
   refine Qad 26 rfl kj ?_
   refine Qaa (.bool false) 27 rfl kj kj ?_
   refine Qaa (.bool false) 28 rfl kj kj ?_
   refine Qad 29 rfl kj ?_
   refine Qad 30 rfl kj ?_
   refine Qad 31 rfl kj ?_
   refine Qad 32 rfl kj ?_
   refine Qad 33 rfl kj ?_
   refine Qad 34 rfl kj ?_
   refine Qaa (.bool false) 35 rfl kj kj ?_
   refine Qaa (.bool false) 36 rfl kj kj ?_
   refine Qad 37 rfl kj ?_
   refine Qad 38 rfl kj ?_
   refine Qad 39 rfl kj ?_
   refine Qad 40 rfl kj ?_
   refine Qad 41 rfl kj ?_
   refine Qad 42 rfl kj ?_
   refine Qaa (.bool false) 43 rfl kj kj ?_
   refine Qaf ?_
   refine hK13 _ _ ?_
   refine cond_false kj ?_
   refine wp_skip ?_
   refine hK9 _ _ ?_
   refine Qab ?_
   refine Qaa (.int .i64 ((i+1:Nat):Int)) 44 rfl kj (Qai (u:=.int .i64 (IntKind.i64.wrap (((i:Nat):Int)+1))) kj (congrArg (Value.int .i64) (i64n _ _ (by omega) (by omega)))) ?_
   refine Qaa (.int .i64 ((i+1:Nat):Int)) 12 rfl kj kj ?_
   refine Qaf ?_
   have y1_3:Ext W1 W3:=(Rely.Ext.trans e2 e3)
   have y1_4:Ext W1 W4:=(Puts.ext p4 y1_3 (qT e2.size l11))
   have y1_5:Ext W1 W5:=(Rely.Ext.trans y1_4 e5)
   repeat (first | with_reducible refine goX1 ?_ | with_reducible refine goX2 ?_ | with_reducible refine goX3 ?_)
   exact Qat (i+1) ⟨rfl,rfl,rfl,rfl,trivial⟩ ⟨(by omega),y1_5,x5⟩ (by show ts.length-(i+1)<ts.length-i; omega)
  ·skip
   have r11_5:=(Qah r11_4 e5)
   have rbx:W5.heap[g11]? = some (.cells (cat [#[.bool true],#[.int .i64 nt.n.nm],ints .u8 (nt.n.key),ints .u8 (nt.n.sg),ints .u8 (nt.n.pa),#[.slice nt.a nt.n.ms.length nt.c]]) 50):=by have h9:=r11_5; rw [hus] at h9; exact h9
   refine Qab ?_
   refine Qaa (.pointer (some ⟨g11,0,none⟩)) 22 rfl kj kj ?_
   refine Qaa (.bool true) 23 rfl kj (Qag 4 _ g11 0 50 _ (.bool true) _ rbx rfl kj (Qaj [] [#[.bool true]] [#[.int .i64 nt.n.nm],ints .u8 (nt.n.key),ints .u8 (nt.n.sg),ints .u8 (nt.n.pa),#[.slice nt.a nt.n.ms.length nt.c]] 0 kj 0 _ rfl) kj) ?_
   refine Qaa (.bool true) 24 rfl kj kj ?_
   refine Qaa (.int .i64 (-1)) 25 rfl kj kj ?_
   refine Qaa (.bool false) 26 rfl kj kj ?_
   refine Qaa (.bool false) 27 rfl kj kj ?_
   refine Qaa (.bool false) 28 rfl kj kj ?_
   refine Qad 29 rfl kj ?_
   refine Qad 30 rfl kj ?_
   refine Qad 31 rfl kj ?_
   refine Qad 32 rfl kj ?_
   refine Qad 33 rfl kj ?_
   refine Qad 34 rfl kj ?_
   refine Qaa (.bool false) 35 rfl kj kj ?_
   refine Qaa (.bool false) 36 rfl kj kj ?_
   refine Qad 37 rfl kj ?_
   refine Qad 38 rfl kj ?_
   refine Qad 39 rfl kj ?_
   refine Qad 40 rfl kj ?_
   refine Qad 41 rfl kj ?_
   refine Qad 42 rfl kj ?_
   refine Qaa (.bool false) 43 rfl kj kj ?_
   refine Qaf ?_
   refine hK13 _ _ ?_
   refine cond_false kj ?_
   refine wp_skip ?_
   refine hK9 _ _ ?_
   refine Qab ?_
   refine Qaa (.int .i64 ((i+1:Nat):Int)) 44 rfl kj (Qai (u:=.int .i64 (IntKind.i64.wrap (((i:Nat):Int)+1))) kj (congrArg (Value.int .i64) (i64n _ _ (by omega) (by omega)))) ?_
   refine Qaa (.int .i64 ((i+1:Nat):Int)) 12 rfl kj kj ?_
   refine Qaf ?_
   have y1_3:Ext W1 W3:=(Rely.Ext.trans e2 e3)
   have y1_4:Ext W1 W4:=(Puts.ext p4 y1_3 (qT e2.size l11))
   have y1_5:Ext W1 W5:=(Rely.Ext.trans y1_4 e5)
   repeat (first | with_reducible refine goX1 ?_ | with_reducible refine goX2 ?_ | with_reducible refine goX3 ?_)
   exact Qat (i+1) ⟨rfl,rfl,rfl,rfl,trivial⟩ ⟨(by omega),y1_5,x5⟩ (by show ts.length-(i+1)<ts.length-i; omega)
 ·skip
  have heq13:i=ts.length:=by have:=of_decide_eq_false c8; omega
  refine wp_exit ?_
  refine hK4 _ _ ?_
  refine wp_seq_k fun K14 hK14=>?_
  refine Qab ?_
  refine Qaa (.bool true) 2 rfl kj kj ?_
  refine Qaf ?_
  refine hK14 _ _ ?_
  refine wp_ret ?_
  repeat (first | with_reducible refine goR1 ?_ | with_reducible refine goR2 ?_)
  exact (show bodyPost _ _ _ .ret _ _ from ret1 (.bool true) rfl (Qaq kj) ⟨rfl,xx1⟩)
set_option maxRecDepth 100000 in
theorem Qdb (w : World) (hT:TabAt w) (hSh:ShT w):Calls Tryd.prog 8 #[] w (Ret w (.bool true)):=by
  refine enter 28 [] Tryd.func8 rfl rfl kj rfl ?_
  refine wp_seq_k fun K1 hK1=>?_
  refine Qab ?_
  refine Qaa (.bool false) 0 rfl kj kj ?_
  refine Qaf ?_
  refine hK1 _ _ ?_
  refine wp_seq_k fun K2 hK2=>?_
  refine Qab ?_
  refine Qaa (.agg (cat [#[.bool true],#[.int .i64 3],ints .u8 (List.replicate 32 0),ints .u8 (List.replicate 32 0),ints .u8 (List.replicate 32 0),#[.slice none 0 0]])) 4 rfl kj kj ?_
  refine QaD (cat (ndP (lf 3))) 50 1 5 rfl kj kj fun gO W1 lO e1 rO=>?_
  have x1:Ext w W1:=Ext.tr (Rely.Ext.refl w) e1
  have ht:=Qj6 lO rO (QlY 3) ⟨QlY 3,by decide,Qcw _ _ _ _⟩
  have hc3:chkT [lf 3]=true:=by decide +kernel
  obtain ⟨a_1,c_1,hv1⟩:∃ a c,(a,c)=((some (⟨gO,0,none⟩:Addr)),1):=⟨_,_,rfl⟩
  obtain ⟨ha1,hcc1⟩:=Prod.mk.inj hv1
  rw [←ha1] at ht
  show WL _ _ _ _ (Qa3 _ _ ((5,.slice (some ⟨gO,0,none⟩) 1 1)::_)) _
  rw [show (Value.slice (some ⟨gO,0,none⟩) 1 1)=.slice a_1 [lf 3].length c_1 by rw [ha1,hcc1]; rfl]
  refine Qaa (.slice a_1 [lf 3].length c_1) 1 rfl kj kj ?_
  refine Qaf ?_
  refine hK2 _ _ ?_
  refine wp_seq_k fun K3 hK3=>?_
  refine Qab ?_
  refine Qaa (.slice a_1 [lf 3].length c_1) 7 rfl kj kj ?_
  refine Qal (.tuple #[.agg (ints .u8 (dgN [lf 3] [] ([lf 3].length/2))),.bool true]) 11 #[.slice a_1 [lf 3].length c_1] 8 rfl kj kj (QcU [lf 3] a_1 c_1 _ (by decide) (fun i hi=>by obtain rfl:i=0:=Nat.lt_one_iff.1 hi; decide) hc3 _ (TrAt.ext ht (Rely.Ext.refl W1)) (TabAt.ext hT x1) (ShT.ext hSh x1)) fun W2 e2=>?_
  have x2:Ext w W2:=Ext.tr x1 e2
  refine Qaa (.tuple #[.agg (ints .u8 (dgN [lf 3] [] ([lf 3].length/2))),.bool true]) 6 rfl kj kj ?_
  refine Qaa (.agg (ints .u8 (dgN [lf 3] [] ([lf 3].length/2)))) 9 rfl kj kj ?_
  refine Qaa (.bool true) 10 rfl kj kj ?_
  refine Qan (ints .u8 (List.replicate 32 0)) 28 2 rfl kj kj fun g4 W3 l4 e3 r4_3=>?_
  have x3:Ext w W3:=Ext.tr x2 e3
  have b4:w.heap.size≤g4:=qT x2.size l4
  refine Qau g4 _ (ints .u8 (dgN [lf 3] [] ([lf 3].length/2))) 28 r4_3 rfl kj (Qas 28 _ _ g4 28 _ _ r4_3 rfl kj kj (isz (n:=32) kj ((Qae _ _).trans (QaL [lf 3] [] ([lf 3].length/2)))) (eqsz (n:=32) ((Qae _ _).trans (qZ (n:=32))) ((Qae _ _).trans (QaL [lf 3] [] ([lf 3].length/2)))) (Qaw _ _)) fun W4 p4 r4_4=>?_
  have x4:Ext w W4:=Puts.ext p4 x3 b4
  refine Qaa (.bool true) 3 rfl kj kj ?_
  refine Qaf ?_
  refine hK3 _ _ ?_
  refine wp_seq_k fun K5 hK5=>?_
  refine QdA kj fun W5 e5=>?_
  have x5:Ext w W5:=Ext.tr x4 e5
  refine QaQ 0 (.bool true) 11 rfl rfl kj kj (fun _ _ _ h=>h) (fun W hR=>by kernel_rfl) ?_
  refine QaQ 1 (.bool true) 12 rfl rfl kj kj (fun _ _ _ h=>h) (fun W hR=>by kernel_rfl) ?_
  have r4_5:=(Qah r4_4 e5)
  refine QaQ 2 (.agg (ints .u8 (dgN [lf 3] [] ([lf 3].length/2)))) 13 rfl rfl kj kj (fun _ _ _ h=>h) (fun W hR=>(Qa4 28 _ g4 28 _ _ (Qah r4_5 hR) rfl kj kj (isz (n:=32) kj ((Qae _ _).trans (QaL [lf 3] [] ([lf 3].length/2)))))) ?_
  refine QaQ 3 (.slice a_1 [lf 3].length c_1) 14 rfl rfl kj kj (fun _ _ _ h=>h) (fun W hR=>by kernel_rfl) ?_
  refine Qc1 4 kj ?_
  have y1_2:Ext W1 W2:=(Rely.Ext.trans (Rely.Ext.refl W1) e2)
  have y1_3:Ext W1 W3:=(Rely.Ext.trans y1_2 e3)
  have y1_4:Ext W1 W4:=(Puts.ext p4 y1_3 (qT y1_2.size l4))
  have y1_5:Ext W1 W5:=(Rely.Ext.trans y1_4 e5)
  refine QeM rfl (fun v W'=>v=(.agg (ints .u8 (dgN [lf 3] [] ([lf 3].length/2))))∧Ext W5 W') 13 #[.slice a_1 [lf 3].length c_1] 15 rfl kj kj ((QlI [lf 3] a_1 c_1 _ (by decide) (fun i hi=>by obtain rfl:i=0:=Nat.lt_one_iff.1 hi; decide) hc3 (by decide) _ (TrAt.ext ht y1_5)).mono fun e w' h=>⟨_,h.1,rfl,h.2⟩) (fun _ _ h=>Rely.Ext.trans (Rely.Ext.refl W5) h.2) fun vv6 W6 hh6=>?_
  obtain ⟨rfl,e6⟩:=hh6
  have x6:Ext w W6:=Ext.tr x5 e6
  refine QaQ 5 (.bool true) 16 rfl rfl kj kj (fun _ _ _ h=>h) (fun W hR=>(QaB 28 _ _ _ _ _ (.bool true) rfl kj kj kj (QaO 28 (e:=5) (k:=.u8) (dgN [lf 3] [] ([lf 3].length/2)) (dgN [lf 3] [] ([lf 3].length/2)) (decide_eq_true rfl) (QaL [lf 3] [] ([lf 3].length/2)) (QaL [lf 3] [] ([lf 3].length/2)) kj kj kj _))) ?_
  refine QaQ 6 (.bool true) 17 rfl rfl kj kj (fun _ _ _ h=>h) (fun W hR=>by kernel_rfl) ?_
  refine QaQ 7 (.bool true) 18 rfl rfl kj kj (fun _ _ _ h=>h) (fun W hR=>by kernel_rfl) ?_
  refine QaQ 8 (.slice a_1 [lf 3].length c_1) 19 rfl rfl kj kj (fun _ _ _ h=>h) (fun W hR=>by kernel_rfl) ?_
  refine Qc1 9 kj ?_
  have y1_6:Ext W1 W6:=(Rely.Ext.trans y1_5 e6)
  have y5_6:Ext W5 W6:=(Rely.Ext.trans (Rely.Ext.refl W5) e6)
  refine QeM rfl (fun v W'=>v=(.bool true)∧Ext W6 W') 18 #[.slice a_1 [lf 3].length c_1] 20 rfl kj kj ((QmF [lf 3] a_1 c_1 _ (by decide) (fun i hi=>by obtain rfl:i=0:=Nat.lt_one_iff.1 hi; decide) hc3 rfl _ (TrAt.ext ht y1_6) (TabAt.ext hT x6)).mono fun e w' h=>⟨_,h.1,rfl,h.2⟩) (fun _ _ h=>Rely.Ext.trans y5_6 h.2) fun vv7 W7 hh7=>?_
  obtain ⟨rfl,e7⟩:=hh7
  have x7:Ext w W7:=Ext.tr x6 e7
  refine QaQ 10 (.bool true) 21 rfl rfl kj kj (fun _ _ _ h=>h) (fun W hR=>by kernel_rfl) ?_
  refine QaQ 11 (.bool true) 22 rfl rfl kj kj (fun _ _ _ h=>h) (fun W hR=>by kernel_rfl) ?_
  refine QaQ 12 (.agg (cat [#[.bool false],#[.int .i64 0],ints .u8 (List.replicate 32 0),ints .u8 (List.replicate 32 0),ints .u8 (List.replicate 32 0),#[.slice none 0 0]])) 23 rfl rfl kj kj (fun _ _ _ h=>h) (fun W hR=>by kernel_rfl) ?_
  refine Qc1 13 kj ?_
  have y5_7:Ext W5 W7:=(Rely.Ext.trans y5_6 e7)
  refine Qj4 rfl (fun v W'=>NewS W7.heap.size (cat (ndP zn)) 50 1 v W'∧Ext W7 W') 24 rfl kj ⟨_,_,(by kernel_rfl:_=Result.ok (Next.value (.slice (some ⟨W7.heap.size,0,none⟩) 1 1)) (W7.alloc (.cells (cat (ndP zn)) 50))),⟨_,rfl,qR _,heap_alloc_new _ _⟩,Qck _ _⟩ (fun _ _ h=>Rely.Ext.trans y5_7 h.2) fun vz W8 hz=>?_
  obtain ⟨⟨gz,rfl,lz,rz⟩,e8⟩:=hz
  have x8:Ext w W8:=Ext.tr x7 e8
  have htz:=Qj6 lz rz Qey ⟨Qey,by decide,Qcw _ _ _ _⟩
  obtain ⟨a_2,c_2,hv2⟩:∃ a c,(a,c)=((some (⟨gz,0,none⟩:Addr)),1):=⟨_,_,rfl⟩
  obtain ⟨ha2,hcc2⟩:=Prod.mk.inj hv2
  rw [←ha2] at htz
  rw [show (Value.slice (some ⟨gz,0,none⟩) 1 1)=.slice a_2 [zn].length c_2 by rw [ha2,hcc2]; rfl]
  refine Qc1 14 kj ?_
  have y5_8:Ext W5 W8:=(Rely.Ext.trans y5_7 e8)
  refine QeM rfl (fun v W'=>v=(.bool false)∧Ext W8 W') 18 #[.slice a_2 [zn].length c_2] 25 rfl kj kj ((QmE [zn] a_2 c_2 _ (by decide) (fun i hi=>by obtain rfl:i=0:=Nat.lt_one_iff.1 hi; decide) (by decide +kernel) _ (TrAt.ext htz (Rely.Ext.refl W8)) (TabAt.ext hT x8)).mono fun e w' h=>⟨_,h.1,rfl,h.2⟩) (fun _ _ h=>Rely.Ext.trans y5_8 h.2) fun vv8 W9 hh8=>?_
  obtain ⟨rfl,e9⟩:=hh8
  have x9:Ext w W9:=Ext.tr x8 e9
  refine QaQ 15 (.bool true) 26 rfl rfl kj kj (fun _ _ _ h=>h) (fun W hR=>by kernel_rfl) ?_
  refine QaQ 16 (.bool true) 27 rfl rfl kj kj (fun _ _ _ h=>h) (fun W hR=>by kernel_rfl) ?_
  refine QaQ 17 (.bool true) 0 rfl rfl kj kj (fun _ _ _ h=>h) (fun W hR=>by kernel_rfl) ?_
  refine Qfr kj ?_
  refine hK5 _ _ ?_
  refine wp_ret ?_
  repeat (first | with_reducible refine goR1 ?_ | with_reducible refine goR2 ?_)
  exact (show bodyPost _ _ _ .ret _ _ from ret1 (.bool true) rfl (Qaq kj) ⟨rfl,x9⟩)
end Go.Proofs.YthfkppjajmjpnaaDoor.Te
end
section
namespace Go.Proofs.YthfkppjajmjpnaaDoor.Te
open Go Go.RowKit
open Rely Auto Own Seat Wk Sha
section
variable {P : Program} {ops : Array Oper} {Q : Exit → Act → World → Prop}
end
end Go.Proofs.YthfkppjajmjpnaaDoor.Te
end
section
namespace Go.Proofs.YthfkppjajmjpnaaDoor.Te
open Go Go.RowKit
open Rely Auto Own Seat Wk Sha
end Go.Proofs.YthfkppjajmjpnaaDoor.Te
end
section
namespace Go.Proofs.YthfkppjajmjpnaaDoor.Te
open Go Go.RowKit
open Rely Auto Own Seat Sha
def evI (y : Int):Bool:=decide (y%2=0)
structure Qhi (ns : List Int) (a b : Int) : Prop where
  rng:∀ y∈ns,2*a≤y∧y≤2*b
  nod:ns.Nodup
  inc:(ns.filter evI).Pairwise (· < ·)
theorem Qhi.nil (a b:Int):Qhi [] a b:=⟨(fun y hy=>by cases hy),List.nodup_nil,List.Pairwise.nil⟩
theorem Qhi.app {xs ys:List Int} {a b a1 b1 a2 b2:Int} (h1:Qhi xs a1 b1) (h2:Qhi ys a2 b2) (h:b1<a2) (ha:a≤a1) (ha2:a≤a2) (hb:b1≤b) (hb2:b2≤b):Qhi (xs++ys) a b:=by
  refine ⟨fun y hy=>?_,List.nodup_append.2 ⟨h1.nod,h2.nod,fun u hu v hv e=>?_⟩,?_⟩
  · rcases List.mem_append.1 hy with q | q
    · have:=h1.rng y q; omega
    · have:=h2.rng y q; omega
  · have q1:=h1.rng u hu; have q2:=h2.rng v hv; omega
  · rw [List.filter_append,List.pairwise_append]
    refine ⟨h1.inc,h2.inc,fun u hu v hv=>?_⟩
    have q1:=h1.rng u (List.mem_filter.1 hu).1; have q2:=h2.rng v (List.mem_filter.1 hv).1; omega
theorem QlT {xs : List Int} {y:Int}:y∈xs↔∃ i,i<xs.length∧nth xs i=y:=by
  constructor
  · intro h
    obtain ⟨i,hi,e⟩:=List.mem_iff_getElem.1 h
    exact ⟨i,hi,by unfold nth; rw [List.getD_eq_getElem?_getD,List.getElem?_eq_getElem hi]; exact e⟩
  · rintro ⟨i,hi,rfl⟩
    exact Qf8 hi
end Go.Proofs.YthfkppjajmjpnaaDoor.Te
end
section
namespace Go.Proofs.YthfkppjajmjpnaaDoor.Te
open Go Go.RowKit
open Rely Auto Own Seat Sha
theorem Qgp {ts : List NdV} {L:Nat} (f:Form ts L) (wo:List Int):∀ k j x,x<ts.length→lv ((x:Nat):Int)≤((k:Nat):Int)→k≤j→txtN ts wo k x=txtN ts wo j x:=by
  have hlen:=f.len
  have hTr:=f.tr
  intro k
  induction k with
  | zero =>
    intro j x hx hl _
    have h0:kidL ((x:Nat):Int)<0:=by unfold kidL; rw [if_pos (by omega)]; decide
    rw [Qbr 0 h0,Qbr j h0]
  | succ k ih =>
    intro j x hx hl hj
    by_cases q:kidL ((x:Nat):Int)<0
    · rw [Qbr _ q,Qbr _ q]
    · rcases Qcj (QaS hTr (x:=x) (by omega)) with ⟨-,⟨h0,h1⟩ | ⟨h2,h3,h4,h5⟩⟩
      · omega
      · obtain ⟨l,hl0⟩:=Int.eq_ofNat_of_zero_le (Qcb h2)
        obtain ⟨r,hr0⟩:=Int.eq_ofNat_of_zero_le (Qcb h3)
        have hll:=Qcc h2
        have hrl:=Qcc h3
        obtain ⟨i,rfl⟩:∃ i,j=i+1:=⟨j-1,by omega⟩
        rw [Qco k hl0 hr0,Qco i hl0 hr0,ih i l (by omega) (by rw [←hl0]; omega) (by omega),ih i r (by omega) (by rw [←hr0]; omega) (by omega)]
def txT (ts : List NdV) (x:Nat):List Int:=txtN ts [] 5 x
theorem QeR {ts : List NdV} {x:Nat} (hx:x≤1000000) (he:x%2=0):txT ts x=[1,IntKind.u8.wrap ((x/2:Nat):Int)]++QaI (ndi ts x).n:=by
  unfold txT
  rw [Qbr 5 (Qfg hx he)]
  unfold Qce QdM
  rw [if_neg (by simp)]
theorem QeQ {ts : List NdV} {L x l r:Nat} (f:Form ts L) (hx:x<ts.length) (hl:kidL ((x:Nat):Int)=((l:Nat):Int)) (hr:kidR ((x:Nat):Int)=((r:Nat):Int)) (hll:l<ts.length) (hrl:r<ts.length) (h1:lv ((l:Nat):Int)≤4) (h2:lv ((r:Nat):Int)≤4):txT ts x=(([2]++QaI (ndi ts x).n)++dig (txT ts l))++dig (txT ts r):=by
  unfold txT
  rw [Qco 4 hl hr,Qdj,Qgp f [] 4 5 l hll h1 (by decide),Qgp f [] 4 5 r hrl h2 (by decide)]
theorem Qit {a b:Int} (ha:0≤a∧a≤255) (hb:0≤b∧b≤255) (h:Wr.byV a 0=Wr.byV b 0):a=b:=by
  rw [←Wr.byV0,←Wr.byV0] at h
  have e:∀ z:Int,IntKind.u8.wrap z=z%2^8:=fun _=>rfl
  rw [e,e] at h
  omega
theorem QgB {ms : List Int}:∀ {n:Nat},Wr.goodN ms n=true→∀ i,i<n→0≤nth ms i∧nth ms i≤31
  | 0,_,i,hi=>absurd hi (Nat.not_lt_zero _)
  | n+1,h,i,hi=>by
    unfold Wr.goodN at h
    simp only [Bool.and_eq_true] at h
    rcases Nat.lt_or_ge i n with h2 | h2
    · exact QgB h.1 i h2
    · obtain rfl:i=n:=by omega
      have h3:=h.2.1
      unfold Wr.inB at h3
      simpa using h3
theorem QkL {a b:List Int} (ha:∀ x∈a,0≤x∧x≤255) (hb:∀ x∈b,0≤x∧x≤255) (h:a.map (fun m=>Wr.byV m 0)=b.map (fun m=>Wr.byV m 0)):a=b:=by
  induction a generalizing b with
  | nil=>cases b with
    | nil=>rfl
    | cons=>cases h
  | cons x a ih =>
    cases b with
    | nil=>cases h
    | cons y b =>
      simp only [List.map_cons,List.cons.injEq] at h
      rw [Qit (ha x List.mem_cons_self) (hb y List.mem_cons_self) h.1,ih (fun z hz=>ha z (List.mem_cons_of_mem _ hz)) (fun z hz=>hb z (List.mem_cons_of_mem _ hz)) h.2]
theorem QgD {n : NdC} (g:gdN n=true):(0≤n.nm∧n.nm≤255)∧n.ms.length≤32∧∀ x∈n.ms,0≤x∧x≤255:=by
  unfold gdN Wr.goodV at g
  simp only [Bool.and_eq_true,decide_eq_true_eq] at g
  have h1:=g.1.1
  unfold Wr.inB at h1
  simp only [Bool.and_eq_true,decide_eq_true_eq] at h1
  refine ⟨h1,g.1.2,fun x hx=>?_⟩
  obtain ⟨i,hi,rfl⟩:=QlT.1 hx
  have h2:=QgB g.2.1 i hi
  omega
theorem Qf9 {n m:NdC} (hn:NdOk n) (hm:NdOk m) (gn:gdN n=true) (gm:gdN m=true) (h:QaI n=QaI m):n=m:=by
  obtain ⟨a1,a2,a3⟩:=QgD gn
  obtain ⟨b1,b2,b3⟩:=QgD gm
  unfold QaI Wr.nodeV Wr.nodeH at h
  have hl:n.ms.length=m.ms.length:=by
    have:=congrArg List.length h
    simp only [List.length_append,List.length_cons,List.length_nil,List.length_map,hn.kl,hn.gl,hn.pl,hm.kl,hm.gl,hm.pl] at this
    omega
  have h1:=List.append_inj h (by simp only [List.length_append,List.length_cons,List.length_nil,hn.kl,hn.gl,hn.pl,hm.kl,hm.gl,hm.pl])
  have h2:=List.append_inj h1.1 (by simp only [List.length_append,List.length_cons,List.length_nil,hn.kl,hn.gl,hn.pl,hm.kl,hm.gl,hm.pl])
  have h3:=List.append_inj h2.1 (by simp only [List.length_append,List.length_cons,List.length_nil,hn.kl,hn.gl,hn.pl,hm.kl,hm.gl,hm.pl])
  have h4:=List.append_inj h3.1 (by simp only [List.length_append,List.length_cons,List.length_nil,hn.kl,hn.gl,hn.pl,hm.kl,hm.gl,hm.pl])
  have h5:=List.append_inj h4.1 (by simp only [List.length_cons,List.length_nil])
  simp only [List.cons.injEq,and_true] at h5
  have e1:n.us=m.us:=by
    have:=h5.1.1
    cases hu:n.us <;> cases hv:m.us <;> rw [hu,hv] at this <;> first | rfl | exact absurd this (by decide)
  have e2:=Qit a1 b1 h5.1.2
  have e3:=QkL a3 b3 h1.2
  cases n; cases m
  simp only at e1 e2 e3 h2 h3 h4 h5
  obtain ⟨rfl,rfl,rfl⟩:=And.intro e1 (And.intro e2 e3)
  obtain ⟨rfl,rfl,rfl⟩:=And.intro h5.2 (And.intro h4.2 h3.2)
  rfl
theorem Qg5 : Qbp (fun n x=>decide (kidL x<0) || (decide (kidL x+kidR x=2*x)&&decide ((bel (kidL x) n).1=(bel x n).1)&&decide ((bel (kidR x) n).2=(bel x n).2)&&decide (2*(bel (kidL x) n).2+1=x)&&decide (2*(bel (kidR x) n).1=x+1)))=true:=by decide +kernel
theorem Qj0 : Qbp (fun n x=>!decide (x=n-1) || (decide ((bel x n).1=0)&&decide ((bel x n).2=n-1)))=true:=by decide +kernel
theorem Qiu : Qbp (fun n x=>decide (x%2=1) || (decide ((bel x n).1=x/2)&&decide ((bel x n).2=x/2)))=true:=by decide +kernel
theorem QiA {ts us:List NdV} {L M:Nat} (f:Form ts L) (g:Form us M) (ok1:∀ x,x<ts.length→NdOk (ndi ts x).n) (ok2:∀ x,x<us.length→NdOk (ndi us x).n) (hP:∀ x y,x<ts.length→y<us.length→dig (txT ts x)=dig (txT us y)→txT ts x=txT us y):∀ k x y,x<ts.length→y<us.length→lv ((x:Nat):Int)≤((k:Nat):Int)→txT ts x=txT us y→x=y∧∀ z:Nat,2*(bel ((x:Nat):Int) ((L:Nat):Int)).1≤((z:Nat):Int)→((z:Nat):Int)≤2*(bel ((x:Nat):Int) ((L:Nat):Int)).2→(ndi ts z).n=(ndi us z).n:=by
  have hlen:=f.len
  have hTr:=f.tr
  have hlen2:=g.len
  have hTr2:=g.tr
  have hL6:=Qa9 hTr
  have hM6:=Qa9 hTr2
  have gd1:∀ x,x<ts.length→gdN (ndi ts x).n=true:=fun x hx=>by have h9:=Qg9 f hx []; rw [Qdj] at h9; exact h9
  have gd2:∀ x,x<us.length→gdN (ndi us x).n=true:=fun x hx=>by have h9:=Qg9 g hx []; rw [Qdj] at h9; exact h9
  have kid:∀ {vs:List NdV} {N x:Nat},Form vs N→x<vs.length→x%2=1→∃ l r:Nat,kidL ((x:Nat):Int)=((l:Nat):Int)∧kidR ((x:Nat):Int)=((r:Nat):Int)∧l<vs.length∧r<vs.length∧lv ((l:Nat):Int)=lv ((x:Nat):Int)-1∧lv ((r:Nat):Int)=lv ((x:Nat):Int)-1∧l+r=2*x:=fun {vs N x} h hx ho=>by
    have hl:=h.len
    have hn:=QaS h.tr (x:=x) (by omega)
    rcases Qcj hn with ⟨-,⟨h0,h1⟩ | ⟨h2,h3,h4,h5⟩⟩
    · have:=QgH hn h0; omega
    · obtain ⟨l,hl0⟩:=Int.eq_ofNat_of_zero_le (Qcb h2)
      obtain ⟨r,hr0⟩:=Int.eq_ofNat_of_zero_le (Qcb h3)
      have hll:=Qcc h2
      have hrl:=Qcc h3
      have h6:=QaJ Qg5 hn
      simp only [Bool.or_eq_true,Bool.and_eq_true,decide_eq_true_eq] at h6
      rw [hl0,hr0] at h6
      have h7:=h6.resolve_left (by omega)
      exact ⟨l,r,hl0,hr0,by omega,by omega,by rw [←hl0]; exact h4,by rw [←hr0]; exact h5,by omega⟩
  have leaf:∀ x y,x<ts.length→y<us.length→x%2=0→txT ts x=txT us y→x=y∧∀ z:Nat,2*(bel ((x:Nat):Int) ((L:Nat):Int)).1≤((z:Nat):Int)→((z:Nat):Int)≤2*(bel ((x:Nat):Int) ((L:Nat):Int)).2→(ndi ts z).n=(ndi us z).n:=fun x y hx hy he e=>by
    rw [QeR (by omega) he] at e
    rcases Nat.mod_two_eq_zero_or_one y with q | q
    · rw [QeR (by omega) q] at e
      have h1:=List.append_inj e rfl
      simp only [List.cons.injEq,and_true,true_and] at h1
      have e8:∀ z:Int,IntKind.u8.wrap z=z%2^8:=fun _=>rfl
      rw [e8,e8] at h1
      obtain rfl:x=y:=by omega
      have h2:=Qf9 (ok1 x hx) (ok2 x hy) (gd1 x hx) (gd2 x hy) h1.2
      refine ⟨rfl,fun z ha hb=>?_⟩
      have h3:=QaJ Qiu (QaS hTr (x:=x) (by omega))
      simp only [Bool.or_eq_true,Bool.and_eq_true,decide_eq_true_eq] at h3
      obtain rfl:z=x:=by omega
      exact h2
    · obtain ⟨l,r,hl,hr,hll,hrl,h1,h2,-⟩:=kid g hy q
      have h5:=QcW g hy
      rw [QeQ g hy hl hr hll hrl (by omega) (by omega)] at e
      simp only [List.cons_append,List.nil_append,List.cons.injEq] at e
      exact absurd e.1 (by decide)
  intro k
  induction k with
  | zero =>
    intro x y hx hy hl e
    exact leaf x y hx hy (Qip (by omega) hl) e
  | succ k ih =>
    intro x y hx hy hl e
    rcases Nat.mod_two_eq_zero_or_one x with he | ho
    · exact leaf x y hx hy he e
    obtain ⟨l,r,hkl,hkr,hll,hrl,h1,h2,h3⟩:=kid f hx ho
    have h5:=QcW f hx
    rw [QeQ f hx hkl hkr hll hrl (by omega) (by omega)] at e
    rcases Nat.mod_two_eq_zero_or_one y with q | q
    · rw [QeR (by omega) q] at e
      simp only [List.cons_append,List.nil_append,List.cons.injEq] at e
      exact absurd e.1 (by decide)
    · obtain ⟨l',r',hl',hr',hll',hrl',h1',h2',h3'⟩:=kid g hy q
      have h5':=QcW g hy
      rw [QeQ g hy hl' hr' hll' hrl' (by omega) (by omega)] at e
      have hlen9:=congrArg List.length e
      simp only [List.length_append,QaE,Qb0 (ok1 x hx),Qb0 (ok2 y hy),List.length_cons,List.length_nil] at hlen9
      have q1:=List.append_inj e (by simp only [List.length_append,QaE,Qb0 (ok1 x hx),Qb0 (ok2 y hy),List.length_cons,List.length_nil]; omega)
      have q2:=List.append_inj q1.1 (by simp only [List.length_append,QaE,Qb0 (ok1 x hx),Qb0 (ok2 y hy),List.length_cons,List.length_nil]; omega)
      have q3:=List.append_inj q2.1 rfl
      have hnode:=Qf9 (ok1 x hx) (ok2 y hy) (gd1 x hx) (gd2 y hy) q3.2
      obtain ⟨rfl,hL⟩:=ih l l' hll hll' (by omega) (hP l l' hll hll' q2.2)
      obtain ⟨rfl,hR⟩:=ih r r' hrl hrl' (by omega) (hP r r' hrl hrl' q1.2)
      obtain rfl:x=y:=by omega
      refine ⟨rfl,fun z ha hb=>?_⟩
      have h6:=QaJ Qg5 (QaS hTr (x:=x) (by omega))
      simp only [Bool.or_eq_true,Bool.and_eq_true,decide_eq_true_eq] at h6
      rw [hkl,hkr] at h6
      have h7:=h6.resolve_left (by omega)
      rcases Nat.lt_trichotomy z x with hz | hz | hz
      · exact hL z (by omega) (by omega)
      · rw [hz]; exact hnode
      · exact hR z (by omega) (by omega)
theorem unlike {ts us:List NdV} {L M:Nat} (f:Form ts L) (g:Form us M) (ok1:∀ x,x<ts.length→NdOk (ndi ts x).n) (ok2:∀ x,x<us.length→NdOk (ndi us x).n) (hP:∀ x y,x<ts.length→y<us.length→dig (txT ts x)=dig (txT us y)→txT ts x=txT us y) (h:dgN ts [] (ts.length/2)=dgN us [] (us.length/2)):AsC us ts:=by
  have hlen:=f.len
  have hTr:=f.tr
  have hlen2:=g.len
  have hL6:=Qa9 hTr
  have hM6:=Qa9 g.tr
  obtain ⟨e,hz⟩:=QiA f g ok1 ok2 hP 5 (ts.length/2) (us.length/2) (by omega) (by omega) (QcW f (by omega)) (hP _ _ (by omega) (by omega) h)
  have h3:=QaJ Qj0 (QaS hTr (x:=ts.length/2) (by omega))
  simp only [Bool.or_eq_true,Bool.not_eq_true',decide_eq_false_iff_not,Bool.and_eq_true,decide_eq_true_eq] at h3
  have h4:=h3.resolve_left (fun q=>q (by omega))
  exact ⟨by omega,fun j hj=>(hz j (by omega) (by omega)).symm⟩
end Go.Proofs.YthfkppjajmjpnaaDoor.Te
end
section
namespace Go.Proofs.YthfkppjajmjpnaaDoor.Te
open Go Go.RowKit
open Rely Auto Own Seat Sha
theorem QfC {α β:Type} {f:α→Option β}:∀ (is:List α),(∀ i∈is,∃ y,f i=some y)→∃ ys,is.mapM f=some ys
  | [],_=>⟨[],rfl⟩
  | i::is,h=>by
    obtain ⟨y,hy⟩:=h i List.mem_cons_self
    obtain ⟨ys,hys⟩:=QfC is fun j hj=>h j (List.mem_cons_of_mem _ hj)
    exact ⟨y::ys,by simp [List.mapM_cons,hy,hys]⟩
theorem QhZ {P : Program} {k e:TypeId} (A:WideMaps.ArrKey P k e 32) (he:P.underlying e=some (.int .u8)) (hkt:P.keyType k=true) (hsz:∃ m,P.types.size=m+1) {d:List Int} (hl:d.length=32) (hb:Qav d):∃ l,keyOf P k (.agg (ints .u8 d))=some l:=by
  obtain ⟨m,hm⟩:=hsz
  have hs:(ints .u8 d).size=32:=by rw [Qae]; exact hl
  have hf:(Value.agg (ints .u8 d)).formed P k=true:=by unfold Value.formed; rw [A.hu,A.size]; show ((ints .u8 d).size==32)=true; rw [hs]; rfl
  obtain ⟨ys,hys⟩:=QfC (f:=fun i=>P.keyLits (m+1) e (((ints .u8 d).toList.drop (i*P.cellsOf e)).take (P.cellsOf e))) (List.range 32) fun i hi=>by
    have hi:=List.mem_range.1 hi
    have hx:=hb (nth d i) (Qf8 (by omega))
    refine ⟨[.int .u8 (nth d i)],?_⟩
    have e1:((ints .u8 d).toList.drop (i*P.cellsOf e)).take (P.cellsOf e)=[.int .u8 (nth d i)]:=by
      rw [A.one,Nat.mul_one]
      have h9:=QaU .u8 d i (by omega)
      rw [←Array.getElem?_toList] at h9
      have hlt:i<(ints .u8 d).toList.length:=by rw [Array.length_toList,hs]; exact hi
      rw [List.drop_eq_getElem_cons hlt]
      rw [List.getElem?_eq_getElem hlt] at h9
      rw [Option.some.inj h9]; rfl
    rw [e1]
    unfold Program.keyLits
    rw [he]
    show (if _ then _ else _)=_
    rw [if_pos ⟨rfl,by simp only [Lit.wf,Bool.and_eq_true,decide_eq_true_eq]; exact hx⟩]
  refine ⟨.string (keyBytes ys.flatten),?_⟩
  unfold keyOf
  rw [A.hu]
  show (if _ then _ else _)=_
  rw [hkt,hf,hm,Bool.and_self,if_pos rfl]
  have:P.keyLits (m+1+1) k (Value.agg (ints .u8 d)).cells.toList=some ys.flatten:=by
    unfold Program.keyLits
    rw [A.hu]
    show (if (ints .u8 d).toList.length=P.cellsOf k then _ else none)=_
    rw [if_pos (by rw [Array.length_toList,hs,A.size])]
    show Option.map List.flatten ((List.range 32).mapM fun i=>P.keyLits (m+1) e (((ints .u8 d).toList.drop (i*P.cellsOf e)).take (P.cellsOf e)))=_
    rw [hys]; rfl
  rw [this]; rfl
def bstr (ns : List Int):ByteArray:=ns.foldl (fun r n=>r.push (UInt8.ofNat n.toNat)) ByteArray.empty
theorem QfK : ∀ (ns:List Int) (s:ByteArray),(ns.foldl (fun r n=>r.push (UInt8.ofNat n.toNat)) s).data.toList=s.data.toList++ns.map fun n=>UInt8.ofNat n.toNat
  | [],s=>by simp
  | n::ns,s=>by
    rw [List.foldl_cons,QfK ns]
    show (s.data.push _).toList++_=_
    simp
theorem Qjz {xs ys:List Int} (hx:Qav xs) (hy:Qav ys) (h:bstr xs=bstr ys):xs=ys:=by
  have h1:=congrArg (fun s:ByteArray=>s.data.toList) h
  unfold bstr at h1
  simp only [QfK] at h1
  have h2:=List.append_cancel_left h1
  clear h h1
  induction xs generalizing ys with
  | nil=>cases ys with
    | nil=>rfl
    | cons=>cases h2
  | cons x xs ih =>
    cases ys with
    | nil=>cases h2
    | cons y ys =>
      simp only [List.map_cons,List.cons.injEq] at h2
      have a1:=hx x List.mem_cons_self
      have a2:=hy y List.mem_cons_self
      have e:x.toNat=y.toNat:=by
        have h3:=congrArg UInt8.toNat h2.1
        simp only [UInt8.toNat_ofNat'] at h3
        omega
      rw [show x=y by omega,ih (fun z hz=>hx z (List.mem_cons_of_mem _ hz)) (fun z hz=>hy z (List.mem_cons_of_mem _ hz)) h2.2]
def SmAt (g : Nat) (done:List (List Int)) (W:World):Prop:=∃ es c,W.heap[g]? = some (.map es c)∧(∀ e∈es.toList,∃ A∈done,e.key=.agg (ints .u8 (dig A))∧e.val=.string (bstr A))∧∀ A∈done,∃ e∈es.toList,e.key=.agg (ints .u8 (dig A))
theorem SmAt.lt {g : Nat} {m:List (List Int)} {W:World} (h:SmAt g m W):g<W.heap.size:=by obtain ⟨es,c,h1,-⟩:=h; exact Qa5 h1
theorem SmAt.keep {g : Nat} {m:List (List Int)} {W W':World} (h:SmAt g m W) (e:W'.heap[g]? = W.heap[g]?):SmAt g m W':=by obtain ⟨es,c,h1,h2⟩:=h; exact ⟨es,c,e.trans h1,h2⟩
theorem SmAt.ext {g : Nat} {m:List (List Int)} {W W':World} (h:SmAt g m W) (e:Ext W W'):SmAt g m W':=h.keep (e.block g h.lt)
theorem SmAt.ne {g k:Nat} {m:List (List Int)} {W:World} {cs:Array Value} {T:TypeId} {fr:Nat×Nat} (h:SmAt g m W) (r:W.heap[k]? = some (.cells cs T fr)):k≠g:=fun e=>by
  obtain ⟨es,c,h1,-⟩:=h
  rw [e,h1] at r
  cases r
theorem SmAt.puts {g k:Nat} {m:List (List Int)} {W W':World} (h:SmAt g m W) (p:Puts W k W') (hn:g≠k):SmAt g m W':=h.keep (p.2.2.2.2 g hn)
theorem Qlv {xs ys:List Int} (h:Value.agg (ints .u8 xs)=Value.agg (ints .u8 ys)):xs=ys:=by
  have h1:ints .u8 xs=ints .u8 ys:=by injection h
  have hl:xs.length=ys.length:=by have:=congrArg Array.size h1; rwa [Qae,Qae] at this
  refine QdC hl fun i hi=>?_
  have h2:=congrArg (fun a:Array Value=>a[i]?) h1
  simp only [QaU _ _ _ hi,QaU _ _ _ (show i<ys.length by omega)] at h2
  injection h2 with h3
  injection h3
section
variable {P : Program} {ρ : Operand → Value} {o : Oper} {w : World}
structure Qc3 (P : Program) (t kt et e : TypeId) : Prop where
  ht:P.underlying t=some (.map kt et)
  ak:WideMaps.ArrKey P kt e 32
  he:P.underlying e=some (.int .u8)
  hkt:P.keyType kt=true
  hsz:∃ m,P.types.size=m+1
theorem Qc3.keys {t kt et e:TypeId} (S:Qc3 P t kt et e) (A:List Int):∃ l,keyOf P kt (.agg (ints .u8 (dig A)))=some l:=QhZ S.ak S.he S.hkt S.hsz (QaE _) (QcE _)
theorem Qf2 {t kt et e:TypeId} (S:Qc3 P t kt et e) (m k:Operand) {g:Nat} {x:List Int} {done:List (List Int)} (ho:o.op=.lookup t m k true) (hm:ρ m=.map (some g)) (hk:ρ k=.agg (ints .u8 (dig x))) (h:SmAt g done w) (hz:(zeroValue et).run P w=.ok (.string ByteArray.empty) w) :
    ((∀ A∈done,dig A≠dig x)∧(execOp ρ o).run P w=.ok (.value (.tuple #[.string ByteArray.empty,.bool false])) w)∨∃ A∈done,dig A=dig x∧(execOp ρ o).run P w=.ok (.value (.tuple #[.string (bstr A),.bool true])) w:=by
  obtain ⟨es,c,hg,h1,h2⟩:=h
  obtain ⟨l,hkey⟩:=S.keys x
  have hall:∀ e∈es.toList,∃ l,keyOf P kt e.key=some l:=fun e he=>by
    obtain ⟨A,-,hA,-⟩:=h1 e he
    rw [hA]; exact S.keys A
  have fin:∀ v,(Instr.lookup t (.map (some g)) (.agg (ints .u8 (dig x))) true).run P w=.ok v w→(execOp ρ o).run P w=.ok (.value v) w:=fun v hl=>by
    unfold execOp
    simp only [ho,hm,hk,Sem.run_bind,hl,Result.andThen_ok,Sem.run_pure]
  rcases S.ak.law.find w hkey es.toList hall with ⟨q1,q2⟩ | ⟨j,e0,q1,q2,q3⟩
  · refine .inl ⟨fun A hA e=>?_,fin _ ?_⟩
    · obtain ⟨e0,he0,hk0⟩:=h2 A hA
      exact q2 e0 he0 (by rw [hk0,e])
    · simp [Instr.lookup,run_underlying S.ht,MapKept.run_getObj_map hg,S.ak.law.check w _ hkey,q1,hz,Result.andThen]
  · obtain ⟨A,hA,k0,v0⟩:=h1 e0 (List.mem_of_getElem? q2)
    refine .inr ⟨A,hA,Qlv (k0.symm.trans q3),fin _ ?_⟩
    simp [Instr.lookup,run_underlying S.ht,MapKept.run_getObj_map hg,S.ak.law.check w _ hkey,q1,Result.andThen,v0]
theorem QiI {t kt et e:TypeId} (S:Qc3 P t kt et e) (m k y:Operand) {g:Nat} {x:List Int} {done:List (List Int)} (ho:o.op=.mapUpdate t m k y) (hm:ρ m=.map (some g)) (hk:ρ k=.agg (ints .u8 (dig x))) (hy:ρ y=.string (bstr x)) (h:SmAt g done w) :
    ∃ W',(execOp ρ o).run P w=.ok .skip W'∧Puts w g W'∧SmAt g (done++[x]) W':=by
  obtain ⟨es,c,hg,h1,h2⟩:=h
  obtain ⟨l,hkey⟩:=S.keys x
  have hall:∀ e∈es.toList,∃ l,keyOf P kt e.key=some l:=fun e he=>by
    obtain ⟨A,-,hA,-⟩:=h1 e he
    rw [hA]; exact S.keys A
  have fin:∀ W',(Instr.mapUpdate t (.map (some g)) (.agg (ints .u8 (dig x))) (.string (bstr x))).run P w=.ok () W'→(execOp ρ o).run P w=.ok .skip W':=fun W' hl=>by
    unfold execOp
    simp only [ho,hm,hk,hy,Sem.run_bind,hl,Result.andThen_ok,Sem.run_pure]
  rcases S.ak.law.find w hkey es.toList hall with ⟨q1,q2⟩ | ⟨j,e0,q1,q2,q3⟩
  · have hh:=MapKept.heap_set (o':=.map (es.push { key:=.agg (ints .u8 (dig x)),val:=.string (bstr x),born:=c }) (c+1)) hg
    refine ⟨{ w with heap:=w.heap.setIfInBounds g (.map (es.push { key:=.agg (ints .u8 (dig x)),val:=.string (bstr x),born:=c }) (c+1)) },fin _ ?_,⟨rfl,rfl,rfl,by simp,fun i hi=>hh.2 i hi⟩,_,_,hh.1,fun e he=>?_,fun A hA=>?_⟩
    · simp [Instr.mapUpdate,run_underlying S.ht,MapKept.run_getObj_map hg,S.ak.law.check w _ hkey,q1,MapKept.run_setObj_map _ hg,Result.andThen]
    · simp only [Array.toList_push,List.mem_append,List.mem_singleton] at he
      rcases he with he | rfl
      · obtain ⟨A,hA,h3⟩:=h1 e he
        exact ⟨A,List.mem_append_left _ hA,h3⟩
      · exact ⟨x,List.mem_append_right _ (List.mem_singleton_self _),rfl,rfl⟩
    · simp only [Array.toList_push]
      rcases List.mem_append.1 hA with hA | hA
      · obtain ⟨e0,he0,hk0⟩:=h2 A hA
        exact ⟨e0,List.mem_append_left _ he0,hk0⟩
      · rw [List.mem_singleton.1 hA]
        exact ⟨_,List.mem_append_right _ (List.mem_singleton_self _),rfl⟩
  · have hj:es[j]? = some e0:=by simpa using q2
    have hh:=MapKept.heap_set (o':=.map (es.modify j fun e=>{ e with key:=.agg (ints .u8 (dig x)),val:=.string (bstr x) }) c) hg
    refine ⟨{ w with heap:=w.heap.setIfInBounds g (.map (es.modify j fun e=>{ e with key:=.agg (ints .u8 (dig x)),val:=.string (bstr x) }) c) },fin _ ?_,⟨rfl,rfl,rfl,by simp,fun i hi=>hh.2 i hi⟩,_,_,hh.1,fun e he=>?_,fun A hA=>?_⟩
    · simp [Instr.mapUpdate,run_underlying S.ht,MapKept.run_getObj_map hg,S.ak.law.check w _ hkey,q1,hj,q3,S.ak.law.stays w hkey,MapKept.run_setObj_map _ hg,Result.andThen]
    · rcases MapFrom.mem_modify he with he | ⟨e',_,rfl⟩
      · obtain ⟨A,hA,h3⟩:=h1 e he
        exact ⟨A,List.mem_append_left _ hA,h3⟩
      · exact ⟨x,List.mem_append_right _ (List.mem_singleton_self _),rfl,rfl⟩
    · have hex:∃ e0∈es.toList,e0.key=.agg (ints .u8 (dig A)):=by
        rcases List.mem_append.1 hA with hA | hA
        · exact h2 A hA
        · rw [List.mem_singleton.1 hA]; exact ⟨e0,List.mem_of_getElem? q2,q3⟩
      obtain ⟨e1,he1,hk1⟩:=hex
      obtain ⟨i,hi,ei⟩:=List.mem_iff_getElem.1 he1
      refine ⟨_,List.getElem_mem (l:=(es.modify j fun e=>{ e with key:=.agg (ints .u8 (dig x)),val:=.string (bstr x) }).toList) (n:=i) (by simpa using hi),?_⟩
      simp only [Array.getElem_toList,Array.getElem_modify]
      split
      · next q =>
        subst q
        have:e1=e0:=by
          have h5:es.toList[j]? = some e1:=by rw [List.getElem?_eq_getElem hi,ei]
          rw [q2] at h5; exact (Option.some.inj h5).symm
        rw [←hk1,this,q3]
      · rw [←hk1,←ei]; simp
end
end Go.Proofs.YthfkppjajmjpnaaDoor.Te
end
section
namespace Go.Proofs.YthfkppjajmjpnaaDoor.Te
open Go Go.RowKit
open Rely Auto Own Seat Sha
def txs (ls : List (List Int)) (i:Nat):List Int:=ls.getD i []
def vls (vs : List Value) (i:Nat):Value:=vs.getD i (.slice none 0 0)
structure OwS (base : Nat) (vs : List Value) (ls : List (List Int)) (v : Value) (W : World) : Prop where
  len:vs.length=ls.length
  row:W.ownsRow base 59 1 v vs.length vs
  each:∀ i,i<vs.length→OwnN .u8 5 base (txs ls i) (vls vs i) W
theorem OwS.rowBlock {base g:Nat} {vs:List Value} {ls:List (List Int)} {v:Value} {W:World} (t:OwS base vs ls v W) (hg:v.ownBlock=some g):base≤g∧∃ cur,W.heap[g]? = some (.cells cur 59):=by
  rcases t.row.2 with ⟨rfl,_⟩ | ⟨g',c,cur,rfl,q2,q3,_⟩
  · cases hg
  · obtain rfl:g'=g:=Option.some.inj hg
    exact ⟨q2,cur,q3⟩
theorem Qk9 (base : Nat) (W:World):OwS base [] [] (.slice none 0 0) W :=
  ⟨rfl,World.ownsRow_nil W base 59 1,fun i hi=>absurd hi (Nat.not_lt_zero _)⟩
theorem OwS.opens {base : Nat} {vs:List Value} {ls:List (List Int)} {v:Value} {W:World} (t:OwS base vs ls v W) (h0:0<vs.length):∃ g c,v=.slice (some ⟨g,0,none⟩) vs.length c∧base≤g∧g<W.heap.size∧vs.length≤c∧c≤maxLen∧∀ j,j<vs.length→W.cell? ⟨g,j,none⟩=some (vls vs j):=by
  rcases t.row.2 with ⟨_,h1⟩ | ⟨g,c,cur,h1,h2,h3,h4,h5,h6,h7⟩
  · omega
  · refine ⟨g,c,h1,h2,Qa5 h3,h4,h5,fun j hj=>Qcs h3 ?_⟩
    have h8:=congrArg (fun l:List Value=>l[j]?) h7
    simp only [List.getElem?_take] at h8
    rw [if_pos (by omega),Array.getElem?_toList] at h8
    rw [h8]
    unfold vls
    rw [List.getD_eq_getElem?_getD,List.getElem?_eq_getElem hj]; rfl
theorem OwS.slice {base : Nat} {vs:List Value} {ls:List (List Int)} {v:Value} {W:World} (t:OwS base vs ls v W):∃ a c,v=.slice a vs.length c:=by
  rcases t.row.2 with ⟨e,e2⟩ | ⟨g,cap,cur,e,-⟩
  · exact ⟨none,0,by rw [e,e2]⟩
  · exact ⟨_,_,e⟩
theorem OwS.ext {base : Nat} {vs:List Value} {ls:List (List Int)} {v:Value} {W W':World} (t:OwS base vs ls v W) (e:Ext W W'):OwS base vs ls v W':=by
  refine ⟨t.len,⟨t.row.1,?_⟩,fun i hi=>(t.each i hi).ext e⟩
  rcases t.row.2 with h | ⟨g,c,cur,h1,h2,h3,h4⟩
  · exact .inl h
  · exact .inr ⟨g,c,cur,h1,h2,Qah h3 e,h4⟩
theorem OwS.base {b1 b2:Nat} {vs:List Value} {ls:List (List Int)} {v:Value} {W:World} (hb:b1≤b2) (t:OwS b2 vs ls v W):OwS b1 vs ls v W:=by
  refine ⟨t.len,⟨t.row.1,?_⟩,fun i hi=>OwnN.base hb (t.each i hi)⟩
  rcases t.row.2 with h | ⟨g,c,cur,h1,h2,h3⟩
  · exact .inl h
  · exact .inr ⟨g,c,cur,h1,qT hb h2,h3⟩
theorem OwS.app {P : Program} {ρ:Operand→Value} {o:Oper} {W:World} (s x:Operand) (t:TypeId) (ho:o.op=.call { callee:=.builtin .append,args:=#[s,x],argTypes:=#[t,t] }) (ht:P.underlying t=some (.slice 59))
    (hi:(P.info? 59).map (fun i=>(i.zero.map (·.cells.size),i.size,i.bytes))=some (some 1,1,24)) {base g c:Nat} {v:Value} {vs us:List Value} {ls ms:List (List Int)} (hs:ρ s=v) (hx:ρ x=.slice (some ⟨g,0,none⟩) us.length c)
    (h:OwS base vs ls v W) (hu:us.length=ms.length) (hcell:∀ j,j<us.length→W.cell? ⟨g,j,none⟩=some (vls us j)) (heach:∀ i,i<us.length→OwnN .u8 5 base (txs ms i) (vls us i) W) (hl:vs.length+us.length≤1000000) (hbase:base≤W.heap.size) :
    ∃ v' W',(execOp ρ o).run P W=.ok (.value v') W'∧OwS base (vs++us) (ls++ms) v' W'∧RowKit.Below base W W':=by
  obtain ⟨i,hq,z,hz,hzs,hi2,hi3⟩:∃ i,P.info? 59=some i∧∃ z,i.zero=some z∧z.cells.size=1∧i.size=1∧i.bytes=24:=by
    cases hq:P.info? 59 with
    | none=>rw [hq] at hi; cases hi
    | some i =>
      rw [hq] at hi
      simp only [Option.map_some,Option.some.injEq,Prod.mk.injEq] at hi
      obtain ⟨z,hz,hzs⟩:=Option.map_eq_some_iff.1 hi.1
      exact ⟨i,rfl,z,hz,hzs,hi.2.1,hi.2.2⟩
  have hat:∀ j u,us[j]? = some u→j<us.length∧vls us j=u:=fun j u hj=>by
    refine ⟨(List.getElem?_eq_some_iff.1 hj).1,?_⟩
    unfold vls
    rw [List.getD_eq_getElem?_getD,hj]; rfl
  obtain ⟨v',W',hr,h2,h3,-,-⟩:=run_append_own_at (P:=P) W base t o.type 59 i z 1 24 ht hq hz hi2 hi3 hzs (by decide) v vs.length _ h.row ⟨g,0,none⟩ us.length c us (by rw [Nat.mul_one])
    (fun j u hj=>by
      rw [WideShapes.add_plain,Nat.zero_add,hcell j (hat j u hj).1,(hat j u hj).2]) (fun u hj=>by
      obtain ⟨j,hjl,e⟩:=List.mem_iff_getElem.1 hj
      have h9:=hat j u (by rw [List.getElem?_eq_getElem hjl,e])
      obtain ⟨a,cc,e2,-⟩:=OwnN.rd (heach j h9.1)
      rw [←h9.2,e2]; rfl) (by simp only [maxLen]; omega) (by omega) hbase
  have ne:∀ {xs:List Int} {u:Value},OwnN .u8 5 base xs u W→OwnN .u8 5 base xs u W':=fun {xs u} hm=>hm.keep fun k hk=>h3.block k (hm.lt hk) fun q=>by
    obtain ⟨cur,e1⟩:=own_typ hm hk
    obtain ⟨-,cur2,e2⟩:=h.rowBlock q.symm
    rw [e1] at e2
    simp at e2
  refine ⟨v',W',?_,⟨by rw [List.length_append,List.length_append,h.len,hu],by rw [List.length_append]; exact h2,fun k hk=>?_⟩,⟨h3.os,h3.tape,h3.output,h3.size,fun k hk=>h3.block k (qL hk hbase) fun q=>by have:=(h.rowBlock q.symm).1; omega⟩⟩
  · unfold execOp
    simp only [ho,resolve,invoke,builtin,Sem.run_bind,Sem.run_pure,Result.andThen_ok,List.map_toArray,List.map_cons,List.map_nil,hs,hx,hr]
  · rw [List.length_append] at hk
    have hl2:=h.len
    rcases Nat.lt_or_ge k vs.length with q | q
    · have e1:vls (vs++us) k=vls vs k:=by unfold vls; rw [List.getD_eq_getElem?_getD,List.getD_eq_getElem?_getD,List.getElem?_append_left q]
      have e2:txs (ls++ms) k=txs ls k:=by unfold txs; rw [List.getD_eq_getElem?_getD,List.getD_eq_getElem?_getD,List.getElem?_append_left (by omega)]
      rw [e1,e2]; exact ne (h.each k q)
    · have e1:vls (vs++us) k=vls us (k-vs.length):=by unfold vls; rw [List.getD_eq_getElem?_getD,List.getD_eq_getElem?_getD,List.getElem?_append_right q]
      have e2:txs (ls++ms) k=txs ms (k-vs.length):=by unfold txs; rw [List.getD_eq_getElem?_getD,List.getD_eq_getElem?_getD,List.getElem?_append_right (by omega),hl2]
      rw [e1,e2]; exact ne (heach _ (by omega))
theorem QdQ {P : Program} {ρ:Operand→Value} {o:Oper} {w:World} (src dst e:TypeId) (x:Operand) {B:Nat} {xs:List Int} {v:Value} (ho:o.op=.convert src dst x) (hx:ρ x=v) (hr:RdK .u8 B xs v w) (h0:0<xs.length)
    (hs:P.underlying src=some (.slice e)) (he:P.underlying e=some (.int .u8)) (hd:P.underlying dst=some .string):(execOp ρ o).run P w=.ok (.value (.string (bstr xs))) w:=by
  obtain ⟨a,c,e1,-,-,-,h5⟩:=hr
  rcases h5 with h5 | ⟨g,off,rfl,-,-,hc⟩
  · rw [h5] at h0; cases h0
  have hl:(loadCells ⟨g,off,none⟩ xs.length).run P w=.ok (xs.map (Value.int .u8)).toArray w:=by
    have:=run_loadCells_list (P:=P) (w:=w) ⟨g,off,none⟩ (xs.map (Value.int .u8)) (fun j v hv=>by
      rw [List.getElem?_map] at hv
      obtain ⟨n,hn,rfl⟩:=Option.map_eq_some_iff.1 hv
      have hj:=(List.getElem?_eq_some_iff.1 hn).1
      rw [WideShapes.add_plain,hc j hj]
      unfold nth
      rw [List.getD_eq_getElem?_getD,hn]; rfl)
    rw [List.length_map] at this; exact this
  unfold execOp
  simp only [ho,hx,e1,Sem.run_bind]
  rw [run_convert_bytes_string w src dst e _ _ _ hs he hd,run_bytesToString w _ _ _ _ hl]
  rfl
section
variable {ds : List Deferred} {P : Program} {ops : Array Oper} {Q : Exit → Act → World → Prop} {rest : List Oper} {o : Oper} {N : Nat} {L : Env} {w : World}
theorem Qgr (s x:Operand) (t:TypeId) (ho:o.op=.call { callee:=.builtin .append,args:=#[s,x],argTypes:=#[t,t] }) (ht:P.underlying t=some (.slice 59))
    (hi:(P.info? 59).map (fun i=>(i.zero.map (·.cells.size),i.size,i.bytes))=some (some 1,1,24)) (d:Nat) (hd:o.dst=some d) (hg:Qbu ops o N L=some true) {base g c:Nat} {v:Value} {vs us:List Value} {ls ms:List (List Int)} (hs:Rely.look (envN N L) s=v) (hx:Rely.look (envN N L) x=.slice (some ⟨g,0,none⟩) us.length c)
    (h:OwS base vs ls v w) (hu:us.length=ms.length) (hcell:∀ j,j<us.length→w.cell? ⟨g,j,none⟩=some (vls us j)) (heach:∀ i,i<us.length→OwnN .u8 5 base (txs ms i) (vls us i) w) (hl:vs.length+us.length≤1000000) (hbase:base≤w.heap.size)
    (kk:∀ (u:Value) (W':World),OwS base (vs++us) (ls++ms) u W'→RowKit.Below base w W'→WL P ops Q rest (Qa3 ds N ((d,u)::L)) W'):WL P ops Q (o::rest) (Qa3 ds N L) w:=by
  obtain ⟨v',W',h1,h2,h3⟩:=OwS.app (ρ:=Rely.look (envN N L)) s x t ho ht hi hs hx h hu hcell heach hl hbase
  exact QbI _ _ d hd hg h1 (kk v' W' h2 h3)
theorem Qgq {t kt et e:TypeId} (S:Qc3 P t kt et e) (m k y:Operand) {g:Nat} {x:List Int} {done:List (List Int)} (ho:o.op=.mapUpdate t m k y) (hm:Rely.look (envN N L) m=.map (some g)) (hk:Rely.look (envN N L) k=.agg (ints .u8 (dig x))) (hy:Rely.look (envN N L) y=.string (bstr x)) (h:SmAt g done w) (hd:o.dst=none) (hg:Qbu ops o N L=some true)
    (kk:∀ W',Puts w g W'→SmAt g (done++[x]) W'→WL P ops Q rest (Qa3 ds N L) W'):WL P ops Q (o::rest) (Qa3 ds N L) w:=by
  obtain ⟨W',r1,r2,r3⟩:=QiI S (ρ:=Rely.look (envN N L)) m k y ho hm hk hy h
  exact Qdh W' hd hg r1 (kk W' r2 r3)
end
theorem Qh7 {P : Program} {ρ:Operand→Value} {o:Oper} {w:World} {t kt et e:TypeId} (S:Qc3 P t kt et e) (m k:Operand) {g:Nat} {x:List Int} {done:List (List Int)} (ho:o.op=.lookup t m k true) (hm:ρ m=.map (some g)) (hk:ρ k=.agg (ints .u8 (dig x))) (h:SmAt g done w) (hz:(zeroValue et).run P w=.ok (.string ByteArray.empty) w) (hn:∀ A∈done,dig A≠dig x):(execOp ρ o).run P w=.ok (.value (.tuple #[.string ByteArray.empty,.bool false])) w:=by
  rcases Qf2 S m k ho hm hk h hz with ⟨-,q⟩ | ⟨A,hA,e,-⟩
  · exact q
  · exact absurd e (hn A hA)
theorem Qf1 {P : Program} {ρ:Operand→Value} {o:Oper} {w:World} {t kt et e:TypeId} (S:Qc3 P t kt et e) (m k:Operand) {g:Nat} {x A:List Int} {done:List (List Int)} (ho:o.op=.lookup t m k true) (hm:ρ m=.map (some g)) (hk:ρ k=.agg (ints .u8 (dig x))) (h:SmAt g done w) (hz:(zeroValue et).run P w=.ok (.string ByteArray.empty) w) (hA:A∈done) (hd:dig A=dig x) (hun:∀ B∈done,dig B=dig x→B=A):(execOp ρ o).run P w=.ok (.value (.tuple #[.string (bstr A),.bool true])) w:=by
  rcases Qf2 S m k ho hm hk h hz with ⟨q,-⟩ | ⟨B,hB,e,q⟩
  · exact absurd hd (q A hA)
  · rw [hun B hB e] at q; exact q
end Go.Proofs.YthfkppjajmjpnaaDoor.Te
end
section
namespace Go.Proofs.YthfkppjajmjpnaaDoor.Te
open Go Go.RowKit
open Rely Auto Own Seat Wk Sha
set_option maxRecDepth 100000 in
theorem Qj8 (ts : List NdV) (a_t:Option Addr) (c_t B1:Nat) (htl:ts.length≤100000) (hmt:∀ i,i<ts.length→(ndi ts i).n.ms.length≤50) (L:Nat) (f:Form ts L) (w:World) (ht:TrAt B1 w a_t ts):Calls Tryd.prog 22 #[.slice a_t ts.length c_t] w (QbK w (fun v W=>∃ vs,OwS w.heap.size vs ((List.range ts.length).map (txT ts)) v W)):=by
 refine enter 18 [(0,.slice a_t ts.length c_t)] Tryd.func22 rfl rfl kj rfl ?_
 refine wp_seq_k fun K1 hK1=>?_
 refine Qab ?_
 refine Qaa (.slice none 0 0) 2 rfl kj kj ?_
 refine Qaf ?_
 refine hK1 _ _ ?_
 refine wp_seq_k fun K2 hK2=>?_
 refine Qab ?_
 refine Qaa (.slice none 0 0) 3 rfl kj kj ?_
 refine Qaf ?_
 refine hK2 _ _ ?_
 refine wp_seq_k fun K3 hK3=>?_
 refine wp_seq_k fun K4 hK4=>?_
 refine Qab ?_
 refine Qaa (.int .i64 0) 4 rfl kj kj ?_
 refine Qaf ?_
 refine hK4 _ _ ?_
 refine wp_block ?_
 refine Qa0 (fun (s1:Nat×Value×List Value)=>[(0,.slice a_t ts.length c_t),(3,s1.2.1),(4,.int .i64 ((s1.1:Nat):Int))]) (fun (s1:Nat×Value×List Value) W=>(s1.1≤ts.length)∧(s1.2.2.length=s1.1)∧(OwS w.heap.size s1.2.2 ((List.range s1.1).map (txT ts)) s1.2.1 W)∧(Below w.heap.size w W)∧(Ext w W)) (fun (s1:Nat×Value×List Value)=>ts.length-s1.1) (0,(.slice none 0 0),[]) ⟨rfl,rfl,rfl,trivial⟩ ⟨(Nat.zero_le _),rfl,(Qk9 _ _),(RowKit.Below.refl _ w),(Rely.Ext.refl w)⟩ fun s1 X1 V1 hI1=>?_
 obtain ⟨i,u,vs⟩:=s1
 obtain ⟨hi,hvl,hu,kk1,xx1⟩:=hI1
 replace hi:i≤ts.length:=hi
 replace hvl:vs.length=i:=hvl
 replace hu:OwS w.heap.size vs ((List.range i).map (txT ts)) u V1:=hu
 replace kk1:Below w.heap.size w V1:=kk1
 replace xx1:Ext w V1:=xx1
 have l1:=kk1
 refine wp_seq_k fun K5 hK5=>?_
 refine wp_seq_k fun K6 hK6=>?_
 refine Qab ?_
 refine Qaa (.int .i64 ((i:Nat):Int)) 5 rfl kj kj ?_
 refine Qaa (.slice a_t ts.length c_t) 6 rfl kj kj ?_
 refine Qaa (.int .i64 ((ts.length:Nat):Int)) 7 rfl kj kj ?_
 refine Qaa (.bool (decide (((i:Nat):Int)<((ts.length:Nat):Int)))) 8 rfl kj kj ?_
 refine Qaf ?_
 refine hK6 _ _ ?_
 refine Qar (t:=decide (((i:Nat):Int)<((ts.length:Nat):Int))) kj (fun c7=>?_) (fun c7=>?_)
 ·skip
  have hlt8:i<ts.length:=by have:=of_decide_eq_true c7; omega
  refine wp_skip ?_
  refine hK5 _ _ ?_
  refine wp_seq_k fun K8 hK8=>?_
  refine wp_block ?_
  refine Qab ?_
  refine Qaa (u) 11 rfl kj kj ?_
  refine Qaa (.slice a_t ts.length c_t) 12 rfl kj kj ?_
  refine Qaa (.int .i64 ((i:Nat):Int)) 13 rfl kj kj ?_
  refine Qa1 (fun v W'=>(OwnN .u8 5 V1.heap.size (txT ts i)) v W'∧Ext V1 W') 35 #[.slice a_t ts.length c_t,.int .i64 ((i:Nat):Int),.slice none 0 0] 14 rfl kj kj (((show Calls _ _ _ _ (QbK _ (OwnN .u8 5 _ (txT ts i))) from (QlK ts a_t c_t B1 htl hmt L f ht.oks [] none 0 (by decide) 5 i (qR _) hlt8 (QcW f hlt8)).1 _ (TrAt.ext ht xx1) (RdK.here (show RdK .i64 0 ([]:List Int) (.slice none ([]:List Int).length 0) _ from Qei 0 _)))).mono (by rintro e w' ⟨v,rfl,e1,hv⟩; exact ⟨v,rfl,hv,e1⟩)) fun vv9 W2 hh9=>?_
  obtain ⟨hv9,e2⟩:=hh9
  have x2:Ext w W2:=Ext.tr xx1 e2
  obtain ⟨at_,ct_,rfl,-⟩:=id (OwnN.rd hv9)
  refine Qh3 #[(.slice at_ ((txT ts i).length) ct_:Value)] 59 1 1 15 rfl kj (Qk2 42 59 1 _ (.slice at_ ((txT ts i).length) ct_) rfl kj kj kj kj rfl (by decide) (by decide)) fun gz W3 lz e3 rz=>?_
  have x3:Ext w W3:=Ext.tr x2 e3
  have f10_3:=(hv9.ext e3)
  have y1_2:Ext V1 W2:=(Rely.Ext.trans (Rely.Ext.refl V1) e2)
  have y1_3:Ext V1 W3:=(Rely.Ext.trans y1_2 e3)
  refine Qgr (g:=gz) (c:=1) (us:=[(.slice at_ ((txT ts i).length) ct_:Value)]) (ms:=[txT ts i]) (.tmp 11) (.tmp 15) 42 rfl kj kj 16 rfl kj kj kj (OwS.ext hu y1_3) rfl (fun j hj=>by obtain rfl:j=0:=Nat.lt_one_iff.1 hj; exact Qcs rz rfl) (fun j hj=>by obtain rfl:j=0:=Nat.lt_one_iff.1 hj; exact OwnN.base (xx1.size) f10_3) (by rw [hvl]; show i+1≤1000000; omega) (x3).size fun u2 W4 hu2 l4=>?_
  have x4:Ext w W4:=Ext.low x3 l4 (Rely.Ext.refl w).size
  refine Qaa (u2) 3 rfl kj kj ?_
  refine Qaf ?_
  refine hK8 _ _ ?_
  refine Qab ?_
  refine Qaa (.int .i64 ((i:Nat):Int)) 9 rfl kj kj ?_
  refine Qaa (.int .i64 ((i+1:Nat):Int)) 10 rfl kj (Qai (u:=.int .i64 (IntKind.i64.wrap (((i:Nat):Int)+1))) kj (congrArg (Value.int .i64) (i64n _ _ (by omega) (by omega)))) ?_
  refine Qaa (.int .i64 ((i+1:Nat):Int)) 4 rfl kj kj ?_
  refine Qaf ?_
  have y0_1:Ext w V1:=(Ext.low (Rely.Ext.refl w) l1 (Rely.Ext.refl w).size)
  have y0_2:Ext w W2:=(Rely.Ext.trans y0_1 e2)
  repeat (first | with_reducible refine goX1 ?_ | with_reducible refine goX2 ?_ | with_reducible refine goX3 ?_)
  exact Qat ((i+1),u2,(vs++[(.slice at_ ((txT ts i).length) ct_:Value)])) ⟨rfl,rfl,rfl,trivial⟩ ⟨(by omega),(by rw [List.length_append,hvl]; rfl),(by rw [List.range_succ,List.map_append]; exact hu2),(RowKit.Below.trans (RowKit.Below.trans (RowKit.Below.trans l1 (RowKit.Below.mono e2 y0_1.size)) (RowKit.Below.mono e3 y0_2.size)) l4),x4⟩ (by show ts.length-(i+1)<ts.length-i; omega)
 ·skip
  have heq8:i=ts.length:=by have:=of_decide_eq_false c7; omega
  have hu7:OwS w.heap.size vs ((List.range ts.length).map (txT ts)) u V1:=heq8▸hu
  refine wp_exit ?_
  refine hK3 _ _ ?_
  refine wp_seq_k fun K11 hK11=>?_
  refine Qab ?_
  refine Qaa (u) 17 rfl kj kj ?_
  refine Qaa (u) 2 rfl kj kj ?_
  refine Qaf ?_
  refine hK11 _ _ ?_
  refine wp_ret ?_
  repeat (first | with_reducible refine goR1 ?_ | with_reducible refine goR2 ?_)
  exact (show bodyPost _ _ _ .ret _ _ from ret1 (u) rfl (Qaq kj) ⟨u,rfl,xx1,vs,hu7⟩)
end Go.Proofs.YthfkppjajmjpnaaDoor.Te
end
section
namespace Go.Proofs.YthfkppjajmjpnaaDoor.Te
open Go Go.RowKit
open Rely Auto Own Seat Wk Sha
theorem QmD {a b:ByteArray} (h:a≠b):(!(a.toList==b.toList))=true:=by
  rw [Go.ByteArray.toList_eq,Go.ByteArray.toList_eq,beq_eq_false_iff_ne.2 fun e=>h ?_]
  · rfl
  · cases a; cases b; exact congrArg ByteArray.mk (Array.ext' e)
theorem Qlj (a : ByteArray):(!(a.toList==a.toList))=false:=by rw [beq_self_eq_true]; rfl
def uniq (ls : List (List Int)):Prop:=∀ A∈ls,∀ B∈ls,dig A=dig B→A=B
theorem Qis {V W:World} {b o:Nat} {v:Value} (h:V.cell? ⟨b,o,none⟩=some v) (e:Ext V W):W.cell? ⟨b,o,none⟩=some v:=by rw [e.cell (Qd0 h)]; exact h
theorem QlC {ls : List (List Int)} {i:Nat} (h:i<ls.length):txs ls i∈ls:=by
  unfold txs
  rw [List.getD_eq_getElem?_getD,List.getElem?_eq_getElem h]
  exact List.getElem_mem h
theorem QdO {ls : List (List Int)} {i:Nat} (h:i<ls.length):ls.take (i+1)=ls.take i++[txs ls i]:=by
  rw [List.take_add_one,List.getElem?_eq_getElem h]
  unfold txs
  rw [List.getD_eq_getElem?_getD,List.getElem?_eq_getElem h]; rfl
theorem Qi8 {ls : List (List Int)} {x:List Int} (h:uniq ls) (hn:∀ A∈ls,dig A≠dig x):uniq (ls++[x]):=by
  intro A hA B hB e
  rcases List.mem_append.1 hA with a | a <;> rcases List.mem_append.1 hB with b | b
  · exact h A a B b e
  · rw [List.mem_singleton.1 b] at e; exact absurd e (hn A a)
  · rw [List.mem_singleton.1 a] at e; exact absurd e.symm (hn B b)
  · rw [List.mem_singleton.1 a,List.mem_singleton.1 b]
theorem Qi7 {ls : List (List Int)} {x:List Int} (h:uniq ls) (hx:x∈ls):uniq (ls++[x]):=by
  intro A hA B hB e
  have hA2:A∈ls:=(List.mem_append.1 hA).elim id fun a=>by rw [List.mem_singleton.1 a]; exact hx
  have hB2:B∈ls:=(List.mem_append.1 hB).elim id fun a=>by rw [List.mem_singleton.1 a]; exact hx
  exact h A hA2 B hB2 e
set_option maxRecDepth 100000 in
theorem Qjx (vs : List Value) (ls:List (List Int)) (a_s:Option Addr) (c_s base:Nat) (w:World) (hO:OwS base vs ls (.slice a_s vs.length c_s) w) (hpo:∀ A∈ls,0<A.length∧A.length≤400∧Qav A) (hvl6:vs.length≤1000000):Calls Tryd.prog 21 #[.slice a_s vs.length c_s] w fun e W=>∃ b,e=.returned (.bool b)∧Ext w W∧(b=false→uniq ls):=by
 have hlen:=hO.len
 refine enter 36 [(0,.slice a_s vs.length c_s)] Tryd.func21 rfl rfl kj rfl ?_
 refine wp_seq_k fun K1 hK1=>?_
 refine Qab ?_
 refine Qaa (.bool false) 2 rfl kj kj ?_
 refine Qaf ?_
 refine hK1 _ _ ?_
 refine wp_seq_k fun K2 hK2=>?_
 refine Qab ?_
 refine Qfx 9 rfl kj kj fun mT W1 lmT e1 rmT=>?_
 have x1:Ext w W1:=Ext.tr (Rely.Ext.refl w) e1
 have hsm0:SmAt mT ([]:List (List Int)) W1:=⟨_,_,rmT,fun e he=>(by cases he),fun A hA=>(by cases hA)⟩
 have lm0:w.heap.size≤mT:=qT (Rely.Ext.refl w).size lmT
 refine Qaa (.map (some mT)) 3 rfl kj kj ?_
 refine Qaf ?_
 refine hK2 _ _ ?_
 refine wp_seq_k fun K3 hK3=>?_
 refine wp_seq_k fun K4 hK4=>?_
 refine Qab ?_
 refine Qaa (.slice a_s vs.length c_s) 10 rfl kj kj ?_
 refine Qaa (.int .i64 ((vs.length:Nat):Int)) 11 rfl kj kj ?_
 refine Qaa (.int .i64 0) 12 rfl kj kj ?_
 refine Qaf ?_
 refine hK4 _ _ ?_
 refine wp_block ?_
 refine Qa0 (fun (s1:Nat)=>[(3,.map (some mT)),(10,.slice a_s vs.length c_s),(11,.int .i64 ((vs.length:Nat):Int)),(12,.int .i64 ((s1:Nat):Int))]) (fun (s1:Nat) W=>(s1≤vs.length)∧(SmAt mT (ls.take s1) W)∧(uniq (ls.take s1))∧(Ext w W)) (fun (s1:Nat)=>vs.length-s1) 0 ⟨rfl,rfl,rfl,rfl,trivial⟩ ⟨(Nat.zero_le _),(SmAt.ext hsm0 (Rely.Ext.refl W1)),(fun A hA=>(by cases hA)),x1⟩ fun s1 X1 V1 hI1=>?_
 obtain ⟨i,hs1⟩:∃ z,z=s1:=⟨_,rfl⟩
 subst hs1
 obtain ⟨hi,hsm,hun,xx1⟩:=hI1
 replace hi:i≤vs.length:=hi
 replace hsm:SmAt mT (ls.take i) V1:=hsm
 replace hun:uniq (ls.take i):=hun
 replace xx1:Ext w V1:=xx1
 refine wp_seq_k fun K5 hK5=>?_
 refine Qab ?_
 refine Qaa (.bool (decide (((i:Nat):Int)<((vs.length:Nat):Int)))) 13 rfl kj kj ?_
 refine Qaf ?_
 refine hK5 _ _ ?_
 refine wp_seq_k fun K6 hK6=>?_
 refine Qar (t:=decide (((i:Nat):Int)<((vs.length:Nat):Int))) kj (fun c7=>?_) (fun c7=>?_)
 ·skip
  have hlt13:i<vs.length:=by have:=of_decide_eq_true c7; omega
  have hil:i<ls.length:=by omega
  have hown:=hO.each i hlt13
  obtain ⟨ax,cx,hvx,-⟩:=id (OwnN.rd hown)
  have hrx:=OwnN.rd hown
  rw [hvx] at hrx
  have hp6:=hpo _ (QlC hil)
  refine wp_skip ?_
  refine hK6 _ _ ?_
  refine wp_seq_k fun K8 hK8=>?_
  refine wp_block ?_
  refine wp_seq_k fun K9 hK9=>?_
  refine Qab ?_
  obtain ⟨gx,cc,hv0,hbx,hgx,-,-,hcx⟩:=hO.opens (by omega)
  have hac:a_s=some ⟨gx,0,none⟩:=by injection hv0
  refine Qaa (.pointer (some ⟨gx,0+i,none⟩)) 14 rfl kj (Qa6 42 _ _ .i64 i gx 0 vs.length c_s 59 a_s _ hac rfl rfl kj kj kj kj hlt13) ?_
  refine Qaa (.slice ax ((txs ls i).length) cx) 15 rfl kj (Qak 59 _ _ (.slice ax ((txs ls i).length) cx) (show V1.cell? ⟨gx,0+i,none⟩=some (.slice ax ((txs ls i).length) cx) by rw [Nat.zero_add,←hvx]; exact Qis (hcx i hlt13) xx1) rfl kj kj) ?_
  refine Qaa (.slice ax ((txs ls i).length) cx) 5 rfl kj kj ?_
  refine Qaf ?_
  refine hK9 _ _ ?_
  refine wp_seq_k fun K10 hK10=>?_
  refine Qab ?_
  refine Qaa (.slice ax ((txs ls i).length) cx) 16 rfl kj kj ?_
  have hrd11:=(RdK.here (RdK.ext hrx xx1))
  refine Qal (.agg (ints .u8 (dig (txs ls i)))) 34 #[.slice ax ((txs ls i).length) cx] 17 rfl kj kj (Qh8 (txs ls i) _ _ _ (qT hp6.2.1 (by decide)) hp6.2.2 (RdK.here hrd11)) fun W3 e3=>?_
  have x3:Ext w W3:=Ext.tr xx1 e3
  refine Qan (ints .u8 (List.replicate 32 0)) 28 6 rfl kj kj fun g12 W4 l12 e4 r12_4=>?_
  have x4:Ext w W4:=Ext.tr x3 e4
  have b12:w.heap.size≤g12:=qT x3.size l12
  refine Qau g12 _ (ints .u8 (dig (txs ls i))) 28 r12_4 rfl kj (Qas 28 _ _ g12 28 _ _ r12_4 rfl kj kj (isz (n:=32) kj ((Qae _ _).trans (QaE _))) (eqsz (n:=32) ((Qae _ _).trans (qZ (n:=32))) ((Qae _ _).trans (QaE _))) (Qaw _ _)) fun W5 p5 r12_5=>?_
  have x5:Ext w W5:=Puts.ext p5 x4 b12
  refine Qaf ?_
  refine hK10 _ _ ?_
  refine wp_seq_k fun K13 hK13=>?_
  refine wp_seq_k fun K14 hK14=>?_
  rcases (show (∀ A∈ls.take i,dig A≠dig (txs ls i))∨(∃ A∈ls.take i,dig A=dig (txs ls i)∧A=(txs ls i))∨(∃ A∈ls.take i,dig A=dig (txs ls i)∧A≠(txs ls i)) from by by_cases h1:∃ A∈ls.take i,dig A=dig (txs ls i); (obtain ⟨A,h2,h3⟩:=h1; by_cases h4:A=(txs ls i); exact .inr (.inl ⟨A,h2,h3,h4⟩); exact .inr (.inr ⟨A,h2,h3,h4⟩)); exact .inl fun A hA e=>h1 ⟨A,hA,e⟩) with hno | ⟨A,hA,hdA,hAx⟩ | ⟨A,hA,hdA,hAx⟩
  ·skip
   refine Qab ?_
   refine Qaa (.map (some mT)) 19 rfl kj kj ?_
   refine Qaa (.agg (ints .u8 (dig (txs ls i)))) 20 rfl kj (Qa4 28 _ g12 28 _ _ r12_5 rfl kj kj (isz (n:=32) kj ((Qae _ _).trans (QaE _)))) ?_
   have y2_3:Ext V1 W3:=(Rely.Ext.trans (Rely.Ext.refl V1) e3)
   have y2_4:Ext V1 W4:=(Rely.Ext.trans y2_3 e4)
   have y2_5:Ext V1 W5:=(Puts.ext p5 y2_4 (qT y2_3.size l12))
   refine Qaa (.tuple #[.string ByteArray.empty,.bool false]) 21 rfl kj (Qh7 (⟨by kernel_rfl,⟨by kernel_rfl,by kernel_rfl,by kernel_rfl,by kernel_rfl⟩,by kernel_rfl,by kernel_rfl,⟨Tryd.prog.types.size-1,by kernel_rfl⟩⟩:Qc3 Tryd.prog 65 28 9 5) _ _ rfl kj kj (SmAt.ext hsm y2_5) kj hno) ?_
   refine Qaa (.tuple #[.string ByteArray.empty,.bool false]) 18 rfl kj kj ?_
   refine Qaa (.string ByteArray.empty) 22 rfl kj kj ?_
   refine Qaa (.bool false) 23 rfl kj kj ?_
   refine Qaa (.string ByteArray.empty) 7 rfl kj kj ?_
   refine Qaa (.bool false) 8 rfl kj kj ?_
   refine Qaf ?_
   refine hK14 _ _ ?_
   refine wp_seq_k fun K15 hK15=>?_
   refine Qab ?_
   refine Qaa (.bool false) 24 rfl kj kj ?_
   refine Qaa (.bool false) 25 rfl kj kj ?_
   refine Qad 26 rfl kj ?_
   refine Qad 27 rfl kj ?_
   refine Qad 28 rfl kj ?_
   refine Qad 29 rfl kj ?_
   refine Qaa (.bool false) 30 rfl kj kj ?_
   refine Qaf ?_
   refine hK15 _ _ ?_
   refine cond_false kj ?_
   refine wp_skip ?_
   refine hK13 _ _ ?_
   refine Qab ?_
   refine Qaa (.map (some mT)) 31 rfl kj kj ?_
   refine Qaa (.agg (ints .u8 (dig (txs ls i)))) 32 rfl kj (Qa4 28 _ g12 28 _ _ r12_5 rfl kj kj (isz (n:=32) kj ((Qae _ _).trans (QaE _)))) ?_
   refine Qaa (.slice ax ((txs ls i).length) cx) 33 rfl kj kj ?_
   refine Qaa (.string (bstr (txs ls i))) 34 rfl kj (QdQ 59 9 5 _ rfl kj (RdK.here (RdK.ext hrx x5)) hp6.1 kj kj kj) ?_
   refine Qgq (⟨by kernel_rfl,⟨by kernel_rfl,by kernel_rfl,by kernel_rfl,by kernel_rfl⟩,by kernel_rfl,by kernel_rfl,⟨Tryd.prog.types.size-1,by kernel_rfl⟩⟩:Qc3 Tryd.prog 65 28 9 5) (x:=(txs ls i)) (.tmp 31) (.tmp 32) (.tmp 34) rfl kj kj kj (SmAt.ext hsm y2_5) rfl kj fun W6 p6 hsm2=>?_
   have x6:Ext w W6:=Puts.ext p6 x5 lm0
   refine Qaf ?_
   refine hK8 _ _ ?_
   refine Qab ?_
   refine Qaa (.int .i64 ((i+1:Nat):Int)) 35 rfl kj (Qai (u:=.int .i64 (IntKind.i64.wrap (((i:Nat):Int)+1))) kj (congrArg (Value.int .i64) (i64n _ _ (by omega) (by omega)))) ?_
   refine Qaa (.int .i64 ((i+1:Nat):Int)) 12 rfl kj kj ?_
   refine Qaf ?_
   repeat (first | with_reducible refine goX1 ?_ | with_reducible refine goX2 ?_ | with_reducible refine goX3 ?_)
   exact Qat (i+1) ⟨rfl,rfl,rfl,rfl,trivial⟩ ⟨(by omega),(by rw [QdO hil]; exact hsm2),(by rw [QdO hil]; exact Qi8 hun hno),x6⟩ (by show vs.length-(i+1)<vs.length-i; omega)
  ·skip
   subst hAx
   refine Qab ?_
   refine Qaa (.map (some mT)) 19 rfl kj kj ?_
   refine Qaa (.agg (ints .u8 (dig (txs ls i)))) 20 rfl kj (Qa4 28 _ g12 28 _ _ r12_5 rfl kj kj (isz (n:=32) kj ((Qae _ _).trans (QaE _)))) ?_
   have y2_3:Ext V1 W3:=(Rely.Ext.trans (Rely.Ext.refl V1) e3)
   have y2_4:Ext V1 W4:=(Rely.Ext.trans y2_3 e4)
   have y2_5:Ext V1 W5:=(Puts.ext p5 y2_4 (qT y2_3.size l12))
   refine Qaa (.tuple #[.string (bstr (txs ls i)),.bool true]) 21 rfl kj (Qf1 (⟨by kernel_rfl,⟨by kernel_rfl,by kernel_rfl,by kernel_rfl,by kernel_rfl⟩,by kernel_rfl,by kernel_rfl,⟨Tryd.prog.types.size-1,by kernel_rfl⟩⟩:Qc3 Tryd.prog 65 28 9 5) _ _ rfl kj kj (SmAt.ext hsm y2_5) kj hA hdA (fun B hB e=>hun B hB (txs ls i) hA (e.trans hdA.symm))) ?_
   refine Qaa (.tuple #[.string (bstr (txs ls i)),.bool true]) 18 rfl kj kj ?_
   refine Qaa (.string (bstr (txs ls i))) 22 rfl kj kj ?_
   refine Qaa (.bool true) 23 rfl kj kj ?_
   refine Qaa (.string (bstr (txs ls i))) 7 rfl kj kj ?_
   refine Qaa (.bool true) 8 rfl kj kj ?_
   refine Qaf ?_
   refine hK14 _ _ ?_
   refine wp_seq_k fun K16 hK16=>?_
   refine Qab ?_
   refine Qaa (.bool true) 24 rfl kj kj ?_
   refine Qaa (.bool true) 25 rfl kj kj ?_
   refine Qaa (.string (bstr (txs ls i))) 26 rfl kj kj ?_
   refine Qaa (.slice ax ((txs ls i).length) cx) 27 rfl kj kj ?_
   refine Qaa (.string (bstr (txs ls i))) 28 rfl kj (QdQ 59 9 5 _ rfl kj (RdK.here (RdK.ext hrx x5)) hp6.1 kj kj kj) ?_
   refine Qaa (.bool false) 29 rfl kj (Qai (u:=.bool (!((bstr (txs ls i)).toList==(bstr (txs ls i)).toList))) kj (congrArg Value.bool (Qlj _))) ?_
   refine Qaa (.bool false) 30 rfl kj kj ?_
   refine Qaf ?_
   refine hK16 _ _ ?_
   refine cond_false kj ?_
   refine wp_skip ?_
   refine hK13 _ _ ?_
   refine Qab ?_
   refine Qaa (.map (some mT)) 31 rfl kj kj ?_
   refine Qaa (.agg (ints .u8 (dig (txs ls i)))) 32 rfl kj (Qa4 28 _ g12 28 _ _ r12_5 rfl kj kj (isz (n:=32) kj ((Qae _ _).trans (QaE _)))) ?_
   refine Qaa (.slice ax ((txs ls i).length) cx) 33 rfl kj kj ?_
   refine Qaa (.string (bstr (txs ls i))) 34 rfl kj (QdQ 59 9 5 _ rfl kj (RdK.here (RdK.ext hrx x5)) hp6.1 kj kj kj) ?_
   refine Qgq (⟨by kernel_rfl,⟨by kernel_rfl,by kernel_rfl,by kernel_rfl,by kernel_rfl⟩,by kernel_rfl,by kernel_rfl,⟨Tryd.prog.types.size-1,by kernel_rfl⟩⟩:Qc3 Tryd.prog 65 28 9 5) (x:=(txs ls i)) (.tmp 31) (.tmp 32) (.tmp 34) rfl kj kj kj (SmAt.ext hsm y2_5) rfl kj fun W6 p6 hsm2=>?_
   have x6:Ext w W6:=Puts.ext p6 x5 lm0
   refine Qaf ?_
   refine hK8 _ _ ?_
   refine Qab ?_
   refine Qaa (.int .i64 ((i+1:Nat):Int)) 35 rfl kj (Qai (u:=.int .i64 (IntKind.i64.wrap (((i:Nat):Int)+1))) kj (congrArg (Value.int .i64) (i64n _ _ (by omega) (by omega)))) ?_
   refine Qaa (.int .i64 ((i+1:Nat):Int)) 12 rfl kj kj ?_
   refine Qaf ?_
   repeat (first | with_reducible refine goX1 ?_ | with_reducible refine goX2 ?_ | with_reducible refine goX3 ?_)
   exact Qat (i+1) ⟨rfl,rfl,rfl,rfl,trivial⟩ ⟨(by omega),(by rw [QdO hil]; exact hsm2),(by rw [QdO hil]; exact Qi7 hun hA),x6⟩ (by show vs.length-(i+1)<vs.length-i; omega)
  ·skip
   refine Qab ?_
   refine Qaa (.map (some mT)) 19 rfl kj kj ?_
   refine Qaa (.agg (ints .u8 (dig (txs ls i)))) 20 rfl kj (Qa4 28 _ g12 28 _ _ r12_5 rfl kj kj (isz (n:=32) kj ((Qae _ _).trans (QaE _)))) ?_
   have y2_3:Ext V1 W3:=(Rely.Ext.trans (Rely.Ext.refl V1) e3)
   have y2_4:Ext V1 W4:=(Rely.Ext.trans y2_3 e4)
   have y2_5:Ext V1 W5:=(Puts.ext p5 y2_4 (qT y2_3.size l12))
   refine Qaa (.tuple #[.string (bstr A),.bool true]) 21 rfl kj (Qf1 (⟨by kernel_rfl,⟨by kernel_rfl,by kernel_rfl,by kernel_rfl,by kernel_rfl⟩,by kernel_rfl,by kernel_rfl,⟨Tryd.prog.types.size-1,by kernel_rfl⟩⟩:Qc3 Tryd.prog 65 28 9 5) _ _ rfl kj kj (SmAt.ext hsm y2_5) kj hA hdA (fun B hB e=>hun B hB A hA (e.trans hdA.symm))) ?_
   refine Qaa (.tuple #[.string (bstr A),.bool true]) 18 rfl kj kj ?_
   refine Qaa (.string (bstr A)) 22 rfl kj kj ?_
   refine Qaa (.bool true) 23 rfl kj kj ?_
   refine Qaa (.string (bstr A)) 7 rfl kj kj ?_
   refine Qaa (.bool true) 8 rfl kj kj ?_
   refine Qaf ?_
   refine hK14 _ _ ?_
   refine wp_seq_k fun K17 hK17=>?_
   refine Qab ?_
   refine Qaa (.bool true) 24 rfl kj kj ?_
   refine Qaa (.bool true) 25 rfl kj kj ?_
   refine Qaa (.string (bstr A)) 26 rfl kj kj ?_
   refine Qaa (.slice ax ((txs ls i).length) cx) 27 rfl kj kj ?_
   refine Qaa (.string (bstr (txs ls i))) 28 rfl kj (QdQ 59 9 5 _ rfl kj (RdK.here (RdK.ext hrx x5)) hp6.1 kj kj kj) ?_
   refine Qaa (.bool true) 29 rfl kj (Qai (u:=.bool (!((bstr A).toList==(bstr (txs ls i)).toList))) kj (congrArg Value.bool (QmD fun e=>hAx (Qjz (hpo _ (List.mem_of_mem_take hA)).2.2 hp6.2.2 e)))) ?_
   refine Qaa (.bool true) 30 rfl kj kj ?_
   refine Qaf ?_
   refine hK17 _ _ ?_
   refine cond_true kj ?_
   refine wp_seq_k fun K18 hK18=>?_
   refine Qab ?_
   refine Qaa (.bool true) 2 rfl kj kj ?_
   refine Qaf ?_
   refine hK18 _ _ ?_
   refine wp_ret ?_
   repeat (first | with_reducible refine goR1 ?_ | with_reducible refine goR2 ?_)
   exact (show bodyPost _ _ _ .ret _ _ from ret1 (.bool true) rfl (Qaq kj) ⟨true,rfl,x5,fun h=>by cases h⟩)
 ·skip
  have heq13:i=vs.length:=by have:=of_decide_eq_false c7; omega
  refine wp_exit ?_
  refine hK3 _ _ ?_
  refine wp_seq_k fun K19 hK19=>?_
  refine Qab ?_
  refine Qaa (.bool false) 2 rfl kj kj ?_
  refine Qaf ?_
  refine hK19 _ _ ?_
  refine wp_ret ?_
  repeat (first | with_reducible refine goR1 ?_ | with_reducible refine goR2 ?_)
  exact (show bodyPost _ _ _ .ret _ _ from ret1 (.bool false) rfl (Qaq kj) ⟨false,rfl,xx1,fun _=>by rw [show i=ls.length by have:=hO.len; omega,List.take_length] at hun; exact hun⟩)
theorem Qjw (vs : List Value) (ls:List (List Int)) (a_s:Option Addr) (c_s base:Nat) (w:World) (hO:OwS base vs ls (.slice a_s vs.length c_s) w) (hpo:∀ A∈ls,0<A.length∧A.length≤400∧Qav A) (hvl6:vs.length≤1000000) (hn:¬ uniq ls):Calls Tryd.prog 21 #[.slice a_s vs.length c_s] w (Ret w (.bool true)) :=
  (Qjx vs ls a_s c_s base w hO hpo hvl6).mono fun e W ⟨b,h1,h2,h3⟩=>by
    cases b with
    | true=>exact ⟨h1,h2⟩
    | false=>exact absurd (h3 rfl) hn
end Go.Proofs.YthfkppjajmjpnaaDoor.Te
end
section
namespace Go.Proofs.YthfkppjajmjpnaaDoor.Te
open Go Go.RowKit
open Rely Auto Own Seat Wk Sha
theorem Qj1 {ts us:List NdV} (h:Qcq ts us=true):AsC us ts:=by
  unfold Qcq at h
  simp only [Bool.and_eq_true,beq_iff_eq,List.all_eq_true,List.mem_range] at h
  exact ⟨h.1.symm,fun j hj=>(Qgs (h.2 j hj)).symm⟩
theorem QfP {ts us:List NdV} {L:Nat} (f:Form ts L) (h:AsC us ts) (wo:List Int):∀ k x,x<ts.length→txtN us wo k x=txtN ts wo k x
  | 0,x,hx=>by show Qce us wo x=Qce ts wo x; unfold Qce QdM; rw [h.2 x hx]
  | k+1,x,hx=>by
    have hlen:=f.len
    have hn:=QaS f.tr (x:=x) (by omega)
    by_cases q:kidL ((x:Nat):Int)<0
    · rw [Qbr _ q,Qbr _ q]; unfold Qce QdM; rw [h.2 x hx]
    · rcases Qcj hn with ⟨-,⟨h0,h1⟩ | ⟨h2,h3,h4,h5⟩⟩
      · omega
      · obtain ⟨l,hl0⟩:=Int.eq_ofNat_of_zero_le (Qcb h2)
        obtain ⟨r,hr0⟩:=Int.eq_ofNat_of_zero_le (Qcb h3)
        have hll:=Qcc h2
        have hrl:=Qcc h3
        rw [Qco k hl0 hr0,Qco k hl0 hr0,QfP f h wo k l (by omega),QfP f h wo k r (by omega)]
        unfold QcT
        rw [h.2 x hx]
theorem Qj5 {ts : List NdV} (ok0:∀ x,x<ts.length→NdOk (ndi ts x).n) (hmt:∀ i,i<ts.length→(ndi ts i).n.ms.length≤50) {A:List Int} (h:A∈(List.range ts.length).map (txT ts)):0<A.length∧A.length≤400∧Qav A:=by
  obtain ⟨x,hx,rfl⟩:=List.mem_map.1 h
  have hx:=List.mem_range.1 hx
  have h1:=Qhu (wo:=[]) ok0 hmt 5 x hx
  refine ⟨?_,h1.2,h1.1⟩
  unfold txT txtN
  split
  · unfold Qce; simp
  · simp
theorem QgN {ts us:List NdV} {L M:Nat} (f:Form ts L) (g:Form us M) (ok1:∀ x,x<ts.length→NdOk (ndi ts x).n) (ok2:∀ x,x<us.length→NdOk (ndi us x).n) (h:dgN ts [] (ts.length/2)=dgN us [] (us.length/2)) (hn:¬ AsC us ts):¬ uniq ((List.range ts.length).map (txT ts)++(List.range us.length).map (txT us)):=fun q =>
  hn (unlike f g ok1 ok2 (fun x y hx hy e=>q _ (List.mem_append_left _ (List.mem_map.2 ⟨x,List.mem_range.2 hx,rfl⟩)) _ (List.mem_append_right _ (List.mem_map.2 ⟨y,List.mem_range.2 hy,rfl⟩)) e) h)
set_option maxRecDepth 100000 in
theorem Qjb (ts us:List NdV) (a_t a_u:Option Addr) (c_t c_u B1 B2:Nat) (w:World) (ht:TrAt B1 w a_t ts) (hu:TrAt B2 w a_u us) (hT:TabAt w) (hSh:ShT w) (hs:¬ (∀ i,i<ts.length→i≤40∧(ndi ts i).n.ms.length≤50)):Calls Tryd.prog 6 #[.slice a_t ts.length c_t,.slice a_u us.length c_u] w (Ret w (.bool true)):=by
  refine enter 60 [(0,.slice a_t ts.length c_t),(1,.slice a_u us.length c_u)] Tryd.func6 rfl rfl kj rfl ?_
  refine wp_seq_k fun K1 hK1=>?_
  refine Qab ?_
  refine Qaa (.bool false) 4 rfl kj kj ?_
  refine Qaf ?_
  refine hK1 _ _ ?_
  refine wp_seq_k fun K2 hK2=>?_
  refine wp_seq_k fun K3 hK3=>?_
  refine Qab ?_
  refine Qal (.bool true) 8 #[] 9 rfl kj kj (Qdb _ (TabAt.ext hT (Rely.Ext.refl w)) (ShT.ext hSh (Rely.Ext.refl w))) fun W1 e1=>?_
  have x1:Ext w W1:=Ext.tr (Rely.Ext.refl w) e1
  refine Qaa (.bool false) 10 rfl kj kj ?_
  refine Qaf ?_
  refine hK3 _ _ ?_
  refine cond_false kj ?_
  refine wp_skip ?_
  refine hK2 _ _ ?_
  refine wp_seq_k fun K4 hK4=>?_
  refine wp_seq_k fun K5 hK5=>?_
  refine Qab ?_
  refine Qaa (.slice a_t ts.length c_t) 11 rfl kj kj ?_
  refine Qal (.bool true) 9 #[.slice a_t ts.length c_t] 12 rfl kj kj (QfD ts a_t c_t _ _ (TrAt.ext ht x1) hs) fun W2 e2=>?_
  have x2:Ext w W2:=Ext.tr x1 e2
  refine Qaa (.bool true) 13 rfl kj kj ?_
  refine Qad 14 rfl kj ?_
  refine Qad 15 rfl kj ?_
  refine Qaa (.bool true) 16 rfl kj kj ?_
  refine Qaa (.bool true) 17 rfl kj kj ?_
  refine Qad 18 rfl kj ?_
  refine Qad 19 rfl kj ?_
  refine Qad 20 rfl kj ?_
  refine Qaa (.bool true) 21 rfl kj kj ?_
  refine Qaa (.bool true) 22 rfl kj kj ?_
  refine Qad 23 rfl kj ?_
  refine Qad 24 rfl kj ?_
  refine Qad 25 rfl kj ?_
  refine Qaa (.bool true) 26 rfl kj kj ?_
  refine Qaf ?_
  refine hK5 _ _ ?_
  refine cond_true kj ?_
  refine wp_seq_k fun K6 hK6=>?_
  refine Qab ?_
  refine Qaa (.bool true) 4 rfl kj kj ?_
  refine Qaf ?_
  refine hK6 _ _ ?_
  refine wp_ret ?_
  repeat (first | with_reducible refine goR1 ?_ | with_reducible refine goR2 ?_)
  exact (show bodyPost _ _ _ .ret _ _ from ret1 (.bool true) rfl (Qaq kj) ⟨rfl,x2⟩)
set_option maxRecDepth 100000 in
theorem Qja (ts us:List NdV) (a_t a_u:Option Addr) (c_t c_u B1 B2:Nat) (w:World) (ht:TrAt B1 w a_t ts) (hu:TrAt B2 w a_u us) (hT:TabAt w) (hSh:ShT w) (hs:∀ i,i<ts.length→i≤40∧(ndi ts i).n.ms.length≤50) (hz:¬ (∀ i,i<us.length→i≤40∧(ndi us i).n.ms.length≤50)):Calls Tryd.prog 6 #[.slice a_t ts.length c_t,.slice a_u us.length c_u] w (Ret w (.bool true)):=by
  refine enter 60 [(0,.slice a_t ts.length c_t),(1,.slice a_u us.length c_u)] Tryd.func6 rfl rfl kj rfl ?_
  refine wp_seq_k fun K1 hK1=>?_
  refine Qab ?_
  refine Qaa (.bool false) 4 rfl kj kj ?_
  refine Qaf ?_
  refine hK1 _ _ ?_
  refine wp_seq_k fun K2 hK2=>?_
  refine wp_seq_k fun K3 hK3=>?_
  refine Qab ?_
  refine Qal (.bool true) 8 #[] 9 rfl kj kj (Qdb _ (TabAt.ext hT (Rely.Ext.refl w)) (ShT.ext hSh (Rely.Ext.refl w))) fun W1 e1=>?_
  have x1:Ext w W1:=Ext.tr (Rely.Ext.refl w) e1
  refine Qaa (.bool false) 10 rfl kj kj ?_
  refine Qaf ?_
  refine hK3 _ _ ?_
  refine cond_false kj ?_
  refine wp_skip ?_
  refine hK2 _ _ ?_
  refine wp_seq_k fun K4 hK4=>?_
  refine wp_seq_k fun K5 hK5=>?_
  refine Qab ?_
  refine Qaa (.slice a_t ts.length c_t) 11 rfl kj kj ?_
  refine Qal (.bool false) 9 #[.slice a_t ts.length c_t] 12 rfl kj kj (Qbt ts a_t c_t _ _ (TrAt.ext ht x1) hs) fun W2 e2=>?_
  have x2:Ext w W2:=Ext.tr x1 e2
  refine Qaa (.bool false) 13 rfl kj kj ?_
  refine Qaa (.slice a_u us.length c_u) 14 rfl kj kj ?_
  refine Qal (.bool true) 9 #[.slice a_u us.length c_u] 15 rfl kj kj (QfD us a_u c_u _ _ (TrAt.ext hu x2) hz) fun W3 e3=>?_
  have x3:Ext w W3:=Ext.tr x2 e3
  refine Qaa (.bool true) 16 rfl kj kj ?_
  refine Qaa (.bool true) 17 rfl kj kj ?_
  refine Qad 18 rfl kj ?_
  refine Qad 19 rfl kj ?_
  refine Qad 20 rfl kj ?_
  refine Qaa (.bool true) 21 rfl kj kj ?_
  refine Qaa (.bool true) 22 rfl kj kj ?_
  refine Qad 23 rfl kj ?_
  refine Qad 24 rfl kj ?_
  refine Qad 25 rfl kj ?_
  refine Qaa (.bool true) 26 rfl kj kj ?_
  refine Qaf ?_
  refine hK5 _ _ ?_
  refine cond_true kj ?_
  refine wp_seq_k fun K6 hK6=>?_
  refine Qab ?_
  refine Qaa (.bool true) 4 rfl kj kj ?_
  refine Qaf ?_
  refine hK6 _ _ ?_
  refine wp_ret ?_
  repeat (first | with_reducible refine goR1 ?_ | with_reducible refine goR2 ?_)
  exact (show bodyPost _ _ _ .ret _ _ from ret1 (.bool true) rfl (Qaq kj) ⟨rfl,x3⟩)
set_option maxRecDepth 100000 in
theorem Qjg (ts us:List NdV) (a_t a_u:Option Addr) (c_t c_u B1 B2:Nat) (w:World) (ht:TrAt B1 w a_t ts) (hu:TrAt B2 w a_u us) (hT:TabAt w) (hSh:ShT w) (hs:∀ i,i<ts.length→i≤40∧(ndi ts i).n.ms.length≤50) (hz:∀ i,i<us.length→i≤40∧(ndi us i).n.ms.length≤50) (htl:ts.length≤1000) (hul:us.length≤1000) (hmt:∀ i,i<ts.length→(ndi ts i).n.ms.length≤50) (hmu:∀ i,i<us.length→(ndi us i).n.ms.length≤50) (hc:chkT ts=false):Calls Tryd.prog 6 #[.slice a_t ts.length c_t,.slice a_u us.length c_u] w (Ret w (.bool true)):=by
  refine enter 60 [(0,.slice a_t ts.length c_t),(1,.slice a_u us.length c_u)] Tryd.func6 rfl rfl kj rfl ?_
  refine wp_seq_k fun K1 hK1=>?_
  refine Qab ?_
  refine Qaa (.bool false) 4 rfl kj kj ?_
  refine Qaf ?_
  refine hK1 _ _ ?_
  refine wp_seq_k fun K2 hK2=>?_
  refine wp_seq_k fun K3 hK3=>?_
  refine Qab ?_
  refine Qal (.bool true) 8 #[] 9 rfl kj kj (Qdb _ (TabAt.ext hT (Rely.Ext.refl w)) (ShT.ext hSh (Rely.Ext.refl w))) fun W1 e1=>?_
  have x1:Ext w W1:=Ext.tr (Rely.Ext.refl w) e1
  refine Qaa (.bool false) 10 rfl kj kj ?_
  refine Qaf ?_
  refine hK3 _ _ ?_
  refine cond_false kj ?_
  refine wp_skip ?_
  refine hK2 _ _ ?_
  refine wp_seq_k fun K4 hK4=>?_
  refine wp_seq_k fun K5 hK5=>?_
  refine Qab ?_
  refine Qaa (.slice a_t ts.length c_t) 11 rfl kj kj ?_
  refine Qal (.bool false) 9 #[.slice a_t ts.length c_t] 12 rfl kj kj (Qbt ts a_t c_t _ _ (TrAt.ext ht x1) hs) fun W2 e2=>?_
  have x2:Ext w W2:=Ext.tr x1 e2
  refine Qaa (.bool false) 13 rfl kj kj ?_
  refine Qaa (.slice a_u us.length c_u) 14 rfl kj kj ?_
  refine Qal (.bool false) 9 #[.slice a_u us.length c_u] 15 rfl kj kj (Qbt us a_u c_u _ _ (TrAt.ext hu x2) hz) fun W3 e3=>?_
  have x3:Ext w W3:=Ext.tr x2 e3
  refine Qaa (.bool false) 16 rfl kj kj ?_
  refine Qaa (.bool false) 17 rfl kj kj ?_
  refine Qaa (.slice a_t ts.length c_t) 18 rfl kj kj ?_
  refine Qal (.bool false) 12 #[.slice a_t ts.length c_t] 19 rfl kj kj (Qfj ts a_t c_t _ _ (TrAt.ext ht x3) (qT htl (by decide)) (fun i hi=>qT (hmt i hi) (by decide)) false hc) fun W4 e4=>?_
  have x4:Ext w W4:=Ext.tr x3 e4
  refine Qaa (.bool true) 20 rfl kj kj ?_
  refine Qaa (.bool true) 21 rfl kj kj ?_
  refine Qaa (.bool true) 22 rfl kj kj ?_
  refine Qad 23 rfl kj ?_
  refine Qad 24 rfl kj ?_
  refine Qad 25 rfl kj ?_
  refine Qaa (.bool true) 26 rfl kj kj ?_
  refine Qaf ?_
  refine hK5 _ _ ?_
  refine cond_true kj ?_
  refine wp_seq_k fun K6 hK6=>?_
  refine Qab ?_
  refine Qaa (.bool true) 4 rfl kj kj ?_
  refine Qaf ?_
  refine hK6 _ _ ?_
  refine wp_ret ?_
  repeat (first | with_reducible refine goR1 ?_ | with_reducible refine goR2 ?_)
  exact (show bodyPost _ _ _ .ret _ _ from ret1 (.bool true) rfl (Qaq kj) ⟨rfl,x4⟩)
set_option maxRecDepth 100000 in
theorem Qje (ts us:List NdV) (a_t a_u:Option Addr) (c_t c_u B1 B2:Nat) (w:World) (ht:TrAt B1 w a_t ts) (hu:TrAt B2 w a_u us) (hT:TabAt w) (hSh:ShT w) (hs:∀ i,i<ts.length→i≤40∧(ndi ts i).n.ms.length≤50) (hz:∀ i,i<us.length→i≤40∧(ndi us i).n.ms.length≤50) (htl:ts.length≤1000) (hul:us.length≤1000) (hmt:∀ i,i<ts.length→(ndi ts i).n.ms.length≤50) (hmu:∀ i,i<us.length→(ndi us i).n.ms.length≤50) (hc:chkT ts=true) (hd:chkT us=false):Calls Tryd.prog 6 #[.slice a_t ts.length c_t,.slice a_u us.length c_u] w (Ret w (.bool true)):=by
  refine enter 60 [(0,.slice a_t ts.length c_t),(1,.slice a_u us.length c_u)] Tryd.func6 rfl rfl kj rfl ?_
  refine wp_seq_k fun K1 hK1=>?_
  refine Qab ?_
  refine Qaa (.bool false) 4 rfl kj kj ?_
  refine Qaf ?_
  refine hK1 _ _ ?_
  refine wp_seq_k fun K2 hK2=>?_
  refine wp_seq_k fun K3 hK3=>?_
  refine Qab ?_
  refine Qal (.bool true) 8 #[] 9 rfl kj kj (Qdb _ (TabAt.ext hT (Rely.Ext.refl w)) (ShT.ext hSh (Rely.Ext.refl w))) fun W1 e1=>?_
  have x1:Ext w W1:=Ext.tr (Rely.Ext.refl w) e1
  refine Qaa (.bool false) 10 rfl kj kj ?_
  refine Qaf ?_
  refine hK3 _ _ ?_
  refine cond_false kj ?_
  refine wp_skip ?_
  refine hK2 _ _ ?_
  refine wp_seq_k fun K4 hK4=>?_
  refine wp_seq_k fun K5 hK5=>?_
  refine Qab ?_
  refine Qaa (.slice a_t ts.length c_t) 11 rfl kj kj ?_
  refine Qal (.bool false) 9 #[.slice a_t ts.length c_t] 12 rfl kj kj (Qbt ts a_t c_t _ _ (TrAt.ext ht x1) hs) fun W2 e2=>?_
  have x2:Ext w W2:=Ext.tr x1 e2
  refine Qaa (.bool false) 13 rfl kj kj ?_
  refine Qaa (.slice a_u us.length c_u) 14 rfl kj kj ?_
  refine Qal (.bool false) 9 #[.slice a_u us.length c_u] 15 rfl kj kj (Qbt us a_u c_u _ _ (TrAt.ext hu x2) hz) fun W3 e3=>?_
  have x3:Ext w W3:=Ext.tr x2 e3
  refine Qaa (.bool false) 16 rfl kj kj ?_
  refine Qaa (.bool false) 17 rfl kj kj ?_
  refine Qaa (.slice a_t ts.length c_t) 18 rfl kj kj ?_
  refine Qal (.bool true) 12 #[.slice a_t ts.length c_t] 19 rfl kj kj (Qfj ts a_t c_t _ _ (TrAt.ext ht x3) (qT htl (by decide)) (fun i hi=>qT (hmt i hi) (by decide)) true hc) fun W4 e4=>?_
  have x4:Ext w W4:=Ext.tr x3 e4
  refine Qaa (.bool false) 20 rfl kj kj ?_
  refine Qaa (.bool false) 21 rfl kj kj ?_
  refine Qaa (.bool false) 22 rfl kj kj ?_
  refine Qaa (.slice a_u us.length c_u) 23 rfl kj kj ?_
  refine Qal (.bool false) 12 #[.slice a_u us.length c_u] 24 rfl kj kj (Qfj us a_u c_u _ _ (TrAt.ext hu x4) (qT hul (by decide)) (fun i hi=>qT (hmu i hi) (by decide)) false hd) fun W5 e5=>?_
  have x5:Ext w W5:=Ext.tr x4 e5
  refine Qaa (.bool true) 25 rfl kj kj ?_
  refine Qaa (.bool true) 26 rfl kj kj ?_
  refine Qaf ?_
  refine hK5 _ _ ?_
  refine cond_true kj ?_
  refine wp_seq_k fun K6 hK6=>?_
  refine Qab ?_
  refine Qaa (.bool true) 4 rfl kj kj ?_
  refine Qaf ?_
  refine hK6 _ _ ?_
  refine wp_ret ?_
  repeat (first | with_reducible refine goR1 ?_ | with_reducible refine goR2 ?_)
  exact (show bodyPost _ _ _ .ret _ _ from ret1 (.bool true) rfl (Qaq kj) ⟨rfl,x5⟩)
set_option maxRecDepth 100000 in
theorem Qjc (ts us:List NdV) (a_t a_u:Option Addr) (c_t c_u B1 B2:Nat) (w:World) (ht:TrAt B1 w a_t ts) (hu:TrAt B2 w a_u us) (hT:TabAt w) (hSh:ShT w) (hs:∀ i,i<ts.length→i≤40∧(ndi ts i).n.ms.length≤50) (hz:∀ i,i<us.length→i≤40∧(ndi us i).n.ms.length≤50) (htl:ts.length≤1000) (hul:us.length≤1000) (hmt:∀ i,i<ts.length→(ndi ts i).n.ms.length≤50) (hmu:∀ i,i<us.length→(ndi us i).n.ms.length≤50) (hc:chkT ts=true) (hd:chkT us=true) (h0u:0<us.length) (L M:Nat) (f:Form ts L) (g:Form us M) (hsame:Qcq ts us=true) (hdg:dgN ts [] (ts.length/2)=dgN us [] (us.length/2)):Calls Tryd.prog 6 #[.slice a_t ts.length c_t,.slice a_u us.length c_u] w (Ret w (.bool true)):=by
  refine enter 60 [(0,.slice a_t ts.length c_t),(1,.slice a_u us.length c_u)] Tryd.func6 rfl rfl kj rfl ?_
  refine wp_seq_k fun K1 hK1=>?_
  refine Qab ?_
  refine Qaa (.bool false) 4 rfl kj kj ?_
  refine Qaf ?_
  refine hK1 _ _ ?_
  refine wp_seq_k fun K2 hK2=>?_
  refine wp_seq_k fun K3 hK3=>?_
  refine Qab ?_
  refine Qal (.bool true) 8 #[] 9 rfl kj kj (Qdb _ (TabAt.ext hT (Rely.Ext.refl w)) (ShT.ext hSh (Rely.Ext.refl w))) fun W1 e1=>?_
  have x1:Ext w W1:=Ext.tr (Rely.Ext.refl w) e1
  refine Qaa (.bool false) 10 rfl kj kj ?_
  refine Qaf ?_
  refine hK3 _ _ ?_
  refine cond_false kj ?_
  refine wp_skip ?_
  refine hK2 _ _ ?_
  refine wp_seq_k fun K4 hK4=>?_
  refine wp_seq_k fun K5 hK5=>?_
  refine Qab ?_
  refine Qaa (.slice a_t ts.length c_t) 11 rfl kj kj ?_
  refine Qal (.bool false) 9 #[.slice a_t ts.length c_t] 12 rfl kj kj (Qbt ts a_t c_t _ _ (TrAt.ext ht x1) hs) fun W2 e2=>?_
  have x2:Ext w W2:=Ext.tr x1 e2
  refine Qaa (.bool false) 13 rfl kj kj ?_
  refine Qaa (.slice a_u us.length c_u) 14 rfl kj kj ?_
  refine Qal (.bool false) 9 #[.slice a_u us.length c_u] 15 rfl kj kj (Qbt us a_u c_u _ _ (TrAt.ext hu x2) hz) fun W3 e3=>?_
  have x3:Ext w W3:=Ext.tr x2 e3
  refine Qaa (.bool false) 16 rfl kj kj ?_
  refine Qaa (.bool false) 17 rfl kj kj ?_
  refine Qaa (.slice a_t ts.length c_t) 18 rfl kj kj ?_
  refine Qal (.bool true) 12 #[.slice a_t ts.length c_t] 19 rfl kj kj (Qfj ts a_t c_t _ _ (TrAt.ext ht x3) (qT htl (by decide)) (fun i hi=>qT (hmt i hi) (by decide)) true hc) fun W4 e4=>?_
  have x4:Ext w W4:=Ext.tr x3 e4
  refine Qaa (.bool false) 20 rfl kj kj ?_
  refine Qaa (.bool false) 21 rfl kj kj ?_
  refine Qaa (.bool false) 22 rfl kj kj ?_
  refine Qaa (.slice a_u us.length c_u) 23 rfl kj kj ?_
  refine Qal (.bool true) 12 #[.slice a_u us.length c_u] 24 rfl kj kj (Qfj us a_u c_u _ _ (TrAt.ext hu x4) (qT hul (by decide)) (fun i hi=>qT (hmu i hi) (by decide)) true hd) fun W5 e5=>?_
  have x5:Ext w W5:=Ext.tr x4 e5
  refine Qaa (.bool false) 25 rfl kj kj ?_
  refine Qaa (.bool false) 26 rfl kj kj ?_
  refine Qaf ?_
  refine hK5 _ _ ?_
  refine cond_false kj ?_
  refine wp_skip ?_
  refine hK4 _ _ ?_
  refine wp_seq_k fun K6 hK6=>?_
  refine Qab ?_
  refine Qaa (.slice a_t ts.length c_t) 28 rfl kj kj ?_
  refine Qal (.tuple #[.agg (ints .u8 (dgN ts [] (ts.length/2))),.bool true]) 11 #[.slice a_t ts.length c_t] 29 rfl kj kj (QcU ts a_t c_t B1 (qT htl (by decide)) hmt hc _ (TrAt.ext ht x5) (TabAt.ext hT x5) (ShT.ext hSh x5)) fun W6 e6=>?_
  have x6:Ext w W6:=Ext.tr x5 e6
  refine Qaa (.tuple #[.agg (ints .u8 (dgN ts [] (ts.length/2))),.bool true]) 27 rfl kj kj ?_
  refine Qaa (.agg (ints .u8 (dgN ts [] (ts.length/2)))) 30 rfl kj kj ?_
  refine Qaa (.bool true) 31 rfl kj kj ?_
  refine Qan (ints .u8 (List.replicate 32 0)) 28 5 rfl kj kj fun g7 W7 l7 e7 r7_7=>?_
  have x7:Ext w W7:=Ext.tr x6 e7
  have b7:w.heap.size≤g7:=qT x6.size l7
  refine Qau g7 _ (ints .u8 (dgN ts [] (ts.length/2))) 28 r7_7 rfl kj (Qas 28 _ _ g7 28 _ _ r7_7 rfl kj kj (isz (n:=32) kj ((Qae _ _).trans (QaL ts [] (ts.length/2)))) (eqsz (n:=32) ((Qae _ _).trans (qZ (n:=32))) ((Qae _ _).trans (QaL ts [] (ts.length/2)))) (Qaw _ _)) fun W8 p8 r7_8=>?_
  have x8:Ext w W8:=Puts.ext p8 x7 b7
  refine Qaa (.bool true) 6 rfl kj kj ?_
  refine Qaf ?_
  refine hK6 _ _ ?_
  refine wp_seq_k fun K8 hK8=>?_
  refine Qab ?_
  refine Qaa (.slice a_u us.length c_u) 33 rfl kj kj ?_
  refine Qal (.tuple #[.agg (ints .u8 (dgN us [] (us.length/2))),.bool true]) 11 #[.slice a_u us.length c_u] 34 rfl kj kj (QcU us a_u c_u B2 (qT hul (by decide)) hmu hd _ (TrAt.ext hu x8) (TabAt.ext hT x8) (ShT.ext hSh x8)) fun W9 e9=>?_
  have x9:Ext w W9:=Ext.tr x8 e9
  refine Qaa (.tuple #[.agg (ints .u8 (dgN us [] (us.length/2))),.bool true]) 32 rfl kj kj ?_
  refine Qaa (.agg (ints .u8 (dgN us [] (us.length/2)))) 35 rfl kj kj ?_
  refine Qaa (.bool true) 36 rfl kj kj ?_
  refine Qan (ints .u8 (List.replicate 32 0)) 28 7 rfl kj kj fun g9 W10 l9 e10 r9_10=>?_
  have x10:Ext w W10:=Ext.tr x9 e10
  have b9:w.heap.size≤g9:=qT x9.size l9
  refine Qau g9 _ (ints .u8 (dgN us [] (us.length/2))) 28 r9_10 rfl kj (Qas 28 _ _ g9 28 _ _ r9_10 rfl kj kj (isz (n:=32) kj ((Qae _ _).trans (QaL us [] (us.length/2)))) (eqsz (n:=32) ((Qae _ _).trans (qZ (n:=32))) ((Qae _ _).trans (QaL us [] (us.length/2)))) (Qaw _ _)) fun W11 p11 r9_11=>?_
  have x11:Ext w W11:=Puts.ext p11 x10 b9
  refine Qaa (.bool true) 8 rfl kj kj ?_
  refine Qaf ?_
  refine hK8 _ _ ?_
  refine wp_seq_k fun K10 hK10=>?_
  refine wp_seq_k fun K11 hK11=>?_
  refine Qab ?_
  refine Qaa (.bool true) 37 rfl kj kj ?_
  refine Qaa (.bool false) 38 rfl kj kj ?_
  refine Qaa (.bool false) 39 rfl kj kj ?_
  refine Qaa (.bool true) 40 rfl kj kj ?_
  refine Qaa (.bool false) 41 rfl kj kj ?_
  refine Qaa (.bool false) 42 rfl kj kj ?_
  refine Qaf ?_
  refine hK11 _ _ ?_
  refine cond_false kj ?_
  refine wp_skip ?_
  refine hK10 _ _ ?_
  refine wp_seq_k fun K12 hK12=>?_
  refine wp_seq_k fun K13 hK13=>?_
  refine Qab ?_
  refine Qaa (.slice a_t ts.length c_t) 43 rfl kj kj ?_
  refine Qaa (.slice a_u us.length c_u) 44 rfl kj kj ?_
  refine Qal (.bool true) 20 #[.slice a_t ts.length c_t,.slice a_u us.length c_u] 45 rfl kj kj (Qgi true ts us a_t a_u c_t c_u _ _ _ (by omega) (by omega) (fun i hi=>qT (hmt i hi) (by decide)) (fun i hi=>qT (hmu i hi) (by decide)) (TrAt.ext ht x11) (TrAt.ext hu x11) hsame) fun W12 e12=>?_
  have x12:Ext w W12:=Ext.tr x11 e12
  refine Qaf ?_
  refine hK13 _ _ ?_
  refine cond_true kj ?_
  refine wp_seq_k fun K14 hK14=>?_
  refine Qab ?_
  have r7_9:=(Qah r7_8 e9)
  have r7_10:=(Qah r7_9 e10)
  have r7_11:=(Puts.row p11 r7_10 (Qay r7_9 l9))
  have r7_12:=(Qah r7_11 e12)
  refine Qaa (.agg (ints .u8 (dgN ts [] (ts.length/2)))) 46 rfl kj (Qa4 28 _ g7 28 _ _ r7_12 rfl kj kj (isz (n:=32) kj ((Qae _ _).trans (QaL ts [] (ts.length/2))))) ?_
  have r9_12:=(Qah r9_11 e12)
  refine Qaa (.agg (ints .u8 (dgN us [] (us.length/2)))) 47 rfl kj (Qa4 28 _ g9 28 _ _ r9_12 rfl kj kj (isz (n:=32) kj ((Qae _ _).trans (QaL us [] (us.length/2))))) ?_
  refine Qaa (.bool true) 48 rfl kj (QaB 28 _ _ _ _ _ (.bool true) rfl kj kj kj (QaO 28 (e:=5) (k:=.u8) (dgN ts [] (ts.length/2)) (dgN us [] (us.length/2)) (decide_eq_true hdg) (QaL ts [] (ts.length/2)) (QaL us [] (us.length/2)) kj kj kj _)) ?_
  refine Qaa (.bool true) 4 rfl kj kj ?_
  refine Qaf ?_
  refine hK14 _ _ ?_
  refine wp_ret ?_
  repeat (first | with_reducible refine goR1 ?_ | with_reducible refine goR2 ?_)
  exact (show bodyPost _ _ _ .ret _ _ from ret1 (.bool true) rfl (Qaq kj) ⟨rfl,x12⟩)
set_option maxRecDepth 100000 in
theorem Qjd (ts us:List NdV) (a_t a_u:Option Addr) (c_t c_u B1 B2:Nat) (w:World) (ht:TrAt B1 w a_t ts) (hu:TrAt B2 w a_u us) (hT:TabAt w) (hSh:ShT w) (hs:∀ i,i<ts.length→i≤40∧(ndi ts i).n.ms.length≤50) (hz:∀ i,i<us.length→i≤40∧(ndi us i).n.ms.length≤50) (htl:ts.length≤1000) (hul:us.length≤1000) (hmt:∀ i,i<ts.length→(ndi ts i).n.ms.length≤50) (hmu:∀ i,i<us.length→(ndi us i).n.ms.length≤50) (hc:chkT ts=true) (hd:chkT us=true) (h0u:0<us.length) (L M:Nat) (f:Form ts L) (g:Form us M) (hsame:Qcq ts us=false) (hdg:¬ dgN ts [] (ts.length/2)=dgN us [] (us.length/2)):Calls Tryd.prog 6 #[.slice a_t ts.length c_t,.slice a_u us.length c_u] w (Ret w (.bool true)):=by
  refine enter 60 [(0,.slice a_t ts.length c_t),(1,.slice a_u us.length c_u)] Tryd.func6 rfl rfl kj rfl ?_
  refine wp_seq_k fun K1 hK1=>?_
  refine Qab ?_
  refine Qaa (.bool false) 4 rfl kj kj ?_
  refine Qaf ?_
  refine hK1 _ _ ?_
  refine wp_seq_k fun K2 hK2=>?_
  refine wp_seq_k fun K3 hK3=>?_
  refine Qab ?_
  refine Qal (.bool true) 8 #[] 9 rfl kj kj (Qdb _ (TabAt.ext hT (Rely.Ext.refl w)) (ShT.ext hSh (Rely.Ext.refl w))) fun W1 e1=>?_
  have x1:Ext w W1:=Ext.tr (Rely.Ext.refl w) e1
  refine Qaa (.bool false) 10 rfl kj kj ?_
  refine Qaf ?_
  refine hK3 _ _ ?_
  refine cond_false kj ?_
  refine wp_skip ?_
  refine hK2 _ _ ?_
  refine wp_seq_k fun K4 hK4=>?_
  refine wp_seq_k fun K5 hK5=>?_
  refine Qab ?_
  refine Qaa (.slice a_t ts.length c_t) 11 rfl kj kj ?_
  refine Qal (.bool false) 9 #[.slice a_t ts.length c_t] 12 rfl kj kj (Qbt ts a_t c_t _ _ (TrAt.ext ht x1) hs) fun W2 e2=>?_
  have x2:Ext w W2:=Ext.tr x1 e2
  refine Qaa (.bool false) 13 rfl kj kj ?_
  refine Qaa (.slice a_u us.length c_u) 14 rfl kj kj ?_
  refine Qal (.bool false) 9 #[.slice a_u us.length c_u] 15 rfl kj kj (Qbt us a_u c_u _ _ (TrAt.ext hu x2) hz) fun W3 e3=>?_
  have x3:Ext w W3:=Ext.tr x2 e3
  refine Qaa (.bool false) 16 rfl kj kj ?_
  refine Qaa (.bool false) 17 rfl kj kj ?_
  refine Qaa (.slice a_t ts.length c_t) 18 rfl kj kj ?_
  refine Qal (.bool true) 12 #[.slice a_t ts.length c_t] 19 rfl kj kj (Qfj ts a_t c_t _ _ (TrAt.ext ht x3) (qT htl (by decide)) (fun i hi=>qT (hmt i hi) (by decide)) true hc) fun W4 e4=>?_
  have x4:Ext w W4:=Ext.tr x3 e4
  refine Qaa (.bool false) 20 rfl kj kj ?_
  refine Qaa (.bool false) 21 rfl kj kj ?_
  refine Qaa (.bool false) 22 rfl kj kj ?_
  refine Qaa (.slice a_u us.length c_u) 23 rfl kj kj ?_
  refine Qal (.bool true) 12 #[.slice a_u us.length c_u] 24 rfl kj kj (Qfj us a_u c_u _ _ (TrAt.ext hu x4) (qT hul (by decide)) (fun i hi=>qT (hmu i hi) (by decide)) true hd) fun W5 e5=>?_
  have x5:Ext w W5:=Ext.tr x4 e5
  refine Qaa (.bool false) 25 rfl kj kj ?_
  refine Qaa (.bool false) 26 rfl kj kj ?_
  refine Qaf ?_
  refine hK5 _ _ ?_
  refine cond_false kj ?_
  refine wp_skip ?_
  refine hK4 _ _ ?_
  refine wp_seq_k fun K6 hK6=>?_
  refine Qab ?_
  refine Qaa (.slice a_t ts.length c_t) 28 rfl kj kj ?_
  refine Qal (.tuple #[.agg (ints .u8 (dgN ts [] (ts.length/2))),.bool true]) 11 #[.slice a_t ts.length c_t] 29 rfl kj kj (QcU ts a_t c_t B1 (qT htl (by decide)) hmt hc _ (TrAt.ext ht x5) (TabAt.ext hT x5) (ShT.ext hSh x5)) fun W6 e6=>?_
  have x6:Ext w W6:=Ext.tr x5 e6
  refine Qaa (.tuple #[.agg (ints .u8 (dgN ts [] (ts.length/2))),.bool true]) 27 rfl kj kj ?_
  refine Qaa (.agg (ints .u8 (dgN ts [] (ts.length/2)))) 30 rfl kj kj ?_
  refine Qaa (.bool true) 31 rfl kj kj ?_
  refine Qan (ints .u8 (List.replicate 32 0)) 28 5 rfl kj kj fun g7 W7 l7 e7 r7_7=>?_
  have x7:Ext w W7:=Ext.tr x6 e7
  have b7:w.heap.size≤g7:=qT x6.size l7
  refine Qau g7 _ (ints .u8 (dgN ts [] (ts.length/2))) 28 r7_7 rfl kj (Qas 28 _ _ g7 28 _ _ r7_7 rfl kj kj (isz (n:=32) kj ((Qae _ _).trans (QaL ts [] (ts.length/2)))) (eqsz (n:=32) ((Qae _ _).trans (qZ (n:=32))) ((Qae _ _).trans (QaL ts [] (ts.length/2)))) (Qaw _ _)) fun W8 p8 r7_8=>?_
  have x8:Ext w W8:=Puts.ext p8 x7 b7
  refine Qaa (.bool true) 6 rfl kj kj ?_
  refine Qaf ?_
  refine hK6 _ _ ?_
  refine wp_seq_k fun K8 hK8=>?_
  refine Qab ?_
  refine Qaa (.slice a_u us.length c_u) 33 rfl kj kj ?_
  refine Qal (.tuple #[.agg (ints .u8 (dgN us [] (us.length/2))),.bool true]) 11 #[.slice a_u us.length c_u] 34 rfl kj kj (QcU us a_u c_u B2 (qT hul (by decide)) hmu hd _ (TrAt.ext hu x8) (TabAt.ext hT x8) (ShT.ext hSh x8)) fun W9 e9=>?_
  have x9:Ext w W9:=Ext.tr x8 e9
  refine Qaa (.tuple #[.agg (ints .u8 (dgN us [] (us.length/2))),.bool true]) 32 rfl kj kj ?_
  refine Qaa (.agg (ints .u8 (dgN us [] (us.length/2)))) 35 rfl kj kj ?_
  refine Qaa (.bool true) 36 rfl kj kj ?_
  refine Qan (ints .u8 (List.replicate 32 0)) 28 7 rfl kj kj fun g9 W10 l9 e10 r9_10=>?_
  have x10:Ext w W10:=Ext.tr x9 e10
  have b9:w.heap.size≤g9:=qT x9.size l9
  refine Qau g9 _ (ints .u8 (dgN us [] (us.length/2))) 28 r9_10 rfl kj (Qas 28 _ _ g9 28 _ _ r9_10 rfl kj kj (isz (n:=32) kj ((Qae _ _).trans (QaL us [] (us.length/2)))) (eqsz (n:=32) ((Qae _ _).trans (qZ (n:=32))) ((Qae _ _).trans (QaL us [] (us.length/2)))) (Qaw _ _)) fun W11 p11 r9_11=>?_
  have x11:Ext w W11:=Puts.ext p11 x10 b9
  refine Qaa (.bool true) 8 rfl kj kj ?_
  refine Qaf ?_
  refine hK8 _ _ ?_
  refine wp_seq_k fun K10 hK10=>?_
  refine wp_seq_k fun K11 hK11=>?_
  refine Qab ?_
  refine Qaa (.bool true) 37 rfl kj kj ?_
  refine Qaa (.bool false) 38 rfl kj kj ?_
  refine Qaa (.bool false) 39 rfl kj kj ?_
  refine Qaa (.bool true) 40 rfl kj kj ?_
  refine Qaa (.bool false) 41 rfl kj kj ?_
  refine Qaa (.bool false) 42 rfl kj kj ?_
  refine Qaf ?_
  refine hK11 _ _ ?_
  refine cond_false kj ?_
  refine wp_skip ?_
  refine hK10 _ _ ?_
  refine wp_seq_k fun K12 hK12=>?_
  refine wp_seq_k fun K13 hK13=>?_
  refine Qab ?_
  refine Qaa (.slice a_t ts.length c_t) 43 rfl kj kj ?_
  refine Qaa (.slice a_u us.length c_u) 44 rfl kj kj ?_
  refine Qal (.bool false) 20 #[.slice a_t ts.length c_t,.slice a_u us.length c_u] 45 rfl kj kj (Qgi false ts us a_t a_u c_t c_u _ _ _ (by omega) (by omega) (fun i hi=>qT (hmt i hi) (by decide)) (fun i hi=>qT (hmu i hi) (by decide)) (TrAt.ext ht x11) (TrAt.ext hu x11) hsame) fun W12 e12=>?_
  have x12:Ext w W12:=Ext.tr x11 e12
  refine Qaf ?_
  refine hK13 _ _ ?_
  refine cond_false kj ?_
  refine wp_skip ?_
  refine hK12 _ _ ?_
  refine wp_seq_k fun K14 hK14=>?_
  refine Qab ?_
  have r7_9:=(Qah r7_8 e9)
  have r7_10:=(Qah r7_9 e10)
  have r7_11:=(Puts.row p11 r7_10 (Qay r7_9 l9))
  have r7_12:=(Qah r7_11 e12)
  refine Qaa (.agg (ints .u8 (dgN ts [] (ts.length/2)))) 49 rfl kj (Qa4 28 _ g7 28 _ _ r7_12 rfl kj kj (isz (n:=32) kj ((Qae _ _).trans (QaL ts [] (ts.length/2))))) ?_
  have r9_12:=(Qah r9_11 e12)
  refine Qaa (.agg (ints .u8 (dgN us [] (us.length/2)))) 50 rfl kj (Qa4 28 _ g9 28 _ _ r9_12 rfl kj kj (isz (n:=32) kj ((Qae _ _).trans (QaL us [] (us.length/2))))) ?_
  refine Qaa (.bool true) 51 rfl kj (QaM 28 _ _ _ _ _ (.bool true) rfl kj kj kj (QaV 28 (e:=5) (k:=.u8) (dgN ts [] (ts.length/2)) (dgN us [] (us.length/2)) (decide_eq_false hdg) (QaL ts [] (ts.length/2)) (QaL us [] (us.length/2)) kj kj kj _)) ?_
  refine Qaa (.bool true) 52 rfl kj kj ?_
  refine Qad 53 rfl kj ?_
  refine Qad 54 rfl kj ?_
  refine Qad 55 rfl kj ?_
  refine Qad 56 rfl kj ?_
  refine Qad 57 rfl kj ?_
  refine Qad 58 rfl kj ?_
  refine Qaa (.bool true) 59 rfl kj kj ?_
  refine Qaa (.bool true) 4 rfl kj kj ?_
  refine Qaf ?_
  refine hK14 _ _ ?_
  refine wp_ret ?_
  repeat (first | with_reducible refine goR1 ?_ | with_reducible refine goR2 ?_)
  exact (show bodyPost _ _ _ .ret _ _ from ret1 (.bool true) rfl (Qaq kj) ⟨rfl,x12⟩)
set_option maxRecDepth 100000 in
theorem Qjf (ts us:List NdV) (a_t a_u:Option Addr) (c_t c_u B1 B2:Nat) (w:World) (ht:TrAt B1 w a_t ts) (hu:TrAt B2 w a_u us) (hT:TabAt w) (hSh:ShT w) (hs:∀ i,i<ts.length→i≤40∧(ndi ts i).n.ms.length≤50) (hz:∀ i,i<us.length→i≤40∧(ndi us i).n.ms.length≤50) (htl:ts.length≤1000) (hul:us.length≤1000) (hmt:∀ i,i<ts.length→(ndi ts i).n.ms.length≤50) (hmu:∀ i,i<us.length→(ndi us i).n.ms.length≤50) (hc:chkT ts=true) (hd:chkT us=true) (h0u:0<us.length) (L M:Nat) (f:Form ts L) (g:Form us M) (hsame:Qcq ts us=false) (hdg:dgN ts [] (ts.length/2)=dgN us [] (us.length/2)) (hcol:¬ uniq ((List.range ts.length).map (txT ts)++(List.range us.length).map (txT us))):Calls Tryd.prog 6 #[.slice a_t ts.length c_t,.slice a_u us.length c_u] w (Ret w (.bool true)):=by
  refine enter 60 [(0,.slice a_t ts.length c_t),(1,.slice a_u us.length c_u)] Tryd.func6 rfl rfl kj rfl ?_
  refine wp_seq_k fun K1 hK1=>?_
  refine Qab ?_
  refine Qaa (.bool false) 4 rfl kj kj ?_
  refine Qaf ?_
  refine hK1 _ _ ?_
  refine wp_seq_k fun K2 hK2=>?_
  refine wp_seq_k fun K3 hK3=>?_
  refine Qab ?_
  refine Qal (.bool true) 8 #[] 9 rfl kj kj (Qdb _ (TabAt.ext hT (Rely.Ext.refl w)) (ShT.ext hSh (Rely.Ext.refl w))) fun W1 e1=>?_
  have x1:Ext w W1:=Ext.tr (Rely.Ext.refl w) e1
  refine Qaa (.bool false) 10 rfl kj kj ?_
  refine Qaf ?_
  refine hK3 _ _ ?_
  refine cond_false kj ?_
  refine wp_skip ?_
  refine hK2 _ _ ?_
  refine wp_seq_k fun K4 hK4=>?_
  refine wp_seq_k fun K5 hK5=>?_
  refine Qab ?_
  refine Qaa (.slice a_t ts.length c_t) 11 rfl kj kj ?_
  refine Qal (.bool false) 9 #[.slice a_t ts.length c_t] 12 rfl kj kj (Qbt ts a_t c_t _ _ (TrAt.ext ht x1) hs) fun W2 e2=>?_
  have x2:Ext w W2:=Ext.tr x1 e2
  refine Qaa (.bool false) 13 rfl kj kj ?_
  refine Qaa (.slice a_u us.length c_u) 14 rfl kj kj ?_
  refine Qal (.bool false) 9 #[.slice a_u us.length c_u] 15 rfl kj kj (Qbt us a_u c_u _ _ (TrAt.ext hu x2) hz) fun W3 e3=>?_
  have x3:Ext w W3:=Ext.tr x2 e3
  refine Qaa (.bool false) 16 rfl kj kj ?_
  refine Qaa (.bool false) 17 rfl kj kj ?_
  refine Qaa (.slice a_t ts.length c_t) 18 rfl kj kj ?_
  refine Qal (.bool true) 12 #[.slice a_t ts.length c_t] 19 rfl kj kj (Qfj ts a_t c_t _ _ (TrAt.ext ht x3) (qT htl (by decide)) (fun i hi=>qT (hmt i hi) (by decide)) true hc) fun W4 e4=>?_
  have x4:Ext w W4:=Ext.tr x3 e4
  refine Qaa (.bool false) 20 rfl kj kj ?_
  refine Qaa (.bool false) 21 rfl kj kj ?_
  refine Qaa (.bool false) 22 rfl kj kj ?_
  refine Qaa (.slice a_u us.length c_u) 23 rfl kj kj ?_
  refine Qal (.bool true) 12 #[.slice a_u us.length c_u] 24 rfl kj kj (Qfj us a_u c_u _ _ (TrAt.ext hu x4) (qT hul (by decide)) (fun i hi=>qT (hmu i hi) (by decide)) true hd) fun W5 e5=>?_
  have x5:Ext w W5:=Ext.tr x4 e5
  refine Qaa (.bool false) 25 rfl kj kj ?_
  refine Qaa (.bool false) 26 rfl kj kj ?_
  refine Qaf ?_
  refine hK5 _ _ ?_
  refine cond_false kj ?_
  refine wp_skip ?_
  refine hK4 _ _ ?_
  refine wp_seq_k fun K6 hK6=>?_
  refine Qab ?_
  refine Qaa (.slice a_t ts.length c_t) 28 rfl kj kj ?_
  refine Qal (.tuple #[.agg (ints .u8 (dgN ts [] (ts.length/2))),.bool true]) 11 #[.slice a_t ts.length c_t] 29 rfl kj kj (QcU ts a_t c_t B1 (qT htl (by decide)) hmt hc _ (TrAt.ext ht x5) (TabAt.ext hT x5) (ShT.ext hSh x5)) fun W6 e6=>?_
  have x6:Ext w W6:=Ext.tr x5 e6
  refine Qaa (.tuple #[.agg (ints .u8 (dgN ts [] (ts.length/2))),.bool true]) 27 rfl kj kj ?_
  refine Qaa (.agg (ints .u8 (dgN ts [] (ts.length/2)))) 30 rfl kj kj ?_
  refine Qaa (.bool true) 31 rfl kj kj ?_
  refine Qan (ints .u8 (List.replicate 32 0)) 28 5 rfl kj kj fun g7 W7 l7 e7 r7_7=>?_
  have x7:Ext w W7:=Ext.tr x6 e7
  have b7:w.heap.size≤g7:=qT x6.size l7
  refine Qau g7 _ (ints .u8 (dgN ts [] (ts.length/2))) 28 r7_7 rfl kj (Qas 28 _ _ g7 28 _ _ r7_7 rfl kj kj (isz (n:=32) kj ((Qae _ _).trans (QaL ts [] (ts.length/2)))) (eqsz (n:=32) ((Qae _ _).trans (qZ (n:=32))) ((Qae _ _).trans (QaL ts [] (ts.length/2)))) (Qaw _ _)) fun W8 p8 r7_8=>?_
  have x8:Ext w W8:=Puts.ext p8 x7 b7
  refine Qaa (.bool true) 6 rfl kj kj ?_
  refine Qaf ?_
  refine hK6 _ _ ?_
  refine wp_seq_k fun K8 hK8=>?_
  refine Qab ?_
  refine Qaa (.slice a_u us.length c_u) 33 rfl kj kj ?_
  refine Qal (.tuple #[.agg (ints .u8 (dgN us [] (us.length/2))),.bool true]) 11 #[.slice a_u us.length c_u] 34 rfl kj kj (QcU us a_u c_u B2 (qT hul (by decide)) hmu hd _ (TrAt.ext hu x8) (TabAt.ext hT x8) (ShT.ext hSh x8)) fun W9 e9=>?_
  have x9:Ext w W9:=Ext.tr x8 e9
  refine Qaa (.tuple #[.agg (ints .u8 (dgN us [] (us.length/2))),.bool true]) 32 rfl kj kj ?_
  refine Qaa (.agg (ints .u8 (dgN us [] (us.length/2)))) 35 rfl kj kj ?_
  refine Qaa (.bool true) 36 rfl kj kj ?_
  refine Qan (ints .u8 (List.replicate 32 0)) 28 7 rfl kj kj fun g9 W10 l9 e10 r9_10=>?_
  have x10:Ext w W10:=Ext.tr x9 e10
  have b9:w.heap.size≤g9:=qT x9.size l9
  refine Qau g9 _ (ints .u8 (dgN us [] (us.length/2))) 28 r9_10 rfl kj (Qas 28 _ _ g9 28 _ _ r9_10 rfl kj kj (isz (n:=32) kj ((Qae _ _).trans (QaL us [] (us.length/2)))) (eqsz (n:=32) ((Qae _ _).trans (qZ (n:=32))) ((Qae _ _).trans (QaL us [] (us.length/2)))) (Qaw _ _)) fun W11 p11 r9_11=>?_
  have x11:Ext w W11:=Puts.ext p11 x10 b9
  refine Qaa (.bool true) 8 rfl kj kj ?_
  refine Qaf ?_
  refine hK8 _ _ ?_
  refine wp_seq_k fun K10 hK10=>?_
  refine wp_seq_k fun K11 hK11=>?_
  refine Qab ?_
  refine Qaa (.bool true) 37 rfl kj kj ?_
  refine Qaa (.bool false) 38 rfl kj kj ?_
  refine Qaa (.bool false) 39 rfl kj kj ?_
  refine Qaa (.bool true) 40 rfl kj kj ?_
  refine Qaa (.bool false) 41 rfl kj kj ?_
  refine Qaa (.bool false) 42 rfl kj kj ?_
  refine Qaf ?_
  refine hK11 _ _ ?_
  refine cond_false kj ?_
  refine wp_skip ?_
  refine hK10 _ _ ?_
  refine wp_seq_k fun K12 hK12=>?_
  refine wp_seq_k fun K13 hK13=>?_
  refine Qab ?_
  refine Qaa (.slice a_t ts.length c_t) 43 rfl kj kj ?_
  refine Qaa (.slice a_u us.length c_u) 44 rfl kj kj ?_
  refine Qal (.bool false) 20 #[.slice a_t ts.length c_t,.slice a_u us.length c_u] 45 rfl kj kj (Qgi false ts us a_t a_u c_t c_u _ _ _ (by omega) (by omega) (fun i hi=>qT (hmt i hi) (by decide)) (fun i hi=>qT (hmu i hi) (by decide)) (TrAt.ext ht x11) (TrAt.ext hu x11) hsame) fun W12 e12=>?_
  have x12:Ext w W12:=Ext.tr x11 e12
  refine Qaf ?_
  refine hK13 _ _ ?_
  refine cond_false kj ?_
  refine wp_skip ?_
  refine hK12 _ _ ?_
  refine wp_seq_k fun K14 hK14=>?_
  refine Qab ?_
  have r7_9:=(Qah r7_8 e9)
  have r7_10:=(Qah r7_9 e10)
  have r7_11:=(Puts.row p11 r7_10 (Qay r7_9 l9))
  have r7_12:=(Qah r7_11 e12)
  refine Qaa (.agg (ints .u8 (dgN ts [] (ts.length/2)))) 49 rfl kj (Qa4 28 _ g7 28 _ _ r7_12 rfl kj kj (isz (n:=32) kj ((Qae _ _).trans (QaL ts [] (ts.length/2))))) ?_
  have r9_12:=(Qah r9_11 e12)
  refine Qaa (.agg (ints .u8 (dgN us [] (us.length/2)))) 50 rfl kj (Qa4 28 _ g9 28 _ _ r9_12 rfl kj kj (isz (n:=32) kj ((Qae _ _).trans (QaL us [] (us.length/2))))) ?_
  refine Qaa (.bool false) 51 rfl kj (QaM 28 _ _ _ _ _ (.bool false) rfl kj kj kj (QaV 28 (e:=5) (k:=.u8) (dgN ts [] (ts.length/2)) (dgN us [] (us.length/2)) (decide_eq_true hdg) (QaL ts [] (ts.length/2)) (QaL us [] (us.length/2)) kj kj kj _)) ?_
  refine Qaa (.bool false) 52 rfl kj kj ?_
  refine Qaa (.slice a_t ts.length c_t) 53 rfl kj kj ?_
  refine Qa1 (fun v W'=>(fun v W9=>∃ vs,OwS W12.heap.size vs ((List.range ts.length).map (txT ts)) v W9) v W'∧Ext W12 W') 22 #[.slice a_t ts.length c_t] 54 rfl kj kj ((Qj8 ts a_t c_t B1 (qT htl (by decide)) hmt L f _ (TrAt.ext ht x12)).mono (by rintro e w' ⟨v,rfl,e1,hv⟩; exact ⟨v,rfl,hv,e1⟩)) fun vv15 W13 hh15=>?_
  obtain ⟨hv15,e13⟩:=hh15
  have x13:Ext w W13:=Ext.tr x12 e13
  obtain ⟨vt,hOt⟩:=hv15
  refine Qaa (.slice a_u us.length c_u) 55 rfl kj kj ?_
  refine Qa1 (fun v W'=>(fun v W9=>∃ vs,OwS W13.heap.size vs ((List.range us.length).map (txT us)) v W9) v W'∧Ext W13 W') 22 #[.slice a_u us.length c_u] 56 rfl kj kj ((Qj8 us a_u c_u B2 (qT hul (by decide)) hmu M g _ (TrAt.ext hu x13)).mono (by rintro e w' ⟨v,rfl,e1,hv⟩; exact ⟨v,rfl,hv,e1⟩)) fun vv16 W14 hh16=>?_
  obtain ⟨hv16,e14⟩:=hh16
  have x14:Ext w W14:=Ext.tr x13 e14
  obtain ⟨vu,hOu⟩:=hv16
  have hlu:vu.length=us.length:=by have h9:=hOu.len; rwa [List.length_map,List.length_range] at h9
  obtain ⟨gu,cu,rfl,hbu,-,-,-,hcu⟩:=hOu.opens (by omega)
  have y13_14:Ext W13 W14:=(Rely.Ext.trans (Rely.Ext.refl W13) e14)
  have y12_13:Ext W12 W13:=(Rely.Ext.trans (Rely.Ext.refl W12) e13)
  have y12_14:Ext W12 W14:=(Rely.Ext.trans y12_13 e14)
  have hlt_:vt.length=ts.length:=by have h9:=hOt.len; rwa [List.length_map,List.length_range] at h9
  refine Qgr (g:=gu) (c:=cu) (us:=vu) (ms:=(List.range us.length).map (txT us)) (.tmp 54) (.tmp 56) 42 rfl kj kj 57 rfl kj kj kj (OwS.ext hOt y13_14) hOu.len hcu (fun j hj=>OwnN.base ((y12_13).size) (hOu.each j hj)) (by omega) ((y12_14).size) fun u2 W15 hO2 l15=>?_
  obtain ⟨a2,c2,rfl⟩:=hO2.slice
  have x15:Ext w W15:=Ext.low x14 l15 x12.size
  refine Qal (.bool true) 21 #[.slice a2 (vt++vu).length c2] 58 rfl kj kj (Qjw (vt++vu) _ a2 c2 _ _ (OwS.ext hO2 (Rely.Ext.refl W15)) (fun A hA=>(List.mem_append.1 hA).elim (Qj5 ht.oks hmt) (Qj5 hu.oks hmu)) (by rw [List.length_append]; omega) hcol) fun W16 e16=>?_
  have x16:Ext w W16:=Ext.tr x15 e16
  refine Qaa (.bool true) 59 rfl kj kj ?_
  refine Qaa (.bool true) 4 rfl kj kj ?_
  refine Qaf ?_
  refine hK14 _ _ ?_
  refine wp_ret ?_
  repeat (first | with_reducible refine goR1 ?_ | with_reducible refine goR2 ?_)
  exact (show bodyPost _ _ _ .ret _ _ from ret1 (.bool true) rfl (Qaq kj) ⟨rfl,x16⟩)
theorem lawUnlike (ts us:List NdV) (a_t a_u:Option Addr) (c_t c_u B1 B2:Nat) (w:World) (ht:TrAt B1 w a_t ts) (hu:TrAt B2 w a_u us) (hT:TabAt w) (hSh:ShT w):Calls Tryd.prog 6 #[.slice a_t ts.length c_t,.slice a_u us.length c_u] w (Ret w (.bool true)):=by
  by_cases hs:∀ i,i<ts.length→i≤40∧(ndi ts i).n.ms.length≤50
  case neg=>exact Qjb ts us a_t a_u c_t c_u B1 B2 w ht hu hT hSh hs
  by_cases hz:∀ i,i<us.length→i≤40∧(ndi us i).n.ms.length≤50
  case neg=>exact Qja ts us a_t a_u c_t c_u B1 B2 w ht hu hT hSh hs hz
  have h41:=sm15 hs
  have h42:=sm15 hz
  have hmt:∀ i,i<ts.length→(ndi ts i).n.ms.length≤50:=fun i hi=>(hs i hi).2
  have hmu:∀ i,i<us.length→(ndi us i).n.ms.length≤50:=fun i hi=>(hz i hi).2
  cases hc:chkT ts with
  | false=>exact Qjg ts us a_t a_u c_t c_u B1 B2 w ht hu hT hSh hs hz (by omega) (by omega) hmt hmu hc
  | true =>
    cases hd:chkT us with
    | false=>exact Qje ts us a_t a_u c_t c_u B1 B2 w ht hu hT hSh hs hz (by omega) (by omega) hmt hmu hc hd
    | true =>
      obtain ⟨L,f,-⟩:=QbH (by omega) hc
      obtain ⟨M,g,-⟩:=QbH (by omega) hd
      have h0u:=Qir (by omega) hd
      have h0t:=Qir (by omega) hc
      by_cases has:AsC us ts
      · exact Qjc ts us a_t a_u c_t c_u B1 B2 w ht hu hT hSh hs hz (by omega) (by omega) hmt hmu hc hd h0u L M f g (QiG has.symm) (by rw [has.1]; unfold dgN; rw [QfP f has [] 5 _ (by omega)])
      · have hsf:Qcq ts us=false:=by
          cases e:Qcq ts us with
          | false=>rfl
          | true=>exact absurd (Qj1 e) has
        by_cases hdg:dgN ts [] (ts.length/2)=dgN us [] (us.length/2)
        · exact Qjf ts us a_t a_u c_t c_u B1 B2 w ht hu hT hSh hs hz (by omega) (by omega) hmt hmu hc hd h0u L M f g hsf hdg (QgN f g ht.oks hu.oks hdg has)
        · exact Qjd ts us a_t a_u c_t c_u B1 B2 w ht hu hT hSh hs hz (by omega) (by omega) hmt hmu hc hd h0u L M f g hsf hdg
end Go.Proofs.YthfkppjajmjpnaaDoor.Te
end
section
namespace Go.Proofs.YthfkppjajmjpnaaDoor.Auto
open Go Go.RowKit Go.WideShapes
open Rely
section
variable {H : Type} {enc : TypeId × Value → H} {P : Program} {W w : World} {r : Reach} {base b0 : Nat} {sp : Nat → Bool} {held : Bool}
theorem open_raw {n : Nat} {t e:TypeId} {cs:List Value} {fuel:Nat} {x:DataW H×List MemPlace} (ht:P.underlying t=some (.array n e)) (he:P.underlying e=some (.int .u8)) (hce:P.cellsOf e=1) (hct:P.cellsOf t=n)
    (hf:DataW.trod enc P w b0 sp held fuel t cs=some x):∃ xs:List Int,cs=xs.map (Value.int .u8)∧xs.length=n∧Qav xs:=by
  obtain ⟨xs,m,-,-,hl,hn,hx⟩:=DataW.trod_array ht hf
  have hcs:cs.length=n:=by simpa [hct] using hl
  have each:∀ i,i<n→∃ z:Int,cs[i]? = some (.int .u8 z)∧(0≤z∧z≤255):=by
    intro i hi
    have h1:=hx i hi
    rw [hce,Nat.mul_one] at h1
    have hlt:i<cs.length:=by omega
    have h2:cs.drop i=cs[i]::cs.drop (i+1):=List.drop_eq_getElem_cons hlt
    have h1:DataW.trod enc P w b0 sp held m e ((cs.drop i).take 1)=xs[i]?:=h1
    rw [h2] at h1
    simp only [List.take_succ_cons,List.take_zero] at h1
    obtain ⟨y,hy⟩:∃ y,xs[i]? = some y:=⟨xs[i],by simp [hn,hi]⟩
    rw [hy] at h1
    obtain ⟨z,hc,-,hw⟩:=DataW.trod_int he h1
    refine ⟨z,?_,?_⟩
    · rw [List.getElem?_eq_getElem hlt]
      simp only [List.cons.injEq] at hc
      rw [hc.1]
    · simpa [Lit.wf,IntKind.min,IntKind.max,IntKind.signed,IntKind.bits] using hw
  have all:∀ (l:List Value),(∀ i,i<l.length→∃ z:Int,l[i]? = some (.int .u8 z)∧(0≤z∧z≤255))→∃ zs:List Int,l=zs.map (Value.int .u8)∧Qav zs:=by
    intro l
    induction l with
    | nil=>exact fun _=>⟨[],rfl,fun x hx=>by simp at hx⟩
    | cons a l ih =>
      intro h
      obtain ⟨zs,h1,h2⟩:=ih fun i hi=>by simpa using h (i+1) (by simp; omega)
      obtain ⟨z,h3,h4⟩:=h 0 (by simp)
      simp only [List.getElem?_cons_zero,Option.some.injEq] at h3
      refine ⟨z::zs,by rw [h3,h1]; rfl,fun x hx=>?_⟩
      rcases List.mem_cons.1 hx with e | e
      · rw [e]; exact h4
      · exact h2 x e
  obtain ⟨zs,h1,h2⟩:=all cs fun i hi=>each i (by omega)
  exact ⟨zs,h1,by rw [←hcs,h1,List.length_map],h2⟩
end
end Go.Proofs.YthfkppjajmjpnaaDoor.Auto
end
section
namespace Go.Proofs.YthfkppjajmjpnaaDoor.Auto
open Go Go.RowKit Go.WideShapes
open Rely
section
variable {H : Type} {enc : TypeId × Value → H} {P : Program} {W w : World} {r : Reach} {base b0 : Nat} {sp : Nat → Bool} {held : Bool}
theorem QiB {t : TypeId} {f0 f1 f2 f3 f4 f5:Field} {fuel:Nat} {cs:List Value} {x:DataW H×List MemPlace} (ht:P.underlying t=some (.struct #[f0,f1,f2,f3,f4,f5])) (h:DataW.trod enc P w b0 sp held fuel t cs=some x) :
    ∃ y0 y1 y2 y3 y4 y5 n,cs.length=P.cellsOf t∧DataW.trod enc P w b0 sp held n f0.type ((cs.drop f0.offset).take (P.cellsOf f0.type))=some y0∧DataW.trod enc P w b0 sp held n f1.type ((cs.drop f1.offset).take (P.cellsOf f1.type))=some y1∧DataW.trod enc P w b0 sp held n f2.type ((cs.drop f2.offset).take (P.cellsOf f2.type))=some y2∧DataW.trod enc P w b0 sp held n f3.type ((cs.drop f3.offset).take (P.cellsOf f3.type))=some y3∧DataW.trod enc P w b0 sp held n f4.type ((cs.drop f4.offset).take (P.cellsOf f4.type))=some y4∧DataW.trod enc P w b0 sp held n f5.type ((cs.drop f5.offset).take (P.cellsOf f5.type))=some y5:=by
  obtain ⟨xs,n,_,rfl,hl,hlen,hf⟩:=DataW.trod_struct ht h
  match xs,hlen with
  | [y0,y1,y2,y3,y4,y5],_=>exact ⟨y0,y1,y2,y3,y4,y5,n,hl,by simpa using hf 0 f0 rfl,by simpa using hf 1 f1 rfl,by simpa using hf 2 f2 rfl,by simpa using hf 3 f3 rfl,by simpa using hf 4 f4 rfl,by simpa using hf 5 f5 rfl⟩
theorem sub_st6 {t : TypeId} {f0 f1 f2 f3 f4 f5:Field} {fuel:Nat} {cs:List Value} {x:DataW H×List MemPlace} {n0 n1 n2 n3 n4 n5:Nat} (ht:P.underlying t=some (.struct #[f0,f1,f2,f3,f4,f5]))
    (ho:f0.offset=0∧f1.offset=n0∧f2.offset=n0+n1∧f3.offset=n0+n1+n2∧f4.offset=n0+n1+n2+n3∧f5.offset=n0+n1+n2+n3+n4) (hc:P.cellsOf f0.type=n0∧P.cellsOf f1.type=n1∧P.cellsOf f2.type=n2∧P.cellsOf f3.type=n3∧P.cellsOf f4.type=n4∧P.cellsOf f5.type=n5) (hC:P.cellsOf t=n0+n1+n2+n3+n4+n5) (h:DataW.trod enc P w b0 sp held fuel t cs=some x) :
    ∃ (X0 X1 X2 X3 X4 X5:List Value) (y0 y1 y2 y3 y4 y5:DataW H×List MemPlace) (n:Nat),cs=X0++X1++X2++X3++X4++X5∧DataW.trod enc P w b0 sp held n f0.type X0=some y0∧DataW.trod enc P w b0 sp held n f1.type X1=some y1∧DataW.trod enc P w b0 sp held n f2.type X2=some y2∧DataW.trod enc P w b0 sp held n f3.type X3=some y3∧DataW.trod enc P w b0 sp held n f4.type X4=some y4∧DataW.trod enc P w b0 sp held n f5.type X5=some y5:=by
  obtain ⟨y0,y1,y2,y3,y4,y5,n,hl,h0,h1,h2,h3,h4,h5⟩:=QiB ht h
  obtain ⟨o0,o1,o2,o3,o4,o5⟩:=ho
  obtain ⟨c0,c1,c2,c3,c4,c5⟩:=hc
  rw [o0,c0] at h0
  rw [o1,c1] at h1
  rw [o2,c2] at h2
  rw [o3,c3] at h3
  rw [o4,c4] at h4
  rw [o5,c5] at h5
  refine ⟨_,_,_,_,_,_,y0,y1,y2,y3,y4,y5,n,?_,h0,h1,h2,h3,h4,h5⟩
  rw [hC] at hl
  simp only [List.drop_zero]
  have e1:cs.take (n0)++(cs.drop (n0)).take n1=cs.take (n0+n1):=by rw [List.take_add (i:=n0)]
  have e2:cs.take (n0+n1)++(cs.drop (n0+n1)).take n2=cs.take (n0+n1+n2):=by rw [List.take_add (i:=n0+n1)]
  have e3:cs.take (n0+n1+n2)++(cs.drop (n0+n1+n2)).take n3=cs.take (n0+n1+n2+n3):=by rw [List.take_add (i:=n0+n1+n2)]
  have e4:cs.take (n0+n1+n2+n3)++(cs.drop (n0+n1+n2+n3)).take n4=cs.take (n0+n1+n2+n3+n4):=by rw [List.take_add (i:=n0+n1+n2+n3)]
  have e5:cs.take (n0+n1+n2+n3+n4)++(cs.drop (n0+n1+n2+n3+n4)).take n5=cs.take (n0+n1+n2+n3+n4+n5):=by rw [List.take_add (i:=n0+n1+n2+n3+n4)]
  rw [e1,e2,e3,e4,e5,List.take_of_length_le (by omega)]
end
end Go.Proofs.YthfkppjajmjpnaaDoor.Auto
end
section
namespace Go.Proofs.YthfkppjajmjpnaaDoor.Auto
open Go Go.RowKit
open Rely
theorem Qeq {P : Program} {w:World}:∀ (laid:List (String×DataW Unit)) (ps:List MemPlace) (n:String) (d:DataW Unit),DataW.LaidVars P w laid ps→(n,d)∈laid →
    ∃ g t cs fuel p,P.globalNamed n=some g∧(P.globals[g]?).map (·.type)=some t∧w.var? P n=some cs∧DataW.trod (fun _=>()) P w 0 (fun _=>true) false fuel t cs.toList=some (d,p)∧∀ x∈MemPlace.row ⟨g,0,none⟩ cs.size,x∈ps
  | [],_,_,_,_,h=>by cases h
  | (n0,d0)::r,ps,n,d,⟨g,t,cs,fuel,p,q,h1,h2,h3,h4,h5,h6⟩,h=>by
    subst h6
    rcases List.mem_cons.1 h with h | h
    · cases h
      exact ⟨g,t,cs,fuel,p,h1,h2,h3,h4,fun x hx=>List.mem_append_left _ (List.mem_append_left _ hx)⟩
    · obtain ⟨g',t',cs',fuel',p',a,b,c,e,f⟩:=Qeq r q n d h5 h
      exact ⟨g',t',cs',fuel',p',a,b,c,e,fun x hx=>List.mem_append_right _ (f x hx)⟩
theorem Qff {P : Program} {w:World} {laid:List (String×DataW Unit)} {n:String} {k:IntKind} {zs:List Int} {g:Nat} {t e:TypeId} {m:Nat} (h:laidMet P laid w) (hm:(n,Lib.tabData k zs)∈laid)
    (hg:P.globalNamed n=some g) (hty:(P.globals[g]?).map (·.type)=some t) (ht:P.underlying t=some (.array m e)) (he:P.underlying e=some (.int k)) (hce:P.cellsOf e=1) (hct:P.cellsOf t=m) (h0:0<zs.length) :
    ∃ t,w.heap[g]? = some (.cells (ints k zs) t):=by
  obtain ⟨ps,hL,-,hC⟩:=h
  obtain ⟨g',t',cs,fuel,p,hg',ht',hvar,hd,hin⟩:=Qeq _ _ _ _ hL hm
  obtain rfl:=Option.some.inj (hg.symm.trans hg')
  obtain rfl:=Option.some.inj (hty.symm.trans ht')
  have hcs:=Lib.cells_of_tab ht he hce hct hd
  have hsz:0<cs.size:=by rw [←Array.length_toList,hcs,List.length_map]; exact h0
  obtain ⟨⟨c,t2,hc⟩,-⟩:=hC g 0 (hin _ (List.mem_map.2 ⟨0,List.mem_range.2 hsz,rfl⟩))
  unfold World.var? at hvar
  rw [hg] at hvar
  simp only [Option.bind_some,hc,Option.some.injEq] at hvar
  subst hvar
  refine ⟨t2,hc.trans ?_⟩
  rw [show c=ints k zs from by rw [ints,←hcs]]
end Go.Proofs.YthfkppjajmjpnaaDoor.Auto
end
section
namespace Go.Proofs.YthfkppjajmjpnaaDoor.Te
open Go Go.RowKit
open Rely Auto Own Sha
open Go.WideShapes Go.ChangeShapes Go.ChangeAt Go.Deep
open Go.Proofs.YthfkppjajmjpnaaDoor
section
variable {H : Type} {enc : TypeId × Value → H} {P : Program} {w : World} {b0 : Nat} {held : Bool}
theorem Qj2 (x : Addr) (i j:Nat):(x.add i).add j=x.add (i+j):=by
  by_cases hi:i=0 <;> by_cases hj:j=0 <;> simp [Addr.add,hi,hj,Nat.add_assoc]
theorem open_tree {t s e5 e3:TypeId} {f0 f1 f2 f3 f4 f5:Field} {ad:Option Addr} {len cap:Nat} {d:DataW H} {p:List MemPlace} (hs:P.underlying t=some (.slice s)) (hss:P.underlying s=some (.struct #[f0,f1,f2,f3,f4,f5]))
    (ho:f0.offset=0∧f1.offset=1∧f2.offset=1+1∧f3.offset=1+1+32∧f4.offset=1+1+32+32∧f5.offset=1+1+32+32+32) (hc:P.cellsOf f0.type=1∧P.cellsOf f1.type=1∧P.cellsOf f2.type=32∧P.cellsOf f3.type=32∧P.cellsOf f4.type=32∧P.cellsOf f5.type=1) (hC:P.cellsOf s=1+1+32+32+32+1)
    (h0:P.underlying f0.type=some .bool) (h1:P.underlying f1.type=some (.int .i64)) (h2:P.underlying f2.type=some (.array 32 e5)) (h3:P.underlying f3.type=some (.array 32 e5)) (h4:P.underlying f4.type=some (.array 32 e5)) (h5:P.underlying f5.type=some (.slice e3))
    (he5:P.underlying e5=some (.int .u8)) (hc5:P.cellsOf e5=1) (he3:P.underlying e3=some (.int .i64)) (hc3:P.cellsOf e3=1)
    (h:DataW.Trod enc P w b0 (fun _=>true) held t (.slice ad len cap) d p) :
    ∃ ts:List NdV,ts.length=len∧TrAt w.heap.size w ad ts∧∀ n∈ts,NdOk n.n:=by
  obtain ⟨fuel,hf⟩:=h
  rcases DataW.trod_slice hs hf with ⟨hcs',-⟩ | ⟨x,l,c,elems,rest,n,-,hcs',-,hb,hl,hmx,hlen,hel,-,-⟩
  · simp [Value.cells] at hcs'
    obtain ⟨rfl,rfl,rfl⟩:=hcs'
    exact ⟨[],rfl,⟨0,0,fun h=>absurd h (by decide),fun i hi=>absurd hi (Nat.not_lt_zero _)⟩,fun n hn=>by cases hn⟩
  · simp [Value.cells] at hcs'
    obtain ⟨rfl,rfl,rfl⟩:=hcs'
    have key:∀ i,i<len→∃ n:NdV,(∀ j u,(cat (ndP n))[j]? = some u→w.cell? (x.add (i*99+j))=some u)∧RdK .i64 w.heap.size n.n.ms (.slice n.a n.n.ms.length n.c) w∧NdOk n.n:=fun i hi=>by
      have h9:=hel i hi
      rw [hC,List.getElem?_eq_getElem (by omega)] at h9
      obtain ⟨cs,hc1,hc2⟩:=Option.bind_eq_some_iff.1 h9
      obtain ⟨hn,q1,q2⟩:=World.cells?_some hc1
      obtain ⟨X0,X1,X2,X3,X4,X5,y0,y1,y2,y3,y4,y5,m,hcs,t0,t1,t2,t3,t4,t5⟩:=Auto.sub_st6 hss ho hc hC hc2
      obtain ⟨us,rfl,-⟩:=DataW.trod_bool h0 t0
      obtain ⟨nm,rfl,-,-⟩:=DataW.trod_int h1 t1
      obtain ⟨key,rfl,hkl,hkb⟩:=Auto.open_raw h2 he5 hc5 hc.2.2.1 t2
      obtain ⟨sg,rfl,hgl,hgb⟩:=Auto.open_raw h3 he5 hc5 hc.2.2.2.1 t3
      obtain ⟨pa,rfl,hpl,hpb⟩:=Auto.open_raw h4 he5 hc5 hc.2.2.2.2.1 t4
      have fin:∀ (a:Option Addr) (ms:List Int) (c:Nat),X5=[.slice a ms.length c]→RdK .i64 w.heap.size ms (.slice a ms.length c) w→∃ n:NdV,(∀ j u,(cat (ndP n))[j]? = some u→w.cell? (x.add (i*99+j))=some u)∧RdK .i64 w.heap.size n.n.ms (.slice n.a n.n.ms.length n.c) w∧NdOk n.n:=fun a ms c e r=>by
        refine ⟨⟨⟨us,nm,key,sg,pa,ms⟩,a,c⟩,fun j u hu=>?_,r,⟨hkl,hgl,hpl,hkb,hgb,hpb⟩⟩
        have e9:(cat (ndP ⟨⟨us,nm,key,sg,pa,ms⟩,a,c⟩)).toList=cs:=by
          rw [hcs,e]
          unfold ndP
          simp [cat,Rely.ints]
        rw [←Array.getElem?_toList,e9] at hu
        have hj:j<99:=by have:=(List.getElem?_eq_some_iff.1 hu).1; omega
        have:=q2 j hj
        rw [Qj2] at this
        rw [this]; exact hu
      rcases open_ints h5 he3 hc3 t5 with ⟨hcv,-⟩ | ⟨y,l,cc,zs,hcv,-,hl2,hm2,hz2,-,hcell,hwz⟩
      · exact fin none [] 0 hcv ⟨none,0,rfl,qR _,Nat.zero_le _,fun _=>rfl,.inl rfl⟩
      · obtain ⟨r,rl,rf⟩:=Auto.rdK_of_row (k:=.i64) (w:=w) (a:=some y) (len:=l) (cap:=cc) (zs:=zs) (.inr ⟨y,rfl,hl2,hm2,by simpa using hz2,hcell,hwz⟩)
        refine fin (some y) (zs.take l) cc (by rw [rl]; exact hcv) ?_
        rw [rl]; exact r
    rcases Nat.eq_zero_or_pos len with h0' | h0'
    · subst h0'
      exact ⟨[],rfl,⟨0,0,fun h=>absurd h (by decide),fun i hi=>absurd hi (Nat.not_lt_zero _)⟩,fun n hn=>by cases hn⟩
    obtain ⟨b,off,spot⟩:=x
    have first:∀ n:NdV,(cat (ndP n))[0]? = some (.bool n.n.us):=fun n=>by
      unfold ndP
      show (#[Value.bool n.n.us]++cat _)[0]? = _
      rw [Array.getElem?_append_left (show 0<1 by decide)]
      rfl
    obtain ⟨n0,hq,-⟩:=key 0 h0'
    have hq0:=hq 0 _ (first n0)
    have hspot:spot=none:=by simpa [Addr.add] using World.cell?_spot hq0
    subst hspot
    rw [WideShapes.add_plain] at hq0
    have hlt:b<w.heap.size:=Qd0 hq0
    have all:∀ m,m≤len→∃ ts:List NdV,ts.length=m∧∀ i,i<m→NdAt w.heap.size w b (off+i*99) (ndi ts i):=by
      intro m
      induction m with
      | zero=>exact fun _=>⟨[],rfl,fun i hi=>absurd hi (Nat.not_lt_zero _)⟩
      | succ m ih =>
        intro hm
        obtain ⟨ts,htl,hts⟩:=ih (by omega)
        obtain ⟨n,k1,k2,k3⟩:=key m (by omega)
        refine ⟨ts++[n],by rw [List.length_append,htl]; rfl,fun i hi=>?_⟩
        have e:ndi (ts++[n]) i=if i<m then ndi ts i else n:=by
          unfold ndi
          rw [List.getD_eq_getElem?_getD,List.getD_eq_getElem?_getD]
          split
          · rename_i h; rw [List.getElem?_append_left (by omega)]
          · rename_i h
            rw [List.getElem?_append_right (by omega),show i-ts.length=0 by omega]; rfl
        rw [e]
        split
        · rename_i h; exact hts i h
        · rename_i h
          obtain rfl:i=m:=by omega
          exact ⟨hlt,hlt,fun j u hu=>by have:=k1 j u hu; rw [WideShapes.add_plain] at this; rw [Nat.add_assoc]; exact this,k2,k3⟩
    obtain ⟨ts,htl,hts⟩:=all len (qR _)
    refine ⟨ts,htl,⟨b,off,fun _=>rfl,fun i hi=>hts i (by omega)⟩,fun n hn=>?_⟩
    obtain ⟨i,hi,e⟩:=List.mem_iff_getElem.1 hn
    have:=(hts i (by omega)).ok
    unfold ndi at this
    rw [List.getD_eq_getElem?_getD,List.getElem?_eq_getElem hi] at this
    rw [←e]; exact this
end
end Go.Proofs.YthfkppjajmjpnaaDoor.Te
end
