/- Texts of this claim, joined (MC5). -/
import Derived.Test.YthfkppjajmjpnaaDoorZMC4
import Derived.Lib.SmallJoins
import Derived.Lib.LaidTab
import Derived.Deep.Strs

set_option linter.unusedVariables false
set_option linter.unusedSimpArgs false
set_option maxHeartbeats 4000000
section
namespace Go.Proofs.YthfkppjajmjpnaaDoor.Te
open Go Go.RowKit
open Rely Auto Own Seat Wk Sha
theorem Qm4 (ts : List NdV) (a_t:Option Addr) (c_t B1:Nat) (htl:ts.length≤100000) (hmt:∀ i,i<ts.length→(ndi ts i).n.ms.length≤50) (hc:chkT ts=false) (w:World) (ht:TrAt B1 w a_t ts) (hT:TabAt w):Calls Tryd.prog 18 #[.slice a_t ts.length c_t] w (Ret w (.bool false)):=by
  refine enter 45 [(0,.slice a_t ts.length c_t)] Tryd.func18 rfl rfl kj rfl ?_
  refine wp_seq_k fun K1 hK1=>?_
  refine Qab ?_
  refine Qaa (.bool false) 2 rfl kj kj ?_
  refine Qaf ?_
  refine hK1 _ _ ?_
  refine wp_seq_k fun K2 hK2=>?_
  refine wp_seq_k fun K3 hK3=>?_
  refine Qab ?_
  refine Qaa (.slice a_t ts.length c_t) 7 rfl kj kj ?_
  refine Qao (.iface 68 (.int .i64 3)) 26 #[.slice a_t ts.length c_t] 8 rfl kj kj (QlX ts a_t c_t _ _ (TrAt.ext ht (Rely.Ext.refl w)) htl (fun i hi=>qT (hmt i hi) (by decide)) (TabAt.ext hT (Rely.Ext.refl w)) hc) fun W1 e1=>?_
  have x1:Ext w W1:=Ext.tr (Rely.Ext.refl w) e1
  refine Qaa (.bool true) 9 rfl kj kj ?_
  refine Qaf ?_
  refine hK3 _ _ ?_
  refine cond_true kj ?_
  refine wp_seq_k fun K4 hK4=>?_
  refine Qab ?_
  refine Qaa (.bool false) 2 rfl kj kj ?_
  refine Qaf ?_
  refine hK4 _ _ ?_
  refine wp_ret ?_
  repeat (first | with_reducible refine goR1 ?_ | with_reducible refine goR2 ?_)
  exact (show bodyPost _ _ _ .ret _ _ from ret1 (.bool false) rfl (Qaq kj) ⟨rfl,x1⟩)
set_option maxRecDepth 100000 in
theorem Qm5 (ts : List NdV) (a_t:Option Addr) (c_t B1:Nat) (htl:ts.length≤100000) (hmt:∀ i,i<ts.length→(ndi ts i).n.ms.length≤50) (hc:chkT ts=true) (h1:ts.length=1) (w:World) (ht:TrAt B1 w a_t ts) (hT:TabAt w):Calls Tryd.prog 18 #[.slice a_t ts.length c_t] w (Ret w (.bool true)):=by
 refine enter 45 [(0,.slice a_t ts.length c_t)] Tryd.func18 rfl rfl kj rfl ?_
 refine wp_seq_k fun K1 hK1=>?_
 refine Qab ?_
 refine Qaa (.bool false) 2 rfl kj kj ?_
 refine Qaf ?_
 refine hK1 _ _ ?_
 refine wp_seq_k fun K2 hK2=>?_
 refine wp_seq_k fun K3 hK3=>?_
 refine Qab ?_
 refine Qaa (.slice a_t ts.length c_t) 7 rfl kj kj ?_
 refine Qao (.nilIface) 26 #[.slice a_t ts.length c_t] 8 rfl kj kj (Qih ts a_t c_t _ _ (TrAt.ext ht (Rely.Ext.refl w)) htl (fun i hi=>qT (hmt i hi) (by decide)) (TabAt.ext hT (Rely.Ext.refl w)) hc) fun W1 e1=>?_
 have x1:Ext w W1:=Ext.tr (Rely.Ext.refl w) e1
 refine Qaa (.bool false) 9 rfl kj kj ?_
 refine Qaf ?_
 refine hK3 _ _ ?_
 refine cond_false kj ?_
 refine wp_skip ?_
 refine hK2 _ _ ?_
 refine wp_seq_k fun K4 hK4=>?_
 refine wp_seq_k fun K5 hK5=>?_
 refine Qab ?_
 refine Qaa (.slice a_t ts.length c_t) 10 rfl kj kj ?_
 refine Qaa (.int .i64 ((ts.length:Nat):Int)) 11 rfl kj kj ?_
 refine Qaa (.int .i64 0) 12 rfl kj kj ?_
 refine Qaf ?_
 refine hK5 _ _ ?_
 refine wp_block ?_
 refine Qa2 (fun (s1:Nat)=>[(0,.slice a_t ts.length c_t),(10,.slice a_t ts.length c_t),(11,.int .i64 ((ts.length:Nat):Int)),(12,.int .i64 ((s1:Nat):Int))]) (fun (s1:Nat) W=>(s1≤ts.length)∧(Ext W1 W)∧(Ext w W)) (fun (s1:Nat)=>ts.length-s1) 0 ⟨rfl,rfl,rfl,rfl,trivial⟩ ⟨(Nat.zero_le _),(Rely.Ext.refl W1),x1⟩ fun s1 X1 V1 hI1=>?_
 obtain ⟨i,hs1⟩:∃ z,z=s1:=⟨_,rfl⟩
 subst hs1
 obtain ⟨hi,kk1,xx1⟩:=hI1
 replace hi:i≤ts.length:=hi
 replace kk1:Ext W1 V1:=kk1
 replace xx1:Ext w V1:=xx1
 have e2:=kk1
 refine wp_seq_k fun K6 hK6=>?_
 refine Qab ?_
 refine Qaa (.bool (decide (((i:Nat):Int)<((ts.length:Nat):Int)))) 13 rfl kj kj ?_
 refine Qaf ?_
 refine hK6 _ _ ?_
 refine wp_seq_k fun K7 hK7=>?_
 refine Qar (t:=decide (((i:Nat):Int)<((ts.length:Nat):Int))) kj (fun c8=>?_) (fun c8=>?_)
 ·skip
  have hlt13:i<ts.length:=by have:=of_decide_eq_true c8; omega
  refine wp_skip ?_
  refine hK7 _ _ ?_
  refine wp_seq_k fun K9 hK9=>?_
  refine wp_block ?_
  refine wp_seq_k fun K10 hK10=>?_
  refine Qab ?_
  refine Qaa (.int .i64 ((i:Nat):Int)) 14 rfl kj kj ?_
  obtain ⟨gtT,otT,hat,hnts⟩:=TrAt.ext ht xx1
  have hnt:=hnts i (by omega)
  obtain ⟨nt,ent⟩:∃ z,z=ndi ts i:=⟨_,rfl⟩
  rw [←ent] at hnt
  have okt:=hnt.ok
  have rdt:=hnt.rd
  refine Qaa (.pointer (some ⟨gtT,otT+i*99,none⟩)) 15 rfl kj (Qap 23 _ _ .i64 i gtT otT ts.length c_t 50 99 a_t (hat (by omega)) rfl kj kj kj kj (by omega)) ?_
  refine Qaa (.agg (cat [#[.bool nt.n.us],#[.int .i64 nt.n.nm],ints .u8 (nt.n.key),ints .u8 (nt.n.sg),ints .u8 (nt.n.pa),#[.slice nt.a nt.n.ms.length nt.c]])) 16 rfl kj (QaH 50 _ gtT (otT+i*99) nt hnt rfl kj kj kj) ?_
  refine Qam (cat [#[.bool false],#[.int .i64 0],ints .u8 (List.replicate 32 0),ints .u8 (List.replicate 32 0),ints .u8 (List.replicate 32 0),#[.slice none 0 0]]) 50 4 rfl kj kj fun g11 W3 l11 e3 r11_3=>?_
  have x3:Ext w W3:=Ext.tr xx1 e3
  have b11:w.heap.size≤g11:=qT xx1.size l11
  refine Qaa (.int .i64 ((i:Nat):Int)) 3 rfl kj kj ?_
  refine Qau g11 _ (cat [#[.bool nt.n.us],#[.int .i64 nt.n.nm],ints .u8 (nt.n.key),ints .u8 (nt.n.sg),ints .u8 (nt.n.pa),#[.slice nt.a nt.n.ms.length nt.c]]) 50 r11_3 rfl kj (Qas 50 _ _ g11 50 _ _ r11_3 rfl kj kj (isz (n:=99) kj (by rw [Qac,Qac,Qac,Qac,Qac,Qac]; simp only [qS,cat,((Qad _ _).trans okt.gl),((Qad _ _).trans okt.kl),((Qad _ _).trans okt.pl)]; rfl)) (eqsz (n:=99) (by rw [Qac,Qac,Qac,Qac,Qac,Qac]; simp only [qS,cat,((Qad _ _).trans (qZ (n:=32)))]; rfl) (by rw [Qac,Qac,Qac,Qac,Qac,Qac]; simp only [qS,cat,((Qad _ _).trans okt.gl),((Qad _ _).trans okt.kl),((Qad _ _).trans okt.pl)]; rfl)) (Qbm _ (by intro a ha; simp only [List.mem_cons,List.not_mem_nil,or_false] at ha; rcases ha with rfl | rfl | rfl | rfl | rfl | rfl; exact (Qa4 _ rfl); exact (Qa4 _ rfl); exact (Qav _ _); exact (Qav _ _); exact (Qav _ _); exact (Qa4 _ rfl)))) fun W4 p4 r11_4=>?_
  have x4:Ext w W4:=Puts.ext p4 x3 b11
  refine Qaf ?_
  refine hK10 _ _ ?_
  refine wp_seq_k fun K12 hK12=>?_
  refine Qab ?_
  refine Qaa (.int .i64 ((i:Nat):Int)) 18 rfl kj kj ?_
  have hki:∀ W,TabAt W→Calls Tryd.prog 36 #[.int .i64 ((i:Nat):Int)] W (Ret W (.tuple #[.int .i64 (-1),.int .i64 (-1)])):=fun W h=>by
   obtain rfl:i=0:=by omega
   have h9:=quiet (children ((0:Nat):Int) ⟨by decide,by decide⟩ W h)
   rw [show kidL ((0:Nat):Int)=-1 by decide +kernel,show kidR ((0:Nat):Int)=-1 by decide +kernel] at h9; exact h9
  refine Qao (.tuple #[.int .i64 (-1),.int .i64 (-1)]) 36 #[.int .i64 ((i:Nat):Int)] 19 rfl kj kj (hki _ (TabAt.ext hT x4)) fun W5 e5=>?_
  have x5:Ext w W5:=Ext.tr x4 e5
  refine Qaa (.tuple #[.int .i64 (-1),.int .i64 (-1)]) 17 rfl kj kj ?_
  refine Qaa (.int .i64 (-1)) 20 rfl kj kj ?_
  refine Qaa (.int .i64 (-1)) 21 rfl kj kj ?_
  refine Qaa (.int .i64 (-1)) 5 rfl kj kj ?_
  refine Qaa (.int .i64 (-1)) 6 rfl kj kj ?_
  refine Qaf ?_
  refine hK12 _ _ ?_
  refine wp_seq_k fun K13 hK13=>?_
  cases hus:nt.n.us
  ·skip
   have r11_5:=(Qag r11_4 e5)
   have rbx:W5.heap[g11]? = some (.cells (cat [#[.bool false],#[.int .i64 nt.n.nm],ints .u8 (nt.n.key),ints .u8 (nt.n.sg),ints .u8 (nt.n.pa),#[.slice nt.a nt.n.ms.length nt.c]]) 50):=by have h9:=r11_5; rw [hus] at h9; exact h9
   refine Qab ?_
   refine Qaa (.pointer (some ⟨g11,0,none⟩)) 22 rfl kj kj ?_
   refine Qaa (.bool false) 23 rfl kj (Qah 4 _ g11 0 50 _ (.bool false) _ rbx rfl kj (Qaj [] [#[.bool false]] [#[.int .i64 nt.n.nm],ints .u8 (nt.n.key),ints .u8 (nt.n.sg),ints .u8 (nt.n.pa),#[.slice nt.a nt.n.ms.length nt.c]] 0 kj 0 _ rfl) kj) ?_
   refine Qaa (.bool false) 24 rfl kj kj ?_
   refine Qae 25 rfl kj ?_
   refine Qae 26 rfl kj ?_
   refine Qaa (.bool false) 27 rfl kj kj ?_
   refine Qaa (.bool false) 28 rfl kj kj ?_
   refine Qae 29 rfl kj ?_
   refine Qae 30 rfl kj ?_
   refine Qae 31 rfl kj ?_
   refine Qae 32 rfl kj ?_
   refine Qae 33 rfl kj ?_
   refine Qae 34 rfl kj ?_
   refine Qaa (.bool false) 35 rfl kj kj ?_
   refine Qaa (.bool false) 36 rfl kj kj ?_
   refine Qae 37 rfl kj ?_
   refine Qae 38 rfl kj ?_
   refine Qae 39 rfl kj ?_
   refine Qae 40 rfl kj ?_
   refine Qae 41 rfl kj ?_
   refine Qae 42 rfl kj ?_
   refine Qaa (.bool false) 43 rfl kj kj ?_
   refine Qaf ?_
   refine hK13 _ _ ?_
   refine cond_false kj ?_
   refine wp_skip ?_
   refine hK9 _ _ ?_
   refine Qab ?_
   refine Qaa (.int .i64 ((i+1:Nat):Int)) 44 rfl kj (Qai (u:=.int .i64 (IntKind.i64.wrap (((i:Nat):Int)+1))) kj (congrArg (Value.int .i64) (i64n _ _ (by omega) (by omega)))) ?_
   refine Qaa (.int .i64 ((i+1:Nat):Int)) 12 rfl kj kj ?_
   refine Qaf ?_
   have y1_3:Ext W1 W3:=(Rely.Ext.trans e2 e3)
   have y1_4:Ext W1 W4:=(Puts.ext p4 y1_3 (qT e2.size l11))
   have y1_5:Ext W1 W5:=(Rely.Ext.trans y1_4 e5)
   repeat (first | with_reducible refine goX1 ?_ | with_reducible refine goX2 ?_ | with_reducible refine goX3 ?_)
   exact Qat (i+1) ⟨rfl,rfl,rfl,rfl,trivial⟩ ⟨(by omega),y1_5,x5⟩ (by show ts.length-(i+1)<ts.length-i; omega)
  ·skip
   have r11_5:=(Qag r11_4 e5)
   have rbx:W5.heap[g11]? = some (.cells (cat [#[.bool true],#[.int .i64 nt.n.nm],ints .u8 (nt.n.key),ints .u8 (nt.n.sg),ints .u8 (nt.n.pa),#[.slice nt.a nt.n.ms.length nt.c]]) 50):=by have h9:=r11_5; rw [hus] at h9; exact h9
   refine Qab ?_
   refine Qaa (.pointer (some ⟨g11,0,none⟩)) 22 rfl kj kj ?_
   refine Qaa (.bool true) 23 rfl kj (Qah 4 _ g11 0 50 _ (.bool true) _ rbx rfl kj (Qaj [] [#[.bool true]] [#[.int .i64 nt.n.nm],ints .u8 (nt.n.key),ints .u8 (nt.n.sg),ints .u8 (nt.n.pa),#[.slice nt.a nt.n.ms.length nt.c]] 0 kj 0 _ rfl) kj) ?_
   refine Qaa (.bool true) 24 rfl kj kj ?_
   refine Qaa (.int .i64 (-1)) 25 rfl kj kj ?_
   refine Qaa (.bool false) 26 rfl kj kj ?_
   refine Qaa (.bool false) 27 rfl kj kj ?_
   refine Qaa (.bool false) 28 rfl kj kj ?_
   refine Qae 29 rfl kj ?_
   refine Qae 30 rfl kj ?_
   refine Qae 31 rfl kj ?_
   refine Qae 32 rfl kj ?_
   refine Qae 33 rfl kj ?_
   refine Qae 34 rfl kj ?_
   refine Qaa (.bool false) 35 rfl kj kj ?_
   refine Qaa (.bool false) 36 rfl kj kj ?_
   refine Qae 37 rfl kj ?_
   refine Qae 38 rfl kj ?_
   refine Qae 39 rfl kj ?_
   refine Qae 40 rfl kj ?_
   refine Qae 41 rfl kj ?_
   refine Qae 42 rfl kj ?_
   refine Qaa (.bool false) 43 rfl kj kj ?_
   refine Qaf ?_
   refine hK13 _ _ ?_
   refine cond_false kj ?_
   refine wp_skip ?_
   refine hK9 _ _ ?_
   refine Qab ?_
   refine Qaa (.int .i64 ((i+1:Nat):Int)) 44 rfl kj (Qai (u:=.int .i64 (IntKind.i64.wrap (((i:Nat):Int)+1))) kj (congrArg (Value.int .i64) (i64n _ _ (by omega) (by omega)))) ?_
   refine Qaa (.int .i64 ((i+1:Nat):Int)) 12 rfl kj kj ?_
   refine Qaf ?_
   have y1_3:Ext W1 W3:=(Rely.Ext.trans e2 e3)
   have y1_4:Ext W1 W4:=(Puts.ext p4 y1_3 (qT e2.size l11))
   have y1_5:Ext W1 W5:=(Rely.Ext.trans y1_4 e5)
   repeat (first | with_reducible refine goX1 ?_ | with_reducible refine goX2 ?_ | with_reducible refine goX3 ?_)
   exact Qat (i+1) ⟨rfl,rfl,rfl,rfl,trivial⟩ ⟨(by omega),y1_5,x5⟩ (by show ts.length-(i+1)<ts.length-i; omega)
 ·skip
  have heq13:i=ts.length:=by have:=of_decide_eq_false c8; omega
  refine wp_exit ?_
  refine hK4 _ _ ?_
  refine wp_seq_k fun K14 hK14=>?_
  refine Qab ?_
  refine Qaa (.bool true) 2 rfl kj kj ?_
  refine Qaf ?_
  refine hK14 _ _ ?_
  refine wp_ret ?_
  repeat (first | with_reducible refine goR1 ?_ | with_reducible refine goR2 ?_)
  exact (show bodyPost _ _ _ .ret _ _ from ret1 (.bool true) rfl (Qaq kj) ⟨rfl,xx1⟩)
set_option maxRecDepth 100000 in
theorem Qfi (w : World) (hT:TabAt w) (hSh:ShT w):Calls Tryd.prog 8 #[] w (Ret w (.bool true)):=by
  refine enter 28 [] Tryd.func8 rfl rfl kj rfl ?_
  refine wp_seq_k fun K1 hK1=>?_
  refine Qab ?_
  refine Qaa (.bool false) 0 rfl kj kj ?_
  refine Qaf ?_
  refine hK1 _ _ ?_
  refine wp_seq_k fun K2 hK2=>?_
  refine Qab ?_
  refine Qaa (.agg (cat [#[.bool true],#[.int .i64 3],ints .u8 (List.replicate 32 0),ints .u8 (List.replicate 32 0),ints .u8 (List.replicate 32 0),#[.slice none 0 0]])) 4 rfl kj kj ?_
  refine QaB (cat (ndP (lf 3))) 50 1 5 rfl kj kj fun gO W1 lO e1 rO=>?_
  have x1:Ext w W1:=Ext.tr (Rely.Ext.refl w) e1
  have ht:=Qjh lO rO (QlJ 3) ⟨QlJ 3,by decide,Qct _ _ _ _⟩
  have hc3:chkT [lf 3]=true:=by decide +kernel
  obtain ⟨a_1,c_1,hv1⟩:∃ a c,(a,c)=((some (⟨gO,0,none⟩:Addr)),1):=⟨_,_,rfl⟩
  obtain ⟨ha1,hcc1⟩:=Prod.mk.inj hv1
  rw [←ha1] at ht
  show WL _ _ _ _ (Qa0 _ _ ((5,.slice (some ⟨gO,0,none⟩) 1 1)::_)) _
  rw [show (Value.slice (some ⟨gO,0,none⟩) 1 1)=.slice a_1 [lf 3].length c_1 by rw [ha1,hcc1]; rfl]
  refine Qaa (.slice a_1 [lf 3].length c_1) 1 rfl kj kj ?_
  refine Qaf ?_
  refine hK2 _ _ ?_
  refine wp_seq_k fun K3 hK3=>?_
  refine Qab ?_
  refine Qaa (.slice a_1 [lf 3].length c_1) 7 rfl kj kj ?_
  refine Qao (.tuple #[.agg (ints .u8 (dgN [lf 3] [] ([lf 3].length/2))),.bool true]) 11 #[.slice a_1 [lf 3].length c_1] 8 rfl kj kj (Qkz [lf 3] a_1 c_1 _ (by decide) (fun i hi=>by obtain rfl:i=0:=Nat.lt_one_iff.1 hi; decide) hc3 _ (TrAt.ext ht (Rely.Ext.refl W1)) (TabAt.ext hT x1) (ShT.ext hSh x1)) fun W2 e2=>?_
  have x2:Ext w W2:=Ext.tr x1 e2
  refine Qaa (.tuple #[.agg (ints .u8 (dgN [lf 3] [] ([lf 3].length/2))),.bool true]) 6 rfl kj kj ?_
  refine Qaa (.agg (ints .u8 (dgN [lf 3] [] ([lf 3].length/2)))) 9 rfl kj kj ?_
  refine Qaa (.bool true) 10 rfl kj kj ?_
  refine Qam (ints .u8 (List.replicate 32 0)) 28 2 rfl kj kj fun g4 W3 l4 e3 r4_3=>?_
  have x3:Ext w W3:=Ext.tr x2 e3
  have b4:w.heap.size≤g4:=qT x2.size l4
  refine Qau g4 _ (ints .u8 (dgN [lf 3] [] ([lf 3].length/2))) 28 r4_3 rfl kj (Qas 28 _ _ g4 28 _ _ r4_3 rfl kj kj (isz (n:=32) kj ((Qad _ _).trans (Qbq [lf 3] [] ([lf 3].length/2)))) (eqsz (n:=32) ((Qad _ _).trans (qZ (n:=32))) ((Qad _ _).trans (Qbq [lf 3] [] ([lf 3].length/2)))) (Qav _ _)) fun W4 p4 r4_4=>?_
  have x4:Ext w W4:=Puts.ext p4 x3 b4
  refine Qaa (.bool true) 3 rfl kj kj ?_
  refine Qaf ?_
  refine hK3 _ _ ?_
  refine wp_seq_k fun K5 hK5=>?_
  refine Qd5 kj fun W5 e5=>?_
  have x5:Ext w W5:=Ext.tr x4 e5
  refine QaP 0 (.bool true) 11 rfl rfl kj kj (fun _ _ _ h=>h) (fun W hR=>by kernel_rfl) ?_
  refine QaP 1 (.bool true) 12 rfl rfl kj kj (fun _ _ _ h=>h) (fun W hR=>by kernel_rfl) ?_
  have r4_5:=(Qag r4_4 e5)
  refine QaP 2 (.agg (ints .u8 (dgN [lf 3] [] ([lf 3].length/2)))) 13 rfl rfl kj kj (fun _ _ _ h=>h) (fun W hR=>(Qa8 28 _ g4 28 _ _ (Qag r4_5 hR) rfl kj kj (isz (n:=32) kj ((Qad _ _).trans (Qbq [lf 3] [] ([lf 3].length/2)))))) ?_
  refine QaP 3 (.slice a_1 [lf 3].length c_1) 14 rfl rfl kj kj (fun _ _ _ h=>h) (fun W hR=>by kernel_rfl) ?_
  refine Qcx 4 kj ?_
  have y1_2:Ext W1 W2:=(Rely.Ext.trans (Rely.Ext.refl W1) e2)
  have y1_3:Ext W1 W3:=(Rely.Ext.trans y1_2 e3)
  have y1_4:Ext W1 W4:=(Puts.ext p4 y1_3 (qT y1_2.size l4))
  have y1_5:Ext W1 W5:=(Rely.Ext.trans y1_4 e5)
  refine QeM rfl (fun v W'=>v=(.agg (ints .u8 (dgN [lf 3] [] ([lf 3].length/2))))∧Ext W5 W') 13 #[.slice a_1 [lf 3].length c_1] 15 rfl kj kj ((Ql2 [lf 3] a_1 c_1 _ (by decide) (fun i hi=>by obtain rfl:i=0:=Nat.lt_one_iff.1 hi; decide) hc3 (by decide) _ (TrAt.ext ht y1_5)).mono fun e w' h=>⟨_,h.1,rfl,h.2⟩) (fun _ _ h=>Rely.Ext.trans (Rely.Ext.refl W5) h.2) fun vv6 W6 hh6=>?_
  obtain ⟨rfl,e6⟩:=hh6
  have x6:Ext w W6:=Ext.tr x5 e6
  refine QaP 5 (.bool true) 16 rfl rfl kj kj (fun _ _ _ h=>h) (fun W hR=>(QaC 28 _ _ _ _ _ (.bool true) rfl kj kj kj (QaN 28 (e:=5) (k:=.u8) (dgN [lf 3] [] ([lf 3].length/2)) (dgN [lf 3] [] ([lf 3].length/2)) (decide_eq_true rfl) (Qbq [lf 3] [] ([lf 3].length/2)) (Qbq [lf 3] [] ([lf 3].length/2)) kj kj kj _))) ?_
  refine QaP 6 (.bool true) 17 rfl rfl kj kj (fun _ _ _ h=>h) (fun W hR=>by kernel_rfl) ?_
  refine QaP 7 (.bool true) 18 rfl rfl kj kj (fun _ _ _ h=>h) (fun W hR=>by kernel_rfl) ?_
  refine QaP 8 (.slice a_1 [lf 3].length c_1) 19 rfl rfl kj kj (fun _ _ _ h=>h) (fun W hR=>by kernel_rfl) ?_
  refine Qcx 9 kj ?_
  have y1_6:Ext W1 W6:=(Rely.Ext.trans y1_5 e6)
  have y5_6:Ext W5 W6:=(Rely.Ext.trans (Rely.Ext.refl W5) e6)
  refine QeM rfl (fun v W'=>v=(.bool true)∧Ext W6 W') 18 #[.slice a_1 [lf 3].length c_1] 20 rfl kj kj ((Qm5 [lf 3] a_1 c_1 _ (by decide) (fun i hi=>by obtain rfl:i=0:=Nat.lt_one_iff.1 hi; decide) hc3 rfl _ (TrAt.ext ht y1_6) (TabAt.ext hT x6)).mono fun e w' h=>⟨_,h.1,rfl,h.2⟩) (fun _ _ h=>Rely.Ext.trans y5_6 h.2) fun vv7 W7 hh7=>?_
  obtain ⟨rfl,e7⟩:=hh7
  have x7:Ext w W7:=Ext.tr x6 e7
  refine QaP 10 (.bool true) 21 rfl rfl kj kj (fun _ _ _ h=>h) (fun W hR=>by kernel_rfl) ?_
  refine QaP 11 (.bool true) 22 rfl rfl kj kj (fun _ _ _ h=>h) (fun W hR=>by kernel_rfl) ?_
  refine QaP 12 (.agg (cat [#[.bool false],#[.int .i64 0],ints .u8 (List.replicate 32 0),ints .u8 (List.replicate 32 0),ints .u8 (List.replicate 32 0),#[.slice none 0 0]])) 23 rfl rfl kj kj (fun _ _ _ h=>h) (fun W hR=>by kernel_rfl) ?_
  refine Qcx 13 kj ?_
  have y5_7:Ext W5 W7:=(Rely.Ext.trans y5_6 e7)
  refine Qjg rfl (fun v W'=>NewS W7.heap.size (cat (ndP zn)) 50 1 v W'∧Ext W7 W') 24 rfl kj ⟨_,_,(by kernel_rfl:_=Result.ok (Next.value (.slice (some ⟨W7.heap.size,0,none⟩) 1 1)) (W7.alloc (.cells (cat (ndP zn)) 50))),⟨_,rfl,qR _,heap_alloc_new _ _⟩,Qck _ _⟩ (fun _ _ h=>Rely.Ext.trans y5_7 h.2) fun vz W8 hz=>?_
  obtain ⟨⟨gz,rfl,lz,rz⟩,e8⟩:=hz
  have x8:Ext w W8:=Ext.tr x7 e8
  have htz:=Qjh lz rz Qev ⟨Qev,by decide,Qct _ _ _ _⟩
  obtain ⟨a_2,c_2,hv2⟩:∃ a c,(a,c)=((some (⟨gz,0,none⟩:Addr)),1):=⟨_,_,rfl⟩
  obtain ⟨ha2,hcc2⟩:=Prod.mk.inj hv2
  rw [←ha2] at htz
  rw [show (Value.slice (some ⟨gz,0,none⟩) 1 1)=.slice a_2 [zn].length c_2 by rw [ha2,hcc2]; rfl]
  refine Qcx 14 kj ?_
  have y5_8:Ext W5 W8:=(Rely.Ext.trans y5_7 e8)
  refine QeM rfl (fun v W'=>v=(.bool false)∧Ext W8 W') 18 #[.slice a_2 [zn].length c_2] 25 rfl kj kj ((Qm4 [zn] a_2 c_2 _ (by decide) (fun i hi=>by obtain rfl:i=0:=Nat.lt_one_iff.1 hi; decide) (by decide +kernel) _ (TrAt.ext htz (Rely.Ext.refl W8)) (TabAt.ext hT x8)).mono fun e w' h=>⟨_,h.1,rfl,h.2⟩) (fun _ _ h=>Rely.Ext.trans y5_8 h.2) fun vv8 W9 hh8=>?_
  obtain ⟨rfl,e9⟩:=hh8
  have x9:Ext w W9:=Ext.tr x8 e9
  refine QaP 15 (.bool true) 26 rfl rfl kj kj (fun _ _ _ h=>h) (fun W hR=>by kernel_rfl) ?_
  refine QaP 16 (.bool true) 27 rfl rfl kj kj (fun _ _ _ h=>h) (fun W hR=>by kernel_rfl) ?_
  refine QaP 17 (.bool true) 0 rfl rfl kj kj (fun _ _ _ h=>h) (fun W hR=>by kernel_rfl) ?_
  refine Qfn kj ?_
  refine hK5 _ _ ?_
  refine wp_ret ?_
  repeat (first | with_reducible refine goR1 ?_ | with_reducible refine goR2 ?_)
  exact (show bodyPost _ _ _ .ret _ _ from ret1 (.bool true) rfl (Qaq kj) ⟨rfl,x9⟩)
end Go.Proofs.YthfkppjajmjpnaaDoor.Te
end
section
namespace Go.Proofs.YthfkppjajmjpnaaDoor.Te
open Go Go.RowKit
open Rely Auto Own Seat Wk Sha
section
variable {P : Program} {ops : Array Oper} {Q : Exit → Act → World → Prop}
end
def mkN (ts : List NdV) (x s:Nat):List Int:=dig ((([3]++(ndi ts x).n.key)++(ndi ts x).n.pa)++dgN ts (ndi ts x).n.ms s)
theorem QbY (ts : List NdV) (x s:Nat):(mkN ts x s).length=32:=QaI _
set_option maxRecDepth 100000 in
theorem Qmv (ts : List NdV) (a_t:Option Addr) (c_t B1:Nat) (htl:ts.length≤100000) (hmt:∀ i,i<ts.length→(ndi ts i).n.ms.length≤50) (hck:chkT ts=true) (w:World) (ht:TrAt B1 w a_t ts) (hT:TabAt w) (hSh:ShT w) (x s:Nat) (hx:x<ts.length) (hs:s<ts.length):Calls Tryd.prog 37 #[.slice a_t ts.length c_t,.int .i64 ((x:Nat):Int),.int .i64 ((s:Nat):Int)] w (Ret w (.agg (ints .u8 (mkN ts x s)))):=by
  obtain ⟨tc,tq,hc,hq⟩:=id hSh
  refine enter 26 [(0,.slice a_t ts.length c_t),(1,.int .i64 ((x:Nat):Int)),(2,.int .i64 ((s:Nat):Int))] Tryd.func37 rfl rfl kj rfl ?_
  refine wp_seq_k fun K3 hK3=>?_
  refine Qab ?_
  refine Qam (ints .u8 (List.replicate 32 0)) 28 6 rfl kj kj fun g4 W1 l4 e1 r4_1=>?_
  have x1:Ext w W1:=Ext.tr (Rely.Ext.refl w) e1
  have b4:w.heap.size≤g4:=qT (Rely.Ext.refl w).size l4
  refine Qaf ?_
  refine hK3 _ _ ?_
  refine wp_seq_k fun K5 hK5=>?_
  refine Qab ?_
  refine Qaa (.slice a_t ts.length c_t) 9 rfl kj kj ?_
  refine Qaa (.int .i64 ((x:Nat):Int)) 10 rfl kj kj ?_
  obtain ⟨gtT,otT,hat,hnts⟩:=TrAt.ext ht x1
  have hnt:=hnts x (by omega)
  obtain ⟨nt,ent⟩:∃ z,z=ndi ts x:=⟨_,rfl⟩
  rw [←ent] at hnt
  have okt:=hnt.ok
  have rdt:=hnt.rd
  refine Qaa (.pointer (some ⟨gtT,otT+x*99,none⟩)) 11 rfl kj (Qap 23 _ _ .i64 x gtT otT ts.length c_t 50 99 a_t (hat (by omega)) rfl kj kj kj kj (by omega)) ?_
  refine Qaa (.agg (cat [#[.bool nt.n.us],#[.int .i64 nt.n.nm],ints .u8 (nt.n.key),ints .u8 (nt.n.sg),ints .u8 (nt.n.pa),#[.slice nt.a nt.n.ms.length nt.c]])) 12 rfl kj (QaH 50 _ gtT (otT+x*99) nt hnt rfl kj kj kj) ?_
  refine Qam (cat [#[.bool false],#[.int .i64 0],ints .u8 (List.replicate 32 0),ints .u8 (List.replicate 32 0),ints .u8 (List.replicate 32 0),#[.slice none 0 0]]) 50 7 rfl kj kj fun g6 W2 l6 e2 r6_2=>?_
  have x2:Ext w W2:=Ext.tr x1 e2
  have b6:w.heap.size≤g6:=qT x1.size l6
  refine Qau g6 _ (cat [#[.bool nt.n.us],#[.int .i64 nt.n.nm],ints .u8 (nt.n.key),ints .u8 (nt.n.sg),ints .u8 (nt.n.pa),#[.slice nt.a nt.n.ms.length nt.c]]) 50 r6_2 rfl kj (Qas 50 _ _ g6 50 _ _ r6_2 rfl kj kj (isz (n:=99) kj (by rw [Qac,Qac,Qac,Qac,Qac,Qac]; simp only [qS,cat,((Qad _ _).trans okt.gl),((Qad _ _).trans okt.kl),((Qad _ _).trans okt.pl)]; rfl)) (eqsz (n:=99) (by rw [Qac,Qac,Qac,Qac,Qac,Qac]; simp only [qS,cat,((Qad _ _).trans (qZ (n:=32)))]; rfl) (by rw [Qac,Qac,Qac,Qac,Qac,Qac]; simp only [qS,cat,((Qad _ _).trans okt.gl),((Qad _ _).trans okt.kl),((Qad _ _).trans okt.pl)]; rfl)) (Qbm _ (by intro a ha; simp only [List.mem_cons,List.not_mem_nil,or_false] at ha; rcases ha with rfl | rfl | rfl | rfl | rfl | rfl; exact (Qa4 _ rfl); exact (Qa4 _ rfl); exact (Qav _ _); exact (Qav _ _); exact (Qav _ _); exact (Qa4 _ rfl)))) fun W3 p3 r6_3=>?_
  have x3:Ext w W3:=Puts.ext p3 x2 b6
  refine Qaf ?_
  refine hK5 _ _ ?_
  refine wp_seq_k fun K7 hK7=>?_
  refine Qab ?_
  refine Qaa (.slice a_t ts.length c_t) 13 rfl kj kj ?_
  refine Qaa (.int .i64 ((s:Nat):Int)) 14 rfl kj kj ?_
  refine Qaa (.pointer (some ⟨g6,98,none⟩)) 15 rfl kj kj ?_
  refine Qaa (.slice nt.a nt.n.ms.length nt.c) 16 rfl kj (Qah 24 _ g6 98 50 _ (.slice nt.a nt.n.ms.length nt.c) _ r6_3 rfl kj (Qaj [#[.bool nt.n.us],#[.int .i64 nt.n.nm],ints .u8 (nt.n.key),ints .u8 (nt.n.sg),ints .u8 (nt.n.pa)] [#[.slice nt.a nt.n.ms.length nt.c]] [] 98 (by rw [Qac,Qac,Qac,Qac,Qac]; simp only [qS,cat,((Qad _ _).trans okt.gl),((Qad _ _).trans okt.kl),((Qad _ _).trans okt.pl)]; rfl) 0 _ rfl) kj) ?_
  have y1_2:Ext W1 W2:=(Rely.Ext.trans (Rely.Ext.refl W1) e2)
  have y1_3:Ext W1 W3:=(Puts.ext p3 y1_2 l6)
  refine Qao (.agg (ints .u8 (dgN ts nt.n.ms s))) 27 #[.slice a_t ts.length c_t,.int .i64 ((s:Nat):Int),.slice nt.a nt.n.ms.length nt.c] 17 rfl kj kj (digD ts a_t c_t B1 htl hmt hck nt.n.ms nt.a nt.c _ _ (TrAt.ext ht x3) (TabAt.ext hT x3) (ShT.ext hSh x3) (qT (ent▸hmt x hx) (by decide)) (RdK.here (RdK.ext rdt y1_3)) s hs) fun W4 e4=>?_
  have x4:Ext w W4:=Ext.tr x3 e4
  refine Qam (ints .u8 (List.replicate 32 0)) 28 8 rfl kj kj fun g8 W5 l8 e5 r8_5=>?_
  have x5:Ext w W5:=Ext.tr x4 e5
  have b8:w.heap.size≤g8:=qT x4.size l8
  refine Qau g8 _ (ints .u8 (dgN ts nt.n.ms s)) 28 r8_5 rfl kj (Qas 28 _ _ g8 28 _ _ r8_5 rfl kj kj (isz (n:=32) kj ((Qad _ _).trans (Qbq ts nt.n.ms s))) (eqsz (n:=32) ((Qad _ _).trans (qZ (n:=32))) ((Qad _ _).trans (Qbq ts nt.n.ms s))) (Qav _ _)) fun W6 p6 r8_6=>?_
  have x6:Ext w W6:=Puts.ext p6 x5 b8
  refine Qaf ?_
  refine hK7 _ _ ?_
  refine wp_seq_k fun K9 hK9=>?_
  refine QaU 6 [⟨none,[]⟩,⟨none,[(7,none)]⟩,⟨none,[(19,some 1)]⟩,⟨none,[(7,none)]⟩,⟨none,[(21,some 3)]⟩,⟨none,[(8,none)]⟩] kj kj fun F hF=>?_
  refine Qgy (Qal _) (ints .u8 ([3])) 5 1 (NewS.stable _ _ _ _) kj kj (fun W=>by kernel_rfl) ?_
  refine Qaz (Qal _) (.pointer (some ⟨g6,2,none⟩)) kj kj (fun W=>by kernel_rfl) ?_
  refine Qaz (Qal _) (.slice (some ⟨g6,2,none⟩) 32 32) kj kj (fun W=>by kernel_rfl) ?_
  refine Qaz (Qal _) (.pointer (some ⟨g6,66,none⟩)) kj kj (fun W=>by kernel_rfl) ?_
  refine Qaz (Qal _) (.slice (some ⟨g6,66,none⟩) 32 32) kj kj (fun W=>by kernel_rfl) ?_
  refine Qaz (Qal _) (.slice (some ⟨g8,0,none⟩) 32 32) kj kj (fun W=>by kernel_rfl) ?_
  refine QcW (hF _ fun W7 e7=>?_)
  simp only [List.nil_append,List.cons_append,List.take_succ_cons,List.take_zero,List.drop_succ_cons,List.drop_zero,finE,up]
  intro vv10 hv10
  clear hF
  have x7:Ext w W7:=Ext.tr x6 e7
  obtain ⟨g10,rfl,l10,r10_7⟩:=hv10
  have b10:w.heap.size≤g10:=qT x6.size l10
  refine QaB (#[.slice (some ⟨g10,0,none⟩) 1 1,.slice (some ⟨g6,2,none⟩) 32 32,.slice (some ⟨g6,66,none⟩) 32 32,.slice (some ⟨g8,0,none⟩) 32 32]) 59 4 24 rfl kj kj fun g11 W8 l11 e8 r11_8=>?_
  have x8:Ext w W8:=Ext.tr x7 e8
  have b11:w.heap.size≤g11:=qT x7.size l11
  have r10_8:=(Qag r10_7 e8)
  have r6_4:=(Qag r6_3 e4)
  have r6_5:=(Qag r6_4 e5)
  have r6_6:=(Puts.row p6 r6_5 (Qaw r6_4 l8))
  have r6_7:=(Qag r6_6 e7)
  have r6_8:=(Qag r6_7 e8)
  have r8_7:=(Qag r8_6 e7)
  have r8_8:=(Qag r8_7 e8)
  have r2_1:=(Qag hc e1)
  have r2_2:=(Qag r2_1 e2)
  have r2_3:=(Puts.row p3 r2_2 (Qaw r2_1 l6))
  have r2_4:=(Qag r2_3 e4)
  have r2_5:=(Qag r2_4 e5)
  have r2_6:=(Puts.row p6 r2_5 (Qaw r2_4 l8))
  have r2_7:=(Qag r2_6 e7)
  have r2_8:=(Qag r2_7 e8)
  have r1_1:=(Qag hq e1)
  have r1_2:=(Qag r1_1 e2)
  have r1_3:=(Puts.row p3 r1_2 (Qaw r1_1 l6))
  have r1_4:=(Qag r1_3 e4)
  have r1_5:=(Qag r1_4 e5)
  have r1_6:=(Puts.row p6 r1_5 (Qaw r1_4 l8))
  have r1_7:=(Qag r1_6 e7)
  have r1_8:=(Qag r1_7 e8)
  have hps12:∀ p∈([(.slice (some ⟨g10,0,none⟩) 1 1,[3]),(.slice (some ⟨g6,2,none⟩) 32 32,nt.n.key),(.slice (some ⟨g6,66,none⟩) 32 32,nt.n.pa),(.slice (some ⟨g8,0,none⟩) 32 32,dgN ts nt.n.ms s)]:List (Value×List Int)),RdK .u8 W8.heap.size p.2 p.1 W8∧Qay p.2:=by
    intro p hp
    simp only [List.mem_cons,List.not_mem_nil,or_false] at hp
    rcases hp with rfl | rfl | rfl | rfl
    · exact ⟨RdK.here (QaR (xs:=[3]) (n:=1) rfl r10_8 (Qa5 r10_8) (show 1≤maxLen from by decide)),(Qer [3] (by decide))⟩
    · exact ⟨RdK.here (Qb2 2 okt.kl r6_8 (fun i hi=>Qbh [#[.bool nt.n.us],#[.int .i64 nt.n.nm]] [ints .u8 (nt.n.sg),ints .u8 (nt.n.pa),#[.slice nt.a nt.n.ms.length nt.c]] nt.n.key 2 i (2+i) kj rfl (by rw [okt.kl]; exact hi)) (Qa5 r6_8) (qR _) (by decide)),okt.kb⟩
    · exact ⟨RdK.here (Qb2 66 okt.pl r6_8 (fun i hi=>Qbh [#[.bool nt.n.us],#[.int .i64 nt.n.nm],ints .u8 (nt.n.key),ints .u8 (nt.n.sg)] [#[.slice nt.a nt.n.ms.length nt.c]] nt.n.pa 66 i (66+i) (by rw [Qac,Qac,Qac,Qac]; simp only [qS,cat,((Qad _ _).trans okt.gl),((Qad _ _).trans okt.kl)]; rfl) rfl (by rw [okt.pl]; exact hi)) (Qa5 r6_8) (qR _) (by decide)),okt.pb⟩
    · exact ⟨RdK.here (QaR (xs:=dgN ts nt.n.ms s) (n:=32) (Qbq ts nt.n.ms s) r8_8 (Qa5 r8_8) (show 32≤maxLen from by decide)),(QcF _)⟩
  have hsh12:=Qgd g11 4 _ ([(.slice (some ⟨g10,0,none⟩) 1 1,[3]),(.slice (some ⟨g6,2,none⟩) 32 32,nt.n.key),(.slice (some ⟨g6,66,none⟩) 32 32,nt.n.pa),(.slice (some ⟨g8,0,none⟩) 32 32,dgN ts nt.n.ms s)]:List (Value×List Int)) rfl (by decide) tc tq W8 r2_8 r1_8 r11_8 hps12 (by rw [show ((List.map Prod.snd ([(.slice (some ⟨g10,0,none⟩) 1 1,[3]),(.slice (some ⟨g6,2,none⟩) 32 32,nt.n.key),(.slice (some ⟨g6,66,none⟩) 32 32,nt.n.pa),(.slice (some ⟨g8,0,none⟩) 32 32,dgN ts nt.n.ms s)]:List (Value×List Int))).flatten)=([3])++nt.n.key++nt.n.pa++(dgN ts nt.n.ms s) by simp only [List.map_cons,List.map_nil,List.flatten_cons,List.flatten_nil,List.append_nil,List.append_assoc,List.cons_append,List.nil_append]]; (simp only [List.length_append,okt.kl,okt.pl,Qbq,List.length_cons,List.length_nil]; omega))
  rw [show ((List.map Prod.snd ([(.slice (some ⟨g10,0,none⟩) 1 1,[3]),(.slice (some ⟨g6,2,none⟩) 32 32,nt.n.key),(.slice (some ⟨g6,66,none⟩) 32 32,nt.n.pa),(.slice (some ⟨g8,0,none⟩) 32 32,dgN ts nt.n.ms s)]:List (Value×List Int))).flatten)=([3])++nt.n.key++nt.n.pa++(dgN ts nt.n.ms s) by simp only [List.map_cons,List.map_nil,List.flatten_cons,List.flatten_nil,List.append_nil,List.append_assoc,List.cons_append,List.nil_append]] at hsh12
  refine Qao (.agg (ints .u8 (dig (([3])++nt.n.key++nt.n.pa++(dgN ts nt.n.ms s))))) 49 #[.slice (some ⟨g11,0,none⟩) 4 4] 25 rfl kj kj hsh12 fun W9 e9=>?_
  have x9:Ext w W9:=Ext.tr x8 e9
  have r4_2:=(Qag r4_1 e2)
  have r4_3:=(Puts.row p3 r4_2 (Qaw r4_1 l6))
  have r4_4:=(Qag r4_3 e4)
  have r4_5:=(Qag r4_4 e5)
  have r4_6:=(Puts.row p6 r4_5 (Qaw r4_4 l8))
  have r4_7:=(Qag r4_6 e7)
  have r4_8:=(Qag r4_7 e8)
  have r4_9:=(Qag r4_8 e9)
  refine Qau g4 _ (ints .u8 (dig (([3])++nt.n.key++nt.n.pa++(dgN ts nt.n.ms s)))) 28 r4_9 rfl kj (Qas 28 _ _ g4 28 _ _ r4_9 rfl kj kj (isz (n:=32) kj ((Qad _ _).trans (QaI _))) (eqsz (n:=32) ((Qad _ _).trans (qZ (n:=32))) ((Qad _ _).trans (QaI _))) (Qav _ _)) fun W10 p10 r4_10=>?_
  have x10:Ext w W10:=Puts.ext p10 x9 b4
  refine Qaf ?_
  refine hK9 _ _ ?_
  refine wp_ret ?_
  repeat (first | with_reducible refine goR1 ?_ | with_reducible refine goR2 ?_)
  exact (show bodyPost _ _ _ .ret _ _ from ret1 (.agg (ints .u8 (dig (([3])++nt.n.key++nt.n.pa++(dgN ts nt.n.ms s))))) rfl (Qbv g4 28 _ r4_10 kj kj (isz (n:=32) kj ((Qad _ _).trans (QaI _)))) ⟨by unfold mkN; rw [←ent],x10⟩)
end Go.Proofs.YthfkppjajmjpnaaDoor.Te
end
section
namespace Go.Proofs.YthfkppjajmjpnaaDoor.Te
open Go Go.RowKit
open Rely Auto Own Seat Wk Sha
theorem QfV {n : Nat} (h:n≤1000000000):IntKind.i64.wrap ((n:Nat):Int)=((n:Nat):Int):=IntWalk.i64_in _ (by omega)
theorem QlM (x : Int) (hi:i64 x) (W:World) (h:TabAt W):Calls Tryd.prog 36 #[.int .i64 x] W (Ret W (.tuple #[.int .i64 (kidL x),.int .i64 (kidR x)])):=quiet (children x hi W h)
set_option maxRecDepth 100000 in
theorem Qj2 (ts : List NdV) (a_t:Option Addr) (c_t B1:Nat) (htl:ts.length≤100000) (hmt:∀ i,i<ts.length→(ndi ts i).n.ms.length≤50) (w:World) (ht:TrAt B1 w a_t ts) (hT:TabAt w) (hSh:ShT w) (x:Nat) (hc:chkT ts=true) (hx:x<ts.length) (l r:Nat) (hl:l<ts.length) (hr:r<ts.length) (hne:((r:Nat):Int)≠((l:Nat):Int)) (hkid:∀ W,TabAt W→Calls Tryd.prog 36 #[.int .i64 ((x:Nat):Int)] W (Ret W (.tuple #[.int .i64 ((l:Nat):Int),.int .i64 ((r:Nat):Int)]))):Calls Tryd.prog 15 #[.slice a_t ts.length c_t,.int .i64 ((x:Nat):Int),.int .i64 ((l:Nat):Int)] w (Ret w (.tuple #[.agg (ints .u8 (mkN ts x r)),.bool true])):=by
  refine enter 47 [(0,.slice a_t ts.length c_t),(1,.int .i64 ((x:Nat):Int)),(2,.int .i64 ((l:Nat):Int))] Tryd.func15 rfl rfl kj rfl ?_
  refine wp_seq_k fun K1 hK1=>?_
  refine Qab ?_
  refine Qam (ints .u8 (List.replicate 32 0)) 28 6 rfl kj kj fun g2 W1 l2 e1 r2_1=>?_
  have x1:Ext w W1:=Ext.tr (Rely.Ext.refl w) e1
  have b2:w.heap.size≤g2:=qT (Rely.Ext.refl w).size l2
  refine Qaa (.bool false) 7 rfl kj kj ?_
  refine Qaf ?_
  refine hK1 _ _ ?_
  refine wp_seq_k fun K3 hK3=>?_
  refine Qab ?_
  refine Qaa (.int .i64 ((x:Nat):Int)) 11 rfl kj kj ?_
  refine Qao (.tuple #[.int .i64 ((l:Nat):Int),.int .i64 ((r:Nat):Int)]) 36 #[.int .i64 ((x:Nat):Int)] 12 rfl kj kj (hkid _ (TabAt.ext hT x1)) fun W2 e2=>?_
  have x2:Ext w W2:=Ext.tr x1 e2
  refine Qaa (.tuple #[.int .i64 ((l:Nat):Int),.int .i64 ((r:Nat):Int)]) 10 rfl kj kj ?_
  refine Qaa (.int .i64 ((l:Nat):Int)) 13 rfl kj kj ?_
  refine Qaa (.int .i64 ((r:Nat):Int)) 14 rfl kj kj ?_
  refine Qaa (.int .i64 ((l:Nat):Int)) 8 rfl kj kj ?_
  refine Qaa (.int .i64 ((r:Nat):Int)) 9 rfl kj kj ?_
  refine Qaf ?_
  refine hK3 _ _ ?_
  refine wp_seq_k fun K4 hK4=>?_
  refine wp_seq_k fun K5 hK5=>?_
  refine Qab ?_
  refine Qaa (.int .i64 ((l:Nat):Int)) 15 rfl kj kj ?_
  refine Qaa (.bool false) 16 rfl kj (Qai (u:=.bool (decide (((l:Nat):Int)<0))) kj (congrArg Value.bool (decide_eq_false (by omega)))) ?_
  refine Qaa (.bool false) 17 rfl kj kj ?_
  refine Qaa (.int .i64 ((x:Nat):Int)) 18 rfl kj kj ?_
  refine Qaa (.slice a_t ts.length c_t) 19 rfl kj kj ?_
  refine Qaa (.int .i64 ((ts.length:Nat):Int)) 20 rfl kj kj ?_
  refine Qaa (.bool false) 21 rfl kj (Qai (u:=.bool (decide (((x:Nat):Int)≥((ts.length:Nat):Int)))) kj (congrArg Value.bool (decide_eq_false (by omega)))) ?_
  refine Qaa (.bool false) 22 rfl kj kj ?_
  refine Qaa (.bool false) 23 rfl kj kj ?_
  refine Qaa (.int .i64 ((l:Nat):Int)) 24 rfl kj kj ?_
  refine Qaa (.int .i64 ((l:Nat):Int)) 25 rfl kj kj ?_
  refine Qaa (.bool false) 26 rfl kj (Qai (u:=.bool ((((l:Nat):Int) != ((l:Nat):Int)))) kj (congrArg Value.bool (bne_eq_false_iff_eq.2 rfl))) ?_
  refine Qaa (.bool false) 27 rfl kj kj ?_
  refine Qae 28 rfl kj ?_
  refine Qae 29 rfl kj ?_
  refine Qae 30 rfl kj ?_
  refine Qaa (.bool false) 31 rfl kj kj ?_
  refine Qaa (.bool false) 32 rfl kj kj ?_
  refine Qaa (.bool false) 33 rfl kj kj ?_
  refine Qaa (.slice a_t ts.length c_t) 34 rfl kj kj ?_
  refine Qao (.nilIface) 26 #[.slice a_t ts.length c_t] 35 rfl kj kj (Qih ts a_t c_t _ _ (TrAt.ext ht x2) htl (fun i hi=>qT (hmt i hi) (by decide)) (TabAt.ext hT x2) hc) fun W3 e3=>?_
  have x3:Ext w W3:=Ext.tr x2 e3
  refine Qaa (.bool false) 36 rfl kj kj ?_
  refine Qaa (.bool false) 37 rfl kj kj ?_
  refine Qaf ?_
  refine hK5 _ _ ?_
  refine cond_false kj ?_
  refine wp_skip ?_
  refine hK4 _ _ ?_
  refine wp_seq_k fun K6 hK6=>?_
  refine Qab ?_
  refine Qaa (.slice a_t ts.length c_t) 39 rfl kj kj ?_
  refine Qaa (.int .i64 ((x:Nat):Int)) 40 rfl kj kj ?_
  refine Qaa (.int .i64 ((l:Nat):Int)) 41 rfl kj kj ?_
  refine Qaa (.int .i64 ((r:Nat):Int)) 42 rfl kj kj ?_
  refine Qaa (.int .i64 (((l+r:Nat):Int))) 43 rfl kj (Qai (u:=.int .i64 (IntKind.i64.wrap (((l:Nat):Int)+((r:Nat):Int)))) kj (congrArg (Value.int .i64) (QfV (by omega)))) ?_
  refine Qaa (.int .i64 ((l:Nat):Int)) 44 rfl kj kj ?_
  refine Qaa (.int .i64 (((r:Nat):Int))) 45 rfl kj (Qai (u:=.int .i64 (IntKind.i64.wrap (((l+r:Nat):Int)-((l:Nat):Int)))) kj (congrArg (Value.int .i64) (by rw [show ((l+r:Nat):Int)-((l:Nat):Int)=((r:Nat):Int) by omega]; exact QfV (by omega)))) ?_
  refine Qao (.agg (ints .u8 (mkN ts x r))) 37 #[.slice a_t ts.length c_t,.int .i64 ((x:Nat):Int),.int .i64 (((r:Nat):Int))] 46 rfl kj kj (Qmv ts a_t c_t B1 htl hmt hc _ (TrAt.ext ht x3) (TabAt.ext hT x3) (ShT.ext hSh x3) x r hx (by omega)) fun W4 e4=>?_
  have x4:Ext w W4:=Ext.tr x3 e4
  have r2_2:=(Qag r2_1 e2)
  have r2_3:=(Qag r2_2 e3)
  have r2_4:=(Qag r2_3 e4)
  refine Qau g2 _ (ints .u8 (mkN ts x r)) 28 r2_4 rfl kj (Qas 28 _ _ g2 28 _ _ r2_4 rfl kj kj (isz (n:=32) kj ((Qad _ _).trans (QbY ts x r))) (eqsz (n:=32) ((Qad _ _).trans (qZ (n:=32))) ((Qad _ _).trans (QbY ts x r))) (Qav _ _)) fun W5 p5 r2_5=>?_
  have x5:Ext w W5:=Puts.ext p5 x4 b2
  refine Qaa (.bool true) 7 rfl kj kj ?_
  refine Qaf ?_
  refine hK6 _ _ ?_
  refine wp_ret ?_
  repeat (first | with_reducible refine goR1 ?_ | with_reducible refine goR2 ?_)
  exact (show bodyPost _ _ _ .ret _ _ from ret2 (.agg (ints .u8 (mkN ts x r))) (.bool true) rfl (Qbv g2 28 _ r2_5 kj kj (isz (n:=32) kj ((Qad _ _).trans (QbY ts x r)))) (Qaq kj) ⟨rfl,x5⟩)
end Go.Proofs.YthfkppjajmjpnaaDoor.Te
end
section
namespace Go.Proofs.YthfkppjajmjpnaaDoor.Wm
open Go Go.RowKit
open Rely Auto
variable {P : Program} {ops : Array Oper} {Q : Exit → Act → World → Prop}
def allM (P : Program) (ops:Array Oper) (Q:Exit→Act→World→Prop) (Rd:World→Prop) (m:Nat):Nat→Array Bool→Act→World→Prop
  | 0,listed,a,w=>Region.ready .any ops listed=[]∧Q .normal a w
  | fuel+1,listed,a,w=>(Region.ready .any ops listed=[]→Q .normal a w)∧∀ i∈Region.ready .any ops listed,wpOp P ops Q i (fun a' w'=>(i≠m→Rd w')∧allM P ops Q Rd m fuel (listed.setIfInBounds i true) a' w') a w
theorem Qg3 {Rd : World→Prop} {m:Nat}:∀ (fuel:Nat) (listed:Array Bool) (a:Act) (w:World),allM P ops Q Rd m fuel listed a w→wpAny P .any ops Q fuel listed a w
  | 0,_,_,_,h=>h
  | _+1,_,_,_,h=>⟨h.1,fun i hi=>wpOp_mono (fun a w h=>Qg3 _ _ a w h.2) (h.2 i hi)⟩
def QbK (P : Program) (ops:Array Oper) (Rd:World→Prop) (o:Oper) (v:Value) (a:Act):Prop :=
  (Region.wanted o (yielded ops a.tmps)=true∧∀ w,Rd w→(execOp a.eval o).run P w=.ok (.value v) w)∨(Region.wanted o (yielded ops a.tmps)=false∧v=undef)
theorem QbK.wpOp {Rd : World→Prop} {i:Nat} {o:Oper} {v:Value} {a:Act} (hi:ops[i]? = some o) (hy:QbK P ops Rd o v a) {K:Act→World→Prop} {w:World} (hw:Rd w) (h:K (a.put o.dst v) w):wpOp P ops Q i K a w:=by
  unfold Go.wpOp
  simp only [hi]
  rcases hy with ⟨hw1,hv⟩ | ⟨hw1,rfl⟩
  · simp only [hw1,if_true,Oper.wp,hv w hw,Oper.upon]; exact .inl h
  · simp only [hw1,Bool.false_eq_true,if_false]; exact h
theorem QbK.same {Rd : World→Prop} {o:Oper} {v:Value} {a a':Act} (hy:QbK P ops Rd o v a) (he:execOp a'.eval o=execOp a.eval o) (hw:Region.wanted o (yielded ops a'.tmps)=Region.wanted o (yielded ops a.tmps)):QbK P ops Rd o v a':=by
  unfold QbK at *
  rw [he,hw]
  exact hy
theorem Qks {Rd : World→Prop} {j:Nat} {oi oj:Oper} {v:Value} (hj:ops[j]? = some oj) (hap:oi.apart ops oj=true) (hsi:∀ cs b,oi.op≠.select cs b) (hsj:∀ cs b,oj.op≠.select cs b)
    (hQ:∀ c a w,Q (.panic c) (a.put oi.dst v) w→Q (.panic c) a w) {K:Act→World→Prop} {a:Act} {w:World} (hy:QbK P ops Rd oi v a) (h:wpOp P ops Q j K (a.put oi.dst v) w) :
    wpOp P ops Q j (fun a' w'=>QbK P ops Rd oi v a'∧K (a'.put oi.dst v) w') a w:=by
  obtain ⟨h1,h2,h3⟩:=Oper.apart_spec hap
  have keep:∀ (a:Act),QbK P ops Rd oi v a→∀ u,QbK P ops Rd oi v (a.put oj.dst u):=fun a hy u=>hy.same (execOp_put oi hsi a oj.dst u h3) (wanted_put oi a oj.dst u h3)
  have keepD:∀ d,QbK P ops Rd oi v { a with defers:=d::a.defers }:=fun d=>hy.same rfl rfl
  unfold wpOp at *
  simp only [hj] at *
  rw [wanted_put oj a oi.dst v h1] at h
  split
  · rename_i hw
    simp only [hw,if_true] at h
    rcases h with h | ⟨hasks,hlets⟩
    case inr=>exact .inr ⟨by unfold Oper.asks at *; rw [execOp_put oj hsj a oi.dst v h1] at hasks; exact hasks,hlets⟩
    refine .inl ?_
    unfold Oper.wp at *
    rw [execOp_put oj hsj a oi.dst v h1] at h
    generalize (execOp a.eval oj).run P w=r at *
    cases r with
    | ok n w' =>
      cases n <;> simp only [Oper.upon] at h ⊢
      case value u=>exact ⟨keep a hy u,by rw [←Act.put_comm a v u h2]; exact h⟩
      case skip=>exact ⟨keep a hy _,by rw [←Act.put_comm a v undef h2]; exact h⟩
      case defer d =>
        refine ⟨keep _ (keepD d) _,?_⟩
        rw [←Act.put_comm _ v undef h2,←Act.put_defers]
        exact h
      case enter f args =>
        refine Calls.mono h fun e w'' he=>?_
        cases e with
        | returned u=>exact ⟨keep a hy u,by rw [←Act.put_comm a v u h2]; exact he⟩
        | panicked c=>exact hQ _ _ _ he
        | outgrown=>exact he
      case row row args=>exact Rows.mono h fun u w'' he=>⟨keep a hy u,by rw [←Act.put_comm a v u h2]; exact he⟩
    | halt x w' =>
      cases x <;> simp only [Oper.upon] at h ⊢
      case panic u=>exact hQ _ _ _ h
  · rename_i hw
    simp only [hw] at h
    exact ⟨keep a hy _,by rw [←Act.put_comm a v undef h2]; exact h⟩
theorem QgS {Rd : World→Prop} {m:Nat} {i:Nat} {oi:Oper} {v:Value} (hi:ops[i]? = some oi) (hsel:∀ (j:Nat) (o:Oper) cs b,ops[j]? = some o→o.op≠.select cs b) (him:i≠m) (hwait:∃ om e,ops[m]? = some om∧e∈om.after∧Region.binds .any e=true∧e.on=i) (hQ:∀ c a w,Q (.panic c) (a.put oi.dst v) w→Q (.panic c) a w) :
    ∀ (fuel:Nat) (listed:Array Bool) (a:Act) (w:World),Rd w →
      (∀ j oj,ops[j]? = some oj→j≠i→listed.getD j true=false→(∀ e∈oj.after,Region.binds .any e=true→e.on≠i)→oi.apart ops oj=true) →
      i∈Region.ready .any ops listed→QbK P ops Rd oi v a→allM P ops Q Rd m fuel (listed.setIfInBounds i true) (a.put oi.dst v) w→allM P ops Q Rd m (fuel+1) listed a w:=by
  intro fuel
  induction fuel with
  | zero =>
    intro listed a w hw _ hr hy H
    refine ⟨fun h=>(by rw [h] at hr; cases hr),fun j hj=>?_⟩
    by_cases hji:j=i
    · subst hji; exact hy.wpOp hi hw ⟨fun _=>hw,H⟩
    · have:=ready_mono hj hji
      rw [H.1] at this
      cases this
  | succ fuel ih =>
    intro listed a w hw hfree hr hy H
    refine ⟨fun h=>(by rw [h] at hr; cases hr),fun j hj=>?_⟩
    by_cases hji:j=i
    · subst hji; exact hy.wpOp hi hw ⟨fun _=>hw,H⟩
    · have h1:=H.2 j (ready_mono hj hji)
      obtain ⟨hjun,oj,hoj,hall⟩:=mem_ready.1 hj
      have hnot:∀ e∈oj.after,Region.binds .any e=true→e.on≠i:=fun e he hb heq=>by
        have h1:=hall e he hb
        have h0:=(mem_ready.1 hr).1
        rw [heq] at h1
        rcases Nat.lt_or_ge i listed.size with h' | h'
        · simp [h'] at h0 h1; rw [h0] at h1; cases h1
        · simp [Array.getElem?_eq_none h'] at h1
      have hjm:j≠m:=fun q=>by
        subst q
        obtain ⟨om,e,hom,he,hb,heq⟩:=hwait
        rw [hoj] at hom
        exact hnot e (Option.some.inj hom▸he) hb heq
      have h2:=Qks hoj (hfree j oj hoj hji hjun hnot) (fun cs b=>hsel i oi cs b hi) (fun cs b=>hsel j oj cs b hoj) hQ hy h1
      have hfree':∀ k ok,ops[k]? = some ok→k≠i→(listed.setIfInBounds j true).getD k true=false→(∀ e∈ok.after,Region.binds .any e=true→e.on≠i)→oi.apart ops ok=true:=fun k ok hk hki hun hno=>by
        refine hfree k ok hk hki ?_ hno
        by_cases hjk:j=k
        · subst hjk; exact hjun
        · rw [getD_set_ne true hjk] at hun; exact hun
      refine wpOp_mono (fun a' w' h3=>⟨fun _=>h3.2.1 hjm,ih (listed.setIfInBounds j true) a' w' (h3.2.1 hjm) hfree' (ready_mono hr (Ne.symm hji)) h3.1 ?_⟩) h2
      rw [Array.setIfInBounds_comm _ _ hji]
      exact h3.2.2
structure WM (P : Program) (ops : Array Oper) (Q : Exit → Act → World → Prop) (Rd : World → Prop) (m fuel : Nat) (listed : Array Bool) (a : Act) (w : World) : Prop where
  out:Rd w→allM P ops Q Rd m fuel listed a w
variable {o : Oper} {N : Nat} {L : Env} {w V : World} {ds : List Deferred} {fuel : Nat} {listed : Array Bool} {k m : Nat} {a : Act} {Rd : World → Prop}
theorem region_walkM {id : Nat} {l:List Oper} (Rd:World→Prop) (m:Nat) (hm:P.follows .mixedOrders=true) (h:∀ W,Ext w W→Rd W∧WM P l.toArray Q Rd m l.length (Array.replicate l.length false) (Qa0 ds N L) W):(Code.region id l.toArray true).wp P Q (Qa0 ds N L) w:=by
  refine wp_region_any hm ?_
  obtain ⟨h1,h2⟩:=h w.drew (Qax w)
  have:=Qg3 _ _ _ _ (h2.out h1)
  simpa using this
def waits (ops : Array Oper) (m k:Nat):Bool:=match ops[m]? with | some om=>om.after.any (fun e=>Region.binds .any e&&e.on==k) | none=>false
theorem Qg5 (h : waits ops m k=true):∃ om e,ops[m]? = some om∧e∈om.after∧Region.binds .any e=true∧e.on=k:=by
  unfold waits at h
  split at h
  · rename_i om ho
    obtain ⟨i,hi,h1⟩:=Array.any_eq_true.1 h
    simp only [Bool.and_eq_true,beq_iff_eq] at h1
    exact ⟨om,_,ho,Array.getElem_mem hi,h1.1,h1.2⟩
  · cases h
theorem wm_val (k : Nat) (v:Value) (d:Nat) (ho:ops[k]? = some o) (hd:o.dst=some d) (hg:Qbn ops o N L=some true) (hc:(Region.noSelect ops&&Region.free .any ops listed k&&(Region.ready .any ops listed).contains k)=true) (hkm:k≠m) (hwt:waits ops m k=true)
    (hQ:∀ c a w,Q (.panic c) (a.put o.dst v) w→Q (.panic c) a w) (h:∀ W,Rd W→(execOp (Rely.look (envN N L)) o).run P W=.ok (.value v) W) (kk:WM P ops Q Rd m fuel (listed.setIfInBounds k true) (Qa0 ds N ((d,v)::L)) w):WM P ops Q Rd m (fuel+1) listed (Qa0 ds N L) w:=by
  simp only [Bool.and_eq_true] at hc
  refine ⟨fun hw=>QgS ho (Region.noSelect_spec hc.1.1) hkm (Qg5 hwt) hQ fuel listed _ w hw (Region.free_spec ho hc.1.2) (by simpa using hc.2) (.inl ⟨Qb1 hg,fun W hW=>?_⟩) ?_⟩
  · rw [QaZ]; exact h W hW
  · rw [hd,QaW]; exact kk.out hw
theorem wm_run (k : Nat) (hr:Region.ready .any ops listed=[k]) (ho:ops[k]? = some o) (R:Value→World→Prop) (d:Nat) (hd:o.dst=some d) (hg:Qbn ops o N L=some true) (h:∃ v W,(execOp (Rely.look (envN N L)) o).run P w=.ok (.value v) W∧R v W) (hR:∀ v W,R v W→Rd W)
    (kk:∀ (v:Value) (W:World),R v W→WM P ops Q Rd m fuel (listed.setIfInBounds k true) (Qa0 ds N ((d,v)::L)) W):WM P ops Q Rd m (fuel+1) listed (Qa0 ds N L) w:=by
  obtain ⟨v,W,h1,h2⟩:=h
  refine ⟨fun _=>⟨fun h0=>(by rw [hr] at h0; cases h0),fun i hi=>?_⟩⟩
  rw [hr] at hi
  obtain rfl:i=k:=by simpa using hi
  unfold wpOp
  rw [ho]
  simp only [Qb1 hg,if_true]
  refine .inl ?_
  unfold Oper.wp
  rw [QaZ,h1]
  show _∧allM _ _ _ _ _ _ _ _ _
  rw [hd,QaW]
  exact ⟨fun _=>hR v W h2,(kk v W h2).out (hR v W h2)⟩
theorem Qj3 (hr : Region.ready .any ops listed=[m]) (hr2:Region.ready .any ops (listed.setIfInBounds m true)=[]) (ho:ops[m]? = some o) (R:World→Prop) (hd:o.dst=none) (hg:Qbn ops o N L=some true) (h:∃ W,(execOp (Rely.look (envN N L)) o).run P w=.ok .skip W∧R W)
    (kk:∀ W,R W→Q .normal (Qa0 ds N L) W):WM P ops Q Rd m (fuel+1) listed (Qa0 ds N L) w:=by
  obtain ⟨W,h1,h2⟩:=h
  refine ⟨fun _=>⟨fun h0=>(by rw [hr] at h0; cases h0),fun i hi=>?_⟩⟩
  rw [hr] at hi
  obtain rfl:i=m:=by simpa using hi
  unfold wpOp
  rw [ho]
  simp only [Qb1 hg,if_true]
  refine .inl ?_
  unfold Oper.wp
  rw [QaZ,h1]
  show _∧allM _ _ _ _ _ _ _ _ _
  rw [hd,show (Qa0 ds N L).put none undef=Qa0 ds N L from rfl]
  refine ⟨fun q=>absurd rfl q,?_⟩
  cases fuel with
  | zero=>exact ⟨hr2,kk W h2⟩
  | succ n=>exact ⟨fun _=>kk W h2,by rw [hr2]; simp⟩
theorem wm_store (g : Nat) (old cs:Array Value) (t:TypeId) (hgr:w.heap[g]? = some (.cells old t)) (hr:Region.ready .any ops listed=[m]) (hr2:Region.ready .any ops (listed.setIfInBounds m true)=[]) (ho:ops[m]? = some o) (hd:o.dst=none) (hg:Qbn ops o N L=some true) (h:(execOp (Rely.look (envN N L)) o).run P w=.ok .skip (w.setRow g cs))
    (kk:∀ W,Puts w g W→W.heap[g]? = some (.cells cs t)→Q .normal (Qa0 ds N L) W):WM P ops Q Rd m (fuel+1) listed (Qa0 ds N L) w :=
  Qj3 hr hr2 ho (fun W=>Puts w g W∧W.heap[g]? = some (.cells cs t)) hd hg ⟨_,h,Qcq _ _ _,setRow_heap _ _ _ _ _ _ hgr⟩ fun W hh=>kk W hh.1 hh.2
end Go.Proofs.YthfkppjajmjpnaaDoor.Wm
end
section
namespace Go.Proofs.YthfkppjajmjpnaaDoor.Te
open Go Go.RowKit
open Rely Auto Own Seat Sha
structure KeyB (us ts : List NdV) (a b : Nat) : Prop where
  len:us.length=ts.length
  eq:∀ y,y<ts.length→(y%2=1∨y/2<a∨b<y/2)→(ndi us y).n=(ndi ts y).n
  ud:∀ y,y<ts.length→(ndi us y).n.us=(ndi ts y).n.us
  nm:∀ y,y<ts.length→(ndi us y).n.nm=(ndi ts y).n.nm
  ms:∀ y,y<ts.length→(ndi us y).n.ms=(ndi ts y).n.ms
  zero:∀ y,y<ts.length→(ndi ts y).n.us=false→(ndi us y).n=(ndi ts y).n
theorem KeyB.of {us ts:List NdV} {a b:Nat} (h:AsC us ts):KeyB us ts a b :=
  ⟨h.1,fun y hy _=>h.2 y hy,fun y hy=>by rw [h.2 y hy],fun y hy=>by rw [h.2 y hy],fun y hy=>by rw [h.2 y hy],fun y hy _=>h.2 y hy⟩
theorem KeyB.form {us ts:List NdV} {a b L:Nat} (k:KeyB us ts a b) (f:Form ts L):Form us L:=by
  have hl:=k.len
  have hlen:=f.len
  refine ⟨f.tr,by omega,fun i j hi hj h1 h2 h3=>?_,fun x hx h=>?_,fun i hi h=>?_,fun x hx ho h=>?_⟩
  · rw [k.ud (2*i) (by omega)] at h1
    rw [k.ud (2*j) (by omega)] at h2
    rw [k.nm (2*i) (by omega),k.nm (2*j) (by omega)] at h3
    exact f.nms i j hi hj h1 h2 h3
  · rw [k.ud x (by omega)] at h
    rw [k.zero x (by omega) h]; exact f.zero x (by omega) h
  · have h2:=h
    rw [k.ud (2*i) (by omega)] at h2
    have h9:=f.leaf i hi h2
    unfold Qb7 at h9 ⊢
    rw [h,k.ms (2*i) (by omega),k.nm (2*i) (by omega)]
    rw [h2] at h9; exact h9
  · rw [k.ud x (by omega)] at h
    have u:=f.up x (by omega) ho h
    have e:=k.eq x (by omega) (.inl ho)
    refine ⟨by rw [e]; exact u.nm,by rw [e]; exact u.sg,by rw [e]; exact u.inc,fun i hi=>?_⟩
    rw [e] at hi
    obtain ⟨m,h1,h2,h3,h4,h5⟩:=u.mem i hi
    refine ⟨m,h1,h2,h3,by rw [k.ud (2*m) (by omega)]; exact h4,fun y hy hyo hyx hyu ha hb=>?_⟩
    rw [k.ud y (by omega)] at hyu
    rw [k.ms y (by omega)]
    exact h5 y (by omega) hyo hyx hyu ha hb
theorem KeyB.any {us ts:List NdV} {a b k:Nat} (h:KeyB us ts a b) (hu:anyU ts k=true):anyU us k=true:=by
  unfold anyU at *
  rw [List.any_eq_true] at *
  obtain ⟨j,hj,h1⟩:=hu
  simp only [Bool.and_eq_true,decide_eq_true_eq] at h1
  refine ⟨j,by rw [h.len]; exact hj,?_⟩
  simp only [Bool.and_eq_true,decide_eq_true_eq]
  exact ⟨⟨h1.1.1,by rw [h.len]; exact h1.1.2⟩,by rw [h.ud _ h1.1.2]; exact h1.2⟩
theorem KeyB.chk {us ts:List NdV} {a b:Nat} (h:KeyB us ts a b) (htl:ts.length≤100000) (hc:chkT ts=true):chkT us=true:=by
  obtain ⟨L,f,hr⟩:=Qca htl hc
  exact Qep (h.form f) (h.any hr)
theorem Qjd : Qbi (fun n x=>decide (x%2=1) || (decide ((bel x n).1=x/2)&&decide ((bel x n).2=x/2)))=true:=by decide +kernel
theorem Qg0 : Qbi (fun n x=>decide (kidL x<0) || (decide ((bel x n).1≤(bel (kidL x) n).1)&&decide ((bel (kidL x) n).2≤(bel x n).2)&&decide ((bel x n).1≤(bel (kidR x) n).1)&&decide ((bel (kidR x) n).2≤(bel x n).2)&&decide ((bel (kidL x) n).2<(bel (kidR x) n).1)))=true:=by decide +kernel
theorem KeyB.node {us ts:List NdV} {a b x:Nat} {n:Int} (k:KeyB us ts a b) (hx:x<ts.length) (hn:Qa1 ((x:Nat):Int) n=true) (h:(bel ((x:Nat):Int) n).2<((a:Nat):Int)∨((b:Nat):Int)<(bel ((x:Nat):Int) n).1):(ndi us x).n=(ndi ts x).n:=by
  refine k.eq x hx ?_
  have h1:=QaF Qjd hn
  simp only [Bool.or_eq_true,Bool.and_eq_true,decide_eq_true_eq] at h1
  omega
theorem Qf4 {us ts:List NdV} (wo:List Int) {x:Nat} (h:(ndi us x).n=(ndi ts x).n):Qcz us wo x=Qcz ts wo x:=by
  unfold Qcz Qe0
  rw [h]
theorem Qh9 {us ts:List NdV} (wo:List Int) {x:Nat} (h:(ndi us x).n=(ndi ts x).n):Qc7 us wo x=Qc7 ts wo x:=by
  unfold Qc7
  rw [h]
theorem KeyB.txt {us ts:List NdV} {a b L:Nat} (k:KeyB us ts a b) (hTr:QaD ((L:Nat):Int)=true) (hlen:ts.length+1=2*L) (wo:List Int):∀ n x,x<ts.length→((bel ((x:Nat):Int) ((L:Nat):Int)).2<((a:Nat):Int)∨((b:Nat):Int)<(bel ((x:Nat):Int) ((L:Nat):Int)).1)→txtN us wo n x=txtN ts wo n x
  | 0,x,hx,h=>Qf4 wo (k.node hx (QaT hTr (x:=x) (by omega)) h)
  | n+1,x,hx,h=>by
    have hn:=QaT hTr (x:=x) (by omega)
    have e:=k.node hx hn h
    by_cases q:kidL ((x:Nat):Int)<0
    · rw [Qcf _ q,Qcf _ q]; exact Qf4 wo e
    · rcases QcB hn with ⟨-,⟨h0,h1⟩ | ⟨h2,h3,h4,h5⟩⟩
      · omega
      · obtain ⟨l,hl0⟩:=Int.eq_ofNat_of_zero_le (Qcu h2)
        obtain ⟨r,hr0⟩:=Int.eq_ofNat_of_zero_le (Qcu h3)
        have hll:=Qc6 h2
        have hrl:=Qc6 h3
        have h6:=QaF Qg0 hn
        simp only [Bool.or_eq_true,Bool.and_eq_true,decide_eq_true_eq] at h6
        rw [hl0,hr0] at h6
        have h7:=h6.resolve_left (by omega)
        rw [QdH n hl0 hr0,QdH n hl0 hr0,Qh9 wo e,KeyB.txt k hTr hlen wo n l (by omega) (by omega),KeyB.txt k hTr hlen wo n r (by omega) (by omega)]
theorem KeyB.mark {us ts:List NdV} {a b L x r:Nat} (k:KeyB us ts a b) (hTr:QaD ((L:Nat):Int)=true) (hlen:ts.length+1=2*L) (hx:x<ts.length) (ho:x%2=1) (hr:r<ts.length) (h:((b:Nat):Int)<(bel ((r:Nat):Int) ((L:Nat):Int)).1):mkN us x r=mkN ts x r:=by
  unfold mkN dgN
  rw [k.eq x hx (.inl ho),k.txt hTr hlen _ 5 r hr (.inr h)]
def kyS (ts : List NdV) (i:Nat) (v:Int):List NdV:=ts.set i ⟨{ (ndi ts i).n with key:=(ndi ts i).n.key.set 3 v },(ndi ts i).a,(ndi ts i).c⟩
theorem QkD (ts : List NdV) (i:Nat) (v:Int):(kyS ts i v).length=ts.length:=List.length_set ..
theorem KeyB.step {us ts:List NdV} {a b i:Nat} (k:KeyB us ts a b) (v:Int) (ha:a≤i) (hb:i≤b) (hi:2*i<ts.length) (hu:(ndi us (2*i)).n.us=true):KeyB (kyS us (2*i) v) ts a b:=by
  have hl:=k.len
  have hi2:2*i<us.length:=by omega
  have e:∀ y,ndi (kyS us (2*i) v) y=if y=2*i then ⟨{ (ndi us (2*i)).n with key:=(ndi us (2*i)).n.key.set 3 v },(ndi us (2*i)).a,(ndi us (2*i)).c⟩ else ndi us y:=fun y=>QbF _ hi2 y
  refine ⟨(QkD ..).trans hl,fun y hy h=>?_,fun y hy=>?_,fun y hy=>?_,fun y hy=>?_,fun y hy h=>?_⟩
  · rw [e,if_neg (by omega)]; exact k.eq y hy h
  · rw [e]; split
    · next q=>rw [q]; exact k.ud (2*i) (by omega)
    · exact k.ud y hy
  · rw [e]; split
    · next q=>rw [q]; exact k.nm (2*i) (by omega)
    · exact k.nm y hy
  · rw [e]; split
    · next q=>rw [q]; exact k.ms (2*i) (by omega)
    · exact k.ms y hy
  · rw [e,if_neg (fun q=>by rw [q,←k.ud (2*i) hi,hu] at h; cases h)]; exact k.zero y hy h
theorem NdOk.ky {n : NdC} (h:NdOk n) {v:Int} (hv:0≤v∧v≤255):NdOk { n with key:=n.key.set 3 v } :=
  ⟨(List.length_set ..).trans h.kl,h.gl,h.pl,fun y hy=>by
    rcases List.mem_or_eq_of_mem_set hy with q | q
    · exact h.kb y q
    · rw [q]; exact hv,h.gb,h.pb⟩
theorem QlC (n : NdV) (ok:NdOk n.n) (v:Int) (j:Nat):(cat (ndP ⟨{ n.n with key:=n.n.key.set 3 v },n.a,n.c⟩))[j]? = if j=5 then some (.int .u8 v) else (cat (ndP n))[j]?:=by
  have key:∀ m:NdV,cat (ndP m)=#[Value.bool m.n.us,Value.int .i64 m.n.nm]++(ints .u8 m.n.key++cat [ints .u8 m.n.sg,ints .u8 m.n.pa,#[slv m]]):=fun m=>by unfold ndP slv; simp [cat]
  rw [key,key]
  show (#[Value.bool n.n.us,Value.int .i64 n.n.nm]++(ints .u8 (n.n.key.set 3 v)++cat [ints .u8 n.n.sg,ints .u8 n.n.pa,#[slv n]]))[j]? = _
  have s1:(ints .u8 (n.n.key.set 3 v)).size=32:=by rw [Qad,List.length_set]; exact ok.kl
  have s2:(ints .u8 n.n.key).size=32:=by rw [Qad]; exact ok.kl
  rcases Nat.lt_or_ge j 2 with h | h
  · rw [if_neg (by omega),Array.getElem?_append_left (show j<2 from h),Array.getElem?_append_left (show j<2 from h)]
  · have hr:∀ z:Array Value,(#[Value.bool n.n.us,Value.int .i64 n.n.nm]++z)[j]? = z[j-2]?:=fun z=>Array.getElem?_append_right (show 2≤j from h)
    rw [hr,hr]
    show (ints .u8 (n.n.key.set 3 v)++_)[j-2]? = if j=5 then _ else (ints .u8 n.n.key++_)[j-2]?
    rcases Nat.lt_or_ge (j-2) 32 with h2 | h2
    · rw [Array.getElem?_append_left (by omega),Array.getElem?_append_left (by omega),QaV _ _ _ (by rw [List.length_set,ok.kl]; exact h2),QaV _ _ _ (by rw [ok.kl]; exact h2)]
      unfold nth
      rw [List.getD_eq_getElem?_getD,List.getD_eq_getElem?_getD,List.getElem?_set,ok.kl]
      by_cases q:j=5
      · rw [if_pos q,if_pos (by omega),if_pos (by omega)]; rfl
      · rw [if_neg q,if_neg (by omega)]
    · rw [if_neg (by omega),Array.getElem?_append_right (by omega),Array.getElem?_append_right (by omega),s1,s2]
theorem OwH.setKy {base g c i M:Nat} {v:Int} {ts:List NdV} {W W':World} {cur:Array Value} (hM:ts.length=M) (t:OwT base ts (.slice (some ⟨g,0,none⟩) M c) W) (hi:i<M) (hv:0≤v∧v≤255) (r:W.heap[g]? = some (.cells cur 50)) (p:Puts W g W') (r':W'.heap[g]? = some (.cells (cur.setIfInBounds (i*99+5) (.int .u8 v)) 50)) :
    OwT base (kyS ts i v) (.slice (some ⟨g,0,none⟩) M c) W':=by
  have kp:∀ m:NdV,NdIn base W m→NdIn base W' m:=fun m hm=>hm.keep fun k hk=>p.2.2.2.2 k fun e=>by
    obtain ⟨cur2,r2⟩:=own_typ hm.2.2 hk
    rw [e,r] at r2
    simp at r2
  have hi0:=t.nd i (by omega) (by simp)
  obtain ⟨g',c2,cur2,e,q2,q3,q4,q5,q6,q7⟩:=t.opens (by omega)
  simp only [Value.slice.injEq,Option.some.injEq,Addr.mk.injEq] at e
  obtain ⟨⟨rfl,-⟩,-,rfl⟩:=e
  rw [r] at q3
  simp only [Option.some.injEq,Obj.cells.injEq,and_true] at q3
  subst q3
  refine OwH.upd hM t hi r r' (Array.size_setIfInBounds ..) (fun k j hj hl=>?_) (hi0.1.ky hv) (kp ⟨_,_,_⟩ ⟨hi0.1.ky hv,hi0.2.1,hi0.2.2⟩) (fun k hk _=>kp _ (t.nd k (by omega) (by simp))) rfl
  rw [Array.getElem?_setIfInBounds]
  by_cases e:k=i
  · subst e
    rw [if_pos rfl,QlC _ hi0.1]
    by_cases e2:j=5
    · rw [if_pos (by omega),if_pos e2,if_pos (by omega)]
    · rw [if_neg (by omega),if_neg e2,q7 k (by omega) j hj]
  · rw [if_neg (by omega),if_neg e]
theorem Qm6 {P : Program} {w:World} (t:TypeId) (k:IntKind) (a b r:Int) (hb:b≠0) (h:a.tmod b=r):(binOp .rem t (.int k a) (.int k b)).run P w=.ok (.int k r) w:=by
  subst h
  unfold binOp Op.intDiv
  simp [hb]
theorem QiC {base : Nat} {us:List NdV} {a:Option Addr} {c n:Nat} {W:World} (t:OwT base us (.slice a n c) W) (hn:us.length=n) (h0:0<n):∃ g,a=some ⟨g,0,none⟩:=by
  obtain ⟨g,c',cur,e,-⟩:=t.opens (by omega)
  simp only [Value.slice.injEq] at e
  exact ⟨g,e.1⟩
theorem OwH.rowK {base g c i M:Nat} {ts:List NdV} {W:World} (hM:ts.length=M) (t:OwT base ts (.slice (some ⟨g,0,none⟩) M c) W) (hi:i<M):base≤g∧∃ cur,W.heap[g]? = some (.cells cur 50)∧∀ W':World,W'.heap[g]? = some (.cells cur 50)→W'.cell? ⟨g,0+i*99+2+3*1,none⟩=some (.int .u8 (nth (ndi ts i).n.key 3)):=by
  have ok:=t.ok i (by omega)
  obtain ⟨g',c2,cur,e,q2,q3,q4,q5,q6,q7⟩:=t.opens (by omega)
  simp only [Value.slice.injEq,Option.some.injEq,Addr.mk.injEq] at e
  obtain ⟨⟨rfl,-⟩,-,rfl⟩:=e
  refine ⟨q2,cur,q3,fun W' r=>QcG r ?_⟩
  rw [show 0+i*99+2+3*1=i*99+5 by omega,q7 i (by omega) 5 (by decide)]
  exact Qbh [#[.bool (ndi ts i).n.us],#[.int .i64 (ndi ts i).n.nm]] [ints .u8 (ndi ts i).n.sg,ints .u8 (ndi ts i).n.pa,#[.slice (ndi ts i).a (ndi ts i).n.ms.length (ndi ts i).c]] (ndi ts i).n.key 2 3 5 rfl rfl (by rw [ok.kl]; decide)
section
variable {P : Program} {ops : Array Oper} {Q : Exit → Act → World → Prop} {Rd : World → Prop} {m fuel N : Nat} {listed : Array Bool} {ds : List Deferred} {L : Env} {w : World} {o : Oper}
theorem QgV (k : Nat) (v:Value) (d:Nat) (hr:Region.ready .any ops listed=[k]) (ho:ops[k]? = some o) (hd:o.dst=some d) (hg:Qbn ops o N L=some true) (h:(execOp (Rely.look (envN N L)) o).run P w=.ok (.value v) w) (hRd:Rd w)
    (kk:Wm.WM P ops Q Rd m fuel (listed.setIfInBounds k true) (Qa0 ds N ((d,v)::L)) w):Wm.WM P ops Q Rd m (fuel+1) listed (Qa0 ds N L) w :=
  Wm.wm_run k hr ho (fun v' W'=>v'=v∧W'=w) d hd hg ⟨v,w,h,rfl,rfl⟩ (fun _ _ h=>h.2▸hRd) (fun _ _ h=>by obtain ⟨rfl,rfl⟩:=h; exact kk)
theorem Qis (ty : TypeId) (x y:Operand) {base g c i M:Nat} {v:Int} {ts:List NdV} (hM:ts.length=M) (t:OwT base ts (.slice (some ⟨g,0,none⟩) M c) w) (hi:i<M) (hv:0≤v∧v≤255) (hr:Region.ready .any ops listed=[m]) (hr2:Region.ready .any ops (listed.setIfInBounds m true)=[]) (ho:ops[m]? = some o)
    (ho2:o.op=.store ty x y) (hx:Rely.look (envN N L) x=.pointer (some ⟨g,0+i*99+2+3*1,none⟩)) (hy:Rely.look (envN N L) y=.int .u8 v) (hi1:(P.info? ty).map (·.size)=some 1) (hd:o.dst=none) (hg:Qbn ops o N L=some true)
    (kk:∀ W',Puts w g W'→OwT base (kyS ts i v) (.slice (some ⟨g,0,none⟩) M c) W'→Q .normal (Qa0 ds N L) W'):Wm.WM P ops Q Rd m (fuel+1) listed (Qa0 ds N L) w:=by
  obtain ⟨g',c2,cur,e,q2,q3,q4,q5,q6,q7⟩:=t.opens (by omega)
  simp only [Value.slice.injEq,Option.some.injEq,Addr.mk.injEq] at e
  obtain ⟨⟨rfl,-⟩,-,rfl⟩:=e
  rw [show 0+i*99+2+3*1=i*99+5 by omega] at hx
  exact Wm.wm_store g cur _ _ q3 hr hr2 ho hd hg (QaS ty x y g (i*99+5) _ cur (.int .u8 v) q3 ho2 hx hy hi1 (by simp only [Nat.blt_eq]; omega) rfl rfl) fun W' p r'=>kk W' p (t.setKy hM hi hv q3 p r')
end
end Go.Proofs.YthfkppjajmjpnaaDoor.Te
end
section
namespace Go.Proofs.YthfkppjajmjpnaaDoor.Te
open Go Go.RowKit
open Rely Auto Own Seat Wk Sha
theorem QhR : Qbi (fun n x=>decide (kidL x<0) || decide (kidR x≠kidL x))=true:=by decide +kernel
theorem QkF {x n:Int} (hn:Qa1 x n=true) (h:Qa1 (kidL x) n=true):kidR x≠kidL x:=by
  have h1:=QaF QhR hn
  have h2:=Qcu h
  simp only [Bool.or_eq_true,decide_eq_true_eq] at h1
  rcases h1 with h1 | h1
  · omega
  · exact h1
theorem Qkj (x : Int) (hi:i64 x) (W:World):Calls Tryd.prog 16 #[.int .i64 x] W (Ret W (.tuple #[.int .i64 (kidL x),.int .i64 (kidR x)])):=quiet (rchildren x hi W)
end Go.Proofs.YthfkppjajmjpnaaDoor.Te
end
section
namespace Go.Proofs.YthfkppjajmjpnaaDoor.Te
open Go Go.RowKit
open Rely Auto Own Seat Wk Sha
theorem Qls {n : Nat} (h:n≤1000000000):IntKind.u64.wrap ((n:Nat):Int)=((n:Nat):Int):=by
  have:IntKind.u64.wrap ((n:Nat):Int)=((n:Nat):Int)%2^64:=rfl
  rw [this]; omega
theorem Qiv (k : Int):∃ q:Nat,IntKind.u64.wrap k=((q:Nat):Int):=by
  have:IntKind.u64.wrap k=k%2^64:=rfl
  exact ⟨(k%2^64).toNat,by rw [this]; omega⟩
set_option maxRecDepth 100000 in
theorem QhM (ts : List NdV) (a_t:Option Addr) (c_t B1:Nat) (w:World) (ht:TrAt B1 w a_t ts) (hT:TabAt w) (hSh:ShT w) (k d:Int) (hs:¬ (∀ i,i<ts.length→i≤40∧(ndi ts i).n.ms.length≤50)):Calls Tryd.prog 7 #[.slice a_t ts.length c_t,.int .i64 k,.int .u8 d] w (Ret w (.bool true)):=by
  refine enter 103 [(0,.slice a_t ts.length c_t),(1,.int .i64 k),(2,.int .u8 d)] Tryd.func7 rfl rfl kj rfl ?_
  refine wp_seq_k fun K1 hK1=>?_
  refine Qab ?_
  refine Qaa (.bool false) 6 rfl kj kj ?_
  refine Qaf ?_
  refine hK1 _ _ ?_
  refine wp_seq_k fun K2 hK2=>?_
  refine wp_seq_k fun K3 hK3=>?_
  refine Qab ?_
  refine Qao (.bool true) 8 #[] 17 rfl kj kj (Qfi _ (TabAt.ext hT (Rely.Ext.refl w)) (ShT.ext hSh (Rely.Ext.refl w))) fun W1 e1=>?_
  have x1:Ext w W1:=Ext.tr (Rely.Ext.refl w) e1
  refine Qaa (.bool false) 18 rfl kj kj ?_
  refine Qaf ?_
  refine hK3 _ _ ?_
  refine cond_false kj ?_
  refine wp_skip ?_
  refine hK2 _ _ ?_
  refine wp_seq_k fun K4 hK4=>?_
  refine wp_seq_k fun K5 hK5=>?_
  refine Qab ?_
  refine Qaa (.slice a_t ts.length c_t) 19 rfl kj kj ?_
  refine Qao (.bool true) 9 #[.slice a_t ts.length c_t] 20 rfl kj kj (QhP ts a_t c_t _ _ (TrAt.ext ht x1) hs) fun W2 e2=>?_
  have x2:Ext w W2:=Ext.tr x1 e2
  refine Qaa (.bool true) 21 rfl kj kj ?_
  refine Qae 22 rfl kj ?_
  refine Qae 23 rfl kj ?_
  refine Qae 24 rfl kj ?_
  refine Qaa (.bool true) 25 rfl kj kj ?_
  refine Qaa (.bool true) 26 rfl kj kj ?_
  refine Qae 27 rfl kj ?_
  refine Qae 28 rfl kj ?_
  refine Qae 29 rfl kj ?_
  refine Qaa (.bool true) 30 rfl kj kj ?_
  refine Qaf ?_
  refine hK5 _ _ ?_
  refine cond_true kj ?_
  refine wp_seq_k fun K6 hK6=>?_
  refine Qab ?_
  refine Qaa (.bool true) 6 rfl kj kj ?_
  refine Qaf ?_
  refine hK6 _ _ ?_
  refine wp_ret ?_
  repeat (first | with_reducible refine goR1 ?_ | with_reducible refine goR2 ?_)
  exact (show bodyPost _ _ _ .ret _ _ from ret1 (.bool true) rfl (Qaq kj) ⟨rfl,x2⟩)
set_option maxRecDepth 100000 in
theorem QhO (ts : List NdV) (a_t:Option Addr) (c_t B1:Nat) (w:World) (ht:TrAt B1 w a_t ts) (hT:TabAt w) (hSh:ShT w) (k d:Int) (hs:∀ i,i<ts.length→i≤40∧(ndi ts i).n.ms.length≤50) (htl:ts.length≤100000) (hmt:∀ i,i<ts.length→(ndi ts i).n.ms.length≤50) (hc:chkT ts=false):Calls Tryd.prog 7 #[.slice a_t ts.length c_t,.int .i64 k,.int .u8 d] w (Ret w (.bool true)):=by
  refine enter 103 [(0,.slice a_t ts.length c_t),(1,.int .i64 k),(2,.int .u8 d)] Tryd.func7 rfl rfl kj rfl ?_
  refine wp_seq_k fun K1 hK1=>?_
  refine Qab ?_
  refine Qaa (.bool false) 6 rfl kj kj ?_
  refine Qaf ?_
  refine hK1 _ _ ?_
  refine wp_seq_k fun K2 hK2=>?_
  refine wp_seq_k fun K3 hK3=>?_
  refine Qab ?_
  refine Qao (.bool true) 8 #[] 17 rfl kj kj (Qfi _ (TabAt.ext hT (Rely.Ext.refl w)) (ShT.ext hSh (Rely.Ext.refl w))) fun W1 e1=>?_
  have x1:Ext w W1:=Ext.tr (Rely.Ext.refl w) e1
  refine Qaa (.bool false) 18 rfl kj kj ?_
  refine Qaf ?_
  refine hK3 _ _ ?_
  refine cond_false kj ?_
  refine wp_skip ?_
  refine hK2 _ _ ?_
  refine wp_seq_k fun K4 hK4=>?_
  refine wp_seq_k fun K5 hK5=>?_
  refine Qab ?_
  refine Qaa (.slice a_t ts.length c_t) 19 rfl kj kj ?_
  refine Qao (.bool false) 9 #[.slice a_t ts.length c_t] 20 rfl kj kj (Qek ts a_t c_t _ _ (TrAt.ext ht x1) hs) fun W2 e2=>?_
  have x2:Ext w W2:=Ext.tr x1 e2
  refine Qaa (.bool false) 21 rfl kj kj ?_
  refine Qaa (.slice a_t ts.length c_t) 22 rfl kj kj ?_
  refine Qao (.bool false) 12 #[.slice a_t ts.length c_t] 23 rfl kj kj (QkJ ts a_t c_t _ _ (TrAt.ext ht x2) htl (fun i hi=>qT (hmt i hi) (by decide)) false hc) fun W3 e3=>?_
  have x3:Ext w W3:=Ext.tr x2 e3
  refine Qaa (.bool true) 24 rfl kj kj ?_
  refine Qaa (.bool true) 25 rfl kj kj ?_
  refine Qaa (.bool true) 26 rfl kj kj ?_
  refine Qae 27 rfl kj ?_
  refine Qae 28 rfl kj ?_
  refine Qae 29 rfl kj ?_
  refine Qaa (.bool true) 30 rfl kj kj ?_
  refine Qaf ?_
  refine hK5 _ _ ?_
  refine cond_true kj ?_
  refine wp_seq_k fun K6 hK6=>?_
  refine Qab ?_
  refine Qaa (.bool true) 6 rfl kj kj ?_
  refine Qaf ?_
  refine hK6 _ _ ?_
  refine wp_ret ?_
  repeat (first | with_reducible refine goR1 ?_ | with_reducible refine goR2 ?_)
  exact (show bodyPost _ _ _ .ret _ _ from ret1 (.bool true) rfl (Qaq kj) ⟨rfl,x3⟩)
set_option maxRecDepth 100000 in
theorem QhN (ts : List NdV) (a_t:Option Addr) (c_t B1:Nat) (w:World) (ht:TrAt B1 w a_t ts) (hT:TabAt w) (hSh:ShT w) (k d:Int) (hs:∀ i,i<ts.length→i≤40∧(ndi ts i).n.ms.length≤50) (htl:ts.length≤100000) (hmt:∀ i,i<ts.length→(ndi ts i).n.ms.length≤50) (hc:chkT ts=true) (h3:ts.length<3):Calls Tryd.prog 7 #[.slice a_t ts.length c_t,.int .i64 k,.int .u8 d] w (Ret w (.bool true)):=by
  refine enter 103 [(0,.slice a_t ts.length c_t),(1,.int .i64 k),(2,.int .u8 d)] Tryd.func7 rfl rfl kj rfl ?_
  refine wp_seq_k fun K1 hK1=>?_
  refine Qab ?_
  refine Qaa (.bool false) 6 rfl kj kj ?_
  refine Qaf ?_
  refine hK1 _ _ ?_
  refine wp_seq_k fun K2 hK2=>?_
  refine wp_seq_k fun K3 hK3=>?_
  refine Qab ?_
  refine Qao (.bool true) 8 #[] 17 rfl kj kj (Qfi _ (TabAt.ext hT (Rely.Ext.refl w)) (ShT.ext hSh (Rely.Ext.refl w))) fun W1 e1=>?_
  have x1:Ext w W1:=Ext.tr (Rely.Ext.refl w) e1
  refine Qaa (.bool false) 18 rfl kj kj ?_
  refine Qaf ?_
  refine hK3 _ _ ?_
  refine cond_false kj ?_
  refine wp_skip ?_
  refine hK2 _ _ ?_
  refine wp_seq_k fun K4 hK4=>?_
  refine wp_seq_k fun K5 hK5=>?_
  refine Qab ?_
  refine Qaa (.slice a_t ts.length c_t) 19 rfl kj kj ?_
  refine Qao (.bool false) 9 #[.slice a_t ts.length c_t] 20 rfl kj kj (Qek ts a_t c_t _ _ (TrAt.ext ht x1) hs) fun W2 e2=>?_
  have x2:Ext w W2:=Ext.tr x1 e2
  refine Qaa (.bool false) 21 rfl kj kj ?_
  refine Qaa (.slice a_t ts.length c_t) 22 rfl kj kj ?_
  refine Qao (.bool true) 12 #[.slice a_t ts.length c_t] 23 rfl kj kj (QkJ ts a_t c_t _ _ (TrAt.ext ht x2) htl (fun i hi=>qT (hmt i hi) (by decide)) true hc) fun W3 e3=>?_
  have x3:Ext w W3:=Ext.tr x2 e3
  refine Qaa (.bool false) 24 rfl kj kj ?_
  refine Qaa (.bool false) 25 rfl kj kj ?_
  refine Qaa (.bool false) 26 rfl kj kj ?_
  refine Qaa (.slice a_t ts.length c_t) 27 rfl kj kj ?_
  refine Qaa (.int .i64 ((ts.length:Nat):Int)) 28 rfl kj kj ?_
  refine Qaa (.bool true) 29 rfl kj (Qai (u:=.bool (decide (((ts.length:Nat):Int)<3))) kj (congrArg Value.bool (decide_eq_true (by omega)))) ?_
  refine Qaa (.bool true) 30 rfl kj kj ?_
  refine Qaf ?_
  refine hK5 _ _ ?_
  refine cond_true kj ?_
  refine wp_seq_k fun K6 hK6=>?_
  refine Qab ?_
  refine Qaa (.bool true) 6 rfl kj kj ?_
  refine Qaf ?_
  refine hK6 _ _ ?_
  refine wp_ret ?_
  repeat (first | with_reducible refine goR1 ?_ | with_reducible refine goR2 ?_)
  exact (show bodyPost _ _ _ .ret _ _ from ret1 (.bool true) rfl (Qaq kj) ⟨rfl,x3⟩)
set_option maxRecDepth 100000 in
theorem QhL (ts : List NdV) (a_t:Option Addr) (c_t B1:Nat) (w:World) (ht:TrAt B1 w a_t ts) (hT:TabAt w) (hSh:ShT w) (k d:Int) (hs:∀ i,i<ts.length→i≤40∧(ndi ts i).n.ms.length≤50) (htl:ts.length≤100000) (hmt:∀ i,i<ts.length→(ndi ts i).n.ms.length≤50) (hc:chkT ts=true) (h3:3≤ts.length) (q x l r a b L:Nat) (hq:IntKind.u64.wrap k=((q:Nat):Int)) (hxq:x=1+2*(q%(ts.length/2))) (hx:x<ts.length) (hxo:x%2=1) (hl:l<ts.length) (hr:r<ts.length) (hne:((r:Nat):Int)≠((l:Nat):Int)) (hkid:∀ W,TabAt W→Calls Tryd.prog 36 #[.int .i64 ((x:Nat):Int)] W (Ret W (.tuple #[.int .i64 ((l:Nat):Int),.int .i64 ((r:Nat):Int)]))) (hrkid:∀ W,Calls Tryd.prog 16 #[.int .i64 ((x:Nat):Int)] W (Ret W (.tuple #[.int .i64 ((l:Nat):Int),.int .i64 ((r:Nat):Int)]))) (hlen:ts.length+1=2*L) (hTr:QaD ((L:Nat):Int)=true) (hLT:QcA ((ts.length:Nat):Int)=((L:Nat):Int)) (ha:(bel ((l:Nat):Int) ((L:Nat):Int)).1=((a:Nat):Int)) (hb:(bel ((l:Nat):Int) ((L:Nat):Int)).2=((b:Nat):Int)) (hab:a≤b) (hbL:b<L) (hdis:((b:Nat):Int)<(bel ((r:Nat):Int) ((L:Nat):Int)).1):Calls Tryd.prog 7 #[.slice a_t ts.length c_t,.int .i64 k,.int .u8 d] w (Ret w (.bool true)):=by
 refine enter 103 [(0,.slice a_t ts.length c_t),(1,.int .i64 k),(2,.int .u8 d)] Tryd.func7 rfl rfl kj rfl ?_
 refine wp_seq_k fun K1 hK1=>?_
 refine Qab ?_
 refine Qaa (.bool false) 6 rfl kj kj ?_
 refine Qaf ?_
 refine hK1 _ _ ?_
 refine wp_seq_k fun K2 hK2=>?_
 refine wp_seq_k fun K3 hK3=>?_
 refine Qab ?_
 refine Qao (.bool true) 8 #[] 17 rfl kj kj (Qfi _ (TabAt.ext hT (Rely.Ext.refl w)) (ShT.ext hSh (Rely.Ext.refl w))) fun W1 e1=>?_
 have x1:Ext w W1:=Ext.tr (Rely.Ext.refl w) e1
 refine Qaa (.bool false) 18 rfl kj kj ?_
 refine Qaf ?_
 refine hK3 _ _ ?_
 refine cond_false kj ?_
 refine wp_skip ?_
 refine hK2 _ _ ?_
 refine wp_seq_k fun K4 hK4=>?_
 refine wp_seq_k fun K5 hK5=>?_
 refine Qab ?_
 refine Qaa (.slice a_t ts.length c_t) 19 rfl kj kj ?_
 refine Qao (.bool false) 9 #[.slice a_t ts.length c_t] 20 rfl kj kj (Qek ts a_t c_t _ _ (TrAt.ext ht x1) hs) fun W2 e2=>?_
 have x2:Ext w W2:=Ext.tr x1 e2
 refine Qaa (.bool false) 21 rfl kj kj ?_
 refine Qaa (.slice a_t ts.length c_t) 22 rfl kj kj ?_
 refine Qao (.bool true) 12 #[.slice a_t ts.length c_t] 23 rfl kj kj (QkJ ts a_t c_t _ _ (TrAt.ext ht x2) htl (fun i hi=>qT (hmt i hi) (by decide)) true hc) fun W3 e3=>?_
 have x3:Ext w W3:=Ext.tr x2 e3
 refine Qaa (.bool false) 24 rfl kj kj ?_
 refine Qaa (.bool false) 25 rfl kj kj ?_
 refine Qaa (.bool false) 26 rfl kj kj ?_
 refine Qaa (.slice a_t ts.length c_t) 27 rfl kj kj ?_
 refine Qaa (.int .i64 ((ts.length:Nat):Int)) 28 rfl kj kj ?_
 refine Qaa (.bool false) 29 rfl kj (Qai (u:=.bool (decide (((ts.length:Nat):Int)<3))) kj (congrArg Value.bool (decide_eq_false (by omega)))) ?_
 refine Qaa (.bool false) 30 rfl kj kj ?_
 refine Qaf ?_
 refine hK5 _ _ ?_
 refine cond_false kj ?_
 refine wp_skip ?_
 refine hK4 _ _ ?_
 refine wp_seq_k fun K6 hK6=>?_
 refine Qab ?_
 refine Qaa (.int .i64 k) 31 rfl kj kj ?_
 refine Qaa (.int .u64 (((q:Nat):Int))) 32 rfl kj (Qai (u:=.int .u64 (IntKind.u64.wrap (k))) kj (congrArg (Value.int .u64) hq)) ?_
 refine Qaa (.slice a_t ts.length c_t) 33 rfl kj kj ?_
 refine Qaa (.int .i64 ((ts.length:Nat):Int)) 34 rfl kj kj ?_
 refine Qaa (.int .i64 ((ts.length/2:Nat):Int)) 35 rfl kj (Qai (u:=.int .i64 (IntKind.i64.wrap (Int.tdiv (((ts.length:Nat):Int)) (2)))) kj (congrArg (Value.int .i64) (Qb0 _ 2 (by omega)))) ?_
 refine Qaa (.int .u64 (((ts.length/2:Nat):Int))) 36 rfl kj (Qai (u:=.int .u64 (IntKind.u64.wrap ((ts.length/2:Nat):Int))) kj (congrArg (Value.int .u64) (Qls (by omega)))) ?_
 refine Qaa (.int .u64 ((q%(ts.length/2):Nat):Int)) 37 rfl kj (Qbe .rem _ _ _ _ .u64 .u64 _ _ _ rfl kj kj (Qm6 _ _ ((q:Nat):Int) ((ts.length/2:Nat):Int) ((q%(ts.length/2):Nat):Int) (by omega) (Int.ofNat_tmod ..).symm)) ?_
 refine Qaa (.int .i64 (((q%(ts.length/2):Nat):Int))) 38 rfl kj (Qai (u:=.int .i64 (IntKind.i64.wrap ((q%(ts.length/2):Nat):Int))) kj (congrArg (Value.int .i64) (IntWalk.i64_in _ (by have:=Nat.mod_lt q (show 0<ts.length/2 by omega); omega)))) ?_
 refine Qaa (.int .i64 (((2*(q%(ts.length/2)):Nat):Int))) 39 rfl kj (Qai (u:=.int .i64 (IntKind.i64.wrap (2*((q%(ts.length/2):Nat):Int)))) kj (congrArg (Value.int .i64) ((IntWalk.i64_in _ (by have:=Nat.mod_lt q (show 0<ts.length/2 by omega); omega)).trans (by omega)))) ?_
 refine Qaa (.int .i64 (((x:Nat):Int))) 40 rfl kj (Qai (u:=.int .i64 (IntKind.i64.wrap (1+((2*(q%(ts.length/2)):Nat):Int)))) kj (congrArg (Value.int .i64) ((IntWalk.i64_in _ (by have:=Nat.mod_lt q (show 0<ts.length/2 by omega); omega)).trans (by omega)))) ?_
 refine Qaa (.int .i64 (((x:Nat):Int))) 1 rfl kj kj ?_
 refine Qaf ?_
 refine hK6 _ _ ?_
 refine wp_seq_k fun K7 hK7=>?_
 refine Qab ?_
 refine Qaa (.int .i64 (((x:Nat):Int))) 42 rfl kj kj ?_
 refine Qao (.tuple #[.int .i64 ((l:Nat):Int),.int .i64 ((r:Nat):Int)]) 16 #[.int .i64 (((x:Nat):Int))] 43 rfl kj kj (hrkid _) fun W4 e4=>?_
 have x4:Ext w W4:=Ext.tr x3 e4
 refine Qaa (.tuple #[.int .i64 ((l:Nat):Int),.int .i64 ((r:Nat):Int)]) 41 rfl kj kj ?_
 refine Qaa (.int .i64 ((l:Nat):Int)) 44 rfl kj kj ?_
 refine Qaa (.int .i64 ((r:Nat):Int)) 45 rfl kj kj ?_
 refine Qaa (.int .i64 ((l:Nat):Int)) 7 rfl kj kj ?_
 refine Qaa (.int .i64 ((r:Nat):Int)) 8 rfl kj kj ?_
 refine Qaf ?_
 refine hK7 _ _ ?_
 refine wp_seq_k fun K8 hK8=>?_
 refine Qab ?_
 refine Qaa (.slice a_t ts.length c_t) 47 rfl kj kj ?_
 refine Qaa (.int .i64 (((x:Nat):Int))) 48 rfl kj kj ?_
 refine Qaa (.int .i64 ((l:Nat):Int)) 49 rfl kj kj ?_
 refine Qao (.tuple #[.agg (ints .u8 (mkN ts x r)),.bool true]) 15 #[.slice a_t ts.length c_t,.int .i64 (((x:Nat):Int)),.int .i64 ((l:Nat):Int)] 50 rfl kj kj (Qj2 ts a_t c_t B1 htl hmt _ (TrAt.ext ht x4) (TabAt.ext hT x4) (ShT.ext hSh x4) x hc hx l r hl hr hne hkid) fun W5 e5=>?_
 have x5:Ext w W5:=Ext.tr x4 e5
 refine Qaa (.tuple #[.agg (ints .u8 (mkN ts x r)),.bool true]) 46 rfl kj kj ?_
 refine Qaa (.agg (ints .u8 (mkN ts x r))) 51 rfl kj kj ?_
 refine Qaa (.bool true) 52 rfl kj kj ?_
 refine Qam (ints .u8 (List.replicate 32 0)) 28 9 rfl kj kj fun g9 W6 l9 e6 r9_6=>?_
 have x6:Ext w W6:=Ext.tr x5 e6
 have b9:w.heap.size≤g9:=qT x5.size l9
 refine Qau g9 _ (ints .u8 (mkN ts x r)) 28 r9_6 rfl kj (Qas 28 _ _ g9 28 _ _ r9_6 rfl kj kj (isz (n:=32) kj ((Qad _ _).trans (QbY ts x r))) (eqsz (n:=32) ((Qad _ _).trans (qZ (n:=32))) ((Qad _ _).trans (QbY ts x r))) (Qav _ _)) fun W7 p7 r9_7=>?_
 have x7:Ext w W7:=Puts.ext p7 x6 b9
 refine Qaa (.bool true) 10 rfl kj kj ?_
 refine Qaf ?_
 refine hK8 _ _ ?_
 refine wp_seq_k fun K10 hK10=>?_
 refine Qab ?_
 refine Qaa (.slice a_t ts.length c_t) 53 rfl kj kj ?_
 refine Qa3 (fun v W'=>(fun v W9=>∃ us,AsC us ts∧OwT W7.heap.size us v W9) v W'∧Ext W7 W') 23 #[.slice a_t ts.length c_t] 54 rfl kj kj ((Ql4 ts a_t _ _ _ (TrAt.ext ht x7) htl (fun i hi=>qT (hmt i hi) (by decide))).mono (by rintro e w' ⟨v,rfl,e1,hv⟩; exact ⟨v,rfl,hv,e1⟩)) fun vv11 W8 hh11=>?_
 obtain ⟨hv11,e8⟩:=hh11
 have x8:Ext w W8:=Ext.tr x7 e8
 obtain ⟨us,has,hO⟩:=hv11
 obtain ⟨aD,cD,hvD⟩:=hO.slice
 subst hvD
 rw [has.1] at hO
 obtain ⟨gO,rfl⟩:=QiC hO has.1 (by omega)
 rw [has.1]
 refine Qaa (.slice (some ⟨gO,0,none⟩) ts.length cD) 11 rfl kj kj ?_
 refine Qaf ?_
 refine hK10 _ _ ?_
 refine wp_seq_k fun K13 hK13=>?_
 refine Qab ?_
 refine Qaa (.int .i64 ((l:Nat):Int)) 56 rfl kj kj ?_
 refine Qaa (.slice a_t ts.length c_t) 57 rfl kj kj ?_
 refine Qaa (.int .i64 ((ts.length:Nat):Int)) 58 rfl kj kj ?_
 refine Qao (.int .i64 ((L:Nat):Int)) 25 #[.int .i64 ((ts.length:Nat):Int)] 59 rfl kj kj (QdJ ((ts.length:Nat):Int) _ hLT _) fun W9 e9=>?_
 have x9:Ext w W9:=Ext.tr x8 e9
 refine Qao (.tuple #[.int .i64 ((a:Nat):Int),.int .i64 ((b:Nat):Int)]) 24 #[.int .i64 ((l:Nat):Int),.int .i64 ((L:Nat):Int)] 60 rfl kj kj (belN _ _ _ _ ha hb _) fun W10 e10=>?_
 have x10:Ext w W10:=Ext.tr x9 e10
 refine Qaa (.tuple #[.int .i64 ((a:Nat):Int),.int .i64 ((b:Nat):Int)]) 55 rfl kj kj ?_
 refine Qaa (.int .i64 ((a:Nat):Int)) 61 rfl kj kj ?_
 refine Qaa (.int .i64 ((b:Nat):Int)) 62 rfl kj kj ?_
 refine Qaa (.int .i64 ((a:Nat):Int)) 12 rfl kj kj ?_
 refine Qaa (.int .i64 ((b:Nat):Int)) 13 rfl kj kj ?_
 refine Qaf ?_
 refine hK13 _ _ ?_
 refine wp_seq_k fun K14 hK14=>?_
 refine wp_seq_k fun K15 hK15=>?_
 refine Qab ?_
 refine Qaa (.int .i64 ((a:Nat):Int)) 63 rfl kj kj ?_
 refine Qaa (.int .i64 ((a:Nat):Int)) 14 rfl kj kj ?_
 refine Qaf ?_
 refine hK15 _ _ ?_
 refine wp_block ?_
 have y0_1:Ext w W1:=(Rely.Ext.trans (Rely.Ext.refl w) e1)
 have y0_2:Ext w W2:=(Rely.Ext.trans y0_1 e2)
 have y0_3:Ext w W3:=(Rely.Ext.trans y0_2 e3)
 have y0_4:Ext w W4:=(Rely.Ext.trans y0_3 e4)
 have y0_5:Ext w W5:=(Rely.Ext.trans y0_4 e5)
 have y0_6:Ext w W6:=(Rely.Ext.trans y0_5 e6)
 have y0_7:Ext w W7:=(Puts.ext p7 y0_6 (qT y0_5.size l9))
 have y0_8:Ext w W8:=(Rely.Ext.trans y0_7 e8)
 have y0_9:Ext w W9:=(Rely.Ext.trans y0_8 e9)
 have y0_10:Ext w W10:=(Rely.Ext.trans y0_9 e10)
 have y8_9:Ext W8 W9:=(Rely.Ext.trans (Rely.Ext.refl W8) e9)
 have y8_10:Ext W8 W10:=(Rely.Ext.trans y8_9 e10)
 refine Qa2 (fun (s1:Nat×List NdV)=>[(0,.slice a_t ts.length c_t),(1,.int .i64 (((x:Nat):Int))),(2,.int .u8 d),(7,.int .i64 ((l:Nat):Int)),(8,.int .i64 ((r:Nat):Int)),(9,.pointer (some ⟨g9,0,none⟩)),(10,.bool true),(11,.slice (some ⟨gO,0,none⟩) ts.length cD),(13,.int .i64 ((b:Nat):Int)),(14,.int .i64 ((s1.1:Nat):Int))]) (fun (s1:Nat×List NdV) W=>(s1.1≤b+1)∧(a≤s1.1)∧(KeyB s1.2 ts a b)∧(OwT W7.heap.size s1.2 (.slice (some ⟨gO,0,none⟩) ts.length cD) W)∧(Below W7.heap.size W10 W)∧(Ext w W)) (fun (s1:Nat×List NdV)=>b+1-s1.1) (a,us) ⟨rfl,rfl,rfl,rfl,rfl,rfl,rfl,rfl,rfl,rfl,trivial⟩ ⟨(by omega),(qR _),(KeyB.of has),(OwH.ext hO y8_10),(RowKit.Below.refl _ W10),x10⟩ fun s1 X1 V1 hI1=>?_
 obtain ⟨i,vs⟩:=s1
 obtain ⟨hi,hai,hV,hOV,kk1,xx1⟩:=hI1
 replace hi:i≤b+1:=hi
 replace hai:a≤i:=hai
 replace hV:KeyB vs ts a b:=hV
 replace hOV:OwT W7.heap.size vs (.slice (some ⟨gO,0,none⟩) ts.length cD) V1:=hOV
 replace kk1:Below W7.heap.size W10 V1:=kk1
 replace xx1:Ext w V1:=xx1
 have l11:=kk1
 refine wp_seq_k fun K16 hK16=>?_
 refine wp_seq_k fun K17 hK17=>?_
 refine Qab ?_
 refine Qaa (.int .i64 ((i:Nat):Int)) 64 rfl kj kj ?_
 refine Qaa (.int .i64 ((b:Nat):Int)) 65 rfl kj kj ?_
 refine Qaa (.bool (decide (((i:Nat):Int)≤((b:Nat):Int)))) 66 rfl kj kj ?_
 refine Qaf ?_
 refine hK17 _ _ ?_
 refine Qar (t:=decide (((i:Nat):Int)≤((b:Nat):Int))) kj (fun c18=>?_) (fun c18=>?_)
 ·skip
  have hib:i≤b:=by have:=of_decide_eq_true c18; omega
  refine wp_skip ?_
  refine hK16 _ _ ?_
  refine wp_seq_k fun K19 hK19=>?_
  refine wp_block ?_
  refine wp_seq_k fun K20 hK20=>?_
  have h2i:2*i<ts.length:=by omega
  rcases (show (ndi vs (2*i)).n.us=true∨(ndi vs (2*i)).n.us=false from by cases (ndi vs (2*i)).n.us; exact .inr rfl; exact .inl rfl) with hqu | hqu
  ·skip
   refine Qab ?_
   refine Qaa (.slice (some ⟨gO,0,none⟩) ts.length cD) 69 rfl kj kj ?_
   refine Qaa (.int .i64 ((i:Nat):Int)) 70 rfl kj kj ?_
   refine Qaa (.int .i64 (((2*i:Nat):Int))) 71 rfl kj (Qai (u:=.int .i64 (IntKind.i64.wrap (2*((i:Nat):Int)))) kj (congrArg (Value.int .i64) ((IntWalk.i64_in _ (by omega)).trans (by omega)))) ?_
   refine Qaa (.pointer (some ⟨gO,0+(2*i)*99,none⟩)) 72 rfl kj (QbW 23 _ _ .i64 (2*i) gO 0 ts.length cD 50 99 rfl kj kj kj kj (by omega)) ?_
   refine Qaa (.pointer (some ⟨gO,0+(2*i)*99,none⟩)) 73 rfl kj kj ?_
   refine Qaa (.bool true) 74 rfl kj (Qak 4 _ _ (.bool true) ((NdAt.at3 (OwH.node hV.len hOV h2i)).1.trans (congrArg (fun z=>some (Value.bool z)) hqu)) rfl kj kj) ?_
   refine Qaf ?_
   refine hK20 _ _ ?_
   refine cond_true kj ?_
   obtain ⟨hbO,cur,rV,hcell⟩:=OwH.rowK hV.len hOV h2i
   refine Wm.region_walkM (fun W'=>W'.heap[gO]? = some (.cells cur 50)) 12 kj fun W12 e12=>⟨Qag rV e12,?_⟩
   have x12:Ext w W12:=Ext.tr xx1 e12
   refine Wm.wm_val 0 (.slice (some ⟨gO,0,none⟩) ts.length cD) 75 rfl rfl kj kj (by decide) kj (fun _ _ _ h=>h) (fun W hR=>kj) ?_
   refine Wm.wm_val 1 (.int .i64 ((i:Nat):Int)) 76 rfl rfl kj kj (by decide) kj (fun _ _ _ h=>h) (fun W hR=>kj) ?_
   refine Wm.wm_val 2 (.int .i64 ((2*i:Nat):Int)) 77 rfl rfl kj kj (by decide) kj (fun _ _ _ h=>h) (fun W hR=>(Qai (u:=.int .i64 (IntKind.i64.wrap (2*((i:Nat):Int)))) kj (congrArg (Value.int .i64) ((IntWalk.i64_in _ (by omega)).trans (by omega))))) ?_
   refine Wm.wm_val 3 (.pointer (some ⟨gO,0+(2*i)*99,none⟩)) 78 rfl rfl kj kj (by decide) kj (fun _ _ _ h=>h) (fun W hR=>(QbW 23 _ _ .i64 (2*i) gO 0 ts.length cD 50 99 rfl kj kj kj kj (by omega))) ?_
   refine Wm.wm_val 4 (.pointer (some ⟨gO,0+(2*i)*99+2,none⟩)) 79 rfl rfl kj kj (by decide) kj (fun _ _ _ h=>h) (fun W hR=>kj) ?_
   refine Wm.wm_val 5 (.pointer (some ⟨gO,0+(2*i)*99+2+3*1,none⟩)) 80 rfl rfl kj kj (by decide) kj (fun _ _ _ h=>h) (fun W hR=>kj) ?_
   refine Wm.wm_val 6 (.int .u8 (nth (ndi vs (2*i)).n.key 3)) 81 rfl rfl kj kj (by decide) kj (fun _ _ _ h=>h) (fun W hR=>(Qak 5 _ _ (.int .u8 (nth (ndi vs (2*i)).n.key 3)) (hcell _ hR) rfl kj kj)) ?_
   refine Wm.wm_val 7 (.int .u8 d) 82 rfl rfl kj kj (by decide) kj (fun _ _ _ h=>h) (fun W hR=>kj) ?_
   refine Wm.wm_val 8 (.int .u8 (xorb d (nth (ndi vs (2*i)).n.key 3))) 83 rfl rfl kj kj (by decide) kj (fun _ _ _ h=>h) (fun W hR=>kj) ?_
   refine QgV 9 (.pointer (some ⟨gO,0+(2*i)*99,none⟩)) 84 kj rfl rfl kj (QbW 23 _ _ .i64 (2*i) gO 0 ts.length cD 50 99 rfl kj kj kj kj (by omega)) (Qag rV e12) ?_
   refine QgV 10 (.pointer (some ⟨gO,0+(2*i)*99+2,none⟩)) 85 kj rfl rfl kj kj (Qag rV e12) ?_
   refine QgV 11 (.pointer (some ⟨gO,0+(2*i)*99+2+3*1,none⟩)) 86 kj rfl rfl kj kj (Qag rV e12) ?_
   refine Qis (i:=2*i) (v:=(xorb d (nth (ndi vs (2*i)).n.key 3))) 5 _ _ hV.len (OwH.ext hOV e12) h2i (QgU _ _) kj kj rfl rfl kj kj kj rfl kj fun W13 p13 hOV2=>?_
   have hV2:=hV.step (xorb d (nth (ndi vs (2*i)).n.key 3)) hai hib h2i hqu
   have x13:Ext w W13:=Puts.ext p13 x12 (qT x7.size hbO)
   refine hK19 _ _ ?_
   refine Qab ?_
   refine Qaa (.int .i64 ((i:Nat):Int)) 67 rfl kj kj ?_
   refine Qaa (.int .i64 ((i+1:Nat):Int)) 68 rfl kj (Qai (u:=.int .i64 (IntKind.i64.wrap (((i:Nat):Int)+1))) kj (congrArg (Value.int .i64) (i64n _ _ (by omega) (by omega)))) ?_
   refine Qaa (.int .i64 ((i+1:Nat):Int)) 14 rfl kj kj ?_
   refine Qaf ?_
   have y7_8:Ext W7 W8:=(Rely.Ext.trans (Rely.Ext.refl W7) e8)
   have y7_9:Ext W7 W9:=(Rely.Ext.trans y7_8 e9)
   have y7_10:Ext W7 W10:=(Rely.Ext.trans y7_9 e10)
   have y7_11:Ext W7 V1:=(Ext.low y7_10 l11 (Rely.Ext.refl W7).size)
   repeat (first | with_reducible refine goX1 ?_ | with_reducible refine goX2 ?_ | with_reducible refine goX3 ?_)
   exact Qat ((i+1),(kyS vs (2*i) (xorb d (nth (ndi vs (2*i)).n.key 3)))) ⟨rfl,rfl,rfl,rfl,rfl,rfl,rfl,rfl,rfl,rfl,trivial⟩ ⟨(by omega),(by omega),hV2,hOV2,(Qdu p13 (RowKit.Below.trans l11 (RowKit.Below.mono e12 y7_11.size)) hbO),x13⟩ (by show b+1-(i+1)<b+1-i; omega)
  ·skip
   refine Qab ?_
   refine Qaa (.slice (some ⟨gO,0,none⟩) ts.length cD) 69 rfl kj kj ?_
   refine Qaa (.int .i64 ((i:Nat):Int)) 70 rfl kj kj ?_
   refine Qaa (.int .i64 (((2*i:Nat):Int))) 71 rfl kj (Qai (u:=.int .i64 (IntKind.i64.wrap (2*((i:Nat):Int)))) kj (congrArg (Value.int .i64) ((IntWalk.i64_in _ (by omega)).trans (by omega)))) ?_
   refine Qaa (.pointer (some ⟨gO,0+(2*i)*99,none⟩)) 72 rfl kj (QbW 23 _ _ .i64 (2*i) gO 0 ts.length cD 50 99 rfl kj kj kj kj (by omega)) ?_
   refine Qaa (.pointer (some ⟨gO,0+(2*i)*99,none⟩)) 73 rfl kj kj ?_
   refine Qaa (.bool false) 74 rfl kj (Qak 4 _ _ (.bool false) ((NdAt.at3 (OwH.node hV.len hOV h2i)).1.trans (congrArg (fun z=>some (Value.bool z)) hqu)) rfl kj kj) ?_
   refine Qaf ?_
   refine hK20 _ _ ?_
   refine cond_false kj ?_
   refine wp_skip ?_
   refine hK19 _ _ ?_
   refine Qab ?_
   refine Qaa (.int .i64 ((i:Nat):Int)) 67 rfl kj kj ?_
   refine Qaa (.int .i64 ((i+1:Nat):Int)) 68 rfl kj (Qai (u:=.int .i64 (IntKind.i64.wrap (((i:Nat):Int)+1))) kj (congrArg (Value.int .i64) (i64n _ _ (by omega) (by omega)))) ?_
   refine Qaa (.int .i64 ((i+1:Nat):Int)) 14 rfl kj kj ?_
   refine Qaf ?_
   repeat (first | with_reducible refine goX1 ?_ | with_reducible refine goX2 ?_ | with_reducible refine goX3 ?_)
   exact Qat ((i+1),vs) ⟨rfl,rfl,rfl,rfl,rfl,rfl,rfl,rfl,rfl,rfl,trivial⟩ ⟨(by omega),(by omega),hV,hOV,l11,xx1⟩ (by show b+1-(i+1)<b+1-i; omega)
 ·skip
  have hib:b<i:=by have:=of_decide_eq_false c18; omega
  refine wp_exit ?_
  refine hK14 _ _ ?_
  refine wp_seq_k fun K21 hK21=>?_
  refine Qab ?_
  refine Qaa (.slice (some ⟨gO,0,none⟩) ts.length cD) 88 rfl kj kj ?_
  refine Qaa (.int .i64 (((x:Nat):Int))) 89 rfl kj kj ?_
  refine Qaa (.int .i64 ((l:Nat):Int)) 90 rfl kj kj ?_
  have hcv:=hV.chk htl hc
  have hml9:∀ i,i<vs.length→(ndi vs i).n.ms.length≤50:=fun j hj=>by have h8:=hV.len; rw [hV.ms j (by omega)]; exact hmt j (by omega)
  have htv:=OwH.tr (show OwT _ vs (.slice (some ⟨gO,0,none⟩) vs.length cD) _ by rw [hV.len]; exact (OwH.ext hOV (Rely.Ext.refl V1)))
  have hmm:mkN ts x r=mkN vs x r:=(hV.mark hTr hlen hx hxo hr hdis).symm
  refine Qao (.tuple #[.agg (ints .u8 (mkN vs x r)),.bool true]) 15 #[.slice (some ⟨gO,0,none⟩) ts.length cD,.int .i64 (((x:Nat):Int)),.int .i64 ((l:Nat):Int)] 91 rfl kj kj ((by have h9:=Qj2 vs (some ⟨gO,0,none⟩) cD _ (by rw [hV.len]; exact htl) hml9 _ (TrAt.ext htv (Rely.Ext.refl V1)) (TabAt.ext hT xx1) (ShT.ext hSh xx1) x hcv (by rw [hV.len]; exact hx) l r (by rw [hV.len]; exact hl) (by rw [hV.len]; exact hr) hne hkid; rw [hV.len] at h9; exact h9)) fun W12 e12=>?_
  have x12:Ext w W12:=Ext.tr xx1 e12
  refine Qaa (.tuple #[.agg (ints .u8 (mkN vs x r)),.bool true]) 87 rfl kj kj ?_
  refine Qaa (.agg (ints .u8 (mkN vs x r))) 92 rfl kj kj ?_
  refine Qaa (.bool true) 93 rfl kj kj ?_
  refine Qam (ints .u8 (List.replicate 32 0)) 28 15 rfl kj kj fun g22 W13 l22 e13 r22_13=>?_
  have x13:Ext w W13:=Ext.tr x12 e13
  have b22:w.heap.size≤g22:=qT x12.size l22
  refine Qau g22 _ (ints .u8 (mkN vs x r)) 28 r22_13 rfl kj (Qas 28 _ _ g22 28 _ _ r22_13 rfl kj kj (isz (n:=32) kj ((Qad _ _).trans (QbY vs x r))) (eqsz (n:=32) ((Qad _ _).trans (qZ (n:=32))) ((Qad _ _).trans (QbY vs x r))) (Qav _ _)) fun W14 p14 r22_14=>?_
  have x14:Ext w W14:=Puts.ext p14 x13 b22
  refine Qaa (.bool true) 16 rfl kj kj ?_
  refine Qaf ?_
  refine hK21 _ _ ?_
  refine wp_seq_k fun K23 hK23=>?_
  refine Qab ?_
  refine Qaa (.bool true) 94 rfl kj kj ?_
  refine Qaa (.bool true) 95 rfl kj kj ?_
  refine Qaa (.bool true) 96 rfl kj kj ?_
  refine Qaa (.bool true) 97 rfl kj kj ?_
  refine Qaa (.bool true) 98 rfl kj kj ?_
  have r9_8:=(Qag r9_7 e8)
  have r9_9:=(Qag r9_8 e9)
  have r9_10:=(Qag r9_9 e10)
  have r9_11:=(Qbu l11 r9_10 (Qa5 r9_7))
  have r9_12:=(Qag r9_11 e12)
  have r9_13:=(Qag r9_12 e13)
  have r9_14:=(Puts.row p14 r9_13 (Qaw r9_12 l22))
  refine Qaa (.agg (ints .u8 (mkN ts x r))) 99 rfl kj (Qa8 28 _ g9 28 _ _ r9_14 rfl kj kj (isz (n:=32) kj ((Qad _ _).trans (QbY ts x r)))) ?_
  refine Qaa (.agg (ints .u8 (mkN vs x r))) 100 rfl kj (Qa8 28 _ g22 28 _ _ r22_14 rfl kj kj (isz (n:=32) kj ((Qad _ _).trans (QbY vs x r)))) ?_
  refine Qaa (.bool true) 101 rfl kj (QaC 28 _ _ _ _ _ (.bool true) rfl kj kj kj (QaN 28 (e:=5) (k:=.u8) (mkN ts x r) (mkN vs x r) (decide_eq_true hmm) (QbY ts x r) (QbY vs x r) kj kj kj _)) ?_
  refine Qaa (.bool true) 102 rfl kj kj ?_
  refine Qaa (.bool true) 6 rfl kj kj ?_
  refine Qaf ?_
  refine hK23 _ _ ?_
  refine wp_ret ?_
  repeat (first | with_reducible refine goR1 ?_ | with_reducible refine goR2 ?_)
  exact (show bodyPost _ _ _ .ret _ _ from ret1 (.bool true) rfl (Qaq kj) ⟨rfl,x14⟩)
theorem lawKeeps (ts : List NdV) (a_t:Option Addr) (c_t B1:Nat) (w:World) (ht:TrAt B1 w a_t ts) (hT:TabAt w) (hSh:ShT w) (k d:Int):Calls Tryd.prog 7 #[.slice a_t ts.length c_t,.int .i64 k,.int .u8 d] w (Ret w (.bool true)):=by
  by_cases hs:∀ i,i<ts.length→i≤40∧(ndi ts i).n.ms.length≤50
  · have h41:=sm15 hs
    have hmt:∀ i,i<ts.length→(ndi ts i).n.ms.length≤50:=fun i hi=>(hs i hi).2
    cases hc:chkT ts with
    | false=>exact QhO ts a_t c_t B1 w ht hT hSh k d hs (by omega) hmt hc
    | true =>
      by_cases h3:ts.length<3
      · exact QhN ts a_t c_t B1 w ht hT hSh k d hs (by omega) hmt hc h3
      obtain ⟨q,hq⟩:=Qiv k
      obtain ⟨x,hxq⟩:∃ x,x=1+2*(q%(ts.length/2)):=⟨_,rfl⟩
      have hqm:=Nat.mod_lt q (show 0<ts.length/2 by omega)
      obtain ⟨L,f,-⟩:=Qca (by omega) hc
      have hlen:=f.len
      have hTr:=f.tr
      have hn:=QaT hTr (x:=x) (by omega)
      have hi:i64 ((x:Nat):Int):=⟨by omega,by omega⟩
      rcases QcB hn with ⟨-,⟨q0,q1⟩ | ⟨q2,q3,q4,q5⟩⟩
      · have h9:=Qgx hn q0; omega
      · obtain ⟨l,hl0⟩:=Int.eq_ofNat_of_zero_le (Qcu q2)
        obtain ⟨r,hr0⟩:=Int.eq_ofNat_of_zero_le (Qcu q3)
        have hll:=Qc6 q2
        have hrl:=Qc6 q3
        have hne:=QkF hn q2
        have hbk:=QaF Qg0 hn
        simp only [Bool.or_eq_true,Bool.and_eq_true,decide_eq_true_eq] at hbk
        have hbn:=QbS q2
        have hbe:=Qmb q2
        rw [hl0,hr0] at hne hbk
        rw [hl0] at hbn hbe
        have hdis:=(hbk.resolve_left (by omega)).2
        obtain ⟨a,ha⟩:=Int.eq_ofNat_of_zero_le hbn.1
        obtain ⟨b,hb⟩:=Int.eq_ofNat_of_zero_le (show 0≤(bel ((l:Nat):Int) ((L:Nat):Int)).2 by omega)
        rw [ha,hb] at hbe
        rw [hb] at hbn hdis
        exact QhL ts a_t c_t B1 w ht hT hSh k d hs (by omega) hmt hc (by omega) q x l r a b L hq hxq (by omega) (by omega) (by omega) (by omega) hne (fun W h=>by have h9:=QlM _ hi W h; rw [hl0,hr0] at h9; exact h9) (fun W=>by have h9:=Qkj _ hi W; rw [hl0,hr0] at h9; exact h9) hlen hTr (QcK (by omega) (Qeh f)) ha hb (by omega) (by omega) hdis
  · exact QhM ts a_t c_t B1 w ht hT hSh k d hs
end Go.Proofs.YthfkppjajmjpnaaDoor.Te
end
section
namespace Go.Proofs.YthfkppjajmjpnaaDoor.Auto
open Go Go.RowKit Go.WideShapes
open Rely
section
variable {H : Type} {enc : TypeId × Value → H} {P : Program} {W w : World} {r : Reach} {base b0 : Nat} {sp : Nat → Bool} {held : Bool}
theorem open_raw {n : Nat} {t e:TypeId} {cs:List Value} {fuel:Nat} {x:DataW H×List MemPlace} (ht:P.underlying t=some (.array n e)) (he:P.underlying e=some (.int .u8)) (hce:P.cellsOf e=1) (hct:P.cellsOf t=n)
    (hf:DataW.trod enc P w b0 sp held fuel t cs=some x):∃ xs:List Int,cs=xs.map (Value.int .u8)∧xs.length=n∧Qay xs:=by
  obtain ⟨xs,m,-,-,hl,hn,hx⟩:=DataW.trod_array ht hf
  have hcs:cs.length=n:=by simpa [hct] using hl
  have each:∀ i,i<n→∃ z:Int,cs[i]? = some (.int .u8 z)∧(0≤z∧z≤255):=by
    intro i hi
    have h1:=hx i hi
    rw [hce,Nat.mul_one] at h1
    have hlt:i<cs.length:=by omega
    have h2:cs.drop i=cs[i]::cs.drop (i+1):=List.drop_eq_getElem_cons hlt
    have h1:DataW.trod enc P w b0 sp held m e ((cs.drop i).take 1)=xs[i]?:=h1
    rw [h2] at h1
    simp only [List.take_succ_cons,List.take_zero] at h1
    obtain ⟨y,hy⟩:∃ y,xs[i]? = some y:=⟨xs[i],by simp [hn,hi]⟩
    rw [hy] at h1
    obtain ⟨z,hc,-,hw⟩:=DataW.trod_int he h1
    refine ⟨z,?_,?_⟩
    · rw [List.getElem?_eq_getElem hlt]
      simp only [List.cons.injEq] at hc
      rw [hc.1]
    · simpa [Lit.wf,IntKind.min,IntKind.max,IntKind.signed,IntKind.bits] using hw
  have all:∀ (l:List Value),(∀ i,i<l.length→∃ z:Int,l[i]? = some (.int .u8 z)∧(0≤z∧z≤255))→∃ zs:List Int,l=zs.map (Value.int .u8)∧Qay zs:=by
    intro l
    induction l with
    | nil=>exact fun _=>⟨[],rfl,fun x hx=>by simp at hx⟩
    | cons a l ih =>
      intro h
      obtain ⟨zs,h1,h2⟩:=ih fun i hi=>by simpa using h (i+1) (by simp; omega)
      obtain ⟨z,h3,h4⟩:=h 0 (by simp)
      simp only [List.getElem?_cons_zero,Option.some.injEq] at h3
      refine ⟨z::zs,by rw [h3,h1]; rfl,fun x hx=>?_⟩
      rcases List.mem_cons.1 hx with e | e
      · rw [e]; exact h4
      · exact h2 x e
  obtain ⟨zs,h1,h2⟩:=all cs fun i hi=>each i (by omega)
  exact ⟨zs,h1,by rw [←hcs,h1,List.length_map],h2⟩
end
end Go.Proofs.YthfkppjajmjpnaaDoor.Auto
end
section
namespace Go.Proofs.YthfkppjajmjpnaaDoor.Auto
open Go Go.RowKit Go.WideShapes
open Rely
section
variable {H : Type} {enc : TypeId × Value → H} {P : Program} {W w : World} {r : Reach} {base b0 : Nat} {sp : Nat → Bool} {held : Bool}
theorem Qix {t : TypeId} {f0 f1 f2 f3 f4 f5:Field} {fuel:Nat} {cs:List Value} {x:DataW H×List MemPlace} (ht:P.underlying t=some (.struct #[f0,f1,f2,f3,f4,f5])) (h:DataW.trod enc P w b0 sp held fuel t cs=some x) :
    ∃ y0 y1 y2 y3 y4 y5 n,cs.length=P.cellsOf t∧DataW.trod enc P w b0 sp held n f0.type ((cs.drop f0.offset).take (P.cellsOf f0.type))=some y0∧DataW.trod enc P w b0 sp held n f1.type ((cs.drop f1.offset).take (P.cellsOf f1.type))=some y1∧DataW.trod enc P w b0 sp held n f2.type ((cs.drop f2.offset).take (P.cellsOf f2.type))=some y2∧DataW.trod enc P w b0 sp held n f3.type ((cs.drop f3.offset).take (P.cellsOf f3.type))=some y3∧DataW.trod enc P w b0 sp held n f4.type ((cs.drop f4.offset).take (P.cellsOf f4.type))=some y4∧DataW.trod enc P w b0 sp held n f5.type ((cs.drop f5.offset).take (P.cellsOf f5.type))=some y5:=by
  obtain ⟨xs,n,_,rfl,hl,hlen,hf⟩:=DataW.trod_struct ht h
  match xs,hlen with
  | [y0,y1,y2,y3,y4,y5],_=>exact ⟨y0,y1,y2,y3,y4,y5,n,hl,by simpa using hf 0 f0 rfl,by simpa using hf 1 f1 rfl,by simpa using hf 2 f2 rfl,by simpa using hf 3 f3 rfl,by simpa using hf 4 f4 rfl,by simpa using hf 5 f5 rfl⟩
theorem sub_st6 {t : TypeId} {f0 f1 f2 f3 f4 f5:Field} {fuel:Nat} {cs:List Value} {x:DataW H×List MemPlace} {n0 n1 n2 n3 n4 n5:Nat} (ht:P.underlying t=some (.struct #[f0,f1,f2,f3,f4,f5]))
    (ho:f0.offset=0∧f1.offset=n0∧f2.offset=n0+n1∧f3.offset=n0+n1+n2∧f4.offset=n0+n1+n2+n3∧f5.offset=n0+n1+n2+n3+n4) (hc:P.cellsOf f0.type=n0∧P.cellsOf f1.type=n1∧P.cellsOf f2.type=n2∧P.cellsOf f3.type=n3∧P.cellsOf f4.type=n4∧P.cellsOf f5.type=n5) (hC:P.cellsOf t=n0+n1+n2+n3+n4+n5) (h:DataW.trod enc P w b0 sp held fuel t cs=some x) :
    ∃ (X0 X1 X2 X3 X4 X5:List Value) (y0 y1 y2 y3 y4 y5:DataW H×List MemPlace) (n:Nat),cs=X0++X1++X2++X3++X4++X5∧DataW.trod enc P w b0 sp held n f0.type X0=some y0∧DataW.trod enc P w b0 sp held n f1.type X1=some y1∧DataW.trod enc P w b0 sp held n f2.type X2=some y2∧DataW.trod enc P w b0 sp held n f3.type X3=some y3∧DataW.trod enc P w b0 sp held n f4.type X4=some y4∧DataW.trod enc P w b0 sp held n f5.type X5=some y5:=by
  obtain ⟨y0,y1,y2,y3,y4,y5,n,hl,h0,h1,h2,h3,h4,h5⟩:=Qix ht h
  obtain ⟨o0,o1,o2,o3,o4,o5⟩:=ho
  obtain ⟨c0,c1,c2,c3,c4,c5⟩:=hc
  rw [o0,c0] at h0
  rw [o1,c1] at h1
  rw [o2,c2] at h2
  rw [o3,c3] at h3
  rw [o4,c4] at h4
  rw [o5,c5] at h5
  refine ⟨_,_,_,_,_,_,y0,y1,y2,y3,y4,y5,n,?_,h0,h1,h2,h3,h4,h5⟩
  rw [hC] at hl
  simp only [List.drop_zero]
  have e1:cs.take (n0)++(cs.drop (n0)).take n1=cs.take (n0+n1):=by rw [List.take_add (i:=n0)]
  have e2:cs.take (n0+n1)++(cs.drop (n0+n1)).take n2=cs.take (n0+n1+n2):=by rw [List.take_add (i:=n0+n1)]
  have e3:cs.take (n0+n1+n2)++(cs.drop (n0+n1+n2)).take n3=cs.take (n0+n1+n2+n3):=by rw [List.take_add (i:=n0+n1+n2)]
  have e4:cs.take (n0+n1+n2+n3)++(cs.drop (n0+n1+n2+n3)).take n4=cs.take (n0+n1+n2+n3+n4):=by rw [List.take_add (i:=n0+n1+n2+n3)]
  have e5:cs.take (n0+n1+n2+n3+n4)++(cs.drop (n0+n1+n2+n3+n4)).take n5=cs.take (n0+n1+n2+n3+n4+n5):=by rw [List.take_add (i:=n0+n1+n2+n3+n4)]
  rw [e1,e2,e3,e4,e5,List.take_of_length_le (by omega)]
end
end Go.Proofs.YthfkppjajmjpnaaDoor.Auto
end
section
namespace Go.Proofs.YthfkppjajmjpnaaDoor.Auto
open Go Go.RowKit
open Rely
theorem Qel {P : Program} {w:World}:∀ (laid:List (String×DataW Unit)) (ps:List MemPlace) (n:String) (d:DataW Unit),DataW.LaidVars P w laid ps→(n,d)∈laid →
    ∃ g t cs fuel p,P.globalNamed n=some g∧(P.globals[g]?).map (·.type)=some t∧w.var? P n=some cs∧DataW.trod (fun _=>()) P w 0 (fun _=>true) false fuel t cs.toList=some (d,p)∧∀ x∈MemPlace.row ⟨g,0,none⟩ cs.size,x∈ps
  | [],_,_,_,_,h=>by cases h
  | (n0,d0)::r,ps,n,d,⟨g,t,cs,fuel,p,q,h1,h2,h3,h4,h5,h6⟩,h=>by
    subst h6
    rcases List.mem_cons.1 h with h | h
    · cases h
      exact ⟨g,t,cs,fuel,p,h1,h2,h3,h4,fun x hx=>List.mem_append_left _ (List.mem_append_left _ hx)⟩
    · obtain ⟨g',t',cs',fuel',p',a,b,c,e,f⟩:=Qel r q n d h5 h
      exact ⟨g',t',cs',fuel',p',a,b,c,e,fun x hx=>List.mem_append_right _ (f x hx)⟩
theorem Qfc {P : Program} {w:World} {laid:List (String×DataW Unit)} {n:String} {k:IntKind} {zs:List Int} {g:Nat} {t e:TypeId} {m:Nat} (h:laidMet P laid w) (hm:(n,Lib.tabData k zs)∈laid)
    (hg:P.globalNamed n=some g) (hty:(P.globals[g]?).map (·.type)=some t) (ht:P.underlying t=some (.array m e)) (he:P.underlying e=some (.int k)) (hce:P.cellsOf e=1) (hct:P.cellsOf t=m) (h0:0<zs.length) :
    ∃ t,w.heap[g]? = some (.cells (ints k zs) t):=by
  obtain ⟨ps,hL,-,hC⟩:=h
  obtain ⟨g',t',cs,fuel,p,hg',ht',hvar,hd,hin⟩:=Qel _ _ _ _ hL hm
  obtain rfl:=Option.some.inj (hg.symm.trans hg')
  obtain rfl:=Option.some.inj (hty.symm.trans ht')
  have hcs:=Lib.cells_of_tab ht he hce hct hd
  have hsz:0<cs.size:=by rw [←Array.length_toList,hcs,List.length_map]; exact h0
  obtain ⟨⟨c,t2,hc⟩,-⟩:=hC g 0 (hin _ (List.mem_map.2 ⟨0,List.mem_range.2 hsz,rfl⟩))
  unfold World.var? at hvar
  rw [hg] at hvar
  simp only [Option.bind_some,hc,Option.some.injEq] at hvar
  subst hvar
  refine ⟨t2,hc.trans ?_⟩
  rw [show c=ints k zs from by rw [ints,←hcs]]
end Go.Proofs.YthfkppjajmjpnaaDoor.Auto
end
section
namespace Go.Proofs.YthfkppjajmjpnaaDoor.Te
open Go Go.RowKit
open Rely Auto Own Sha
open Go.WideShapes Go.ChangeShapes Go.ChangeAt Go.Deep
open Go.Proofs.YthfkppjajmjpnaaDoor
section
variable {H : Type} {enc : TypeId × Value → H} {P : Program} {w : World} {b0 : Nat} {held : Bool}
theorem Qje (x : Addr) (i j:Nat):(x.add i).add j=x.add (i+j):=by
  by_cases hi:i=0 <;> by_cases hj:j=0 <;> simp [Addr.add,hi,hj,Nat.add_assoc]
theorem open_tree {t s e5 e3:TypeId} {f0 f1 f2 f3 f4 f5:Field} {ad:Option Addr} {len cap:Nat} {d:DataW H} {p:List MemPlace} (hs:P.underlying t=some (.slice s)) (hss:P.underlying s=some (.struct #[f0,f1,f2,f3,f4,f5]))
    (ho:f0.offset=0∧f1.offset=1∧f2.offset=1+1∧f3.offset=1+1+32∧f4.offset=1+1+32+32∧f5.offset=1+1+32+32+32) (hc:P.cellsOf f0.type=1∧P.cellsOf f1.type=1∧P.cellsOf f2.type=32∧P.cellsOf f3.type=32∧P.cellsOf f4.type=32∧P.cellsOf f5.type=1) (hC:P.cellsOf s=1+1+32+32+32+1)
    (h0:P.underlying f0.type=some .bool) (h1:P.underlying f1.type=some (.int .i64)) (h2:P.underlying f2.type=some (.array 32 e5)) (h3:P.underlying f3.type=some (.array 32 e5)) (h4:P.underlying f4.type=some (.array 32 e5)) (h5:P.underlying f5.type=some (.slice e3))
    (he5:P.underlying e5=some (.int .u8)) (hc5:P.cellsOf e5=1) (he3:P.underlying e3=some (.int .i64)) (hc3:P.cellsOf e3=1)
    (h:DataW.Trod enc P w b0 (fun _=>true) held t (.slice ad len cap) d p) :
    ∃ ts:List NdV,ts.length=len∧TrAt w.heap.size w ad ts∧∀ n∈ts,NdOk n.n:=by
  obtain ⟨fuel,hf⟩:=h
  rcases DataW.trod_slice hs hf with ⟨hcs',-⟩ | ⟨x,l,c,elems,rest,n,-,hcs',-,hb,hl,hmx,hlen,hel,-,-⟩
  · simp [Value.cells] at hcs'
    obtain ⟨rfl,rfl,rfl⟩:=hcs'
    exact ⟨[],rfl,⟨0,0,fun h=>absurd h (by decide),fun i hi=>absurd hi (Nat.not_lt_zero _)⟩,fun n hn=>by cases hn⟩
  · simp [Value.cells] at hcs'
    obtain ⟨rfl,rfl,rfl⟩:=hcs'
    have key:∀ i,i<len→∃ n:NdV,(∀ j u,(cat (ndP n))[j]? = some u→w.cell? (x.add (i*99+j))=some u)∧RdK .i64 w.heap.size n.n.ms (.slice n.a n.n.ms.length n.c) w∧NdOk n.n:=fun i hi=>by
      have h9:=hel i hi
      rw [hC,List.getElem?_eq_getElem (by omega)] at h9
      obtain ⟨cs,hc1,hc2⟩:=Option.bind_eq_some_iff.1 h9
      obtain ⟨hn,q1,q2⟩:=World.cells?_some hc1
      obtain ⟨X0,X1,X2,X3,X4,X5,y0,y1,y2,y3,y4,y5,m,hcs,t0,t1,t2,t3,t4,t5⟩:=Auto.sub_st6 hss ho hc hC hc2
      obtain ⟨us,rfl,-⟩:=DataW.trod_bool h0 t0
      obtain ⟨nm,rfl,-,-⟩:=DataW.trod_int h1 t1
      obtain ⟨key,rfl,hkl,hkb⟩:=Auto.open_raw h2 he5 hc5 hc.2.2.1 t2
      obtain ⟨sg,rfl,hgl,hgb⟩:=Auto.open_raw h3 he5 hc5 hc.2.2.2.1 t3
      obtain ⟨pa,rfl,hpl,hpb⟩:=Auto.open_raw h4 he5 hc5 hc.2.2.2.2.1 t4
      have fin:∀ (a:Option Addr) (ms:List Int) (c:Nat),X5=[.slice a ms.length c]→RdK .i64 w.heap.size ms (.slice a ms.length c) w→∃ n:NdV,(∀ j u,(cat (ndP n))[j]? = some u→w.cell? (x.add (i*99+j))=some u)∧RdK .i64 w.heap.size n.n.ms (.slice n.a n.n.ms.length n.c) w∧NdOk n.n:=fun a ms c e r=>by
        refine ⟨⟨⟨us,nm,key,sg,pa,ms⟩,a,c⟩,fun j u hu=>?_,r,⟨hkl,hgl,hpl,hkb,hgb,hpb⟩⟩
        have e9:(cat (ndP ⟨⟨us,nm,key,sg,pa,ms⟩,a,c⟩)).toList=cs:=by
          rw [hcs,e]
          unfold ndP
          simp [cat,Rely.ints]
        rw [←Array.getElem?_toList,e9] at hu
        have hj:j<99:=by have:=(List.getElem?_eq_some_iff.1 hu).1; omega
        have:=q2 j hj
        rw [Qje] at this
        rw [this]; exact hu
      rcases open_ints h5 he3 hc3 t5 with ⟨hcv,-⟩ | ⟨y,l,cc,zs,hcv,-,hl2,hm2,hz2,-,hcell,hwz⟩
      · exact fin none [] 0 hcv ⟨none,0,rfl,qR _,Nat.zero_le _,fun _=>rfl,.inl rfl⟩
      · obtain ⟨r,rl,rf⟩:=Auto.rdK_of_row (k:=.i64) (w:=w) (a:=some y) (len:=l) (cap:=cc) (zs:=zs) (.inr ⟨y,rfl,hl2,hm2,by simpa using hz2,hcell,hwz⟩)
        refine fin (some y) (zs.take l) cc (by rw [rl]; exact hcv) ?_
        rw [rl]; exact r
    rcases Nat.eq_zero_or_pos len with h0' | h0'
    · subst h0'
      exact ⟨[],rfl,⟨0,0,fun h=>absurd h (by decide),fun i hi=>absurd hi (Nat.not_lt_zero _)⟩,fun n hn=>by cases hn⟩
    obtain ⟨b,off,spot⟩:=x
    have first:∀ n:NdV,(cat (ndP n))[0]? = some (.bool n.n.us):=fun n=>by
      unfold ndP
      show (#[Value.bool n.n.us]++cat _)[0]? = _
      rw [Array.getElem?_append_left (show 0<1 by decide)]
      rfl
    obtain ⟨n0,hq,-⟩:=key 0 h0'
    have hq0:=hq 0 _ (first n0)
    have hspot:spot=none:=by simpa [Addr.add] using World.cell?_spot hq0
    subst hspot
    rw [WideShapes.add_plain] at hq0
    have hlt:b<w.heap.size:=QeD hq0
    have all:∀ m,m≤len→∃ ts:List NdV,ts.length=m∧∀ i,i<m→NdAt w.heap.size w b (off+i*99) (ndi ts i):=by
      intro m
      induction m with
      | zero=>exact fun _=>⟨[],rfl,fun i hi=>absurd hi (Nat.not_lt_zero _)⟩
      | succ m ih =>
        intro hm
        obtain ⟨ts,htl,hts⟩:=ih (by omega)
        obtain ⟨n,k1,k2,k3⟩:=key m (by omega)
        refine ⟨ts++[n],by rw [List.length_append,htl]; rfl,fun i hi=>?_⟩
        have e:ndi (ts++[n]) i=if i<m then ndi ts i else n:=by
          unfold ndi
          rw [List.getD_eq_getElem?_getD,List.getD_eq_getElem?_getD]
          split
          · rename_i h; rw [List.getElem?_append_left (by omega)]
          · rename_i h
            rw [List.getElem?_append_right (by omega),show i-ts.length=0 by omega]; rfl
        rw [e]
        split
        · rename_i h; exact hts i h
        · rename_i h
          obtain rfl:i=m:=by omega
          exact ⟨hlt,hlt,fun j u hu=>by have:=k1 j u hu; rw [WideShapes.add_plain] at this; rw [Nat.add_assoc]; exact this,k2,k3⟩
    obtain ⟨ts,htl,hts⟩:=all len (qR _)
    refine ⟨ts,htl,⟨b,off,fun _=>rfl,fun i hi=>hts i (by omega)⟩,fun n hn=>?_⟩
    obtain ⟨i,hi,e⟩:=List.mem_iff_getElem.1 hn
    have:=(hts i (by omega)).ok
    unfold ndi at this
    rw [List.getD_eq_getElem?_getD,List.getElem?_eq_getElem hi] at this
    rw [←e]; exact this
end
end Go.Proofs.YthfkppjajmjpnaaDoor.Te
end
