/- Texts of this claim, joined (MB5). -/
import Derived.Test.YthfkppjajmjpnaaDoorZMB4
import Derived.Lib.SmallJoins
import Derived.Lib.LaidTab
import Derived.Deep.Strs

set_option linter.unusedVariables false
set_option linter.unusedSimpArgs false
set_option maxHeartbeats 4000000
section
namespace Go.Proofs.YthfkppjajmjpnaaDoor.Te
open Go Go.RowKit
open Rely Auto Own Seat Wk Sha
theorem Qmd (ts : List NdV) (a_t:Option Addr) (c_t B1:Nat) (htl:ts.length≤100000) (hmt:∀ i,i<ts.length→(ndi ts i).n.ms.length≤50) (hc:chkT ts=false) (w:World) (ht:TrAt B1 w a_t ts) (hT:TabAt w):Calls Tryd.prog 18 #[.slice a_t ts.length c_t] w (Ret w (.bool false)):=by
  refine enter 45 [(0,.slice a_t ts.length c_t)] Tryd.func18 rfl rfl kj rfl ?_
  refine wp_seq_k fun K1 hK1=>?_
  refine Qab ?_
  refine Qaa (.bool false) 2 rfl kj kj ?_
  refine Qaf ?_
  refine hK1 _ _ ?_
  refine wp_seq_k fun K2 hK2=>?_
  refine wp_seq_k fun K3 hK3=>?_
  refine Qab ?_
  refine Qaa (.slice a_t ts.length c_t) 7 rfl kj kj ?_
  refine Qal (.iface 68 (.int .i64 3)) 26 #[.slice a_t ts.length c_t] 8 rfl kj kj (QhX ts a_t c_t _ _ (TrAt.ext ht (Rely.Ext.refl w)) htl (fun i hi=>qT (hmt i hi) (by decide)) (TabAt.ext hT (Rely.Ext.refl w)) hc) fun W1 e1=>?_
  have x1:Ext w W1:=Ext.tr (Rely.Ext.refl w) e1
  refine Qaa (.bool true) 9 rfl kj kj ?_
  refine Qaf ?_
  refine hK3 _ _ ?_
  refine cond_true kj ?_
  refine wp_seq_k fun K4 hK4=>?_
  refine Qab ?_
  refine Qaa (.bool false) 2 rfl kj kj ?_
  refine Qaf ?_
  refine hK4 _ _ ?_
  refine wp_ret ?_
  repeat (first | with_reducible refine goR1 ?_ | with_reducible refine goR2 ?_)
  exact (show bodyPost _ _ _ .ret _ _ from ret1 (.bool false) rfl (Qar kj) ⟨rfl,x1⟩)
set_option maxRecDepth 100000 in
theorem Qme (ts : List NdV) (a_t:Option Addr) (c_t B1:Nat) (htl:ts.length≤100000) (hmt:∀ i,i<ts.length→(ndi ts i).n.ms.length≤50) (hc:chkT ts=true) (h1:ts.length=1) (w:World) (ht:TrAt B1 w a_t ts) (hT:TabAt w):Calls Tryd.prog 18 #[.slice a_t ts.length c_t] w (Ret w (.bool true)):=by
 refine enter 45 [(0,.slice a_t ts.length c_t)] Tryd.func18 rfl rfl kj rfl ?_
 refine wp_seq_k fun K1 hK1=>?_
 refine Qab ?_
 refine Qaa (.bool false) 2 rfl kj kj ?_
 refine Qaf ?_
 refine hK1 _ _ ?_
 refine wp_seq_k fun K2 hK2=>?_
 refine wp_seq_k fun K3 hK3=>?_
 refine Qab ?_
 refine Qaa (.slice a_t ts.length c_t) 7 rfl kj kj ?_
 refine Qal (.nilIface) 26 #[.slice a_t ts.length c_t] 8 rfl kj kj (Qgx ts a_t c_t _ _ (TrAt.ext ht (Rely.Ext.refl w)) htl (fun i hi=>qT (hmt i hi) (by decide)) (TabAt.ext hT (Rely.Ext.refl w)) hc) fun W1 e1=>?_
 have x1:Ext w W1:=Ext.tr (Rely.Ext.refl w) e1
 refine Qaa (.bool false) 9 rfl kj kj ?_
 refine Qaf ?_
 refine hK3 _ _ ?_
 refine cond_false kj ?_
 refine wp_skip ?_
 refine hK2 _ _ ?_
 refine wp_seq_k fun K4 hK4=>?_
 refine wp_seq_k fun K5 hK5=>?_
 refine Qab ?_
 refine Qaa (.slice a_t ts.length c_t) 10 rfl kj kj ?_
 refine Qaa (.int .i64 ((ts.length:Nat):Int)) 11 rfl kj kj ?_
 refine Qaa (.int .i64 0) 12 rfl kj kj ?_
 refine Qaf ?_
 refine hK5 _ _ ?_
 refine wp_block ?_
 refine Qa3 (fun (s1:Nat)=>[(0,.slice a_t ts.length c_t),(10,.slice a_t ts.length c_t),(11,.int .i64 ((ts.length:Nat):Int)),(12,.int .i64 ((s1:Nat):Int))]) (fun (s1:Nat) W=>(s1≤ts.length)∧(Ext W1 W)∧(Ext w W)) (fun (s1:Nat)=>ts.length-s1) 0 ⟨rfl,rfl,rfl,rfl,trivial⟩ ⟨(Nat.zero_le _),(Rely.Ext.refl W1),x1⟩ fun s1 X1 V1 hI1=>?_
 obtain ⟨i,hs1⟩:∃ z,z=s1:=⟨_,rfl⟩
 subst hs1
 obtain ⟨hi,kk1,xx1⟩:=hI1
 replace hi:i≤ts.length:=hi
 replace kk1:Ext W1 V1:=kk1
 replace xx1:Ext w V1:=xx1
 have e2:=kk1
 refine wp_seq_k fun K6 hK6=>?_
 refine Qab ?_
 refine Qaa (.bool (decide (((i:Nat):Int)<((ts.length:Nat):Int)))) 13 rfl kj kj ?_
 refine Qaf ?_
 refine hK6 _ _ ?_
 refine wp_seq_k fun K7 hK7=>?_
 refine Qau (t:=decide (((i:Nat):Int)<((ts.length:Nat):Int))) kj (fun c8=>?_) (fun c8=>?_)
 ·skip
  have hlt13:i<ts.length:=by have:=of_decide_eq_true c8; omega
  refine wp_skip ?_
  refine hK7 _ _ ?_
  refine wp_seq_k fun K9 hK9=>?_
  refine wp_block ?_
  refine wp_seq_k fun K10 hK10=>?_
  refine Qab ?_
  refine Qaa (.int .i64 ((i:Nat):Int)) 14 rfl kj kj ?_
  obtain ⟨gtT,otT,hat,hnts⟩:=TrAt.ext ht xx1
  have hnt:=hnts i (by omega)
  obtain ⟨nt,ent⟩:∃ z,z=ndi ts i:=⟨_,rfl⟩
  rw [←ent] at hnt
  have okt:=hnt.ok
  have rdt:=hnt.rd
  refine Qaa (.pointer (some ⟨gtT,otT+i*99,none⟩)) 15 rfl kj (Qaq 23 _ _ .i64 i gtT otT ts.length c_t 50 99 a_t (hat (by omega)) rfl kj kj kj kj (by omega)) ?_
  refine Qaa (.agg (cat [#[.bool nt.n.us],#[.int .i64 nt.n.nm],ints .u8 (nt.n.key),ints .u8 (nt.n.sg),ints .u8 (nt.n.pa),#[.slice nt.a nt.n.ms.length nt.c]])) 16 rfl kj (QaK 50 _ gtT (otT+i*99) nt hnt rfl kj kj kj) ?_
  refine Qam (cat [#[.bool false],#[.int .i64 0],ints .u8 (List.replicate 32 0),ints .u8 (List.replicate 32 0),ints .u8 (List.replicate 32 0),#[.slice none 0 0]]) 50 4 rfl kj kj fun g11 W3 l11 e3 r11_3=>?_
  have x3:Ext w W3:=Ext.tr xx1 e3
  have b11:w.heap.size≤g11:=qT xx1.size l11
  refine Qaa (.int .i64 ((i:Nat):Int)) 3 rfl kj kj ?_
  refine Qas g11 _ (cat [#[.bool nt.n.us],#[.int .i64 nt.n.nm],ints .u8 (nt.n.key),ints .u8 (nt.n.sg),ints .u8 (nt.n.pa),#[.slice nt.a nt.n.ms.length nt.c]]) 50 r11_3 rfl kj (Qap 50 _ _ g11 50 _ _ r11_3 rfl kj kj (isz (n:=99) kj (by rw [Qac,Qac,Qac,Qac,Qac,Qac]; simp only [qS,cat,((Qae _ _).trans okt.gl),((Qae _ _).trans okt.kl),((Qae _ _).trans okt.pl)]; rfl)) (eqsz (n:=99) (by rw [Qac,Qac,Qac,Qac,Qac,Qac]; simp only [qS,cat,((Qae _ _).trans (qZ (n:=32)))]; rfl) (by rw [Qac,Qac,Qac,Qac,Qac,Qac]; simp only [qS,cat,((Qae _ _).trans okt.gl),((Qae _ _).trans okt.kl),((Qae _ _).trans okt.pl)]; rfl)) (Qbo _ (by intro a ha; simp only [List.mem_cons,List.not_mem_nil,or_false] at ha; rcases ha with rfl | rfl | rfl | rfl | rfl | rfl; exact (Qa5 _ rfl); exact (Qa5 _ rfl); exact (Qat _ _); exact (Qat _ _); exact (Qat _ _); exact (Qa5 _ rfl)))) fun W4 p4 r11_4=>?_
  have x4:Ext w W4:=Puts.ext p4 x3 b11
  refine Qaf ?_
  refine hK10 _ _ ?_
  refine wp_seq_k fun K12 hK12=>?_
  refine Qab ?_
  refine Qaa (.int .i64 ((i:Nat):Int)) 18 rfl kj kj ?_
  have hki:∀ W,TabAt W→Calls Tryd.prog 36 #[.int .i64 ((i:Nat):Int)] W (Ret W (.tuple #[.int .i64 (-1),.int .i64 (-1)])):=fun W h=>by
   obtain rfl:i=0:=by omega
   have h9:=quiet (children ((0:Nat):Int) ⟨by decide,by decide⟩ W h)
   rw [show kidL ((0:Nat):Int)=-1 by decide +kernel,show kidR ((0:Nat):Int)=-1 by decide +kernel] at h9; exact h9
  refine Qal (.tuple #[.int .i64 (-1),.int .i64 (-1)]) 36 #[.int .i64 ((i:Nat):Int)] 19 rfl kj kj (hki _ (TabAt.ext hT x4)) fun W5 e5=>?_
  have x5:Ext w W5:=Ext.tr x4 e5
  refine Qaa (.tuple #[.int .i64 (-1),.int .i64 (-1)]) 17 rfl kj kj ?_
  refine Qaa (.int .i64 (-1)) 20 rfl kj kj ?_
  refine Qaa (.int .i64 (-1)) 21 rfl kj kj ?_
  refine Qaa (.int .i64 (-1)) 5 rfl kj kj ?_
  refine Qaa (.int .i64 (-1)) 6 rfl kj kj ?_
  refine Qaf ?_
  refine hK12 _ _ ?_
  refine wp_seq_k fun K13 hK13=>?_
  cases hus:nt.n.us
  ·skip
   have r11_5:=(Qag r11_4 e5)
   have rbx:W5.heap[g11]? = some (.cells (cat [#[.bool false],#[.int .i64 nt.n.nm],ints .u8 (nt.n.key),ints .u8 (nt.n.sg),ints .u8 (nt.n.pa),#[.slice nt.a nt.n.ms.length nt.c]]) 50):=by have h9:=r11_5; rw [hus] at h9; exact h9
   refine Qab ?_
   refine Qaa (.pointer (some ⟨g11,0,none⟩)) 22 rfl kj kj ?_
   refine Qaa (.bool false) 23 rfl kj (Qah 4 _ g11 0 50 _ (.bool false) _ rbx rfl kj (Qaj [] [#[.bool false]] [#[.int .i64 nt.n.nm],ints .u8 (nt.n.key),ints .u8 (nt.n.sg),ints .u8 (nt.n.pa),#[.slice nt.a nt.n.ms.length nt.c]] 0 kj 0 _ rfl) kj) ?_
   refine Qaa (.bool false) 24 rfl kj kj ?_
   refine Qad 25 rfl kj ?_
   refine Qad 26 rfl kj ?_
   refine Qaa (.bool false) 27 rfl kj kj ?_
   refine Qaa (.bool false) 28 rfl kj kj ?_
   refine Qad 29 rfl kj ?_
   refine Qad 30 rfl kj ?_
   refine Qad 31 rfl kj ?_
   refine Qad 32 rfl kj ?_
   refine Qad 33 rfl kj ?_
   refine Qad 34 rfl kj ?_
   refine Qaa (.bool false) 35 rfl kj kj ?_
   refine Qaa (.bool false) 36 rfl kj kj ?_
   refine Qad 37 rfl kj ?_
   refine Qad 38 rfl kj ?_
   refine Qad 39 rfl kj ?_
   refine Qad 40 rfl kj ?_
   refine Qad 41 rfl kj ?_
   refine Qad 42 rfl kj ?_
   refine Qaa (.bool false) 43 rfl kj kj ?_
   refine Qaf ?_
   refine hK13 _ _ ?_
   refine cond_false kj ?_
   refine wp_skip ?_
   refine hK9 _ _ ?_
   refine Qab ?_
   refine Qaa (.int .i64 ((i+1:Nat):Int)) 44 rfl kj (Qai (u:=.int .i64 (IntKind.i64.wrap (((i:Nat):Int)+1))) kj (congrArg (Value.int .i64) (i64n _ _ (by omega) (by omega)))) ?_
   refine Qaa (.int .i64 ((i+1:Nat):Int)) 12 rfl kj kj ?_
   refine Qaf ?_
   have y1_3:Ext W1 W3:=(Rely.Ext.trans e2 e3)
   have y1_4:Ext W1 W4:=(Puts.ext p4 y1_3 (qT e2.size l11))
   have y1_5:Ext W1 W5:=(Rely.Ext.trans y1_4 e5)
   repeat (first | with_reducible refine goX1 ?_ | with_reducible refine goX2 ?_ | with_reducible refine goX3 ?_)
   exact Qav (i+1) ⟨rfl,rfl,rfl,rfl,trivial⟩ ⟨(by omega),y1_5,x5⟩ (by show ts.length-(i+1)<ts.length-i; omega)
  ·skip
   have r11_5:=(Qag r11_4 e5)
   have rbx:W5.heap[g11]? = some (.cells (cat [#[.bool true],#[.int .i64 nt.n.nm],ints .u8 (nt.n.key),ints .u8 (nt.n.sg),ints .u8 (nt.n.pa),#[.slice nt.a nt.n.ms.length nt.c]]) 50):=by have h9:=r11_5; rw [hus] at h9; exact h9
   refine Qab ?_
   refine Qaa (.pointer (some ⟨g11,0,none⟩)) 22 rfl kj kj ?_
   refine Qaa (.bool true) 23 rfl kj (Qah 4 _ g11 0 50 _ (.bool true) _ rbx rfl kj (Qaj [] [#[.bool true]] [#[.int .i64 nt.n.nm],ints .u8 (nt.n.key),ints .u8 (nt.n.sg),ints .u8 (nt.n.pa),#[.slice nt.a nt.n.ms.length nt.c]] 0 kj 0 _ rfl) kj) ?_
   refine Qaa (.bool true) 24 rfl kj kj ?_
   refine Qaa (.int .i64 (-1)) 25 rfl kj kj ?_
   refine Qaa (.bool false) 26 rfl kj kj ?_
   refine Qaa (.bool false) 27 rfl kj kj ?_
   refine Qaa (.bool false) 28 rfl kj kj ?_
   refine Qad 29 rfl kj ?_
   refine Qad 30 rfl kj ?_
   refine Qad 31 rfl kj ?_
   refine Qad 32 rfl kj ?_
   refine Qad 33 rfl kj ?_
   refine Qad 34 rfl kj ?_
   refine Qaa (.bool false) 35 rfl kj kj ?_
   refine Qaa (.bool false) 36 rfl kj kj ?_
   refine Qad 37 rfl kj ?_
   refine Qad 38 rfl kj ?_
   refine Qad 39 rfl kj ?_
   refine Qad 40 rfl kj ?_
   refine Qad 41 rfl kj ?_
   refine Qad 42 rfl kj ?_
   refine Qaa (.bool false) 43 rfl kj kj ?_
   refine Qaf ?_
   refine hK13 _ _ ?_
   refine cond_false kj ?_
   refine wp_skip ?_
   refine hK9 _ _ ?_
   refine Qab ?_
   refine Qaa (.int .i64 ((i+1:Nat):Int)) 44 rfl kj (Qai (u:=.int .i64 (IntKind.i64.wrap (((i:Nat):Int)+1))) kj (congrArg (Value.int .i64) (i64n _ _ (by omega) (by omega)))) ?_
   refine Qaa (.int .i64 ((i+1:Nat):Int)) 12 rfl kj kj ?_
   refine Qaf ?_
   have y1_3:Ext W1 W3:=(Rely.Ext.trans e2 e3)
   have y1_4:Ext W1 W4:=(Puts.ext p4 y1_3 (qT e2.size l11))
   have y1_5:Ext W1 W5:=(Rely.Ext.trans y1_4 e5)
   repeat (first | with_reducible refine goX1 ?_ | with_reducible refine goX2 ?_ | with_reducible refine goX3 ?_)
   exact Qav (i+1) ⟨rfl,rfl,rfl,rfl,trivial⟩ ⟨(by omega),y1_5,x5⟩ (by show ts.length-(i+1)<ts.length-i; omega)
 ·skip
  have heq13:i=ts.length:=by have:=of_decide_eq_false c8; omega
  refine wp_exit ?_
  refine hK4 _ _ ?_
  refine wp_seq_k fun K14 hK14=>?_
  refine Qab ?_
  refine Qaa (.bool true) 2 rfl kj kj ?_
  refine Qaf ?_
  refine hK14 _ _ ?_
  refine wp_ret ?_
  repeat (first | with_reducible refine goR1 ?_ | with_reducible refine goR2 ?_)
  exact (show bodyPost _ _ _ .ret _ _ from ret1 (.bool true) rfl (Qar kj) ⟨rfl,xx1⟩)
set_option maxRecDepth 100000 in
theorem Qc9 (w : World) (hT:TabAt w) (hSh:ShT w):Calls Tryd.prog 8 #[] w (Ret w (.bool true)):=by
  refine enter 28 [] Tryd.func8 rfl rfl kj rfl ?_
  refine wp_seq_k fun K1 hK1=>?_
  refine Qab ?_
  refine Qaa (.bool false) 0 rfl kj kj ?_
  refine Qaf ?_
  refine hK1 _ _ ?_
  refine wp_seq_k fun K2 hK2=>?_
  refine Qab ?_
  refine Qaa (.agg (cat [#[.bool true],#[.int .i64 3],ints .u8 (List.replicate 32 0),ints .u8 (List.replicate 32 0),ints .u8 (List.replicate 32 0),#[.slice none 0 0]])) 4 rfl kj kj ?_
  refine QaB (cat (ndP (lf 3))) 50 1 5 rfl kj kj fun gO W1 lO e1 rO=>?_
  have x1:Ext w W1:=Ext.tr (Rely.Ext.refl w) e1
  have ht:=QiS lO rO (Qlv 3) ⟨Qlv 3,by decide,Qct _ _ _ _⟩
  have hc3:chkT [lf 3]=true:=by decide +kernel
  obtain ⟨a_1,c_1,hv1⟩:∃ a c,(a,c)=((some (⟨gO,0,none⟩:Addr)),1):=⟨_,_,rfl⟩
  obtain ⟨ha1,hcc1⟩:=Prod.mk.inj hv1
  rw [←ha1] at ht
  show WL _ _ _ _ (Qa2 _ _ ((5,.slice (some ⟨gO,0,none⟩) 1 1)::_)) _
  rw [show (Value.slice (some ⟨gO,0,none⟩) 1 1)=.slice a_1 [lf 3].length c_1 by rw [ha1,hcc1]; rfl]
  refine Qaa (.slice a_1 [lf 3].length c_1) 1 rfl kj kj ?_
  refine Qaf ?_
  refine hK2 _ _ ?_
  refine wp_seq_k fun K3 hK3=>?_
  refine Qab ?_
  refine Qaa (.slice a_1 [lf 3].length c_1) 7 rfl kj kj ?_
  refine Qal (.tuple #[.agg (ints .u8 (dgN [lf 3] [] ([lf 3].length/2))),.bool true]) 11 #[.slice a_1 [lf 3].length c_1] 8 rfl kj kj (Qkd [lf 3] a_1 c_1 _ (by decide) (fun i hi=>by obtain rfl:i=0:=Nat.lt_one_iff.1 hi; decide) hc3 _ (TrAt.ext ht (Rely.Ext.refl W1)) (TabAt.ext hT x1) (ShT.ext hSh x1)) fun W2 e2=>?_
  have x2:Ext w W2:=Ext.tr x1 e2
  refine Qaa (.tuple #[.agg (ints .u8 (dgN [lf 3] [] ([lf 3].length/2))),.bool true]) 6 rfl kj kj ?_
  refine Qaa (.agg (ints .u8 (dgN [lf 3] [] ([lf 3].length/2)))) 9 rfl kj kj ?_
  refine Qaa (.bool true) 10 rfl kj kj ?_
  refine Qam (ints .u8 (List.replicate 32 0)) 28 2 rfl kj kj fun g4 W3 l4 e3 r4_3=>?_
  have x3:Ext w W3:=Ext.tr x2 e3
  have b4:w.heap.size≤g4:=qT x2.size l4
  refine Qas g4 _ (ints .u8 (dgN [lf 3] [] ([lf 3].length/2))) 28 r4_3 rfl kj (Qap 28 _ _ g4 28 _ _ r4_3 rfl kj kj (isz (n:=32) kj ((Qae _ _).trans (QaQ [lf 3] [] ([lf 3].length/2)))) (eqsz (n:=32) ((Qae _ _).trans (qZ (n:=32))) ((Qae _ _).trans (QaQ [lf 3] [] ([lf 3].length/2)))) (Qat _ _)) fun W4 p4 r4_4=>?_
  have x4:Ext w W4:=Puts.ext p4 x3 b4
  refine Qaa (.bool true) 3 rfl kj kj ?_
  refine Qaf ?_
  refine hK3 _ _ ?_
  refine wp_seq_k fun K5 hK5=>?_
  refine Qcb kj fun W5 e5=>?_
  have x5:Ext w W5:=Ext.tr x4 e5
  refine QaA 0 (.bool true) 11 rfl rfl kj kj (fun _ _ _ h=>h) (fun W hR=>by kernel_rfl) ?_
  refine QaA 1 (.bool true) 12 rfl rfl kj kj (fun _ _ _ h=>h) (fun W hR=>by kernel_rfl) ?_
  have r4_5:=(Qag r4_4 e5)
  refine QaA 2 (.agg (ints .u8 (dgN [lf 3] [] ([lf 3].length/2)))) 13 rfl rfl kj kj (fun _ _ _ h=>h) (fun W hR=>(Qa6 28 _ g4 28 _ _ (Qag r4_5 hR) rfl kj kj (isz (n:=32) kj ((Qae _ _).trans (QaQ [lf 3] [] ([lf 3].length/2)))))) ?_
  refine QaA 3 (.slice a_1 [lf 3].length c_1) 14 rfl rfl kj kj (fun _ _ _ h=>h) (fun W hR=>by kernel_rfl) ?_
  refine Qby 4 kj ?_
  have y1_2:Ext W1 W2:=(Rely.Ext.trans (Rely.Ext.refl W1) e2)
  have y1_3:Ext W1 W3:=(Rely.Ext.trans y1_2 e3)
  have y1_4:Ext W1 W4:=(Puts.ext p4 y1_3 (qT y1_2.size l4))
  have y1_5:Ext W1 W5:=(Rely.Ext.trans y1_4 e5)
  refine Qcm rfl (fun v W'=>v=(.agg (ints .u8 (dgN [lf 3] [] ([lf 3].length/2))))∧Ext W5 W') 13 #[.slice a_1 [lf 3].length c_1] 15 rfl kj kj ((Qlg [lf 3] a_1 c_1 _ (by decide) (fun i hi=>by obtain rfl:i=0:=Nat.lt_one_iff.1 hi; decide) hc3 (by decide) _ (TrAt.ext ht y1_5)).mono fun e w' h=>⟨_,h.1,rfl,h.2⟩) (fun _ _ h=>Rely.Ext.trans (Rely.Ext.refl W5) h.2) fun vv6 W6 hh6=>?_
  obtain ⟨rfl,e6⟩:=hh6
  have x6:Ext w W6:=Ext.tr x5 e6
  refine QaA 5 (.bool true) 16 rfl rfl kj kj (fun _ _ _ h=>h) (fun W hR=>(Qa9 28 _ _ _ _ _ (.bool true) rfl kj kj kj (QaE 28 (e:=5) (k:=.u8) (dgN [lf 3] [] ([lf 3].length/2)) (dgN [lf 3] [] ([lf 3].length/2)) (decide_eq_true rfl) (QaQ [lf 3] [] ([lf 3].length/2)) (QaQ [lf 3] [] ([lf 3].length/2)) kj kj kj _))) ?_
  refine QaA 6 (.bool true) 17 rfl rfl kj kj (fun _ _ _ h=>h) (fun W hR=>by kernel_rfl) ?_
  refine QaA 7 (.bool true) 18 rfl rfl kj kj (fun _ _ _ h=>h) (fun W hR=>by kernel_rfl) ?_
  refine QaA 8 (.slice a_1 [lf 3].length c_1) 19 rfl rfl kj kj (fun _ _ _ h=>h) (fun W hR=>by kernel_rfl) ?_
  refine Qby 9 kj ?_
  have y1_6:Ext W1 W6:=(Rely.Ext.trans y1_5 e6)
  have y5_6:Ext W5 W6:=(Rely.Ext.trans (Rely.Ext.refl W5) e6)
  refine Qcm rfl (fun v W'=>v=(.bool true)∧Ext W6 W') 18 #[.slice a_1 [lf 3].length c_1] 20 rfl kj kj ((Qme [lf 3] a_1 c_1 _ (by decide) (fun i hi=>by obtain rfl:i=0:=Nat.lt_one_iff.1 hi; decide) hc3 rfl _ (TrAt.ext ht y1_6) (TabAt.ext hT x6)).mono fun e w' h=>⟨_,h.1,rfl,h.2⟩) (fun _ _ h=>Rely.Ext.trans y5_6 h.2) fun vv7 W7 hh7=>?_
  obtain ⟨rfl,e7⟩:=hh7
  have x7:Ext w W7:=Ext.tr x6 e7
  refine QaA 10 (.bool true) 21 rfl rfl kj kj (fun _ _ _ h=>h) (fun W hR=>by kernel_rfl) ?_
  refine QaA 11 (.bool true) 22 rfl rfl kj kj (fun _ _ _ h=>h) (fun W hR=>by kernel_rfl) ?_
  refine QaA 12 (.agg (cat [#[.bool false],#[.int .i64 0],ints .u8 (List.replicate 32 0),ints .u8 (List.replicate 32 0),ints .u8 (List.replicate 32 0),#[.slice none 0 0]])) 23 rfl rfl kj kj (fun _ _ _ h=>h) (fun W hR=>by kernel_rfl) ?_
  refine Qby 13 kj ?_
  have y5_7:Ext W5 W7:=(Rely.Ext.trans y5_6 e7)
  refine QiR rfl (fun v W'=>NewS W7.heap.size (cat (ndP zn)) 50 1 v W'∧Ext W7 W') 24 rfl kj ⟨_,_,(by kernel_rfl:_=Result.ok (Next.value (.slice (some ⟨W7.heap.size,0,none⟩) 1 1)) (W7.alloc (.cells (cat (ndP zn)) 50))),⟨_,rfl,qR _,heap_alloc_new _ _⟩,Qc7 _ _⟩ (fun _ _ h=>Rely.Ext.trans y5_7 h.2) fun vz W8 hz=>?_
  obtain ⟨⟨gz,rfl,lz,rz⟩,e8⟩:=hz
  have x8:Ext w W8:=Ext.tr x7 e8
  have htz:=QiS lz rz Qer ⟨Qer,by decide,Qct _ _ _ _⟩
  obtain ⟨a_2,c_2,hv2⟩:∃ a c,(a,c)=((some (⟨gz,0,none⟩:Addr)),1):=⟨_,_,rfl⟩
  obtain ⟨ha2,hcc2⟩:=Prod.mk.inj hv2
  rw [←ha2] at htz
  rw [show (Value.slice (some ⟨gz,0,none⟩) 1 1)=.slice a_2 [zn].length c_2 by rw [ha2,hcc2]; rfl]
  refine Qby 14 kj ?_
  have y5_8:Ext W5 W8:=(Rely.Ext.trans y5_7 e8)
  refine Qcm rfl (fun v W'=>v=(.bool false)∧Ext W8 W') 18 #[.slice a_2 [zn].length c_2] 25 rfl kj kj ((Qmd [zn] a_2 c_2 _ (by decide) (fun i hi=>by obtain rfl:i=0:=Nat.lt_one_iff.1 hi; decide) (by decide +kernel) _ (TrAt.ext htz (Rely.Ext.refl W8)) (TabAt.ext hT x8)).mono fun e w' h=>⟨_,h.1,rfl,h.2⟩) (fun _ _ h=>Rely.Ext.trans y5_8 h.2) fun vv8 W9 hh8=>?_
  obtain ⟨rfl,e9⟩:=hh8
  have x9:Ext w W9:=Ext.tr x8 e9
  refine QaA 15 (.bool true) 26 rfl rfl kj kj (fun _ _ _ h=>h) (fun W hR=>by kernel_rfl) ?_
  refine QaA 16 (.bool true) 27 rfl rfl kj kj (fun _ _ _ h=>h) (fun W hR=>by kernel_rfl) ?_
  refine QaA 17 (.bool true) 0 rfl rfl kj kj (fun _ _ _ h=>h) (fun W hR=>by kernel_rfl) ?_
  refine QcV kj ?_
  refine hK5 _ _ ?_
  refine wp_ret ?_
  repeat (first | with_reducible refine goR1 ?_ | with_reducible refine goR2 ?_)
  exact (show bodyPost _ _ _ .ret _ _ from ret1 (.bool true) rfl (Qar kj) ⟨rfl,x9⟩)
end Go.Proofs.YthfkppjajmjpnaaDoor.Te
end
section
namespace Go.Proofs.YthfkppjajmjpnaaDoor.Te
open Go Go.RowKit
open Rely Auto Own Seat Wk Sha
section
variable {P : Program} {ops : Array Oper} {Q : Exit → Act → World → Prop}
theorem QfT {Rd : World→Prop} {k fuel N:Nat} {o:Oper} {listed:Array Bool} {ds:List Deferred} {L:Env} {w:World} (g:Nat) (old cs:Array Value) (t:TypeId) (hgr:w.heap[g]? = some (.cells old t)) (ho:ops[k]? = some o) (hd:o.dst=none) (hg:Qb1 ops o N L=some true)
    (h:(execOp (Rely.look (envN N L)) o).run P w=.ok .skip (w.setRow g cs)) (hR:∀ W,Puts w g W→Rd W) (kk:∀ W,Puts w g W→W.heap[g]? = some (.cells cs t)→WB P ops Q Rd fuel (listed.setIfInBounds k true) (Qa2 ds N L) W):WO P ops Q Rd k fuel listed (Qa2 ds N L) w:=by
  refine ⟨?_⟩
  unfold wpOp
  rw [ho]
  simp only [QbI hg,if_true]
  refine .inl ?_
  unfold Oper.wp
  rw [Qbh,h]
  show _∧allR _ _ _ _ _ _ _ _
  rw [hd]
  exact ⟨hR _ (QbF _ _ _),(kk _ (QbF _ _ _) (setRow_heap _ _ _ _ _ _ hgr)).out (hR _ (QbF _ _ _))⟩
end
theorem NdAt.keyS {B g off:Nat} {w:World} {n:NdV} (h:NdAt B w g off n):RdK .u8 B n.n.key (.slice (some ⟨g,off+2,none⟩) 32 32) w:=by
  have hl:=h.ok.kl
  refine ⟨some ⟨g,off+2,none⟩,32,by rw [hl],by omega,by decide,(fun e=>by cases e),.inr ⟨g,off+2,rfl,h.lt,h.lt2,fun i hi=>?_⟩⟩
  have h9:=h.cell (2+i) _ (Qbi [#[.bool n.n.us],#[.int .i64 n.n.nm]] [ints .u8 n.n.sg,ints .u8 n.n.pa,#[.slice n.a n.n.ms.length n.c]] n.n.key 2 i (2+i) rfl rfl hi)
  rw [←Nat.add_assoc] at h9; exact h9
theorem NdAt.paS {B g off:Nat} {w:World} {n:NdV} (h:NdAt B w g off n):RdK .u8 B n.n.pa (.slice (some ⟨g,off+66,none⟩) 32 32) w:=by
  have hl:=h.ok.pl
  refine ⟨some ⟨g,off+66,none⟩,32,by rw [hl],by omega,by decide,(fun e=>by cases e),.inr ⟨g,off+66,rfl,h.lt,h.lt2,fun i hi=>?_⟩⟩
  have h9:=h.cell (66+i) _ (Qbi [#[.bool n.n.us],#[.int .i64 n.n.nm],ints .u8 n.n.key,ints .u8 n.n.sg] [#[.slice n.a n.n.ms.length n.c]] n.n.pa 66 i (66+i) (by simp [cat,Qae,h.ok.kl,h.ok.gl]) rfl hi)
  rw [←Nat.add_assoc] at h9; exact h9
def mkN (ts : List NdV) (x s:Nat):List Int:=dig ((([3]++(ndi ts x).n.key)++(ndi ts x).n.pa)++dgN ts (ndi ts x).n.ms s)
theorem Qb0 (ts : List NdV) (x s:Nat):(mkN ts x s).length=32:=QaF _
set_option maxRecDepth 100000 in
theorem Qlr (ts : List NdV) (a_t:Option Addr) (c_t B1:Nat) (htl:ts.length≤100000) (hmt:∀ i,i<ts.length→(ndi ts i).n.ms.length≤50) (hck:chkT ts=true) (w:World) (ht:TrAt B1 w a_t ts) (hT:TabAt w) (hSh:ShT w) (x s:Nat) (hx:x<ts.length) (hs:s<ts.length):Calls Tryd.prog 37 #[.slice a_t ts.length c_t,.int .i64 ((x:Nat):Int),.int .i64 ((s:Nat):Int)] w (Ret w (.agg (ints .u8 (mkN ts x s)))):=by
  obtain ⟨tc,tq,hc,hq⟩:=id hSh
  refine enter 26 [(0,.slice a_t ts.length c_t),(1,.int .i64 ((x:Nat):Int)),(2,.int .i64 ((s:Nat):Int))] Tryd.func37 rfl rfl kj rfl ?_
  refine wp_seq_k fun K3 hK3=>?_
  refine Qab ?_
  refine Qam (ints .u8 (List.replicate 32 0)) 28 6 rfl kj kj fun g4 W1 l4 e1 r4_1=>?_
  have x1:Ext w W1:=Ext.tr (Rely.Ext.refl w) e1
  have b4:w.heap.size≤g4:=qT (Rely.Ext.refl w).size l4
  refine Qaf ?_
  refine hK3 _ _ ?_
  refine wp_seq_k fun K5 hK5=>?_
  refine Qab ?_
  refine Qaa (.slice a_t ts.length c_t) 9 rfl kj kj ?_
  refine Qaa (.int .i64 ((x:Nat):Int)) 10 rfl kj kj ?_
  obtain ⟨gtT,otT,hat,hnts⟩:=TrAt.ext ht x1
  have hnt:=hnts x (by omega)
  obtain ⟨nt,ent⟩:∃ z,z=ndi ts x:=⟨_,rfl⟩
  rw [←ent] at hnt
  have okt:=hnt.ok
  have rdt:=hnt.rd
  refine Qaa (.pointer (some ⟨gtT,otT+x*99,none⟩)) 11 rfl kj (Qaq 23 _ _ .i64 x gtT otT ts.length c_t 50 99 a_t (hat (by omega)) rfl kj kj kj kj (by omega)) ?_
  refine Qaa (.agg (cat [#[.bool nt.n.us],#[.int .i64 nt.n.nm],ints .u8 (nt.n.key),ints .u8 (nt.n.sg),ints .u8 (nt.n.pa),#[.slice nt.a nt.n.ms.length nt.c]])) 12 rfl kj (QaK 50 _ gtT (otT+x*99) nt hnt rfl kj kj kj) ?_
  refine Qam (cat [#[.bool false],#[.int .i64 0],ints .u8 (List.replicate 32 0),ints .u8 (List.replicate 32 0),ints .u8 (List.replicate 32 0),#[.slice none 0 0]]) 50 7 rfl kj kj fun g6 W2 l6 e2 r6_2=>?_
  have x2:Ext w W2:=Ext.tr x1 e2
  have b6:w.heap.size≤g6:=qT x1.size l6
  refine Qas g6 _ (cat [#[.bool nt.n.us],#[.int .i64 nt.n.nm],ints .u8 (nt.n.key),ints .u8 (nt.n.sg),ints .u8 (nt.n.pa),#[.slice nt.a nt.n.ms.length nt.c]]) 50 r6_2 rfl kj (Qap 50 _ _ g6 50 _ _ r6_2 rfl kj kj (isz (n:=99) kj (by rw [Qac,Qac,Qac,Qac,Qac,Qac]; simp only [qS,cat,((Qae _ _).trans okt.gl),((Qae _ _).trans okt.kl),((Qae _ _).trans okt.pl)]; rfl)) (eqsz (n:=99) (by rw [Qac,Qac,Qac,Qac,Qac,Qac]; simp only [qS,cat,((Qae _ _).trans (qZ (n:=32)))]; rfl) (by rw [Qac,Qac,Qac,Qac,Qac,Qac]; simp only [qS,cat,((Qae _ _).trans okt.gl),((Qae _ _).trans okt.kl),((Qae _ _).trans okt.pl)]; rfl)) (Qbo _ (by intro a ha; simp only [List.mem_cons,List.not_mem_nil,or_false] at ha; rcases ha with rfl | rfl | rfl | rfl | rfl | rfl; exact (Qa5 _ rfl); exact (Qa5 _ rfl); exact (Qat _ _); exact (Qat _ _); exact (Qat _ _); exact (Qa5 _ rfl)))) fun W3 p3 r6_3=>?_
  have x3:Ext w W3:=Puts.ext p3 x2 b6
  refine Qaf ?_
  refine hK5 _ _ ?_
  refine wp_seq_k fun K7 hK7=>?_
  refine Qab ?_
  refine Qaa (.slice a_t ts.length c_t) 13 rfl kj kj ?_
  refine Qaa (.int .i64 ((s:Nat):Int)) 14 rfl kj kj ?_
  refine Qaa (.pointer (some ⟨g6,98,none⟩)) 15 rfl kj kj ?_
  refine Qaa (.slice nt.a nt.n.ms.length nt.c) 16 rfl kj (Qah 24 _ g6 98 50 _ (.slice nt.a nt.n.ms.length nt.c) _ r6_3 rfl kj (Qaj [#[.bool nt.n.us],#[.int .i64 nt.n.nm],ints .u8 (nt.n.key),ints .u8 (nt.n.sg),ints .u8 (nt.n.pa)] [#[.slice nt.a nt.n.ms.length nt.c]] [] 98 (by rw [Qac,Qac,Qac,Qac,Qac]; simp only [qS,cat,((Qae _ _).trans okt.gl),((Qae _ _).trans okt.kl),((Qae _ _).trans okt.pl)]; rfl) 0 _ rfl) kj) ?_
  have y1_2:Ext W1 W2:=(Rely.Ext.trans (Rely.Ext.refl W1) e2)
  have y1_3:Ext W1 W3:=(Puts.ext p3 y1_2 l6)
  refine Qal (.agg (ints .u8 (dgN ts nt.n.ms s))) 27 #[.slice a_t ts.length c_t,.int .i64 ((s:Nat):Int),.slice nt.a nt.n.ms.length nt.c] 17 rfl kj kj (digD ts a_t c_t B1 htl hmt hck nt.n.ms nt.a nt.c _ _ (TrAt.ext ht x3) (TabAt.ext hT x3) (ShT.ext hSh x3) (qT (ent▸hmt x hx) (by decide)) (RdK.here (RdK.ext rdt y1_3)) s hs) fun W4 e4=>?_
  have x4:Ext w W4:=Ext.tr x3 e4
  refine Qam (ints .u8 (List.replicate 32 0)) 28 8 rfl kj kj fun g8 W5 l8 e5 r8_5=>?_
  have x5:Ext w W5:=Ext.tr x4 e5
  have b8:w.heap.size≤g8:=qT x4.size l8
  refine Qas g8 _ (ints .u8 (dgN ts nt.n.ms s)) 28 r8_5 rfl kj (Qap 28 _ _ g8 28 _ _ r8_5 rfl kj kj (isz (n:=32) kj ((Qae _ _).trans (QaQ ts nt.n.ms s))) (eqsz (n:=32) ((Qae _ _).trans (qZ (n:=32))) ((Qae _ _).trans (QaQ ts nt.n.ms s))) (Qat _ _)) fun W6 p6 r8_6=>?_
  have x6:Ext w W6:=Puts.ext p6 x5 b8
  refine Qaf ?_
  refine hK7 _ _ ?_
  refine wp_seq_k fun K9 hK9=>?_
  refine QaU 6 [⟨none,[]⟩,⟨none,[(7,none)]⟩,⟨none,[(19,some 1)]⟩,⟨none,[(7,none)]⟩,⟨none,[(21,some 3)]⟩,⟨none,[(8,none)]⟩] kj kj fun F hF=>?_
  refine Qgw (Qan _) (ints .u8 ([3])) 5 1 (NewS.stable _ _ _ _) kj kj (fun W=>by kernel_rfl) ?_
  refine Qaz (Qan _) (.pointer (some ⟨g6,2,none⟩)) kj kj (fun W=>by kernel_rfl) ?_
  refine Qaz (Qan _) (.slice (some ⟨g6,2,none⟩) 32 32) kj kj (fun W=>by kernel_rfl) ?_
  refine Qaz (Qan _) (.pointer (some ⟨g6,66,none⟩)) kj kj (fun W=>by kernel_rfl) ?_
  refine Qaz (Qan _) (.slice (some ⟨g6,66,none⟩) 32 32) kj kj (fun W=>by kernel_rfl) ?_
  refine Qaz (Qan _) (.slice (some ⟨g8,0,none⟩) 32 32) kj kj (fun W=>by kernel_rfl) ?_
  refine QcS (hF _ fun W7 e7=>?_)
  simp only [List.nil_append,List.cons_append,List.take_succ_cons,List.take_zero,List.drop_succ_cons,List.drop_zero,finE,up]
  intro vv10 hv10
  clear hF
  have x7:Ext w W7:=Ext.tr x6 e7
  obtain ⟨g10,rfl,l10,r10_7⟩:=hv10
  have b10:w.heap.size≤g10:=qT x6.size l10
  refine QaB (#[.slice (some ⟨g10,0,none⟩) 1 1,.slice (some ⟨g6,2,none⟩) 32 32,.slice (some ⟨g6,66,none⟩) 32 32,.slice (some ⟨g8,0,none⟩) 32 32]) 59 4 24 rfl kj kj fun g11 W8 l11 e8 r11_8=>?_
  have x8:Ext w W8:=Ext.tr x7 e8
  have b11:w.heap.size≤g11:=qT x7.size l11
  have r10_8:=(Qag r10_7 e8)
  have r6_4:=(Qag r6_3 e4)
  have r6_5:=(Qag r6_4 e5)
  have r6_6:=(Puts.row p6 r6_5 (Qaw r6_4 l8))
  have r6_7:=(Qag r6_6 e7)
  have r6_8:=(Qag r6_7 e8)
  have r8_7:=(Qag r8_6 e7)
  have r8_8:=(Qag r8_7 e8)
  have r2_1:=(Qag hc e1)
  have r2_2:=(Qag r2_1 e2)
  have r2_3:=(Puts.row p3 r2_2 (Qaw r2_1 l6))
  have r2_4:=(Qag r2_3 e4)
  have r2_5:=(Qag r2_4 e5)
  have r2_6:=(Puts.row p6 r2_5 (Qaw r2_4 l8))
  have r2_7:=(Qag r2_6 e7)
  have r2_8:=(Qag r2_7 e8)
  have r1_1:=(Qag hq e1)
  have r1_2:=(Qag r1_1 e2)
  have r1_3:=(Puts.row p3 r1_2 (Qaw r1_1 l6))
  have r1_4:=(Qag r1_3 e4)
  have r1_5:=(Qag r1_4 e5)
  have r1_6:=(Puts.row p6 r1_5 (Qaw r1_4 l8))
  have r1_7:=(Qag r1_6 e7)
  have r1_8:=(Qag r1_7 e8)
  have hps12:∀ p∈([(.slice (some ⟨g10,0,none⟩) 1 1,[3]),(.slice (some ⟨g6,2,none⟩) 32 32,nt.n.key),(.slice (some ⟨g6,66,none⟩) 32 32,nt.n.pa),(.slice (some ⟨g8,0,none⟩) 32 32,dgN ts nt.n.ms s)]:List (Value×List Int)),RdK .u8 W8.heap.size p.2 p.1 W8∧Qax p.2:=by
    intro p hp
    simp only [List.mem_cons,List.not_mem_nil,or_false] at hp
    rcases hp with rfl | rfl | rfl | rfl
    · exact ⟨RdK.here (QaP (xs:=[3]) (n:=1) rfl r10_8 (Qa1 r10_8) (show 1≤maxLen from by decide)),(Qc8 [3] (by decide))⟩
    · exact ⟨RdK.here (Qb3 2 okt.kl r6_8 (fun i hi=>Qbi [#[.bool nt.n.us],#[.int .i64 nt.n.nm]] [ints .u8 (nt.n.sg),ints .u8 (nt.n.pa),#[.slice nt.a nt.n.ms.length nt.c]] nt.n.key 2 i (2+i) kj rfl (by rw [okt.kl]; exact hi)) (Qa1 r6_8) (qR _) (by decide)),okt.kb⟩
    · exact ⟨RdK.here (Qb3 66 okt.pl r6_8 (fun i hi=>Qbi [#[.bool nt.n.us],#[.int .i64 nt.n.nm],ints .u8 (nt.n.key),ints .u8 (nt.n.sg)] [#[.slice nt.a nt.n.ms.length nt.c]] nt.n.pa 66 i (66+i) (by rw [Qac,Qac,Qac,Qac]; simp only [qS,cat,((Qae _ _).trans okt.gl),((Qae _ _).trans okt.kl)]; rfl) rfl (by rw [okt.pl]; exact hi)) (Qa1 r6_8) (qR _) (by decide)),okt.pb⟩
    · exact ⟨RdK.here (QaP (xs:=dgN ts nt.n.ms s) (n:=32) (QaQ ts nt.n.ms s) r8_8 (Qa1 r8_8) (show 32≤maxLen from by decide)),(QbX _)⟩
  have hsh12:=Qgb g11 4 _ ([(.slice (some ⟨g10,0,none⟩) 1 1,[3]),(.slice (some ⟨g6,2,none⟩) 32 32,nt.n.key),(.slice (some ⟨g6,66,none⟩) 32 32,nt.n.pa),(.slice (some ⟨g8,0,none⟩) 32 32,dgN ts nt.n.ms s)]:List (Value×List Int)) rfl (by decide) tc tq W8 r2_8 r1_8 r11_8 hps12 (by rw [show ((List.map Prod.snd ([(.slice (some ⟨g10,0,none⟩) 1 1,[3]),(.slice (some ⟨g6,2,none⟩) 32 32,nt.n.key),(.slice (some ⟨g6,66,none⟩) 32 32,nt.n.pa),(.slice (some ⟨g8,0,none⟩) 32 32,dgN ts nt.n.ms s)]:List (Value×List Int))).flatten)=([3])++nt.n.key++nt.n.pa++(dgN ts nt.n.ms s) by simp only [List.map_cons,List.map_nil,List.flatten_cons,List.flatten_nil,List.append_nil,List.append_assoc,List.cons_append,List.nil_append]]; (simp only [List.length_append,okt.kl,okt.pl,QaQ,List.length_cons,List.length_nil]; omega))
  rw [show ((List.map Prod.snd ([(.slice (some ⟨g10,0,none⟩) 1 1,[3]),(.slice (some ⟨g6,2,none⟩) 32 32,nt.n.key),(.slice (some ⟨g6,66,none⟩) 32 32,nt.n.pa),(.slice (some ⟨g8,0,none⟩) 32 32,dgN ts nt.n.ms s)]:List (Value×List Int))).flatten)=([3])++nt.n.key++nt.n.pa++(dgN ts nt.n.ms s) by simp only [List.map_cons,List.map_nil,List.flatten_cons,List.flatten_nil,List.append_nil,List.append_assoc,List.cons_append,List.nil_append]] at hsh12
  refine Qal (.agg (ints .u8 (dig (([3])++nt.n.key++nt.n.pa++(dgN ts nt.n.ms s))))) 49 #[.slice (some ⟨g11,0,none⟩) 4 4] 25 rfl kj kj hsh12 fun W9 e9=>?_
  have x9:Ext w W9:=Ext.tr x8 e9
  have r4_2:=(Qag r4_1 e2)
  have r4_3:=(Puts.row p3 r4_2 (Qaw r4_1 l6))
  have r4_4:=(Qag r4_3 e4)
  have r4_5:=(Qag r4_4 e5)
  have r4_6:=(Puts.row p6 r4_5 (Qaw r4_4 l8))
  have r4_7:=(Qag r4_6 e7)
  have r4_8:=(Qag r4_7 e8)
  have r4_9:=(Qag r4_8 e9)
  refine Qas g4 _ (ints .u8 (dig (([3])++nt.n.key++nt.n.pa++(dgN ts nt.n.ms s)))) 28 r4_9 rfl kj (Qap 28 _ _ g4 28 _ _ r4_9 rfl kj kj (isz (n:=32) kj ((Qae _ _).trans (QaF _))) (eqsz (n:=32) ((Qae _ _).trans (qZ (n:=32))) ((Qae _ _).trans (QaF _))) (Qat _ _)) fun W10 p10 r4_10=>?_
  have x10:Ext w W10:=Puts.ext p10 x9 b4
  refine Qaf ?_
  refine hK9 _ _ ?_
  refine wp_ret ?_
  repeat (first | with_reducible refine goR1 ?_ | with_reducible refine goR2 ?_)
  exact (show bodyPost _ _ _ .ret _ _ from ret1 (.agg (ints .u8 (dig (([3])++nt.n.key++nt.n.pa++(dgN ts nt.n.ms s))))) rfl (QaV g4 28 _ r4_10 kj kj (isz (n:=32) kj ((Qae _ _).trans (QaF _)))) ⟨by unfold mkN; rw [←ent],x10⟩)
end Go.Proofs.YthfkppjajmjpnaaDoor.Te
end
section
namespace Go.Proofs.YthfkppjajmjpnaaDoor.Te
open Go Go.RowKit
open Rely Auto Own Seat Wk Sha
theorem QdI {n : Nat} (h:n≤1000000000):IntKind.i64.wrap ((n:Nat):Int)=((n:Nat):Int):=IntWalk.i64_in _ (by omega)
theorem Qe8 (x : Int) (hi:i64 x) (W:World) (h:TabAt W):Calls Tryd.prog 36 #[.int .i64 x] W (Ret W (.tuple #[.int .i64 (kidL x),.int .i64 (kidR x)])):=quiet (children x hi W h)
set_option maxRecDepth 100000 in
theorem QlG (ts : List NdV) (a_t:Option Addr) (c_t B1:Nat) (htl:ts.length≤100000) (hmt:∀ i,i<ts.length→(ndi ts i).n.ms.length≤50) (w:World) (ht:TrAt B1 w a_t ts) (hT:TabAt w) (x child:Int) (hi:i64 x) (h1:kidL x<0):Calls Tryd.prog 15 #[.slice a_t ts.length c_t,.int .i64 x,.int .i64 child] w (Ret w (.tuple #[.agg (ints .u8 (List.replicate 32 0)),.bool false])):=by
  refine enter 47 [(0,.slice a_t ts.length c_t),(1,.int .i64 x),(2,.int .i64 child)] Tryd.func15 rfl rfl kj rfl ?_
  refine wp_seq_k fun K1 hK1=>?_
  refine Qab ?_
  refine Qam (ints .u8 (List.replicate 32 0)) 28 6 rfl kj kj fun g2 W1 l2 e1 r2_1=>?_
  have x1:Ext w W1:=Ext.tr (Rely.Ext.refl w) e1
  have b2:w.heap.size≤g2:=qT (Rely.Ext.refl w).size l2
  refine Qaa (.bool false) 7 rfl kj kj ?_
  refine Qaf ?_
  refine hK1 _ _ ?_
  refine wp_seq_k fun K3 hK3=>?_
  refine Qab ?_
  refine Qaa (.int .i64 x) 11 rfl kj kj ?_
  refine Qal (.tuple #[.int .i64 (kidL x),.int .i64 (kidR x)]) 36 #[.int .i64 x] 12 rfl kj kj (Qe8 x hi _ (TabAt.ext hT x1)) fun W2 e2=>?_
  have x2:Ext w W2:=Ext.tr x1 e2
  refine Qaa (.tuple #[.int .i64 (kidL x),.int .i64 (kidR x)]) 10 rfl kj kj ?_
  refine Qaa (.int .i64 (kidL x)) 13 rfl kj kj ?_
  refine Qaa (.int .i64 (kidR x)) 14 rfl kj kj ?_
  refine Qaa (.int .i64 (kidL x)) 8 rfl kj kj ?_
  refine Qaa (.int .i64 (kidR x)) 9 rfl kj kj ?_
  refine Qaf ?_
  refine hK3 _ _ ?_
  refine wp_seq_k fun K4 hK4=>?_
  refine wp_seq_k fun K5 hK5=>?_
  refine Qab ?_
  refine Qaa (.int .i64 (kidL x)) 15 rfl kj kj ?_
  refine Qaa (.bool true) 16 rfl kj (Qai (u:=.bool (decide ((kidL x)<0))) kj (congrArg Value.bool (decide_eq_true (by omega)))) ?_
  refine Qaa (.bool true) 17 rfl kj kj ?_
  refine Qad 18 rfl kj ?_
  refine Qad 19 rfl kj ?_
  refine Qad 20 rfl kj ?_
  refine Qad 21 rfl kj ?_
  refine Qaa (.bool true) 22 rfl kj kj ?_
  refine Qaa (.bool true) 23 rfl kj kj ?_
  refine Qad 24 rfl kj ?_
  refine Qad 25 rfl kj ?_
  refine Qad 26 rfl kj ?_
  refine Qad 27 rfl kj ?_
  refine Qad 28 rfl kj ?_
  refine Qad 29 rfl kj ?_
  refine Qad 30 rfl kj ?_
  refine Qad 31 rfl kj ?_
  refine Qaa (.bool true) 32 rfl kj kj ?_
  refine Qaa (.bool true) 33 rfl kj kj ?_
  refine Qad 34 rfl kj ?_
  refine Qad 35 rfl kj ?_
  refine Qad 36 rfl kj ?_
  refine Qaa (.bool true) 37 rfl kj kj ?_
  refine Qaf ?_
  refine hK5 _ _ ?_
  refine cond_true kj ?_
  refine wp_seq_k fun K6 hK6=>?_
  refine Qab ?_
  refine Qaa (.agg (ints .u8 (List.replicate 32 0))) 38 rfl kj kj ?_
  have r2_2:=(Qag r2_1 e2)
  refine Qas g2 _ (ints .u8 (List.replicate 32 0)) 28 r2_2 rfl kj (Qap 28 _ _ g2 28 _ _ r2_2 rfl kj kj (isz (n:=32) kj ((Qae _ _).trans (qZ (n:=32)))) (eqsz (n:=32) ((Qae _ _).trans (qZ (n:=32))) ((Qae _ _).trans (qZ (n:=32)))) (Qat _ _)) fun W3 p3 r2_3=>?_
  have x3:Ext w W3:=Puts.ext p3 x2 b2
  refine Qaa (.bool false) 7 rfl kj kj ?_
  refine Qaf ?_
  refine hK6 _ _ ?_
  refine wp_ret ?_
  repeat (first | with_reducible refine goR1 ?_ | with_reducible refine goR2 ?_)
  exact (show bodyPost _ _ _ .ret _ _ from ret2 (.agg (ints .u8 (List.replicate 32 0))) (.bool false) rfl (QaV g2 28 _ r2_3 kj kj (isz (n:=32) kj ((Qae _ _).trans (qZ (n:=32))))) (Qar kj) ⟨rfl,x3⟩)
set_option maxRecDepth 100000 in
theorem QlF (ts : List NdV) (a_t:Option Addr) (c_t B1:Nat) (htl:ts.length≤100000) (hmt:∀ i,i<ts.length→(ndi ts i).n.ms.length≤50) (w:World) (ht:TrAt B1 w a_t ts) (hT:TabAt w) (x child:Int) (hi:i64 x) (h1:¬ kidL x<0) (h2:((ts.length:Nat):Int)≤x):Calls Tryd.prog 15 #[.slice a_t ts.length c_t,.int .i64 x,.int .i64 child] w (Ret w (.tuple #[.agg (ints .u8 (List.replicate 32 0)),.bool false])):=by
  refine enter 47 [(0,.slice a_t ts.length c_t),(1,.int .i64 x),(2,.int .i64 child)] Tryd.func15 rfl rfl kj rfl ?_
  refine wp_seq_k fun K1 hK1=>?_
  refine Qab ?_
  refine Qam (ints .u8 (List.replicate 32 0)) 28 6 rfl kj kj fun g2 W1 l2 e1 r2_1=>?_
  have x1:Ext w W1:=Ext.tr (Rely.Ext.refl w) e1
  have b2:w.heap.size≤g2:=qT (Rely.Ext.refl w).size l2
  refine Qaa (.bool false) 7 rfl kj kj ?_
  refine Qaf ?_
  refine hK1 _ _ ?_
  refine wp_seq_k fun K3 hK3=>?_
  refine Qab ?_
  refine Qaa (.int .i64 x) 11 rfl kj kj ?_
  refine Qal (.tuple #[.int .i64 (kidL x),.int .i64 (kidR x)]) 36 #[.int .i64 x] 12 rfl kj kj (Qe8 x hi _ (TabAt.ext hT x1)) fun W2 e2=>?_
  have x2:Ext w W2:=Ext.tr x1 e2
  refine Qaa (.tuple #[.int .i64 (kidL x),.int .i64 (kidR x)]) 10 rfl kj kj ?_
  refine Qaa (.int .i64 (kidL x)) 13 rfl kj kj ?_
  refine Qaa (.int .i64 (kidR x)) 14 rfl kj kj ?_
  refine Qaa (.int .i64 (kidL x)) 8 rfl kj kj ?_
  refine Qaa (.int .i64 (kidR x)) 9 rfl kj kj ?_
  refine Qaf ?_
  refine hK3 _ _ ?_
  refine wp_seq_k fun K4 hK4=>?_
  refine wp_seq_k fun K5 hK5=>?_
  refine Qab ?_
  refine Qaa (.int .i64 (kidL x)) 15 rfl kj kj ?_
  refine Qaa (.bool false) 16 rfl kj (Qai (u:=.bool (decide ((kidL x)<0))) kj (congrArg Value.bool (decide_eq_false (by omega)))) ?_
  refine Qaa (.bool false) 17 rfl kj kj ?_
  refine Qaa (.int .i64 x) 18 rfl kj kj ?_
  refine Qaa (.slice a_t ts.length c_t) 19 rfl kj kj ?_
  refine Qaa (.int .i64 ((ts.length:Nat):Int)) 20 rfl kj kj ?_
  refine Qaa (.bool true) 21 rfl kj (Qai (u:=.bool (decide (x≥((ts.length:Nat):Int)))) kj (congrArg Value.bool (decide_eq_true (by omega)))) ?_
  refine Qaa (.bool true) 22 rfl kj kj ?_
  refine Qaa (.bool true) 23 rfl kj kj ?_
  refine Qad 24 rfl kj ?_
  refine Qad 25 rfl kj ?_
  refine Qad 26 rfl kj ?_
  refine Qad 27 rfl kj ?_
  refine Qad 28 rfl kj ?_
  refine Qad 29 rfl kj ?_
  refine Qad 30 rfl kj ?_
  refine Qad 31 rfl kj ?_
  refine Qaa (.bool true) 32 rfl kj kj ?_
  refine Qaa (.bool true) 33 rfl kj kj ?_
  refine Qad 34 rfl kj ?_
  refine Qad 35 rfl kj ?_
  refine Qad 36 rfl kj ?_
  refine Qaa (.bool true) 37 rfl kj kj ?_
  refine Qaf ?_
  refine hK5 _ _ ?_
  refine cond_true kj ?_
  refine wp_seq_k fun K6 hK6=>?_
  refine Qab ?_
  refine Qaa (.agg (ints .u8 (List.replicate 32 0))) 38 rfl kj kj ?_
  have r2_2:=(Qag r2_1 e2)
  refine Qas g2 _ (ints .u8 (List.replicate 32 0)) 28 r2_2 rfl kj (Qap 28 _ _ g2 28 _ _ r2_2 rfl kj kj (isz (n:=32) kj ((Qae _ _).trans (qZ (n:=32)))) (eqsz (n:=32) ((Qae _ _).trans (qZ (n:=32))) ((Qae _ _).trans (qZ (n:=32)))) (Qat _ _)) fun W3 p3 r2_3=>?_
  have x3:Ext w W3:=Puts.ext p3 x2 b2
  refine Qaa (.bool false) 7 rfl kj kj ?_
  refine Qaf ?_
  refine hK6 _ _ ?_
  refine wp_ret ?_
  repeat (first | with_reducible refine goR1 ?_ | with_reducible refine goR2 ?_)
  exact (show bodyPost _ _ _ .ret _ _ from ret2 (.agg (ints .u8 (List.replicate 32 0))) (.bool false) rfl (QaV g2 28 _ r2_3 kj kj (isz (n:=32) kj ((Qae _ _).trans (qZ (n:=32))))) (Qar kj) ⟨rfl,x3⟩)
set_option maxRecDepth 100000 in
theorem QlC (ts : List NdV) (a_t:Option Addr) (c_t B1:Nat) (htl:ts.length≤100000) (hmt:∀ i,i<ts.length→(ndi ts i).n.ms.length≤50) (w:World) (ht:TrAt B1 w a_t ts) (hT:TabAt w) (x child:Int) (hi:i64 x) (h1:¬ kidL x<0) (h2:x<((ts.length:Nat):Int)) (h3:child≠kidL x∧child≠kidR x):Calls Tryd.prog 15 #[.slice a_t ts.length c_t,.int .i64 x,.int .i64 child] w (Ret w (.tuple #[.agg (ints .u8 (List.replicate 32 0)),.bool false])):=by
  refine enter 47 [(0,.slice a_t ts.length c_t),(1,.int .i64 x),(2,.int .i64 child)] Tryd.func15 rfl rfl kj rfl ?_
  refine wp_seq_k fun K1 hK1=>?_
  refine Qab ?_
  refine Qam (ints .u8 (List.replicate 32 0)) 28 6 rfl kj kj fun g2 W1 l2 e1 r2_1=>?_
  have x1:Ext w W1:=Ext.tr (Rely.Ext.refl w) e1
  have b2:w.heap.size≤g2:=qT (Rely.Ext.refl w).size l2
  refine Qaa (.bool false) 7 rfl kj kj ?_
  refine Qaf ?_
  refine hK1 _ _ ?_
  refine wp_seq_k fun K3 hK3=>?_
  refine Qab ?_
  refine Qaa (.int .i64 x) 11 rfl kj kj ?_
  refine Qal (.tuple #[.int .i64 (kidL x),.int .i64 (kidR x)]) 36 #[.int .i64 x] 12 rfl kj kj (Qe8 x hi _ (TabAt.ext hT x1)) fun W2 e2=>?_
  have x2:Ext w W2:=Ext.tr x1 e2
  refine Qaa (.tuple #[.int .i64 (kidL x),.int .i64 (kidR x)]) 10 rfl kj kj ?_
  refine Qaa (.int .i64 (kidL x)) 13 rfl kj kj ?_
  refine Qaa (.int .i64 (kidR x)) 14 rfl kj kj ?_
  refine Qaa (.int .i64 (kidL x)) 8 rfl kj kj ?_
  refine Qaa (.int .i64 (kidR x)) 9 rfl kj kj ?_
  refine Qaf ?_
  refine hK3 _ _ ?_
  refine wp_seq_k fun K4 hK4=>?_
  refine wp_seq_k fun K5 hK5=>?_
  refine Qab ?_
  refine Qaa (.int .i64 (kidL x)) 15 rfl kj kj ?_
  refine Qaa (.bool false) 16 rfl kj (Qai (u:=.bool (decide ((kidL x)<0))) kj (congrArg Value.bool (decide_eq_false (by omega)))) ?_
  refine Qaa (.bool false) 17 rfl kj kj ?_
  refine Qaa (.int .i64 x) 18 rfl kj kj ?_
  refine Qaa (.slice a_t ts.length c_t) 19 rfl kj kj ?_
  refine Qaa (.int .i64 ((ts.length:Nat):Int)) 20 rfl kj kj ?_
  refine Qaa (.bool false) 21 rfl kj (Qai (u:=.bool (decide (x≥((ts.length:Nat):Int)))) kj (congrArg Value.bool (decide_eq_false (by omega)))) ?_
  refine Qaa (.bool false) 22 rfl kj kj ?_
  refine Qaa (.bool false) 23 rfl kj kj ?_
  refine Qaa (.int .i64 child) 24 rfl kj kj ?_
  refine Qaa (.int .i64 (kidL x)) 25 rfl kj kj ?_
  refine Qaa (.bool true) 26 rfl kj (Qai (u:=.bool ((child != (kidL x)))) kj (congrArg Value.bool (bne_iff_ne.2 h3.1))) ?_
  refine Qaa (.bool true) 27 rfl kj kj ?_
  refine Qaa (.int .i64 child) 28 rfl kj kj ?_
  refine Qaa (.int .i64 (kidR x)) 29 rfl kj kj ?_
  refine Qaa (.bool true) 30 rfl kj (Qai (u:=.bool ((child != (kidR x)))) kj (congrArg Value.bool (bne_iff_ne.2 h3.2))) ?_
  refine Qaa (.bool true) 31 rfl kj kj ?_
  refine Qaa (.bool true) 32 rfl kj kj ?_
  refine Qaa (.bool true) 33 rfl kj kj ?_
  refine Qad 34 rfl kj ?_
  refine Qad 35 rfl kj ?_
  refine Qad 36 rfl kj ?_
  refine Qaa (.bool true) 37 rfl kj kj ?_
  refine Qaf ?_
  refine hK5 _ _ ?_
  refine cond_true kj ?_
  refine wp_seq_k fun K6 hK6=>?_
  refine Qab ?_
  refine Qaa (.agg (ints .u8 (List.replicate 32 0))) 38 rfl kj kj ?_
  have r2_2:=(Qag r2_1 e2)
  refine Qas g2 _ (ints .u8 (List.replicate 32 0)) 28 r2_2 rfl kj (Qap 28 _ _ g2 28 _ _ r2_2 rfl kj kj (isz (n:=32) kj ((Qae _ _).trans (qZ (n:=32)))) (eqsz (n:=32) ((Qae _ _).trans (qZ (n:=32))) ((Qae _ _).trans (qZ (n:=32)))) (Qat _ _)) fun W3 p3 r2_3=>?_
  have x3:Ext w W3:=Puts.ext p3 x2 b2
  refine Qaa (.bool false) 7 rfl kj kj ?_
  refine Qaf ?_
  refine hK6 _ _ ?_
  refine wp_ret ?_
  repeat (first | with_reducible refine goR1 ?_ | with_reducible refine goR2 ?_)
  exact (show bodyPost _ _ _ .ret _ _ from ret2 (.agg (ints .u8 (List.replicate 32 0))) (.bool false) rfl (QaV g2 28 _ r2_3 kj kj (isz (n:=32) kj ((Qae _ _).trans (qZ (n:=32))))) (Qar kj) ⟨rfl,x3⟩)
set_option maxRecDepth 100000 in
theorem QkM (ts : List NdV) (a_t:Option Addr) (c_t B1:Nat) (htl:ts.length≤100000) (hmt:∀ i,i<ts.length→(ndi ts i).n.ms.length≤50) (w:World) (ht:TrAt B1 w a_t ts) (hT:TabAt w) (x child:Int) (hi:i64 x) (hc:chkT ts=false) (h1:¬ kidL x<0) (h2:x<((ts.length:Nat):Int)) (h3:child=kidL x):Calls Tryd.prog 15 #[.slice a_t ts.length c_t,.int .i64 x,.int .i64 child] w (Ret w (.tuple #[.agg (ints .u8 (List.replicate 32 0)),.bool false])):=by
  refine enter 47 [(0,.slice a_t ts.length c_t),(1,.int .i64 x),(2,.int .i64 child)] Tryd.func15 rfl rfl kj rfl ?_
  refine wp_seq_k fun K1 hK1=>?_
  refine Qab ?_
  refine Qam (ints .u8 (List.replicate 32 0)) 28 6 rfl kj kj fun g2 W1 l2 e1 r2_1=>?_
  have x1:Ext w W1:=Ext.tr (Rely.Ext.refl w) e1
  have b2:w.heap.size≤g2:=qT (Rely.Ext.refl w).size l2
  refine Qaa (.bool false) 7 rfl kj kj ?_
  refine Qaf ?_
  refine hK1 _ _ ?_
  refine wp_seq_k fun K3 hK3=>?_
  refine Qab ?_
  refine Qaa (.int .i64 x) 11 rfl kj kj ?_
  refine Qal (.tuple #[.int .i64 (kidL x),.int .i64 (kidR x)]) 36 #[.int .i64 x] 12 rfl kj kj (Qe8 x hi _ (TabAt.ext hT x1)) fun W2 e2=>?_
  have x2:Ext w W2:=Ext.tr x1 e2
  refine Qaa (.tuple #[.int .i64 (kidL x),.int .i64 (kidR x)]) 10 rfl kj kj ?_
  refine Qaa (.int .i64 (kidL x)) 13 rfl kj kj ?_
  refine Qaa (.int .i64 (kidR x)) 14 rfl kj kj ?_
  refine Qaa (.int .i64 (kidL x)) 8 rfl kj kj ?_
  refine Qaa (.int .i64 (kidR x)) 9 rfl kj kj ?_
  refine Qaf ?_
  refine hK3 _ _ ?_
  refine wp_seq_k fun K4 hK4=>?_
  refine wp_seq_k fun K5 hK5=>?_
  refine Qab ?_
  refine Qaa (.int .i64 (kidL x)) 15 rfl kj kj ?_
  refine Qaa (.bool false) 16 rfl kj (Qai (u:=.bool (decide ((kidL x)<0))) kj (congrArg Value.bool (decide_eq_false (by omega)))) ?_
  refine Qaa (.bool false) 17 rfl kj kj ?_
  refine Qaa (.int .i64 x) 18 rfl kj kj ?_
  refine Qaa (.slice a_t ts.length c_t) 19 rfl kj kj ?_
  refine Qaa (.int .i64 ((ts.length:Nat):Int)) 20 rfl kj kj ?_
  refine Qaa (.bool false) 21 rfl kj (Qai (u:=.bool (decide (x≥((ts.length:Nat):Int)))) kj (congrArg Value.bool (decide_eq_false (by omega)))) ?_
  refine Qaa (.bool false) 22 rfl kj kj ?_
  refine Qaa (.bool false) 23 rfl kj kj ?_
  refine Qaa (.int .i64 child) 24 rfl kj kj ?_
  refine Qaa (.int .i64 (kidL x)) 25 rfl kj kj ?_
  refine Qaa (.bool false) 26 rfl kj (Qai (u:=.bool ((child != (kidL x)))) kj (congrArg Value.bool (bne_eq_false_iff_eq.2 h3))) ?_
  refine Qaa (.bool false) 27 rfl kj kj ?_
  refine Qad 28 rfl kj ?_
  refine Qad 29 rfl kj ?_
  refine Qad 30 rfl kj ?_
  refine Qaa (.bool false) 31 rfl kj kj ?_
  refine Qaa (.bool false) 32 rfl kj kj ?_
  refine Qaa (.bool false) 33 rfl kj kj ?_
  refine Qaa (.slice a_t ts.length c_t) 34 rfl kj kj ?_
  refine Qal (.iface 68 (.int .i64 3)) 26 #[.slice a_t ts.length c_t] 35 rfl kj kj (QhX ts a_t c_t _ _ (TrAt.ext ht x2) htl (fun i hi=>qT (hmt i hi) (by decide)) (TabAt.ext hT x2) hc) fun W3 e3=>?_
  have x3:Ext w W3:=Ext.tr x2 e3
  refine Qaa (.bool true) 36 rfl kj kj ?_
  refine Qaa (.bool true) 37 rfl kj kj ?_
  refine Qaf ?_
  refine hK5 _ _ ?_
  refine cond_true kj ?_
  refine wp_seq_k fun K6 hK6=>?_
  refine Qab ?_
  refine Qaa (.agg (ints .u8 (List.replicate 32 0))) 38 rfl kj kj ?_
  have r2_2:=(Qag r2_1 e2)
  have r2_3:=(Qag r2_2 e3)
  refine Qas g2 _ (ints .u8 (List.replicate 32 0)) 28 r2_3 rfl kj (Qap 28 _ _ g2 28 _ _ r2_3 rfl kj kj (isz (n:=32) kj ((Qae _ _).trans (qZ (n:=32)))) (eqsz (n:=32) ((Qae _ _).trans (qZ (n:=32))) ((Qae _ _).trans (qZ (n:=32)))) (Qat _ _)) fun W4 p4 r2_4=>?_
  have x4:Ext w W4:=Puts.ext p4 x3 b2
  refine Qaa (.bool false) 7 rfl kj kj ?_
  refine Qaf ?_
  refine hK6 _ _ ?_
  refine wp_ret ?_
  repeat (first | with_reducible refine goR1 ?_ | with_reducible refine goR2 ?_)
  exact (show bodyPost _ _ _ .ret _ _ from ret2 (.agg (ints .u8 (List.replicate 32 0))) (.bool false) rfl (QaV g2 28 _ r2_4 kj kj (isz (n:=32) kj ((Qae _ _).trans (qZ (n:=32))))) (Qar kj) ⟨rfl,x4⟩)
set_option maxRecDepth 100000 in
theorem QkL (ts : List NdV) (a_t:Option Addr) (c_t B1:Nat) (htl:ts.length≤100000) (hmt:∀ i,i<ts.length→(ndi ts i).n.ms.length≤50) (w:World) (ht:TrAt B1 w a_t ts) (hT:TabAt w) (x child:Int) (hi:i64 x) (hc:chkT ts=false) (h1:¬ kidL x<0) (h2:x<((ts.length:Nat):Int)) (h4:child≠kidL x) (h3:child=kidR x):Calls Tryd.prog 15 #[.slice a_t ts.length c_t,.int .i64 x,.int .i64 child] w (Ret w (.tuple #[.agg (ints .u8 (List.replicate 32 0)),.bool false])):=by
  refine enter 47 [(0,.slice a_t ts.length c_t),(1,.int .i64 x),(2,.int .i64 child)] Tryd.func15 rfl rfl kj rfl ?_
  refine wp_seq_k fun K1 hK1=>?_
  refine Qab ?_
  refine Qam (ints .u8 (List.replicate 32 0)) 28 6 rfl kj kj fun g2 W1 l2 e1 r2_1=>?_
  have x1:Ext w W1:=Ext.tr (Rely.Ext.refl w) e1
  have b2:w.heap.size≤g2:=qT (Rely.Ext.refl w).size l2
  refine Qaa (.bool false) 7 rfl kj kj ?_
  refine Qaf ?_
  refine hK1 _ _ ?_
  refine wp_seq_k fun K3 hK3=>?_
  refine Qab ?_
  refine Qaa (.int .i64 x) 11 rfl kj kj ?_
  refine Qal (.tuple #[.int .i64 (kidL x),.int .i64 (kidR x)]) 36 #[.int .i64 x] 12 rfl kj kj (Qe8 x hi _ (TabAt.ext hT x1)) fun W2 e2=>?_
  have x2:Ext w W2:=Ext.tr x1 e2
  refine Qaa (.tuple #[.int .i64 (kidL x),.int .i64 (kidR x)]) 10 rfl kj kj ?_
  refine Qaa (.int .i64 (kidL x)) 13 rfl kj kj ?_
  refine Qaa (.int .i64 (kidR x)) 14 rfl kj kj ?_
  refine Qaa (.int .i64 (kidL x)) 8 rfl kj kj ?_
  refine Qaa (.int .i64 (kidR x)) 9 rfl kj kj ?_
  refine Qaf ?_
  refine hK3 _ _ ?_
  refine wp_seq_k fun K4 hK4=>?_
  refine wp_seq_k fun K5 hK5=>?_
  refine Qab ?_
  refine Qaa (.int .i64 (kidL x)) 15 rfl kj kj ?_
  refine Qaa (.bool false) 16 rfl kj (Qai (u:=.bool (decide ((kidL x)<0))) kj (congrArg Value.bool (decide_eq_false (by omega)))) ?_
  refine Qaa (.bool false) 17 rfl kj kj ?_
  refine Qaa (.int .i64 x) 18 rfl kj kj ?_
  refine Qaa (.slice a_t ts.length c_t) 19 rfl kj kj ?_
  refine Qaa (.int .i64 ((ts.length:Nat):Int)) 20 rfl kj kj ?_
  refine Qaa (.bool false) 21 rfl kj (Qai (u:=.bool (decide (x≥((ts.length:Nat):Int)))) kj (congrArg Value.bool (decide_eq_false (by omega)))) ?_
  refine Qaa (.bool false) 22 rfl kj kj ?_
  refine Qaa (.bool false) 23 rfl kj kj ?_
  refine Qaa (.int .i64 child) 24 rfl kj kj ?_
  refine Qaa (.int .i64 (kidL x)) 25 rfl kj kj ?_
  refine Qaa (.bool true) 26 rfl kj (Qai (u:=.bool ((child != (kidL x)))) kj (congrArg Value.bool (bne_iff_ne.2 h4))) ?_
  refine Qaa (.bool true) 27 rfl kj kj ?_
  refine Qaa (.int .i64 child) 28 rfl kj kj ?_
  refine Qaa (.int .i64 (kidR x)) 29 rfl kj kj ?_
  refine Qaa (.bool false) 30 rfl kj (Qai (u:=.bool ((child != (kidR x)))) kj (congrArg Value.bool (bne_eq_false_iff_eq.2 h3))) ?_
  refine Qaa (.bool false) 31 rfl kj kj ?_
  refine Qaa (.bool false) 32 rfl kj kj ?_
  refine Qaa (.bool false) 33 rfl kj kj ?_
  refine Qaa (.slice a_t ts.length c_t) 34 rfl kj kj ?_
  refine Qal (.iface 68 (.int .i64 3)) 26 #[.slice a_t ts.length c_t] 35 rfl kj kj (QhX ts a_t c_t _ _ (TrAt.ext ht x2) htl (fun i hi=>qT (hmt i hi) (by decide)) (TabAt.ext hT x2) hc) fun W3 e3=>?_
  have x3:Ext w W3:=Ext.tr x2 e3
  refine Qaa (.bool true) 36 rfl kj kj ?_
  refine Qaa (.bool true) 37 rfl kj kj ?_
  refine Qaf ?_
  refine hK5 _ _ ?_
  refine cond_true kj ?_
  refine wp_seq_k fun K6 hK6=>?_
  refine Qab ?_
  refine Qaa (.agg (ints .u8 (List.replicate 32 0))) 38 rfl kj kj ?_
  have r2_2:=(Qag r2_1 e2)
  have r2_3:=(Qag r2_2 e3)
  refine Qas g2 _ (ints .u8 (List.replicate 32 0)) 28 r2_3 rfl kj (Qap 28 _ _ g2 28 _ _ r2_3 rfl kj kj (isz (n:=32) kj ((Qae _ _).trans (qZ (n:=32)))) (eqsz (n:=32) ((Qae _ _).trans (qZ (n:=32))) ((Qae _ _).trans (qZ (n:=32)))) (Qat _ _)) fun W4 p4 r2_4=>?_
  have x4:Ext w W4:=Puts.ext p4 x3 b2
  refine Qaa (.bool false) 7 rfl kj kj ?_
  refine Qaf ?_
  refine hK6 _ _ ?_
  refine wp_ret ?_
  repeat (first | with_reducible refine goR1 ?_ | with_reducible refine goR2 ?_)
  exact (show bodyPost _ _ _ .ret _ _ from ret2 (.agg (ints .u8 (List.replicate 32 0))) (.bool false) rfl (QaV g2 28 _ r2_4 kj kj (isz (n:=32) kj ((Qae _ _).trans (qZ (n:=32))))) (Qar kj) ⟨rfl,x4⟩)
set_option maxRecDepth 100000 in
theorem QlE (ts : List NdV) (a_t:Option Addr) (c_t B1:Nat) (htl:ts.length≤100000) (hmt:∀ i,i<ts.length→(ndi ts i).n.ms.length≤50) (w:World) (ht:TrAt B1 w a_t ts) (hT:TabAt w) (hSh:ShT w) (x:Nat) (hc:chkT ts=true) (hx:x<ts.length) (l r:Nat) (hl:l<ts.length) (hr:r<ts.length) (hne:((r:Nat):Int)≠((l:Nat):Int)) (hkid:∀ W,TabAt W→Calls Tryd.prog 36 #[.int .i64 ((x:Nat):Int)] W (Ret W (.tuple #[.int .i64 ((l:Nat):Int),.int .i64 ((r:Nat):Int)]))):Calls Tryd.prog 15 #[.slice a_t ts.length c_t,.int .i64 ((x:Nat):Int),.int .i64 ((l:Nat):Int)] w (Ret w (.tuple #[.agg (ints .u8 (mkN ts x r)),.bool true])):=by
  refine enter 47 [(0,.slice a_t ts.length c_t),(1,.int .i64 ((x:Nat):Int)),(2,.int .i64 ((l:Nat):Int))] Tryd.func15 rfl rfl kj rfl ?_
  refine wp_seq_k fun K1 hK1=>?_
  refine Qab ?_
  refine Qam (ints .u8 (List.replicate 32 0)) 28 6 rfl kj kj fun g2 W1 l2 e1 r2_1=>?_
  have x1:Ext w W1:=Ext.tr (Rely.Ext.refl w) e1
  have b2:w.heap.size≤g2:=qT (Rely.Ext.refl w).size l2
  refine Qaa (.bool false) 7 rfl kj kj ?_
  refine Qaf ?_
  refine hK1 _ _ ?_
  refine wp_seq_k fun K3 hK3=>?_
  refine Qab ?_
  refine Qaa (.int .i64 ((x:Nat):Int)) 11 rfl kj kj ?_
  refine Qal (.tuple #[.int .i64 ((l:Nat):Int),.int .i64 ((r:Nat):Int)]) 36 #[.int .i64 ((x:Nat):Int)] 12 rfl kj kj (hkid _ (TabAt.ext hT x1)) fun W2 e2=>?_
  have x2:Ext w W2:=Ext.tr x1 e2
  refine Qaa (.tuple #[.int .i64 ((l:Nat):Int),.int .i64 ((r:Nat):Int)]) 10 rfl kj kj ?_
  refine Qaa (.int .i64 ((l:Nat):Int)) 13 rfl kj kj ?_
  refine Qaa (.int .i64 ((r:Nat):Int)) 14 rfl kj kj ?_
  refine Qaa (.int .i64 ((l:Nat):Int)) 8 rfl kj kj ?_
  refine Qaa (.int .i64 ((r:Nat):Int)) 9 rfl kj kj ?_
  refine Qaf ?_
  refine hK3 _ _ ?_
  refine wp_seq_k fun K4 hK4=>?_
  refine wp_seq_k fun K5 hK5=>?_
  refine Qab ?_
  refine Qaa (.int .i64 ((l:Nat):Int)) 15 rfl kj kj ?_
  refine Qaa (.bool false) 16 rfl kj (Qai (u:=.bool (decide (((l:Nat):Int)<0))) kj (congrArg Value.bool (decide_eq_false (by omega)))) ?_
  refine Qaa (.bool false) 17 rfl kj kj ?_
  refine Qaa (.int .i64 ((x:Nat):Int)) 18 rfl kj kj ?_
  refine Qaa (.slice a_t ts.length c_t) 19 rfl kj kj ?_
  refine Qaa (.int .i64 ((ts.length:Nat):Int)) 20 rfl kj kj ?_
  refine Qaa (.bool false) 21 rfl kj (Qai (u:=.bool (decide (((x:Nat):Int)≥((ts.length:Nat):Int)))) kj (congrArg Value.bool (decide_eq_false (by omega)))) ?_
  refine Qaa (.bool false) 22 rfl kj kj ?_
  refine Qaa (.bool false) 23 rfl kj kj ?_
  refine Qaa (.int .i64 ((l:Nat):Int)) 24 rfl kj kj ?_
  refine Qaa (.int .i64 ((l:Nat):Int)) 25 rfl kj kj ?_
  refine Qaa (.bool false) 26 rfl kj (Qai (u:=.bool ((((l:Nat):Int) != ((l:Nat):Int)))) kj (congrArg Value.bool (bne_eq_false_iff_eq.2 rfl))) ?_
  refine Qaa (.bool false) 27 rfl kj kj ?_
  refine Qad 28 rfl kj ?_
  refine Qad 29 rfl kj ?_
  refine Qad 30 rfl kj ?_
  refine Qaa (.bool false) 31 rfl kj kj ?_
  refine Qaa (.bool false) 32 rfl kj kj ?_
  refine Qaa (.bool false) 33 rfl kj kj ?_
  refine Qaa (.slice a_t ts.length c_t) 34 rfl kj kj ?_
  refine Qal (.nilIface) 26 #[.slice a_t ts.length c_t] 35 rfl kj kj (Qgx ts a_t c_t _ _ (TrAt.ext ht x2) htl (fun i hi=>qT (hmt i hi) (by decide)) (TabAt.ext hT x2) hc) fun W3 e3=>?_
  have x3:Ext w W3:=Ext.tr x2 e3
  refine Qaa (.bool false) 36 rfl kj kj ?_
  refine Qaa (.bool false) 37 rfl kj kj ?_
  refine Qaf ?_
  refine hK5 _ _ ?_
  refine cond_false kj ?_
  refine wp_skip ?_
  refine hK4 _ _ ?_
  refine wp_seq_k fun K6 hK6=>?_
  refine Qab ?_
  refine Qaa (.slice a_t ts.length c_t) 39 rfl kj kj ?_
  refine Qaa (.int .i64 ((x:Nat):Int)) 40 rfl kj kj ?_
  refine Qaa (.int .i64 ((l:Nat):Int)) 41 rfl kj kj ?_
  refine Qaa (.int .i64 ((r:Nat):Int)) 42 rfl kj kj ?_
  refine Qaa (.int .i64 (((l+r:Nat):Int))) 43 rfl kj (Qai (u:=.int .i64 (IntKind.i64.wrap (((l:Nat):Int)+((r:Nat):Int)))) kj (congrArg (Value.int .i64) (QdI (by omega)))) ?_
  refine Qaa (.int .i64 ((l:Nat):Int)) 44 rfl kj kj ?_
  refine Qaa (.int .i64 (((r:Nat):Int))) 45 rfl kj (Qai (u:=.int .i64 (IntKind.i64.wrap (((l+r:Nat):Int)-((l:Nat):Int)))) kj (congrArg (Value.int .i64) (by rw [show ((l+r:Nat):Int)-((l:Nat):Int)=((r:Nat):Int) by omega]; exact QdI (by omega)))) ?_
  refine Qal (.agg (ints .u8 (mkN ts x r))) 37 #[.slice a_t ts.length c_t,.int .i64 ((x:Nat):Int),.int .i64 (((r:Nat):Int))] 46 rfl kj kj (Qlr ts a_t c_t B1 htl hmt hc _ (TrAt.ext ht x3) (TabAt.ext hT x3) (ShT.ext hSh x3) x r hx (by omega)) fun W4 e4=>?_
  have x4:Ext w W4:=Ext.tr x3 e4
  have r2_2:=(Qag r2_1 e2)
  have r2_3:=(Qag r2_2 e3)
  have r2_4:=(Qag r2_3 e4)
  refine Qas g2 _ (ints .u8 (mkN ts x r)) 28 r2_4 rfl kj (Qap 28 _ _ g2 28 _ _ r2_4 rfl kj kj (isz (n:=32) kj ((Qae _ _).trans (Qb0 ts x r))) (eqsz (n:=32) ((Qae _ _).trans (qZ (n:=32))) ((Qae _ _).trans (Qb0 ts x r))) (Qat _ _)) fun W5 p5 r2_5=>?_
  have x5:Ext w W5:=Puts.ext p5 x4 b2
  refine Qaa (.bool true) 7 rfl kj kj ?_
  refine Qaf ?_
  refine hK6 _ _ ?_
  refine wp_ret ?_
  repeat (first | with_reducible refine goR1 ?_ | with_reducible refine goR2 ?_)
  exact (show bodyPost _ _ _ .ret _ _ from ret2 (.agg (ints .u8 (mkN ts x r))) (.bool true) rfl (QaV g2 28 _ r2_5 kj kj (isz (n:=32) kj ((Qae _ _).trans (Qb0 ts x r)))) (Qar kj) ⟨rfl,x5⟩)
set_option maxRecDepth 100000 in
theorem QlD (ts : List NdV) (a_t:Option Addr) (c_t B1:Nat) (htl:ts.length≤100000) (hmt:∀ i,i<ts.length→(ndi ts i).n.ms.length≤50) (w:World) (ht:TrAt B1 w a_t ts) (hT:TabAt w) (hSh:ShT w) (x:Nat) (hc:chkT ts=true) (hx:x<ts.length) (l r:Nat) (hl:l<ts.length) (hr:r<ts.length) (hne:((r:Nat):Int)≠((l:Nat):Int)) (hkid:∀ W,TabAt W→Calls Tryd.prog 36 #[.int .i64 ((x:Nat):Int)] W (Ret W (.tuple #[.int .i64 ((l:Nat):Int),.int .i64 ((r:Nat):Int)]))):Calls Tryd.prog 15 #[.slice a_t ts.length c_t,.int .i64 ((x:Nat):Int),.int .i64 ((r:Nat):Int)] w (Ret w (.tuple #[.agg (ints .u8 (mkN ts x l)),.bool true])):=by
  refine enter 47 [(0,.slice a_t ts.length c_t),(1,.int .i64 ((x:Nat):Int)),(2,.int .i64 ((r:Nat):Int))] Tryd.func15 rfl rfl kj rfl ?_
  refine wp_seq_k fun K1 hK1=>?_
  refine Qab ?_
  refine Qam (ints .u8 (List.replicate 32 0)) 28 6 rfl kj kj fun g2 W1 l2 e1 r2_1=>?_
  have x1:Ext w W1:=Ext.tr (Rely.Ext.refl w) e1
  have b2:w.heap.size≤g2:=qT (Rely.Ext.refl w).size l2
  refine Qaa (.bool false) 7 rfl kj kj ?_
  refine Qaf ?_
  refine hK1 _ _ ?_
  refine wp_seq_k fun K3 hK3=>?_
  refine Qab ?_
  refine Qaa (.int .i64 ((x:Nat):Int)) 11 rfl kj kj ?_
  refine Qal (.tuple #[.int .i64 ((l:Nat):Int),.int .i64 ((r:Nat):Int)]) 36 #[.int .i64 ((x:Nat):Int)] 12 rfl kj kj (hkid _ (TabAt.ext hT x1)) fun W2 e2=>?_
  have x2:Ext w W2:=Ext.tr x1 e2
  refine Qaa (.tuple #[.int .i64 ((l:Nat):Int),.int .i64 ((r:Nat):Int)]) 10 rfl kj kj ?_
  refine Qaa (.int .i64 ((l:Nat):Int)) 13 rfl kj kj ?_
  refine Qaa (.int .i64 ((r:Nat):Int)) 14 rfl kj kj ?_
  refine Qaa (.int .i64 ((l:Nat):Int)) 8 rfl kj kj ?_
  refine Qaa (.int .i64 ((r:Nat):Int)) 9 rfl kj kj ?_
  refine Qaf ?_
  refine hK3 _ _ ?_
  refine wp_seq_k fun K4 hK4=>?_
  refine wp_seq_k fun K5 hK5=>?_
  refine Qab ?_
  refine Qaa (.int .i64 ((l:Nat):Int)) 15 rfl kj kj ?_
  refine Qaa (.bool false) 16 rfl kj (Qai (u:=.bool (decide (((l:Nat):Int)<0))) kj (congrArg Value.bool (decide_eq_false (by omega)))) ?_
  refine Qaa (.bool false) 17 rfl kj kj ?_
  refine Qaa (.int .i64 ((x:Nat):Int)) 18 rfl kj kj ?_
  refine Qaa (.slice a_t ts.length c_t) 19 rfl kj kj ?_
  refine Qaa (.int .i64 ((ts.length:Nat):Int)) 20 rfl kj kj ?_
  refine Qaa (.bool false) 21 rfl kj (Qai (u:=.bool (decide (((x:Nat):Int)≥((ts.length:Nat):Int)))) kj (congrArg Value.bool (decide_eq_false (by omega)))) ?_
  refine Qaa (.bool false) 22 rfl kj kj ?_
  refine Qaa (.bool false) 23 rfl kj kj ?_
  refine Qaa (.int .i64 ((r:Nat):Int)) 24 rfl kj kj ?_
  refine Qaa (.int .i64 ((l:Nat):Int)) 25 rfl kj kj ?_
  refine Qaa (.bool true) 26 rfl kj (Qai (u:=.bool ((((r:Nat):Int) != ((l:Nat):Int)))) kj (congrArg Value.bool (bne_iff_ne.2 hne))) ?_
  refine Qaa (.bool true) 27 rfl kj kj ?_
  refine Qaa (.int .i64 ((r:Nat):Int)) 28 rfl kj kj ?_
  refine Qaa (.int .i64 ((r:Nat):Int)) 29 rfl kj kj ?_
  refine Qaa (.bool false) 30 rfl kj (Qai (u:=.bool ((((r:Nat):Int) != ((r:Nat):Int)))) kj (congrArg Value.bool (bne_eq_false_iff_eq.2 rfl))) ?_
  refine Qaa (.bool false) 31 rfl kj kj ?_
  refine Qaa (.bool false) 32 rfl kj kj ?_
  refine Qaa (.bool false) 33 rfl kj kj ?_
  refine Qaa (.slice a_t ts.length c_t) 34 rfl kj kj ?_
  refine Qal (.nilIface) 26 #[.slice a_t ts.length c_t] 35 rfl kj kj (Qgx ts a_t c_t _ _ (TrAt.ext ht x2) htl (fun i hi=>qT (hmt i hi) (by decide)) (TabAt.ext hT x2) hc) fun W3 e3=>?_
  have x3:Ext w W3:=Ext.tr x2 e3
  refine Qaa (.bool false) 36 rfl kj kj ?_
  refine Qaa (.bool false) 37 rfl kj kj ?_
  refine Qaf ?_
  refine hK5 _ _ ?_
  refine cond_false kj ?_
  refine wp_skip ?_
  refine hK4 _ _ ?_
  refine wp_seq_k fun K6 hK6=>?_
  refine Qab ?_
  refine Qaa (.slice a_t ts.length c_t) 39 rfl kj kj ?_
  refine Qaa (.int .i64 ((x:Nat):Int)) 40 rfl kj kj ?_
  refine Qaa (.int .i64 ((l:Nat):Int)) 41 rfl kj kj ?_
  refine Qaa (.int .i64 ((r:Nat):Int)) 42 rfl kj kj ?_
  refine Qaa (.int .i64 (((l+r:Nat):Int))) 43 rfl kj (Qai (u:=.int .i64 (IntKind.i64.wrap (((l:Nat):Int)+((r:Nat):Int)))) kj (congrArg (Value.int .i64) (QdI (by omega)))) ?_
  refine Qaa (.int .i64 ((r:Nat):Int)) 44 rfl kj kj ?_
  refine Qaa (.int .i64 (((l:Nat):Int))) 45 rfl kj (Qai (u:=.int .i64 (IntKind.i64.wrap (((l+r:Nat):Int)-((r:Nat):Int)))) kj (congrArg (Value.int .i64) (by rw [show ((l+r:Nat):Int)-((r:Nat):Int)=((l:Nat):Int) by omega]; exact QdI (by omega)))) ?_
  refine Qal (.agg (ints .u8 (mkN ts x l))) 37 #[.slice a_t ts.length c_t,.int .i64 ((x:Nat):Int),.int .i64 (((l:Nat):Int))] 46 rfl kj kj (Qlr ts a_t c_t B1 htl hmt hc _ (TrAt.ext ht x3) (TabAt.ext hT x3) (ShT.ext hSh x3) x l hx (by omega)) fun W4 e4=>?_
  have x4:Ext w W4:=Ext.tr x3 e4
  have r2_2:=(Qag r2_1 e2)
  have r2_3:=(Qag r2_2 e3)
  have r2_4:=(Qag r2_3 e4)
  refine Qas g2 _ (ints .u8 (mkN ts x l)) 28 r2_4 rfl kj (Qap 28 _ _ g2 28 _ _ r2_4 rfl kj kj (isz (n:=32) kj ((Qae _ _).trans (Qb0 ts x l))) (eqsz (n:=32) ((Qae _ _).trans (qZ (n:=32))) ((Qae _ _).trans (Qb0 ts x l))) (Qat _ _)) fun W5 p5 r2_5=>?_
  have x5:Ext w W5:=Puts.ext p5 x4 b2
  refine Qaa (.bool true) 7 rfl kj kj ?_
  refine Qaf ?_
  refine hK6 _ _ ?_
  refine wp_ret ?_
  repeat (first | with_reducible refine goR1 ?_ | with_reducible refine goR2 ?_)
  exact (show bodyPost _ _ _ .ret _ _ from ret2 (.agg (ints .u8 (mkN ts x l))) (.bool true) rfl (QaV g2 28 _ r2_5 kj kj (isz (n:=32) kj ((Qae _ _).trans (Qb0 ts x l)))) (Qar kj) ⟨rfl,x5⟩)
theorem Qf6 (ts : List NdV) (a_t:Option Addr) (c_t B1:Nat) (htl:ts.length≤100000) (hmt:∀ i,i<ts.length→(ndi ts i).n.ms.length≤50) (w:World) (ht:TrAt B1 w a_t ts) (hT:TabAt w) (x child:Int) (hi:i64 x) (h:kidL x<0∨((ts.length:Nat):Int)≤x∨(child≠kidL x∧child≠kidR x)∨chkT ts=false):Calls Tryd.prog 15 #[.slice a_t ts.length c_t,.int .i64 x,.int .i64 child] w (Ret w (.tuple #[.agg (ints .u8 (List.replicate 32 0)),.bool false])):=by
  by_cases h1:kidL x<0
  · exact QlG ts a_t c_t B1 htl hmt w ht hT x child hi h1
  by_cases h2:((ts.length:Nat):Int)≤x
  · exact QlF ts a_t c_t B1 htl hmt w ht hT x child hi h1 h2
  by_cases h3:child=kidL x
  · exact QkM ts a_t c_t B1 htl hmt w ht hT x child hi (by rcases h with h | h | h | h; exact absurd h h1; exact absurd h h2; exact absurd h3 h.1; exact h) h1 (by omega) h3
  by_cases h4:child=kidR x
  · exact QkL ts a_t c_t B1 htl hmt w ht hT x child hi (by rcases h with h | h | h | h; exact absurd h h1; exact absurd h h2; exact absurd h4 h.2; exact h) h1 (by omega) h3 h4
  · exact QlC ts a_t c_t B1 htl hmt w ht hT x child hi h1 (by omega) ⟨h3,h4⟩
set_option maxRecDepth 100000 in
theorem QjP (ts : List NdV) (a_t:Option Addr) (c_t B1:Nat) (htl:ts.length≤100000) (hmt:∀ i,i<ts.length→(ndi ts i).n.ms.length≤50) (w:World) (ht:TrAt B1 w a_t ts) (x:Nat) (hc:chkT ts=true) (hx:x<ts.length) (l r:Nat) (hl:l<ts.length) (hr:r<ts.length) (hne:((r:Nat):Int)≠((l:Nat):Int)) (hkid:∀ W,Calls Tryd.prog 16 #[.int .i64 ((x:Nat):Int)] W (Ret W (.tuple #[.int .i64 ((l:Nat):Int),.int .i64 ((r:Nat):Int)]))):Calls Tryd.prog 17 #[.slice a_t ts.length c_t,.int .i64 ((x:Nat):Int),.int .i64 ((l:Nat):Int)] w (Ret w (.agg (ints .u8 (mkN ts x r)))):=by
 refine enter 47 [(0,.slice a_t ts.length c_t),(1,.int .i64 ((x:Nat):Int)),(2,.int .i64 ((l:Nat):Int))] Tryd.func17 rfl rfl kj rfl ?_
 refine wp_seq_k fun K1 hK1=>?_
 refine Qab ?_
 refine Qam (ints .u8 (List.replicate 32 0)) 28 6 rfl kj kj fun g2 W1 l2 e1 r2_1=>?_
 have x1:Ext w W1:=Ext.tr (Rely.Ext.refl w) e1
 have b2:w.heap.size≤g2:=qT (Rely.Ext.refl w).size l2
 refine Qaf ?_
 refine hK1 _ _ ?_
 refine wp_seq_k fun K3 hK3=>?_
 refine Qab ?_
 refine Qaa (.int .i64 ((x:Nat):Int)) 13 rfl kj kj ?_
 refine Qal (.tuple #[.int .i64 ((l:Nat):Int),.int .i64 ((r:Nat):Int)]) 16 #[.int .i64 ((x:Nat):Int)] 14 rfl kj kj (hkid _) fun W2 e2=>?_
 have x2:Ext w W2:=Ext.tr x1 e2
 refine Qaa (.tuple #[.int .i64 ((l:Nat):Int),.int .i64 ((r:Nat):Int)]) 12 rfl kj kj ?_
 refine Qaa (.int .i64 ((l:Nat):Int)) 15 rfl kj kj ?_
 refine Qaa (.int .i64 ((r:Nat):Int)) 16 rfl kj kj ?_
 refine Qaa (.int .i64 ((l:Nat):Int)) 7 rfl kj kj ?_
 refine Qaa (.int .i64 ((r:Nat):Int)) 8 rfl kj kj ?_
 refine Qaf ?_
 refine hK3 _ _ ?_
 refine wp_seq_k fun K4 hK4=>?_
 refine Qab ?_
 refine Qaa (.int .i64 ((l:Nat):Int)) 17 rfl kj kj ?_
 refine Qaa (.int .i64 ((l:Nat):Int)) 9 rfl kj kj ?_
 refine Qaf ?_
 refine hK4 _ _ ?_
 refine wp_seq_k fun K5 hK5=>?_
 refine wp_seq_k fun K6 hK6=>?_
 refine Qab ?_
 refine Qaa (.int .i64 ((l:Nat):Int)) 18 rfl kj kj ?_
 refine Qaa (.int .i64 ((l:Nat):Int)) 19 rfl kj kj ?_
 refine Qaa (.bool true) 20 rfl kj (Qai (u:=.bool ((((l:Nat):Int)==((l:Nat):Int)))) kj (congrArg Value.bool (beq_self_eq_true _))) ?_
 refine Qaf ?_
 refine hK6 _ _ ?_
 refine cond_true kj ?_
 refine Qab ?_
 refine Qaa (.int .i64 ((r:Nat):Int)) 21 rfl kj kj ?_
 refine Qaa (.int .i64 ((r:Nat):Int)) 9 rfl kj kj ?_
 refine Qaf ?_
 refine hK5 _ _ ?_
 refine wp_seq_k fun K7 hK7=>?_
 obtain ⟨gyT,oyT,hay,hnys⟩:=TrAt.ext ht x2
 have hny:=hnys (x) (by omega)
 obtain ⟨ny,eny⟩:∃ z,z=ndi ts (x):=⟨_,rfl⟩
 rw [←eny] at hny
 have oky:=hny.ok
 have rdy:=hny.rd
 skip
 ·skip
  refine Qab ?_
  refine Qaa (.slice a_t ts.length c_t) 22 rfl kj kj ?_
  refine Qaa (.int .i64 ((r:Nat):Int)) 23 rfl kj kj ?_
  refine Qaa (.slice a_t ts.length c_t) 24 rfl kj kj ?_
  refine Qaa (.int .i64 ((x:Nat):Int)) 25 rfl kj kj ?_
  refine Qaa (.pointer (some ⟨gyT,oyT+(x)*99,none⟩)) 26 rfl kj (Qaq 23 _ _ .i64 (x) gyT oyT ts.length c_t 50 99 a_t (hay (by omega)) rfl kj kj kj kj (by omega)) ?_
  refine Qaa (.pointer (some ⟨gyT,oyT+(x)*99+98,none⟩)) 27 rfl kj kj ?_
  refine Qaa (.slice ny.a ny.n.ms.length ny.c) 28 rfl kj (Qak 24 _ _ (.slice ny.a ny.n.ms.length ny.c) (NdAt.at3 hny).2.2 rfl kj kj) ?_
  refine Qal (.agg (ints .u8 (dgN ts ny.n.ms r))) 14 #[.slice a_t ts.length c_t,.int .i64 ((r:Nat):Int),.slice ny.a ny.n.ms.length ny.c] 29 rfl kj kj (QjR ts a_t c_t B1 htl hmt hc ny.n.ms ny.a ny.c _ _ (TrAt.ext ht x2) (qT (eny▸hmt x hx) (by decide)) (RdK.here (RdK.ext rdy (Rely.Ext.refl W2))) r (by omega)) fun W3 e3=>?_
  have x3:Ext w W3:=Ext.tr x2 e3
  refine Qam (ints .u8 (List.replicate 32 0)) 28 10 rfl kj kj fun g8 W4 l8 e4 r8_4=>?_
  have x4:Ext w W4:=Ext.tr x3 e4
  have b8:w.heap.size≤g8:=qT x3.size l8
  refine Qas g8 _ (ints .u8 (dgN ts ny.n.ms r)) 28 r8_4 rfl kj (Qap 28 _ _ g8 28 _ _ r8_4 rfl kj kj (isz (n:=32) kj ((Qae _ _).trans (QaQ ts ny.n.ms r))) (eqsz (n:=32) ((Qae _ _).trans (qZ (n:=32))) ((Qae _ _).trans (QaQ ts ny.n.ms r))) (Qat _ _)) fun W5 p5 r8_5=>?_
  have x5:Ext w W5:=Puts.ext p5 x4 b8
  refine Qaf ?_
  refine hK7 _ _ ?_
  refine wp_seq_k fun K9 hK9=>?_
  refine Qab ?_
  refine QaB (ints .u8 ([3])) 5 1 30 rfl kj kj fun g10 W6 l10 e6 r10_6=>?_
  have x6:Ext w W6:=Ext.tr x5 e6
  have b10:w.heap.size≤g10:=qT x5.size l10
  refine Qaa (.slice a_t ts.length c_t) 31 rfl kj kj ?_
  refine Qaa (.int .i64 ((x:Nat):Int)) 32 rfl kj kj ?_
  refine Qaa (.pointer (some ⟨gyT,oyT+(x)*99,none⟩)) 33 rfl kj (Qaq 23 _ _ .i64 (x) gyT oyT ts.length c_t 50 99 a_t (hay (by omega)) rfl kj kj kj kj (by omega)) ?_
  refine Qaa (.pointer (some ⟨gyT,oyT+(x)*99+2,none⟩)) 34 rfl kj kj ?_
  refine Qaa (.slice (some ⟨gyT,oyT+(x)*99+2,none⟩) 32 32) 35 rfl kj kj ?_
  have y2_3:Ext W2 W3:=(Rely.Ext.trans (Rely.Ext.refl W2) e3)
  have y2_4:Ext W2 W4:=(Rely.Ext.trans y2_3 e4)
  have y2_5:Ext W2 W5:=(Puts.ext p5 y2_4 (qT y2_3.size l8))
  have y2_6:Ext W2 W6:=(Rely.Ext.trans y2_5 e6)
  have y5_6:Ext W5 W6:=(Rely.Ext.trans (Rely.Ext.refl W5) e6)
  refine QaJ (k:=.u8) (T:=5) (xs:=[3]) (ys:=ny.n.key) (V:=W5) 1 (.tmp 30) (.tmp 35) 59 rfl kj kj (by decide) 36 rfl kj kj kj (QbH (xs:=[3]) rfl l10 r10_6 (by decide)) (RdK.here (NdAt.keyS (NdAt.ext hny y2_6))) (by simp only [List.length_append,oky.kl,oky.pl,QaQ,List.length_cons,List.length_nil]; omega) y5_6 fun z1 W7 f11 y7 l7=>?_
  have x7:Ext w W7:=Ext.low x6 l7 x5.size
  refine Qaa (z1) 11 rfl kj kj ?_
  refine Qaf ?_
  refine hK9 _ _ ?_
  refine wp_seq_k fun K13 hK13=>?_
  refine QbK (fun _=>True) kj fun W8 e8=>⟨trivial,?_⟩
  have x8:Ext w W8:=Ext.tr x7 e8
  refine QaA 0 (z1) 37 rfl rfl kj kj (fun _ _ _ h=>h) (fun W hR=>by kernel_rfl) ?_
  refine QaA 1 (.slice a_t ts.length c_t) 38 rfl rfl kj kj (fun _ _ _ h=>h) (fun W hR=>by kernel_rfl) ?_
  refine QaA 2 (.int .i64 ((x:Nat):Int)) 39 rfl rfl kj kj (fun _ _ _ h=>h) (fun W hR=>by kernel_rfl) ?_
  refine QaA 3 (.pointer (some ⟨gyT,oyT+(x)*99,none⟩)) 40 rfl rfl kj kj (fun _ _ _ h=>h) (fun W hR=>(Qaq 23 _ _ .i64 (x) gyT oyT ts.length c_t 50 99 a_t (hay (by omega)) rfl kj kj kj kj (by omega))) ?_
  refine QaA 4 (.pointer (some ⟨gyT,oyT+(x)*99+66,none⟩)) 41 rfl rfl kj kj (fun _ _ _ h=>h) (fun W hR=>by kernel_rfl) ?_
  refine QaA 5 (.slice (some ⟨gyT,oyT+(x)*99+66,none⟩) 32 32) 42 rfl rfl kj kj (fun _ _ _ h=>h) (fun W hR=>by kernel_rfl) ?_
  refine QaA 7 (.slice (some ⟨g8,0,none⟩) 32 32) 44 rfl rfl kj kj (fun _ _ _ h=>h) (fun W hR=>by kernel_rfl) ?_
  refine Qby 6 kj ?_
  have f14_8:=(f11.ext e8)
  have y2_7:Ext W2 W7:=(Ext.low y2_6 l7 y2_5.size)
  have y2_8:Ext W2 W8:=(Rely.Ext.trans y2_7 e8)
  have y5_8:Ext W5 W8:=(Rely.Ext.trans y7 e8)
  refine Wr.wo_appendT (k:=.u8) (T:=5) (xs:=[3]++ny.n.key) (ys:=ny.n.pa) (V:=W5) 1 (.tmp 37) (.tmp 42) 59 rfl kj kj (by decide) 43 rfl 6 rfl kj kj kj f14_8 (RdK.here (NdAt.paS (NdAt.ext hny y2_8))) (by simp only [List.length_append,oky.kl,oky.pl,QaQ,List.length_cons,List.length_nil]; omega) y5_8 fun z2 W9 f15 y9 l9=>?_
  have x9:Ext w W9:=Ext.low x8 l9 x5.size
  refine Qby 8 kj ?_
  have r8_6:=(Qag r8_5 e6)
  have r8_7:=(QaZ l7 r8_6 (Qa1 r8_5))
  have r8_8:=(Qag r8_7 e8)
  have r8_9:=(QaZ l9 r8_8 (Qa1 r8_5))
  refine Wr.wo_appendT (k:=.u8) (T:=5) (xs:=[3]++ny.n.key++ny.n.pa) (ys:=dgN ts ny.n.ms r) (V:=W5) 1 (.tmp 43) (.tmp 44) 59 rfl kj kj (by decide) 45 rfl 8 rfl kj kj kj f15 (QaP (xs:=dgN ts ny.n.ms r) (n:=32) (QaQ ts ny.n.ms r) r8_9 (Qa1 r8_9) (show 32≤maxLen from by decide)) (by simp only [List.length_append,oky.kl,oky.pl,QaQ,List.length_cons,List.length_nil]; omega) y9 fun z3 W10 f17 y10 l10=>?_
  have x10:Ext w W10:=Ext.low x9 l10 x5.size
  refine Qby 9 kj ?_
  have hrd19:=(OwnN.rd f17)
  refine Qcm rfl (fun v W'=>v=(.agg (ints .u8 (dig ((([3]++ny.n.key)++ny.n.pa)++(dgN ts ny.n.ms r)))))∧Ext W10 W') 34 #[z3] 46 rfl kj kj ((QfB ((([3]++ny.n.key)++ny.n.pa)++(dgN ts ny.n.ms r)) _ _ _ (by simp only [List.length_append,oky.kl,oky.pl,QaQ,List.length_cons,List.length_nil]; omega) (Qbp (Qbp (Qbp (Qc8 [3] (by decide)) oky.kb) oky.pb) (QbX _)) (RdK.here hrd19)).mono fun e w' h=>⟨_,h.1,rfl,h.2⟩) (fun _ _ _=>trivial) fun vv20 W11 hh20=>?_
  obtain ⟨rfl,e11⟩:=hh20
  have x11:Ext w W11:=Ext.tr x10 e11
  refine Qby 10 kj ?_
  have r2_2:=(Qag r2_1 e2)
  have r2_3:=(Qag r2_2 e3)
  have r2_4:=(Qag r2_3 e4)
  have r2_5:=(Puts.row p5 r2_4 (Qaw r2_3 l8))
  have r2_6:=(Qag r2_5 e6)
  have r2_7:=(QaZ l7 r2_6 (Qa1 r2_5))
  have r2_8:=(Qag r2_7 e8)
  have r2_9:=(QaZ l9 r2_8 (Qa1 r2_5))
  have r2_10:=(QaZ l10 r2_9 (Qa1 r2_5))
  have r2_11:=(Qag r2_10 e11)
  refine QfT g2 _ (ints .u8 (dig ((([3]++ny.n.key)++ny.n.pa)++(dgN ts ny.n.ms r)))) 28 r2_11 rfl rfl kj (Qap 28 _ _ g2 28 _ _ r2_11 rfl kj kj (isz (n:=32) kj ((Qae _ _).trans (QaF _))) (eqsz (n:=32) ((Qae _ _).trans (qZ (n:=32))) ((Qae _ _).trans (QaF _))) (Qat _ _)) (fun _ _=>trivial) fun W12 p12 r2_12=>?_
  have x12:Ext w W12:=Puts.ext p12 x11 b2
  refine QcV kj ?_
  refine hK13 _ _ ?_
  refine wp_ret ?_
  repeat (first | with_reducible refine goR1 ?_ | with_reducible refine goR2 ?_)
  exact (show bodyPost _ _ _ .ret _ _ from ret1 (.agg (ints .u8 (dig ((([3]++ny.n.key)++ny.n.pa)++(dgN ts ny.n.ms r))))) rfl (QaV g2 28 _ r2_12 kj kj (isz (n:=32) kj ((Qae _ _).trans (QaF _)))) ⟨by unfold mkN; rw [←eny],x12⟩)
set_option maxRecDepth 100000 in
theorem QjO (ts : List NdV) (a_t:Option Addr) (c_t B1:Nat) (htl:ts.length≤100000) (hmt:∀ i,i<ts.length→(ndi ts i).n.ms.length≤50) (w:World) (ht:TrAt B1 w a_t ts) (x:Nat) (hc:chkT ts=true) (hx:x<ts.length) (l r:Nat) (hl:l<ts.length) (hr:r<ts.length) (hne:((r:Nat):Int)≠((l:Nat):Int)) (hkid:∀ W,Calls Tryd.prog 16 #[.int .i64 ((x:Nat):Int)] W (Ret W (.tuple #[.int .i64 ((l:Nat):Int),.int .i64 ((r:Nat):Int)]))):Calls Tryd.prog 17 #[.slice a_t ts.length c_t,.int .i64 ((x:Nat):Int),.int .i64 ((r:Nat):Int)] w (Ret w (.agg (ints .u8 (mkN ts x l)))):=by
 refine enter 47 [(0,.slice a_t ts.length c_t),(1,.int .i64 ((x:Nat):Int)),(2,.int .i64 ((r:Nat):Int))] Tryd.func17 rfl rfl kj rfl ?_
 refine wp_seq_k fun K1 hK1=>?_
 refine Qab ?_
 refine Qam (ints .u8 (List.replicate 32 0)) 28 6 rfl kj kj fun g2 W1 l2 e1 r2_1=>?_
 have x1:Ext w W1:=Ext.tr (Rely.Ext.refl w) e1
 have b2:w.heap.size≤g2:=qT (Rely.Ext.refl w).size l2
 refine Qaf ?_
 refine hK1 _ _ ?_
 refine wp_seq_k fun K3 hK3=>?_
 refine Qab ?_
 refine Qaa (.int .i64 ((x:Nat):Int)) 13 rfl kj kj ?_
 refine Qal (.tuple #[.int .i64 ((l:Nat):Int),.int .i64 ((r:Nat):Int)]) 16 #[.int .i64 ((x:Nat):Int)] 14 rfl kj kj (hkid _) fun W2 e2=>?_
 have x2:Ext w W2:=Ext.tr x1 e2
 refine Qaa (.tuple #[.int .i64 ((l:Nat):Int),.int .i64 ((r:Nat):Int)]) 12 rfl kj kj ?_
 refine Qaa (.int .i64 ((l:Nat):Int)) 15 rfl kj kj ?_
 refine Qaa (.int .i64 ((r:Nat):Int)) 16 rfl kj kj ?_
 refine Qaa (.int .i64 ((l:Nat):Int)) 7 rfl kj kj ?_
 refine Qaa (.int .i64 ((r:Nat):Int)) 8 rfl kj kj ?_
 refine Qaf ?_
 refine hK3 _ _ ?_
 refine wp_seq_k fun K4 hK4=>?_
 refine Qab ?_
 refine Qaa (.int .i64 ((l:Nat):Int)) 17 rfl kj kj ?_
 refine Qaa (.int .i64 ((l:Nat):Int)) 9 rfl kj kj ?_
 refine Qaf ?_
 refine hK4 _ _ ?_
 refine wp_seq_k fun K5 hK5=>?_
 refine wp_seq_k fun K6 hK6=>?_
 refine Qab ?_
 refine Qaa (.int .i64 ((r:Nat):Int)) 18 rfl kj kj ?_
 refine Qaa (.int .i64 ((l:Nat):Int)) 19 rfl kj kj ?_
 refine Qaa (.bool false) 20 rfl kj (Qai (u:=.bool ((((r:Nat):Int)==((l:Nat):Int)))) kj (congrArg Value.bool (beq_eq_false_iff_ne.2 hne))) ?_
 refine Qaf ?_
 refine hK6 _ _ ?_
 refine cond_false kj ?_
 refine wp_skip ?_
 refine hK5 _ _ ?_
 refine wp_seq_k fun K7 hK7=>?_
 obtain ⟨gyT,oyT,hay,hnys⟩:=TrAt.ext ht x2
 have hny:=hnys (x) (by omega)
 obtain ⟨ny,eny⟩:∃ z,z=ndi ts (x):=⟨_,rfl⟩
 rw [←eny] at hny
 have oky:=hny.ok
 have rdy:=hny.rd
 skip
 ·skip
  refine Qab ?_
  refine Qaa (.slice a_t ts.length c_t) 22 rfl kj kj ?_
  refine Qaa (.int .i64 ((l:Nat):Int)) 23 rfl kj kj ?_
  refine Qaa (.slice a_t ts.length c_t) 24 rfl kj kj ?_
  refine Qaa (.int .i64 ((x:Nat):Int)) 25 rfl kj kj ?_
  refine Qaa (.pointer (some ⟨gyT,oyT+(x)*99,none⟩)) 26 rfl kj (Qaq 23 _ _ .i64 (x) gyT oyT ts.length c_t 50 99 a_t (hay (by omega)) rfl kj kj kj kj (by omega)) ?_
  refine Qaa (.pointer (some ⟨gyT,oyT+(x)*99+98,none⟩)) 27 rfl kj kj ?_
  refine Qaa (.slice ny.a ny.n.ms.length ny.c) 28 rfl kj (Qak 24 _ _ (.slice ny.a ny.n.ms.length ny.c) (NdAt.at3 hny).2.2 rfl kj kj) ?_
  refine Qal (.agg (ints .u8 (dgN ts ny.n.ms l))) 14 #[.slice a_t ts.length c_t,.int .i64 ((l:Nat):Int),.slice ny.a ny.n.ms.length ny.c] 29 rfl kj kj (QjR ts a_t c_t B1 htl hmt hc ny.n.ms ny.a ny.c _ _ (TrAt.ext ht x2) (qT (eny▸hmt x hx) (by decide)) (RdK.here (RdK.ext rdy (Rely.Ext.refl W2))) l (by omega)) fun W3 e3=>?_
  have x3:Ext w W3:=Ext.tr x2 e3
  refine Qam (ints .u8 (List.replicate 32 0)) 28 10 rfl kj kj fun g8 W4 l8 e4 r8_4=>?_
  have x4:Ext w W4:=Ext.tr x3 e4
  have b8:w.heap.size≤g8:=qT x3.size l8
  refine Qas g8 _ (ints .u8 (dgN ts ny.n.ms l)) 28 r8_4 rfl kj (Qap 28 _ _ g8 28 _ _ r8_4 rfl kj kj (isz (n:=32) kj ((Qae _ _).trans (QaQ ts ny.n.ms l))) (eqsz (n:=32) ((Qae _ _).trans (qZ (n:=32))) ((Qae _ _).trans (QaQ ts ny.n.ms l))) (Qat _ _)) fun W5 p5 r8_5=>?_
  have x5:Ext w W5:=Puts.ext p5 x4 b8
  refine Qaf ?_
  refine hK7 _ _ ?_
  refine wp_seq_k fun K9 hK9=>?_
  refine Qab ?_
  refine QaB (ints .u8 ([3])) 5 1 30 rfl kj kj fun g10 W6 l10 e6 r10_6=>?_
  have x6:Ext w W6:=Ext.tr x5 e6
  have b10:w.heap.size≤g10:=qT x5.size l10
  refine Qaa (.slice a_t ts.length c_t) 31 rfl kj kj ?_
  refine Qaa (.int .i64 ((x:Nat):Int)) 32 rfl kj kj ?_
  refine Qaa (.pointer (some ⟨gyT,oyT+(x)*99,none⟩)) 33 rfl kj (Qaq 23 _ _ .i64 (x) gyT oyT ts.length c_t 50 99 a_t (hay (by omega)) rfl kj kj kj kj (by omega)) ?_
  refine Qaa (.pointer (some ⟨gyT,oyT+(x)*99+2,none⟩)) 34 rfl kj kj ?_
  refine Qaa (.slice (some ⟨gyT,oyT+(x)*99+2,none⟩) 32 32) 35 rfl kj kj ?_
  have y2_3:Ext W2 W3:=(Rely.Ext.trans (Rely.Ext.refl W2) e3)
  have y2_4:Ext W2 W4:=(Rely.Ext.trans y2_3 e4)
  have y2_5:Ext W2 W5:=(Puts.ext p5 y2_4 (qT y2_3.size l8))
  have y2_6:Ext W2 W6:=(Rely.Ext.trans y2_5 e6)
  have y5_6:Ext W5 W6:=(Rely.Ext.trans (Rely.Ext.refl W5) e6)
  refine QaJ (k:=.u8) (T:=5) (xs:=[3]) (ys:=ny.n.key) (V:=W5) 1 (.tmp 30) (.tmp 35) 59 rfl kj kj (by decide) 36 rfl kj kj kj (QbH (xs:=[3]) rfl l10 r10_6 (by decide)) (RdK.here (NdAt.keyS (NdAt.ext hny y2_6))) (by simp only [List.length_append,oky.kl,oky.pl,QaQ,List.length_cons,List.length_nil]; omega) y5_6 fun z1 W7 f11 y7 l7=>?_
  have x7:Ext w W7:=Ext.low x6 l7 x5.size
  refine Qaa (z1) 11 rfl kj kj ?_
  refine Qaf ?_
  refine hK9 _ _ ?_
  refine wp_seq_k fun K13 hK13=>?_
  refine QbK (fun _=>True) kj fun W8 e8=>⟨trivial,?_⟩
  have x8:Ext w W8:=Ext.tr x7 e8
  refine QaA 0 (z1) 37 rfl rfl kj kj (fun _ _ _ h=>h) (fun W hR=>by kernel_rfl) ?_
  refine QaA 1 (.slice a_t ts.length c_t) 38 rfl rfl kj kj (fun _ _ _ h=>h) (fun W hR=>by kernel_rfl) ?_
  refine QaA 2 (.int .i64 ((x:Nat):Int)) 39 rfl rfl kj kj (fun _ _ _ h=>h) (fun W hR=>by kernel_rfl) ?_
  refine QaA 3 (.pointer (some ⟨gyT,oyT+(x)*99,none⟩)) 40 rfl rfl kj kj (fun _ _ _ h=>h) (fun W hR=>(Qaq 23 _ _ .i64 (x) gyT oyT ts.length c_t 50 99 a_t (hay (by omega)) rfl kj kj kj kj (by omega))) ?_
  refine QaA 4 (.pointer (some ⟨gyT,oyT+(x)*99+66,none⟩)) 41 rfl rfl kj kj (fun _ _ _ h=>h) (fun W hR=>by kernel_rfl) ?_
  refine QaA 5 (.slice (some ⟨gyT,oyT+(x)*99+66,none⟩) 32 32) 42 rfl rfl kj kj (fun _ _ _ h=>h) (fun W hR=>by kernel_rfl) ?_
  refine QaA 7 (.slice (some ⟨g8,0,none⟩) 32 32) 44 rfl rfl kj kj (fun _ _ _ h=>h) (fun W hR=>by kernel_rfl) ?_
  refine Qby 6 kj ?_
  have f14_8:=(f11.ext e8)
  have y2_7:Ext W2 W7:=(Ext.low y2_6 l7 y2_5.size)
  have y2_8:Ext W2 W8:=(Rely.Ext.trans y2_7 e8)
  have y5_8:Ext W5 W8:=(Rely.Ext.trans y7 e8)
  refine Wr.wo_appendT (k:=.u8) (T:=5) (xs:=[3]++ny.n.key) (ys:=ny.n.pa) (V:=W5) 1 (.tmp 37) (.tmp 42) 59 rfl kj kj (by decide) 43 rfl 6 rfl kj kj kj f14_8 (RdK.here (NdAt.paS (NdAt.ext hny y2_8))) (by simp only [List.length_append,oky.kl,oky.pl,QaQ,List.length_cons,List.length_nil]; omega) y5_8 fun z2 W9 f15 y9 l9=>?_
  have x9:Ext w W9:=Ext.low x8 l9 x5.size
  refine Qby 8 kj ?_
  have r8_6:=(Qag r8_5 e6)
  have r8_7:=(QaZ l7 r8_6 (Qa1 r8_5))
  have r8_8:=(Qag r8_7 e8)
  have r8_9:=(QaZ l9 r8_8 (Qa1 r8_5))
  refine Wr.wo_appendT (k:=.u8) (T:=5) (xs:=[3]++ny.n.key++ny.n.pa) (ys:=dgN ts ny.n.ms l) (V:=W5) 1 (.tmp 43) (.tmp 44) 59 rfl kj kj (by decide) 45 rfl 8 rfl kj kj kj f15 (QaP (xs:=dgN ts ny.n.ms l) (n:=32) (QaQ ts ny.n.ms l) r8_9 (Qa1 r8_9) (show 32≤maxLen from by decide)) (by simp only [List.length_append,oky.kl,oky.pl,QaQ,List.length_cons,List.length_nil]; omega) y9 fun z3 W10 f17 y10 l10=>?_
  have x10:Ext w W10:=Ext.low x9 l10 x5.size
  refine Qby 9 kj ?_
  have hrd19:=(OwnN.rd f17)
  refine Qcm rfl (fun v W'=>v=(.agg (ints .u8 (dig ((([3]++ny.n.key)++ny.n.pa)++(dgN ts ny.n.ms l)))))∧Ext W10 W') 34 #[z3] 46 rfl kj kj ((QfB ((([3]++ny.n.key)++ny.n.pa)++(dgN ts ny.n.ms l)) _ _ _ (by simp only [List.length_append,oky.kl,oky.pl,QaQ,List.length_cons,List.length_nil]; omega) (Qbp (Qbp (Qbp (Qc8 [3] (by decide)) oky.kb) oky.pb) (QbX _)) (RdK.here hrd19)).mono fun e w' h=>⟨_,h.1,rfl,h.2⟩) (fun _ _ _=>trivial) fun vv20 W11 hh20=>?_
  obtain ⟨rfl,e11⟩:=hh20
  have x11:Ext w W11:=Ext.tr x10 e11
  refine Qby 10 kj ?_
  have r2_2:=(Qag r2_1 e2)
  have r2_3:=(Qag r2_2 e3)
  have r2_4:=(Qag r2_3 e4)
  have r2_5:=(Puts.row p5 r2_4 (Qaw r2_3 l8))
  have r2_6:=(Qag r2_5 e6)
  have r2_7:=(QaZ l7 r2_6 (Qa1 r2_5))
  have r2_8:=(Qag r2_7 e8)
  have r2_9:=(QaZ l9 r2_8 (Qa1 r2_5))
  have r2_10:=(QaZ l10 r2_9 (Qa1 r2_5))
  have r2_11:=(Qag r2_10 e11)
  refine QfT g2 _ (ints .u8 (dig ((([3]++ny.n.key)++ny.n.pa)++(dgN ts ny.n.ms l)))) 28 r2_11 rfl rfl kj (Qap 28 _ _ g2 28 _ _ r2_11 rfl kj kj (isz (n:=32) kj ((Qae _ _).trans (QaF _))) (eqsz (n:=32) ((Qae _ _).trans (qZ (n:=32))) ((Qae _ _).trans (QaF _))) (Qat _ _)) (fun _ _=>trivial) fun W12 p12 r2_12=>?_
  have x12:Ext w W12:=Puts.ext p12 x11 b2
  refine QcV kj ?_
  refine hK13 _ _ ?_
  refine wp_ret ?_
  repeat (first | with_reducible refine goR1 ?_ | with_reducible refine goR2 ?_)
  exact (show bodyPost _ _ _ .ret _ _ from ret1 (.agg (ints .u8 (dig ((([3]++ny.n.key)++ny.n.pa)++(dgN ts ny.n.ms l))))) rfl (QaV g2 28 _ r2_12 kj kj (isz (n:=32) kj ((Qae _ _).trans (QaF _)))) ⟨by unfold mkN; rw [←eny],x12⟩)
end Go.Proofs.YthfkppjajmjpnaaDoor.Te
end
section
namespace Go.Proofs.YthfkppjajmjpnaaDoor.Te
open Go Go.RowKit
open Rely Auto Own Seat Wk Sha
theorem QhH : Qb2 (fun n x=>decide (kidL x<0) || decide (kidR x≠kidL x))=true:=by decide +kernel
theorem Qks {x n:Int} (hn:Qa0 x n=true) (h:Qa0 (kidL x) n=true):kidR x≠kidL x:=by
  have h1:=QaR QhH hn
  have h2:=QcN h
  simp only [Bool.or_eq_true,decide_eq_true_eq] at h1
  rcases h1 with h1 | h1
  · omega
  · exact h1
theorem Qds (x : Int) (hi:i64 x) (W:World):Calls Tryd.prog 16 #[.int .i64 x] W (Ret W (.tuple #[.int .i64 (kidL x),.int .i64 (kidR x)])):=quiet (rchildren x hi W)
theorem Qku {x : Int} (h:x<0):kidL x<0:=by
  have e:lv x=-1:=by unfold lv; rw [if_pos h]
  unfold kidL
  rw [e,if_pos (by decide)]; decide
set_option maxRecDepth 100000 in
theorem Qh9 (ts : List NdV) (a_t:Option Addr) (c_t B1:Nat) (w:World) (ht:TrAt B1 w a_t ts) (hT:TabAt w) (hSh:ShT w) (x child:Int) (hi:i64 x) (hs:¬ (∀ i,i<ts.length→i≤40∧(ndi ts i).n.ms.length≤50))  : Calls Tryd.prog 4 #[.slice a_t ts.length c_t,.int .i64 x,.int .i64 child] w (Ret w (.bool true)):=by
  refine enter 70 [(0,.slice a_t ts.length c_t),(1,.int .i64 x),(2,.int .i64 child)] Tryd.func4 rfl rfl kj rfl ?_
  refine wp_seq_k fun K1 hK1=>?_
  refine Qab ?_
  refine Qaa (.bool false) 6 rfl kj kj ?_
  refine Qaf ?_
  refine hK1 _ _ ?_
  refine wp_seq_k fun K2 hK2=>?_
  refine wp_seq_k fun K3 hK3=>?_
  refine Qab ?_
  refine Qal (.bool true) 8 #[] 11 rfl kj kj (Qc9 _ (TabAt.ext hT (Rely.Ext.refl w)) (ShT.ext hSh (Rely.Ext.refl w))) fun W1 e1=>?_
  have x1:Ext w W1:=Ext.tr (Rely.Ext.refl w) e1
  refine Qaa (.bool false) 12 rfl kj kj ?_
  refine Qaf ?_
  refine hK3 _ _ ?_
  refine cond_false kj ?_
  refine wp_skip ?_
  refine hK2 _ _ ?_
  refine wp_seq_k fun K4 hK4=>?_
  refine wp_seq_k fun K5 hK5=>?_
  refine Qab ?_
  refine Qaa (.slice a_t ts.length c_t) 13 rfl kj kj ?_
  refine Qal (.bool true) 9 #[.slice a_t ts.length c_t] 14 rfl kj kj (QhF ts a_t c_t _ _ (TrAt.ext ht x1) hs) fun W2 e2=>?_
  have x2:Ext w W2:=Ext.tr x1 e2
  refine Qaf ?_
  refine hK5 _ _ ?_
  refine cond_true kj ?_
  refine wp_seq_k fun K6 hK6=>?_
  refine Qab ?_
  refine Qaa (.bool true) 6 rfl kj kj ?_
  refine Qaf ?_
  refine hK6 _ _ ?_
  refine wp_ret ?_
  repeat (first | with_reducible refine goR1 ?_ | with_reducible refine goR2 ?_)
  exact (show bodyPost _ _ _ .ret _ _ from ret1 (.bool true) rfl (Qar kj) ⟨rfl,x2⟩)
set_option maxRecDepth 100000 in
theorem QhE (ts : List NdV) (a_t:Option Addr) (c_t B1:Nat) (w:World) (ht:TrAt B1 w a_t ts) (hT:TabAt w) (hSh:ShT w) (x child:Int) (hi:i64 x) (hs:∀ i,i<ts.length→i≤40∧(ndi ts i).n.ms.length≤50) (htl:ts.length≤100000) (hmt:∀ i,i<ts.length→(ndi ts i).n.ms.length≤50) (hc:chkT ts=false) (hN:kidL x<0∨((ts.length:Nat):Int)≤x∨(child≠kidL x∧child≠kidR x)∨chkT ts=false):Calls Tryd.prog 4 #[.slice a_t ts.length c_t,.int .i64 x,.int .i64 child] w (Ret w (.bool true)):=by
  refine enter 70 [(0,.slice a_t ts.length c_t),(1,.int .i64 x),(2,.int .i64 child)] Tryd.func4 rfl rfl kj rfl ?_
  refine wp_seq_k fun K1 hK1=>?_
  refine Qab ?_
  refine Qaa (.bool false) 6 rfl kj kj ?_
  refine Qaf ?_
  refine hK1 _ _ ?_
  refine wp_seq_k fun K2 hK2=>?_
  refine wp_seq_k fun K3 hK3=>?_
  refine Qab ?_
  refine Qal (.bool true) 8 #[] 11 rfl kj kj (Qc9 _ (TabAt.ext hT (Rely.Ext.refl w)) (ShT.ext hSh (Rely.Ext.refl w))) fun W1 e1=>?_
  have x1:Ext w W1:=Ext.tr (Rely.Ext.refl w) e1
  refine Qaa (.bool false) 12 rfl kj kj ?_
  refine Qaf ?_
  refine hK3 _ _ ?_
  refine cond_false kj ?_
  refine wp_skip ?_
  refine hK2 _ _ ?_
  refine wp_seq_k fun K4 hK4=>?_
  refine wp_seq_k fun K5 hK5=>?_
  refine Qab ?_
  refine Qaa (.slice a_t ts.length c_t) 13 rfl kj kj ?_
  refine Qal (.bool false) 9 #[.slice a_t ts.length c_t] 14 rfl kj kj (QbV ts a_t c_t _ _ (TrAt.ext ht x1) hs) fun W2 e2=>?_
  have x2:Ext w W2:=Ext.tr x1 e2
  refine Qaf ?_
  refine hK5 _ _ ?_
  refine cond_false kj ?_
  refine wp_skip ?_
  refine hK4 _ _ ?_
  refine wp_seq_k fun K6 hK6=>?_
  refine Qab ?_
  refine Qaa (.slice a_t ts.length c_t) 16 rfl kj kj ?_
  refine Qaa (.int .i64 x) 17 rfl kj kj ?_
  refine Qaa (.int .i64 child) 18 rfl kj kj ?_
  refine Qal (.tuple #[.agg (ints .u8 (List.replicate 32 0)),.bool false]) 15 #[.slice a_t ts.length c_t,.int .i64 x,.int .i64 child] 19 rfl kj kj (Qf6 ts a_t c_t B1 htl hmt _ (TrAt.ext ht x2) (TabAt.ext hT x2) x child hi hN) fun W3 e3=>?_
  have x3:Ext w W3:=Ext.tr x2 e3
  refine Qaa (.tuple #[.agg (ints .u8 (List.replicate 32 0)),.bool false]) 15 rfl kj kj ?_
  refine Qaa (.agg (ints .u8 (List.replicate 32 0))) 20 rfl kj kj ?_
  refine Qaa (.bool false) 21 rfl kj kj ?_
  refine Qam (ints .u8 (List.replicate 32 0)) 28 7 rfl kj kj fun g7 W4 l7 e4 r7_4=>?_
  have x4:Ext w W4:=Ext.tr x3 e4
  have b7:w.heap.size≤g7:=qT x3.size l7
  refine Qas g7 _ (ints .u8 (List.replicate 32 0)) 28 r7_4 rfl kj (Qap 28 _ _ g7 28 _ _ r7_4 rfl kj kj (isz (n:=32) kj ((Qae _ _).trans (qZ (n:=32)))) (eqsz (n:=32) ((Qae _ _).trans (qZ (n:=32))) ((Qae _ _).trans (qZ (n:=32)))) (Qat _ _)) fun W5 p5 r7_5=>?_
  have x5:Ext w W5:=Puts.ext p5 x4 b7
  refine Qaa (.bool false) 8 rfl kj kj ?_
  refine Qaf ?_
  refine hK6 _ _ ?_
  refine wp_seq_k fun K8 hK8=>?_
  refine Qab ?_
  refine Qaa (.int .i64 x) 23 rfl kj kj ?_
  refine Qal (.tuple #[.int .i64 (kidL x),.int .i64 (kidR x)]) 16 #[.int .i64 x] 24 rfl kj kj (Qds x hi _) fun W6 e6=>?_
  have x6:Ext w W6:=Ext.tr x5 e6
  refine Qaa (.tuple #[.int .i64 (kidL x),.int .i64 (kidR x)]) 22 rfl kj kj ?_
  refine Qaa (.int .i64 (kidL x)) 25 rfl kj kj ?_
  refine Qaa (.int .i64 (kidR x)) 26 rfl kj kj ?_
  refine Qaa (.int .i64 (kidL x)) 9 rfl kj kj ?_
  refine Qaa (.int .i64 (kidR x)) 10 rfl kj kj ?_
  refine Qaf ?_
  refine hK8 _ _ ?_
  refine wp_seq_k fun K9 hK9=>?_
  refine wp_seq_k fun K10 hK10=>?_
  refine Qab ?_
  refine Qaa (.slice a_t ts.length c_t) 27 rfl kj kj ?_
  refine Qal (.bool false) 12 #[.slice a_t ts.length c_t] 28 rfl kj kj (QfN ts a_t c_t _ _ (TrAt.ext ht x6) htl (fun i hi=>qT (hmt i hi) (by decide)) false hc) fun W7 e7=>?_
  have x7:Ext w W7:=Ext.tr x6 e7
  refine Qaa (.bool true) 29 rfl kj kj ?_
  refine Qaa (.bool true) 30 rfl kj kj ?_
  refine Qad 31 rfl kj ?_
  refine Qad 32 rfl kj ?_
  refine Qaa (.bool true) 33 rfl kj kj ?_
  refine Qaa (.bool true) 34 rfl kj kj ?_
  refine Qad 35 rfl kj ?_
  refine Qad 36 rfl kj ?_
  refine Qad 37 rfl kj ?_
  refine Qad 38 rfl kj ?_
  refine Qaa (.bool true) 39 rfl kj kj ?_
  refine Qaa (.bool true) 40 rfl kj kj ?_
  refine Qad 41 rfl kj ?_
  refine Qad 42 rfl kj ?_
  refine Qaa (.bool true) 43 rfl kj kj ?_
  refine Qaa (.bool true) 44 rfl kj kj ?_
  refine Qad 45 rfl kj ?_
  refine Qad 46 rfl kj ?_
  refine Qad 47 rfl kj ?_
  refine Qad 48 rfl kj ?_
  refine Qad 49 rfl kj ?_
  refine Qad 50 rfl kj ?_
  refine Qad 51 rfl kj ?_
  refine Qad 52 rfl kj ?_
  refine Qaa (.bool true) 53 rfl kj kj ?_
  refine Qaf ?_
  refine hK10 _ _ ?_
  refine cond_true kj ?_
  refine wp_seq_k fun K11 hK11=>?_
  refine Qab ?_
  refine Qaa (.bool false) 54 rfl kj kj ?_
  refine Qaa (.bool true) 55 rfl kj kj ?_
  refine Qaa (.bool true) 56 rfl kj kj ?_
  have r7_6:=(Qag r7_5 e6)
  have r7_7:=(Qag r7_6 e7)
  refine Qaa (.agg (ints .u8 (List.replicate 32 0))) 57 rfl kj (Qa6 28 _ g7 28 _ _ r7_7 rfl kj kj (isz (n:=32) kj ((Qae _ _).trans (qZ (n:=32))))) ?_
  refine Qaa (.agg (ints .u8 (List.replicate 32 0))) 58 rfl kj kj ?_
  refine Qaa (.bool true) 59 rfl kj (Qa9 28 _ _ _ _ _ (.bool true) rfl kj kj kj (QaE 28 (e:=5) (k:=.u8) (List.replicate 32 0) (List.replicate 32 0) (decide_eq_true rfl) (qZ (n:=32)) (qZ (n:=32)) kj kj kj _)) ?_
  refine Qaa (.bool true) 60 rfl kj kj ?_
  refine Qaa (.bool true) 6 rfl kj kj ?_
  refine Qaf ?_
  refine hK11 _ _ ?_
  refine wp_ret ?_
  repeat (first | with_reducible refine goR1 ?_ | with_reducible refine goR2 ?_)
  exact (show bodyPost _ _ _ .ret _ _ from ret1 (.bool true) rfl (Qar kj) ⟨rfl,x7⟩)
set_option maxRecDepth 100000 in
theorem QhB (ts : List NdV) (a_t:Option Addr) (c_t B1:Nat) (w:World) (ht:TrAt B1 w a_t ts) (hT:TabAt w) (hSh:ShT w) (x child:Int) (hi:i64 x) (hs:∀ i,i<ts.length→i≤40∧(ndi ts i).n.ms.length≤50) (htl:ts.length≤100000) (hmt:∀ i,i<ts.length→(ndi ts i).n.ms.length≤50) (hc:chkT ts=true) (h0:0<ts.length) (hN:kidL x<0∨((ts.length:Nat):Int)≤x∨(child≠kidL x∧child≠kidR x)∨chkT ts=false) (h1:x<0):Calls Tryd.prog 4 #[.slice a_t ts.length c_t,.int .i64 x,.int .i64 child] w (Ret w (.bool true)):=by
  refine enter 70 [(0,.slice a_t ts.length c_t),(1,.int .i64 x),(2,.int .i64 child)] Tryd.func4 rfl rfl kj rfl ?_
  refine wp_seq_k fun K1 hK1=>?_
  refine Qab ?_
  refine Qaa (.bool false) 6 rfl kj kj ?_
  refine Qaf ?_
  refine hK1 _ _ ?_
  refine wp_seq_k fun K2 hK2=>?_
  refine wp_seq_k fun K3 hK3=>?_
  refine Qab ?_
  refine Qal (.bool true) 8 #[] 11 rfl kj kj (Qc9 _ (TabAt.ext hT (Rely.Ext.refl w)) (ShT.ext hSh (Rely.Ext.refl w))) fun W1 e1=>?_
  have x1:Ext w W1:=Ext.tr (Rely.Ext.refl w) e1
  refine Qaa (.bool false) 12 rfl kj kj ?_
  refine Qaf ?_
  refine hK3 _ _ ?_
  refine cond_false kj ?_
  refine wp_skip ?_
  refine hK2 _ _ ?_
  refine wp_seq_k fun K4 hK4=>?_
  refine wp_seq_k fun K5 hK5=>?_
  refine Qab ?_
  refine Qaa (.slice a_t ts.length c_t) 13 rfl kj kj ?_
  refine Qal (.bool false) 9 #[.slice a_t ts.length c_t] 14 rfl kj kj (QbV ts a_t c_t _ _ (TrAt.ext ht x1) hs) fun W2 e2=>?_
  have x2:Ext w W2:=Ext.tr x1 e2
  refine Qaf ?_
  refine hK5 _ _ ?_
  refine cond_false kj ?_
  refine wp_skip ?_
  refine hK4 _ _ ?_
  refine wp_seq_k fun K6 hK6=>?_
  refine Qab ?_
  refine Qaa (.slice a_t ts.length c_t) 16 rfl kj kj ?_
  refine Qaa (.int .i64 x) 17 rfl kj kj ?_
  refine Qaa (.int .i64 child) 18 rfl kj kj ?_
  refine Qal (.tuple #[.agg (ints .u8 (List.replicate 32 0)),.bool false]) 15 #[.slice a_t ts.length c_t,.int .i64 x,.int .i64 child] 19 rfl kj kj (Qf6 ts a_t c_t B1 htl hmt _ (TrAt.ext ht x2) (TabAt.ext hT x2) x child hi hN) fun W3 e3=>?_
  have x3:Ext w W3:=Ext.tr x2 e3
  refine Qaa (.tuple #[.agg (ints .u8 (List.replicate 32 0)),.bool false]) 15 rfl kj kj ?_
  refine Qaa (.agg (ints .u8 (List.replicate 32 0))) 20 rfl kj kj ?_
  refine Qaa (.bool false) 21 rfl kj kj ?_
  refine Qam (ints .u8 (List.replicate 32 0)) 28 7 rfl kj kj fun g7 W4 l7 e4 r7_4=>?_
  have x4:Ext w W4:=Ext.tr x3 e4
  have b7:w.heap.size≤g7:=qT x3.size l7
  refine Qas g7 _ (ints .u8 (List.replicate 32 0)) 28 r7_4 rfl kj (Qap 28 _ _ g7 28 _ _ r7_4 rfl kj kj (isz (n:=32) kj ((Qae _ _).trans (qZ (n:=32)))) (eqsz (n:=32) ((Qae _ _).trans (qZ (n:=32))) ((Qae _ _).trans (qZ (n:=32)))) (Qat _ _)) fun W5 p5 r7_5=>?_
  have x5:Ext w W5:=Puts.ext p5 x4 b7
  refine Qaa (.bool false) 8 rfl kj kj ?_
  refine Qaf ?_
  refine hK6 _ _ ?_
  refine wp_seq_k fun K8 hK8=>?_
  refine Qab ?_
  refine Qaa (.int .i64 x) 23 rfl kj kj ?_
  refine Qal (.tuple #[.int .i64 (kidL x),.int .i64 (kidR x)]) 16 #[.int .i64 x] 24 rfl kj kj (Qds x hi _) fun W6 e6=>?_
  have x6:Ext w W6:=Ext.tr x5 e6
  refine Qaa (.tuple #[.int .i64 (kidL x),.int .i64 (kidR x)]) 22 rfl kj kj ?_
  refine Qaa (.int .i64 (kidL x)) 25 rfl kj kj ?_
  refine Qaa (.int .i64 (kidR x)) 26 rfl kj kj ?_
  refine Qaa (.int .i64 (kidL x)) 9 rfl kj kj ?_
  refine Qaa (.int .i64 (kidR x)) 10 rfl kj kj ?_
  refine Qaf ?_
  refine hK8 _ _ ?_
  refine wp_seq_k fun K9 hK9=>?_
  refine wp_seq_k fun K10 hK10=>?_
  refine Qab ?_
  refine Qaa (.slice a_t ts.length c_t) 27 rfl kj kj ?_
  refine Qal (.bool true) 12 #[.slice a_t ts.length c_t] 28 rfl kj kj (QfN ts a_t c_t _ _ (TrAt.ext ht x6) htl (fun i hi=>qT (hmt i hi) (by decide)) true hc) fun W7 e7=>?_
  have x7:Ext w W7:=Ext.tr x6 e7
  refine Qaa (.bool false) 29 rfl kj kj ?_
  refine Qaa (.bool false) 30 rfl kj kj ?_
  refine Qaa (.int .i64 x) 31 rfl kj kj ?_
  refine Qaa (.bool true) 32 rfl kj (Qai (u:=.bool (decide (x<0))) kj (congrArg Value.bool (decide_eq_true (by omega)))) ?_
  refine Qaa (.bool true) 33 rfl kj kj ?_
  refine Qaa (.bool true) 34 rfl kj kj ?_
  refine Qad 35 rfl kj ?_
  refine Qad 36 rfl kj ?_
  refine Qad 37 rfl kj ?_
  refine Qad 38 rfl kj ?_
  refine Qaa (.bool true) 39 rfl kj kj ?_
  refine Qaa (.bool true) 40 rfl kj kj ?_
  refine Qad 41 rfl kj ?_
  refine Qad 42 rfl kj ?_
  refine Qaa (.bool true) 43 rfl kj kj ?_
  refine Qaa (.bool true) 44 rfl kj kj ?_
  refine Qad 45 rfl kj ?_
  refine Qad 46 rfl kj ?_
  refine Qad 47 rfl kj ?_
  refine Qad 48 rfl kj ?_
  refine Qad 49 rfl kj ?_
  refine Qad 50 rfl kj ?_
  refine Qad 51 rfl kj ?_
  refine Qad 52 rfl kj ?_
  refine Qaa (.bool true) 53 rfl kj kj ?_
  refine Qaf ?_
  refine hK10 _ _ ?_
  refine cond_true kj ?_
  refine wp_seq_k fun K11 hK11=>?_
  refine Qab ?_
  refine Qaa (.bool false) 54 rfl kj kj ?_
  refine Qaa (.bool true) 55 rfl kj kj ?_
  refine Qaa (.bool true) 56 rfl kj kj ?_
  have r7_6:=(Qag r7_5 e6)
  have r7_7:=(Qag r7_6 e7)
  refine Qaa (.agg (ints .u8 (List.replicate 32 0))) 57 rfl kj (Qa6 28 _ g7 28 _ _ r7_7 rfl kj kj (isz (n:=32) kj ((Qae _ _).trans (qZ (n:=32))))) ?_
  refine Qaa (.agg (ints .u8 (List.replicate 32 0))) 58 rfl kj kj ?_
  refine Qaa (.bool true) 59 rfl kj (Qa9 28 _ _ _ _ _ (.bool true) rfl kj kj kj (QaE 28 (e:=5) (k:=.u8) (List.replicate 32 0) (List.replicate 32 0) (decide_eq_true rfl) (qZ (n:=32)) (qZ (n:=32)) kj kj kj _)) ?_
  refine Qaa (.bool true) 60 rfl kj kj ?_
  refine Qaa (.bool true) 6 rfl kj kj ?_
  refine Qaf ?_
  refine hK11 _ _ ?_
  refine wp_ret ?_
  repeat (first | with_reducible refine goR1 ?_ | with_reducible refine goR2 ?_)
  exact (show bodyPost _ _ _ .ret _ _ from ret1 (.bool true) rfl (Qar kj) ⟨rfl,x7⟩)
set_option maxRecDepth 100000 in
theorem QhD (ts : List NdV) (a_t:Option Addr) (c_t B1:Nat) (w:World) (ht:TrAt B1 w a_t ts) (hT:TabAt w) (hSh:ShT w) (x child:Int) (hi:i64 x) (hs:∀ i,i<ts.length→i≤40∧(ndi ts i).n.ms.length≤50) (htl:ts.length≤100000) (hmt:∀ i,i<ts.length→(ndi ts i).n.ms.length≤50) (hc:chkT ts=true) (h0:0<ts.length) (hN:kidL x<0∨((ts.length:Nat):Int)≤x∨(child≠kidL x∧child≠kidR x)∨chkT ts=false) (h1:0≤x) (h2:((ts.length:Nat):Int)≤x):Calls Tryd.prog 4 #[.slice a_t ts.length c_t,.int .i64 x,.int .i64 child] w (Ret w (.bool true)):=by
  refine enter 70 [(0,.slice a_t ts.length c_t),(1,.int .i64 x),(2,.int .i64 child)] Tryd.func4 rfl rfl kj rfl ?_
  refine wp_seq_k fun K1 hK1=>?_
  refine Qab ?_
  refine Qaa (.bool false) 6 rfl kj kj ?_
  refine Qaf ?_
  refine hK1 _ _ ?_
  refine wp_seq_k fun K2 hK2=>?_
  refine wp_seq_k fun K3 hK3=>?_
  refine Qab ?_
  refine Qal (.bool true) 8 #[] 11 rfl kj kj (Qc9 _ (TabAt.ext hT (Rely.Ext.refl w)) (ShT.ext hSh (Rely.Ext.refl w))) fun W1 e1=>?_
  have x1:Ext w W1:=Ext.tr (Rely.Ext.refl w) e1
  refine Qaa (.bool false) 12 rfl kj kj ?_
  refine Qaf ?_
  refine hK3 _ _ ?_
  refine cond_false kj ?_
  refine wp_skip ?_
  refine hK2 _ _ ?_
  refine wp_seq_k fun K4 hK4=>?_
  refine wp_seq_k fun K5 hK5=>?_
  refine Qab ?_
  refine Qaa (.slice a_t ts.length c_t) 13 rfl kj kj ?_
  refine Qal (.bool false) 9 #[.slice a_t ts.length c_t] 14 rfl kj kj (QbV ts a_t c_t _ _ (TrAt.ext ht x1) hs) fun W2 e2=>?_
  have x2:Ext w W2:=Ext.tr x1 e2
  refine Qaf ?_
  refine hK5 _ _ ?_
  refine cond_false kj ?_
  refine wp_skip ?_
  refine hK4 _ _ ?_
  refine wp_seq_k fun K6 hK6=>?_
  refine Qab ?_
  refine Qaa (.slice a_t ts.length c_t) 16 rfl kj kj ?_
  refine Qaa (.int .i64 x) 17 rfl kj kj ?_
  refine Qaa (.int .i64 child) 18 rfl kj kj ?_
  refine Qal (.tuple #[.agg (ints .u8 (List.replicate 32 0)),.bool false]) 15 #[.slice a_t ts.length c_t,.int .i64 x,.int .i64 child] 19 rfl kj kj (Qf6 ts a_t c_t B1 htl hmt _ (TrAt.ext ht x2) (TabAt.ext hT x2) x child hi hN) fun W3 e3=>?_
  have x3:Ext w W3:=Ext.tr x2 e3
  refine Qaa (.tuple #[.agg (ints .u8 (List.replicate 32 0)),.bool false]) 15 rfl kj kj ?_
  refine Qaa (.agg (ints .u8 (List.replicate 32 0))) 20 rfl kj kj ?_
  refine Qaa (.bool false) 21 rfl kj kj ?_
  refine Qam (ints .u8 (List.replicate 32 0)) 28 7 rfl kj kj fun g7 W4 l7 e4 r7_4=>?_
  have x4:Ext w W4:=Ext.tr x3 e4
  have b7:w.heap.size≤g7:=qT x3.size l7
  refine Qas g7 _ (ints .u8 (List.replicate 32 0)) 28 r7_4 rfl kj (Qap 28 _ _ g7 28 _ _ r7_4 rfl kj kj (isz (n:=32) kj ((Qae _ _).trans (qZ (n:=32)))) (eqsz (n:=32) ((Qae _ _).trans (qZ (n:=32))) ((Qae _ _).trans (qZ (n:=32)))) (Qat _ _)) fun W5 p5 r7_5=>?_
  have x5:Ext w W5:=Puts.ext p5 x4 b7
  refine Qaa (.bool false) 8 rfl kj kj ?_
  refine Qaf ?_
  refine hK6 _ _ ?_
  refine wp_seq_k fun K8 hK8=>?_
  refine Qab ?_
  refine Qaa (.int .i64 x) 23 rfl kj kj ?_
  refine Qal (.tuple #[.int .i64 (kidL x),.int .i64 (kidR x)]) 16 #[.int .i64 x] 24 rfl kj kj (Qds x hi _) fun W6 e6=>?_
  have x6:Ext w W6:=Ext.tr x5 e6
  refine Qaa (.tuple #[.int .i64 (kidL x),.int .i64 (kidR x)]) 22 rfl kj kj ?_
  refine Qaa (.int .i64 (kidL x)) 25 rfl kj kj ?_
  refine Qaa (.int .i64 (kidR x)) 26 rfl kj kj ?_
  refine Qaa (.int .i64 (kidL x)) 9 rfl kj kj ?_
  refine Qaa (.int .i64 (kidR x)) 10 rfl kj kj ?_
  refine Qaf ?_
  refine hK8 _ _ ?_
  refine wp_seq_k fun K9 hK9=>?_
  refine wp_seq_k fun K10 hK10=>?_
  refine Qab ?_
  refine Qaa (.slice a_t ts.length c_t) 27 rfl kj kj ?_
  refine Qal (.bool true) 12 #[.slice a_t ts.length c_t] 28 rfl kj kj (QfN ts a_t c_t _ _ (TrAt.ext ht x6) htl (fun i hi=>qT (hmt i hi) (by decide)) true hc) fun W7 e7=>?_
  have x7:Ext w W7:=Ext.tr x6 e7
  refine Qaa (.bool false) 29 rfl kj kj ?_
  refine Qaa (.bool false) 30 rfl kj kj ?_
  refine Qaa (.int .i64 x) 31 rfl kj kj ?_
  refine Qaa (.bool false) 32 rfl kj (Qai (u:=.bool (decide (x<0))) kj (congrArg Value.bool (decide_eq_false (by omega)))) ?_
  refine Qaa (.bool false) 33 rfl kj kj ?_
  refine Qaa (.bool false) 34 rfl kj kj ?_
  refine Qaa (.int .i64 x) 35 rfl kj kj ?_
  refine Qaa (.slice a_t ts.length c_t) 36 rfl kj kj ?_
  refine Qaa (.int .i64 ((ts.length:Nat):Int)) 37 rfl kj kj ?_
  refine Qaa (.bool true) 38 rfl kj (Qai (u:=.bool (decide (x≥((ts.length:Nat):Int)))) kj (congrArg Value.bool (decide_eq_true (by omega)))) ?_
  refine Qaa (.bool true) 39 rfl kj kj ?_
  refine Qaa (.bool true) 40 rfl kj kj ?_
  refine Qad 41 rfl kj ?_
  refine Qad 42 rfl kj ?_
  refine Qaa (.bool true) 43 rfl kj kj ?_
  refine Qaa (.bool true) 44 rfl kj kj ?_
  refine Qad 45 rfl kj ?_
  refine Qad 46 rfl kj ?_
  refine Qad 47 rfl kj ?_
  refine Qad 48 rfl kj ?_
  refine Qad 49 rfl kj ?_
  refine Qad 50 rfl kj ?_
  refine Qad 51 rfl kj ?_
  refine Qad 52 rfl kj ?_
  refine Qaa (.bool true) 53 rfl kj kj ?_
  refine Qaf ?_
  refine hK10 _ _ ?_
  refine cond_true kj ?_
  refine wp_seq_k fun K11 hK11=>?_
  refine Qab ?_
  refine Qaa (.bool false) 54 rfl kj kj ?_
  refine Qaa (.bool true) 55 rfl kj kj ?_
  refine Qaa (.bool true) 56 rfl kj kj ?_
  have r7_6:=(Qag r7_5 e6)
  have r7_7:=(Qag r7_6 e7)
  refine Qaa (.agg (ints .u8 (List.replicate 32 0))) 57 rfl kj (Qa6 28 _ g7 28 _ _ r7_7 rfl kj kj (isz (n:=32) kj ((Qae _ _).trans (qZ (n:=32))))) ?_
  refine Qaa (.agg (ints .u8 (List.replicate 32 0))) 58 rfl kj kj ?_
  refine Qaa (.bool true) 59 rfl kj (Qa9 28 _ _ _ _ _ (.bool true) rfl kj kj kj (QaE 28 (e:=5) (k:=.u8) (List.replicate 32 0) (List.replicate 32 0) (decide_eq_true rfl) (qZ (n:=32)) (qZ (n:=32)) kj kj kj _)) ?_
  refine Qaa (.bool true) 60 rfl kj kj ?_
  refine Qaa (.bool true) 6 rfl kj kj ?_
  refine Qaf ?_
  refine hK11 _ _ ?_
  refine wp_ret ?_
  repeat (first | with_reducible refine goR1 ?_ | with_reducible refine goR2 ?_)
  exact (show bodyPost _ _ _ .ret _ _ from ret1 (.bool true) rfl (Qar kj) ⟨rfl,x7⟩)
set_option maxRecDepth 100000 in
theorem Qfx (ts : List NdV) (a_t:Option Addr) (c_t B1:Nat) (w:World) (ht:TrAt B1 w a_t ts) (hT:TabAt w) (hSh:ShT w) (x child:Int) (hi:i64 x) (hs:∀ i,i<ts.length→i≤40∧(ndi ts i).n.ms.length≤50) (htl:ts.length≤100000) (hmt:∀ i,i<ts.length→(ndi ts i).n.ms.length≤50) (hc:chkT ts=true) (h0:0<ts.length) (hN:kidL x<0∨((ts.length:Nat):Int)≤x∨(child≠kidL x∧child≠kidR x)∨chkT ts=false) (h1:0≤x) (h2:x<((ts.length:Nat):Int)) (h4:child<0):Calls Tryd.prog 4 #[.slice a_t ts.length c_t,.int .i64 x,.int .i64 child] w (Ret w (.bool true)):=by
  refine enter 70 [(0,.slice a_t ts.length c_t),(1,.int .i64 x),(2,.int .i64 child)] Tryd.func4 rfl rfl kj rfl ?_
  refine wp_seq_k fun K1 hK1=>?_
  refine Qab ?_
  refine Qaa (.bool false) 6 rfl kj kj ?_
  refine Qaf ?_
  refine hK1 _ _ ?_
  refine wp_seq_k fun K2 hK2=>?_
  refine wp_seq_k fun K3 hK3=>?_
  refine Qab ?_
  refine Qal (.bool true) 8 #[] 11 rfl kj kj (Qc9 _ (TabAt.ext hT (Rely.Ext.refl w)) (ShT.ext hSh (Rely.Ext.refl w))) fun W1 e1=>?_
  have x1:Ext w W1:=Ext.tr (Rely.Ext.refl w) e1
  refine Qaa (.bool false) 12 rfl kj kj ?_
  refine Qaf ?_
  refine hK3 _ _ ?_
  refine cond_false kj ?_
  refine wp_skip ?_
  refine hK2 _ _ ?_
  refine wp_seq_k fun K4 hK4=>?_
  refine wp_seq_k fun K5 hK5=>?_
  refine Qab ?_
  refine Qaa (.slice a_t ts.length c_t) 13 rfl kj kj ?_
  refine Qal (.bool false) 9 #[.slice a_t ts.length c_t] 14 rfl kj kj (QbV ts a_t c_t _ _ (TrAt.ext ht x1) hs) fun W2 e2=>?_
  have x2:Ext w W2:=Ext.tr x1 e2
  refine Qaf ?_
  refine hK5 _ _ ?_
  refine cond_false kj ?_
  refine wp_skip ?_
  refine hK4 _ _ ?_
  refine wp_seq_k fun K6 hK6=>?_
  refine Qab ?_
  refine Qaa (.slice a_t ts.length c_t) 16 rfl kj kj ?_
  refine Qaa (.int .i64 x) 17 rfl kj kj ?_
  refine Qaa (.int .i64 child) 18 rfl kj kj ?_
  refine Qal (.tuple #[.agg (ints .u8 (List.replicate 32 0)),.bool false]) 15 #[.slice a_t ts.length c_t,.int .i64 x,.int .i64 child] 19 rfl kj kj (Qf6 ts a_t c_t B1 htl hmt _ (TrAt.ext ht x2) (TabAt.ext hT x2) x child hi hN) fun W3 e3=>?_
  have x3:Ext w W3:=Ext.tr x2 e3
  refine Qaa (.tuple #[.agg (ints .u8 (List.replicate 32 0)),.bool false]) 15 rfl kj kj ?_
  refine Qaa (.agg (ints .u8 (List.replicate 32 0))) 20 rfl kj kj ?_
  refine Qaa (.bool false) 21 rfl kj kj ?_
  refine Qam (ints .u8 (List.replicate 32 0)) 28 7 rfl kj kj fun g7 W4 l7 e4 r7_4=>?_
  have x4:Ext w W4:=Ext.tr x3 e4
  have b7:w.heap.size≤g7:=qT x3.size l7
  refine Qas g7 _ (ints .u8 (List.replicate 32 0)) 28 r7_4 rfl kj (Qap 28 _ _ g7 28 _ _ r7_4 rfl kj kj (isz (n:=32) kj ((Qae _ _).trans (qZ (n:=32)))) (eqsz (n:=32) ((Qae _ _).trans (qZ (n:=32))) ((Qae _ _).trans (qZ (n:=32)))) (Qat _ _)) fun W5 p5 r7_5=>?_
  have x5:Ext w W5:=Puts.ext p5 x4 b7
  refine Qaa (.bool false) 8 rfl kj kj ?_
  refine Qaf ?_
  refine hK6 _ _ ?_
  refine wp_seq_k fun K8 hK8=>?_
  refine Qab ?_
  refine Qaa (.int .i64 x) 23 rfl kj kj ?_
  refine Qal (.tuple #[.int .i64 (kidL x),.int .i64 (kidR x)]) 16 #[.int .i64 x] 24 rfl kj kj (Qds x hi _) fun W6 e6=>?_
  have x6:Ext w W6:=Ext.tr x5 e6
  refine Qaa (.tuple #[.int .i64 (kidL x),.int .i64 (kidR x)]) 22 rfl kj kj ?_
  refine Qaa (.int .i64 (kidL x)) 25 rfl kj kj ?_
  refine Qaa (.int .i64 (kidR x)) 26 rfl kj kj ?_
  refine Qaa (.int .i64 (kidL x)) 9 rfl kj kj ?_
  refine Qaa (.int .i64 (kidR x)) 10 rfl kj kj ?_
  refine Qaf ?_
  refine hK8 _ _ ?_
  refine wp_seq_k fun K9 hK9=>?_
  refine wp_seq_k fun K10 hK10=>?_
  refine Qab ?_
  refine Qaa (.slice a_t ts.length c_t) 27 rfl kj kj ?_
  refine Qal (.bool true) 12 #[.slice a_t ts.length c_t] 28 rfl kj kj (QfN ts a_t c_t _ _ (TrAt.ext ht x6) htl (fun i hi=>qT (hmt i hi) (by decide)) true hc) fun W7 e7=>?_
  have x7:Ext w W7:=Ext.tr x6 e7
  refine Qaa (.bool false) 29 rfl kj kj ?_
  refine Qaa (.bool false) 30 rfl kj kj ?_
  refine Qaa (.int .i64 x) 31 rfl kj kj ?_
  refine Qaa (.bool false) 32 rfl kj (Qai (u:=.bool (decide (x<0))) kj (congrArg Value.bool (decide_eq_false (by omega)))) ?_
  refine Qaa (.bool false) 33 rfl kj kj ?_
  refine Qaa (.bool false) 34 rfl kj kj ?_
  refine Qaa (.int .i64 x) 35 rfl kj kj ?_
  refine Qaa (.slice a_t ts.length c_t) 36 rfl kj kj ?_
  refine Qaa (.int .i64 ((ts.length:Nat):Int)) 37 rfl kj kj ?_
  refine Qaa (.bool false) 38 rfl kj (Qai (u:=.bool (decide (x≥((ts.length:Nat):Int)))) kj (congrArg Value.bool (decide_eq_false (by omega)))) ?_
  refine Qaa (.bool false) 39 rfl kj kj ?_
  refine Qaa (.bool false) 40 rfl kj kj ?_
  refine Qaa (.int .i64 child) 41 rfl kj kj ?_
  refine Qaa (.bool true) 42 rfl kj (Qai (u:=.bool (decide (child<0))) kj (congrArg Value.bool (decide_eq_true (by omega)))) ?_
  refine Qaa (.bool true) 43 rfl kj kj ?_
  refine Qaa (.bool true) 44 rfl kj kj ?_
  refine Qad 45 rfl kj ?_
  refine Qad 46 rfl kj ?_
  refine Qad 47 rfl kj ?_
  refine Qad 48 rfl kj ?_
  refine Qad 49 rfl kj ?_
  refine Qad 50 rfl kj ?_
  refine Qad 51 rfl kj ?_
  refine Qad 52 rfl kj ?_
  refine Qaa (.bool true) 53 rfl kj kj ?_
  refine Qaf ?_
  refine hK10 _ _ ?_
  refine cond_true kj ?_
  refine wp_seq_k fun K11 hK11=>?_
  refine Qab ?_
  refine Qaa (.bool false) 54 rfl kj kj ?_
  refine Qaa (.bool true) 55 rfl kj kj ?_
  refine Qaa (.bool true) 56 rfl kj kj ?_
  have r7_6:=(Qag r7_5 e6)
  have r7_7:=(Qag r7_6 e7)
  refine Qaa (.agg (ints .u8 (List.replicate 32 0))) 57 rfl kj (Qa6 28 _ g7 28 _ _ r7_7 rfl kj kj (isz (n:=32) kj ((Qae _ _).trans (qZ (n:=32))))) ?_
  refine Qaa (.agg (ints .u8 (List.replicate 32 0))) 58 rfl kj kj ?_
  refine Qaa (.bool true) 59 rfl kj (Qa9 28 _ _ _ _ _ (.bool true) rfl kj kj kj (QaE 28 (e:=5) (k:=.u8) (List.replicate 32 0) (List.replicate 32 0) (decide_eq_true rfl) (qZ (n:=32)) (qZ (n:=32)) kj kj kj _)) ?_
  refine Qaa (.bool true) 60 rfl kj kj ?_
  refine Qaa (.bool true) 6 rfl kj kj ?_
  refine Qaf ?_
  refine hK11 _ _ ?_
  refine wp_ret ?_
  repeat (first | with_reducible refine goR1 ?_ | with_reducible refine goR2 ?_)
  exact (show bodyPost _ _ _ .ret _ _ from ret1 (.bool true) rfl (Qar kj) ⟨rfl,x7⟩)
set_option maxRecDepth 100000 in
theorem Qfw (ts : List NdV) (a_t:Option Addr) (c_t B1:Nat) (w:World) (ht:TrAt B1 w a_t ts) (hT:TabAt w) (hSh:ShT w) (x child:Int) (hi:i64 x) (hs:∀ i,i<ts.length→i≤40∧(ndi ts i).n.ms.length≤50) (htl:ts.length≤100000) (hmt:∀ i,i<ts.length→(ndi ts i).n.ms.length≤50) (hc:chkT ts=true) (h0:0<ts.length) (hN:kidL x<0∨((ts.length:Nat):Int)≤x∨(child≠kidL x∧child≠kidR x)∨chkT ts=false) (h1:0≤x) (h2:x<((ts.length:Nat):Int)) (h4:0≤child) (h3:child≠kidL x∧child≠kidR x):Calls Tryd.prog 4 #[.slice a_t ts.length c_t,.int .i64 x,.int .i64 child] w (Ret w (.bool true)):=by
  refine enter 70 [(0,.slice a_t ts.length c_t),(1,.int .i64 x),(2,.int .i64 child)] Tryd.func4 rfl rfl kj rfl ?_
  refine wp_seq_k fun K1 hK1=>?_
  refine Qab ?_
  refine Qaa (.bool false) 6 rfl kj kj ?_
  refine Qaf ?_
  refine hK1 _ _ ?_
  refine wp_seq_k fun K2 hK2=>?_
  refine wp_seq_k fun K3 hK3=>?_
  refine Qab ?_
  refine Qal (.bool true) 8 #[] 11 rfl kj kj (Qc9 _ (TabAt.ext hT (Rely.Ext.refl w)) (ShT.ext hSh (Rely.Ext.refl w))) fun W1 e1=>?_
  have x1:Ext w W1:=Ext.tr (Rely.Ext.refl w) e1
  refine Qaa (.bool false) 12 rfl kj kj ?_
  refine Qaf ?_
  refine hK3 _ _ ?_
  refine cond_false kj ?_
  refine wp_skip ?_
  refine hK2 _ _ ?_
  refine wp_seq_k fun K4 hK4=>?_
  refine wp_seq_k fun K5 hK5=>?_
  refine Qab ?_
  refine Qaa (.slice a_t ts.length c_t) 13 rfl kj kj ?_
  refine Qal (.bool false) 9 #[.slice a_t ts.length c_t] 14 rfl kj kj (QbV ts a_t c_t _ _ (TrAt.ext ht x1) hs) fun W2 e2=>?_
  have x2:Ext w W2:=Ext.tr x1 e2
  refine Qaf ?_
  refine hK5 _ _ ?_
  refine cond_false kj ?_
  refine wp_skip ?_
  refine hK4 _ _ ?_
  refine wp_seq_k fun K6 hK6=>?_
  refine Qab ?_
  refine Qaa (.slice a_t ts.length c_t) 16 rfl kj kj ?_
  refine Qaa (.int .i64 x) 17 rfl kj kj ?_
  refine Qaa (.int .i64 child) 18 rfl kj kj ?_
  refine Qal (.tuple #[.agg (ints .u8 (List.replicate 32 0)),.bool false]) 15 #[.slice a_t ts.length c_t,.int .i64 x,.int .i64 child] 19 rfl kj kj (Qf6 ts a_t c_t B1 htl hmt _ (TrAt.ext ht x2) (TabAt.ext hT x2) x child hi hN) fun W3 e3=>?_
  have x3:Ext w W3:=Ext.tr x2 e3
  refine Qaa (.tuple #[.agg (ints .u8 (List.replicate 32 0)),.bool false]) 15 rfl kj kj ?_
  refine Qaa (.agg (ints .u8 (List.replicate 32 0))) 20 rfl kj kj ?_
  refine Qaa (.bool false) 21 rfl kj kj ?_
  refine Qam (ints .u8 (List.replicate 32 0)) 28 7 rfl kj kj fun g7 W4 l7 e4 r7_4=>?_
  have x4:Ext w W4:=Ext.tr x3 e4
  have b7:w.heap.size≤g7:=qT x3.size l7
  refine Qas g7 _ (ints .u8 (List.replicate 32 0)) 28 r7_4 rfl kj (Qap 28 _ _ g7 28 _ _ r7_4 rfl kj kj (isz (n:=32) kj ((Qae _ _).trans (qZ (n:=32)))) (eqsz (n:=32) ((Qae _ _).trans (qZ (n:=32))) ((Qae _ _).trans (qZ (n:=32)))) (Qat _ _)) fun W5 p5 r7_5=>?_
  have x5:Ext w W5:=Puts.ext p5 x4 b7
  refine Qaa (.bool false) 8 rfl kj kj ?_
  refine Qaf ?_
  refine hK6 _ _ ?_
  refine wp_seq_k fun K8 hK8=>?_
  refine Qab ?_
  refine Qaa (.int .i64 x) 23 rfl kj kj ?_
  refine Qal (.tuple #[.int .i64 (kidL x),.int .i64 (kidR x)]) 16 #[.int .i64 x] 24 rfl kj kj (Qds x hi _) fun W6 e6=>?_
  have x6:Ext w W6:=Ext.tr x5 e6
  refine Qaa (.tuple #[.int .i64 (kidL x),.int .i64 (kidR x)]) 22 rfl kj kj ?_
  refine Qaa (.int .i64 (kidL x)) 25 rfl kj kj ?_
  refine Qaa (.int .i64 (kidR x)) 26 rfl kj kj ?_
  refine Qaa (.int .i64 (kidL x)) 9 rfl kj kj ?_
  refine Qaa (.int .i64 (kidR x)) 10 rfl kj kj ?_
  refine Qaf ?_
  refine hK8 _ _ ?_
  refine wp_seq_k fun K9 hK9=>?_
  refine wp_seq_k fun K10 hK10=>?_
  refine Qab ?_
  refine Qaa (.slice a_t ts.length c_t) 27 rfl kj kj ?_
  refine Qal (.bool true) 12 #[.slice a_t ts.length c_t] 28 rfl kj kj (QfN ts a_t c_t _ _ (TrAt.ext ht x6) htl (fun i hi=>qT (hmt i hi) (by decide)) true hc) fun W7 e7=>?_
  have x7:Ext w W7:=Ext.tr x6 e7
  refine Qaa (.bool false) 29 rfl kj kj ?_
  refine Qaa (.bool false) 30 rfl kj kj ?_
  refine Qaa (.int .i64 x) 31 rfl kj kj ?_
  refine Qaa (.bool false) 32 rfl kj (Qai (u:=.bool (decide (x<0))) kj (congrArg Value.bool (decide_eq_false (by omega)))) ?_
  refine Qaa (.bool false) 33 rfl kj kj ?_
  refine Qaa (.bool false) 34 rfl kj kj ?_
  refine Qaa (.int .i64 x) 35 rfl kj kj ?_
  refine Qaa (.slice a_t ts.length c_t) 36 rfl kj kj ?_
  refine Qaa (.int .i64 ((ts.length:Nat):Int)) 37 rfl kj kj ?_
  refine Qaa (.bool false) 38 rfl kj (Qai (u:=.bool (decide (x≥((ts.length:Nat):Int)))) kj (congrArg Value.bool (decide_eq_false (by omega)))) ?_
  refine Qaa (.bool false) 39 rfl kj kj ?_
  refine Qaa (.bool false) 40 rfl kj kj ?_
  refine Qaa (.int .i64 child) 41 rfl kj kj ?_
  refine Qaa (.bool false) 42 rfl kj (Qai (u:=.bool (decide (child<0))) kj (congrArg Value.bool (decide_eq_false (by omega)))) ?_
  refine Qaa (.bool false) 43 rfl kj kj ?_
  refine Qaa (.bool false) 44 rfl kj kj ?_
  refine Qaa (.int .i64 child) 45 rfl kj kj ?_
  refine Qaa (.int .i64 (kidL x)) 46 rfl kj kj ?_
  refine Qaa (.bool true) 47 rfl kj (Qai (u:=.bool ((child != (kidL x)))) kj (congrArg Value.bool (bne_iff_ne.2 h3.1))) ?_
  refine Qaa (.bool true) 48 rfl kj kj ?_
  refine Qaa (.int .i64 child) 49 rfl kj kj ?_
  refine Qaa (.int .i64 (kidR x)) 50 rfl kj kj ?_
  refine Qaa (.bool true) 51 rfl kj (Qai (u:=.bool ((child != (kidR x)))) kj (congrArg Value.bool (bne_iff_ne.2 h3.2))) ?_
  refine Qaa (.bool true) 52 rfl kj kj ?_
  refine Qaa (.bool true) 53 rfl kj kj ?_
  refine Qaf ?_
  refine hK10 _ _ ?_
  refine cond_true kj ?_
  refine wp_seq_k fun K11 hK11=>?_
  refine Qab ?_
  refine Qaa (.bool false) 54 rfl kj kj ?_
  refine Qaa (.bool true) 55 rfl kj kj ?_
  refine Qaa (.bool true) 56 rfl kj kj ?_
  have r7_6:=(Qag r7_5 e6)
  have r7_7:=(Qag r7_6 e7)
  refine Qaa (.agg (ints .u8 (List.replicate 32 0))) 57 rfl kj (Qa6 28 _ g7 28 _ _ r7_7 rfl kj kj (isz (n:=32) kj ((Qae _ _).trans (qZ (n:=32))))) ?_
  refine Qaa (.agg (ints .u8 (List.replicate 32 0))) 58 rfl kj kj ?_
  refine Qaa (.bool true) 59 rfl kj (Qa9 28 _ _ _ _ _ (.bool true) rfl kj kj kj (QaE 28 (e:=5) (k:=.u8) (List.replicate 32 0) (List.replicate 32 0) (decide_eq_true rfl) (qZ (n:=32)) (qZ (n:=32)) kj kj kj _)) ?_
  refine Qaa (.bool true) 60 rfl kj kj ?_
  refine Qaa (.bool true) 6 rfl kj kj ?_
  refine Qaf ?_
  refine hK11 _ _ ?_
  refine wp_ret ?_
  repeat (first | with_reducible refine goR1 ?_ | with_reducible refine goR2 ?_)
  exact (show bodyPost _ _ _ .ret _ _ from ret1 (.bool true) rfl (Qar kj) ⟨rfl,x7⟩)
set_option maxRecDepth 100000 in
theorem QhC (ts : List NdV) (a_t:Option Addr) (c_t B1:Nat) (w:World) (ht:TrAt B1 w a_t ts) (hT:TabAt w) (hSh:ShT w) (x:Nat) (hs:∀ i,i<ts.length→i≤40∧(ndi ts i).n.ms.length≤50) (htl:ts.length≤100000) (hmt:∀ i,i<ts.length→(ndi ts i).n.ms.length≤50) (hc:chkT ts=true) (h0:0<ts.length) (hx:x<ts.length) (l r:Nat) (hl:l<ts.length) (hr:r<ts.length) (hne:((r:Nat):Int)≠((l:Nat):Int)) (hkid:∀ W,TabAt W→Calls Tryd.prog 36 #[.int .i64 ((x:Nat):Int)] W (Ret W (.tuple #[.int .i64 ((l:Nat):Int),.int .i64 ((r:Nat):Int)]))) (hrkid:∀ W,Calls Tryd.prog 16 #[.int .i64 ((x:Nat):Int)] W (Ret W (.tuple #[.int .i64 ((l:Nat):Int),.int .i64 ((r:Nat):Int)]))):Calls Tryd.prog 4 #[.slice a_t ts.length c_t,.int .i64 ((x:Nat):Int),.int .i64 ((l:Nat):Int)] w (Ret w (.bool true)):=by
  refine enter 70 [(0,.slice a_t ts.length c_t),(1,.int .i64 ((x:Nat):Int)),(2,.int .i64 ((l:Nat):Int))] Tryd.func4 rfl rfl kj rfl ?_
  refine wp_seq_k fun K1 hK1=>?_
  refine Qab ?_
  refine Qaa (.bool false) 6 rfl kj kj ?_
  refine Qaf ?_
  refine hK1 _ _ ?_
  refine wp_seq_k fun K2 hK2=>?_
  refine wp_seq_k fun K3 hK3=>?_
  refine Qab ?_
  refine Qal (.bool true) 8 #[] 11 rfl kj kj (Qc9 _ (TabAt.ext hT (Rely.Ext.refl w)) (ShT.ext hSh (Rely.Ext.refl w))) fun W1 e1=>?_
  have x1:Ext w W1:=Ext.tr (Rely.Ext.refl w) e1
  refine Qaa (.bool false) 12 rfl kj kj ?_
  refine Qaf ?_
  refine hK3 _ _ ?_
  refine cond_false kj ?_
  refine wp_skip ?_
  refine hK2 _ _ ?_
  refine wp_seq_k fun K4 hK4=>?_
  refine wp_seq_k fun K5 hK5=>?_
  refine Qab ?_
  refine Qaa (.slice a_t ts.length c_t) 13 rfl kj kj ?_
  refine Qal (.bool false) 9 #[.slice a_t ts.length c_t] 14 rfl kj kj (QbV ts a_t c_t _ _ (TrAt.ext ht x1) hs) fun W2 e2=>?_
  have x2:Ext w W2:=Ext.tr x1 e2
  refine Qaf ?_
  refine hK5 _ _ ?_
  refine cond_false kj ?_
  refine wp_skip ?_
  refine hK4 _ _ ?_
  refine wp_seq_k fun K6 hK6=>?_
  refine Qab ?_
  refine Qaa (.slice a_t ts.length c_t) 16 rfl kj kj ?_
  refine Qaa (.int .i64 ((x:Nat):Int)) 17 rfl kj kj ?_
  refine Qaa (.int .i64 ((l:Nat):Int)) 18 rfl kj kj ?_
  refine Qal (.tuple #[.agg (ints .u8 (mkN ts x r)),.bool true]) 15 #[.slice a_t ts.length c_t,.int .i64 ((x:Nat):Int),.int .i64 ((l:Nat):Int)] 19 rfl kj kj (QlE ts a_t c_t B1 htl hmt _ (TrAt.ext ht x2) (TabAt.ext hT x2) (ShT.ext hSh x2) x hc hx l r hl hr hne hkid) fun W3 e3=>?_
  have x3:Ext w W3:=Ext.tr x2 e3
  refine Qaa (.tuple #[.agg (ints .u8 (mkN ts x r)),.bool true]) 15 rfl kj kj ?_
  refine Qaa (.agg (ints .u8 (mkN ts x r))) 20 rfl kj kj ?_
  refine Qaa (.bool true) 21 rfl kj kj ?_
  refine Qam (ints .u8 (List.replicate 32 0)) 28 7 rfl kj kj fun g7 W4 l7 e4 r7_4=>?_
  have x4:Ext w W4:=Ext.tr x3 e4
  have b7:w.heap.size≤g7:=qT x3.size l7
  refine Qas g7 _ (ints .u8 (mkN ts x r)) 28 r7_4 rfl kj (Qap 28 _ _ g7 28 _ _ r7_4 rfl kj kj (isz (n:=32) kj ((Qae _ _).trans (Qb0 ts x r))) (eqsz (n:=32) ((Qae _ _).trans (qZ (n:=32))) ((Qae _ _).trans (Qb0 ts x r))) (Qat _ _)) fun W5 p5 r7_5=>?_
  have x5:Ext w W5:=Puts.ext p5 x4 b7
  refine Qaa (.bool true) 8 rfl kj kj ?_
  refine Qaf ?_
  refine hK6 _ _ ?_
  refine wp_seq_k fun K8 hK8=>?_
  refine Qab ?_
  refine Qaa (.int .i64 ((x:Nat):Int)) 23 rfl kj kj ?_
  refine Qal (.tuple #[.int .i64 ((l:Nat):Int),.int .i64 ((r:Nat):Int)]) 16 #[.int .i64 ((x:Nat):Int)] 24 rfl kj kj (hrkid _) fun W6 e6=>?_
  have x6:Ext w W6:=Ext.tr x5 e6
  refine Qaa (.tuple #[.int .i64 ((l:Nat):Int),.int .i64 ((r:Nat):Int)]) 22 rfl kj kj ?_
  refine Qaa (.int .i64 ((l:Nat):Int)) 25 rfl kj kj ?_
  refine Qaa (.int .i64 ((r:Nat):Int)) 26 rfl kj kj ?_
  refine Qaa (.int .i64 ((l:Nat):Int)) 9 rfl kj kj ?_
  refine Qaa (.int .i64 ((r:Nat):Int)) 10 rfl kj kj ?_
  refine Qaf ?_
  refine hK8 _ _ ?_
  refine wp_seq_k fun K9 hK9=>?_
  refine wp_seq_k fun K10 hK10=>?_
  refine Qab ?_
  refine Qaa (.slice a_t ts.length c_t) 27 rfl kj kj ?_
  refine Qal (.bool true) 12 #[.slice a_t ts.length c_t] 28 rfl kj kj (QfN ts a_t c_t _ _ (TrAt.ext ht x6) htl (fun i hi=>qT (hmt i hi) (by decide)) true hc) fun W7 e7=>?_
  have x7:Ext w W7:=Ext.tr x6 e7
  refine Qaa (.bool false) 29 rfl kj kj ?_
  refine Qaa (.bool false) 30 rfl kj kj ?_
  refine Qaa (.int .i64 ((x:Nat):Int)) 31 rfl kj kj ?_
  refine Qaa (.bool false) 32 rfl kj (Qai (u:=.bool (decide (((x:Nat):Int)<0))) kj (congrArg Value.bool (decide_eq_false (by omega)))) ?_
  refine Qaa (.bool false) 33 rfl kj kj ?_
  refine Qaa (.bool false) 34 rfl kj kj ?_
  refine Qaa (.int .i64 ((x:Nat):Int)) 35 rfl kj kj ?_
  refine Qaa (.slice a_t ts.length c_t) 36 rfl kj kj ?_
  refine Qaa (.int .i64 ((ts.length:Nat):Int)) 37 rfl kj kj ?_
  refine Qaa (.bool false) 38 rfl kj (Qai (u:=.bool (decide (((x:Nat):Int)≥((ts.length:Nat):Int)))) kj (congrArg Value.bool (decide_eq_false (by omega)))) ?_
  refine Qaa (.bool false) 39 rfl kj kj ?_
  refine Qaa (.bool false) 40 rfl kj kj ?_
  refine Qaa (.int .i64 ((l:Nat):Int)) 41 rfl kj kj ?_
  refine Qaa (.bool false) 42 rfl kj (Qai (u:=.bool (decide (((l:Nat):Int)<0))) kj (congrArg Value.bool (decide_eq_false (by omega)))) ?_
  refine Qaa (.bool false) 43 rfl kj kj ?_
  refine Qaa (.bool false) 44 rfl kj kj ?_
  refine Qaa (.int .i64 ((l:Nat):Int)) 45 rfl kj kj ?_
  refine Qaa (.int .i64 ((l:Nat):Int)) 46 rfl kj kj ?_
  refine Qaa (.bool false) 47 rfl kj (Qai (u:=.bool ((((l:Nat):Int) != ((l:Nat):Int)))) kj (congrArg Value.bool (bne_eq_false_iff_eq.2 (by omega)))) ?_
  refine Qaa (.bool false) 48 rfl kj kj ?_
  refine Qad 49 rfl kj ?_
  refine Qad 50 rfl kj ?_
  refine Qad 51 rfl kj ?_
  refine Qaa (.bool false) 52 rfl kj kj ?_
  refine Qaa (.bool false) 53 rfl kj kj ?_
  refine Qaf ?_
  refine hK10 _ _ ?_
  refine cond_false kj ?_
  refine wp_skip ?_
  refine hK9 _ _ ?_
  refine wp_seq_k fun K11 hK11=>?_
  refine Qcb kj fun W8 e8=>?_
  have x8:Ext w W8:=Ext.tr x7 e8
  refine QaA 0 (.bool true) 61 rfl rfl kj kj (fun _ _ _ h=>h) (fun W hR=>by kernel_rfl) ?_
  refine QaA 1 (.bool true) 62 rfl rfl kj kj (fun _ _ _ h=>h) (fun W hR=>by kernel_rfl) ?_
  have r7_6:=(Qag r7_5 e6)
  have r7_7:=(Qag r7_6 e7)
  have r7_8:=(Qag r7_7 e8)
  refine QaA 2 (.agg (ints .u8 (mkN ts x r))) 63 rfl rfl kj kj (fun _ _ _ h=>h) (fun W hR=>(Qa6 28 _ g7 28 _ _ (Qag r7_8 hR) rfl kj kj (isz (n:=32) kj ((Qae _ _).trans (Qb0 ts x r))))) ?_
  refine QaA 3 (.slice a_t ts.length c_t) 64 rfl rfl kj kj (fun _ _ _ h=>h) (fun W hR=>by kernel_rfl) ?_
  refine QaA 4 (.int .i64 ((x:Nat):Int)) 65 rfl rfl kj kj (fun _ _ _ h=>h) (fun W hR=>by kernel_rfl) ?_
  refine QaA 5 (.int .i64 ((l:Nat):Int)) 66 rfl rfl kj kj (fun _ _ _ h=>h) (fun W hR=>by kernel_rfl) ?_
  refine Qby 6 kj ?_
  refine Qcm rfl (fun v W'=>v=(.agg (ints .u8 (mkN ts x r)))∧Ext W8 W') 17 #[.slice a_t ts.length c_t,.int .i64 ((x:Nat):Int),.int .i64 ((l:Nat):Int)] 67 rfl kj kj ((QjP ts a_t c_t B1 htl hmt _ (TrAt.ext ht x8) x hc hx l r hl hr hne hrkid).mono fun e w' h=>⟨_,h.1,rfl,h.2⟩) (fun _ _ h=>Rely.Ext.trans (Rely.Ext.refl W8) h.2) fun vv12 W9 hh12=>?_
  obtain ⟨rfl,e9⟩:=hh12
  have x9:Ext w W9:=Ext.tr x8 e9
  refine QaA 7 (.bool true) 68 rfl rfl kj kj (fun _ _ _ h=>h) (fun W hR=>(Qa9 28 _ _ _ _ _ (.bool true) rfl kj kj kj (QaE 28 (e:=5) (k:=.u8) (mkN ts x r) (mkN ts x r) (decide_eq_true rfl) (Qb0 ts x r) (Qb0 ts x r) kj kj kj _))) ?_
  refine QaA 8 (.bool true) 69 rfl rfl kj kj (fun _ _ _ h=>h) (fun W hR=>by kernel_rfl) ?_
  refine QaA 9 (.bool true) 6 rfl rfl kj kj (fun _ _ _ h=>h) (fun W hR=>by kernel_rfl) ?_
  refine QcV kj ?_
  refine hK11 _ _ ?_
  refine wp_ret ?_
  repeat (first | with_reducible refine goR1 ?_ | with_reducible refine goR2 ?_)
  exact (show bodyPost _ _ _ .ret _ _ from ret1 (.bool true) rfl (Qar kj) ⟨rfl,x9⟩)
set_option maxRecDepth 100000 in
theorem QhA (ts : List NdV) (a_t:Option Addr) (c_t B1:Nat) (w:World) (ht:TrAt B1 w a_t ts) (hT:TabAt w) (hSh:ShT w) (x:Nat) (hs:∀ i,i<ts.length→i≤40∧(ndi ts i).n.ms.length≤50) (htl:ts.length≤100000) (hmt:∀ i,i<ts.length→(ndi ts i).n.ms.length≤50) (hc:chkT ts=true) (h0:0<ts.length) (hx:x<ts.length) (l r:Nat) (hl:l<ts.length) (hr:r<ts.length) (hne:((r:Nat):Int)≠((l:Nat):Int)) (hkid:∀ W,TabAt W→Calls Tryd.prog 36 #[.int .i64 ((x:Nat):Int)] W (Ret W (.tuple #[.int .i64 ((l:Nat):Int),.int .i64 ((r:Nat):Int)]))) (hrkid:∀ W,Calls Tryd.prog 16 #[.int .i64 ((x:Nat):Int)] W (Ret W (.tuple #[.int .i64 ((l:Nat):Int),.int .i64 ((r:Nat):Int)]))):Calls Tryd.prog 4 #[.slice a_t ts.length c_t,.int .i64 ((x:Nat):Int),.int .i64 ((r:Nat):Int)] w (Ret w (.bool true)):=by
  refine enter 70 [(0,.slice a_t ts.length c_t),(1,.int .i64 ((x:Nat):Int)),(2,.int .i64 ((r:Nat):Int))] Tryd.func4 rfl rfl kj rfl ?_
  refine wp_seq_k fun K1 hK1=>?_
  refine Qab ?_
  refine Qaa (.bool false) 6 rfl kj kj ?_
  refine Qaf ?_
  refine hK1 _ _ ?_
  refine wp_seq_k fun K2 hK2=>?_
  refine wp_seq_k fun K3 hK3=>?_
  refine Qab ?_
  refine Qal (.bool true) 8 #[] 11 rfl kj kj (Qc9 _ (TabAt.ext hT (Rely.Ext.refl w)) (ShT.ext hSh (Rely.Ext.refl w))) fun W1 e1=>?_
  have x1:Ext w W1:=Ext.tr (Rely.Ext.refl w) e1
  refine Qaa (.bool false) 12 rfl kj kj ?_
  refine Qaf ?_
  refine hK3 _ _ ?_
  refine cond_false kj ?_
  refine wp_skip ?_
  refine hK2 _ _ ?_
  refine wp_seq_k fun K4 hK4=>?_
  refine wp_seq_k fun K5 hK5=>?_
  refine Qab ?_
  refine Qaa (.slice a_t ts.length c_t) 13 rfl kj kj ?_
  refine Qal (.bool false) 9 #[.slice a_t ts.length c_t] 14 rfl kj kj (QbV ts a_t c_t _ _ (TrAt.ext ht x1) hs) fun W2 e2=>?_
  have x2:Ext w W2:=Ext.tr x1 e2
  refine Qaf ?_
  refine hK5 _ _ ?_
  refine cond_false kj ?_
  refine wp_skip ?_
  refine hK4 _ _ ?_
  refine wp_seq_k fun K6 hK6=>?_
  refine Qab ?_
  refine Qaa (.slice a_t ts.length c_t) 16 rfl kj kj ?_
  refine Qaa (.int .i64 ((x:Nat):Int)) 17 rfl kj kj ?_
  refine Qaa (.int .i64 ((r:Nat):Int)) 18 rfl kj kj ?_
  refine Qal (.tuple #[.agg (ints .u8 (mkN ts x l)),.bool true]) 15 #[.slice a_t ts.length c_t,.int .i64 ((x:Nat):Int),.int .i64 ((r:Nat):Int)] 19 rfl kj kj (QlD ts a_t c_t B1 htl hmt _ (TrAt.ext ht x2) (TabAt.ext hT x2) (ShT.ext hSh x2) x hc hx l r hl hr hne hkid) fun W3 e3=>?_
  have x3:Ext w W3:=Ext.tr x2 e3
  refine Qaa (.tuple #[.agg (ints .u8 (mkN ts x l)),.bool true]) 15 rfl kj kj ?_
  refine Qaa (.agg (ints .u8 (mkN ts x l))) 20 rfl kj kj ?_
  refine Qaa (.bool true) 21 rfl kj kj ?_
  refine Qam (ints .u8 (List.replicate 32 0)) 28 7 rfl kj kj fun g7 W4 l7 e4 r7_4=>?_
  have x4:Ext w W4:=Ext.tr x3 e4
  have b7:w.heap.size≤g7:=qT x3.size l7
  refine Qas g7 _ (ints .u8 (mkN ts x l)) 28 r7_4 rfl kj (Qap 28 _ _ g7 28 _ _ r7_4 rfl kj kj (isz (n:=32) kj ((Qae _ _).trans (Qb0 ts x l))) (eqsz (n:=32) ((Qae _ _).trans (qZ (n:=32))) ((Qae _ _).trans (Qb0 ts x l))) (Qat _ _)) fun W5 p5 r7_5=>?_
  have x5:Ext w W5:=Puts.ext p5 x4 b7
  refine Qaa (.bool true) 8 rfl kj kj ?_
  refine Qaf ?_
  refine hK6 _ _ ?_
  refine wp_seq_k fun K8 hK8=>?_
  refine Qab ?_
  refine Qaa (.int .i64 ((x:Nat):Int)) 23 rfl kj kj ?_
  refine Qal (.tuple #[.int .i64 ((l:Nat):Int),.int .i64 ((r:Nat):Int)]) 16 #[.int .i64 ((x:Nat):Int)] 24 rfl kj kj (hrkid _) fun W6 e6=>?_
  have x6:Ext w W6:=Ext.tr x5 e6
  refine Qaa (.tuple #[.int .i64 ((l:Nat):Int),.int .i64 ((r:Nat):Int)]) 22 rfl kj kj ?_
  refine Qaa (.int .i64 ((l:Nat):Int)) 25 rfl kj kj ?_
  refine Qaa (.int .i64 ((r:Nat):Int)) 26 rfl kj kj ?_
  refine Qaa (.int .i64 ((l:Nat):Int)) 9 rfl kj kj ?_
  refine Qaa (.int .i64 ((r:Nat):Int)) 10 rfl kj kj ?_
  refine Qaf ?_
  refine hK8 _ _ ?_
  refine wp_seq_k fun K9 hK9=>?_
  refine wp_seq_k fun K10 hK10=>?_
  refine Qab ?_
  refine Qaa (.slice a_t ts.length c_t) 27 rfl kj kj ?_
  refine Qal (.bool true) 12 #[.slice a_t ts.length c_t] 28 rfl kj kj (QfN ts a_t c_t _ _ (TrAt.ext ht x6) htl (fun i hi=>qT (hmt i hi) (by decide)) true hc) fun W7 e7=>?_
  have x7:Ext w W7:=Ext.tr x6 e7
  refine Qaa (.bool false) 29 rfl kj kj ?_
  refine Qaa (.bool false) 30 rfl kj kj ?_
  refine Qaa (.int .i64 ((x:Nat):Int)) 31 rfl kj kj ?_
  refine Qaa (.bool false) 32 rfl kj (Qai (u:=.bool (decide (((x:Nat):Int)<0))) kj (congrArg Value.bool (decide_eq_false (by omega)))) ?_
  refine Qaa (.bool false) 33 rfl kj kj ?_
  refine Qaa (.bool false) 34 rfl kj kj ?_
  refine Qaa (.int .i64 ((x:Nat):Int)) 35 rfl kj kj ?_
  refine Qaa (.slice a_t ts.length c_t) 36 rfl kj kj ?_
  refine Qaa (.int .i64 ((ts.length:Nat):Int)) 37 rfl kj kj ?_
  refine Qaa (.bool false) 38 rfl kj (Qai (u:=.bool (decide (((x:Nat):Int)≥((ts.length:Nat):Int)))) kj (congrArg Value.bool (decide_eq_false (by omega)))) ?_
  refine Qaa (.bool false) 39 rfl kj kj ?_
  refine Qaa (.bool false) 40 rfl kj kj ?_
  refine Qaa (.int .i64 ((r:Nat):Int)) 41 rfl kj kj ?_
  refine Qaa (.bool false) 42 rfl kj (Qai (u:=.bool (decide (((r:Nat):Int)<0))) kj (congrArg Value.bool (decide_eq_false (by omega)))) ?_
  refine Qaa (.bool false) 43 rfl kj kj ?_
  refine Qaa (.bool false) 44 rfl kj kj ?_
  refine Qaa (.int .i64 ((r:Nat):Int)) 45 rfl kj kj ?_
  refine Qaa (.int .i64 ((l:Nat):Int)) 46 rfl kj kj ?_
  refine Qaa (.bool true) 47 rfl kj (Qai (u:=.bool ((((r:Nat):Int) != ((l:Nat):Int)))) kj (congrArg Value.bool (bne_iff_ne.2 (by omega)))) ?_
  refine Qaa (.bool true) 48 rfl kj kj ?_
  refine Qaa (.int .i64 ((r:Nat):Int)) 49 rfl kj kj ?_
  refine Qaa (.int .i64 ((r:Nat):Int)) 50 rfl kj kj ?_
  refine Qaa (.bool false) 51 rfl kj (Qai (u:=.bool ((((r:Nat):Int) != ((r:Nat):Int)))) kj (congrArg Value.bool (bne_eq_false_iff_eq.2 (by omega)))) ?_
  refine Qaa (.bool false) 52 rfl kj kj ?_
  refine Qaa (.bool false) 53 rfl kj kj ?_
  refine Qaf ?_
  refine hK10 _ _ ?_
  refine cond_false kj ?_
  refine wp_skip ?_
  refine hK9 _ _ ?_
  refine wp_seq_k fun K11 hK11=>?_
  refine Qcb kj fun W8 e8=>?_
  have x8:Ext w W8:=Ext.tr x7 e8
  refine QaA 0 (.bool true) 61 rfl rfl kj kj (fun _ _ _ h=>h) (fun W hR=>by kernel_rfl) ?_
  refine QaA 1 (.bool true) 62 rfl rfl kj kj (fun _ _ _ h=>h) (fun W hR=>by kernel_rfl) ?_
  have r7_6:=(Qag r7_5 e6)
  have r7_7:=(Qag r7_6 e7)
  have r7_8:=(Qag r7_7 e8)
  refine QaA 2 (.agg (ints .u8 (mkN ts x l))) 63 rfl rfl kj kj (fun _ _ _ h=>h) (fun W hR=>(Qa6 28 _ g7 28 _ _ (Qag r7_8 hR) rfl kj kj (isz (n:=32) kj ((Qae _ _).trans (Qb0 ts x l))))) ?_
  refine QaA 3 (.slice a_t ts.length c_t) 64 rfl rfl kj kj (fun _ _ _ h=>h) (fun W hR=>by kernel_rfl) ?_
  refine QaA 4 (.int .i64 ((x:Nat):Int)) 65 rfl rfl kj kj (fun _ _ _ h=>h) (fun W hR=>by kernel_rfl) ?_
  refine QaA 5 (.int .i64 ((r:Nat):Int)) 66 rfl rfl kj kj (fun _ _ _ h=>h) (fun W hR=>by kernel_rfl) ?_
  refine Qby 6 kj ?_
  refine Qcm rfl (fun v W'=>v=(.agg (ints .u8 (mkN ts x l)))∧Ext W8 W') 17 #[.slice a_t ts.length c_t,.int .i64 ((x:Nat):Int),.int .i64 ((r:Nat):Int)] 67 rfl kj kj ((QjO ts a_t c_t B1 htl hmt _ (TrAt.ext ht x8) x hc hx l r hl hr hne hrkid).mono fun e w' h=>⟨_,h.1,rfl,h.2⟩) (fun _ _ h=>Rely.Ext.trans (Rely.Ext.refl W8) h.2) fun vv12 W9 hh12=>?_
  obtain ⟨rfl,e9⟩:=hh12
  have x9:Ext w W9:=Ext.tr x8 e9
  refine QaA 7 (.bool true) 68 rfl rfl kj kj (fun _ _ _ h=>h) (fun W hR=>(Qa9 28 _ _ _ _ _ (.bool true) rfl kj kj kj (QaE 28 (e:=5) (k:=.u8) (mkN ts x l) (mkN ts x l) (decide_eq_true rfl) (Qb0 ts x l) (Qb0 ts x l) kj kj kj _))) ?_
  refine QaA 8 (.bool true) 69 rfl rfl kj kj (fun _ _ _ h=>h) (fun W hR=>by kernel_rfl) ?_
  refine QaA 9 (.bool true) 6 rfl rfl kj kj (fun _ _ _ h=>h) (fun W hR=>by kernel_rfl) ?_
  refine QcV kj ?_
  refine hK11 _ _ ?_
  refine wp_ret ?_
  repeat (first | with_reducible refine goR1 ?_ | with_reducible refine goR2 ?_)
  exact (show bodyPost _ _ _ .ret _ _ from ret1 (.bool true) rfl (Qar kj) ⟨rfl,x9⟩)
theorem lawMarks (ts : List NdV) (a_t:Option Addr) (c_t B1:Nat) (w:World) (ht:TrAt B1 w a_t ts) (hT:TabAt w) (hSh:ShT w) (x child:Int) (hi:i64 x):Calls Tryd.prog 4 #[.slice a_t ts.length c_t,.int .i64 x,.int .i64 child] w (Ret w (.bool true)):=by
  by_cases hs:∀ i,i<ts.length→i≤40∧(ndi ts i).n.ms.length≤50
  · have h41:=sm15 hs
    have hmt:∀ i,i<ts.length→(ndi ts i).n.ms.length≤50:=fun i hi=>(hs i hi).2
    cases hc:chkT ts with
    | false=>exact QhE ts a_t c_t B1 w ht hT hSh x child hi hs (by omega) hmt hc (.inr (.inr (.inr hc)))
    | true =>
      have h0:=Qk3 (by omega) hc
      by_cases h1:x<0
      · exact QhB ts a_t c_t B1 w ht hT hSh x child hi hs (by omega) hmt hc h0 (.inl (Qku h1)) h1
      by_cases h2:((ts.length:Nat):Int)≤x
      · exact QhD ts a_t c_t B1 w ht hT hSh x child hi hs (by omega) hmt hc h0 (.inr (.inl h2)) (by omega) h2
      obtain ⟨y,rfl⟩:=Int.eq_ofNat_of_zero_le (show 0≤x by omega)
      obtain ⟨L,f,-⟩:=QbW (by omega) hc
      have hlen:=f.len
      have hTr:=f.tr
      rcases Qdg (QaX hTr (x:=y) (by omega)) with ⟨-,⟨q0,q1⟩ | ⟨q2,q3,q4,q5⟩⟩
      · by_cases h4:child<0
        · exact Qfx ts a_t c_t B1 w ht hT hSh _ child hi hs (by omega) hmt hc h0 (.inl (by omega)) (by omega) (by omega) h4
        · exact Qfw ts a_t c_t B1 w ht hT hSh _ child hi hs (by omega) hmt hc h0 (.inl (by omega)) (by omega) (by omega) (by omega) ⟨by omega,by omega⟩
      · obtain ⟨l,hl0⟩:=Int.eq_ofNat_of_zero_le (QcN q2)
        obtain ⟨r,hr0⟩:=Int.eq_ofNat_of_zero_le (QcN q3)
        have hll:=Qdx q2
        have hrl:=Qdx q3
        have hne:=Qks (QaX hTr (x:=y) (by omega)) q2
        rw [hl0,hr0] at hne
        by_cases h4:child<0
        · exact Qfx ts a_t c_t B1 w ht hT hSh _ child hi hs (by omega) hmt hc h0 (.inr (.inr (.inl ⟨by omega,by omega⟩))) (by omega) (by omega) h4
        have hk:∀ W,TabAt W→Calls Tryd.prog 36 #[.int .i64 ((y:Nat):Int)] W (Ret W (.tuple #[.int .i64 ((l:Nat):Int),.int .i64 ((r:Nat):Int)])):=fun W h=>by have h9:=Qe8 _ hi W h; rw [hl0,hr0] at h9; exact h9
        have hrk:∀ W,Calls Tryd.prog 16 #[.int .i64 ((y:Nat):Int)] W (Ret W (.tuple #[.int .i64 ((l:Nat):Int),.int .i64 ((r:Nat):Int)])):=fun W=>by have h9:=Qds _ hi W; rw [hl0,hr0] at h9; exact h9
        by_cases h5:child=kidL ((y:Nat):Int)
        · rw [h5,hl0]; exact QhC ts a_t c_t B1 w ht hT hSh y hs (by omega) hmt hc h0 (by omega) l r (by omega) (by omega) hne hk hrk
        by_cases h6:child=kidR ((y:Nat):Int)
        · rw [h6,hr0]; exact QhA ts a_t c_t B1 w ht hT hSh y hs (by omega) hmt hc h0 (by omega) l r (by omega) (by omega) hne hk hrk
        · exact Qfw ts a_t c_t B1 w ht hT hSh _ child hi hs (by omega) hmt hc h0 (.inr (.inr (.inl ⟨h5,h6⟩))) (by omega) (by omega) (by omega) ⟨h5,h6⟩
  · exact Qh9 ts a_t c_t B1 w ht hT hSh x child hi hs
end Go.Proofs.YthfkppjajmjpnaaDoor.Te
end
section
namespace Go.Proofs.YthfkppjajmjpnaaDoor.Auto
open Go Go.RowKit Go.WideShapes
open Rely
section
variable {H : Type} {enc : TypeId × Value → H} {P : Program} {W w : World} {r : Reach} {base b0 : Nat} {sp : Nat → Bool} {held : Bool}
theorem open_raw {n : Nat} {t e:TypeId} {cs:List Value} {fuel:Nat} {x:DataW H×List MemPlace} (ht:P.underlying t=some (.array n e)) (he:P.underlying e=some (.int .u8)) (hce:P.cellsOf e=1) (hct:P.cellsOf t=n)
    (hf:DataW.trod enc P w b0 sp held fuel t cs=some x):∃ xs:List Int,cs=xs.map (Value.int .u8)∧xs.length=n∧Qax xs:=by
  obtain ⟨xs,m,-,-,hl,hn,hx⟩:=DataW.trod_array ht hf
  have hcs:cs.length=n:=by simpa [hct] using hl
  have each:∀ i,i<n→∃ z:Int,cs[i]? = some (.int .u8 z)∧(0≤z∧z≤255):=by
    intro i hi
    have h1:=hx i hi
    rw [hce,Nat.mul_one] at h1
    have hlt:i<cs.length:=by omega
    have h2:cs.drop i=cs[i]::cs.drop (i+1):=List.drop_eq_getElem_cons hlt
    have h1:DataW.trod enc P w b0 sp held m e ((cs.drop i).take 1)=xs[i]?:=h1
    rw [h2] at h1
    simp only [List.take_succ_cons,List.take_zero] at h1
    obtain ⟨y,hy⟩:∃ y,xs[i]? = some y:=⟨xs[i],by simp [hn,hi]⟩
    rw [hy] at h1
    obtain ⟨z,hc,-,hw⟩:=DataW.trod_int he h1
    refine ⟨z,?_,?_⟩
    · rw [List.getElem?_eq_getElem hlt]
      simp only [List.cons.injEq] at hc
      rw [hc.1]
    · simpa [Lit.wf,IntKind.min,IntKind.max,IntKind.signed,IntKind.bits] using hw
  have all:∀ (l:List Value),(∀ i,i<l.length→∃ z:Int,l[i]? = some (.int .u8 z)∧(0≤z∧z≤255))→∃ zs:List Int,l=zs.map (Value.int .u8)∧Qax zs:=by
    intro l
    induction l with
    | nil=>exact fun _=>⟨[],rfl,fun x hx=>by simp at hx⟩
    | cons a l ih =>
      intro h
      obtain ⟨zs,h1,h2⟩:=ih fun i hi=>by simpa using h (i+1) (by simp; omega)
      obtain ⟨z,h3,h4⟩:=h 0 (by simp)
      simp only [List.getElem?_cons_zero,Option.some.injEq] at h3
      refine ⟨z::zs,by rw [h3,h1]; rfl,fun x hx=>?_⟩
      rcases List.mem_cons.1 hx with e | e
      · rw [e]; exact h4
      · exact h2 x e
  obtain ⟨zs,h1,h2⟩:=all cs fun i hi=>each i (by omega)
  exact ⟨zs,h1,by rw [←hcs,h1,List.length_map],h2⟩
end
end Go.Proofs.YthfkppjajmjpnaaDoor.Auto
end
section
namespace Go.Proofs.YthfkppjajmjpnaaDoor.Auto
open Go Go.RowKit Go.WideShapes
open Rely
section
variable {H : Type} {enc : TypeId × Value → H} {P : Program} {W w : World} {r : Reach} {base b0 : Nat} {sp : Nat → Bool} {held : Bool}
theorem Qil {t : TypeId} {f0 f1 f2 f3 f4 f5:Field} {fuel:Nat} {cs:List Value} {x:DataW H×List MemPlace} (ht:P.underlying t=some (.struct #[f0,f1,f2,f3,f4,f5])) (h:DataW.trod enc P w b0 sp held fuel t cs=some x) :
    ∃ y0 y1 y2 y3 y4 y5 n,cs.length=P.cellsOf t∧DataW.trod enc P w b0 sp held n f0.type ((cs.drop f0.offset).take (P.cellsOf f0.type))=some y0∧DataW.trod enc P w b0 sp held n f1.type ((cs.drop f1.offset).take (P.cellsOf f1.type))=some y1∧DataW.trod enc P w b0 sp held n f2.type ((cs.drop f2.offset).take (P.cellsOf f2.type))=some y2∧DataW.trod enc P w b0 sp held n f3.type ((cs.drop f3.offset).take (P.cellsOf f3.type))=some y3∧DataW.trod enc P w b0 sp held n f4.type ((cs.drop f4.offset).take (P.cellsOf f4.type))=some y4∧DataW.trod enc P w b0 sp held n f5.type ((cs.drop f5.offset).take (P.cellsOf f5.type))=some y5:=by
  obtain ⟨xs,n,_,rfl,hl,hlen,hf⟩:=DataW.trod_struct ht h
  match xs,hlen with
  | [y0,y1,y2,y3,y4,y5],_=>exact ⟨y0,y1,y2,y3,y4,y5,n,hl,by simpa using hf 0 f0 rfl,by simpa using hf 1 f1 rfl,by simpa using hf 2 f2 rfl,by simpa using hf 3 f3 rfl,by simpa using hf 4 f4 rfl,by simpa using hf 5 f5 rfl⟩
theorem sub_st6 {t : TypeId} {f0 f1 f2 f3 f4 f5:Field} {fuel:Nat} {cs:List Value} {x:DataW H×List MemPlace} {n0 n1 n2 n3 n4 n5:Nat} (ht:P.underlying t=some (.struct #[f0,f1,f2,f3,f4,f5]))
    (ho:f0.offset=0∧f1.offset=n0∧f2.offset=n0+n1∧f3.offset=n0+n1+n2∧f4.offset=n0+n1+n2+n3∧f5.offset=n0+n1+n2+n3+n4) (hc:P.cellsOf f0.type=n0∧P.cellsOf f1.type=n1∧P.cellsOf f2.type=n2∧P.cellsOf f3.type=n3∧P.cellsOf f4.type=n4∧P.cellsOf f5.type=n5) (hC:P.cellsOf t=n0+n1+n2+n3+n4+n5) (h:DataW.trod enc P w b0 sp held fuel t cs=some x) :
    ∃ (X0 X1 X2 X3 X4 X5:List Value) (y0 y1 y2 y3 y4 y5:DataW H×List MemPlace) (n:Nat),cs=X0++X1++X2++X3++X4++X5∧DataW.trod enc P w b0 sp held n f0.type X0=some y0∧DataW.trod enc P w b0 sp held n f1.type X1=some y1∧DataW.trod enc P w b0 sp held n f2.type X2=some y2∧DataW.trod enc P w b0 sp held n f3.type X3=some y3∧DataW.trod enc P w b0 sp held n f4.type X4=some y4∧DataW.trod enc P w b0 sp held n f5.type X5=some y5:=by
  obtain ⟨y0,y1,y2,y3,y4,y5,n,hl,h0,h1,h2,h3,h4,h5⟩:=Qil ht h
  obtain ⟨o0,o1,o2,o3,o4,o5⟩:=ho
  obtain ⟨c0,c1,c2,c3,c4,c5⟩:=hc
  rw [o0,c0] at h0
  rw [o1,c1] at h1
  rw [o2,c2] at h2
  rw [o3,c3] at h3
  rw [o4,c4] at h4
  rw [o5,c5] at h5
  refine ⟨_,_,_,_,_,_,y0,y1,y2,y3,y4,y5,n,?_,h0,h1,h2,h3,h4,h5⟩
  rw [hC] at hl
  simp only [List.drop_zero]
  have e1:cs.take (n0)++(cs.drop (n0)).take n1=cs.take (n0+n1):=by rw [List.take_add (i:=n0)]
  have e2:cs.take (n0+n1)++(cs.drop (n0+n1)).take n2=cs.take (n0+n1+n2):=by rw [List.take_add (i:=n0+n1)]
  have e3:cs.take (n0+n1+n2)++(cs.drop (n0+n1+n2)).take n3=cs.take (n0+n1+n2+n3):=by rw [List.take_add (i:=n0+n1+n2)]
  have e4:cs.take (n0+n1+n2+n3)++(cs.drop (n0+n1+n2+n3)).take n4=cs.take (n0+n1+n2+n3+n4):=by rw [List.take_add (i:=n0+n1+n2+n3)]
  have e5:cs.take (n0+n1+n2+n3+n4)++(cs.drop (n0+n1+n2+n3+n4)).take n5=cs.take (n0+n1+n2+n3+n4+n5):=by rw [List.take_add (i:=n0+n1+n2+n3+n4)]
  rw [e1,e2,e3,e4,e5,List.take_of_length_le (by omega)]
end
end Go.Proofs.YthfkppjajmjpnaaDoor.Auto
end
section
namespace Go.Proofs.YthfkppjajmjpnaaDoor.Auto
open Go Go.RowKit
open Rely
theorem Qej {P : Program} {w:World}:∀ (laid:List (String×DataW Unit)) (ps:List MemPlace) (n:String) (d:DataW Unit),DataW.LaidVars P w laid ps→(n,d)∈laid →
    ∃ g t cs fuel p,P.globalNamed n=some g∧(P.globals[g]?).map (·.type)=some t∧w.var? P n=some cs∧DataW.trod (fun _=>()) P w 0 (fun _=>true) false fuel t cs.toList=some (d,p)∧∀ x∈MemPlace.row ⟨g,0,none⟩ cs.size,x∈ps
  | [],_,_,_,_,h=>by cases h
  | (n0,d0)::r,ps,n,d,⟨g,t,cs,fuel,p,q,h1,h2,h3,h4,h5,h6⟩,h=>by
    subst h6
    rcases List.mem_cons.1 h with h | h
    · cases h
      exact ⟨g,t,cs,fuel,p,h1,h2,h3,h4,fun x hx=>List.mem_append_left _ (List.mem_append_left _ hx)⟩
    · obtain ⟨g',t',cs',fuel',p',a,b,c,e,f⟩:=Qej r q n d h5 h
      exact ⟨g',t',cs',fuel',p',a,b,c,e,fun x hx=>List.mem_append_right _ (f x hx)⟩
theorem QeX {P : Program} {w:World} {laid:List (String×DataW Unit)} {n:String} {k:IntKind} {zs:List Int} {g:Nat} {t e:TypeId} {m:Nat} (h:laidMet P laid w) (hm:(n,Lib.tabData k zs)∈laid)
    (hg:P.globalNamed n=some g) (hty:(P.globals[g]?).map (·.type)=some t) (ht:P.underlying t=some (.array m e)) (he:P.underlying e=some (.int k)) (hce:P.cellsOf e=1) (hct:P.cellsOf t=m) (h0:0<zs.length) :
    ∃ t,w.heap[g]? = some (.cells (ints k zs) t):=by
  obtain ⟨ps,hL,-,hC⟩:=h
  obtain ⟨g',t',cs,fuel,p,hg',ht',hvar,hd,hin⟩:=Qej _ _ _ _ hL hm
  obtain rfl:=Option.some.inj (hg.symm.trans hg')
  obtain rfl:=Option.some.inj (hty.symm.trans ht')
  have hcs:=Lib.cells_of_tab ht he hce hct hd
  have hsz:0<cs.size:=by rw [←Array.length_toList,hcs,List.length_map]; exact h0
  obtain ⟨⟨c,t2,hc⟩,-⟩:=hC g 0 (hin _ (List.mem_map.2 ⟨0,List.mem_range.2 hsz,rfl⟩))
  unfold World.var? at hvar
  rw [hg] at hvar
  simp only [Option.bind_some,hc,Option.some.injEq] at hvar
  subst hvar
  refine ⟨t2,hc.trans ?_⟩
  rw [show c=ints k zs from by rw [ints,←hcs]]
end Go.Proofs.YthfkppjajmjpnaaDoor.Auto
end
section
namespace Go.Proofs.YthfkppjajmjpnaaDoor.Te
open Go Go.RowKit
open Rely Auto Own Sha
open Go.WideShapes Go.ChangeShapes Go.ChangeAt Go.Deep
open Go.Proofs.YthfkppjajmjpnaaDoor
section
variable {H : Type} {enc : TypeId × Value → H} {P : Program} {w : World} {b0 : Nat} {held : Bool}
theorem QiP (x : Addr) (i j:Nat):(x.add i).add j=x.add (i+j):=by
  by_cases hi:i=0 <;> by_cases hj:j=0 <;> simp [Addr.add,hi,hj,Nat.add_assoc]
theorem open_tree {t s e5 e3:TypeId} {f0 f1 f2 f3 f4 f5:Field} {ad:Option Addr} {len cap:Nat} {d:DataW H} {p:List MemPlace} (hs:P.underlying t=some (.slice s)) (hss:P.underlying s=some (.struct #[f0,f1,f2,f3,f4,f5]))
    (ho:f0.offset=0∧f1.offset=1∧f2.offset=1+1∧f3.offset=1+1+32∧f4.offset=1+1+32+32∧f5.offset=1+1+32+32+32) (hc:P.cellsOf f0.type=1∧P.cellsOf f1.type=1∧P.cellsOf f2.type=32∧P.cellsOf f3.type=32∧P.cellsOf f4.type=32∧P.cellsOf f5.type=1) (hC:P.cellsOf s=1+1+32+32+32+1)
    (h0:P.underlying f0.type=some .bool) (h1:P.underlying f1.type=some (.int .i64)) (h2:P.underlying f2.type=some (.array 32 e5)) (h3:P.underlying f3.type=some (.array 32 e5)) (h4:P.underlying f4.type=some (.array 32 e5)) (h5:P.underlying f5.type=some (.slice e3))
    (he5:P.underlying e5=some (.int .u8)) (hc5:P.cellsOf e5=1) (he3:P.underlying e3=some (.int .i64)) (hc3:P.cellsOf e3=1)
    (h:DataW.Trod enc P w b0 (fun _=>true) held t (.slice ad len cap) d p) :
    ∃ ts:List NdV,ts.length=len∧TrAt w.heap.size w ad ts∧∀ n∈ts,NdOk n.n:=by
  obtain ⟨fuel,hf⟩:=h
  rcases DataW.trod_slice hs hf with ⟨hcs',-⟩ | ⟨x,l,c,elems,rest,n,-,hcs',-,hb,hl,hmx,hlen,hel,-,-⟩
  · simp [Value.cells] at hcs'
    obtain ⟨rfl,rfl,rfl⟩:=hcs'
    exact ⟨[],rfl,⟨0,0,fun h=>absurd h (by decide),fun i hi=>absurd hi (Nat.not_lt_zero _)⟩,fun n hn=>by cases hn⟩
  · simp [Value.cells] at hcs'
    obtain ⟨rfl,rfl,rfl⟩:=hcs'
    have key:∀ i,i<len→∃ n:NdV,(∀ j u,(cat (ndP n))[j]? = some u→w.cell? (x.add (i*99+j))=some u)∧RdK .i64 w.heap.size n.n.ms (.slice n.a n.n.ms.length n.c) w∧NdOk n.n:=fun i hi=>by
      have h9:=hel i hi
      rw [hC,List.getElem?_eq_getElem (by omega)] at h9
      obtain ⟨cs,hc1,hc2⟩:=Option.bind_eq_some_iff.1 h9
      obtain ⟨hn,q1,q2⟩:=World.cells?_some hc1
      obtain ⟨X0,X1,X2,X3,X4,X5,y0,y1,y2,y3,y4,y5,m,hcs,t0,t1,t2,t3,t4,t5⟩:=Auto.sub_st6 hss ho hc hC hc2
      obtain ⟨us,rfl,-⟩:=DataW.trod_bool h0 t0
      obtain ⟨nm,rfl,-,-⟩:=DataW.trod_int h1 t1
      obtain ⟨key,rfl,hkl,hkb⟩:=Auto.open_raw h2 he5 hc5 hc.2.2.1 t2
      obtain ⟨sg,rfl,hgl,hgb⟩:=Auto.open_raw h3 he5 hc5 hc.2.2.2.1 t3
      obtain ⟨pa,rfl,hpl,hpb⟩:=Auto.open_raw h4 he5 hc5 hc.2.2.2.2.1 t4
      have fin:∀ (a:Option Addr) (ms:List Int) (c:Nat),X5=[.slice a ms.length c]→RdK .i64 w.heap.size ms (.slice a ms.length c) w→∃ n:NdV,(∀ j u,(cat (ndP n))[j]? = some u→w.cell? (x.add (i*99+j))=some u)∧RdK .i64 w.heap.size n.n.ms (.slice n.a n.n.ms.length n.c) w∧NdOk n.n:=fun a ms c e r=>by
        refine ⟨⟨⟨us,nm,key,sg,pa,ms⟩,a,c⟩,fun j u hu=>?_,r,⟨hkl,hgl,hpl,hkb,hgb,hpb⟩⟩
        have e9:(cat (ndP ⟨⟨us,nm,key,sg,pa,ms⟩,a,c⟩)).toList=cs:=by
          rw [hcs,e]
          unfold ndP
          simp [cat,Rely.ints]
        rw [←Array.getElem?_toList,e9] at hu
        have hj:j<99:=by have:=(List.getElem?_eq_some_iff.1 hu).1; omega
        have:=q2 j hj
        rw [QiP] at this
        rw [this]; exact hu
      rcases open_ints h5 he3 hc3 t5 with ⟨hcv,-⟩ | ⟨y,l,cc,zs,hcv,-,hl2,hm2,hz2,-,hcell,hwz⟩
      · exact fin none [] 0 hcv ⟨none,0,rfl,qR _,Nat.zero_le _,fun _=>rfl,.inl rfl⟩
      · obtain ⟨r,rl,rf⟩:=Auto.rdK_of_row (k:=.i64) (w:=w) (a:=some y) (len:=l) (cap:=cc) (zs:=zs) (.inr ⟨y,rfl,hl2,hm2,by simpa using hz2,hcell,hwz⟩)
        refine fin (some y) (zs.take l) cc (by rw [rl]; exact hcv) ?_
        rw [rl]; exact r
    rcases Nat.eq_zero_or_pos len with h0' | h0'
    · subst h0'
      exact ⟨[],rfl,⟨0,0,fun h=>absurd h (by decide),fun i hi=>absurd hi (Nat.not_lt_zero _)⟩,fun n hn=>by cases hn⟩
    obtain ⟨b,off,spot⟩:=x
    have first:∀ n:NdV,(cat (ndP n))[0]? = some (.bool n.n.us):=fun n=>by
      unfold ndP
      show (#[Value.bool n.n.us]++cat _)[0]? = _
      rw [Array.getElem?_append_left (show 0<1 by decide)]
      rfl
    obtain ⟨n0,hq,-⟩:=key 0 h0'
    have hq0:=hq 0 _ (first n0)
    have hspot:spot=none:=by simpa [Addr.add] using World.cell?_spot hq0
    subst hspot
    rw [WideShapes.add_plain] at hq0
    have hlt:b<w.heap.size:=Qe7 hq0
    have all:∀ m,m≤len→∃ ts:List NdV,ts.length=m∧∀ i,i<m→NdAt w.heap.size w b (off+i*99) (ndi ts i):=by
      intro m
      induction m with
      | zero=>exact fun _=>⟨[],rfl,fun i hi=>absurd hi (Nat.not_lt_zero _)⟩
      | succ m ih =>
        intro hm
        obtain ⟨ts,htl,hts⟩:=ih (by omega)
        obtain ⟨n,k1,k2,k3⟩:=key m (by omega)
        refine ⟨ts++[n],by rw [List.length_append,htl]; rfl,fun i hi=>?_⟩
        have e:ndi (ts++[n]) i=if i<m then ndi ts i else n:=by
          unfold ndi
          rw [List.getD_eq_getElem?_getD,List.getD_eq_getElem?_getD]
          split
          · rename_i h; rw [List.getElem?_append_left (by omega)]
          · rename_i h
            rw [List.getElem?_append_right (by omega),show i-ts.length=0 by omega]; rfl
        rw [e]
        split
        · rename_i h; exact hts i h
        · rename_i h
          obtain rfl:i=m:=by omega
          exact ⟨hlt,hlt,fun j u hu=>by have:=k1 j u hu; rw [WideShapes.add_plain] at this; rw [Nat.add_assoc]; exact this,k2,k3⟩
    obtain ⟨ts,htl,hts⟩:=all len (qR _)
    refine ⟨ts,htl,⟨b,off,fun _=>rfl,fun i hi=>hts i (by omega)⟩,fun n hn=>?_⟩
    obtain ⟨i,hi,e⟩:=List.mem_iff_getElem.1 hn
    have:=(hts i (by omega)).ok
    unfold ndi at this
    rw [List.getD_eq_getElem?_getD,List.getElem?_eq_getElem hi] at this
    rw [←e]; exact this
end
end Go.Proofs.YthfkppjajmjpnaaDoor.Te
end
