/- Texts of this claim, joined (ME4). -/
import Derived.Test.YthfkppjajmjpnaaDoorZME3

set_option linter.unusedVariables false
set_option linter.unusedSimpArgs false
set_option maxHeartbeats 4000000
section
namespace Go.Proofs.YthfkppjajmjpnaaDoor.Wr
open Go Go.RowKit
open Rely Auto Own Sha
open Wk
section
variable {P : Program} {ops : Array Oper} {Q : Exit → Act → World → Prop} {o : Oper} {N : Nat} {L : Env} {w V : World} {ds : List Deferred} {fuel : Nat} {listed : Array Bool}
theorem wo_appendT {k : IntKind} {T:TypeId} (b:Nat) (s x:Operand) (t:TypeId) (ho2:o.op=.call { callee:=.builtin .append,args:=#[s,x],argTypes:=#[t,t] })
    (ht:P.underlying t=some (.slice T)) (hi:(P.info? T).map (fun i=>(i.zero,i.size,i.bytes))=some (some (.int k 0),1,b)) (hb8:b≤8) (d:Nat) (hd:o.dst=some d) (j:Nat) (ho:ops[j]? = some o) (hg:Qbu ops o N L=some true) {B:Nat} {v y:Value} {xs ys:List Int}
    (hs:Rely.look (envN N L) s=v) (hx:Rely.look (envN N L) x=y)
    (h:OwnN k T V.heap.size xs v w) (hy:RdK k B ys y w) (hn:xs.length+ys.length≤1000000000) (hV:Ext V w)
    (kk:∀ (u:Value) (W':World),OwnN k T V.heap.size (xs++ys) u W'→Ext V W'→Below V.heap.size w W'→WB P ops Q (fun _=>True) fuel (listed.setIfInBounds j true) (Qa3 ds N ((d,u)::L)) W'):WO P ops Q (fun _=>True) j fuel listed (Qa3 ds N L) w:=by
  obtain ⟨v',W',h1,h2,h3,h4⟩:=QdU (ρ:=Rely.look (envN N L)) (o:=o) (W:=w) s x t ho2 ht hi hb8 hs hx h hy hn hV.size
  exact Qj4 ho (fun u W'=>OwnN k T V.heap.size (xs++ys) u W'∧Ext V W'∧Below V.heap.size w W') d hd hg ⟨v',W',h1,h2,Qge hV h h3,⟨h3.os,h3.tape,h3.output,h3.size,fun i hi=>h3.block i (qL hi hV.size) (fun q=>by have:=h.ge q.symm; omega)⟩⟩ (fun _ _ _=>trivial) fun u W' h=>kk u W' h.1 h.2.1 h.2.2
end
def nodeH (us : Bool) (nm:Int) (key sg pa:List Int) (n:Nat):List Int:=[bif us then 1 else 0,byV nm 0]++key++sg++pa++[byV ((n:Nat):Int) 0]
def nodeV (us : Bool) (nm:Int) (key sg pa ms:List Int):List Int:=nodeH us nm key sg pa ms.length++ms.map fun m=>byV m 0
theorem QeC (H ms:List Int) (i:Nat) (h:i<ms.length):H++(ms.take (i+1)).map (fun m=>byV m 0)=H++(ms.take i).map (fun m=>byV m 0)++[byV (nth ms i) 0]:=by
  have e:ms.take (i+1)=ms.take i++[nth ms i]:=by
    rw [List.take_add_one,List.getElem?_eq_getElem h]
    unfold nth
    rw [List.getD_eq_getElem?_getD,List.getElem?_eq_getElem h]
    rfl
  rw [e,List.map_append,←List.append_assoc]
  rfl
theorem QgT (nm : Int) (key sg pa ms:List Int) (a_m:Option Addr) (c_m:Nat) (w:World) (hkl:key.length=32) (hgl:sg.length=32) (hpl:pa.length=32) (hml:ms.length≤1000000) (hm:RdK .i64 w.heap.size ms (.slice a_m ms.length c_m) w):Calls Tryd.prog 57 #[.agg (cat [#[.bool true],#[.int .i64 nm],ints .u8 (key),ints .u8 (sg),ints .u8 (pa),#[.slice a_m ms.length c_m]])] w (QbK w (OwnN .u8 5 w.heap.size (nodeV true nm key sg pa ms))):=by
 refine enter 47 [(0,.agg (cat [#[.bool true],#[.int .i64 nm],ints .u8 (key),ints .u8 (sg),ints .u8 (pa),#[.slice a_m ms.length c_m]]))] Tryd.func57 rfl rfl kj rfl ?_
 refine wp_seq_k fun K1 hK1=>?_
 refine Qab ?_
 refine Qan (cat [#[.bool true],#[.int .i64 nm],ints .u8 (key),ints .u8 (sg),ints .u8 (pa),#[.slice a_m ms.length c_m]]) 50 1 rfl kj kj fun g2 W1 l2 e1 r2_1=>?_
 have x1:Ext w W1:=Ext.tr (Rely.Ext.refl w) e1
 have b2:w.heap.size≤g2:=qT (Rely.Ext.refl w).size l2
 refine Qaa (.slice none 0 0) 2 rfl kj kj ?_
 refine Qaf ?_
 refine hK1 _ _ ?_
 refine wp_seq_k fun K3 hK3=>?_
 refine Qab ?_
 refine Qaa (.pointer (some ⟨g2,1,none⟩)) 5 rfl kj kj ?_
 refine Qaa (.int .i64 nm) 6 rfl kj (Qag 3 _ g2 1 50 _ (.int .i64 nm) _ r2_1 rfl kj (Qaj [#[.bool true]] [#[.int .i64 nm]] [ints .u8 (key),ints .u8 (sg),ints .u8 (pa),#[.slice a_m ms.length c_m]] 1 kj 0 _ rfl) kj) ?_
 refine Qaa (.int .u8 (byV nm 0)) 7 rfl kj (Qai (u:=.int .u8 (IntKind.u8.wrap (nm))) kj (congrArg (Value.int .u8) (byV0 nm))) ?_
 refine QaD (ints .u8 ([0,(byV nm 0)])) 5 2 8 rfl kj kj fun g4 W2 l4 e2 r4_2=>?_
 have x2:Ext w W2:=Ext.tr x1 e2
 have b4:w.heap.size≤g4:=qT x1.size l4
 refine Qaa (.slice (some ⟨g4,0,none⟩) 2 2) 3 rfl kj kj ?_
 refine Qaf ?_
 refine hK3 _ _ ?_
 refine wp_seq_k fun K5 hK5=>?_
 refine wp_seq_k fun K6 hK6=>?_
 refine Qab ?_
 refine Qaa (.pointer (some ⟨g2,0,none⟩)) 9 rfl kj kj ?_
 have r2_2:=(Qah r2_1 e2)
 refine Qaa (.bool true) 10 rfl kj (Qag 4 _ g2 0 50 _ (.bool true) _ r2_2 rfl kj (Qaj [] [#[.bool true]] [#[.int .i64 nm],ints .u8 (key),ints .u8 (sg),ints .u8 (pa),#[.slice a_m ms.length c_m]] 0 kj 0 _ rfl) kj) ?_
 refine Qaf ?_
 refine hK6 _ _ ?_
 refine cond_true kj ?_
 refine Qab ?_
 refine Qaa (.slice (some ⟨g4,0,none⟩) 2 2) 11 rfl kj kj ?_
 refine Qaa (.pointer (some ⟨g4,0,none⟩)) 12 rfl kj (QbE 59 _ _ .i64 (0) g4 2 2 5 rfl kj kj kj kj (by decide)) ?_
 refine Qau g4 _ (ints .u8 (([0,(byV nm 0)]).set 0 1)) 5 r4_2 rfl kj (Qbe 5 _ _ g4 0 5 _ _ r4_2 rfl kj kj kj (Nat.lt_of_lt_of_eq (show 0<2 by decide) rfl.symm)) fun W3 p3 r4_3=>?_
 have x3:Ext w W3:=Puts.ext p3 x2 b4
 refine Qaf ?_
 refine hK5 _ _ ?_
 refine wp_seq_k fun K7 hK7=>?_
 refine Qc8 (fun _=>True) kj fun W4 e4=>⟨trivial,?_⟩
 have x4:Ext w W4:=Ext.tr x3 e4
 refine QaQ 0 (.slice (some ⟨g4,0,none⟩) 2 2) 13 rfl rfl kj kj (fun _ _ _ h=>h) (fun W hR=>by kernel_rfl) ?_
 refine QaQ 1 (.pointer (some ⟨g2,2,none⟩)) 14 rfl rfl kj kj (fun _ _ _ h=>h) (fun W hR=>by kernel_rfl) ?_
 refine QaQ 2 (.slice (some ⟨g2,2,none⟩) 32 32) 15 rfl rfl kj kj (fun _ _ _ h=>h) (fun W hR=>by kernel_rfl) ?_
 refine QaQ 4 (.pointer (some ⟨g2,34,none⟩)) 17 rfl rfl kj kj (fun _ _ _ h=>h) (fun W hR=>by kernel_rfl) ?_
 refine QaQ 5 (.slice (some ⟨g2,34,none⟩) 32 32) 18 rfl rfl kj kj (fun _ _ _ h=>h) (fun W hR=>by kernel_rfl) ?_
 refine QaQ 7 (.pointer (some ⟨g2,66,none⟩)) 20 rfl rfl kj kj (fun _ _ _ h=>h) (fun W hR=>by kernel_rfl) ?_
 refine QaQ 8 (.slice (some ⟨g2,66,none⟩) 32 32) 21 rfl rfl kj kj (fun _ _ _ h=>h) (fun W hR=>by kernel_rfl) ?_
 refine Qc1 3 kj ?_
 have r4_4:=(Qah r4_3 e4)
 have r2_3:=(Puts.row p3 r2_2 (Qay r2_1 l4))
 have r2_4:=(Qah r2_3 e4)
 have y1_2:Ext W1 W2:=(Rely.Ext.trans (Rely.Ext.refl W1) e2)
 have y1_3:Ext W1 W3:=(Puts.ext p3 y1_2 l4)
 have y1_4:Ext W1 W4:=(Rely.Ext.trans y1_3 e4)
 refine wo_appendT (k:=.u8) (T:=5) (xs:=([0,(byV nm 0)]).set 0 1) (ys:=key) (V:=W1) 1 (.tmp 13) (.tmp 15) 59 rfl kj kj (by decide) 16 rfl 3 rfl kj kj kj (QbY (xs:=([0,(byV nm 0)]).set 0 1) rfl l4 r4_4 (show 2≤maxLen by decide)) (QbF 2 hkl r2_4 (fun i hi=>Qbw [#[.bool true],#[.int .i64 nm]] [ints .u8 (sg),ints .u8 (pa),#[.slice a_m ms.length c_m]] key 2 i (2+i) kj rfl (by rw [hkl]; exact hi)) (Qa5 r2_4) (qR _) (by decide)) (by simp only [List.length_append,List.length_cons,List.length_nil,List.length_map,List.length_take,List.length_set,nodeH,hkl,hgl,hpl]; omega) y1_4 fun z1 W5 f8 y5 l5=>?_
 have x5:Ext w W5:=Ext.low x4 l5 x1.size
 refine Qc1 6 kj ?_
 have r2_5:=(Qb1 l5 r2_4 (Qa5 r2_1))
 refine wo_appendT (k:=.u8) (T:=5) (xs:=([0,(byV nm 0)]).set 0 1++key) (ys:=sg) (V:=W1) 1 (.tmp 16) (.tmp 18) 59 rfl kj kj (by decide) 19 rfl 6 rfl kj kj kj f8 (QbF 34 hgl r2_5 (fun i hi=>Qbw [#[.bool true],#[.int .i64 nm],ints .u8 (key)] [ints .u8 (pa),#[.slice a_m ms.length c_m]] sg 34 i (34+i) (by rw [Qac,Qac,Qac]; simp only [qS,cat,((Qae _ _).trans hkl)]; rfl) rfl (by rw [hgl]; exact hi)) (Qa5 r2_5) (qR _) (by decide)) (by simp only [List.length_append,List.length_cons,List.length_nil,List.length_map,List.length_take,List.length_set,nodeH,hkl,hgl,hpl]; omega) y5 fun z2 W6 f10 y6 l6=>?_
 have x6:Ext w W6:=Ext.low x5 l6 x1.size
 refine Qc1 9 kj ?_
 have r2_6:=(Qb1 l6 r2_5 (Qa5 r2_1))
 refine wo_appendT (k:=.u8) (T:=5) (xs:=([0,(byV nm 0)]).set 0 1++key++sg) (ys:=pa) (V:=W1) 1 (.tmp 19) (.tmp 21) 59 rfl kj kj (by decide) 22 rfl 9 rfl kj kj kj f10 (QbF 66 hpl r2_6 (fun i hi=>Qbw [#[.bool true],#[.int .i64 nm],ints .u8 (key),ints .u8 (sg)] [#[.slice a_m ms.length c_m]] pa 66 i (66+i) (by rw [Qac,Qac,Qac,Qac]; simp only [qS,cat,((Qae _ _).trans hgl),((Qae _ _).trans hkl)]; rfl) rfl (by rw [hpl]; exact hi)) (Qa5 r2_6) (qR _) (by decide)) (by simp only [List.length_append,List.length_cons,List.length_nil,List.length_map,List.length_take,List.length_set,nodeH,hkl,hgl,hpl]; omega) y6 fun z3 W7 f12 y7 l7=>?_
 have x7:Ext w W7:=Ext.low x6 l7 x1.size
 refine QaQ 10 (z3) 3 rfl rfl kj kj (fun _ _ _ h=>h) (fun W hR=>by kernel_rfl) ?_
 refine Qfr kj ?_
 refine hK7 _ _ ?_
 refine wp_seq_k fun K14 hK14=>?_
 refine Qab ?_
 refine Qaa (z3) 23 rfl kj kj ?_
 refine Qaa (.pointer (some ⟨g2,98,none⟩)) 24 rfl kj kj ?_
 have r2_7:=(Qb1 l7 r2_6 (Qa5 r2_1))
 refine Qaa (.slice a_m ms.length c_m) 25 rfl kj (Qag 24 _ g2 98 50 _ (.slice a_m ms.length c_m) _ r2_7 rfl kj (Qaj [#[.bool true],#[.int .i64 nm],ints .u8 (key),ints .u8 (sg),ints .u8 (pa)] [#[.slice a_m ms.length c_m]] [] 98 (by rw [Qac,Qac,Qac,Qac,Qac]; simp only [qS,cat,((Qae _ _).trans hgl),((Qae _ _).trans hkl),((Qae _ _).trans hpl)]; rfl) 0 _ rfl) kj) ?_
 refine Qaa (.int .i64 ((ms.length:Nat):Int)) 26 rfl kj kj ?_
 refine Qaa (.int .u8 (byV ((ms.length:Nat):Int) 0)) 27 rfl kj (Qai (u:=.int .u8 (IntKind.u8.wrap ((ms.length:Nat):Int))) kj (congrArg (Value.int .u8) (byV0 _))) ?_
 refine QaD (ints .u8 ([(byV ((ms.length:Nat):Int) 0)])) 5 1 28 rfl kj kj fun g15 W8 l15 e8 r15_8=>?_
 have x8:Ext w W8:=Ext.tr x7 e8
 have b15:w.heap.size≤g15:=qT x7.size l15
 have f16_8:=(f12.ext e8)
 have y1_8:Ext W1 W8:=(Rely.Ext.trans y7 e8)
 refine QaP (k:=.u8) (T:=5) (xs:=([0,(byV nm 0)]).set 0 1++key++sg++pa) (ys:=[(byV ((ms.length:Nat):Int) 0)]) (V:=W1) 1 (.tmp 23) (.tmp 28) 59 rfl kj kj (by decide) 29 rfl kj kj kj f16_8 (QaT (xs:=[(byV ((ms.length:Nat):Int) 0)]) (n:=1) rfl r15_8 (Qa5 r15_8) (show 1≤maxLen from by decide)) (by simp only [List.length_append,List.length_cons,List.length_nil,List.length_map,List.length_take,List.length_set,nodeH,hkl,hgl,hpl]; omega) y1_8 fun z4 W9 f17 y9 l9=>?_
 have x9:Ext w W9:=Ext.low x8 l9 x1.size
 refine Qaa (z4) 3 rfl kj kj ?_
 refine Qaf ?_
 refine hK14 _ _ ?_
 refine wp_seq_k fun K19 hK19=>?_
 refine wp_seq_k fun K20 hK20=>?_
 refine Qab ?_
 refine Qaa (.int .i64 0) 4 rfl kj kj ?_
 refine Qaf ?_
 refine hK20 _ _ ?_
 refine wp_block ?_
 refine Qa0 (fun (s1:Nat×Value)=>[(1,.pointer (some ⟨g2,0,none⟩)),(3,s1.2),(4,.int .i64 ((s1.1:Nat):Int))]) (fun (s1:Nat×Value) W=>(s1.1≤ms.length)∧(OwnN .u8 5 W1.heap.size (nodeH true nm key sg pa ms.length++(ms.take s1.1).map (fun m=>byV m 0)) s1.2 W)∧(Below W1.heap.size W9 W)∧(Ext w W)) (fun (s1:Nat×Value)=>ms.length-s1.1) (0,z4) ⟨rfl,rfl,rfl,trivial⟩ ⟨(Nat.zero_le _),(by rw [List.take_zero,List.map_nil,List.append_nil]; exact f17),(RowKit.Below.refl _ W9),x9⟩ fun s1 X1 V1 hI1=>?_
 obtain ⟨i,u⟩:=s1
 obtain ⟨hi,hu,kk1,xx1⟩:=hI1
 replace hi:i≤ms.length:=hi
 replace hu:OwnN .u8 5 W1.heap.size (nodeH true nm key sg pa ms.length++(ms.take i).map (fun m=>byV m 0)) u V1:=hu
 replace kk1:Below W1.heap.size W9 V1:=kk1
 replace xx1:Ext w V1:=xx1
 have l10:=kk1
 refine wp_seq_k fun K21 hK21=>?_
 refine wp_seq_k fun K22 hK22=>?_
 refine Qab ?_
 refine Qaa (.int .i64 ((i:Nat):Int)) 30 rfl kj kj ?_
 refine Qaa (.pointer (some ⟨g2,98,none⟩)) 31 rfl kj kj ?_
 have r2_8:=(Qah r2_7 e8)
 have r2_9:=(Qb1 l9 r2_8 (Qa5 r2_1))
 have r2_10:=(Qb1 l10 r2_9 (Qa5 r2_1))
 refine Qaa (.slice a_m ms.length c_m) 32 rfl kj (Qag 24 _ g2 98 50 _ (.slice a_m ms.length c_m) _ r2_10 rfl kj (Qaj [#[.bool true],#[.int .i64 nm],ints .u8 (key),ints .u8 (sg),ints .u8 (pa)] [#[.slice a_m ms.length c_m]] [] 98 (by rw [Qac,Qac,Qac,Qac,Qac]; simp only [qS,cat,((Qae _ _).trans hgl),((Qae _ _).trans hkl),((Qae _ _).trans hpl)]; rfl) 0 _ rfl) kj) ?_
 refine Qaa (.int .i64 ((ms.length:Nat):Int)) 33 rfl kj kj ?_
 refine Qaa (.bool (decide (((i:Nat):Int)<((ms.length:Nat):Int)))) 34 rfl kj kj ?_
 refine Qaf ?_
 refine hK22 _ _ ?_
 refine Qar (t:=decide (((i:Nat):Int)<((ms.length:Nat):Int))) kj (fun c23=>?_) (fun c23=>?_)
 ·skip
  have hlt34:i<ms.length:=by have:=of_decide_eq_true c23; omega
  have hnm_24:(ms).length=ms.length:=rfl
  obtain ⟨gcm_24,ocm_24,ham_24,hlm_24,hcm_24⟩:=QaY (RdK.here (RdK.ext hm xx1)) (by rw [hnm_24]; omega)
  refine wp_skip ?_
  refine hK21 _ _ ?_
  refine wp_seq_k fun K25 hK25=>?_
  refine wp_block ?_
  refine Qab ?_
  refine Qaa (u) 37 rfl kj kj ?_
  refine Qaa (.pointer (some ⟨g2,98,none⟩)) 38 rfl kj kj ?_
  refine Qaa (.slice a_m ms.length c_m) 39 rfl kj (Qag 24 _ g2 98 50 _ (.slice a_m ms.length c_m) _ r2_10 rfl kj (Qaj [#[.bool true],#[.int .i64 nm],ints .u8 (key),ints .u8 (sg),ints .u8 (pa)] [#[.slice a_m ms.length c_m]] [] 98 (by rw [Qac,Qac,Qac,Qac,Qac]; simp only [qS,cat,((Qae _ _).trans hgl),((Qae _ _).trans hkl),((Qae _ _).trans hpl)]; rfl) 0 _ rfl) kj) ?_
  refine Qaa (.int .i64 ((i:Nat):Int)) 40 rfl kj kj ?_
  refine Qaa (.pointer (some ⟨gcm_24,ocm_24+i,none⟩)) 41 rfl kj (Qa6 24 _ _ .i64 i gcm_24 ocm_24 ms.length c_m 3 a_m _ ham_24 rfl rfl kj kj kj kj (Nat.lt_of_lt_of_eq (show i<ms.length by omega) hnm_24.symm)) ?_
  refine Qaa (.int .i64 (nth (ms) (i))) 42 rfl kj (Qak 3 _ _ (.int .i64 (nth (ms) (i))) (hcm_24 i (Nat.lt_of_lt_of_eq (show i<ms.length by omega) hnm_24.symm)) rfl kj kj) ?_
  refine Qaa (.int .u8 (byV (nth ms i) 0)) 43 rfl kj (Qai (u:=.int .u8 (IntKind.u8.wrap (nth (ms) (i)))) kj (congrArg (Value.int .u8) (byV0 _))) ?_
  refine QaD (ints .u8 ([(byV (nth ms i) 0)])) 5 1 44 rfl kj kj fun g26 W11 l26 e11 r26_11=>?_
  have x11:Ext w W11:=Ext.tr xx1 e11
  have b26:w.heap.size≤g26:=qT xx1.size l26
  have f27_11:=(hu.ext e11)
  have y1_10:Ext W1 V1:=(Ext.low y9 l10 (Rely.Ext.refl W1).size)
  have y1_11:Ext W1 W11:=(Rely.Ext.trans y1_10 e11)
  refine QaP (k:=.u8) (T:=5) (xs:=nodeH true nm key sg pa ms.length++(ms.take i).map (fun m=>byV m 0)) (ys:=[(byV (nth ms i) 0)]) (V:=W1) 1 (.tmp 37) (.tmp 44) 59 rfl kj kj (by decide) 45 rfl kj kj kj f27_11 (QaT (xs:=[(byV (nth ms i) 0)]) (n:=1) rfl r26_11 (Qa5 r26_11) (show 1≤maxLen from by decide)) (by simp only [List.length_append,List.length_cons,List.length_nil,List.length_map,List.length_take,List.length_set,nodeH,hkl,hgl,hpl]; omega) y1_11 fun z5 W12 f28 y12 l12=>?_
  have x12:Ext w W12:=Ext.low x11 l12 x1.size
  refine Qaa (z5) 3 rfl kj kj ?_
  refine Qaf ?_
  refine hK25 _ _ ?_
  refine Qab ?_
  refine Qaa (.int .i64 ((i:Nat):Int)) 35 rfl kj kj ?_
  refine Qaa (.int .i64 ((i+1:Nat):Int)) 36 rfl kj (Qai (u:=.int .i64 (IntKind.i64.wrap (((i:Nat):Int)+1))) kj (congrArg (Value.int .i64) (i64n _ _ (by omega) (by omega)))) ?_
  refine Qaa (.int .i64 ((i+1:Nat):Int)) 4 rfl kj kj ?_
  refine Qaf ?_
  repeat (first | with_reducible refine goX1 ?_ | with_reducible refine goX2 ?_ | with_reducible refine goX3 ?_)
  exact Qat ((i+1),z5) ⟨rfl,rfl,rfl,trivial⟩ ⟨(by omega),(by rw [QeC _ ms i hlt34]; exact f28),(RowKit.Below.trans (RowKit.Below.trans l10 (RowKit.Below.mono e11 y1_10.size)) l12),x12⟩ (by omega)
 ·skip
  have heq34:i=ms.length:=by have:=of_decide_eq_false c23; omega
  refine wp_exit ?_
  refine hK19 _ _ ?_
  refine wp_seq_k fun K30 hK30=>?_
  refine Qab ?_
  refine Qaa (u) 46 rfl kj kj ?_
  refine Qaa (u) 2 rfl kj kj ?_
  refine Qaf ?_
  refine hK30 _ _ ?_
  refine wp_ret ?_
  repeat (first | with_reducible refine goR1 ?_ | with_reducible refine goR2 ?_)
  exact (show bodyPost _ _ _ .ret _ _ from ret1 (u) rfl (Qaq kj) ⟨_,rfl,xx1,OwnN.base x1.size (show OwnN .u8 5 _ (nodeV true nm key sg pa ms) _ _ by have h7:=hu; rw [heq34,List.take_length] at h7; exact h7)⟩)
theorem QfV (nm : Int) (key sg pa ms:List Int) (a_m:Option Addr) (c_m:Nat) (w:World) (hkl:key.length=32) (hgl:sg.length=32) (hpl:pa.length=32) (hml:ms.length≤1000000) (hm:RdK .i64 w.heap.size ms (.slice a_m ms.length c_m) w):Calls Tryd.prog 57 #[.agg (cat [#[.bool false],#[.int .i64 nm],ints .u8 (key),ints .u8 (sg),ints .u8 (pa),#[.slice a_m ms.length c_m]])] w (QbK w (OwnN .u8 5 w.heap.size (nodeV false nm key sg pa ms))):=by
 refine enter 47 [(0,.agg (cat [#[.bool false],#[.int .i64 nm],ints .u8 (key),ints .u8 (sg),ints .u8 (pa),#[.slice a_m ms.length c_m]]))] Tryd.func57 rfl rfl kj rfl ?_
 refine wp_seq_k fun K1 hK1=>?_
 refine Qab ?_
 refine Qan (cat [#[.bool false],#[.int .i64 nm],ints .u8 (key),ints .u8 (sg),ints .u8 (pa),#[.slice a_m ms.length c_m]]) 50 1 rfl kj kj fun g2 W1 l2 e1 r2_1=>?_
 have x1:Ext w W1:=Ext.tr (Rely.Ext.refl w) e1
 have b2:w.heap.size≤g2:=qT (Rely.Ext.refl w).size l2
 refine Qaa (.slice none 0 0) 2 rfl kj kj ?_
 refine Qaf ?_
 refine hK1 _ _ ?_
 refine wp_seq_k fun K3 hK3=>?_
 refine Qab ?_
 refine Qaa (.pointer (some ⟨g2,1,none⟩)) 5 rfl kj kj ?_
 refine Qaa (.int .i64 nm) 6 rfl kj (Qag 3 _ g2 1 50 _ (.int .i64 nm) _ r2_1 rfl kj (Qaj [#[.bool false]] [#[.int .i64 nm]] [ints .u8 (key),ints .u8 (sg),ints .u8 (pa),#[.slice a_m ms.length c_m]] 1 kj 0 _ rfl) kj) ?_
 refine Qaa (.int .u8 (byV nm 0)) 7 rfl kj (Qai (u:=.int .u8 (IntKind.u8.wrap (nm))) kj (congrArg (Value.int .u8) (byV0 nm))) ?_
 refine QaD (ints .u8 ([0,(byV nm 0)])) 5 2 8 rfl kj kj fun g4 W2 l4 e2 r4_2=>?_
 have x2:Ext w W2:=Ext.tr x1 e2
 have b4:w.heap.size≤g4:=qT x1.size l4
 refine Qaa (.slice (some ⟨g4,0,none⟩) 2 2) 3 rfl kj kj ?_
 refine Qaf ?_
 refine hK3 _ _ ?_
 refine wp_seq_k fun K5 hK5=>?_
 refine wp_seq_k fun K6 hK6=>?_
 refine Qab ?_
 refine Qaa (.pointer (some ⟨g2,0,none⟩)) 9 rfl kj kj ?_
 have r2_2:=(Qah r2_1 e2)
 refine Qaa (.bool false) 10 rfl kj (Qag 4 _ g2 0 50 _ (.bool false) _ r2_2 rfl kj (Qaj [] [#[.bool false]] [#[.int .i64 nm],ints .u8 (key),ints .u8 (sg),ints .u8 (pa),#[.slice a_m ms.length c_m]] 0 kj 0 _ rfl) kj) ?_
 refine Qaf ?_
 refine hK6 _ _ ?_
 refine cond_false kj ?_
 refine wp_skip ?_
 refine hK5 _ _ ?_
 refine wp_seq_k fun K7 hK7=>?_
 refine Qc8 (fun _=>True) kj fun W3 e3=>⟨trivial,?_⟩
 have x3:Ext w W3:=Ext.tr x2 e3
 refine QaQ 0 (.slice (some ⟨g4,0,none⟩) 2 2) 13 rfl rfl kj kj (fun _ _ _ h=>h) (fun W hR=>by kernel_rfl) ?_
 refine QaQ 1 (.pointer (some ⟨g2,2,none⟩)) 14 rfl rfl kj kj (fun _ _ _ h=>h) (fun W hR=>by kernel_rfl) ?_
 refine QaQ 2 (.slice (some ⟨g2,2,none⟩) 32 32) 15 rfl rfl kj kj (fun _ _ _ h=>h) (fun W hR=>by kernel_rfl) ?_
 refine QaQ 4 (.pointer (some ⟨g2,34,none⟩)) 17 rfl rfl kj kj (fun _ _ _ h=>h) (fun W hR=>by kernel_rfl) ?_
 refine QaQ 5 (.slice (some ⟨g2,34,none⟩) 32 32) 18 rfl rfl kj kj (fun _ _ _ h=>h) (fun W hR=>by kernel_rfl) ?_
 refine QaQ 7 (.pointer (some ⟨g2,66,none⟩)) 20 rfl rfl kj kj (fun _ _ _ h=>h) (fun W hR=>by kernel_rfl) ?_
 refine QaQ 8 (.slice (some ⟨g2,66,none⟩) 32 32) 21 rfl rfl kj kj (fun _ _ _ h=>h) (fun W hR=>by kernel_rfl) ?_
 refine Qc1 3 kj ?_
 have r4_3:=(Qah r4_2 e3)
 have r2_3:=(Qah r2_2 e3)
 have y1_2:Ext W1 W2:=(Rely.Ext.trans (Rely.Ext.refl W1) e2)
 have y1_3:Ext W1 W3:=(Rely.Ext.trans y1_2 e3)
 refine wo_appendT (k:=.u8) (T:=5) (xs:=[0,(byV nm 0)]) (ys:=key) (V:=W1) 1 (.tmp 13) (.tmp 15) 59 rfl kj kj (by decide) 16 rfl 3 rfl kj kj kj (QbY (xs:=[0,(byV nm 0)]) rfl l4 r4_3 (show 2≤maxLen by decide)) (QbF 2 hkl r2_3 (fun i hi=>Qbw [#[.bool false],#[.int .i64 nm]] [ints .u8 (sg),ints .u8 (pa),#[.slice a_m ms.length c_m]] key 2 i (2+i) kj rfl (by rw [hkl]; exact hi)) (Qa5 r2_3) (qR _) (by decide)) (by simp only [List.length_append,List.length_cons,List.length_nil,List.length_map,List.length_take,List.length_set,nodeH,hkl,hgl,hpl]; omega) y1_3 fun z1 W4 f8 y4 l4=>?_
 have x4:Ext w W4:=Ext.low x3 l4 x1.size
 refine Qc1 6 kj ?_
 have r2_4:=(Qb1 l4 r2_3 (Qa5 r2_1))
 refine wo_appendT (k:=.u8) (T:=5) (xs:=[0,(byV nm 0)]++key) (ys:=sg) (V:=W1) 1 (.tmp 16) (.tmp 18) 59 rfl kj kj (by decide) 19 rfl 6 rfl kj kj kj f8 (QbF 34 hgl r2_4 (fun i hi=>Qbw [#[.bool false],#[.int .i64 nm],ints .u8 (key)] [ints .u8 (pa),#[.slice a_m ms.length c_m]] sg 34 i (34+i) (by rw [Qac,Qac,Qac]; simp only [qS,cat,((Qae _ _).trans hkl)]; rfl) rfl (by rw [hgl]; exact hi)) (Qa5 r2_4) (qR _) (by decide)) (by simp only [List.length_append,List.length_cons,List.length_nil,List.length_map,List.length_take,List.length_set,nodeH,hkl,hgl,hpl]; omega) y4 fun z2 W5 f10 y5 l5=>?_
 have x5:Ext w W5:=Ext.low x4 l5 x1.size
 refine Qc1 9 kj ?_
 have r2_5:=(Qb1 l5 r2_4 (Qa5 r2_1))
 refine wo_appendT (k:=.u8) (T:=5) (xs:=[0,(byV nm 0)]++key++sg) (ys:=pa) (V:=W1) 1 (.tmp 19) (.tmp 21) 59 rfl kj kj (by decide) 22 rfl 9 rfl kj kj kj f10 (QbF 66 hpl r2_5 (fun i hi=>Qbw [#[.bool false],#[.int .i64 nm],ints .u8 (key),ints .u8 (sg)] [#[.slice a_m ms.length c_m]] pa 66 i (66+i) (by rw [Qac,Qac,Qac,Qac]; simp only [qS,cat,((Qae _ _).trans hgl),((Qae _ _).trans hkl)]; rfl) rfl (by rw [hpl]; exact hi)) (Qa5 r2_5) (qR _) (by decide)) (by simp only [List.length_append,List.length_cons,List.length_nil,List.length_map,List.length_take,List.length_set,nodeH,hkl,hgl,hpl]; omega) y5 fun z3 W6 f12 y6 l6=>?_
 have x6:Ext w W6:=Ext.low x5 l6 x1.size
 refine QaQ 10 (z3) 3 rfl rfl kj kj (fun _ _ _ h=>h) (fun W hR=>by kernel_rfl) ?_
 refine Qfr kj ?_
 refine hK7 _ _ ?_
 refine wp_seq_k fun K14 hK14=>?_
 refine Qab ?_
 refine Qaa (z3) 23 rfl kj kj ?_
 refine Qaa (.pointer (some ⟨g2,98,none⟩)) 24 rfl kj kj ?_
 have r2_6:=(Qb1 l6 r2_5 (Qa5 r2_1))
 refine Qaa (.slice a_m ms.length c_m) 25 rfl kj (Qag 24 _ g2 98 50 _ (.slice a_m ms.length c_m) _ r2_6 rfl kj (Qaj [#[.bool false],#[.int .i64 nm],ints .u8 (key),ints .u8 (sg),ints .u8 (pa)] [#[.slice a_m ms.length c_m]] [] 98 (by rw [Qac,Qac,Qac,Qac,Qac]; simp only [qS,cat,((Qae _ _).trans hgl),((Qae _ _).trans hkl),((Qae _ _).trans hpl)]; rfl) 0 _ rfl) kj) ?_
 refine Qaa (.int .i64 ((ms.length:Nat):Int)) 26 rfl kj kj ?_
 refine Qaa (.int .u8 (byV ((ms.length:Nat):Int) 0)) 27 rfl kj (Qai (u:=.int .u8 (IntKind.u8.wrap ((ms.length:Nat):Int))) kj (congrArg (Value.int .u8) (byV0 _))) ?_
 refine QaD (ints .u8 ([(byV ((ms.length:Nat):Int) 0)])) 5 1 28 rfl kj kj fun g15 W7 l15 e7 r15_7=>?_
 have x7:Ext w W7:=Ext.tr x6 e7
 have b15:w.heap.size≤g15:=qT x6.size l15
 have f16_7:=(f12.ext e7)
 have y1_7:Ext W1 W7:=(Rely.Ext.trans y6 e7)
 refine QaP (k:=.u8) (T:=5) (xs:=[0,(byV nm 0)]++key++sg++pa) (ys:=[(byV ((ms.length:Nat):Int) 0)]) (V:=W1) 1 (.tmp 23) (.tmp 28) 59 rfl kj kj (by decide) 29 rfl kj kj kj f16_7 (QaT (xs:=[(byV ((ms.length:Nat):Int) 0)]) (n:=1) rfl r15_7 (Qa5 r15_7) (show 1≤maxLen from by decide)) (by simp only [List.length_append,List.length_cons,List.length_nil,List.length_map,List.length_take,List.length_set,nodeH,hkl,hgl,hpl]; omega) y1_7 fun z4 W8 f17 y8 l8=>?_
 have x8:Ext w W8:=Ext.low x7 l8 x1.size
 refine Qaa (z4) 3 rfl kj kj ?_
 refine Qaf ?_
 refine hK14 _ _ ?_
 refine wp_seq_k fun K19 hK19=>?_
 refine wp_seq_k fun K20 hK20=>?_
 refine Qab ?_
 refine Qaa (.int .i64 0) 4 rfl kj kj ?_
 refine Qaf ?_
 refine hK20 _ _ ?_
 refine wp_block ?_
 refine Qa0 (fun (s1:Nat×Value)=>[(1,.pointer (some ⟨g2,0,none⟩)),(3,s1.2),(4,.int .i64 ((s1.1:Nat):Int))]) (fun (s1:Nat×Value) W=>(s1.1≤ms.length)∧(OwnN .u8 5 W1.heap.size (nodeH false nm key sg pa ms.length++(ms.take s1.1).map (fun m=>byV m 0)) s1.2 W)∧(Below W1.heap.size W8 W)∧(Ext w W)) (fun (s1:Nat×Value)=>ms.length-s1.1) (0,z4) ⟨rfl,rfl,rfl,trivial⟩ ⟨(Nat.zero_le _),(by rw [List.take_zero,List.map_nil,List.append_nil]; exact f17),(RowKit.Below.refl _ W8),x8⟩ fun s1 X1 V1 hI1=>?_
 obtain ⟨i,u⟩:=s1
 obtain ⟨hi,hu,kk1,xx1⟩:=hI1
 replace hi:i≤ms.length:=hi
 replace hu:OwnN .u8 5 W1.heap.size (nodeH false nm key sg pa ms.length++(ms.take i).map (fun m=>byV m 0)) u V1:=hu
 replace kk1:Below W1.heap.size W8 V1:=kk1
 replace xx1:Ext w V1:=xx1
 have l9:=kk1
 refine wp_seq_k fun K21 hK21=>?_
 refine wp_seq_k fun K22 hK22=>?_
 refine Qab ?_
 refine Qaa (.int .i64 ((i:Nat):Int)) 30 rfl kj kj ?_
 refine Qaa (.pointer (some ⟨g2,98,none⟩)) 31 rfl kj kj ?_
 have r2_7:=(Qah r2_6 e7)
 have r2_8:=(Qb1 l8 r2_7 (Qa5 r2_1))
 have r2_9:=(Qb1 l9 r2_8 (Qa5 r2_1))
 refine Qaa (.slice a_m ms.length c_m) 32 rfl kj (Qag 24 _ g2 98 50 _ (.slice a_m ms.length c_m) _ r2_9 rfl kj (Qaj [#[.bool false],#[.int .i64 nm],ints .u8 (key),ints .u8 (sg),ints .u8 (pa)] [#[.slice a_m ms.length c_m]] [] 98 (by rw [Qac,Qac,Qac,Qac,Qac]; simp only [qS,cat,((Qae _ _).trans hgl),((Qae _ _).trans hkl),((Qae _ _).trans hpl)]; rfl) 0 _ rfl) kj) ?_
 refine Qaa (.int .i64 ((ms.length:Nat):Int)) 33 rfl kj kj ?_
 refine Qaa (.bool (decide (((i:Nat):Int)<((ms.length:Nat):Int)))) 34 rfl kj kj ?_
 refine Qaf ?_
 refine hK22 _ _ ?_
 refine Qar (t:=decide (((i:Nat):Int)<((ms.length:Nat):Int))) kj (fun c23=>?_) (fun c23=>?_)
 ·skip
  have hlt34:i<ms.length:=by have:=of_decide_eq_true c23; omega
  have hnm_24:(ms).length=ms.length:=rfl
  obtain ⟨gcm_24,ocm_24,ham_24,hlm_24,hcm_24⟩:=QaY (RdK.here (RdK.ext hm xx1)) (by rw [hnm_24]; omega)
  refine wp_skip ?_
  refine hK21 _ _ ?_
  refine wp_seq_k fun K25 hK25=>?_
  refine wp_block ?_
  refine Qab ?_
  refine Qaa (u) 37 rfl kj kj ?_
  refine Qaa (.pointer (some ⟨g2,98,none⟩)) 38 rfl kj kj ?_
  refine Qaa (.slice a_m ms.length c_m) 39 rfl kj (Qag 24 _ g2 98 50 _ (.slice a_m ms.length c_m) _ r2_9 rfl kj (Qaj [#[.bool false],#[.int .i64 nm],ints .u8 (key),ints .u8 (sg),ints .u8 (pa)] [#[.slice a_m ms.length c_m]] [] 98 (by rw [Qac,Qac,Qac,Qac,Qac]; simp only [qS,cat,((Qae _ _).trans hgl),((Qae _ _).trans hkl),((Qae _ _).trans hpl)]; rfl) 0 _ rfl) kj) ?_
  refine Qaa (.int .i64 ((i:Nat):Int)) 40 rfl kj kj ?_
  refine Qaa (.pointer (some ⟨gcm_24,ocm_24+i,none⟩)) 41 rfl kj (Qa6 24 _ _ .i64 i gcm_24 ocm_24 ms.length c_m 3 a_m _ ham_24 rfl rfl kj kj kj kj (Nat.lt_of_lt_of_eq (show i<ms.length by omega) hnm_24.symm)) ?_
  refine Qaa (.int .i64 (nth (ms) (i))) 42 rfl kj (Qak 3 _ _ (.int .i64 (nth (ms) (i))) (hcm_24 i (Nat.lt_of_lt_of_eq (show i<ms.length by omega) hnm_24.symm)) rfl kj kj) ?_
  refine Qaa (.int .u8 (byV (nth ms i) 0)) 43 rfl kj (Qai (u:=.int .u8 (IntKind.u8.wrap (nth (ms) (i)))) kj (congrArg (Value.int .u8) (byV0 _))) ?_
  refine QaD (ints .u8 ([(byV (nth ms i) 0)])) 5 1 44 rfl kj kj fun g26 W10 l26 e10 r26_10=>?_
  have x10:Ext w W10:=Ext.tr xx1 e10
  have b26:w.heap.size≤g26:=qT xx1.size l26
  have f27_10:=(hu.ext e10)
  have y1_9:Ext W1 V1:=(Ext.low y8 l9 (Rely.Ext.refl W1).size)
  have y1_10:Ext W1 W10:=(Rely.Ext.trans y1_9 e10)
  refine QaP (k:=.u8) (T:=5) (xs:=nodeH false nm key sg pa ms.length++(ms.take i).map (fun m=>byV m 0)) (ys:=[(byV (nth ms i) 0)]) (V:=W1) 1 (.tmp 37) (.tmp 44) 59 rfl kj kj (by decide) 45 rfl kj kj kj f27_10 (QaT (xs:=[(byV (nth ms i) 0)]) (n:=1) rfl r26_10 (Qa5 r26_10) (show 1≤maxLen from by decide)) (by simp only [List.length_append,List.length_cons,List.length_nil,List.length_map,List.length_take,List.length_set,nodeH,hkl,hgl,hpl]; omega) y1_10 fun z5 W11 f28 y11 l11=>?_
  have x11:Ext w W11:=Ext.low x10 l11 x1.size
  refine Qaa (z5) 3 rfl kj kj ?_
  refine Qaf ?_
  refine hK25 _ _ ?_
  refine Qab ?_
  refine Qaa (.int .i64 ((i:Nat):Int)) 35 rfl kj kj ?_
  refine Qaa (.int .i64 ((i+1:Nat):Int)) 36 rfl kj (Qai (u:=.int .i64 (IntKind.i64.wrap (((i:Nat):Int)+1))) kj (congrArg (Value.int .i64) (i64n _ _ (by omega) (by omega)))) ?_
  refine Qaa (.int .i64 ((i+1:Nat):Int)) 4 rfl kj kj ?_
  refine Qaf ?_
  repeat (first | with_reducible refine goX1 ?_ | with_reducible refine goX2 ?_ | with_reducible refine goX3 ?_)
  exact Qat ((i+1),z5) ⟨rfl,rfl,rfl,trivial⟩ ⟨(by omega),(by rw [QeC _ ms i hlt34]; exact f28),(RowKit.Below.trans (RowKit.Below.trans l9 (RowKit.Below.mono e10 y1_9.size)) l11),x11⟩ (by omega)
 ·skip
  have heq34:i=ms.length:=by have:=of_decide_eq_false c23; omega
  refine wp_exit ?_
  refine hK19 _ _ ?_
  refine wp_seq_k fun K30 hK30=>?_
  refine Qab ?_
  refine Qaa (u) 46 rfl kj kj ?_
  refine Qaa (u) 2 rfl kj kj ?_
  refine Qaf ?_
  refine hK30 _ _ ?_
  refine wp_ret ?_
  repeat (first | with_reducible refine goR1 ?_ | with_reducible refine goR2 ?_)
  exact (show bodyPost _ _ _ .ret _ _ from ret1 (u) rfl (Qaq kj) ⟨_,rfl,xx1,OwnN.base x1.size (show OwnN .u8 5 _ (nodeV false nm key sg pa ms) _ _ by have h7:=hu; rw [heq34,List.take_length] at h7; exact h7)⟩)
theorem rnodeC (us : Bool) (nm:Int) (key sg pa ms:List Int) (a_m:Option Addr) (c_m:Nat) (w:World) (hkl:key.length=32) (hgl:sg.length=32) (hpl:pa.length=32) (hml:ms.length≤1000000) (hm:RdK .i64 w.heap.size ms (.slice a_m ms.length c_m) w):Calls Tryd.prog 57 #[.agg (cat [#[.bool us],#[.int .i64 nm],ints .u8 (key),ints .u8 (sg),ints .u8 (pa),#[.slice a_m ms.length c_m]])] w (QbK w (OwnN .u8 5 w.heap.size (nodeV us nm key sg pa ms))):=by
  cases us with
  | true=>exact QgT nm key sg pa ms a_m c_m w hkl hgl hpl hml hm
  | false=>exact QfV nm key sg pa ms a_m c_m w hkl hgl hpl hml hm
end Go.Proofs.YthfkppjajmjpnaaDoor.Wr
end
section
namespace Go.Proofs.YthfkppjajmjpnaaDoor.Wr
open Go Go.RowKit
open Rely Auto Own Sha
def refN (us : Bool) (nm:Int) (key sg pa ms:List Int):Option (List Int):=if goodV us nm key sg pa ms=true then some (nodeV us nm key sg pa ms) else none
def allN (ms : List Int):Nat→Bool
  | 0=>true
  | n+1=>allN ms n&&inB (nth ms n) 31
theorem QgA (ms : List Int):∀ n,goodN ms n=(risN ms n&&allN ms n)
  | 0=>rfl
  | n+1=>by
    show (goodN ms n&&(inB (nth ms n) 31&&((n==0) || decide (nth ms (n-1)<nth ms n))))=((risN ms n&&((n==0) || decide (nth ms (n-1)<nth ms n)))&&(allN ms n&&inB (nth ms n) 31))
    rw [QgA ms n]
    cases risN ms n <;> cases allN ms n <;> cases inB (nth ms n) 31 <;> cases ((n==0) || decide (nth ms (n-1)<nth ms n)) <;> rfl
theorem QjQ (ms : List Int):∀ n,allN ms n=true→∀ i,i<n→inB (nth ms i) 31=true
  | 0,_,i,hi=>absurd hi (Nat.not_lt_zero _)
  | n+1,h,i,hi=>by
    have h':(allN ms n&&inB (nth ms n) 31)=true:=h
    rw [Bool.and_eq_true] at h'
    rcases Nat.lt_or_ge i n with h2 | h2
    · exact QjQ ms n h'.1 i h2
    · obtain rfl:i=n:=by omega
      exact h'.2
theorem QhB (ms : List Int):∀ n,risN ms n=true→allN ms n=true→∀ i,i<n→((i:Nat):Int)≤nth ms i
  | 0,_,_,i,hi=>absurd hi (Nat.not_lt_zero _)
  | n+1,hr,ha,i,hi=>by
    have hr':(risN ms n&&((n==0) || decide (nth ms (n-1)<nth ms n)))=true:=hr
    have ha':(allN ms n&&inB (nth ms n) 31)=true:=ha
    rw [Bool.and_eq_true] at hr' ha'
    rcases Nat.lt_or_ge i n with h2 | h2
    · exact QhB ms n hr'.1 ha'.1 i h2
    · obtain rfl:i=n:=by omega
      have h0:=Qid ha'.2
      by_cases hz:i=0
      · subst hz; exact h0.1
      · have h3:=hr'.2
        rw [beq_eq_false_iff_ne.2 hz,Bool.false_or,decide_eq_true_eq] at h3
        have h4:=QhB ms i hr'.1 ha'.1 (i-1) (by omega)
        omega
theorem Qm5 (ms : List Int) (hr:risV ms=true) (ha:allN ms ms.length=true):ms.length≤32:=by
  rcases Nat.lt_or_ge 32 ms.length with h | h
  · have h1:=QhB ms ms.length hr ha 32 h
    have h2:=Qid (QjQ ms ms.length ha 32 h)
    omega
  · exact h
theorem QgK (ms : List Int):∀ n,n≤ms.length→allN ms n=(ms.take n).all fun m=>inB m 31
  | 0,_=>rfl
  | n+1,h=>by
    have e:ms.take (n+1)=ms.take n++[nth ms n]:=by
      rw [List.take_add_one,List.getElem?_eq_getElem (show n<ms.length by omega)]
      unfold nth
      rw [List.getD_eq_getElem?_getD,List.getElem?_eq_getElem (show n<ms.length by omega)]
      rfl
    rw [e,List.all_append,←QgK ms n (by omega)]
    show (allN ms n&&inB (nth ms n) 31)=(allN ms n&&(inB (nth ms n) 31&&true))
    rw [Bool.and_true]
theorem leaves_eq (s : Option (List Int)):∀ (ms a:List Int),ms.foldl Qch (rawS s a)=bif (ms.all fun m=>inB m 31) then rawS s (a++ms.map fun m=>byV m 0) else none
  | [],a=>by show rawS s a=rawS s (a++[]); rw [List.append_nil]
  | m::r,a=>by
    show r.foldl Qch (Qch (rawS s a) m)=bif (inB m 31&&(r.all fun m=>inB m 31)) then rawS s (a++byV m 0::r.map fun m=>byV m 0) else none
    rw [Qg4]
    cases inB m 31 with
    | false=>exact Qb2 r
    | true =>
      show r.foldl Qch (rawS (rawS s a) (beV m 1))=_
      rw [Qct,leaves_eq s r]
      show _=bif (r.all fun m=>inB m 31) then _ else none
      rw [List.append_assoc]
      rfl
theorem nodeS_eq (us : Bool) (nm:Int) (key sg pa ms:List Int) (hkl:key.length=32) (hgl:sg.length=32) (hpl:pa.length=32):nodeS (some []) us nm key sg pa ms=refN us nm key sg pa ms:=by
  have hall:=QgK ms ms.length (qR _)
  rw [List.take_length] at hall
  unfold nodeS refN goodV Qcz
  rw [QgA]
  change _=if (inB nm 255&&decide (ms.length≤32)&&(risV ms&&allN ms ms.length&&(us || Qb4 us nm key sg pa ms)))=true then _ else _
  have hs1:(bif us then numS (some []) 1 1 else numS (Qbv (some []) (Qb4 us nm key sg pa ms)) 0 1)=bif (us || Qb4 us nm key sg pa ms) then rawS (some []) [bif us then 1 else 0] else none:=by
    cases us with
    | true=>rfl
    | false =>
      cases Qb4 false nm key sg pa ms with
      | true=>rfl
      | false=>rfl
  rw [hs1]
  cases hb:(us || Qb4 us nm key sg pa ms) with
  | false =>
    rw [if_neg (by rw [Bool.and_false,Bool.and_false]; decide)]
    show ms.foldl Qch (numS (Qbv (rawS (rawS (rawS (numS none nm 1) key) sg) pa) (risV ms)) _ 1)=none
    have e1:numS none nm 1=none:=by rw [QcS _ nm 0 255 (by decide) (by decide)]; cases inB nm 255 <;> rfl
    rw [e1]
    have e2:Qbv (rawS (rawS (rawS none key) sg) pa) (risV ms)=none:=by cases risV ms <;> rfl
    rw [e2,QcS _ _ 0 255 (by decide) (by decide)]
    cases inB ((ms.length:Nat):Int) 255 <;> exact Qb2 ms
  | true =>
    rw [Bool.and_true]
    show ms.foldl Qch (numS (Qbv (rawS (rawS (rawS (numS (rawS (some []) [bif us then 1 else 0]) nm 1) key) sg) pa) (risV ms)) _ 1)=_
    rw [QcS _ nm 0 255 (by decide) (by decide)]
    cases hn:inB nm 255 with
    | false =>
      rw [if_neg (by rw [Bool.false_and,Bool.false_and]; decide)]
      have e2:Qbv (rawS (rawS (rawS (bif false then rawS (rawS (some []) [bif us then 1 else 0]) (beV nm (0+1)) else none) key) sg) pa) (risV ms)=none:=by cases risV ms <;> rfl
      rw [e2,QcS _ _ 0 255 (by decide) (by decide)]
      cases inB ((ms.length:Nat):Int) 255 <;> exact Qb2 ms
    | true =>
      rw [Bool.true_and]
      cases hr:risV ms with
      | false =>
        rw [if_neg (by rw [Bool.false_and,Bool.and_false]; decide)]
        show ms.foldl Qch (numS none _ 1)=none
        rw [QcS _ _ 0 255 (by decide) (by decide)]
        cases inB ((ms.length:Nat):Int) 255 <;> exact Qb2 ms
      | true =>
        rw [Bool.true_and]
        show ms.foldl Qch (numS (rawS (rawS (rawS (rawS (rawS (some []) [bif us then 1 else 0]) (beV nm 1)) key) sg) pa) ((ms.length:Nat):Int) (0+1))=_
        rw [QcS _ _ 0 255 (by decide) (by decide)]
        cases ha:allN ms ms.length with
        | false =>
          rw [if_neg (by rw [Bool.and_false]; decide)]
          cases inB ((ms.length:Nat):Int) 255 with
          | false=>exact Qb2 ms
          | true =>
            show ms.foldl Qch (rawS _ (beV _ (0+1)))=none
            rw [leaves_eq,←hall,ha]
            rfl
        | true =>
          have hl:=Qm5 ms hr ha
          rw [decide_eq_true hl,if_pos (by rfl),show inB ((ms.length:Nat):Int) 255=true by unfold inB; simp; omega]
          show ms.foldl Qch (rawS _ (beV _ (0+1)))=_
          rw [leaves_eq,←hall,ha]
          show rawS (rawS (rawS (rawS (rawS (rawS (some []) [bif us then 1 else 0]) (beV nm 1)) key) sg) pa) (beV ((ms.length:Nat):Int) 1++ms.map fun m=>byV m 0)=_
          rw [Qct,Qct,Qct,Qct,Qct,QiM]
          have e:[bif us then 1 else 0]++(beV nm 1++(key++(sg++(pa++(beV ((ms.length:Nat):Int) 1++ms.map fun m=>byV m 0)))))=nodeV us nm key sg pa ms:=by
            unfold nodeV nodeH
            simp only [List.append_assoc]
            rfl
          rw [e]
          unfold fitV
          rw [if_pos (by rw [←e]; simp only [List.length_append,List.length_map,Qiv,hkl,hgl,hpl,List.length_cons,List.length_nil]; omega)]
theorem node_bytes (us : Bool) (nm:Int) (key sg pa ms:List Int) (hkb:Qav key) (hgb:Qav sg) (hpb:Qav pa):Qav (nodeV us nm key sg pa ms):=by
  unfold nodeV nodeH
  refine Qcl (Qcl (Qcl (Qcl (Qcl ?_ hkb) hgb) hpb) (Qdr _ 1)) ?_
  · intro x hx
    rcases List.mem_cons.1 hx with h | h
    · rw [h]; cases us <;> decide
    · exact Qdr nm 1 x h
  · intro x hx
    obtain ⟨m,_,rfl⟩:=List.mem_map.1 hx
    exact Qdr m 1 _ List.mem_cons_self
end Go.Proofs.YthfkppjajmjpnaaDoor.Wr
end
section
namespace Go.Proofs.YthfkppjajmjpnaaDoor.Te
open Go Go.RowKit
open Rely Auto Own Seat Sha
def exc (ms wo:List Int):List Int:=ms.filter fun n=>decide (n∉wo)
theorem QgG {ms wo:List Int} {i:Nat} (h:i<ms.length):exc (ms.take (i+1)) wo=exc (ms.take i) wo++(if nth ms i∈wo then [] else [nth ms i]):=by
  unfold exc
  rw [List.take_add_one,List.filter_append,List.getElem?_eq_getElem h]
  have e:nth ms i=ms[i]:=by unfold nth; rw [List.getD_eq_getElem?_getD,List.getElem?_eq_getElem h]; rfl
  rw [e]
  congr 1
  by_cases q:ms[i]∈wo
  · rw [if_pos q]; simp [q]
  · rw [if_neg q]; simp [q]
theorem Qio {ms wo:List Int} {i:Nat} (h:i<ms.length) (q:nth ms i∈wo):exc (ms.take (i+1)) wo=exc (ms.take i) wo:=by rw [QgG h,if_pos q,List.append_nil]
theorem QjI {ms wo:List Int} {i:Nat} (h:i<ms.length) (q:nth ms i∉wo):exc (ms.take (i+1)) wo=exc (ms.take i) wo++[nth ms i]:=by rw [QgG h,if_neg q]
theorem Qfk (ms wo:List Int):(exc ms wo).length≤ms.length:=List.length_filter_le ..
theorem QgF (ms wo:List Int) (i:Nat):(exc (ms.take i) wo).length≤i:=qT (Qfk _ _) (by rw [List.length_take]; omega)
def QaI (n : NdC):List Int:=Wr.nodeV n.us n.nm n.key n.sg n.pa n.ms
def gdN (n : NdC):Bool:=Wr.goodV n.us n.nm n.key n.sg n.pa n.ms
theorem QbU {n : NdC} (h:NdOk n):Qav (QaI n):=Wr.node_bytes _ _ _ _ _ _ h.kb h.gb h.pb
theorem Qb0 {n : NdC} (h:NdOk n):(QaI n).length=99+n.ms.length:=by
  unfold QaI Wr.nodeV Wr.nodeH
  simp only [List.length_append,List.length_cons,List.length_nil,List.length_map,h.kl,h.gl,h.pl]
theorem QhM {n : NdC} (h:NdOk n) (g:gdN n=true):Wr.nodeS (some []) n.us n.nm n.key n.sg n.pa n.ms=some (QaI n):=by
  rw [Wr.nodeS_eq _ _ _ _ _ _ h.kl h.gl h.pl]
  unfold Wr.refN
  rw [if_pos (show Wr.goodV n.us n.nm n.key n.sg n.pa n.ms=true from g)]; rfl
theorem QcL {a b:List Int} (ha:Qav a) (hb:Qav b):Qav (a++b):=fun y hy=>(List.mem_append.1 hy).elim (ha y) (hb y)
def QdM (ts : List NdV) (wo:List Int) (x:Nat):NdC:=if ((x/2:Nat):Int)∈wo then zn.n else (ndi ts x).n
def QcT (ts : List NdV) (wo:List Int) (x:Nat):NdC:={ (ndi ts x).n with ms:=exc (ndi ts x).n.ms wo }
def Qce (ts : List NdV) (wo:List Int) (x:Nat):List Int:=[1,IntKind.u8.wrap ((x/2:Nat):Int)]++QaI (QdM ts wo x)
def txtN (ts : List NdV) (wo:List Int):Nat→Nat→List Int
  | 0,x=>Qce ts wo x
  | k+1,x=>if kidL ((x:Nat):Int)<0 then Qce ts wo x else (([2]++QaI (QcT ts wo x))++dig (txtN ts wo k (kidL ((x:Nat):Int)).toNat))++dig (txtN ts wo k (kidR ((x:Nat):Int)).toNat)
theorem Qbr {ts : List NdV} {wo:List Int} {x:Nat} (k:Nat) (h:kidL ((x:Nat):Int)<0):txtN ts wo k x=Qce ts wo x:=by
  cases k with
  | zero=>rfl
  | succ k=>unfold txtN; rw [if_pos h]
theorem Qco {ts : List NdV} {wo:List Int} {x l r:Nat} (k:Nat) (hl:kidL ((x:Nat):Int)=((l:Nat):Int)) (hr:kidR ((x:Nat):Int)=((r:Nat):Int)):txtN ts wo (k+1) x=(([2]++QaI (QcT ts wo x))++dig (txtN ts wo k l))++dig (txtN ts wo k r):=by
  show (if _ then _ else _)=_
  rw [if_neg (by omega),hl,hr]; rfl
theorem NdOk.x {n : NdC} (h:NdOk n) (ms:List Int):NdOk { n with ms:=ms }:=⟨h.kl,h.gl,h.pl,h.kb,h.gb,h.pb⟩
theorem Qgx {ts : List NdV} {wo:List Int} {x:Nat} (h:NdOk (ndi ts x).n):NdOk (QdM ts wo x):=by
  unfold QdM; split
  · exact Qey
  · exact h
theorem QeZ {ts : List NdV} {wo:List Int} {x:Nat} (h:NdOk (ndi ts x).n):NdOk (QcT ts wo x):=h.x _
theorem QiT (ts : List NdV) (wo:List Int) (x:Nat):(QdM ts wo x).ms.length≤(ndi ts x).n.ms.length:=by
  unfold QdM; split
  · exact Nat.zero_le _
  · exact qR _
theorem Qci {ts : List NdV} {wo:List Int} {x:Nat} (h:NdOk (ndi ts x).n) (hm:(ndi ts x).n.ms.length≤50):(Qce ts wo x).length≤300:=by
  unfold Qce
  have:=QiT ts wo x
  rw [List.length_append,Qb0 (Qgx h)]
  simp only [List.length_cons,List.length_nil]; omega
theorem Qeo {ts : List NdV} {wo:List Int} {x:Nat} (h:NdOk (ndi ts x).n):Qav (Qce ts wo x):=by
  unfold Qce
  refine QcL (fun y hy=>?_) (QbU (Qgx h))
  simp only [List.mem_cons,List.not_mem_nil,or_false] at hy
  have e:IntKind.u8.wrap ((x/2:Nat):Int)=((x/2:Nat):Int)%2^8:=rfl
  rcases hy with rfl | rfl
  · decide
  · rw [e]; omega
theorem Qeg {ms : List Int} (h:ms.Pairwise (· < ·)) (hb:∀ j∈ms,0≤j∧j<32):∀ n,n≤ms.length→Wr.goodN ms n=true
  | 0,_=>rfl
  | n+1,hn=>by
    unfold Wr.goodN
    have hj:=hb _ (Qf8 (show n<ms.length by omega))
    rw [Qeg h hb n (by omega),Bool.true_and]
    have e1:Wr.inB (nth ms n) 31=true:=by unfold Wr.inB; rw [decide_eq_true hj.1,decide_eq_true (show nth ms n≤31 by omega)]; rfl
    rw [e1,Bool.true_and]
    by_cases q:n=0
    · rw [q]; rfl
    · rw [decide_eq_true (QkC h n (by omega) (n-1) (by omega)),Bool.or_true]
theorem Qig {n : NdC} (h1:0≤n.nm∧n.nm≤255) (h2:n.ms.Pairwise (· < ·)) (h3:∀ j∈n.ms,0≤j∧j<32) (h4:n.us=true):gdN n=true:=by
  unfold gdN Wr.goodV
  rw [Qeg h2 h3 _ (qR _),decide_eq_true (QjF h2 h3),h4]
  have e1:Wr.inB n.nm 255=true:=by unfold Wr.inB; rw [decide_eq_true h1.1,decide_eq_true h1.2]; rfl
  rw [e1]; rfl
theorem Qif : gdN zn.n=true:=by decide +kernel
theorem Qg9 {ts : List NdV} {L x:Nat} (f:Form ts L) (hx:x<ts.length) (wo:List Int):gdN (QcT ts wo x)=true:=by
  cases hu:(ndi ts x).n.us with
  | false =>
    unfold QcT
    rw [f.zero x hx hu]
    exact Qif
  | true =>
    have hlen:=f.len
    by_cases ho:x%2=1
    · have h:=f.ms_lt hx ho hu
      have hu2:=f.up x hx ho hu
      refine Qig (n:=QcT ts wo x) ⟨?_,?_⟩ (h.1.filter _) (fun j hj=>?_) hu
      · show 0≤(ndi ts x).n.nm; rw [hu2.nm]; decide
      · show (ndi ts x).n.nm≤255; rw [hu2.nm]; decide
      · have:=h.2 j (List.mem_filter.1 hj).1; omega
    · have e:x=2*(x/2):=by omega
      have h:=f.leaf (x/2) (by omega) (by rw [←e]; exact hu)
      rw [←e] at h
      unfold QbJ at h
      simp only [Bool.and_eq_true,beq_iff_eq,decide_eq_true_eq] at h
      have hm:(ndi ts x).n.ms=[]:=List.length_eq_zero_iff.1 h.1.1.2
      refine Qig (n:=QcT ts wo x) ⟨h.1.2,h.2⟩ ?_ ?_ hu
      · unfold QcT; rw [hm]; exact List.Pairwise.nil
      · unfold QcT; rw [hm]; intro j hj; cases hj
theorem Qdj (ts : List NdV) (x:Nat):QcT ts [] x=(ndi ts x).n:=by
  unfold QcT exc
  rw [List.filter_eq_self.2 (by intro a _; simp)]
def ShT (W : World):Prop:=∃ tc tq,W.heap[2]? = some (.cells (ints .u64 Qbk) tc)∧W.heap[0]? = some (.cells (ints .u64 QaN) tq)
theorem ShT.ext {w W:World} (h:ShT w) (e:Ext w W):ShT W:=by
  obtain ⟨tc,tq,h1,h2⟩:=h
  exact ⟨tc,tq,Qah h1 e,Qah h2 e⟩
end Go.Proofs.YthfkppjajmjpnaaDoor.Te
end
section
namespace Go.Proofs.YthfkppjajmjpnaaDoor.Te
open Go Go.RowKit
open Rely Auto Own Seat Sha
theorem Qdq (xs : List Int) (n:Int) (a_x:Option Addr) (c_x B1:Nat) (w:World) (hxl:xs.length≤1000000) (hx:RdK .i64 B1 xs (.slice a_x xs.length c_x) w) (b:Bool) (h:decide (n∈xs)=b):Calls Tryd.prog 48 #[.slice a_x xs.length c_x,.int .i64 n] w (Ret w (.bool b)):=h▸QfI xs n a_x c_x B1 w hxl hx
theorem excP (ms : List Int) (a_m:Option Addr) (c_m Bm:Nat) (wo:List Int) (a_o:Option Addr) (c_o Bo:Nat) (w:World) (hml:ms.length≤1000000) (hm:RdK .i64 Bm ms (.slice a_m ms.length c_m) w) (hol:wo.length≤1000000) (ho:RdK .i64 Bo wo (.slice a_o wo.length c_o) w):Calls Tryd.prog 51 #[.slice a_m ms.length c_m,.slice a_o wo.length c_o] w (QbK w (OwnN .i64 3 w.heap.size (exc ms wo))):=by
 refine enter 24 [(0,.slice a_m ms.length c_m),(1,.slice a_o wo.length c_o)] Tryd.func51 rfl rfl kj rfl ?_
 refine wp_seq_k fun K1 hK1=>?_
 refine Qab ?_
 refine Qaa (.slice none 0 0) 4 rfl kj kj ?_
 refine Qaf ?_
 refine hK1 _ _ ?_
 refine wp_seq_k fun K2 hK2=>?_
 refine Qab ?_
 refine Qaa (.slice none 0 0) 5 rfl kj kj ?_
 refine Qaf ?_
 refine hK2 _ _ ?_
 refine wp_seq_k fun K3 hK3=>?_
 refine wp_seq_k fun K4 hK4=>?_
 refine Qab ?_
 refine Qaa (.slice a_m ms.length c_m) 8 rfl kj kj ?_
 refine Qaa (.int .i64 ((ms.length:Nat):Int)) 9 rfl kj kj ?_
 refine Qaa (.int .i64 0) 10 rfl kj kj ?_
 refine Qaf ?_
 refine hK4 _ _ ?_
 refine wp_block ?_
 refine Qa0 (fun (s1:Nat×Value)=>[(1,.slice a_o wo.length c_o),(8,.slice a_m ms.length c_m),(9,.int .i64 ((ms.length:Nat):Int)),(5,s1.2),(10,.int .i64 ((s1.1:Nat):Int))]) (fun (s1:Nat×Value) W=>(s1.1≤ms.length)∧(OwnN .i64 3 w.heap.size (exc (ms.take s1.1) wo) s1.2 W)∧(Below w.heap.size w W)∧(Ext w W)) (fun (s1:Nat×Value)=>ms.length-s1.1) (0,(.slice none 0 0)) ⟨rfl,rfl,rfl,rfl,rfl,trivial⟩ ⟨(Nat.zero_le _),(Qcw _ _ _ _),(RowKit.Below.refl _ w),(Rely.Ext.refl w)⟩ fun s1 X1 V1 hI1=>?_
 obtain ⟨k,u⟩:=s1
 obtain ⟨hk,hu,kk1,xx1⟩:=hI1
 replace hk:k≤ms.length:=hk
 replace hu:OwnN .i64 3 w.heap.size (exc (ms.take k) wo) u V1:=hu
 replace kk1:Below w.heap.size w V1:=kk1
 replace xx1:Ext w V1:=xx1
 have l1:=kk1
 refine wp_seq_k fun K5 hK5=>?_
 refine Qab ?_
 refine Qaa (.bool (decide (((k:Nat):Int)<((ms.length:Nat):Int)))) 11 rfl kj kj ?_
 refine Qaf ?_
 refine hK5 _ _ ?_
 refine wp_seq_k fun K6 hK6=>?_
 refine Qar (t:=decide (((k:Nat):Int)<((ms.length:Nat):Int))) kj (fun c7=>?_) (fun c7=>?_)
 ·skip
  have hlt11:k<ms.length:=by have:=of_decide_eq_true c7; omega
  have hnx_8:(ms).length=ms.length:=rfl
  obtain ⟨gcx_8,ocx_8,hax_8,hlx_8,hcx_8⟩:=QaY (RdK.here (RdK.ext hm xx1)) (by rw [hnx_8]; omega)
  refine wp_skip ?_
  refine hK6 _ _ ?_
  refine wp_seq_k fun K9 hK9=>?_
  refine wp_block ?_
  refine wp_seq_k fun K10 hK10=>?_
  refine Qab ?_
  refine Qaa (.pointer (some ⟨gcx_8,ocx_8+k,none⟩)) 12 rfl kj (Qa6 24 _ _ .i64 k gcx_8 ocx_8 ms.length c_m 3 a_m _ hax_8 rfl rfl kj kj kj kj (Nat.lt_of_lt_of_eq (show k<ms.length by omega) hnx_8.symm)) ?_
  refine Qaa (.int .i64 (nth (ms) (k))) 13 rfl kj (Qak 3 _ _ (.int .i64 (nth (ms) (k))) (hcx_8 k (Nat.lt_of_lt_of_eq (show k<ms.length by omega) hnx_8.symm)) rfl kj kj) ?_
  refine Qaa (.int .i64 (nth (ms) (k))) 7 rfl kj kj ?_
  refine Qaf ?_
  refine hK10 _ _ ?_
  refine wp_seq_k fun K11 hK11=>?_
  by_cases hq:nth ms k∈wo
  ·skip
   refine Qab ?_
   refine Qaa (.slice a_o wo.length c_o) 14 rfl kj kj ?_
   refine Qaa (.int .i64 (nth (ms) (k))) 15 rfl kj kj ?_
   refine Qal (.bool true) 48 #[.slice a_o wo.length c_o,.int .i64 (nth (ms) (k))] 16 rfl kj kj (Qdq wo (nth ms k) a_o c_o _ _ hol (RdK.here (RdK.ext ho xx1)) true (decide_eq_true hq)) fun W2 e2=>?_
   have x2:Ext w W2:=Ext.tr xx1 e2
   refine Qaa (.bool false) 17 rfl kj kj ?_
   refine Qaf ?_
   refine hK11 _ _ ?_
   refine cond_false kj ?_
   refine wp_skip ?_
   refine hK9 _ _ ?_
   refine Qab ?_
   refine Qaa (.int .i64 ((k+1:Nat):Int)) 22 rfl kj (Qai (u:=.int .i64 (IntKind.i64.wrap (((k:Nat):Int)+1))) kj (congrArg (Value.int .i64) (i64n _ _ (by omega) (by omega)))) ?_
   refine Qaa (.int .i64 ((k+1:Nat):Int)) 10 rfl kj kj ?_
   refine Qaf ?_
   have f12_2:=(hu.ext e2)
   have y0_1:Ext w V1:=(Ext.low (Rely.Ext.refl w) l1 (Rely.Ext.refl w).size)
   repeat (first | with_reducible refine goX1 ?_ | with_reducible refine goX2 ?_ | with_reducible refine goX3 ?_)
   exact Qat ((k+1),u) ⟨rfl,rfl,rfl,rfl,rfl,trivial⟩ ⟨(by omega),(by rw [Qio (by omega) hq]; exact f12_2),(RowKit.Below.trans l1 (RowKit.Below.mono e2 y0_1.size)),x2⟩ (by show ms.length-(k+1)<ms.length-k; omega)
  ·skip
   refine Qab ?_
   refine Qaa (.slice a_o wo.length c_o) 14 rfl kj kj ?_
   refine Qaa (.int .i64 (nth (ms) (k))) 15 rfl kj kj ?_
   refine Qal (.bool false) 48 #[.slice a_o wo.length c_o,.int .i64 (nth (ms) (k))] 16 rfl kj kj (Qdq wo (nth ms k) a_o c_o _ _ hol (RdK.here (RdK.ext ho xx1)) false (decide_eq_false hq)) fun W2 e2=>?_
   have x2:Ext w W2:=Ext.tr xx1 e2
   refine Qaa (.bool true) 17 rfl kj kj ?_
   refine Qaf ?_
   refine hK11 _ _ ?_
   refine cond_true kj ?_
   refine Qab ?_
   refine Qaa (u) 18 rfl kj kj ?_
   refine Qaa (.int .i64 (nth (ms) (k))) 19 rfl kj kj ?_
   refine QaD (ints .i64 ([(nth (ms) (k))])) 3 1 20 rfl kj kj fun g13 W3 l13 e3 r13_3=>?_
   have x3:Ext w W3:=Ext.tr x2 e3
   have b13:w.heap.size≤g13:=qT x2.size l13
   have f14_2:=(hu.ext e2)
   have f15_3:=(f14_2.ext e3)
   have y0_1:Ext w V1:=(Ext.low (Rely.Ext.refl w) l1 (Rely.Ext.refl w).size)
   have y0_2:Ext w W2:=(Rely.Ext.trans y0_1 e2)
   have y0_3:Ext w W3:=(Rely.Ext.trans y0_2 e3)
   refine QaP (k:=.i64) (T:=3) (xs:=exc (ms.take k) wo) (ys:=[nth ms k]) (V:=w) 8 (.tmp 18) (.tmp 20) 24 rfl kj kj (by decide) 21 rfl kj kj kj f15_3 (QaT (xs:=[(nth (ms) (k))]) (n:=1) rfl r13_3 (Qa5 r13_3) (show 1≤maxLen from by decide)) (by have h9:=QgF ms wo k; show (exc (ms.take k) wo).length+1≤1000000000; omega) y0_3 fun u2 W4 f16 y4 l4=>?_
   have x4:Ext w W4:=Ext.low x3 l4 (Rely.Ext.refl w).size
   refine Qaa (u2) 5 rfl kj kj ?_
   refine Qaf ?_
   refine hK9 _ _ ?_
   refine Qab ?_
   refine Qaa (.int .i64 ((k+1:Nat):Int)) 22 rfl kj (Qai (u:=.int .i64 (IntKind.i64.wrap (((k:Nat):Int)+1))) kj (congrArg (Value.int .i64) (i64n _ _ (by omega) (by omega)))) ?_
   refine Qaa (.int .i64 ((k+1:Nat):Int)) 10 rfl kj kj ?_
   refine Qaf ?_
   repeat (first | with_reducible refine goX1 ?_ | with_reducible refine goX2 ?_ | with_reducible refine goX3 ?_)
   exact Qat ((k+1),u2) ⟨rfl,rfl,rfl,rfl,rfl,trivial⟩ ⟨(by omega),(by rw [QjI (by omega) hq]; exact f16),(RowKit.Below.trans (RowKit.Below.trans (RowKit.Below.trans l1 (RowKit.Below.mono e2 y0_1.size)) (RowKit.Below.mono e3 y0_2.size)) l4),x4⟩ (by show ms.length-(k+1)<ms.length-k; omega)
 ·skip
  have heq11:k=ms.length:=by have:=of_decide_eq_false c7; omega
  refine wp_exit ?_
  refine hK3 _ _ ?_
  refine wp_seq_k fun K17 hK17=>?_
  refine Qab ?_
  refine Qaa (u) 23 rfl kj kj ?_
  refine Qaa (u) 4 rfl kj kj ?_
  refine Qaf ?_
  refine hK17 _ _ ?_
  refine wp_ret ?_
  repeat (first | with_reducible refine goR1 ?_ | with_reducible refine goR2 ?_)
  exact (show bodyPost _ _ _ .ret _ _ from ret1 (u) rfl (Qaq kj) ⟨u,rfl,xx1,by have h9:=hu; rw [heq11,List.take_length] at h9; exact h9⟩)
theorem bofP (nd : NdV) (hok:NdOk nd.n) (B:Nat) (w:World) (hml:nd.n.ms.length≤1000000) (hr:RdK .i64 B nd.n.ms (.slice nd.a nd.n.ms.length nd.c) w) (hg:gdN nd.n=true):Calls Tryd.prog 50 #[.agg (cat (ndP nd))] w (QbK w (OwnN .u8 5 w.heap.size (QaI nd.n))):=by
  refine enter 13 [(0,.agg (cat [#[.bool nd.n.us],#[.int .i64 nd.n.nm],ints .u8 (nd.n.key),ints .u8 (nd.n.sg),ints .u8 (nd.n.pa),#[.slice nd.a nd.n.ms.length nd.c]]))] Tryd.func50 rfl rfl kj rfl ?_
  refine wp_seq_k fun K1 hK1=>?_
  refine Qab ?_
  refine Qan (cat [#[.bool nd.n.us],#[.int .i64 nd.n.nm],ints .u8 (nd.n.key),ints .u8 (nd.n.sg),ints .u8 (nd.n.pa),#[.slice nd.a nd.n.ms.length nd.c]]) 50 1 rfl kj kj fun g2 W1 l2 e1 r2_1=>?_
  have x1:Ext w W1:=Ext.tr (Rely.Ext.refl w) e1
  have b2:w.heap.size≤g2:=qT (Rely.Ext.refl w).size l2
  refine Qaa (.slice none 0 0) 2 rfl kj kj ?_
  refine Qaf ?_
  refine hK1 _ _ ?_
  refine wp_seq_k fun K3 hK3=>?_
  refine Qab ?_
  refine Qaa (.agg (cat [#[.bool nd.n.us],#[.int .i64 nd.n.nm],ints .u8 (nd.n.key),ints .u8 (nd.n.sg),ints .u8 (nd.n.pa),#[.slice nd.a nd.n.ms.length nd.c]])) 6 rfl kj (Qa4 50 _ g2 50 _ _ r2_1 rfl kj kj (isz (n:=99) kj (by rw [Qac,Qac,Qac,Qac,Qac,Qac]; simp only [qS,cat,((Qae _ _).trans hok.gl),((Qae _ _).trans hok.kl),((Qae _ _).trans hok.pl)]; rfl))) ?_
  refine Qa1 (fun v W'=>(fun v W9=>∃ u,v=.tuple #[u,.nilIface]∧OwnN .u8 5 W1.heap.size (QaI nd.n) u W9) v W'∧Ext W1 W') 70 #[.agg (cat [#[.bool nd.n.us],#[.int .i64 nd.n.nm],ints .u8 (nd.n.key),ints .u8 (nd.n.sg),ints .u8 (nd.n.pa),#[.slice nd.a nd.n.ms.length nd.c]])] 7 rfl kj kj ((Wr.PutNode_S nd.n.us nd.n.nm nd.n.key nd.n.sg nd.n.pa nd.n.ms _ _ _ hok.kl hok.gl hok.pl hok.kb hok.gb hok.pb hml (RdK.here (RdK.ext hr x1)) (QaI nd.n) (QhM hok hg)).mono (by rintro e w' ⟨v,rfl,e1,hv⟩; exact ⟨v,rfl,hv,e1⟩)) fun vv4 W2 hh4=>?_
  obtain ⟨hv4,e2⟩:=hh4
  have x2:Ext w W2:=Ext.tr x1 e2
  obtain ⟨u1,rfl,hu1⟩:=hv4
  obtain ⟨ab_,cb_,rfl,-⟩:=id (OwnN.rd hu1)
  refine Qaa (.tuple #[.slice ab_ ((QaI nd.n).length) cb_,.nilIface]) 5 rfl kj kj ?_
  refine Qaa (.slice ab_ ((QaI nd.n).length) cb_) 8 rfl kj kj ?_
  refine Qaa (.nilIface) 9 rfl kj kj ?_
  refine Qaa (.slice ab_ ((QaI nd.n).length) cb_) 3 rfl kj kj ?_
  refine Qaa (.nilIface) 4 rfl kj kj ?_
  refine Qaf ?_
  refine hK3 _ _ ?_
  refine wp_seq_k fun K5 hK5=>?_
  refine wp_seq_k fun K6 hK6=>?_
  refine Qab ?_
  refine Qaa (.nilIface) 10 rfl kj kj ?_
  refine Qaa (.bool false) 11 rfl kj kj ?_
  refine Qaf ?_
  refine hK6 _ _ ?_
  refine cond_false kj ?_
  refine wp_skip ?_
  refine hK5 _ _ ?_
  refine wp_seq_k fun K7 hK7=>?_
  refine Qab ?_
  refine Qaa (.slice ab_ ((QaI nd.n).length) cb_) 12 rfl kj kj ?_
  refine Qaa (.slice ab_ ((QaI nd.n).length) cb_) 2 rfl kj kj ?_
  refine Qaf ?_
  refine hK7 _ _ ?_
  refine wp_ret ?_
  repeat (first | with_reducible refine goR1 ?_ | with_reducible refine goR2 ?_)
  exact (show bodyPost _ _ _ .ret _ _ from ret1 (.slice ab_ ((QaI nd.n).length) cb_) rfl (Qaq kj) ⟨_,rfl,x2,OwnN.base x1.size hu1⟩)
end Go.Proofs.YthfkppjajmjpnaaDoor.Te
end
section
namespace Go.Proofs.YthfkppjajmjpnaaDoor.Te
open Go Go.RowKit
open Rely Auto Own Seat Sha
theorem QfJ (xs : List Int) (h:(xs.all fun x=>decide (0≤x)&&decide (x≤255))=true):Qav xs:=fun x hx=>by
  have:=List.all_eq_true.1 h x hx
  simp only [Bool.and_eq_true,decide_eq_true_eq] at this
  omega
theorem Qjy (x : Nat):Qav [1,IntKind.u8.wrap (((x/2:Nat):Int))]:=fun y hy=>by
  simp only [List.mem_cons,List.not_mem_nil,or_false] at hy
  have e:IntKind.u8.wrap ((x/2:Nat):Int)=((x/2:Nat):Int)%2^8:=rfl
  rcases hy with rfl | rfl
  · decide
  · rw [e]; omega
set_option maxRecDepth 100000 in
theorem QjJ (ts : List NdV) (a_t:Option Addr) (c_t B1:Nat) (htl:ts.length≤100000) (hmt:∀ i,i<ts.length→(ndi ts i).n.ms.length≤50) (L:Nat) (f:Form ts L) (ok0:∀ x,x<ts.length→NdOk (ndi ts x).n) (wo:List Int) (a_o:Option Addr) (c_o Bo:Nat) (w:World) (ht:TrAt B1 w a_t ts) (hT:TabAt w) (hSh:ShT w) (hol:wo.length≤1000000) (ho:RdK .i64 Bo wo (.slice a_o wo.length c_o) w) (k x:Nat) (hx:x<ts.length) (hk0:kidL ((x:Nat):Int)<0) (hkid:∀ W,TabAt W→Calls Tryd.prog 36 #[.int .i64 ((x:Nat):Int)] W (Ret W (.tuple #[.int .i64 (-1),.int .i64 (-1)]))):Calls Tryd.prog 27 #[.slice a_t ts.length c_t,.int .i64 ((x:Nat):Int),.slice a_o wo.length c_o] w (Ret w (.agg (ints .u8 (dig (txtN ts wo k x))))):=by
 obtain ⟨tc,tq,hc,hq⟩:=id hSh
 refine enter 61 [(0,.slice a_t ts.length c_t),(1,.int .i64 ((x:Nat):Int)),(2,.slice a_o wo.length c_o)] Tryd.func27 rfl rfl kj rfl ?_
 refine wp_seq_k fun K3 hK3=>?_
 refine Qab ?_
 refine Qan (ints .u8 (List.replicate 32 0)) 28 6 rfl kj kj fun g4 W1 l4 e1 r4_1=>?_
 have x1:Ext w W1:=Ext.tr (Rely.Ext.refl w) e1
 have b4:w.heap.size≤g4:=qT (Rely.Ext.refl w).size l4
 refine Qaf ?_
 refine hK3 _ _ ?_
 refine wp_seq_k fun K5 hK5=>?_
 refine Qab ?_
 refine Qaa (.int .i64 ((x:Nat):Int)) 14 rfl kj kj ?_
 refine Qal (.tuple #[.int .i64 (-1),.int .i64 (-1)]) 36 #[.int .i64 ((x:Nat):Int)] 15 rfl kj kj (hkid _ (TabAt.ext hT x1)) fun W2 e2=>?_
 have x2:Ext w W2:=Ext.tr x1 e2
 refine Qaa (.tuple #[.int .i64 (-1),.int .i64 (-1)]) 13 rfl kj kj ?_
 refine Qaa (.int .i64 (-1)) 16 rfl kj kj ?_
 refine Qaa (.int .i64 (-1)) 17 rfl kj kj ?_
 refine Qaa (.int .i64 (-1)) 7 rfl kj kj ?_
 refine Qaa (.int .i64 (-1)) 8 rfl kj kj ?_
 refine Qaf ?_
 refine hK5 _ _ ?_
 refine wp_seq_k fun K6 hK6=>?_
 refine wp_seq_k fun K7 hK7=>?_
 refine Qab ?_
 refine Qaa (.int .i64 (-1)) 18 rfl kj kj ?_
 refine Qaa (.bool true) 19 rfl kj kj ?_
 refine Qaf ?_
 refine hK7 _ _ ?_
 refine cond_true kj ?_
 refine wp_seq_k fun K8 hK8=>?_
 refine Qab ?_
 refine Qaa (.slice a_t ts.length c_t) 20 rfl kj kj ?_
 refine Qaa (.int .i64 ((x:Nat):Int)) 21 rfl kj kj ?_
 obtain ⟨gtT,otT,hat,hnts⟩:=TrAt.ext ht x2
 have hnt:=hnts x (by omega)
 obtain ⟨nt,ent⟩:∃ z,z=ndi ts x:=⟨_,rfl⟩
 rw [←ent] at hnt
 have okt:=hnt.ok
 have rdt:=hnt.rd
 refine Qaa (.pointer (some ⟨gtT,otT+x*99,none⟩)) 22 rfl kj (Qap 23 _ _ .i64 x gtT otT ts.length c_t 50 99 a_t (hat (by omega)) rfl kj kj kj kj (by omega)) ?_
 refine Qaa (.agg (cat [#[.bool nt.n.us],#[.int .i64 nt.n.nm],ints .u8 (nt.n.key),ints .u8 (nt.n.sg),ints .u8 (nt.n.pa),#[.slice nt.a nt.n.ms.length nt.c]])) 23 rfl kj (QaH 50 _ gtT (otT+x*99) nt hnt rfl kj kj kj) ?_
 refine Qan (cat [#[.bool false],#[.int .i64 0],ints .u8 (List.replicate 32 0),ints .u8 (List.replicate 32 0),ints .u8 (List.replicate 32 0),#[.slice none 0 0]]) 50 9 rfl kj kj fun g9 W3 l9 e3 r9_3=>?_
 have x3:Ext w W3:=Ext.tr x2 e3
 have b9:w.heap.size≤g9:=qT x2.size l9
 refine Qau g9 _ (cat [#[.bool nt.n.us],#[.int .i64 nt.n.nm],ints .u8 (nt.n.key),ints .u8 (nt.n.sg),ints .u8 (nt.n.pa),#[.slice nt.a nt.n.ms.length nt.c]]) 50 r9_3 rfl kj (Qas 50 _ _ g9 50 _ _ r9_3 rfl kj kj (isz (n:=99) kj (by rw [Qac,Qac,Qac,Qac,Qac,Qac]; simp only [qS,cat,((Qae _ _).trans okt.gl),((Qae _ _).trans okt.kl),((Qae _ _).trans okt.pl)]; rfl)) (eqsz (n:=99) (by rw [Qac,Qac,Qac,Qac,Qac,Qac]; simp only [qS,cat,((Qae _ _).trans (qZ (n:=32)))]; rfl) (by rw [Qac,Qac,Qac,Qac,Qac,Qac]; simp only [qS,cat,((Qae _ _).trans okt.gl),((Qae _ _).trans okt.kl),((Qae _ _).trans okt.pl)]; rfl)) (Qbm _ (by intro a ha; simp only [List.mem_cons,List.not_mem_nil,or_false] at ha; rcases ha with rfl | rfl | rfl | rfl | rfl | rfl; exact (Qa7 _ rfl); exact (Qa7 _ rfl); exact (Qaw _ _); exact (Qaw _ _); exact (Qaw _ _); exact (Qa7 _ rfl)))) fun W4 p4 r9_4=>?_
 have x4:Ext w W4:=Puts.ext p4 x3 b9
 refine Qaf ?_
 refine hK8 _ _ ?_
 refine wp_seq_k fun K10 hK10=>?_
 refine wp_seq_k fun K11 hK11=>?_
 have hgt:gdN nt.n=true:=by have h9:=Qg9 f hx []; rw [Qdj,←ent] at h9; exact h9
 have hb1:=Qjy x
 by_cases hqm:((x/2:Nat):Int)∈wo
 ·skip
  refine Qab ?_
  refine Qaa (.slice a_o wo.length c_o) 24 rfl kj kj ?_
  refine Qaa (.int .i64 ((x:Nat):Int)) 25 rfl kj kj ?_
  refine Qaa (.int .i64 ((x/2:Nat):Int)) 26 rfl kj (Qai (u:=.int .i64 (IntKind.i64.wrap (Int.tdiv (((x:Nat):Int)) (2)))) kj (congrArg (Value.int .i64) (Qb3 _ 2 (by omega)))) ?_
  refine Qal (.bool true) 48 #[.slice a_o wo.length c_o,.int .i64 ((x/2:Nat):Int)] 27 rfl kj kj (Qdq wo (((x/2:Nat):Int)) a_o c_o _ _ hol (RdK.here (RdK.ext ho x4)) true (decide_eq_true hqm)) fun W5 e5=>?_
  have x5:Ext w W5:=Ext.tr x4 e5
  refine Qaf ?_
  refine hK11 _ _ ?_
  refine cond_true kj ?_
  refine Qab ?_
  refine Qaa (.agg (cat [#[.bool false],#[.int .i64 0],ints .u8 (List.replicate 32 0),ints .u8 (List.replicate 32 0),ints .u8 (List.replicate 32 0),#[.slice none 0 0]])) 28 rfl kj kj ?_
  have r9_5:=(Qah r9_4 e5)
  refine Qau g9 _ (cat [#[.bool false],#[.int .i64 0],ints .u8 (List.replicate 32 0),ints .u8 (List.replicate 32 0),ints .u8 (List.replicate 32 0),#[.slice none 0 0]]) 50 r9_5 rfl kj (Qas 50 _ _ g9 50 _ _ r9_5 rfl kj kj (isz (n:=99) kj (by rw [Qac,Qac,Qac,Qac,Qac,Qac]; simp only [qS,cat,((Qae _ _).trans (qZ (n:=32)))]; rfl)) (eqsz (n:=99) (by rw [Qac,Qac,Qac,Qac,Qac,Qac]; simp only [qS,cat,((Qae _ _).trans okt.gl),((Qae _ _).trans okt.kl),((Qae _ _).trans okt.pl)]; rfl) (by rw [Qac,Qac,Qac,Qac,Qac,Qac]; simp only [qS,cat,((Qae _ _).trans (qZ (n:=32)))]; rfl)) (Qbm _ (by intro a ha; simp only [List.mem_cons,List.not_mem_nil,or_false] at ha; rcases ha with rfl | rfl | rfl | rfl | rfl | rfl; exact (Qa7 _ rfl); exact (Qa7 _ rfl); exact (Qaw _ _); exact (Qaw _ _); exact (Qaw _ _); exact (Qa7 _ rfl)))) fun W6 p6 r9_6=>?_
  have x6:Ext w W6:=Puts.ext p6 x5 b9
  refine Qaf ?_
  refine hK10 _ _ ?_
  refine wp_seq_k fun K12 hK12=>?_
  refine Qab ?_
  refine Qaa (.int .i64 ((x:Nat):Int)) 29 rfl kj kj ?_
  refine Qaa (.int .i64 ((x/2:Nat):Int)) 30 rfl kj (Qai (u:=.int .i64 (IntKind.i64.wrap (Int.tdiv (((x:Nat):Int)) (2)))) kj (congrArg (Value.int .i64) (Qb3 _ 2 (by omega)))) ?_
  refine Qaa (.int .u8 (IntKind.u8.wrap ((x/2:Nat):Int))) 31 rfl kj kj ?_
  refine QaD (ints .u8 ([1,(IntKind.u8.wrap ((x/2:Nat):Int))])) 5 2 32 rfl kj kj fun g13 W7 l13 e7 r13_7=>?_
  have x7:Ext w W7:=Ext.tr x6 e7
  have b13:w.heap.size≤g13:=qT x6.size l13
  have r9_7:=(Qah r9_6 e7)
  refine Qaa (.agg (cat [#[.bool false],#[.int .i64 0],ints .u8 (List.replicate 32 0),ints .u8 (List.replicate 32 0),ints .u8 (List.replicate 32 0),#[.slice none 0 0]])) 33 rfl kj (Qa4 50 _ g9 50 _ _ r9_7 rfl kj kj (isz (n:=99) kj (by rw [Qac,Qac,Qac,Qac,Qac,Qac]; simp only [qS,cat,((Qae _ _).trans (qZ (n:=32)))]; rfl))) ?_
  refine Qa1 (fun v W'=>(OwnN .u8 5 W7.heap.size (QaI zn.n)) v W'∧Ext W7 W') 50 #[.agg (cat [#[.bool false],#[.int .i64 0],ints .u8 (List.replicate 32 0),ints .u8 (List.replicate 32 0),ints .u8 (List.replicate 32 0),#[.slice none 0 0]])] 34 rfl kj kj ((bofP zn Qey _ _ (by decide) (Qei 0 _) Qif).mono (by rintro e w' ⟨v,rfl,e1,hv⟩; exact ⟨v,rfl,hv,e1⟩)) fun vv14 W8 hh14=>?_
  obtain ⟨hv14,e8⟩:=hh14
  have x8:Ext w W8:=Ext.tr x7 e8
  obtain ⟨ab_,cb_,rfl,-⟩:=id (OwnN.rd hv14)
  refine QaD (#[.slice (some ⟨g13,0,none⟩) 2 2,.slice ab_ ((QaI zn.n).length) cb_]) 59 2 35 rfl kj kj fun g15 W9 l15 e9 r15_9=>?_
  have x9:Ext w W9:=Ext.tr x8 e9
  have b15:w.heap.size≤g15:=qT x8.size l15
  have hXL:([1,(IntKind.u8.wrap ((x/2:Nat):Int))])++(QaI zn.n)=Qce ts wo x:=by unfold Qce QdM; rw [if_pos hqm]
  have r13_8:=(Qah r13_7 e8)
  have r13_9:=(Qah r13_8 e9)
  have f16_9:=(hv14.ext e9)
  have r1_1:=(Qah hc e1)
  have r1_2:=(Qah r1_1 e2)
  have r1_3:=(Qah r1_2 e3)
  have r1_4:=(Puts.row p4 r1_3 (Qay r1_2 l9))
  have r1_5:=(Qah r1_4 e5)
  have r1_6:=(Puts.row p6 r1_5 (Qay r1_2 l9))
  have r1_7:=(Qah r1_6 e7)
  have r1_8:=(Qah r1_7 e8)
  have r1_9:=(Qah r1_8 e9)
  have r2_1:=(Qah hq e1)
  have r2_2:=(Qah r2_1 e2)
  have r2_3:=(Qah r2_2 e3)
  have r2_4:=(Puts.row p4 r2_3 (Qay r2_2 l9))
  have r2_5:=(Qah r2_4 e5)
  have r2_6:=(Puts.row p6 r2_5 (Qay r2_2 l9))
  have r2_7:=(Qah r2_6 e7)
  have r2_8:=(Qah r2_7 e8)
  have r2_9:=(Qah r2_8 e9)
  have hps17:∀ p∈([(.slice (some ⟨g13,0,none⟩) 2 2,[1,(IntKind.u8.wrap ((x/2:Nat):Int))]),(.slice ab_ ((QaI zn.n).length) cb_,QaI zn.n)]:List (Value×List Int)),RdK .u8 W9.heap.size p.2 p.1 W9∧Qav p.2:=by
   intro p hp
   simp only [List.mem_cons,List.not_mem_nil,or_false] at hp
   rcases hp with rfl | rfl
   ·exact ⟨RdK.here (QaT (xs:=[1,(IntKind.u8.wrap ((x/2:Nat):Int))]) (n:=2) rfl r13_9 (Qa5 r13_9) (show 2≤maxLen from by decide)),hb1⟩
   ·exact ⟨RdK.here (OwnN.rd f16_9),(QbU Qey)⟩
  have hsh17:=Qhz g15 2 _ ([(.slice (some ⟨g13,0,none⟩) 2 2,[1,(IntKind.u8.wrap ((x/2:Nat):Int))]),(.slice ab_ ((QaI zn.n).length) cb_,QaI zn.n)]:List (Value×List Int)) rfl (by decide) tc tq W9 r1_9 r2_9 r15_9 hps17 (by rw [show ((List.map Prod.snd ([(.slice (some ⟨g13,0,none⟩) 2 2,[1,(IntKind.u8.wrap ((x/2:Nat):Int))]),(.slice ab_ ((QaI zn.n).length) cb_,QaI zn.n)]:List (Value×List Int))).flatten)=([1,(IntKind.u8.wrap ((x/2:Nat):Int))])++(QaI zn.n) by simp only [List.map_cons,List.map_nil,List.flatten_cons,List.flatten_nil,List.append_nil,List.append_assoc,List.cons_append,List.nil_append]]; (rw [hXL]; have h9:=Qci (wo:=wo) (ok0 x hx) (hmt x hx); omega))
  rw [show ((List.map Prod.snd ([(.slice (some ⟨g13,0,none⟩) 2 2,[1,(IntKind.u8.wrap ((x/2:Nat):Int))]),(.slice ab_ ((QaI zn.n).length) cb_,QaI zn.n)]:List (Value×List Int))).flatten)=([1,(IntKind.u8.wrap ((x/2:Nat):Int))])++(QaI zn.n) by simp only [List.map_cons,List.map_nil,List.flatten_cons,List.flatten_nil,List.append_nil,List.append_assoc,List.cons_append,List.nil_append]] at hsh17
  refine Qal (.agg (ints .u8 (dig (([1,(IntKind.u8.wrap ((x/2:Nat):Int))])++(QaI zn.n))))) 49 #[.slice (some ⟨g15,0,none⟩) 2 2] 36 rfl kj kj hsh17 fun W10 e10=>?_
  have x10:Ext w W10:=Ext.tr x9 e10
  have r4_2:=(Qah r4_1 e2)
  have r4_3:=(Qah r4_2 e3)
  have r4_4:=(Puts.row p4 r4_3 (Qay r4_2 l9))
  have r4_5:=(Qah r4_4 e5)
  have r4_6:=(Puts.row p6 r4_5 (Qay r4_2 l9))
  have r4_7:=(Qah r4_6 e7)
  have r4_8:=(Qah r4_7 e8)
  have r4_9:=(Qah r4_8 e9)
  have r4_10:=(Qah r4_9 e10)
  refine Qau g4 _ (ints .u8 (dig (([1,(IntKind.u8.wrap ((x/2:Nat):Int))])++(QaI zn.n)))) 28 r4_10 rfl kj (Qas 28 _ _ g4 28 _ _ r4_10 rfl kj kj (isz (n:=32) kj ((Qae _ _).trans (QaE _))) (eqsz (n:=32) ((Qae _ _).trans (qZ (n:=32))) ((Qae _ _).trans (QaE _))) (Qaw _ _)) fun W11 p11 r4_11=>?_
  have x11:Ext w W11:=Puts.ext p11 x10 b4
  refine Qaf ?_
  refine hK12 _ _ ?_
  refine wp_ret ?_
  repeat (first | with_reducible refine goR1 ?_ | with_reducible refine goR2 ?_)
  exact (show bodyPost _ _ _ .ret _ _ from ret1 (.agg (ints .u8 (dig (([1,(IntKind.u8.wrap ((x/2:Nat):Int))])++(QaI zn.n))))) rfl (Qb8 g4 28 _ r4_11 kj kj (isz (n:=32) kj ((Qae _ _).trans (QaE _)))) ⟨congrArg (fun z=>Ending.returned (.agg (ints .u8 (dig z)))) (hXL.trans (Qbr k hk0).symm),x11⟩)
 ·skip
  refine Qab ?_
  refine Qaa (.slice a_o wo.length c_o) 24 rfl kj kj ?_
  refine Qaa (.int .i64 ((x:Nat):Int)) 25 rfl kj kj ?_
  refine Qaa (.int .i64 ((x/2:Nat):Int)) 26 rfl kj (Qai (u:=.int .i64 (IntKind.i64.wrap (Int.tdiv (((x:Nat):Int)) (2)))) kj (congrArg (Value.int .i64) (Qb3 _ 2 (by omega)))) ?_
  refine Qal (.bool false) 48 #[.slice a_o wo.length c_o,.int .i64 ((x/2:Nat):Int)] 27 rfl kj kj (Qdq wo (((x/2:Nat):Int)) a_o c_o _ _ hol (RdK.here (RdK.ext ho x4)) false (decide_eq_false hqm)) fun W5 e5=>?_
  have x5:Ext w W5:=Ext.tr x4 e5
  refine Qaf ?_
  refine hK11 _ _ ?_
  refine cond_false kj ?_
  refine wp_skip ?_
  refine hK10 _ _ ?_
  refine wp_seq_k fun K18 hK18=>?_
  refine Qab ?_
  refine Qaa (.int .i64 ((x:Nat):Int)) 29 rfl kj kj ?_
  refine Qaa (.int .i64 ((x/2:Nat):Int)) 30 rfl kj (Qai (u:=.int .i64 (IntKind.i64.wrap (Int.tdiv (((x:Nat):Int)) (2)))) kj (congrArg (Value.int .i64) (Qb3 _ 2 (by omega)))) ?_
  refine Qaa (.int .u8 (IntKind.u8.wrap ((x/2:Nat):Int))) 31 rfl kj kj ?_
  refine QaD (ints .u8 ([1,(IntKind.u8.wrap ((x/2:Nat):Int))])) 5 2 32 rfl kj kj fun g19 W6 l19 e6 r19_6=>?_
  have x6:Ext w W6:=Ext.tr x5 e6
  have b19:w.heap.size≤g19:=qT x5.size l19
  have r9_5:=(Qah r9_4 e5)
  have r9_6:=(Qah r9_5 e6)
  refine Qaa (.agg (cat [#[.bool nt.n.us],#[.int .i64 nt.n.nm],ints .u8 (nt.n.key),ints .u8 (nt.n.sg),ints .u8 (nt.n.pa),#[.slice nt.a nt.n.ms.length nt.c]])) 33 rfl kj (Qa4 50 _ g9 50 _ _ r9_6 rfl kj kj (isz (n:=99) kj (by rw [Qac,Qac,Qac,Qac,Qac,Qac]; simp only [qS,cat,((Qae _ _).trans okt.gl),((Qae _ _).trans okt.kl),((Qae _ _).trans okt.pl)]; rfl))) ?_
  have y2_3:Ext W2 W3:=(Rely.Ext.trans (Rely.Ext.refl W2) e3)
  have y2_4:Ext W2 W4:=(Puts.ext p4 y2_3 l9)
  have y2_5:Ext W2 W5:=(Rely.Ext.trans y2_4 e5)
  have y2_6:Ext W2 W6:=(Rely.Ext.trans y2_5 e6)
  refine Qa1 (fun v W'=>(OwnN .u8 5 W6.heap.size (QaI nt.n)) v W'∧Ext W6 W') 50 #[.agg (cat [#[.bool nt.n.us],#[.int .i64 nt.n.nm],ints .u8 (nt.n.key),ints .u8 (nt.n.sg),ints .u8 (nt.n.pa),#[.slice nt.a nt.n.ms.length nt.c]])] 34 rfl kj kj ((bofP nt okt _ _ (qT (ent▸hmt x hx) (by decide)) (RdK.here (RdK.ext rdt y2_6)) hgt).mono (by rintro e w' ⟨v,rfl,e1,hv⟩; exact ⟨v,rfl,hv,e1⟩)) fun vv20 W7 hh20=>?_
  obtain ⟨hv20,e7⟩:=hh20
  have x7:Ext w W7:=Ext.tr x6 e7
  obtain ⟨ab_,cb_,rfl,-⟩:=id (OwnN.rd hv20)
  refine QaD (#[.slice (some ⟨g19,0,none⟩) 2 2,.slice ab_ ((QaI nt.n).length) cb_]) 59 2 35 rfl kj kj fun g21 W8 l21 e8 r21_8=>?_
  have x8:Ext w W8:=Ext.tr x7 e8
  have b21:w.heap.size≤g21:=qT x7.size l21
  have hXL:([1,(IntKind.u8.wrap ((x/2:Nat):Int))])++(QaI nt.n)=Qce ts wo x:=by unfold Qce QdM; rw [if_neg hqm,ent]
  have r19_7:=(Qah r19_6 e7)
  have r19_8:=(Qah r19_7 e8)
  have f22_8:=(hv20.ext e8)
  have r1_1:=(Qah hc e1)
  have r1_2:=(Qah r1_1 e2)
  have r1_3:=(Qah r1_2 e3)
  have r1_4:=(Puts.row p4 r1_3 (Qay r1_2 l9))
  have r1_5:=(Qah r1_4 e5)
  have r1_6:=(Qah r1_5 e6)
  have r1_7:=(Qah r1_6 e7)
  have r1_8:=(Qah r1_7 e8)
  have r2_1:=(Qah hq e1)
  have r2_2:=(Qah r2_1 e2)
  have r2_3:=(Qah r2_2 e3)
  have r2_4:=(Puts.row p4 r2_3 (Qay r2_2 l9))
  have r2_5:=(Qah r2_4 e5)
  have r2_6:=(Qah r2_5 e6)
  have r2_7:=(Qah r2_6 e7)
  have r2_8:=(Qah r2_7 e8)
  have hps23:∀ p∈([(.slice (some ⟨g19,0,none⟩) 2 2,[1,(IntKind.u8.wrap ((x/2:Nat):Int))]),(.slice ab_ ((QaI nt.n).length) cb_,QaI nt.n)]:List (Value×List Int)),RdK .u8 W8.heap.size p.2 p.1 W8∧Qav p.2:=by
   intro p hp
   simp only [List.mem_cons,List.not_mem_nil,or_false] at hp
   rcases hp with rfl | rfl
   ·exact ⟨RdK.here (QaT (xs:=[1,(IntKind.u8.wrap ((x/2:Nat):Int))]) (n:=2) rfl r19_8 (Qa5 r19_8) (show 2≤maxLen from by decide)),hb1⟩
   ·exact ⟨RdK.here (OwnN.rd f22_8),(QbU okt)⟩
  have hsh23:=Qhz g21 2 _ ([(.slice (some ⟨g19,0,none⟩) 2 2,[1,(IntKind.u8.wrap ((x/2:Nat):Int))]),(.slice ab_ ((QaI nt.n).length) cb_,QaI nt.n)]:List (Value×List Int)) rfl (by decide) tc tq W8 r1_8 r2_8 r21_8 hps23 (by rw [show ((List.map Prod.snd ([(.slice (some ⟨g19,0,none⟩) 2 2,[1,(IntKind.u8.wrap ((x/2:Nat):Int))]),(.slice ab_ ((QaI nt.n).length) cb_,QaI nt.n)]:List (Value×List Int))).flatten)=([1,(IntKind.u8.wrap ((x/2:Nat):Int))])++(QaI nt.n) by simp only [List.map_cons,List.map_nil,List.flatten_cons,List.flatten_nil,List.append_nil,List.append_assoc,List.cons_append,List.nil_append]]; (rw [hXL]; have h9:=Qci (wo:=wo) (ok0 x hx) (hmt x hx); omega))
  rw [show ((List.map Prod.snd ([(.slice (some ⟨g19,0,none⟩) 2 2,[1,(IntKind.u8.wrap ((x/2:Nat):Int))]),(.slice ab_ ((QaI nt.n).length) cb_,QaI nt.n)]:List (Value×List Int))).flatten)=([1,(IntKind.u8.wrap ((x/2:Nat):Int))])++(QaI nt.n) by simp only [List.map_cons,List.map_nil,List.flatten_cons,List.flatten_nil,List.append_nil,List.append_assoc,List.cons_append,List.nil_append]] at hsh23
  refine Qal (.agg (ints .u8 (dig (([1,(IntKind.u8.wrap ((x/2:Nat):Int))])++(QaI nt.n))))) 49 #[.slice (some ⟨g21,0,none⟩) 2 2] 36 rfl kj kj hsh23 fun W9 e9=>?_
  have x9:Ext w W9:=Ext.tr x8 e9
  have r4_2:=(Qah r4_1 e2)
  have r4_3:=(Qah r4_2 e3)
  have r4_4:=(Puts.row p4 r4_3 (Qay r4_2 l9))
  have r4_5:=(Qah r4_4 e5)
  have r4_6:=(Qah r4_5 e6)
  have r4_7:=(Qah r4_6 e7)
  have r4_8:=(Qah r4_7 e8)
  have r4_9:=(Qah r4_8 e9)
  refine Qau g4 _ (ints .u8 (dig (([1,(IntKind.u8.wrap ((x/2:Nat):Int))])++(QaI nt.n)))) 28 r4_9 rfl kj (Qas 28 _ _ g4 28 _ _ r4_9 rfl kj kj (isz (n:=32) kj ((Qae _ _).trans (QaE _))) (eqsz (n:=32) ((Qae _ _).trans (qZ (n:=32))) ((Qae _ _).trans (QaE _))) (Qaw _ _)) fun W10 p10 r4_10=>?_
  have x10:Ext w W10:=Puts.ext p10 x9 b4
  refine Qaf ?_
  refine hK18 _ _ ?_
  refine wp_ret ?_
  repeat (first | with_reducible refine goR1 ?_ | with_reducible refine goR2 ?_)
  exact (show bodyPost _ _ _ .ret _ _ from ret1 (.agg (ints .u8 (dig (([1,(IntKind.u8.wrap ((x/2:Nat):Int))])++(QaI nt.n))))) rfl (Qb8 g4 28 _ r4_10 kj kj (isz (n:=32) kj ((Qae _ _).trans (QaE _)))) ⟨congrArg (fun z=>Ending.returned (.agg (ints .u8 (dig z)))) (hXL.trans (Qbr k hk0).symm),x10⟩)
set_option maxRecDepth 100000 in
theorem Qmg (ts : List NdV) (a_t:Option Addr) (c_t B1:Nat) (htl:ts.length≤100000) (hmt:∀ i,i<ts.length→(ndi ts i).n.ms.length≤50) (L:Nat) (f:Form ts L) (ok0:∀ x,x<ts.length→NdOk (ndi ts x).n) (wo:List Int) (a_o:Option Addr) (c_o Bo:Nat) (w:World) (ht:TrAt B1 w a_t ts) (hT:TabAt w) (hSh:ShT w) (hol:wo.length≤1000000) (ho:RdK .i64 Bo wo (.slice a_o wo.length c_o) w) (k x:Nat) (hx:x<ts.length) (l r:Nat) (hl0:kidL ((x:Nat):Int)=((l:Nat):Int)) (hr0:kidR ((x:Nat):Int)=((r:Nat):Int)) (hkid:∀ W,TabAt W→Calls Tryd.prog 36 #[.int .i64 ((x:Nat):Int)] W (Ret W (.tuple #[.int .i64 ((l:Nat):Int),.int .i64 ((r:Nat):Int)]))) (hl:∀ w,TrAt B1 w a_t ts→TabAt w→ShT w→RdK .i64 w.heap.size wo (.slice a_o wo.length c_o) w→Calls Tryd.prog 27 #[.slice a_t ts.length c_t,.int .i64 ((l:Nat):Int),.slice a_o wo.length c_o] w (Ret w (.agg (ints .u8 (dig (txtN ts wo k l)))))) (hr:∀ w,TrAt B1 w a_t ts→TabAt w→ShT w→RdK .i64 w.heap.size wo (.slice a_o wo.length c_o) w→Calls Tryd.prog 27 #[.slice a_t ts.length c_t,.int .i64 ((r:Nat):Int),.slice a_o wo.length c_o] w (Ret w (.agg (ints .u8 (dig (txtN ts wo k r)))))):Calls Tryd.prog 27 #[.slice a_t ts.length c_t,.int .i64 ((x:Nat):Int),.slice a_o wo.length c_o] w (Ret w (.agg (ints .u8 (dig (txtN ts wo (k+1) x))))):=by
  obtain ⟨tc,tq,hc,hq⟩:=id hSh
  refine enter 61 [(0,.slice a_t ts.length c_t),(1,.int .i64 ((x:Nat):Int)),(2,.slice a_o wo.length c_o)] Tryd.func27 rfl rfl kj rfl ?_
  refine wp_seq_k fun K3 hK3=>?_
  refine Qab ?_
  refine Qan (ints .u8 (List.replicate 32 0)) 28 6 rfl kj kj fun g4 W1 l4 e1 r4_1=>?_
  have x1:Ext w W1:=Ext.tr (Rely.Ext.refl w) e1
  have b4:w.heap.size≤g4:=qT (Rely.Ext.refl w).size l4
  refine Qaf ?_
  refine hK3 _ _ ?_
  refine wp_seq_k fun K5 hK5=>?_
  refine Qab ?_
  refine Qaa (.int .i64 ((x:Nat):Int)) 14 rfl kj kj ?_
  refine Qal (.tuple #[.int .i64 ((l:Nat):Int),.int .i64 ((r:Nat):Int)]) 36 #[.int .i64 ((x:Nat):Int)] 15 rfl kj kj (hkid _ (TabAt.ext hT x1)) fun W2 e2=>?_
  have x2:Ext w W2:=Ext.tr x1 e2
  refine Qaa (.tuple #[.int .i64 ((l:Nat):Int),.int .i64 ((r:Nat):Int)]) 13 rfl kj kj ?_
  refine Qaa (.int .i64 ((l:Nat):Int)) 16 rfl kj kj ?_
  refine Qaa (.int .i64 ((r:Nat):Int)) 17 rfl kj kj ?_
  refine Qaa (.int .i64 ((l:Nat):Int)) 7 rfl kj kj ?_
  refine Qaa (.int .i64 ((r:Nat):Int)) 8 rfl kj kj ?_
  refine Qaf ?_
  refine hK5 _ _ ?_
  refine wp_seq_k fun K6 hK6=>?_
  refine wp_seq_k fun K7 hK7=>?_
  refine Qab ?_
  refine Qaa (.int .i64 ((l:Nat):Int)) 18 rfl kj kj ?_
  refine Qaa (.bool false) 19 rfl kj (Qai (u:=.bool (decide (((l:Nat):Int)<0))) kj (congrArg Value.bool (decide_eq_false (by omega)))) ?_
  refine Qaf ?_
  refine hK7 _ _ ?_
  refine cond_false kj ?_
  refine wp_skip ?_
  refine hK6 _ _ ?_
  refine wp_seq_k fun K8 hK8=>?_
  refine Qab ?_
  refine Qaa (.slice a_t ts.length c_t) 37 rfl kj kj ?_
  refine Qaa (.int .i64 ((x:Nat):Int)) 38 rfl kj kj ?_
  obtain ⟨gtT,otT,hat,hnts⟩:=TrAt.ext ht x2
  have hnt:=hnts x (by omega)
  obtain ⟨nt,ent⟩:∃ z,z=ndi ts x:=⟨_,rfl⟩
  rw [←ent] at hnt
  have okt:=hnt.ok
  have rdt:=hnt.rd
  refine Qaa (.pointer (some ⟨gtT,otT+x*99,none⟩)) 39 rfl kj (Qap 23 _ _ .i64 x gtT otT ts.length c_t 50 99 a_t (hat (by omega)) rfl kj kj kj kj (by omega)) ?_
  refine Qaa (.agg (cat [#[.bool nt.n.us],#[.int .i64 nt.n.nm],ints .u8 (nt.n.key),ints .u8 (nt.n.sg),ints .u8 (nt.n.pa),#[.slice nt.a nt.n.ms.length nt.c]])) 40 rfl kj (QaH 50 _ gtT (otT+x*99) nt hnt rfl kj kj kj) ?_
  refine Qan (cat [#[.bool false],#[.int .i64 0],ints .u8 (List.replicate 32 0),ints .u8 (List.replicate 32 0),ints .u8 (List.replicate 32 0),#[.slice none 0 0]]) 50 10 rfl kj kj fun g9 W3 l9 e3 r9_3=>?_
  have x3:Ext w W3:=Ext.tr x2 e3
  have b9:w.heap.size≤g9:=qT x2.size l9
  refine Qau g9 _ (cat [#[.bool nt.n.us],#[.int .i64 nt.n.nm],ints .u8 (nt.n.key),ints .u8 (nt.n.sg),ints .u8 (nt.n.pa),#[.slice nt.a nt.n.ms.length nt.c]]) 50 r9_3 rfl kj (Qas 50 _ _ g9 50 _ _ r9_3 rfl kj kj (isz (n:=99) kj (by rw [Qac,Qac,Qac,Qac,Qac,Qac]; simp only [qS,cat,((Qae _ _).trans okt.gl),((Qae _ _).trans okt.kl),((Qae _ _).trans okt.pl)]; rfl)) (eqsz (n:=99) (by rw [Qac,Qac,Qac,Qac,Qac,Qac]; simp only [qS,cat,((Qae _ _).trans (qZ (n:=32)))]; rfl) (by rw [Qac,Qac,Qac,Qac,Qac,Qac]; simp only [qS,cat,((Qae _ _).trans okt.gl),((Qae _ _).trans okt.kl),((Qae _ _).trans okt.pl)]; rfl)) (Qbm _ (by intro a ha; simp only [List.mem_cons,List.not_mem_nil,or_false] at ha; rcases ha with rfl | rfl | rfl | rfl | rfl | rfl; exact (Qa7 _ rfl); exact (Qa7 _ rfl); exact (Qaw _ _); exact (Qaw _ _); exact (Qaw _ _); exact (Qa7 _ rfl)))) fun W4 p4 r9_4=>?_
  have x4:Ext w W4:=Puts.ext p4 x3 b9
  refine Qaf ?_
  refine hK8 _ _ ?_
  refine wp_seq_k fun K10 hK10=>?_
  refine Qab ?_
  refine Qaa (.pointer (some ⟨g9,98,none⟩)) 41 rfl kj kj ?_
  refine Qaa (.slice nt.a nt.n.ms.length nt.c) 42 rfl kj (Qag 24 _ g9 98 50 _ (.slice nt.a nt.n.ms.length nt.c) _ r9_4 rfl kj (Qaj [#[.bool nt.n.us],#[.int .i64 nt.n.nm],ints .u8 (nt.n.key),ints .u8 (nt.n.sg),ints .u8 (nt.n.pa)] [#[.slice nt.a nt.n.ms.length nt.c]] [] 98 (by rw [Qac,Qac,Qac,Qac,Qac]; simp only [qS,cat,((Qae _ _).trans okt.gl),((Qae _ _).trans okt.kl),((Qae _ _).trans okt.pl)]; rfl) 0 _ rfl) kj) ?_
  refine Qaa (.slice a_o wo.length c_o) 43 rfl kj kj ?_
  have y2_3:Ext W2 W3:=(Rely.Ext.trans (Rely.Ext.refl W2) e3)
  have y2_4:Ext W2 W4:=(Puts.ext p4 y2_3 l9)
  refine Qa1 (fun v W'=>(OwnN .i64 3 W4.heap.size (exc nt.n.ms wo)) v W'∧Ext W4 W') 51 #[.slice nt.a nt.n.ms.length nt.c,.slice a_o wo.length c_o] 44 rfl kj kj ((excP nt.n.ms nt.a nt.c _ wo a_o c_o _ _ (qT (ent▸hmt x hx) (by decide)) (RdK.here (RdK.ext rdt y2_4)) hol (RdK.here (RdK.ext ho x4))).mono (by rintro e w' ⟨v,rfl,e1,hv⟩; exact ⟨v,rfl,hv,e1⟩)) fun vv11 W5 hh11=>?_
  obtain ⟨hv11,e5⟩:=hh11
  have x5:Ext w W5:=Ext.tr x4 e5
  obtain ⟨a5,c5,rfl,-⟩:=id (OwnN.rd hv11)
  obtain ⟨n5,hn5⟩:∃ z:NdV,z=⟨QcT ts wo x,a5,c5⟩:=⟨_,rfl⟩
  have ok5:NdOk n5.n:=by rw [hn5]; exact QeZ (ent▸okt)
  have hg5:gdN n5.n=true:=by rw [hn5]; exact Qg9 f hx wo
  have hm5:n5.n.ms.length≤50:=by rw [hn5]; exact qT (Qfk _ _) (hmt x hx)
  have hu5:OwnN .i64 3 W4.heap.size n5.n.ms (.slice n5.a n5.n.ms.length n5.c) W5:=by
    rw [hn5]; show OwnN _ _ _ (exc (ndi ts x).n.ms wo) (.slice a5 (exc (ndi ts x).n.ms wo).length c5) _; rw [←ent]; exact hv11
  refine Qaa (.pointer (some ⟨g9,98,none⟩)) 45 rfl kj kj ?_
  have r9_5:=(Qah r9_4 e5)
  refine Qau g9 _ (cat [#[.bool nt.n.us],#[.int .i64 nt.n.nm],ints .u8 (nt.n.key),ints .u8 (nt.n.sg),ints .u8 (nt.n.pa),#[.slice a5 (exc nt.n.ms wo).length c5]]) 50 r9_5 rfl kj (run_storeQ 24 _ _ g9 98 50 [#[.bool nt.n.us],#[.int .i64 nt.n.nm],ints .u8 (nt.n.key),ints .u8 (nt.n.sg),ints .u8 (nt.n.pa)] [] _ (.slice a5 (exc nt.n.ms wo).length c5) r9_5 rfl kj kj kj (by rw [Qac,Qac,Qac,Qac,Qac]; simp only [qS,cat,((Qae _ _).trans okt.gl),((Qae _ _).trans okt.kl),((Qae _ _).trans okt.pl)]; rfl) rfl rfl) fun W6 p6 r9_6=>?_
  have x6:Ext w W6:=Puts.ext p6 x5 b9
  have r10x:W6.heap[g9]? = some (.cells (cat [#[.bool n5.n.us],#[.int .i64 n5.n.nm],ints .u8 (n5.n.key),ints .u8 (n5.n.sg),ints .u8 (n5.n.pa),#[.slice n5.a n5.n.ms.length n5.c]]) 50):=by have h9:=r9_6; rw [hn5]; show _=some (Obj.cells (cat [#[.bool (ndi ts x).n.us],#[.int .i64 (ndi ts x).n.nm],ints .u8 (ndi ts x).n.key,ints .u8 (ndi ts x).n.sg,ints .u8 (ndi ts x).n.pa,#[.slice a5 (exc (ndi ts x).n.ms wo).length c5]]) _); rw [←ent]; exact h9
  refine Qaf ?_
  refine hK10 _ _ ?_
  refine wp_seq_k fun K12 hK12=>?_
  refine Qab ?_
  refine Qaa (.slice a_t ts.length c_t) 46 rfl kj kj ?_
  refine Qaa (.int .i64 ((l:Nat):Int)) 47 rfl kj kj ?_
  refine Qaa (.slice a_o wo.length c_o) 48 rfl kj kj ?_
  refine Qal (.agg (ints .u8 (dig (txtN ts wo k l)))) 27 #[.slice a_t ts.length c_t,.int .i64 ((l:Nat):Int),.slice a_o wo.length c_o] 49 rfl kj kj (hl _ (TrAt.ext ht x6) (TabAt.ext hT x6) (ShT.ext hSh x6) (RdK.here (RdK.ext ho x6))) fun W7 e7=>?_
  have x7:Ext w W7:=Ext.tr x6 e7
  refine Qaa (.slice a_t ts.length c_t) 50 rfl kj kj ?_
  refine Qaa (.int .i64 ((r:Nat):Int)) 51 rfl kj kj ?_
  refine Qaa (.slice a_o wo.length c_o) 52 rfl kj kj ?_
  refine Qal (.agg (ints .u8 (dig (txtN ts wo k r)))) 27 #[.slice a_t ts.length c_t,.int .i64 ((r:Nat):Int),.slice a_o wo.length c_o] 53 rfl kj kj (hr _ (TrAt.ext ht x7) (TabAt.ext hT x7) (ShT.ext hSh x7) (RdK.here (RdK.ext ho x7))) fun W8 e8=>?_
  have x8:Ext w W8:=Ext.tr x7 e8
  refine Qan (ints .u8 (List.replicate 32 0)) 28 11 rfl kj kj fun g13 W9 l13 e9 r13_9=>?_
  have x9:Ext w W9:=Ext.tr x8 e9
  have b13:w.heap.size≤g13:=qT x8.size l13
  refine Qan (ints .u8 (List.replicate 32 0)) 28 12 rfl kj kj fun g14 W10 l14 e10 r14_10=>?_
  have x10:Ext w W10:=Ext.tr x9 e10
  have b14:w.heap.size≤g14:=qT x9.size l14
  have r13_10:=(Qah r13_9 e10)
  refine Qau g13 _ (ints .u8 (dig (txtN ts wo k l))) 28 r13_10 rfl kj (Qas 28 _ _ g13 28 _ _ r13_10 rfl kj kj (isz (n:=32) kj ((Qae _ _).trans (QaE _))) (eqsz (n:=32) ((Qae _ _).trans (qZ (n:=32))) ((Qae _ _).trans (QaE _))) (Qaw _ _)) fun W11 p11 r13_11=>?_
  have x11:Ext w W11:=Puts.ext p11 x10 b13
  have r14_11:=(Puts.row p11 r14_10 (QfB r13_9 l14))
  refine Qau g14 _ (ints .u8 (dig (txtN ts wo k r))) 28 r14_11 rfl kj (Qas 28 _ _ g14 28 _ _ r14_11 rfl kj kj (isz (n:=32) kj ((Qae _ _).trans (QaE _))) (eqsz (n:=32) ((Qae _ _).trans (qZ (n:=32))) ((Qae _ _).trans (QaE _))) (Qaw _ _)) fun W12 p12 r14_12=>?_
  have x12:Ext w W12:=Puts.ext p12 x11 b14
  refine Qaf ?_
  refine hK12 _ _ ?_
  refine wp_seq_k fun K15 hK15=>?_
  refine QaX 5 [⟨none,[]⟩,⟨none,[(10,none)]⟩,⟨none,[(55,some 1)]⟩,⟨none,[(11,none)]⟩,⟨none,[(12,none)]⟩] kj kj fun F hF=>?_
  refine Qiq (Qam _) (ints .u8 ([2])) 5 1 (NewS.stable _ _ _ _) kj kj (fun W=>by kernel_rfl) ?_
  have r9_7:=(Qah r10x e7)
  have r9_8:=(Qah r9_7 e8)
  have r9_9:=(Qah r9_8 e9)
  have r9_10:=(Qah r9_9 e10)
  have r9_11:=(Puts.row p11 r9_10 (Qay r9_8 l13))
  have r9_12:=(Puts.row p12 r9_11 (Qay r9_9 l14))
  refine QaK (Qam _) (.agg (cat [#[.bool n5.n.us],#[.int .i64 n5.n.nm],ints .u8 (n5.n.key),ints .u8 (n5.n.sg),ints .u8 (n5.n.pa),#[.slice n5.a n5.n.ms.length n5.c]])) kj kj (fun W hR=>(Qa4 50 _ g9 50 _ _ (Qah (Qah r9_12 (Qax _)) hR) rfl kj kj (isz (n:=99) kj (by rw [Qac,Qac,Qac,Qac,Qac,Qac]; simp only [qS,cat,((Qae _ _).trans ok5.gl),((Qae _ _).trans ok5.kl),((Qae _ _).trans ok5.pl)]; rfl)))) ?_
  have f17_6:=(hu5.puts p6 (nb_old hu5 (Qa5 r9_4)))
  have f18_7:=(f17_6.ext e7)
  have f19_8:=(f18_7.ext e8)
  have f20_9:=(f19_8.ext e9)
  have f21_10:=(f20_9.ext e10)
  have f22_11:=(f21_10.puts p11 (Qgz f19_8 l13))
  have f23_12:=(f22_11.puts p12 (Qgz f20_9 l14))
  refine Qld (Qam _) (OwnN .u8 5 0 (QaI n5.n)) (OwnN.stable _ _ _ _) 50 #[.agg (cat [#[.bool n5.n.us],#[.int .i64 n5.n.nm],ints .u8 (n5.n.key),ints .u8 (n5.n.sg),ints .u8 (n5.n.pa),#[.slice n5.a n5.n.ms.length n5.c]])] kj kj (fun W=>by kernel_rfl) (fun W hR=>((bofP n5 ok5 _ W (qT hm5 (by decide)) (RdK.ext (OwnN.rd f23_12) (Rely.Ext.trans (Qax _) hR)) hg5).mono fun e2 W2 ⟨v2,q1,q2,q3⟩=>⟨v2,q1,q2,OwnN.base (Nat.zero_le _) q3⟩)) ?_
  refine Qaz (Qam _) (.slice (some ⟨g13,0,none⟩) 32 32) kj kj (fun W=>by kernel_rfl) ?_
  refine Qaz (Qam _) (.slice (some ⟨g14,0,none⟩) 32 32) kj kj (fun W=>by kernel_rfl) ?_
  refine QcZ (hF _ fun W13 e13=>?_)
  simp only [List.nil_append,List.cons_append,List.take_succ_cons,List.take_zero,List.drop_succ_cons,List.drop_zero,finE,up]
  intro vv16 hv16 vv24 hv24
  clear hF
  have x13:Ext w W13:=Ext.tr x12 e13
  obtain ⟨g16,rfl,l16,r16_13⟩:=hv16
  have b16:w.heap.size≤g16:=qT x12.size l16
  obtain ⟨ab_,cb_,rfl,-⟩:=id (OwnN.rd hv24)
  refine QaD (#[.slice (some ⟨g16,0,none⟩) 1 1,.slice ab_ ((QaI n5.n).length) cb_,.slice (some ⟨g13,0,none⟩) 32 32,.slice (some ⟨g14,0,none⟩) 32 32]) 59 4 59 rfl kj kj fun g25 W14 l25 e14 r25_14=>?_
  have x14:Ext w W14:=Ext.tr x13 e14
  have b25:w.heap.size≤g25:=qT x13.size l25
  have hb0:=Qb0 ok5
  have hXL:((([2]:List Int)++(QaI n5.n))++(dig (txtN ts wo k l)))++(dig (txtN ts wo k r))=txtN ts wo (k+1) x:=by rw [Qco k hl0 hr0,hn5]
  have r16_14:=(Qah r16_13 e14)
  have f26_14:=(hv24.ext e14)
  have r13_12:=(Puts.row p12 r13_11 (Qay r13_9 l14))
  have r13_13:=(Qah r13_12 e13)
  have r13_14:=(Qah r13_13 e14)
  have r14_13:=(Qah r14_12 e13)
  have r14_14:=(Qah r14_13 e14)
  have r1_1:=(Qah hc e1)
  have r1_2:=(Qah r1_1 e2)
  have r1_3:=(Qah r1_2 e3)
  have r1_4:=(Puts.row p4 r1_3 (Qay r1_2 l9))
  have r1_5:=(Qah r1_4 e5)
  have r1_6:=(Puts.row p6 r1_5 (Qay r1_2 l9))
  have r1_7:=(Qah r1_6 e7)
  have r1_8:=(Qah r1_7 e8)
  have r1_9:=(Qah r1_8 e9)
  have r1_10:=(Qah r1_9 e10)
  have r1_11:=(Puts.row p11 r1_10 (Qay r1_8 l13))
  have r1_12:=(Puts.row p12 r1_11 (Qay r1_9 l14))
  have r1_13:=(Qah r1_12 e13)
  have r1_14:=(Qah r1_13 e14)
  have r2_1:=(Qah hq e1)
  have r2_2:=(Qah r2_1 e2)
  have r2_3:=(Qah r2_2 e3)
  have r2_4:=(Puts.row p4 r2_3 (Qay r2_2 l9))
  have r2_5:=(Qah r2_4 e5)
  have r2_6:=(Puts.row p6 r2_5 (Qay r2_2 l9))
  have r2_7:=(Qah r2_6 e7)
  have r2_8:=(Qah r2_7 e8)
  have r2_9:=(Qah r2_8 e9)
  have r2_10:=(Qah r2_9 e10)
  have r2_11:=(Puts.row p11 r2_10 (Qay r2_8 l13))
  have r2_12:=(Puts.row p12 r2_11 (Qay r2_9 l14))
  have r2_13:=(Qah r2_12 e13)
  have r2_14:=(Qah r2_13 e14)
  have hps27:∀ p∈([(.slice (some ⟨g16,0,none⟩) 1 1,[2]),(.slice ab_ ((QaI n5.n).length) cb_,QaI n5.n),(.slice (some ⟨g13,0,none⟩) 32 32,dig (txtN ts wo k l)),(.slice (some ⟨g14,0,none⟩) 32 32,dig (txtN ts wo k r))]:List (Value×List Int)),RdK .u8 W14.heap.size p.2 p.1 W14∧Qav p.2:=by
    intro p hp
    simp only [List.mem_cons,List.not_mem_nil,or_false] at hp
    rcases hp with rfl | rfl | rfl | rfl
    · exact ⟨RdK.here (QaT (xs:=[2]) (n:=1) rfl r16_14 (Qa5 r16_14) (show 1≤maxLen from by decide)),(QfJ [2] (by decide))⟩
    · exact ⟨RdK.here (OwnN.rd f26_14),(QbU ok5)⟩
    · exact ⟨RdK.here (QaT (xs:=dig (txtN ts wo k l)) (n:=32) (QaE _) r13_14 (Qa5 r13_14) (show 32≤maxLen from by decide)),(QcE _)⟩
    · exact ⟨RdK.here (QaT (xs:=dig (txtN ts wo k r)) (n:=32) (QaE _) r14_14 (Qa5 r14_14) (show 32≤maxLen from by decide)),(QcE _)⟩
  have hsh27:=Qhz g25 4 _ ([(.slice (some ⟨g16,0,none⟩) 1 1,[2]),(.slice ab_ ((QaI n5.n).length) cb_,QaI n5.n),(.slice (some ⟨g13,0,none⟩) 32 32,dig (txtN ts wo k l)),(.slice (some ⟨g14,0,none⟩) 32 32,dig (txtN ts wo k r))]:List (Value×List Int)) rfl (by decide) tc tq W14 r1_14 r2_14 r25_14 hps27 (by rw [show ((List.map Prod.snd ([(.slice (some ⟨g16,0,none⟩) 1 1,[2]),(.slice ab_ ((QaI n5.n).length) cb_,QaI n5.n),(.slice (some ⟨g13,0,none⟩) 32 32,dig (txtN ts wo k l)),(.slice (some ⟨g14,0,none⟩) 32 32,dig (txtN ts wo k r))]:List (Value×List Int))).flatten)=([2])++(QaI n5.n)++(dig (txtN ts wo k l))++(dig (txtN ts wo k r)) by simp only [List.map_cons,List.map_nil,List.flatten_cons,List.flatten_nil,List.append_nil,List.append_assoc,List.cons_append,List.nil_append]]; (simp only [List.length_append,QaE,hb0,List.length_cons,List.length_nil]; omega))
  rw [show ((List.map Prod.snd ([(.slice (some ⟨g16,0,none⟩) 1 1,[2]),(.slice ab_ ((QaI n5.n).length) cb_,QaI n5.n),(.slice (some ⟨g13,0,none⟩) 32 32,dig (txtN ts wo k l)),(.slice (some ⟨g14,0,none⟩) 32 32,dig (txtN ts wo k r))]:List (Value×List Int))).flatten)=([2])++(QaI n5.n)++(dig (txtN ts wo k l))++(dig (txtN ts wo k r)) by simp only [List.map_cons,List.map_nil,List.flatten_cons,List.flatten_nil,List.append_nil,List.append_assoc,List.cons_append,List.nil_append]] at hsh27
  refine Qal (.agg (ints .u8 (dig (([2])++(QaI n5.n)++(dig (txtN ts wo k l))++(dig (txtN ts wo k r)))))) 49 #[.slice (some ⟨g25,0,none⟩) 4 4] 60 rfl kj kj hsh27 fun W15 e15=>?_
  have x15:Ext w W15:=Ext.tr x14 e15
  have r4_2:=(Qah r4_1 e2)
  have r4_3:=(Qah r4_2 e3)
  have r4_4:=(Puts.row p4 r4_3 (Qay r4_2 l9))
  have r4_5:=(Qah r4_4 e5)
  have r4_6:=(Puts.row p6 r4_5 (Qay r4_2 l9))
  have r4_7:=(Qah r4_6 e7)
  have r4_8:=(Qah r4_7 e8)
  have r4_9:=(Qah r4_8 e9)
  have r4_10:=(Qah r4_9 e10)
  have r4_11:=(Puts.row p11 r4_10 (Qay r4_8 l13))
  have r4_12:=(Puts.row p12 r4_11 (Qay r4_9 l14))
  have r4_13:=(Qah r4_12 e13)
  have r4_14:=(Qah r4_13 e14)
  have r4_15:=(Qah r4_14 e15)
  refine Qau g4 _ (ints .u8 (dig (([2])++(QaI n5.n)++(dig (txtN ts wo k l))++(dig (txtN ts wo k r))))) 28 r4_15 rfl kj (Qas 28 _ _ g4 28 _ _ r4_15 rfl kj kj (isz (n:=32) kj ((Qae _ _).trans (QaE _))) (eqsz (n:=32) ((Qae _ _).trans (qZ (n:=32))) ((Qae _ _).trans (QaE _))) (Qaw _ _)) fun W16 p16 r4_16=>?_
  have x16:Ext w W16:=Puts.ext p16 x15 b4
  refine Qaf ?_
  refine hK15 _ _ ?_
  refine wp_ret ?_
  repeat (first | with_reducible refine goR1 ?_ | with_reducible refine goR2 ?_)
  exact (show bodyPost _ _ _ .ret _ _ from ret1 (.agg (ints .u8 (dig (([2])++(QaI n5.n)++(dig (txtN ts wo k l))++(dig (txtN ts wo k r)))))) rfl (Qb8 g4 28 _ r4_16 kj kj (isz (n:=32) kj ((Qae _ _).trans (QaE _)))) ⟨congrArg (fun z=>Ending.returned (.agg (ints .u8 (dig z)))) hXL,x16⟩)
theorem digP (ts : List NdV) (a_t:Option Addr) (c_t B1:Nat) (htl:ts.length≤100000) (hmt:∀ i,i<ts.length→(ndi ts i).n.ms.length≤50) (L:Nat) (f:Form ts L) (ok0:∀ x,x<ts.length→NdOk (ndi ts x).n) (wo:List Int) (a_o:Option Addr) (c_o Bo:Nat) (hol:wo.length≤1000000):∀ (k x:Nat),k≤5→x<ts.length→lv ((x:Nat):Int)≤((k:Nat):Int)→∀ w,TrAt B1 w a_t ts→TabAt w→ShT w→RdK .i64 w.heap.size wo (.slice a_o wo.length c_o) w→Calls Tryd.prog 27 #[.slice a_t ts.length c_t,.int .i64 ((x:Nat):Int),.slice a_o wo.length c_o] w (Ret w (.agg (ints .u8 (dig (txtN ts wo k x))))):=by
  have hlen:=f.len
  have hTr:=f.tr
  intro k
  induction k with
  | zero =>
    intro x hk hx hl w ht hT hSh ho
    have hi:i64 ((x:Nat):Int):=⟨by omega,by omega⟩
    have hl:=(show lv ((x:Nat):Int)≤0 from hl)
    have h0:kidL ((x:Nat):Int)=-1:=by unfold kidL; rw [if_pos hl]
    have h1:kidR ((x:Nat):Int)=-1:=by unfold kidR; rw [if_pos hl]
    exact QjJ ts a_t c_t B1 htl hmt L f ok0 wo a_o c_o _ w ht hT hSh hol ho 0 x hx (by omega) (fun W h=>by have:=(quiet (children _ hi W h)); rw [h0,h1] at this; exact this)
  | succ k ih =>
    intro x hk hx hl w ht hT hSh ho
    have hi:i64 ((x:Nat):Int):=⟨by omega,by omega⟩
    rcases Qcj (QaS hTr (x:=x) (by omega)) with ⟨-,⟨h0,h1⟩ | ⟨h2,h3,h4,h5⟩⟩
    · exact QjJ ts a_t c_t B1 htl hmt L f ok0 wo a_o c_o _ w ht hT hSh hol ho (k+1) x hx (by omega) (fun W h=>by have:=(quiet (children _ hi W h)); rw [h0,h1] at this; exact this)
    · obtain ⟨l,hl0⟩:=Int.eq_ofNat_of_zero_le (Qcb h2)
      obtain ⟨r,hr0⟩:=Int.eq_ofNat_of_zero_le (Qcb h3)
      have hll:=Qcc h2
      have hrl:=Qcc h3
      exact Qmg ts a_t c_t B1 htl hmt L f ok0 wo a_o c_o _ w ht hT hSh hol ho k x hx l r hl0 hr0 (fun W h=>by have:=(quiet (children _ hi W h)); rw [hl0,hr0] at this; exact this) (fun w ht hT hSh ho=>ih l (by omega) (by omega) (by rw [←hl0]; omega) w ht hT hSh ho) (fun w ht hT hSh ho=>ih r (by omega) (by omega) (by rw [←hr0]; omega) w ht hT hSh ho)
end Go.Proofs.YthfkppjajmjpnaaDoor.Te
end
section
namespace Go.Proofs.YthfkppjajmjpnaaDoor.Sha
open Go Go.RowKit
open Rely Auto Own
theorem QlX (w : World):Calls Tryd.prog 71 #[] w (QbK w (fun v W=>∃ g,v=.slice (some ⟨g,0,none⟩) 80 80∧w.heap.size≤g∧W.heap[g]? = some (.cells (ints .u64 Qbk) 78))):=by
  refine enter 2 [] Tryd.func71 rfl rfl kj rfl ?_
  refine wp_seq_k fun K1 hK1=>?_
  refine Qab ?_
  refine Qaa (.slice none 0 0) 0 rfl kj kj ?_
  refine Qaf ?_
  refine hK1 _ _ ?_
  refine wp_seq_k fun K2 hK2=>?_
  refine Qab ?_
  refine QaD (ints .u64 Qbk) 78 80 1 rfl kj kj fun g3 W1 l3 e1 r3_1=>?_
  have x1:Ext w W1:=Ext.tr (Rely.Ext.refl w) e1
  have b3:w.heap.size≤g3:=qT (Rely.Ext.refl w).size l3
  refine Qaa (.slice (some ⟨g3,0,none⟩) 80 80) 0 rfl kj kj ?_
  refine Qaf ?_
  refine hK2 _ _ ?_
  refine wp_ret ?_
  repeat (first | with_reducible refine goR1 ?_ | with_reducible refine goR2 ?_)
  exact (show bodyPost _ _ _ .ret _ _ from ret1 (.slice (some ⟨g3,0,none⟩) 80 80) rfl (Qaq kj) ⟨_,rfl,x1,_,rfl,b3,r3_1⟩)
theorem Qmm (w : World):Calls Tryd.prog 53 #[] w (QbK w (fun v W=>∃ g,v=.slice (some ⟨g,0,none⟩) 8 8∧w.heap.size≤g∧W.heap[g]? = some (.cells (ints .u64 QaN) 78))):=by
  refine enter 2 [] Tryd.func53 rfl rfl kj rfl ?_
  refine wp_seq_k fun K1 hK1=>?_
  refine Qab ?_
  refine Qaa (.slice none 0 0) 0 rfl kj kj ?_
  refine Qaf ?_
  refine hK1 _ _ ?_
  refine wp_seq_k fun K2 hK2=>?_
  refine Qab ?_
  refine QaD (ints .u64 QaN) 78 8 1 rfl kj kj fun g3 W1 l3 e1 r3_1=>?_
  have x1:Ext w W1:=Ext.tr (Rely.Ext.refl w) e1
  have b3:w.heap.size≤g3:=qT (Rely.Ext.refl w).size l3
  refine Qaa (.slice (some ⟨g3,0,none⟩) 8 8) 0 rfl kj kj ?_
  refine Qaf ?_
  refine hK2 _ _ ?_
  refine wp_ret ?_
  repeat (first | with_reducible refine goR1 ?_ | with_reducible refine goR2 ?_)
  exact (show bodyPost _ _ _ .ret _ _ from ret1 (.slice (some ⟨g3,0,none⟩) 8 8) rfl (Qaq kj) ⟨_,rfl,x1,_,rfl,b3,r3_1⟩)
theorem Qmh (i : Nat) (h:i<64):IntKind.u64.wrap (Int.tdiv (nth Qbk i) 4294967296)=nth Qbk i/4294967296:=by
  have:∀ i:Fin 64,IntKind.u64.wrap (Int.tdiv (nth Qbk i.1) 4294967296)=nth Qbk i.1/4294967296:=by decide +kernel
  exact this ⟨i,h⟩
theorem Qkh {i : Nat} (h:i<64):(KK.take (i+1)).map wv=(KK.take i).map wv++[wv (wget KK i)]:=by
  have:∀ i:Fin 64,(KK.take (i.1+1)).map wv=(KK.take i.1).map wv++[wv (wget KK i.1)]:=by decide +kernel
  exact this ⟨i,h⟩
theorem Qko (w : World):Calls Tryd.prog 54 #[] w (QbK w (OwnN .u32 76 w.heap.size (KK.map wv))):=by
 refine enter 19 [] Tryd.func54 rfl rfl kj rfl ?_
 refine wp_seq_k fun K1 hK1=>?_
 refine Qab ?_
 refine Qaa (.slice none 0 0) 0 rfl kj kj ?_
 refine Qaf ?_
 refine hK1 _ _ ?_
 refine wp_seq_k fun K2 hK2=>?_
 refine Qab ?_
 refine Qaa (.slice none 0 0) 1 rfl kj kj ?_
 refine Qaf ?_
 refine hK2 _ _ ?_
 refine wp_seq_k fun K3 hK3=>?_
 refine Qab ?_
 refine Qa1 (fun v W'=>(fun v W=>∃ g,v=.slice (some ⟨g,0,none⟩) 80 80∧w.heap.size≤g∧W.heap[g]? = some (.cells (ints .u64 Qbk) 78)) v W'∧Ext w W') 71 #[] 4 rfl kj kj ((QlX _).mono (by rintro e w' ⟨v,rfl,e1,hv⟩; exact ⟨v,rfl,hv,e1⟩)) fun vv4 W1 hh4=>?_
 obtain ⟨hv4,e1⟩:=hh4
 have x1:Ext w W1:=Ext.tr (Rely.Ext.refl w) e1
 obtain ⟨gd5,rfl,ld5,rd5_1⟩:=hv4
 have b5:w.heap.size≤gd5:=qT (Rely.Ext.refl w).size ld5
 refine Qaa (.slice (some ⟨gd5,0,none⟩) 80 80) 2 rfl kj kj ?_
 refine Qaf ?_
 refine hK3 _ _ ?_
 refine wp_seq_k fun K6 hK6=>?_
 refine wp_seq_k fun K7 hK7=>?_
 refine Qab ?_
 refine Qaa (.int .i64 0) 3 rfl kj kj ?_
 refine Qaf ?_
 refine hK7 _ _ ?_
 refine wp_block ?_
 refine Qa0 (fun (s1:Nat×Value)=>[(1,s1.2),(2,.slice (some ⟨gd5,0,none⟩) 80 80),(3,.int .i64 ((s1.1:Nat):Int))]) (fun (s1:Nat×Value) W=>(s1.1≤64)∧(OwnN .u32 76 W1.heap.size ((KK.take s1.1).map wv) s1.2 W)∧(Ext W1 W)∧(Ext w W)) (fun (s1:Nat×Value)=>64-s1.1) (0,(.slice none 0 0)) ⟨rfl,rfl,rfl,trivial⟩ ⟨(Nat.zero_le _),(Qcw _ _ _ _),(Rely.Ext.refl W1),x1⟩ fun s1 X1 V1 hI1=>?_
 obtain ⟨i,u⟩:=s1
 obtain ⟨hi,hu,kk1,xx1⟩:=hI1
 replace hi:i≤64:=hi
 replace hu:OwnN .u32 76 W1.heap.size ((KK.take i).map wv) u V1:=hu
 replace kk1:Ext W1 V1:=kk1
 replace xx1:Ext w V1:=xx1
 have e2:=kk1
 refine wp_seq_k fun K8 hK8=>?_
 refine wp_seq_k fun K9 hK9=>?_
 refine Qab ?_
 refine Qaa (.int .i64 ((i:Nat):Int)) 5 rfl kj kj ?_
 refine Qaa (.bool (decide (((i:Nat):Int)<64))) 6 rfl kj kj ?_
 refine Qaf ?_
 refine hK9 _ _ ?_
 refine Qar (t:=decide (((i:Nat):Int)<64)) kj (fun c10=>?_) (fun c10=>?_)
 ·skip
  have hlt6:i<64:=by have:=of_decide_eq_true c10; omega
  refine wp_skip ?_
  refine hK8 _ _ ?_
  refine wp_seq_k fun K11 hK11=>?_
  refine wp_block ?_
  refine Qab ?_
  refine Qaa (u) 9 rfl kj kj ?_
  refine Qaa (.slice (some ⟨gd5,0,none⟩) 80 80) 10 rfl kj kj ?_
  refine Qaa (.int .i64 ((i:Nat):Int)) 11 rfl kj kj ?_
  refine Qaa (.pointer (some ⟨gd5,i,none⟩)) 12 rfl kj (QbE 74 _ _ .i64 (i) gd5 80 80 78 rfl kj kj kj kj (by omega)) ?_
  have r5_2:=(Qah rd5_1 e2)
  refine Qaa (.int .u64 (nth (Qbk) i)) 13 rfl kj (Qag 78 _ gd5 i 78 _ (.int .u64 (nth (Qbk) i)) _ r5_2 rfl kj (QaU _ _ _ (Nat.lt_of_lt_of_eq (by omega) (show Qbk.length=80 from rfl).symm)) kj) ?_
  refine Qaa (.int .u64 (nth Qbk i/4294967296)) 14 rfl kj (Qai (u:=.int .u64 (IntKind.u64.wrap (Int.tdiv ((nth (Qbk) i)) (4294967296)))) kj (congrArg (Value.int .u64) (Qmh i hlt6))) ?_
  refine Qaa (.int .u32 (wv (wget KK i))) 15 rfl kj (Qai (u:=.int .u32 (IntKind.u32.wrap (nth Qbk i/4294967296))) kj (congrArg (Value.int .u32) (QjL i hlt6))) ?_
  refine QaD (ints .u32 ([(wv (wget KK i))])) 76 1 16 rfl kj kj fun g12 W3 l12 e3 r12_3=>?_
  have x3:Ext w W3:=Ext.tr xx1 e3
  have b12:w.heap.size≤g12:=qT xx1.size l12
  have f13_3:=(hu.ext e3)
  have y1_3:Ext W1 W3:=(Rely.Ext.trans e2 e3)
  refine QaP (k:=.u32) (T:=76) (xs:=(KK.take i).map wv) (ys:=[wv (wget KK i)]) (V:=W1) 4 (.tmp 9) (.tmp 16) 79 rfl kj kj (by decide) 17 rfl kj kj kj f13_3 (QaT (xs:=[(wv (wget KK i))]) (n:=1) rfl r12_3 (Qa5 r12_3) (show 1≤maxLen from by decide)) (by rw [List.length_map,List.length_take]; show _+1≤_; omega) y1_3 fun u2 W4 f14 y4 l4=>?_
  have x4:Ext w W4:=Ext.low x3 l4 x1.size
  refine Qaa (u2) 1 rfl kj kj ?_
  refine Qaf ?_
  refine hK11 _ _ ?_
  refine Qab ?_
  refine Qaa (.int .i64 ((i:Nat):Int)) 7 rfl kj kj ?_
  refine Qaa (.int .i64 ((i+1:Nat):Int)) 8 rfl kj (Qai (u:=.int .i64 (IntKind.i64.wrap (((i:Nat):Int)+1))) kj (congrArg (Value.int .i64) (i64n _ _ (by omega) (by omega)))) ?_
  refine Qaa (.int .i64 ((i+1:Nat):Int)) 3 rfl kj kj ?_
  refine Qaf ?_
  repeat (first | with_reducible refine goX1 ?_ | with_reducible refine goX2 ?_ | with_reducible refine goX3 ?_)
  exact Qat ((i+1),u2) ⟨rfl,rfl,rfl,trivial⟩ ⟨(by omega),(by rw [Qkh hlt6]; exact f14),y4,x4⟩ (by show 64-(i+1)<64-i; omega)
 ·skip
  have heq6:i=64:=by have:=of_decide_eq_false c10; omega
  refine wp_exit ?_
  refine hK6 _ _ ?_
  refine wp_seq_k fun K15 hK15=>?_
  refine Qab ?_
  refine Qaa (u) 18 rfl kj kj ?_
  refine Qaa (u) 0 rfl kj kj ?_
  refine Qaf ?_
  refine hK15 _ _ ?_
  refine wp_ret ?_
  repeat (first | with_reducible refine goR1 ?_ | with_reducible refine goR2 ?_)
  exact (show bodyPost _ _ _ .ret _ _ from ret1 (u) rfl (Qaq kj) ⟨u,rfl,xx1,OwnN.base x1.size (by rw [show KK.map wv=(KK.take i).map wv by rw [heq6,List.take_of_length_le (show KK.length≤64 by decide)]]; exact hu)⟩)
end Go.Proofs.YthfkppjajmjpnaaDoor.Sha
end
section
namespace Go.Proofs.YthfkppjajmjpnaaDoor.Sha
open Go Go.RowKit
open Rely Auto Own
section
variable {P : Program} {ρ : Operand → Value} {o : Oper} {w : World}
end
section
variable {ds : List Deferred} {P : Program} {ops : Array Oper} {Q : Exit → Act → World → Prop} {rest : List Oper} {o : Oper} {N : Nat} {L : Env} {W : World}
theorem QfR {k : IntKind} {T:TypeId} (b:Nat) (s x:Operand) (t:TypeId) (ho:o.op=.call { callee:=.builtin .append,args:=#[s,x],argTypes:=#[t,t] })
    (ht:P.underlying t=some (.slice T)) (hi:(P.info? T).map (fun i=>(i.zero,i.size,i.bytes))=some (some (.int k 0),1,b)) (hb8:b≤8) (d:Nat) (hd:o.dst=some d) (hg:Qbu ops o N L=some true) {B:Nat} {v y:Value} {xs ys:List Int} {V:World}
    (hs:Rely.look (envN N L) s=v) (hx:Rely.look (envN N L) x=y)
    (h:OwnN k T V.heap.size xs v W) (hy:RdK k B ys y W) {g9:Nat} (hl:g9<W.heap.size) (hne:v.ownBlock≠some g9) (hn:xs.length+ys.length≤1000000000) (hV:Ext V W)
    (kk:∀ (u:Value) (W':World),OwnN k T V.heap.size (xs++ys) u W'→Ext V W'→Below V.heap.size W W'→(u.ownBlock≠some g9∧g9<W'.heap.size∧W'.heap[g9]? = W.heap[g9]?)→WL P ops Q rest (Qa3 ds N ((d,u)::L)) W'):WL P ops Q (o::rest) (Qa3 ds N L) W:=by
  obtain ⟨v',W',h1,h2,h3,h4⟩:=QdU (ρ:=Rely.look (envN N L)) (o:=o) (W:=W) s x t ho ht hi hb8 hs hx h hy hn hV.size
  refine QbI _ _ d hd hg h1 (kk v' W' h2 (Qge hV h h3) ⟨h3.os,h3.tape,h3.output,h3.size,fun i hi=>h3.block i (qL hi hV.size) (fun q=>by have:=h.ge q.symm; omega)⟩ ⟨?_,qL hl h3.size,h3.block g9 hl (fun q=>hne q.symm)⟩)
  rcases h4 with h4 | h4
  · rw [h4]; exact hne
  · rw [h4]; intro e; have:=Option.some.inj e; omega
end
def leP (n j:Nat):List Int:=(List.range j).map fun i=>((8*n/256^i%256:Nat):Int)
theorem Qep (n j:Nat):(leP n j).length=j:=by simp [leP]
theorem QiZ (n j:Nat):leP n (j+1)=leP n j++[((8*n/256^j%256:Nat):Int)]:=by simp [leP,List.range_succ]
theorem Qm7 (n j:Nat) (h:j<8):nth (leP n 8) (7-j)=nth (be8 (8*n)) j:=by
  match j,h with
  | 0,_=>rfl
  | 1,_=>rfl
  | 2,_=>rfl
  | 3,_=>rfl
  | 4,_=>rfl
  | 5,_=>rfl
  | 6,_=>rfl
  | 7,_=>rfl
theorem Qls (m j:Nat) (h:j<8):(be8 m).take (j+1)=(be8 m).take j++[nth (be8 m) j]:=by
  match j,h with
  | 0,_=>rfl
  | 1,_=>rfl
  | 2,_=>rfl
  | 3,_=>rfl
  | 4,_=>rfl
  | 5,_=>rfl
  | 6,_=>rfl
  | 7,_=>rfl
theorem QiL (t : List Int) (i:Nat):t++128::List.replicate (i+1) (0:Int)=(t++128::List.replicate i 0)++[0]:=by
  rw [List.append_assoc,List.cons_append,List.replicate_succ']
theorem QiO (t : List Int) (i:Nat) (h:i≤QaF t.length):((((t++128::List.replicate i (0:Int)).length%64:Nat):Int) != 56)=decide (i<QaF t.length):=by
  have hl:(t++128::List.replicate i (0:Int)).length=t.length+(i+1):=by simp
  rw [hl]
  unfold QaF at *
  by_cases h2:i<(64-(t.length+9)%64)%64
  · rw [decide_eq_true h2,bne_iff_ne]; omega
  · rw [decide_eq_false h2,bne_eq_false_iff_eq]; omega
theorem QkU (n j:Nat):decide ((((leP n j).length:Nat):Int)<8)=decide (j<8):=by
  rw [Qep]
  exact decide_eq_decide.2 (by omega)
theorem QkZ (j : Nat) (h:j≤8):decide ((7:Int)-((j:Nat):Int)≥0)=decide (j<8):=decide_eq_decide.2 (by omega)
theorem QmB (j : Nat) (h:j≤8):IntKind.i64.wrap ((7:Int)-((j:Nat):Int)-1)=(7:Int)-((j+1:Nat):Int):=by
  rw [show (7:Int)-((j:Nat):Int)-1=(7:Int)-((j+1:Nat):Int) by omega]
  exact IntWalk.i64_in _ (by omega)
theorem le_0 (n : Nat):IntKind.u8.wrap ((n%32*8:Nat):Int)=((8*n/256^0%256:Nat):Int):=by
  rw [byteN,Nat.pow_zero,Nat.div_one]; omega
theorem le_j (m : Nat):IntKind.u8.wrap ((m%256:Nat):Int)=((m%256:Nat):Int):=by rw [byteN]; omega
theorem q_1 (n : Nat):8*n/256^1=n/32:=by rw [Nat.pow_one]; omega
theorem q_j (m j:Nat):m/256^j/256=m/256^(j+1):=by rw [Nat.div_div_eq_div_mul,Nat.pow_succ]
theorem Qk7 (t : List Int):(t++128::List.replicate (QaF t.length) (0:Int))++(be8 (8*t.length)).take 8=padT t:=by
  rw [List.append_assoc,List.cons_append]
  rfl
theorem padC (t : List Int) (v:Value) (B:Nat) (w:World) (hlen:t.length≤900000000) (hr:RdK .u8 B t v w):Calls Tryd.prog 55 #[v,.int .i64 64,.int .i64 8] w (QbK w (OwnN .u8 5 w.heap.size (padT t))):=by
 obtain ⟨a_t,c_t,rfl,-⟩:=id hr
 have hF:QaF t.length<64:=by unfold QaF; omega
 refine enter 62 [(0,.slice a_t t.length c_t),(1,.int .i64 64),(2,.int .i64 8)] Tryd.func55 rfl rfl kj rfl ?_
 refine wp_seq_k fun K1 hK1=>?_
 refine Qab ?_
 refine Qaa (.slice none 0 0) 6 rfl kj kj ?_
 refine Qaf ?_
 refine hK1 _ _ ?_
 refine wp_seq_k fun K2 hK2=>?_
 refine Qab ?_
 refine QaD (ints .u8 ([])) 5 0 11 rfl kj kj fun g3 W1 l3 e1 r3_1=>?_
 have x1:Ext w W1:=Ext.tr (Rely.Ext.refl w) e1
 have b3:w.heap.size≤g3:=qT (Rely.Ext.refl w).size l3
 refine Qaa (.slice a_t t.length c_t) 12 rfl kj kj ?_
 have y0_1:Ext w W1:=(Rely.Ext.trans (Rely.Ext.refl w) e1)
 refine QaP (k:=.u8) (T:=5) (xs:=[]) (ys:=t) (V:=w) 1 (.tmp 11) (.tmp 12) 59 rfl kj kj (by decide) 13 rfl kj kj kj (QbY (xs:=[]) rfl l3 r3_1 (by decide)) (RdK.ext hr x1) (by simp; omega) y0_1 fun z1 W2 f4 y2 l2=>?_
 have x2:Ext w W2:=Ext.low x1 l2 (Rely.Ext.refl w).size
 refine QaD (ints .u8 ([128])) 5 1 14 rfl kj kj fun g6 W3 l6 e3 r6_3=>?_
 have x3:Ext w W3:=Ext.tr x2 e3
 have b6:w.heap.size≤g6:=qT x2.size l6
 have f7_3:=(f4.ext e3)
 have y0_3:Ext w W3:=(Rely.Ext.trans y2 e3)
 refine QaP (k:=.u8) (T:=5) (xs:=[]++t) (ys:=[128]) (V:=w) 1 (.tmp 13) (.tmp 14) 59 rfl kj kj (by decide) 15 rfl kj kj kj f7_3 (QaT (xs:=[128]) (n:=1) rfl r6_3 (Qa5 r6_3) (show 1≤maxLen from by decide)) (by simp; omega) y0_3 fun z2 W4 f8 y4 l4=>?_
 have x4:Ext w W4:=Ext.low x3 l4 (Rely.Ext.refl w).size
 refine Qaa (z2) 7 rfl kj kj ?_
 refine Qaf ?_
 refine hK2 _ _ ?_
 refine wp_seq_k fun K10 hK10=>?_
 refine wp_block ?_
 refine Qa0 (fun (s1:Nat×Value)=>[(0,.slice a_t t.length c_t),(1,.int .i64 64),(2,.int .i64 8),(7,s1.2)]) (fun (s1:Nat×Value) W=>(s1.1≤QaF t.length)∧(OwnN .u8 5 w.heap.size (t++128::List.replicate s1.1 0) s1.2 W)∧(Ext w W)) (fun (s1:Nat×Value)=>QaF t.length-s1.1) (0,z2) ⟨rfl,rfl,rfl,rfl,trivial⟩ ⟨(Nat.zero_le _),(by have h:=f8; simpa using h),x4⟩ fun s1 X1 V1 hI1=>?_
 obtain ⟨i,u⟩:=s1
 obtain ⟨hi,hu,xx1⟩:=hI1
 replace hi:i≤QaF t.length:=hi
 replace hu:OwnN .u8 5 w.heap.size (t++128::List.replicate i 0) u V1:=hu
 replace xx1:Ext w V1:=xx1
 obtain ⟨a7,c7,rfl,-⟩:=id (OwnN.rd hu)
 refine wp_seq_k fun K11 hK11=>?_
 refine wp_seq_k fun K12 hK12=>?_
 refine Qab ?_
 refine Qaa (.slice a7 ((t++128::List.replicate i 0).length) c7) 16 rfl kj kj ?_
 refine Qaa (.int .i64 (((t++128::List.replicate i 0).length:Nat):Int)) 17 rfl kj kj ?_
 refine Qaa (.int .i64 64) 18 rfl kj kj ?_
 refine Qaa (.int .i64 ((((t++128::List.replicate i 0).length)%64:Nat):Int)) 19 rfl kj (Qai (u:=.int .i64 (Int.tmod ((((t++128::List.replicate i 0).length:Nat):Int)) (64))) kj (congrArg (Value.int .i64) (Qbl _ 64))) ?_
 refine Qaa (.int .i64 64) 20 rfl kj kj ?_
 refine Qaa (.int .i64 8) 21 rfl kj kj ?_
 refine Qaa (.int .i64 56) 22 rfl kj kj ?_
 refine Qaa (.bool (decide (i<QaF t.length))) 23 rfl kj (Qai (u:=.bool ((((((t++128::List.replicate i 0).length)%64:Nat):Int) != 56))) kj (congrArg Value.bool (QiO t i hi))) ?_
 refine Qaf ?_
 refine hK12 _ _ ?_
 refine Qar (t:=decide (i<QaF t.length)) kj (fun c13=>?_) (fun c13=>?_)
 ·skip
  have hlt23:i<QaF t.length:=by have:=of_decide_eq_true c13; omega
  refine wp_skip ?_
  refine hK11 _ _ ?_
  refine wp_block ?_
  refine Qab ?_
  refine Qaa (.slice a7 ((t++128::List.replicate i 0).length) c7) 24 rfl kj kj ?_
  refine QaD (ints .u8 ([0])) 5 1 25 rfl kj kj fun g14 W6 l14 e6 r14_6=>?_
  have x6:Ext w W6:=Ext.tr xx1 e6
  have b14:w.heap.size≤g14:=qT xx1.size l14
  have f15_6:=(hu.ext e6)
  have y0_6:Ext w W6:=(Rely.Ext.trans xx1 e6)
  refine QaP (k:=.u8) (T:=5) (xs:=t++128::List.replicate i 0) (ys:=[0]) (V:=w) 1 (.tmp 24) (.tmp 25) 59 rfl kj kj (by decide) 26 rfl kj kj kj f15_6 (QaT (xs:=[0]) (n:=1) rfl r14_6 (Qa5 r14_6) (show 1≤maxLen from by decide)) (by simp; omega) y0_6 fun z3 W7 f16 y7 l7=>?_
  have x7:Ext w W7:=Ext.low x6 l7 (Rely.Ext.refl w).size
  refine Qaa (z3) 7 rfl kj kj ?_
  refine Qaf ?_
  repeat (first | with_reducible refine goX1 ?_ | with_reducible refine goX2 ?_ | with_reducible refine goX3 ?_)
  exact Qat ((i+1),z3) ⟨rfl,rfl,rfl,rfl,trivial⟩ ⟨(by omega),(by rw [QiL]; exact f16),x7⟩ (by show QaF t.length-(i+1)<QaF t.length-i; omega)
 ·skip
  have heq23:i=QaF t.length:=by have:=of_decide_eq_false c13; omega
  subst heq23
  refine wp_exit ?_
  refine hK10 _ _ ?_
  refine wp_seq_k fun K18 hK18=>?_
  refine Qab ?_
  refine Qaa (.slice a_t t.length c_t) 27 rfl kj kj ?_
  refine Qaa (.int .i64 ((t.length:Nat):Int)) 28 rfl kj kj ?_
  refine Qaa (.int .i64 ((t.length:Nat):Int)) 8 rfl kj kj ?_
  refine Qaf ?_
  refine hK18 _ _ ?_
  refine wp_seq_k fun K19 hK19=>?_
  refine Qab ?_
  refine Qaa (.int .i64 ((t.length:Nat):Int)) 29 rfl kj kj ?_
  refine Qaa (.int .i64 ((t.length%32:Nat):Int)) 30 rfl kj (Qai (u:=.int .i64 (Int.tmod (((t.length:Nat):Int)) (32))) kj (congrArg (Value.int .i64) (Qbl _ 32))) ?_
  refine Qaa (.int .i64 (((t.length%32)*8:Nat):Int)) 31 rfl kj (Qai (u:=.int .i64 (IntKind.i64.wrap (((t.length%32:Nat):Int)*8))) kj (congrArg (Value.int .i64) (i64n _ _ (by omega) (by omega)))) ?_
  refine Qaa (.int .u8 (((8*t.length/256^0%256:Nat):Int))) 32 rfl kj (Qai (u:=.int .u8 (IntKind.u8.wrap (((t.length%32)*8:Nat):Int))) kj (congrArg (Value.int .u8) (le_0 _))) ?_
  refine QaD (ints .u8 ([(((8*t.length/256^0%256:Nat):Int))])) 5 1 33 rfl kj kj fun g20 W6 l20 e6 r20_6=>?_
  have x6:Ext w W6:=Ext.tr xx1 e6
  have b20:w.heap.size≤g20:=qT xx1.size l20
  refine Qaa (.slice (some ⟨g20,0,none⟩) 1 1) 9 rfl kj kj ?_
  refine Qaf ?_
  refine hK19 _ _ ?_
  refine wp_seq_k fun K21 hK21=>?_
  refine Qab ?_
  refine Qaa (.int .i64 ((t.length:Nat):Int)) 34 rfl kj kj ?_
  refine Qaa (.int .i64 ((t.length/32:Nat):Int)) 35 rfl kj (Qai (u:=.int .i64 (IntKind.i64.wrap (Int.tdiv (((t.length:Nat):Int)) (32)))) kj (congrArg (Value.int .i64) (Qb3 _ 32 (by omega)))) ?_
  refine Qaa (.int .i64 ((t.length/32:Nat):Int)) 8 rfl kj kj ?_
  refine Qaf ?_
  refine hK21 _ _ ?_
  refine wp_seq_k fun K22 hK22=>?_
  refine wp_block ?_
  have f23_6:=(hu.ext e6)
  have y5_6:Ext V1 W6:=(Rely.Ext.trans (Rely.Ext.refl V1) e6)
  refine Qa0 (fun (s2:Nat×Value)=>[(0,.slice a_t t.length c_t),(1,.int .i64 64),(2,.int .i64 8),(7,.slice a7 ((t++128::List.replicate (QaF t.length) 0).length) c7),(8,.int .i64 ((8*t.length/256^s2.1:Nat):Int)),(9,s2.2)]) (fun (s2:Nat×Value) W=>(1≤s2.1)∧(s2.1≤8)∧(OwnN .u8 5 w.heap.size (t++128::List.replicate (QaF t.length) 0) (.slice a7 ((t++128::List.replicate (QaF t.length) 0).length) c7) W)∧(OwnN .u8 5 V1.heap.size (leP t.length s2.1) s2.2 W)∧(Ext V1 W)∧(Ext w W)) (fun (s2:Nat×Value)=>8-s2.1) (1,.slice (some ⟨g20,0,none⟩) 1 1) ⟨rfl,rfl,rfl,rfl,(congrArg (fun z:Nat=>Value.int .i64 (z:Int)) (q_1 _).symm),rfl,trivial⟩ ⟨(qR _),(show (1:Nat)≤8 by decide),f23_6,(QbY (xs:=leP t.length 1) rfl l20 r20_6 (by decide)),y5_6,x6⟩ fun s2 X2 V2 hI2=>?_
  obtain ⟨j,u⟩:=s2
  obtain ⟨hj1,hj,h7,hu9,hv9,xx2⟩:=hI2
  replace hj1:1≤j:=hj1
  replace hj:j≤8:=hj
  replace h7:OwnN .u8 5 w.heap.size (t++128::List.replicate (QaF t.length) 0) (.slice a7 ((t++128::List.replicate (QaF t.length) 0).length) c7) V2:=h7
  replace hu9:OwnN .u8 5 V1.heap.size (leP t.length j) u V2:=hu9
  replace hv9:Ext V1 V2:=hv9
  replace xx2:Ext w V2:=xx2
  obtain ⟨a9,c9,rfl,-⟩:=id (OwnN.rd hu9)
  have hq8:8*t.length/256^j≤8000000000:=qT (Nat.div_le_self _ _) (by omega)
  refine wp_seq_k fun K24 hK24=>?_
  refine wp_seq_k fun K25 hK25=>?_
  refine Qab ?_
  refine Qaa (.slice a9 ((leP t.length j).length) c9) 36 rfl kj kj ?_
  refine Qaa (.int .i64 (((leP t.length j).length:Nat):Int)) 37 rfl kj kj ?_
  refine Qaa (.int .i64 8) 38 rfl kj kj ?_
  refine Qaa (.bool (decide (j<8))) 39 rfl kj (Qai (u:=.bool (decide ((((leP t.length j).length:Nat):Int)<8))) kj (congrArg Value.bool (QkU _ _))) ?_
  refine Qaf ?_
  refine hK25 _ _ ?_
  refine Qar (t:=decide (j<8)) kj (fun c26=>?_) (fun c26=>?_)
  ·skip
   have hlt39:j<8:=by have:=of_decide_eq_true c26; omega
   refine wp_skip ?_
   refine hK24 _ _ ?_
   refine wp_block ?_
   refine wp_seq_k fun K27 hK27=>?_
   refine Qab ?_
   refine Qaa (.slice a9 ((leP t.length j).length) c9) 40 rfl kj kj ?_
   refine Qaa (.int .i64 ((8*t.length/256^j:Nat):Int)) 41 rfl kj kj ?_
   refine Qaa (.int .i64 (((8*t.length/256^j)%256:Nat):Int)) 42 rfl kj (Qai (u:=.int .i64 (Int.tmod (((8*t.length/256^j:Nat):Int)) (256))) kj (congrArg (Value.int .i64) (Qbl _ 256))) ?_
   refine Qaa (.int .u8 (((8*t.length/256^j%256:Nat):Int))) 43 rfl kj (Qai (u:=.int .u8 (IntKind.u8.wrap (((8*t.length/256^j)%256:Nat):Int))) kj (congrArg (Value.int .u8) (le_j _))) ?_
   refine QaD (ints .u8 ([(((8*t.length/256^j%256:Nat):Int))])) 5 1 44 rfl kj kj fun g28 W8 l28 e8 r28_8=>?_
   have x8:Ext w W8:=Ext.tr xx2 e8
   have b28:w.heap.size≤g28:=qT xx2.size l28
   have f29_8:=(hu9.ext e8)
   have y5_8:Ext V1 W8:=(Rely.Ext.trans hv9 e8)
   refine QaP (k:=.u8) (T:=5) (xs:=leP t.length j) (ys:=[(((8*t.length/256^j%256:Nat):Int))]) (V:=V1) 1 (.tmp 40) (.tmp 44) 59 rfl kj kj (by decide) 45 rfl kj kj kj f29_8 (QaT (xs:=[(((8*t.length/256^j%256:Nat):Int))]) (n:=1) rfl r28_8 (Qa5 r28_8) (show 1≤maxLen from by decide)) (by rw [Qep]; show _+1≤_; omega) y5_8 fun z4 W9 f30 y9 l9=>?_
   have x9:Ext w W9:=Ext.low x8 l9 xx1.size
   refine Qaa (z4) 9 rfl kj kj ?_
   refine Qaf ?_
   refine hK27 _ _ ?_
   refine Qab ?_
   refine Qaa (.int .i64 ((8*t.length/256^j:Nat):Int)) 46 rfl kj kj ?_
   refine Qaa (.int .i64 (((8*t.length/256^j)/256:Nat):Int)) 47 rfl kj (Qai (u:=.int .i64 (IntKind.i64.wrap (Int.tdiv (((8*t.length/256^j:Nat):Int)) (256)))) kj (congrArg (Value.int .i64) (Qb3 _ 256 (by omega)))) ?_
   refine Qaa (.int .i64 (((8*t.length/256^j)/256:Nat):Int)) 8 rfl kj kj ?_
   refine Qaf ?_
   have f32_8:=(h7.ext e8)
   have f33_9:=(OwnN.low (n:=0) f32_8 hu l9)
   repeat (first | with_reducible refine goX1 ?_ | with_reducible refine goX2 ?_ | with_reducible refine goX3 ?_)
   exact Qat ((j+1),z4) ⟨rfl,rfl,rfl,rfl,(congrArg (fun z:Nat=>Value.int .i64 (z:Int)) (q_j _ _)),rfl,trivial⟩ ⟨(by omega),(by omega),f33_9,(by rw [QiZ]; exact f30),y9,x9⟩ (by show 8-(j+1)<8-j; omega)
  ·skip
   have heq39:j=8:=by have:=of_decide_eq_false c26; omega
   subst heq39
   refine wp_exit ?_
   refine hK22 _ _ ?_
   refine wp_seq_k fun K34 hK34=>?_
   refine wp_seq_k fun K35 hK35=>?_
   refine Qab ?_
   refine Qaa (.int .i64 8) 48 rfl kj kj ?_
   refine Qaa (.int .i64 7) 49 rfl kj kj ?_
   refine Qaa (.int .i64 7) 10 rfl kj kj ?_
   refine Qaf ?_
   refine hK35 _ _ ?_
   refine wp_block ?_
   obtain ⟨g9,o9,ha9,hl0,hc0⟩:=QaY (OwnN.rd hu9) (by rw [Qep]; decide)
   have hne0:(Value.slice a7 (t++128::List.replicate (QaF t.length) 0).length c7).ownBlock≠some g9:=fun e=>by
    have h1:=OwnN.lt hu e
    have h2:=OwnN.ge hu9 (g:=g9) (by rw [ha9]; rfl)
    omega
   refine Qa0 (fun (s3:Nat×Value)=>[(7,s3.2),(9,.slice a9 ((leP t.length 8).length) c9),(10,.int .i64 ((7:Int)-((s3.1:Nat):Int)))]) (fun (s3:Nat×Value) W=>(s3.1≤8)∧(OwnN .u8 5 w.heap.size (t++128::List.replicate (QaF t.length) 0++(be8 (8*t.length)).take s3.1) s3.2 W)∧(g9<W.heap.size)∧(s3.2.ownBlock≠some g9)∧(∀ i,i<(leP t.length 8).length→W.cell? ⟨g9,o9+i,none⟩=some (.int .u8 (nth (leP t.length 8) i)))∧(Ext w W)) (fun (s3:Nat×Value)=>8-s3.1) (0,.slice a7 ((t++128::List.replicate (QaF t.length) 0).length) c7) ⟨rfl,rfl,rfl,trivial⟩ ⟨(Nat.zero_le _),(by rw [List.take_zero,List.append_nil]; exact h7),hl0,hne0,hc0,xx2⟩ fun s3 X3 V3 hI3=>?_
   obtain ⟨j,u⟩:=s3
   obtain ⟨hj,hu,hl,hne,hcl,xx3⟩:=hI3
   replace hj:j≤8:=hj
   replace hu:OwnN .u8 5 w.heap.size (t++128::List.replicate (QaF t.length) 0++(be8 (8*t.length)).take j) u V3:=hu
   replace hl:g9<V3.heap.size:=hl
   replace hne:u.ownBlock≠some g9:=hne
   replace hcl:∀ i,i<(leP t.length 8).length→V3.cell? ⟨g9,o9+i,none⟩=some (.int .u8 (nth (leP t.length 8) i)):=hcl
   replace xx3:Ext w V3:=xx3
   refine wp_seq_k fun K36 hK36=>?_
   refine wp_seq_k fun K37 hK37=>?_
   refine Qab ?_
   refine Qaa (.int .i64 ((7:Int)-((j:Nat):Int))) 50 rfl kj kj ?_
   refine Qaa (.bool (decide (j<8))) 51 rfl kj (Qai (u:=.bool (decide (((7:Int)-((j:Nat):Int))≥0))) kj (congrArg Value.bool (QkZ j hj))) ?_
   refine Qaf ?_
   refine hK37 _ _ ?_
   refine Qar (t:=decide (j<8)) kj (fun c38=>?_) (fun c38=>?_)
   ·skip
    have hlt51:j<8:=by have:=of_decide_eq_true c38; omega
    refine wp_skip ?_
    refine hK36 _ _ ?_
    refine wp_seq_k fun K39 hK39=>?_
    refine wp_block ?_
    refine Qab ?_
    refine Qaa (u) 54 rfl kj kj ?_
    refine Qaa (.slice a9 ((leP t.length 8).length) c9) 55 rfl kj kj ?_
    refine Qaa (.int .i64 ((7:Int)-((j:Nat):Int))) 56 rfl kj kj ?_
    refine Qaa (.pointer (some ⟨g9,o9+(7-j),none⟩)) 57 rfl kj (Qa6 59 _ _ .i64 (7-j) g9 o9 (leP t.length 8).length c9 5 a9 ((7:Int)-((j:Nat):Int)) ha9 (by omega) rfl kj kj kj kj (by rw [Qep]; omega)) ?_
    refine Qaa (.int .u8 (nth (be8 (8*t.length)) j)) 58 rfl kj (Qak 5 _ _ (.int .u8 (nth (be8 (8*t.length)) j)) ((hcl (7-j) (by rw [Qep]; omega)).trans (congrArg (fun z=>some (Value.int .u8 z)) (Qm7 _ j hlt51))) rfl kj kj) ?_
    refine QaD (ints .u8 ([(nth (be8 (8*t.length)) j)])) 5 1 59 rfl kj kj fun g40 W9 l40 e9 r40_9=>?_
    have x9:Ext w W9:=Ext.tr xx3 e9
    have b40:w.heap.size≤g40:=qT xx3.size l40
    have hl4:=qL hl e9.size
    have hb4:=e9.block g9 hl
    have f41_9:=(hu.ext e9)
    have y0_9:Ext w W9:=(Rely.Ext.trans xx3 e9)
    refine QfR (k:=.u8) (T:=5) (xs:=t++128::List.replicate (QaF t.length) 0++(be8 (8*t.length)).take j) (ys:=[(nth (be8 (8*t.length)) j)]) (V:=w) 1 (.tmp 54) (.tmp 59) 59 rfl kj kj (by decide) 60 rfl kj kj kj f41_9 (QaT (xs:=[(nth (be8 (8*t.length)) j)]) (n:=1) rfl r40_9 (Qa5 r40_9) (show 1≤maxLen from by decide)) hl4 hne (by simp [be8]; unfold QaF; omega) y0_9 fun z5 W10 f42 y10 l10 hP=>?_
    have x10:Ext w W10:=Ext.low x9 l10 (Rely.Ext.refl w).size
    refine Qaa (z5) 7 rfl kj kj ?_
    refine Qaf ?_
    refine hK39 _ _ ?_
    refine Qab ?_
    refine Qaa (.int .i64 ((7:Int)-((j:Nat):Int))) 52 rfl kj kj ?_
    refine Qaa (.int .i64 ((7:Int)-((j+1:Nat):Int))) 53 rfl kj (Qai (u:=.int .i64 (IntKind.i64.wrap (((7:Int)-((j:Nat):Int))-1))) kj (congrArg (Value.int .i64) (QmB j (by omega)))) ?_
    refine Qaa (.int .i64 ((7:Int)-((j+1:Nat):Int))) 10 rfl kj kj ?_
    refine Qaf ?_
    repeat (first | with_reducible refine goX1 ?_ | with_reducible refine goX2 ?_ | with_reducible refine goX3 ?_)
    exact Qat ((j+1),z5) ⟨rfl,rfl,rfl,trivial⟩ ⟨(by omega),(by rw [Qls _ _ hlt51,←List.append_assoc]; exact f42),hP.2.1,hP.1,(fun i hi=>(World.cell?_of_block (hP.2.2.trans hb4)).trans (hcl i hi)),x10⟩ (by show 8-(j+1)<8-j; omega)
   ·skip
    have heq51:j=8:=by have:=of_decide_eq_false c38; omega
    subst heq51
    refine wp_exit ?_
    refine hK34 _ _ ?_
    refine wp_seq_k fun K44 hK44=>?_
    refine Qab ?_
    refine Qaa (u) 61 rfl kj kj ?_
    refine Qaa (u) 6 rfl kj kj ?_
    refine Qaf ?_
    refine hK44 _ _ ?_
    refine wp_ret ?_
    repeat (first | with_reducible refine goR1 ?_ | with_reducible refine goR2 ?_)
    exact (show bodyPost _ _ _ .ret _ _ from ret1 (u) rfl (Qaq kj) ⟨_,rfl,xx3,Qk7 t▸hu⟩)
end Go.Proofs.YthfkppjajmjpnaaDoor.Sha
end
section
namespace Go.Proofs.YthfkppjajmjpnaaDoor.Sha
open Go Go.RowKit
open Rely Auto Own
theorem QdP (ws : List Wd) {i n:Nat} (h:ws.length=n) (hi:i≤n):((ws.map wv).take i).length=i:=by rw [List.length_take,List.length_map]; omega
theorem Qj9 (ws : List Wd) {i n:Nat} (h:ws.length=n) (hi:i<n):(ws.map wv).take (i+1)=(ws.map wv).take i++[wv (wget ws i)]:=by
  have hl:i<(ws.map wv).length:=by rw [List.length_map]; omega
  rw [List.take_succ_eq_append_getElem hl]
  have:(ws.map wv)[i]=wv (wget ws i):=by
    unfold wget
    rw [List.getElem_map,List.getD_eq_getElem?_getD,List.getElem?_eq_getElem (by omega)]
    rfl
  rw [this]
theorem Qdd (ws : List Wd) (i k:Nat) (hk:k<i):nth ((ws.map wv).take i) k=wv (wget ws k):=by
  rw [←QbG]
  unfold nth
  rw [List.getD_eq_getElem?_getD,List.getD_eq_getElem?_getD,List.getElem?_take,if_pos hk]
theorem u32s (x : Int) (h:0≤x∧x<4294967296):IntKind.u32.wrap x=x:=by rw [QdV]; omega
theorem Qk8 (t : List Int):∃ q,(padT t).length=64*q:=by
  refine ⟨(t.length+(1+QaF t.length+8))/64,?_⟩
  rw [padT,List.length_append,Qde]
  unfold QaF; omega
theorem QdS (P : List Int) (m k:Nat) (h:k<64):nth ((P.drop (64*m)).take 64) k=nth P (64*m+k):=by
  unfold nth
  rw [List.getD_eq_getElem?_getD,List.getD_eq_getElem?_getD,List.getElem?_take,if_pos h,List.getElem?_drop]
theorem Qmn {P b:List Int} {m j:Nat} (hP:Qav P) (hb:b=(P.drop (64*m)).take 64) (hj:j<16) :
    IntKind.u32.wrap (nth P (64*m+4*j)*16777216+nth P (64*m+4*j+1)*65536+nth P (64*m+4*j+2)*256+nth P (64*m+4*j+3))=wv (wget (w64 b) j):=by
  rw [Qhm b j hj,hb,QdS _ _ _ (by omega),QdS _ _ _ (by omega),QdS _ _ _ (by omega),QdS _ _ _ (by omega),be4,QeJ,QdV]
  simp only [Nat.add_assoc]
  congr 1
  omega
theorem QgV {t : List Int} (h:Qav t):Qav (padT t):=fun x hx=>by
  rcases List.mem_append.1 hx with e | e
  · exact h x e
  · exact Qef _ x e
def shf (l : List Int) (j:Nat):List Int:=l.take (j+1)++(l.drop j).take (7-j)
theorem Qh0 {a b c d e f g h:Int} {j:Nat} (hj:j≤7):(shf [a,b,c,d,e,f,g,h] j).length=8:=by
  rcases (show j=0∨j=1∨j=2∨j=3∨j=4∨j=5∨j=6∨j=7 by omega) with rfl | rfl | rfl | rfl | rfl | rfl | rfl | rfl <;> rfl
theorem Qkp {a b c d e f g h:Int} {j:Nat} (h0:0<j) (hj:j≤7):(shf [a,b,c,d,e,f,g,h] j).set j (nth (shf [a,b,c,d,e,f,g,h] j) (j-1))=shf [a,b,c,d,e,f,g,h] (j-1):=by
  rcases (show j=1∨j=2∨j=3∨j=4∨j=5∨j=6∨j=7 by omega) with rfl | rfl | rfl | rfl | rfl | rfl | rfl <;> rfl
set_option maxRecDepth 20000 in
theorem Qh8 (t : List Int) (v:Value) (B:Nat) (w:World) (hlen:t.length≤900000000) (htb:Qav t) (hr:RdK .u8 B t v w):Calls Tryd.prog 34 #[v] w (Ret w (.agg (ints .u8 (dig t)))):=by
 obtain ⟨a_t,c_t,rfl,-⟩:=id hr
 refine enter 252 [(0,.slice a_t t.length c_t)] Tryd.func34 rfl rfl kj rfl ?_
 refine wp_seq_k fun K1 hK1=>?_
 refine Qab ?_
 refine Qan (ints .u8 (List.replicate 32 0)) 28 2 rfl kj kj fun g2 W1 l2 e1 r2_1=>?_
 have x1:Ext w W1:=Ext.tr (Rely.Ext.refl w) e1
 have b2:w.heap.size≤g2:=qT (Rely.Ext.refl w).size l2
 refine Qaf ?_
 refine hK1 _ _ ?_
 refine wp_seq_k fun K3 hK3=>?_
 refine Qab ?_
 refine Qa1 (fun v W'=>(fun v W=>∃ g,v=.slice (some ⟨g,0,none⟩) 8 8∧W1.heap.size≤g∧W.heap[g]? = some (.cells (ints .u64 QaN) 78)) v W'∧Ext W1 W') 53 #[] 23 rfl kj kj ((Qmm _).mono (by rintro e w' ⟨v,rfl,e1,hv⟩; exact ⟨v,rfl,hv,e1⟩)) fun vv4 W2 hh4=>?_
 obtain ⟨hv4,e2⟩:=hh4
 have x2:Ext w W2:=Ext.tr x1 e2
 obtain ⟨gd5,rfl,ld5,rd5_2⟩:=hv4
 have b5:w.heap.size≤gd5:=qT x1.size ld5
 refine Qaa (.slice (some ⟨gd5,0,none⟩) 8 8) 3 rfl kj kj ?_
 refine Qaf ?_
 refine hK3 _ _ ?_
 refine wp_seq_k fun K6 hK6=>?_
 refine Qab ?_
 refine Qan (ints .u32 (List.replicate 8 0)) 77 4 rfl kj kj fun g7 W3 l7 e3 r7_3=>?_
 have x3:Ext w W3:=Ext.tr x2 e3
 have b7:w.heap.size≤g7:=qT x2.size l7
 refine Qaf ?_
 refine hK6 _ _ ?_
 refine wp_seq_k fun K8 hK8=>?_
 refine wp_seq_k fun K9 hK9=>?_
 refine Qab ?_
 refine Qaa (.int .i64 0) 5 rfl kj kj ?_
 refine Qaf ?_
 refine hK9 _ _ ?_
 refine wp_block ?_
 refine Qa0 (fun (s1:Nat)=>[(0,.slice a_t t.length c_t),(2,.pointer (some ⟨g2,0,none⟩)),(3,.slice (some ⟨gd5,0,none⟩) 8 8),(4,.pointer (some ⟨g7,0,none⟩)),(5,.int .i64 ((s1:Nat):Int))]) (fun (s1:Nat) W=>(s1≤8)∧(W.heap[g7]? = some (.cells (ints .u32 (fill (S0.l.map wv) 8 s1)) 77))∧(Qa8 [g7] W3 W)∧(Ext w W)) (fun (s1:Nat)=>8-s1) 0 ⟨rfl,rfl,rfl,rfl,rfl,trivial⟩ ⟨(Nat.zero_le _),(Qba r7_3 (Qdo (S0.l.map wv) 8).symm),(Qa8.refl [g7] W3),x3⟩ fun s1 X1 V1 hI1=>?_
 obtain ⟨i,hs1⟩:∃ z,z=s1:=⟨_,rfl⟩
 subst hs1
 obtain ⟨hi,q7_1,kk1,xx1⟩:=hI1
 replace hi:i≤8:=hi
 replace q7_1:V1.heap[g7]? = some (.cells (ints .u32 (fill (S0.l.map wv) 8 i)) 77):=q7_1
 replace kk1:Qa8 [g7] W3 V1:=kk1
 replace xx1:Ext w V1:=xx1
 have q4:=kk1
 refine wp_seq_k fun K10 hK10=>?_
 refine wp_seq_k fun K11 hK11=>?_
 refine Qab ?_
 refine Qaa (.int .i64 ((i:Nat):Int)) 24 rfl kj kj ?_
 refine Qaa (.bool (decide (((i:Nat):Int)<8))) 25 rfl kj kj ?_
 refine Qaf ?_
 refine hK11 _ _ ?_
 refine Qar (t:=decide (((i:Nat):Int)<8)) kj (fun c12=>?_) (fun c12=>?_)
 ·skip
  have hlt25:i<8:=by have:=of_decide_eq_true c12; omega
  refine wp_skip ?_
  refine hK10 _ _ ?_
  refine wp_seq_k fun K13 hK13=>?_
  refine wp_block ?_
  refine Qab ?_
  refine Qaa (.int .i64 ((i:Nat):Int)) 28 rfl kj kj ?_
  refine Qaa (.slice (some ⟨gd5,0,none⟩) 8 8) 29 rfl kj kj ?_
  refine Qaa (.int .i64 ((i:Nat):Int)) 30 rfl kj kj ?_
  refine Qaa (.pointer (some ⟨gd5,i,none⟩)) 31 rfl kj (QbE 74 _ _ .i64 (i) gd5 8 8 78 rfl kj kj kj kj (by omega)) ?_
  have r5_3:=(Qah rd5_2 e3)
  have r5_4:=(Qa8.row q4 r5_3 (Qbz (Qay rd5_2 l7) Qb9))
  refine Qaa (.int .u64 (nth (QaN) i)) 32 rfl kj (Qag 78 _ gd5 i 78 _ (.int .u64 (nth (QaN) i)) _ r5_4 rfl kj (QaU _ _ _ (Nat.lt_of_lt_of_eq (by omega) (show QaN.length=8 from rfl).symm)) kj) ?_
  refine Qaa (.int .u64 (nth QaN i/4294967296)) 33 rfl kj (Qai (u:=.int .u64 (IntKind.u64.wrap (Int.tdiv ((nth (QaN) i)) (4294967296)))) kj (congrArg (Value.int .u64) ((by decide +kernel:∀ i:Fin 8,IntKind.u64.wrap (Int.tdiv (nth QaN i.val) 4294967296)=nth QaN i.val/4294967296) ⟨i,hlt25⟩))) ?_
  refine Qaa (.int .u32 (nth (S0.l.map wv) i)) 34 rfl kj (Qai (u:=.int .u32 (IntKind.u32.wrap (nth QaN i/4294967296))) kj (congrArg (Value.int .u32) ((by decide +kernel:∀ i:Fin 8,IntKind.u32.wrap (nth QaN i.val/4294967296)=nth (S0.l.map wv) i.val) ⟨i,hlt25⟩))) ?_
  refine Qaa (.pointer (some ⟨g7,i,none⟩)) 35 rfl kj (QaR _ _ _ .i64 (i) _ 8 76 rfl kj kj kj kj (by omega)) ?_
  refine Qau g7 _ (ints .u32 ((fill (S0.l.map wv) 8 i).set i (nth (S0.l.map wv) i))) 77 q7_1 rfl kj (Qbe 76 _ _ g7 i 77 _ _ q7_1 rfl kj kj kj (Nat.lt_of_lt_of_eq (by omega) (Qbx (n:=8) rfl hi).symm)) fun W5 p5 r7_5=>?_
  have x5:Ext w W5:=Puts.ext p5 xx1 b7
  refine Qaf ?_
  refine hK13 _ _ ?_
  refine Qab ?_
  refine Qaa (.int .i64 ((i:Nat):Int)) 26 rfl kj kj ?_
  refine Qaa (.int .i64 ((i+1:Nat):Int)) 27 rfl kj (Qai (u:=.int .i64 (IntKind.i64.wrap (((i:Nat):Int)+1))) kj (congrArg (Value.int .i64) (i64n _ _ (by omega) (by omega)))) ?_
  refine Qaa (.int .i64 ((i+1:Nat):Int)) 5 rfl kj kj ?_
  refine Qaf ?_
  repeat (first | with_reducible refine goX1 ?_ | with_reducible refine goX2 ?_ | with_reducible refine goX3 ?_)
  exact Qat (i+1) ⟨rfl,rfl,rfl,rfl,rfl,trivial⟩ ⟨(by omega),(Qba r7_5 (QcJ rfl hlt25)),(Qa8.puts q4 p5 (.inl (by simp))),x5⟩ (by show 8-(i+1)<8-i; omega)
 ·skip
  have heq25:i=8:=by have:=of_decide_eq_false c12; omega
  have r7_4_14:V1.heap[g7]? = some (.cells (ints .u32 ([wv S0.a,wv S0.b,wv S0.c,wv S0.d,wv S0.e,wv S0.f,wv S0.g,wv S0.h])) 77):=Qba q7_1 (by rw [heq25]; rfl)
  refine wp_exit ?_
  refine hK8 _ _ ?_
  refine wp_seq_k fun K15 hK15=>?_
  refine Qab ?_
  refine Qa1 (fun v W'=>(OwnN .u32 76 V1.heap.size (KK.map wv)) v W'∧Ext V1 W') 54 #[] 36 rfl kj kj ((Qko _).mono (by rintro e w' ⟨v,rfl,e1,hv⟩; exact ⟨v,rfl,hv,e1⟩)) fun vv16 W5 hh16=>?_
  obtain ⟨hv16,e5⟩:=hh16
  have x5:Ext w W5:=Ext.tr xx1 e5
  obtain ⟨am17,cm17,rfl,-⟩:=id (OwnN.rd hv16)
  have nb17_7:(.slice am17 ((KK.map wv).length) cm17:Value).ownBlock≠some g7:=OwnN.nb hv16 (Qa5 r7_4_14)
  refine Qaa (.slice am17 ((KK.map wv).length) cm17) 6 rfl kj kj ?_
  refine Qaf ?_
  refine hK15 _ _ ?_
  refine wp_seq_k fun K18 hK18=>?_
  refine Qab ?_
  refine Qaa (.slice a_t t.length c_t) 37 rfl kj kj ?_
  have r7_5:=(Qah r7_4_14 e5)
  refine Qa1 (fun v W'=>(OwnN .u8 5 W5.heap.size (padT t)) v W'∧Ext W5 W') 55 #[.slice a_t t.length c_t,.int .i64 64,.int .i64 8] 38 rfl kj kj ((padC t _ _ _ hlen (RdK.ext hr x5)).mono (by rintro e w' ⟨v,rfl,e1,hv⟩; exact ⟨v,rfl,hv,e1⟩)) fun vv19 W6 hh19=>?_
  obtain ⟨hv19,e6⟩:=hh19
  have x6:Ext w W6:=Ext.tr x5 e6
  obtain ⟨am20,cm20,rfl,-⟩:=id (OwnN.rd hv19)
  have nb20_7:(.slice am20 ((padT t).length) cm20:Value).ownBlock≠some g7:=OwnN.nb hv19 (Qa5 r7_5)
  refine Qaa (.slice am20 ((padT t).length) cm20) 7 rfl kj kj ?_
  refine Qaf ?_
  refine hK18 _ _ ?_
  refine wp_seq_k fun K21 hK21=>?_
  refine wp_seq_k fun K22 hK22=>?_
  refine Qab ?_
  refine Qaa (.int .i64 0) 8 rfl kj kj ?_
  refine Qaf ?_
  refine hK22 _ _ ?_
  refine wp_block ?_
  obtain ⟨q,hq⟩:=Qk8 t
  have hPl:(padT t).length≤900000200:=by rw [padT,List.length_append,Qde]; unfold QaF; omega
  have hPb:Qav (padT t):=QgV htb
  have r7_6:=(Qah r7_5 e6)
  refine Qa0 (fun (s2:Nat)=>[(2,.pointer (some ⟨g2,0,none⟩)),(4,.pointer (some ⟨g7,0,none⟩)),(6,.slice am17 ((KK.map wv).length) cm17),(7,.slice am20 ((padT t).length) cm20),(8,.int .i64 ((64*s2:Nat):Int))]) (fun (s2:Nat) W=>(s2≤q)∧(W.heap[g7]? = some (.cells (ints .u32 ([wv (absorb S0 (padT t) s2).a,wv (absorb S0 (padT t) s2).b,wv (absorb S0 (padT t) s2).c,wv (absorb S0 (padT t) s2).d,wv (absorb S0 (padT t) s2).e,wv (absorb S0 (padT t) s2).f,wv (absorb S0 (padT t) s2).g,wv (absorb S0 (padT t) s2).h])) 77))∧(Qa8 [g7] W6 W)∧(Ext w W)) (fun (s2:Nat)=>q-s2) 0 ⟨rfl,rfl,rfl,rfl,rfl,trivial⟩ ⟨(Nat.zero_le _),r7_6,(Qa8.refl [g7] W6),x6⟩ fun s2 X2 V2 hI2=>?_
  obtain ⟨m,hs2⟩:∃ z,z=s2:=⟨_,rfl⟩
  subst hs2
  obtain ⟨hm,q7_2,kk2,xx2⟩:=hI2
  replace hm:m≤q:=hm
  replace q7_2:V2.heap[g7]? = some (.cells (ints .u32 ([wv (absorb S0 (padT t) m).a,wv (absorb S0 (padT t) m).b,wv (absorb S0 (padT t) m).c,wv (absorb S0 (padT t) m).d,wv (absorb S0 (padT t) m).e,wv (absorb S0 (padT t) m).f,wv (absorb S0 (padT t) m).g,wv (absorb S0 (padT t) m).h])) 77):=q7_2
  replace kk2:Qa8 [g7] W6 V2:=kk2
  replace xx2:Ext w V2:=xx2
  have q7:=kk2
  refine wp_seq_k fun K23 hK23=>?_
  refine wp_seq_k fun K24 hK24=>?_
  refine Qab ?_
  refine Qaa (.int .i64 ((64*m:Nat):Int)) 39 rfl kj kj ?_
  refine Qaa (.slice am20 ((padT t).length) cm20) 40 rfl kj kj ?_
  refine Qaa (.int .i64 (((padT t).length:Nat):Int)) 41 rfl kj kj ?_
  refine Qaa (.bool (decide (m<q))) 42 rfl kj (Qai (u:=.bool (decide (((64*m:Nat):Int)<(((padT t).length:Nat):Int)))) kj (congrArg Value.bool (by rw [hq]; exact decide_eq_decide.2 (by omega)))) ?_
  refine Qaf ?_
  refine hK24 _ _ ?_
  refine Qar (t:=decide (m<q)) kj (fun c25=>?_) (fun c25=>?_)
  ·skip
   have hlt42:m<q:=by have:=of_decide_eq_true c25; omega
   obtain ⟨b,hb⟩:∃ z,z=((padT t).drop (64*m)).take 64:=⟨_,rfl⟩
   obtain ⟨s,hs⟩:∃ z,z=absorb S0 (padT t) m:=⟨_,rfl⟩
   have r7_7_26:V2.heap[g7]? = some (.cells (ints .u32 ([wv s.a,wv s.b,wv s.c,wv s.d,wv s.e,wv s.f,wv s.g,wv s.h])) 77):=Qba q7_2 (by rw [hs])
   refine wp_skip ?_
   refine hK23 _ _ ?_
   refine wp_seq_k fun K27 hK27=>?_
   refine wp_block ?_
   refine wp_seq_k fun K28 hK28=>?_
   refine Qab ?_
   refine Qaa (.slice none 0 0) 9 rfl kj kj ?_
   refine Qaf ?_
   refine hK28 _ _ ?_
   refine wp_seq_k fun K29 hK29=>?_
   refine wp_seq_k fun K30 hK30=>?_
   refine Qab ?_
   refine Qaa (.int .i64 0) 10 rfl kj kj ?_
   refine Qaf ?_
   refine hK30 _ _ ?_
   refine wp_block ?_
   refine Qa0 (fun (s3:Nat×Value)=>[(2,.pointer (some ⟨g2,0,none⟩)),(4,.pointer (some ⟨g7,0,none⟩)),(6,.slice am17 ((KK.map wv).length) cm17),(7,.slice am20 ((padT t).length) cm20),(8,.int .i64 ((64*m:Nat):Int)),(9,s3.2),(10,.int .i64 ((s3.1:Nat):Int))]) (fun (s3:Nat×Value) W=>(s3.1≤16)∧(OwnN .u32 76 V2.heap.size (((w64 b).map wv).take s3.1) s3.2 W)∧(Ext V2 W)∧(Ext w W)) (fun (s3:Nat×Value)=>16-s3.1) (0,(.slice none 0 0)) ⟨rfl,rfl,rfl,rfl,rfl,rfl,rfl,trivial⟩ ⟨(Nat.zero_le _),(Qcw _ _ _ _),(Rely.Ext.refl V2),xx2⟩ fun s3 X3 V3 hI3=>?_
   obtain ⟨j,u⟩:=s3
   obtain ⟨hj,hu,kk3,xx3⟩:=hI3
   replace hj:j≤16:=hj
   replace hu:OwnN .u32 76 V2.heap.size (((w64 b).map wv).take j) u V3:=hu
   replace kk3:Ext V2 V3:=kk3
   replace xx3:Ext w V3:=xx3
   have e8:=kk3
   have f32_7:=(OwnN.keepsL hv19 q7 (Qfa nb20_7 Qgy))
   have f33_8:=(f32_7.ext e8)
   have hnp_31:(padT t).length=64*q:=hq
   obtain ⟨gcp_31,ocp_31,hap_31,hlp_31,hcp_31⟩:=QaY (OwnN.rd f33_8) (by rw [hnp_31]; omega)
   refine wp_seq_k fun K34 hK34=>?_
   refine wp_seq_k fun K35 hK35=>?_
   refine Qab ?_
   refine Qaa (.int .i64 ((j:Nat):Int)) 45 rfl kj kj ?_
   refine Qaa (.bool (decide (((j:Nat):Int)<16))) 46 rfl kj kj ?_
   refine Qaf ?_
   refine hK35 _ _ ?_
   refine Qar (t:=decide (((j:Nat):Int)<16)) kj (fun c36=>?_) (fun c36=>?_)
   ·skip
    have hlt46:j<16:=by have:=of_decide_eq_true c36; omega
    refine wp_skip ?_
    refine hK34 _ _ ?_
    refine wp_seq_k fun K37 hK37=>?_
    refine wp_block ?_
    refine wp_seq_k fun K38 hK38=>?_
    refine Qab ?_
    refine Qaa (.int .i64 ((64*m:Nat):Int)) 49 rfl kj kj ?_
    refine Qaa (.int .i64 ((j:Nat):Int)) 50 rfl kj kj ?_
    refine Qaa (.int .i64 ((4*j:Nat):Int)) 51 rfl kj (Qai (u:=.int .i64 (IntKind.i64.wrap (4*((j:Nat):Int)))) kj (congrArg (Value.int .i64) (i64n _ _ (by omega) (by omega)))) ?_
    refine Qaa (.int .i64 (((64*m)+(4*j):Nat):Int)) 52 rfl kj (Qai (u:=.int .i64 (IntKind.i64.wrap (((64*m:Nat):Int)+((4*j:Nat):Int)))) kj (congrArg (Value.int .i64) (i64n _ _ (by omega) (by omega)))) ?_
    refine Qaa (.int .i64 (((64*m)+(4*j):Nat):Int)) 11 rfl kj kj ?_
    refine Qaf ?_
    refine hK38 _ _ ?_
    refine QaX 31 [⟨none,[(9,none)]⟩,⟨none,[(7,none)]⟩,⟨none,[(11,none)]⟩,⟨none,[(54,some 1),(55,some 2)]⟩,⟨none,[(56,some 3)]⟩,⟨none,[(57,some 4)]⟩,⟨none,[(58,some 5)]⟩,⟨none,[(7,none)]⟩,⟨none,[(11,none)]⟩,⟨none,[(61,some 8)]⟩,⟨none,[(60,some 7),(62,some 9)]⟩,⟨none,[(63,some 10)]⟩,⟨none,[(64,some 11)]⟩,⟨none,[(65,some 12)]⟩,⟨none,[(59,some 6),(66,some 13)]⟩,⟨none,[(7,none)]⟩,⟨none,[(11,none)]⟩,⟨none,[(69,some 16)]⟩,⟨none,[(68,some 15),(70,some 17)]⟩,⟨none,[(71,some 18)]⟩,⟨none,[(72,some 19)]⟩,⟨none,[(73,some 20)]⟩,⟨none,[(67,some 14),(74,some 21)]⟩,⟨none,[(7,none)]⟩,⟨none,[(11,none)]⟩,⟨none,[(77,some 24)]⟩,⟨none,[(76,some 23),(78,some 25)]⟩,⟨none,[(79,some 26)]⟩,⟨none,[(80,some 27)]⟩,⟨none,[(75,some 22),(81,some 28)]⟩,⟨none,[(82,some 29)]⟩] kj kj fun F hF=>?_
    refine Qaz (Qam _) (u) kj kj (fun W=>by kernel_rfl) ?_
    refine Qaz (Qam _) (.slice am20 ((padT t).length) cm20) kj kj (fun W=>by kernel_rfl) ?_
    refine Qaz (Qam _) (.int .i64 (((64*m)+(4*j):Nat):Int)) kj kj (fun W=>by kernel_rfl) ?_
    refine Qaz (Qam _) (.pointer (some ⟨gcp_31,ocp_31+((64*m)+(4*j)),none⟩)) kj kj (fun W=>(Qa6 59 _ _ .i64 ((64*m)+(4*j)) gcp_31 ocp_31 ((padT t).length) cm20 5 am20 _ hap_31 rfl rfl kj kj kj kj (Nat.lt_of_lt_of_eq (show (64*m)+(4*j)<64*q by omega) hnp_31.symm))) ?_
    refine QaK (Qam _) (.int .u8 (nth (padT t) (((64*m)+(4*j))))) kj kj (fun W hR=>(Qak 5 _ _ (.int .u8 (nth (padT t) (((64*m)+(4*j))))) ((Below.cell (Rely.Ext.trans (Qax _) hR) hlp_31).trans (hcp_31 ((64*m)+(4*j)) (Nat.lt_of_lt_of_eq (show (64*m)+(4*j)<64*q by omega) hnp_31.symm))) rfl kj kj)) ?_
    refine Qaz (Qam _) (.int .u32 (nth (padT t) (64*m+4*j))) kj kj (fun W=>(Qai (u:=.int .u32 (IntKind.u32.wrap (nth (padT t) (((64*m)+(4*j)))))) kj (congrArg (Value.int .u32) (u32s _ (by have:=hPb.nth (64*m+4*j); omega))))) ?_
    refine Qaz (Qam _) (.int .u32 (nth (padT t) (64*m+4*j)*16777216)) kj kj (fun W=>(Qai (u:=.int .u32 (IntKind.u32.wrap ((nth (padT t) (64*m+4*j))*16777216))) kj (congrArg (Value.int .u32) (u32s _ (by have:=hPb.nth (64*m+4*j); omega))))) ?_
    refine Qaz (Qam _) (.slice am20 ((padT t).length) cm20) kj kj (fun W=>by kernel_rfl) ?_
    refine Qaz (Qam _) (.int .i64 (((64*m)+(4*j):Nat):Int)) kj kj (fun W=>by kernel_rfl) ?_
    refine Qaz (Qam _) (.int .i64 ((((64*m)+(4*j))+1:Nat):Int)) kj kj (fun W=>(Qai (u:=.int .i64 (IntKind.i64.wrap ((((64*m)+(4*j):Nat):Int)+1))) kj (congrArg (Value.int .i64) (i64n _ _ (by omega) (by omega))))) ?_
    refine Qaz (Qam _) (.pointer (some ⟨gcp_31,ocp_31+(((64*m)+(4*j))+1),none⟩)) kj kj (fun W=>(Qa6 59 _ _ .i64 (((64*m)+(4*j))+1) gcp_31 ocp_31 ((padT t).length) cm20 5 am20 _ hap_31 rfl rfl kj kj kj kj (Nat.lt_of_lt_of_eq (show ((64*m)+(4*j))+1<64*q by omega) hnp_31.symm))) ?_
    refine QaK (Qam _) (.int .u8 (nth (padT t) ((((64*m)+(4*j))+1)))) kj kj (fun W hR=>(Qak 5 _ _ (.int .u8 (nth (padT t) ((((64*m)+(4*j))+1)))) ((Below.cell (Rely.Ext.trans (Qax _) hR) hlp_31).trans (hcp_31 (((64*m)+(4*j))+1) (Nat.lt_of_lt_of_eq (show ((64*m)+(4*j))+1<64*q by omega) hnp_31.symm))) rfl kj kj)) ?_
    refine Qaz (Qam _) (.int .u32 (nth (padT t) (64*m+4*j+1))) kj kj (fun W=>(Qai (u:=.int .u32 (IntKind.u32.wrap (nth (padT t) ((((64*m)+(4*j))+1))))) kj (congrArg (Value.int .u32) (u32s _ (by have:=hPb.nth (64*m+4*j+1); omega))))) ?_
    refine Qaz (Qam _) (.int .u32 (nth (padT t) (64*m+4*j+1)*65536)) kj kj (fun W=>(Qai (u:=.int .u32 (IntKind.u32.wrap ((nth (padT t) (64*m+4*j+1))*65536))) kj (congrArg (Value.int .u32) (u32s _ (by have:=hPb.nth (64*m+4*j+1); omega))))) ?_
    refine Qaz (Qam _) (.int .u32 (nth (padT t) (64*m+4*j)*16777216+nth (padT t) (64*m+4*j+1)*65536)) kj kj (fun W=>(Qai (u:=.int .u32 (IntKind.u32.wrap ((nth (padT t) (64*m+4*j)*16777216)+(nth (padT t) (64*m+4*j+1)*65536)))) kj (congrArg (Value.int .u32) (u32s _ (by have:=hPb.nth (64*m+4*j); have:=hPb.nth (64*m+4*j+1); omega))))) ?_
    refine Qaz (Qam _) (.slice am20 ((padT t).length) cm20) kj kj (fun W=>by kernel_rfl) ?_
    refine Qaz (Qam _) (.int .i64 (((64*m)+(4*j):Nat):Int)) kj kj (fun W=>by kernel_rfl) ?_
    refine Qaz (Qam _) (.int .i64 ((((64*m)+(4*j))+2:Nat):Int)) kj kj (fun W=>(Qai (u:=.int .i64 (IntKind.i64.wrap ((((64*m)+(4*j):Nat):Int)+2))) kj (congrArg (Value.int .i64) (i64n _ _ (by omega) (by omega))))) ?_
    refine Qaz (Qam _) (.pointer (some ⟨gcp_31,ocp_31+(((64*m)+(4*j))+2),none⟩)) kj kj (fun W=>(Qa6 59 _ _ .i64 (((64*m)+(4*j))+2) gcp_31 ocp_31 ((padT t).length) cm20 5 am20 _ hap_31 rfl rfl kj kj kj kj (Nat.lt_of_lt_of_eq (show ((64*m)+(4*j))+2<64*q by omega) hnp_31.symm))) ?_
    refine QaK (Qam _) (.int .u8 (nth (padT t) ((((64*m)+(4*j))+2)))) kj kj (fun W hR=>(Qak 5 _ _ (.int .u8 (nth (padT t) ((((64*m)+(4*j))+2)))) ((Below.cell (Rely.Ext.trans (Qax _) hR) hlp_31).trans (hcp_31 (((64*m)+(4*j))+2) (Nat.lt_of_lt_of_eq (show ((64*m)+(4*j))+2<64*q by omega) hnp_31.symm))) rfl kj kj)) ?_
    refine Qaz (Qam _) (.int .u32 (nth (padT t) (64*m+4*j+2))) kj kj (fun W=>(Qai (u:=.int .u32 (IntKind.u32.wrap (nth (padT t) ((((64*m)+(4*j))+2))))) kj (congrArg (Value.int .u32) (u32s _ (by have:=hPb.nth (64*m+4*j+2); omega))))) ?_
    refine Qaz (Qam _) (.int .u32 (nth (padT t) (64*m+4*j+2)*256)) kj kj (fun W=>(Qai (u:=.int .u32 (IntKind.u32.wrap ((nth (padT t) (64*m+4*j+2))*256))) kj (congrArg (Value.int .u32) (u32s _ (by have:=hPb.nth (64*m+4*j+2); omega))))) ?_
    refine Qaz (Qam _) (.int .u32 (nth (padT t) (64*m+4*j)*16777216+nth (padT t) (64*m+4*j+1)*65536+nth (padT t) (64*m+4*j+2)*256)) kj kj (fun W=>(Qai (u:=.int .u32 (IntKind.u32.wrap ((nth (padT t) (64*m+4*j)*16777216+nth (padT t) (64*m+4*j+1)*65536)+(nth (padT t) (64*m+4*j+2)*256)))) kj (congrArg (Value.int .u32) (u32s _ (by have:=hPb.nth (64*m+4*j); have:=hPb.nth (64*m+4*j+1); have:=hPb.nth (64*m+4*j+2); omega))))) ?_
    refine Qaz (Qam _) (.slice am20 ((padT t).length) cm20) kj kj (fun W=>by kernel_rfl) ?_
    refine Qaz (Qam _) (.int .i64 (((64*m)+(4*j):Nat):Int)) kj kj (fun W=>by kernel_rfl) ?_
    refine Qaz (Qam _) (.int .i64 ((((64*m)+(4*j))+3:Nat):Int)) kj kj (fun W=>(Qai (u:=.int .i64 (IntKind.i64.wrap ((((64*m)+(4*j):Nat):Int)+3))) kj (congrArg (Value.int .i64) (i64n _ _ (by omega) (by omega))))) ?_
    refine Qaz (Qam _) (.pointer (some ⟨gcp_31,ocp_31+(((64*m)+(4*j))+3),none⟩)) kj kj (fun W=>(Qa6 59 _ _ .i64 (((64*m)+(4*j))+3) gcp_31 ocp_31 ((padT t).length) cm20 5 am20 _ hap_31 rfl rfl kj kj kj kj (Nat.lt_of_lt_of_eq (show ((64*m)+(4*j))+3<64*q by omega) hnp_31.symm))) ?_
    refine QaK (Qam _) (.int .u8 (nth (padT t) ((((64*m)+(4*j))+3)))) kj kj (fun W hR=>(Qak 5 _ _ (.int .u8 (nth (padT t) ((((64*m)+(4*j))+3)))) ((Below.cell (Rely.Ext.trans (Qax _) hR) hlp_31).trans (hcp_31 (((64*m)+(4*j))+3) (Nat.lt_of_lt_of_eq (show ((64*m)+(4*j))+3<64*q by omega) hnp_31.symm))) rfl kj kj)) ?_
    refine Qaz (Qam _) (.int .u32 (nth (padT t) (64*m+4*j+3))) kj kj (fun W=>(Qai (u:=.int .u32 (IntKind.u32.wrap (nth (padT t) ((((64*m)+(4*j))+3))))) kj (congrArg (Value.int .u32) (u32s _ (by have:=hPb.nth (64*m+4*j+3); omega))))) ?_
    refine Qaz (Qam _) (.int .u32 (wv (wget (w64 b) j))) kj kj (fun W=>(Qai (u:=.int .u32 (IntKind.u32.wrap ((nth (padT t) (64*m+4*j)*16777216+nth (padT t) (64*m+4*j+1)*65536+nth (padT t) (64*m+4*j+2)*256)+(nth (padT t) (64*m+4*j+3))))) kj (congrArg (Value.int .u32) (Qmn hPb hb hlt46)))) ?_
    refine Qiq (Qam _) (ints .u32 ([(wv (wget (w64 b) j))])) 76 1 (NewS.stable _ _ _ _) kj kj (fun W=>by kernel_rfl) ?_
    refine QcZ (hF _ fun W9 e9=>?_)
    simp only [List.nil_append,List.cons_append,List.take_succ_cons,List.take_zero,List.drop_succ_cons,List.drop_zero,finE,up]
    intro vv39 hv39
    clear hF
    have x9:Ext w W9:=Ext.tr xx3 e9
    obtain ⟨g39,rfl,l39,r39_9⟩:=hv39
    have b39:w.heap.size≤g39:=qT xx3.size l39
    have f40_9:=(hu.ext e9)
    have y7_9:Ext V2 W9:=(Rely.Ext.trans e8 e9)
    refine QaP (k:=.u32) (T:=76) (xs:=((w64 b).map wv).take j) (ys:=[(wv (wget (w64 b) j))]) (V:=V2) 4 (.tmp 53) (.tmp 83) 79 rfl kj kj (by decide) 84 rfl kj kj kj f40_9 (QaT (xs:=[(wv (wget (w64 b) j))]) (n:=1) rfl r39_9 (Qa5 r39_9) (show 1≤maxLen from by decide)) (by rw [QdP _ (QbC b) (by omega)]; show _+1≤_; omega) y7_9 fun z1 W10 f41 y10 l10=>?_
    have x10:Ext w W10:=Ext.low x9 l10 xx2.size
    refine Qaa (z1) 9 rfl kj kj ?_
    refine Qaf ?_
    refine hK37 _ _ ?_
    refine Qab ?_
    refine Qaa (.int .i64 ((j:Nat):Int)) 47 rfl kj kj ?_
    refine Qaa (.int .i64 ((j+1:Nat):Int)) 48 rfl kj (Qai (u:=.int .i64 (IntKind.i64.wrap (((j:Nat):Int)+1))) kj (congrArg (Value.int .i64) (i64n _ _ (by omega) (by omega)))) ?_
    refine Qaa (.int .i64 ((j+1:Nat):Int)) 10 rfl kj kj ?_
    refine Qaf ?_
    repeat (first | with_reducible refine goX1 ?_ | with_reducible refine goX2 ?_ | with_reducible refine goX3 ?_)
    exact Qat ((j+1),z1) ⟨rfl,rfl,rfl,rfl,rfl,rfl,rfl,trivial⟩ ⟨(by omega),(by rw [Qj9 _ (QbC b) (by omega)]; exact f41),y10,x10⟩ (by show 16-(j+1)<16-j; omega)
   ·skip
    have heq46:j=16:=by have:=of_decide_eq_false c36; omega
    subst heq46
    refine wp_exit ?_
    refine hK29 _ _ ?_
    refine wp_seq_k fun K43 hK43=>?_
    refine wp_seq_k fun K44 hK44=>?_
    refine Qab ?_
    refine Qaa (.int .i64 16) 12 rfl kj kj ?_
    refine Qaf ?_
    refine hK44 _ _ ?_
    refine wp_block ?_
    refine Qa0 (fun (s4:Nat×Value)=>[(2,.pointer (some ⟨g2,0,none⟩)),(4,.pointer (some ⟨g7,0,none⟩)),(6,.slice am17 ((KK.map wv).length) cm17),(7,.slice am20 ((padT t).length) cm20),(8,.int .i64 ((64*m:Nat):Int)),(9,s4.2),(12,.int .i64 ((s4.1:Nat):Int))]) (fun (s4:Nat×Value) W=>(16≤s4.1)∧(s4.1≤64)∧(OwnN .u32 76 V2.heap.size (((w64 b).map wv).take s4.1) s4.2 W)∧(Below V2.heap.size V3 W)∧(Ext w W)) (fun (s4:Nat×Value)=>64-s4.1) (16,u) ⟨rfl,rfl,rfl,rfl,rfl,rfl,rfl,trivial⟩ ⟨(qR _),(show (16:Nat)≤64 by decide),hu,(RowKit.Below.refl _ V3),xx3⟩ fun s4 X4 V4 hI4=>?_
    obtain ⟨i,u⟩:=s4
    obtain ⟨h16,hi,hu,kk4,xx4⟩:=hI4
    replace h16:16≤i:=h16
    replace hi:i≤64:=hi
    replace hu:OwnN .u32 76 V2.heap.size (((w64 b).map wv).take i) u V4:=hu
    replace kk4:Below V2.heap.size V3 V4:=kk4
    replace xx4:Ext w V4:=xx4
    have l9:=kk4
    obtain ⟨a9,c9,rfl,-⟩:=id (OwnN.rd hu)
    have hnw_45:(((w64 b).map wv).take i).length=i:=(QdP _ (QbC b) hi)
    obtain ⟨gcw_45,ocw_45,haw_45,hlw_45,hcw_45⟩:=QaY (OwnN.rd hu) (by rw [hnw_45]; omega)
    refine wp_seq_k fun K46 hK46=>?_
    refine wp_seq_k fun K47 hK47=>?_
    refine Qab ?_
    refine Qaa (.int .i64 ((i:Nat):Int)) 85 rfl kj kj ?_
    refine Qaa (.bool (decide (((i:Nat):Int)<64))) 86 rfl kj kj ?_
    refine Qaf ?_
    refine hK47 _ _ ?_
    refine Qar (t:=decide (((i:Nat):Int)<64)) kj (fun c48=>?_) (fun c48=>?_)
    ·skip
     have hlt86:i<64:=by have:=of_decide_eq_true c48; omega
     refine wp_skip ?_
     refine hK46 _ _ ?_
     refine wp_seq_k fun K49 hK49=>?_
     refine wp_block ?_
     refine wp_seq_k fun K50 hK50=>?_
     refine Qab ?_
     refine Qaa (.slice a9 ((((w64 b).map wv).take i).length) c9) 89 rfl kj kj ?_
     refine Qaa (.int .i64 ((i:Nat):Int)) 90 rfl kj kj ?_
     refine Qaa (.int .i64 ((i-15:Nat):Int)) 91 rfl kj (Qai (u:=.int .i64 (IntKind.i64.wrap (((i:Nat):Int)-15))) kj (congrArg (Value.int .i64) (i64n _ _ (by omega) (by omega)))) ?_
     refine Qaa (.pointer (some ⟨gcw_45,ocw_45+(i-15),none⟩)) 92 rfl kj (Qa6 79 _ _ .i64 (i-15) gcw_45 ocw_45 ((((w64 b).map wv).take i).length) c9 76 a9 _ haw_45 rfl rfl kj kj kj kj (Nat.lt_of_lt_of_eq (show i-15<i by omega) hnw_45.symm)) ?_
     refine Qaa (.int .u32 (wv (wget (w64 b) (i-15)))) 93 rfl kj (Qak 76 _ _ (.int .u32 (wv (wget (w64 b) (i-15)))) ((hcw_45 (i-15) (Nat.lt_of_lt_of_eq (show i-15<i by omega) hnw_45.symm)).trans (congrArg (fun z=>some (Value.int .u32 z)) (Qdd (w64 b) i (i-15) (by omega)))) rfl kj kj) ?_
     refine Qaa (.int .u32 (wv (wget (w64 b) (i-15)))) 13 rfl kj kj ?_
     refine Qaf ?_
     refine hK50 _ _ ?_
     refine wp_seq_k fun K51 hK51=>?_
     refine Qab ?_
     refine Qaa (.slice a9 ((((w64 b).map wv).take i).length) c9) 94 rfl kj kj ?_
     refine Qaa (.int .i64 ((i:Nat):Int)) 95 rfl kj kj ?_
     refine Qaa (.int .i64 ((i-2:Nat):Int)) 96 rfl kj (Qai (u:=.int .i64 (IntKind.i64.wrap (((i:Nat):Int)-2))) kj (congrArg (Value.int .i64) (i64n _ _ (by omega) (by omega)))) ?_
     refine Qaa (.pointer (some ⟨gcw_45,ocw_45+(i-2),none⟩)) 97 rfl kj (Qa6 79 _ _ .i64 (i-2) gcw_45 ocw_45 ((((w64 b).map wv).take i).length) c9 76 a9 _ haw_45 rfl rfl kj kj kj kj (Nat.lt_of_lt_of_eq (show i-2<i by omega) hnw_45.symm)) ?_
     refine Qaa (.int .u32 (wv (wget (w64 b) (i-2)))) 98 rfl kj (Qak 76 _ _ (.int .u32 (wv (wget (w64 b) (i-2)))) ((hcw_45 (i-2) (Nat.lt_of_lt_of_eq (show i-2<i by omega) hnw_45.symm)).trans (congrArg (fun z=>some (Value.int .u32 z)) (Qdd (w64 b) i (i-2) (by omega)))) rfl kj kj) ?_
     refine Qaa (.int .u32 (wv (wget (w64 b) (i-2)))) 14 rfl kj kj ?_
     refine Qaf ?_
     refine hK51 _ _ ?_
     refine QaX 31 [⟨none,[(9,none)]⟩,⟨none,[(14,none)]⟩,⟨none,[(100,some 1)]⟩,⟨none,[(14,none)]⟩,⟨none,[(102,some 3)]⟩,⟨none,[(101,some 2),(103,some 4)]⟩,⟨none,[(14,none)]⟩,⟨none,[(105,some 6)]⟩,⟨none,[(104,some 5),(106,some 7)]⟩,⟨none,[(9,none)]⟩,⟨none,[(12,none)]⟩,⟨none,[(109,some 10)]⟩,⟨none,[(108,some 9),(110,some 11)]⟩,⟨none,[(111,some 12)]⟩,⟨none,[(107,some 8),(112,some 13)]⟩,⟨none,[(13,none)]⟩,⟨none,[(114,some 15)]⟩,⟨none,[(13,none)]⟩,⟨none,[(116,some 17)]⟩,⟨none,[(115,some 16),(117,some 18)]⟩,⟨none,[(13,none)]⟩,⟨none,[(119,some 20)]⟩,⟨none,[(118,some 19),(120,some 21)]⟩,⟨none,[(113,some 14),(121,some 22)]⟩,⟨none,[(9,none)]⟩,⟨none,[(12,none)]⟩,⟨none,[(124,some 25)]⟩,⟨none,[(123,some 24),(125,some 26)]⟩,⟨none,[(126,some 27)]⟩,⟨none,[(122,some 23),(127,some 28)]⟩,⟨none,[(128,some 29)]⟩] kj kj fun F hF=>?_
     refine Qaz (Qam _) (.slice a9 ((((w64 b).map wv).take i).length) c9) kj kj (fun W=>by kernel_rfl) ?_
     refine Qaz (Qam _) (.int .u32 (wv (wget (w64 b) (i-2)))) kj kj (fun W=>by kernel_rfl) ?_
     refine QcP (Qam _) (.int .u32 (wv (rr (wget (w64 b) (i-2)) 17))) 56 #[.int .u32 (wv (wget (w64 b) (i-2))),.int .u64 17] kj kj (fun W=>by kernel_rfl) (fun W hR=>(Qe1 (wget (w64 b) (i-2)) 17 (17) (by decide) (by decide) (by decide)) W) ?_
     refine Qaz (Qam _) (.int .u32 (wv (wget (w64 b) (i-2)))) kj kj (fun W=>by kernel_rfl) ?_
     refine QcP (Qam _) (.int .u32 (wv (rr (wget (w64 b) (i-2)) 19))) 56 #[.int .u32 (wv (wget (w64 b) (i-2))),.int .u64 19] kj kj (fun W=>by kernel_rfl) (fun W hR=>(Qe1 (wget (w64 b) (i-2)) 19 (19) (by decide) (by decide) (by decide)) W) ?_
     refine Qaz (Qam _) (.int .u32 (wv (((rr (wget (w64 b) (i-2)) 17))^^^((rr (wget (w64 b) (i-2)) 19))))) kj kj (fun W=>(Qai (u:=.int .u32 (bits .xor .u32 (wv (rr (wget (w64 b) (i-2)) 17)) (wv (rr (wget (w64 b) (i-2)) 19)))) kj (congrArg (Value.int .u32) (w_xor _ _)))) ?_
     refine Qaz (Qam _) (.int .u32 (wv (wget (w64 b) (i-2)))) kj kj (fun W=>by kernel_rfl) ?_
     refine Qaz (Qam _) (.int .u32 (wv (((wget (w64 b) (i-2)))>>>10))) kj kj (fun W=>(Qbf .shr _ _ _ _ .u32 .u64 _ _ _ rfl kj kj (QcN _ _ _ _ _ _ (by decide) (Qfs _ _ 10 rfl (by decide))))) ?_
     refine Qaz (Qam _) (.int .u32 (wv (((((rr (wget (w64 b) (i-2)) 17))^^^((rr (wget (w64 b) (i-2)) 19))))^^^((((wget (w64 b) (i-2)))>>>10))))) kj kj (fun W=>(Qai (u:=.int .u32 (bits .xor .u32 (wv (((rr (wget (w64 b) (i-2)) 17))^^^((rr (wget (w64 b) (i-2)) 19)))) (wv (((wget (w64 b) (i-2)))>>>10)))) kj (congrArg (Value.int .u32) (w_xor _ _)))) ?_
     refine Qaz (Qam _) (.slice a9 ((((w64 b).map wv).take i).length) c9) kj kj (fun W=>by kernel_rfl) ?_
     refine Qaz (Qam _) (.int .i64 ((i:Nat):Int)) kj kj (fun W=>by kernel_rfl) ?_
     refine Qaz (Qam _) (.int .i64 ((i-7:Nat):Int)) kj kj (fun W=>(Qai (u:=.int .i64 (IntKind.i64.wrap (((i:Nat):Int)-7))) kj (congrArg (Value.int .i64) (i64n _ _ (by omega) (by omega))))) ?_
     refine Qaz (Qam _) (.pointer (some ⟨gcw_45,ocw_45+(i-7),none⟩)) kj kj (fun W=>(Qa6 79 _ _ .i64 (i-7) gcw_45 ocw_45 ((((w64 b).map wv).take i).length) c9 76 a9 _ haw_45 rfl rfl kj kj kj kj (Nat.lt_of_lt_of_eq (show i-7<i by omega) hnw_45.symm))) ?_
     refine QaK (Qam _) (.int .u32 (wv (wget (w64 b) (i-7)))) kj kj (fun W hR=>(Qak 76 _ _ (.int .u32 (wv (wget (w64 b) (i-7)))) (((Below.cell (Rely.Ext.trans (Qax _) hR) hlw_45).trans (hcw_45 (i-7) (Nat.lt_of_lt_of_eq (show i-7<i by omega) hnw_45.symm))).trans (congrArg (fun z=>some (Value.int .u32 z)) (Qdd (w64 b) i (i-7) (by omega)))) rfl kj kj)) ?_
     refine Qaz (Qam _) (.int .u32 (wv (((((((rr (wget (w64 b) (i-2)) 17))^^^((rr (wget (w64 b) (i-2)) 19))))^^^((((wget (w64 b) (i-2)))>>>10))))+((wget (w64 b) (i-7)))))) kj kj (fun W=>(Qai (u:=.int .u32 (IntKind.u32.wrap (wv (((((rr (wget (w64 b) (i-2)) 17))^^^((rr (wget (w64 b) (i-2)) 19))))^^^((((wget (w64 b) (i-2)))>>>10)))+wv (wget (w64 b) (i-7))))) kj (congrArg (Value.int .u32) (QbT _ _)))) ?_
     refine Qaz (Qam _) (.int .u32 (wv (wget (w64 b) (i-15)))) kj kj (fun W=>by kernel_rfl) ?_
     refine QcP (Qam _) (.int .u32 (wv (rr (wget (w64 b) (i-15)) 7))) 56 #[.int .u32 (wv (wget (w64 b) (i-15))),.int .u64 7] kj kj (fun W=>by kernel_rfl) (fun W hR=>(Qe1 (wget (w64 b) (i-15)) 7 (7) (by decide) (by decide) (by decide)) W) ?_
     refine Qaz (Qam _) (.int .u32 (wv (wget (w64 b) (i-15)))) kj kj (fun W=>by kernel_rfl) ?_
     refine QcP (Qam _) (.int .u32 (wv (rr (wget (w64 b) (i-15)) 18))) 56 #[.int .u32 (wv (wget (w64 b) (i-15))),.int .u64 18] kj kj (fun W=>by kernel_rfl) (fun W hR=>(Qe1 (wget (w64 b) (i-15)) 18 (18) (by decide) (by decide) (by decide)) W) ?_
     refine Qaz (Qam _) (.int .u32 (wv (((rr (wget (w64 b) (i-15)) 7))^^^((rr (wget (w64 b) (i-15)) 18))))) kj kj (fun W=>(Qai (u:=.int .u32 (bits .xor .u32 (wv (rr (wget (w64 b) (i-15)) 7)) (wv (rr (wget (w64 b) (i-15)) 18)))) kj (congrArg (Value.int .u32) (w_xor _ _)))) ?_
     refine Qaz (Qam _) (.int .u32 (wv (wget (w64 b) (i-15)))) kj kj (fun W=>by kernel_rfl) ?_
     refine Qaz (Qam _) (.int .u32 (wv (((wget (w64 b) (i-15)))>>>3))) kj kj (fun W=>(Qbf .shr _ _ _ _ .u32 .u64 _ _ _ rfl kj kj (QcN _ _ _ _ _ _ (by decide) (Qfs _ _ 3 rfl (by decide))))) ?_
     refine Qaz (Qam _) (.int .u32 (wv (((((rr (wget (w64 b) (i-15)) 7))^^^((rr (wget (w64 b) (i-15)) 18))))^^^((((wget (w64 b) (i-15)))>>>3))))) kj kj (fun W=>(Qai (u:=.int .u32 (bits .xor .u32 (wv (((rr (wget (w64 b) (i-15)) 7))^^^((rr (wget (w64 b) (i-15)) 18)))) (wv (((wget (w64 b) (i-15)))>>>3)))) kj (congrArg (Value.int .u32) (w_xor _ _)))) ?_
     refine Qaz (Qam _) (.int .u32 (wv (((((((((rr (wget (w64 b) (i-2)) 17))^^^((rr (wget (w64 b) (i-2)) 19))))^^^((((wget (w64 b) (i-2)))>>>10))))+((wget (w64 b) (i-7)))))+((((((rr (wget (w64 b) (i-15)) 7))^^^((rr (wget (w64 b) (i-15)) 18))))^^^((((wget (w64 b) (i-15)))>>>3))))))) kj kj (fun W=>(Qai (u:=.int .u32 (IntKind.u32.wrap (wv (((((((rr (wget (w64 b) (i-2)) 17))^^^((rr (wget (w64 b) (i-2)) 19))))^^^((((wget (w64 b) (i-2)))>>>10))))+((wget (w64 b) (i-7))))+wv (((((rr (wget (w64 b) (i-15)) 7))^^^((rr (wget (w64 b) (i-15)) 18))))^^^((((wget (w64 b) (i-15)))>>>3)))))) kj (congrArg (Value.int .u32) (QbT _ _)))) ?_
     refine Qaz (Qam _) (.slice a9 ((((w64 b).map wv).take i).length) c9) kj kj (fun W=>by kernel_rfl) ?_
     refine Qaz (Qam _) (.int .i64 ((i:Nat):Int)) kj kj (fun W=>by kernel_rfl) ?_
     refine Qaz (Qam _) (.int .i64 ((i-16:Nat):Int)) kj kj (fun W=>(Qai (u:=.int .i64 (IntKind.i64.wrap (((i:Nat):Int)-16))) kj (congrArg (Value.int .i64) (i64n _ _ (by omega) (by omega))))) ?_
     refine Qaz (Qam _) (.pointer (some ⟨gcw_45,ocw_45+(i-16),none⟩)) kj kj (fun W=>(Qa6 79 _ _ .i64 (i-16) gcw_45 ocw_45 ((((w64 b).map wv).take i).length) c9 76 a9 _ haw_45 rfl rfl kj kj kj kj (Nat.lt_of_lt_of_eq (show i-16<i by omega) hnw_45.symm))) ?_
     refine QaK (Qam _) (.int .u32 (wv (wget (w64 b) (i-16)))) kj kj (fun W hR=>(Qak 76 _ _ (.int .u32 (wv (wget (w64 b) (i-16)))) (((Below.cell (Rely.Ext.trans (Qax _) hR) hlw_45).trans (hcw_45 (i-16) (Nat.lt_of_lt_of_eq (show i-16<i by omega) hnw_45.symm))).trans (congrArg (fun z=>some (Value.int .u32 z)) (Qdd (w64 b) i (i-16) (by omega)))) rfl kj kj)) ?_
     refine Qaz (Qam _) (.int .u32 (wv (((((((((((rr (wget (w64 b) (i-2)) 17))^^^((rr (wget (w64 b) (i-2)) 19))))^^^((((wget (w64 b) (i-2)))>>>10))))+((wget (w64 b) (i-7)))))+((((((rr (wget (w64 b) (i-15)) 7))^^^((rr (wget (w64 b) (i-15)) 18))))^^^((((wget (w64 b) (i-15)))>>>3))))))+((wget (w64 b) (i-16)))))) kj kj (fun W=>(Qai (u:=.int .u32 (IntKind.u32.wrap (wv (((((((((rr (wget (w64 b) (i-2)) 17))^^^((rr (wget (w64 b) (i-2)) 19))))^^^((((wget (w64 b) (i-2)))>>>10))))+((wget (w64 b) (i-7)))))+((((((rr (wget (w64 b) (i-15)) 7))^^^((rr (wget (w64 b) (i-15)) 18))))^^^((((wget (w64 b) (i-15)))>>>3)))))+wv (wget (w64 b) (i-16))))) kj (congrArg (Value.int .u32) (QbT _ _)))) ?_
     refine Qiq (Qam _) (ints .u32 ([(wv (((((((((((rr (wget (w64 b) (i-2)) 17))^^^((rr (wget (w64 b) (i-2)) 19))))^^^((((wget (w64 b) (i-2)))>>>10))))+((wget (w64 b) (i-7)))))+((((((rr (wget (w64 b) (i-15)) 7))^^^((rr (wget (w64 b) (i-15)) 18))))^^^((((wget (w64 b) (i-15)))>>>3))))))+((wget (w64 b) (i-16)))))])) 76 1 (NewS.stable _ _ _ _) kj kj (fun W=>by kernel_rfl) ?_
     refine QcZ (hF _ fun W10 e10=>?_)
     simp only [List.nil_append,List.cons_append,List.take_succ_cons,List.take_zero,List.drop_succ_cons,List.drop_zero,finE,up]
     intro vv52 hv52
     clear hF
     have x10:Ext w W10:=Ext.tr xx4 e10
     obtain ⟨g52,rfl,l52,r52_10⟩:=hv52
     have b52:w.heap.size≤g52:=qT xx4.size l52
     have f53_10:=(hu.ext e10)
     have y7_9:Ext V2 V4:=(Ext.low e8 l9 (Rely.Ext.refl V2).size)
     have y7_10:Ext V2 W10:=(Rely.Ext.trans y7_9 e10)
     refine QaP (k:=.u32) (T:=76) (xs:=((w64 b).map wv).take i) (ys:=[(wv (((((((((((rr (wget (w64 b) (i-2)) 17))^^^((rr (wget (w64 b) (i-2)) 19))))^^^((((wget (w64 b) (i-2)))>>>10))))+((wget (w64 b) (i-7)))))+((((((rr (wget (w64 b) (i-15)) 7))^^^((rr (wget (w64 b) (i-15)) 18))))^^^((((wget (w64 b) (i-15)))>>>3))))))+((wget (w64 b) (i-16)))))]) (V:=V2) 4 (.tmp 99) (.tmp 129) 79 rfl kj kj (by decide) 130 rfl kj kj kj f53_10 (QaT (xs:=[(wv (((((((((((rr (wget (w64 b) (i-2)) 17))^^^((rr (wget (w64 b) (i-2)) 19))))^^^((((wget (w64 b) (i-2)))>>>10))))+((wget (w64 b) (i-7)))))+((((((rr (wget (w64 b) (i-15)) 7))^^^((rr (wget (w64 b) (i-15)) 18))))^^^((((wget (w64 b) (i-15)))>>>3))))))+((wget (w64 b) (i-16)))))]) (n:=1) rfl r52_10 (Qa5 r52_10) (show 1≤maxLen from by decide)) (by rw [QdP _ (QbC b) (by omega)]; show _+1≤_; omega) y7_10 fun z2 W11 f54 y11 l11=>?_
     have x11:Ext w W11:=Ext.low x10 l11 xx2.size
     refine Qaa (z2) 9 rfl kj kj ?_
     refine Qaf ?_
     refine hK49 _ _ ?_
     refine Qab ?_
     refine Qaa (.int .i64 ((i:Nat):Int)) 87 rfl kj kj ?_
     refine Qaa (.int .i64 ((i+1:Nat):Int)) 88 rfl kj (Qai (u:=.int .i64 (IntKind.i64.wrap (((i:Nat):Int)+1))) kj (congrArg (Value.int .i64) (i64n _ _ (by omega) (by omega)))) ?_
     refine Qaa (.int .i64 ((i+1:Nat):Int)) 12 rfl kj kj ?_
     refine Qaf ?_
     repeat (first | with_reducible refine goX1 ?_ | with_reducible refine goX2 ?_ | with_reducible refine goX3 ?_)
     exact Qat ((i+1),z2) ⟨rfl,rfl,rfl,rfl,rfl,rfl,rfl,trivial⟩ ⟨(by omega),(by omega),(by rw [Qj9 _ (QbC b) (by omega),Qgk b i h16 hlt86]; exact f54),(RowKit.Below.trans (RowKit.Below.trans l9 (RowKit.Below.mono e10 y7_9.size)) l11),x11⟩ (by show 64-(i+1)<64-i; omega)
    ·skip
     have heq86:i=64:=by have:=of_decide_eq_false c48; omega
     subst heq86
     have nb9_4:(.slice a9 ((((w64 b).map wv).take 64).length) c9:Value).ownBlock≠some g7:=OwnN.nb hu (Qa5 r7_7_26)
     refine wp_exit ?_
     refine hK43 _ _ ?_
     refine wp_seq_k fun K56 hK56=>?_
     refine Qab ?_
     have f57_6:=(hv16.ext e6)
     have f58_7:=(OwnN.keepsL f57_6 q7 (Qfa nb17_7 Qgy))
     have f59_8:=(f58_7.ext e8)
     have f60_9:=(OwnN.low (n:=0) f59_8 f58_7 l9)
     have f61_9:=(OwnN.low (n:=0) f33_8 f32_7 l9)
     have r7_8:=(Qah r7_7_26 e8)
     have r7_9:=(Qb1 l9 r7_8 (Qa5 r7_7_26))
     refine Qaa (.agg (ints .u32 ([wv s.a,wv s.b,wv s.c,wv s.d,wv s.e,wv s.f,wv s.g,wv s.h]))) 131 rfl kj (Qa4 77 _ g7 77 _ _ r7_9 rfl kj kj (isz (n:=8) kj kj)) ?_
     refine Qan (ints .u32 (List.replicate 8 0)) 77 15 rfl kj kj fun g62 W10 l62 e10 r62_10=>?_
     have x10:Ext w W10:=Ext.tr xx4 e10
     have b62:w.heap.size≤g62:=qT xx4.size l62
     refine Qau g62 _ (ints .u32 ([wv s.a,wv s.b,wv s.c,wv s.d,wv s.e,wv s.f,wv s.g,wv s.h])) 77 r62_10 rfl kj (Qas 77 _ _ g62 77 _ _ r62_10 rfl kj kj (isz (n:=8) kj kj) (eqsz (n:=8) ((Qae _ _).trans (qZ (n:=8))) kj) (Qaw _ _)) fun W11 p11 r62_11=>?_
     have x11:Ext w W11:=Puts.ext p11 x10 b62
     refine Qaf ?_
     refine hK56 _ _ ?_
     refine wp_seq_k fun K63 hK63=>?_
     refine wp_seq_k fun K64 hK64=>?_
     refine Qab ?_
     refine Qaa (.int .i64 0) 16 rfl kj kj ?_
     refine Qaf ?_
     refine hK64 _ _ ?_
     refine wp_block ?_
     have nb6_15:(.slice am17 ((KK.map wv).length) cm17:Value).ownBlock≠some g62:=fun e=>by have h1:=OwnN.lt f60_9 e; have h2:=l62; omega
     have nb7_15:(.slice am20 ((padT t).length) cm20:Value).ownBlock≠some g62:=fun e=>by have h1:=OwnN.lt f61_9 e; have h2:=l62; omega
     have nb9_15:(.slice a9 ((((w64 b).map wv).take 64).length) c9:Value).ownBlock≠some g62:=fun e=>by have h1:=OwnN.lt hu e; have h2:=l62; omega
     refine Qa0 (fun (s5:Nat)=>[(2,.pointer (some ⟨g2,0,none⟩)),(4,.pointer (some ⟨g7,0,none⟩)),(6,.slice am17 ((KK.map wv).length) cm17),(7,.slice am20 ((padT t).length) cm20),(8,.int .i64 ((64*m:Nat):Int)),(9,.slice a9 ((((w64 b).map wv).take 64).length) c9),(15,.pointer (some ⟨g62,0,none⟩)),(16,.int .i64 ((s5:Nat):Int))]) (fun (s5:Nat) W=>(s5≤64)∧(W.heap[g62]? = some (.cells (ints .u32 ([wv (rnds KK (w64 b) s s5).a,wv (rnds KK (w64 b) s s5).b,wv (rnds KK (w64 b) s s5).c,wv (rnds KK (w64 b) s s5).d,wv (rnds KK (w64 b) s s5).e,wv (rnds KK (w64 b) s s5).f,wv (rnds KK (w64 b) s s5).g,wv (rnds KK (w64 b) s s5).h])) 77))∧(Qa8 [g62] W11 W)∧(Ext w W)) (fun (s5:Nat)=>64-s5) 0 ⟨rfl,rfl,rfl,rfl,rfl,rfl,rfl,rfl,trivial⟩ ⟨(Nat.zero_le _),r62_11,(Qa8.refl [g62] W11),x11⟩ fun s5 X5 V5 hI5=>?_
     obtain ⟨i,hs5⟩:∃ z,z=s5:=⟨_,rfl⟩
     subst hs5
     obtain ⟨hi,q62_5,kk5,xx5⟩:=hI5
     replace hi:i≤64:=hi
     replace q62_5:V5.heap[g62]? = some (.cells (ints .u32 ([wv (rnds KK (w64 b) s i).a,wv (rnds KK (w64 b) s i).b,wv (rnds KK (w64 b) s i).c,wv (rnds KK (w64 b) s i).d,wv (rnds KK (w64 b) s i).e,wv (rnds KK (w64 b) s i).f,wv (rnds KK (w64 b) s i).g,wv (rnds KK (w64 b) s i).h])) 77):=q62_5
     replace kk5:Qa8 [g62] W11 V5:=kk5
     replace xx5:Ext w V5:=xx5
     have q12:=kk5
     have f66_10:=(f60_9.ext e10)
     have f67_11:=(f66_10.puts p11 nb6_15)
     have f68_12:=(OwnN.keepsL f67_11 q12 (Qfa nb6_15 Qgy))
     have hnk_65:(KK.map wv).length=64:=(List.length_map ..)
     obtain ⟨gck_65,ock_65,hak_65,hlk_65,hck_65⟩:=QaY (OwnN.rd f68_12) (by rw [hnk_65]; omega)
     have f70_10:=(hu.ext e10)
     have f71_11:=(f70_10.puts p11 nb9_15)
     have f72_12:=(OwnN.keepsL f71_11 q12 (Qfa nb9_15 Qgy))
     have hnw_69:(((w64 b).map wv).take 64).length=64:=(QdP _ (QbC b) (qR _))
     obtain ⟨gcw_69,ocw_69,haw_69,hlw_69,hcw_69⟩:=QaY (OwnN.rd f72_12) (by rw [hnw_69]; omega)
     refine wp_seq_k fun K73 hK73=>?_
     refine wp_seq_k fun K74 hK74=>?_
     refine Qab ?_
     refine Qaa (.int .i64 ((i:Nat):Int)) 132 rfl kj kj ?_
     refine Qaa (.bool (decide (((i:Nat):Int)<64))) 133 rfl kj kj ?_
     refine Qaf ?_
     refine hK74 _ _ ?_
     refine Qar (t:=decide (((i:Nat):Int)<64)) kj (fun c75=>?_) (fun c75=>?_)
     ·skip
      have hlt133:i<64:=by have:=of_decide_eq_true c75; omega
      refine wp_skip ?_
      refine hK73 _ _ ?_
      refine wp_seq_k fun K76 hK76=>?_
      refine wp_block ?_
      refine wp_seq_k fun K77 hK77=>?_
      refine QaX 36 [⟨none,[(15,none)]⟩,⟨none,[(136,some 0)]⟩,⟨none,[(15,none)]⟩,⟨none,[(138,some 2)]⟩,⟨none,[(139,some 3)]⟩,⟨none,[(15,none)]⟩,⟨none,[(141,some 5)]⟩,⟨none,[(142,some 6)]⟩,⟨none,[(140,some 4),(143,some 7)]⟩,⟨none,[(15,none)]⟩,⟨none,[(145,some 9)]⟩,⟨none,[(146,some 10)]⟩,⟨none,[(144,some 8),(147,some 11)]⟩,⟨none,[(137,some 1),(148,some 12)]⟩,⟨none,[(15,none)]⟩,⟨none,[(150,some 14)]⟩,⟨none,[(15,none)]⟩,⟨none,[(152,some 16)]⟩,⟨none,[(151,some 15),(153,some 17)]⟩,⟨none,[(15,none)]⟩,⟨none,[(155,some 19)]⟩,⟨none,[(156,some 20)]⟩,⟨none,[(15,none)]⟩,⟨none,[(158,some 22)]⟩,⟨none,[(157,some 21),(159,some 23)]⟩,⟨none,[(154,some 18),(160,some 24)]⟩,⟨none,[(149,some 13),(161,some 25)]⟩,⟨none,[(6,none)]⟩,⟨none,[(16,none)]⟩,⟨none,[(163,some 27),(164,some 28)]⟩,⟨none,[(165,some 29)]⟩,⟨none,[(162,some 26),(166,some 30)]⟩,⟨none,[(9,none)]⟩,⟨none,[(16,none)]⟩,⟨none,[(168,some 32),(169,some 33)]⟩,⟨none,[(170,some 34)]⟩] kj kj fun F hF=>?_
      refine Qaz (Qam _) (.pointer (some ⟨g62,7,none⟩)) kj kj (fun W=>by kernel_rfl) ?_
      refine QaK (Qam _) (.int .u32 (wv (rnds KK (w64 b) s i).h)) kj kj (fun W hR=>(Qag 76 _ g62 7 77 _ (.int .u32 (wv (rnds KK (w64 b) s i).h)) _ (Qah (Qah q62_5 (Qax _)) hR) rfl kj kj kj)) ?_
      refine Qaz (Qam _) (.pointer (some ⟨g62,4,none⟩)) kj kj (fun W=>by kernel_rfl) ?_
      refine QaK (Qam _) (.int .u32 (wv (rnds KK (w64 b) s i).e)) kj kj (fun W hR=>(Qag 76 _ g62 4 77 _ (.int .u32 (wv (rnds KK (w64 b) s i).e)) _ (Qah (Qah q62_5 (Qax _)) hR) rfl kj kj kj)) ?_
      refine QcP (Qam _) (.int .u32 (wv (rr ((rnds KK (w64 b) s i).e) 6))) 56 #[.int .u32 (wv (rnds KK (w64 b) s i).e),.int .u64 6] kj kj (fun W=>by kernel_rfl) (fun W hR=>(Qe1 ((rnds KK (w64 b) s i).e) 6 (6) (by decide) (by decide) (by decide)) W) ?_
      refine Qaz (Qam _) (.pointer (some ⟨g62,4,none⟩)) kj kj (fun W=>by kernel_rfl) ?_
      refine QaK (Qam _) (.int .u32 (wv (rnds KK (w64 b) s i).e)) kj kj (fun W hR=>(Qag 76 _ g62 4 77 _ (.int .u32 (wv (rnds KK (w64 b) s i).e)) _ (Qah (Qah q62_5 (Qax _)) hR) rfl kj kj kj)) ?_
      refine QcP (Qam _) (.int .u32 (wv (rr ((rnds KK (w64 b) s i).e) 11))) 56 #[.int .u32 (wv (rnds KK (w64 b) s i).e),.int .u64 11] kj kj (fun W=>by kernel_rfl) (fun W hR=>(Qe1 ((rnds KK (w64 b) s i).e) 11 (11) (by decide) (by decide) (by decide)) W) ?_
      refine Qaz (Qam _) (.int .u32 (wv (((rr ((rnds KK (w64 b) s i).e) 6))^^^((rr ((rnds KK (w64 b) s i).e) 11))))) kj kj (fun W=>(Qai (u:=.int .u32 (bits .xor .u32 (wv (rr ((rnds KK (w64 b) s i).e) 6)) (wv (rr ((rnds KK (w64 b) s i).e) 11)))) kj (congrArg (Value.int .u32) (w_xor _ _)))) ?_
      refine Qaz (Qam _) (.pointer (some ⟨g62,4,none⟩)) kj kj (fun W=>by kernel_rfl) ?_
      refine QaK (Qam _) (.int .u32 (wv (rnds KK (w64 b) s i).e)) kj kj (fun W hR=>(Qag 76 _ g62 4 77 _ (.int .u32 (wv (rnds KK (w64 b) s i).e)) _ (Qah (Qah q62_5 (Qax _)) hR) rfl kj kj kj)) ?_
      refine QcP (Qam _) (.int .u32 (wv (rr ((rnds KK (w64 b) s i).e) 25))) 56 #[.int .u32 (wv (rnds KK (w64 b) s i).e),.int .u64 25] kj kj (fun W=>by kernel_rfl) (fun W hR=>(Qe1 ((rnds KK (w64 b) s i).e) 25 (25) (by decide) (by decide) (by decide)) W) ?_
      refine Qaz (Qam _) (.int .u32 (wv (((((rr ((rnds KK (w64 b) s i).e) 6))^^^((rr ((rnds KK (w64 b) s i).e) 11))))^^^((rr ((rnds KK (w64 b) s i).e) 25))))) kj kj (fun W=>(Qai (u:=.int .u32 (bits .xor .u32 (wv (((rr ((rnds KK (w64 b) s i).e) 6))^^^((rr ((rnds KK (w64 b) s i).e) 11)))) (wv (rr ((rnds KK (w64 b) s i).e) 25)))) kj (congrArg (Value.int .u32) (w_xor _ _)))) ?_
      refine Qaz (Qam _) (.int .u32 (wv (((rnds KK (w64 b) s i).h)+((((((rr ((rnds KK (w64 b) s i).e) 6))^^^((rr ((rnds KK (w64 b) s i).e) 11))))^^^((rr ((rnds KK (w64 b) s i).e) 25))))))) kj kj (fun W=>(Qai (u:=.int .u32 (IntKind.u32.wrap (wv ((rnds KK (w64 b) s i).h)+wv (((((rr ((rnds KK (w64 b) s i).e) 6))^^^((rr ((rnds KK (w64 b) s i).e) 11))))^^^((rr ((rnds KK (w64 b) s i).e) 25)))))) kj (congrArg (Value.int .u32) (QbT _ _)))) ?_
      refine Qaz (Qam _) (.pointer (some ⟨g62,4,none⟩)) kj kj (fun W=>by kernel_rfl) ?_
      refine QaK (Qam _) (.int .u32 (wv (rnds KK (w64 b) s i).e)) kj kj (fun W hR=>(Qag 76 _ g62 4 77 _ (.int .u32 (wv (rnds KK (w64 b) s i).e)) _ (Qah (Qah q62_5 (Qax _)) hR) rfl kj kj kj)) ?_
      refine Qaz (Qam _) (.pointer (some ⟨g62,5,none⟩)) kj kj (fun W=>by kernel_rfl) ?_
      refine QaK (Qam _) (.int .u32 (wv (rnds KK (w64 b) s i).f)) kj kj (fun W hR=>(Qag 76 _ g62 5 77 _ (.int .u32 (wv (rnds KK (w64 b) s i).f)) _ (Qah (Qah q62_5 (Qax _)) hR) rfl kj kj kj)) ?_
      refine Qaz (Qam _) (.int .u32 (wv (((rnds KK (w64 b) s i).e)&&&((rnds KK (w64 b) s i).f)))) kj kj (fun W=>(Qai (u:=.int .u32 (bits .and .u32 (wv ((rnds KK (w64 b) s i).e)) (wv ((rnds KK (w64 b) s i).f)))) kj (congrArg (Value.int .u32) (Qe0 _ _)))) ?_
      refine Qaz (Qam _) (.pointer (some ⟨g62,4,none⟩)) kj kj (fun W=>by kernel_rfl) ?_
      refine QaK (Qam _) (.int .u32 (wv (rnds KK (w64 b) s i).e)) kj kj (fun W hR=>(Qag 76 _ g62 4 77 _ (.int .u32 (wv (rnds KK (w64 b) s i).e)) _ (Qah (Qah q62_5 (Qax _)) hR) rfl kj kj kj)) ?_
      refine Qaz (Qam _) (.int .u32 (wv (~~~((rnds KK (w64 b) s i).e)))) kj kj (fun W=>(Qai (u:=.int .u32 (IntKind.u32.wrap (4294967295-wv ((rnds KK (w64 b) s i).e)))) kj (congrArg (Value.int .u32) (Qmt _)))) ?_
      refine Qaz (Qam _) (.pointer (some ⟨g62,6,none⟩)) kj kj (fun W=>by kernel_rfl) ?_
      refine QaK (Qam _) (.int .u32 (wv (rnds KK (w64 b) s i).g)) kj kj (fun W hR=>(Qag 76 _ g62 6 77 _ (.int .u32 (wv (rnds KK (w64 b) s i).g)) _ (Qah (Qah q62_5 (Qax _)) hR) rfl kj kj kj)) ?_
      refine Qaz (Qam _) (.int .u32 (wv (((~~~((rnds KK (w64 b) s i).e)))&&&((rnds KK (w64 b) s i).g)))) kj kj (fun W=>(Qai (u:=.int .u32 (bits .and .u32 (wv (~~~((rnds KK (w64 b) s i).e))) (wv ((rnds KK (w64 b) s i).g)))) kj (congrArg (Value.int .u32) (Qe0 _ _)))) ?_
      refine Qaz (Qam _) (.int .u32 (wv (((((rnds KK (w64 b) s i).e)&&&((rnds KK (w64 b) s i).f)))^^^((((~~~((rnds KK (w64 b) s i).e)))&&&((rnds KK (w64 b) s i).g)))))) kj kj (fun W=>(Qai (u:=.int .u32 (bits .xor .u32 (wv (((rnds KK (w64 b) s i).e)&&&((rnds KK (w64 b) s i).f))) (wv (((~~~((rnds KK (w64 b) s i).e)))&&&((rnds KK (w64 b) s i).g))))) kj (congrArg (Value.int .u32) (w_xor _ _)))) ?_
      refine Qaz (Qam _) (.int .u32 (wv (((((rnds KK (w64 b) s i).h)+((((((rr ((rnds KK (w64 b) s i).e) 6))^^^((rr ((rnds KK (w64 b) s i).e) 11))))^^^((rr ((rnds KK (w64 b) s i).e) 25))))))+((((((rnds KK (w64 b) s i).e)&&&((rnds KK (w64 b) s i).f)))^^^((((~~~((rnds KK (w64 b) s i).e)))&&&((rnds KK (w64 b) s i).g)))))))) kj kj (fun W=>(Qai (u:=.int .u32 (IntKind.u32.wrap (wv (((rnds KK (w64 b) s i).h)+((((((rr ((rnds KK (w64 b) s i).e) 6))^^^((rr ((rnds KK (w64 b) s i).e) 11))))^^^((rr ((rnds KK (w64 b) s i).e) 25)))))+wv (((((rnds KK (w64 b) s i).e)&&&((rnds KK (w64 b) s i).f)))^^^((((~~~((rnds KK (w64 b) s i).e)))&&&((rnds KK (w64 b) s i).g))))))) kj (congrArg (Value.int .u32) (QbT _ _)))) ?_
      refine Qaz (Qam _) (.slice am17 ((KK.map wv).length) cm17) kj kj (fun W=>by kernel_rfl) ?_
      refine Qaz (Qam _) (.int .i64 ((i:Nat):Int)) kj kj (fun W=>by kernel_rfl) ?_
      refine Qaz (Qam _) (.pointer (some ⟨gck_65,ock_65+i,none⟩)) kj kj (fun W=>(Qa6 79 _ _ .i64 i gck_65 ock_65 ((KK.map wv).length) cm17 76 am17 _ hak_65 rfl rfl kj kj kj kj (Nat.lt_of_lt_of_eq (show i<64 by omega) hnk_65.symm))) ?_
      refine QaK (Qam _) (.int .u32 (wv (wget KK i))) kj kj (fun W hR=>(Qak 76 _ _ (.int .u32 (wv (wget KK i))) (((Below.cell (Rely.Ext.trans (Qax _) hR) hlk_65).trans (hck_65 i (Nat.lt_of_lt_of_eq (show i<64 by omega) hnk_65.symm))).trans (congrArg (fun z=>some (Value.int .u32 z)) (QbG _ _))) rfl kj kj)) ?_
      refine Qaz (Qam _) (.int .u32 (wv (((((((rnds KK (w64 b) s i).h)+((((((rr ((rnds KK (w64 b) s i).e) 6))^^^((rr ((rnds KK (w64 b) s i).e) 11))))^^^((rr ((rnds KK (w64 b) s i).e) 25))))))+((((((rnds KK (w64 b) s i).e)&&&((rnds KK (w64 b) s i).f)))^^^((((~~~((rnds KK (w64 b) s i).e)))&&&((rnds KK (w64 b) s i).g)))))))+((wget KK i))))) kj kj (fun W=>(Qai (u:=.int .u32 (IntKind.u32.wrap (wv (((((rnds KK (w64 b) s i).h)+((((((rr ((rnds KK (w64 b) s i).e) 6))^^^((rr ((rnds KK (w64 b) s i).e) 11))))^^^((rr ((rnds KK (w64 b) s i).e) 25))))))+((((((rnds KK (w64 b) s i).e)&&&((rnds KK (w64 b) s i).f)))^^^((((~~~((rnds KK (w64 b) s i).e)))&&&((rnds KK (w64 b) s i).g))))))+wv (wget KK i)))) kj (congrArg (Value.int .u32) (QbT _ _)))) ?_
      refine Qaz (Qam _) (.slice a9 ((((w64 b).map wv).take 64).length) c9) kj kj (fun W=>by kernel_rfl) ?_
      refine Qaz (Qam _) (.int .i64 ((i:Nat):Int)) kj kj (fun W=>by kernel_rfl) ?_
      refine Qaz (Qam _) (.pointer (some ⟨gcw_69,ocw_69+i,none⟩)) kj kj (fun W=>(Qa6 79 _ _ .i64 i gcw_69 ocw_69 ((((w64 b).map wv).take 64).length) c9 76 a9 _ haw_69 rfl rfl kj kj kj kj (Nat.lt_of_lt_of_eq (show i<64 by omega) hnw_69.symm))) ?_
      refine QaK (Qam _) (.int .u32 (wv (wget (w64 b) i))) kj kj (fun W hR=>(Qak 76 _ _ (.int .u32 (wv (wget (w64 b) i))) (((Below.cell (Rely.Ext.trans (Qax _) hR) hlw_69).trans (hcw_69 i (Nat.lt_of_lt_of_eq (show i<64 by omega) hnw_69.symm))).trans (congrArg (fun z=>some (Value.int .u32 z)) (Qdd (w64 b) 64 i hlt133))) rfl kj kj)) ?_
      refine QcZ (hF _ fun W13 e13=>?_)
      simp only [List.nil_append,List.cons_append,List.take_succ_cons,List.take_zero,List.drop_succ_cons,List.drop_zero,finE,up]
      clear hF
      have x13:Ext w W13:=Ext.tr xx5 e13
      refine Qaa (.int .u32 (wv (((((((((rnds KK (w64 b) s i).h)+((((((rr ((rnds KK (w64 b) s i).e) 6))^^^((rr ((rnds KK (w64 b) s i).e) 11))))^^^((rr ((rnds KK (w64 b) s i).e) 25))))))+((((((rnds KK (w64 b) s i).e)&&&((rnds KK (w64 b) s i).f)))^^^((((~~~((rnds KK (w64 b) s i).e)))&&&((rnds KK (w64 b) s i).g)))))))+((wget KK i))))+((wget (w64 b) i))))) 172 rfl kj (Qai (u:=.int .u32 (IntKind.u32.wrap (wv (((((((rnds KK (w64 b) s i).h)+((((((rr ((rnds KK (w64 b) s i).e) 6))^^^((rr ((rnds KK (w64 b) s i).e) 11))))^^^((rr ((rnds KK (w64 b) s i).e) 25))))))+((((((rnds KK (w64 b) s i).e)&&&((rnds KK (w64 b) s i).f)))^^^((((~~~((rnds KK (w64 b) s i).e)))&&&((rnds KK (w64 b) s i).g)))))))+((wget KK i)))+wv (wget (w64 b) i)))) kj (congrArg (Value.int .u32) (QbT _ _))) ?_
      refine Qaa (.int .u32 (wv (((((((((rnds KK (w64 b) s i).h)+((((((rr ((rnds KK (w64 b) s i).e) 6))^^^((rr ((rnds KK (w64 b) s i).e) 11))))^^^((rr ((rnds KK (w64 b) s i).e) 25))))))+((((((rnds KK (w64 b) s i).e)&&&((rnds KK (w64 b) s i).f)))^^^((((~~~((rnds KK (w64 b) s i).e)))&&&((rnds KK (w64 b) s i).g)))))))+((wget KK i))))+((wget (w64 b) i))))) 17 rfl kj kj ?_
      refine Qaf ?_
      refine hK77 _ _ ?_
      refine wp_seq_k fun K78 hK78=>?_
      refine QaX 28 [⟨none,[(15,none)]⟩,⟨none,[(173,some 0)]⟩,⟨none,[(174,some 1)]⟩,⟨none,[(15,none)]⟩,⟨none,[(176,some 3)]⟩,⟨none,[(177,some 4)]⟩,⟨none,[(175,some 2),(178,some 5)]⟩,⟨none,[(15,none)]⟩,⟨none,[(180,some 7)]⟩,⟨none,[(181,some 8)]⟩,⟨none,[(179,some 6),(182,some 9)]⟩,⟨none,[(15,none)]⟩,⟨none,[(184,some 11)]⟩,⟨none,[(15,none)]⟩,⟨none,[(186,some 13)]⟩,⟨none,[(185,some 12),(187,some 14)]⟩,⟨none,[(15,none)]⟩,⟨none,[(189,some 16)]⟩,⟨none,[(15,none)]⟩,⟨none,[(191,some 18)]⟩,⟨none,[(190,some 17),(192,some 19)]⟩,⟨none,[(188,some 15),(193,some 20)]⟩,⟨none,[(15,none)]⟩,⟨none,[(195,some 22)]⟩,⟨none,[(15,none)]⟩,⟨none,[(197,some 24)]⟩,⟨none,[(196,some 23),(198,some 25)]⟩,⟨none,[(194,some 21),(199,some 26)]⟩] kj kj fun F hF=>?_
      refine Qaz (Qam _) (.pointer (some ⟨g62,0,none⟩)) kj kj (fun W=>by kernel_rfl) ?_
      have r62_13:=(Qah q62_5 e13)
      refine QaK (Qam _) (.int .u32 (wv (rnds KK (w64 b) s i).a)) kj kj (fun W hR=>(Qag 76 _ g62 0 77 _ (.int .u32 (wv (rnds KK (w64 b) s i).a)) _ (Qah (Qah r62_13 (Qax _)) hR) rfl kj kj kj)) ?_
      refine QcP (Qam _) (.int .u32 (wv (rr ((rnds KK (w64 b) s i).a) 2))) 56 #[.int .u32 (wv (rnds KK (w64 b) s i).a),.int .u64 2] kj kj (fun W=>by kernel_rfl) (fun W hR=>(Qe1 ((rnds KK (w64 b) s i).a) 2 (2) (by decide) (by decide) (by decide)) W) ?_
      refine Qaz (Qam _) (.pointer (some ⟨g62,0,none⟩)) kj kj (fun W=>by kernel_rfl) ?_
      refine QaK (Qam _) (.int .u32 (wv (rnds KK (w64 b) s i).a)) kj kj (fun W hR=>(Qag 76 _ g62 0 77 _ (.int .u32 (wv (rnds KK (w64 b) s i).a)) _ (Qah (Qah r62_13 (Qax _)) hR) rfl kj kj kj)) ?_
      refine QcP (Qam _) (.int .u32 (wv (rr ((rnds KK (w64 b) s i).a) 13))) 56 #[.int .u32 (wv (rnds KK (w64 b) s i).a),.int .u64 13] kj kj (fun W=>by kernel_rfl) (fun W hR=>(Qe1 ((rnds KK (w64 b) s i).a) 13 (13) (by decide) (by decide) (by decide)) W) ?_
      refine Qaz (Qam _) (.int .u32 (wv (((rr ((rnds KK (w64 b) s i).a) 2))^^^((rr ((rnds KK (w64 b) s i).a) 13))))) kj kj (fun W=>(Qai (u:=.int .u32 (bits .xor .u32 (wv (rr ((rnds KK (w64 b) s i).a) 2)) (wv (rr ((rnds KK (w64 b) s i).a) 13)))) kj (congrArg (Value.int .u32) (w_xor _ _)))) ?_
      refine Qaz (Qam _) (.pointer (some ⟨g62,0,none⟩)) kj kj (fun W=>by kernel_rfl) ?_
      refine QaK (Qam _) (.int .u32 (wv (rnds KK (w64 b) s i).a)) kj kj (fun W hR=>(Qag 76 _ g62 0 77 _ (.int .u32 (wv (rnds KK (w64 b) s i).a)) _ (Qah (Qah r62_13 (Qax _)) hR) rfl kj kj kj)) ?_
      refine QcP (Qam _) (.int .u32 (wv (rr ((rnds KK (w64 b) s i).a) 22))) 56 #[.int .u32 (wv (rnds KK (w64 b) s i).a),.int .u64 22] kj kj (fun W=>by kernel_rfl) (fun W hR=>(Qe1 ((rnds KK (w64 b) s i).a) 22 (22) (by decide) (by decide) (by decide)) W) ?_
      refine Qaz (Qam _) (.int .u32 (wv (((((rr ((rnds KK (w64 b) s i).a) 2))^^^((rr ((rnds KK (w64 b) s i).a) 13))))^^^((rr ((rnds KK (w64 b) s i).a) 22))))) kj kj (fun W=>(Qai (u:=.int .u32 (bits .xor .u32 (wv (((rr ((rnds KK (w64 b) s i).a) 2))^^^((rr ((rnds KK (w64 b) s i).a) 13)))) (wv (rr ((rnds KK (w64 b) s i).a) 22)))) kj (congrArg (Value.int .u32) (w_xor _ _)))) ?_
      refine Qaz (Qam _) (.pointer (some ⟨g62,0,none⟩)) kj kj (fun W=>by kernel_rfl) ?_
      refine QaK (Qam _) (.int .u32 (wv (rnds KK (w64 b) s i).a)) kj kj (fun W hR=>(Qag 76 _ g62 0 77 _ (.int .u32 (wv (rnds KK (w64 b) s i).a)) _ (Qah (Qah r62_13 (Qax _)) hR) rfl kj kj kj)) ?_
      refine Qaz (Qam _) (.pointer (some ⟨g62,1,none⟩)) kj kj (fun W=>by kernel_rfl) ?_
      refine QaK (Qam _) (.int .u32 (wv (rnds KK (w64 b) s i).b)) kj kj (fun W hR=>(Qag 76 _ g62 1 77 _ (.int .u32 (wv (rnds KK (w64 b) s i).b)) _ (Qah (Qah r62_13 (Qax _)) hR) rfl kj kj kj)) ?_
      refine Qaz (Qam _) (.int .u32 (wv (((rnds KK (w64 b) s i).a)&&&((rnds KK (w64 b) s i).b)))) kj kj (fun W=>(Qai (u:=.int .u32 (bits .and .u32 (wv ((rnds KK (w64 b) s i).a)) (wv ((rnds KK (w64 b) s i).b)))) kj (congrArg (Value.int .u32) (Qe0 _ _)))) ?_
      refine Qaz (Qam _) (.pointer (some ⟨g62,0,none⟩)) kj kj (fun W=>by kernel_rfl) ?_
      refine QaK (Qam _) (.int .u32 (wv (rnds KK (w64 b) s i).a)) kj kj (fun W hR=>(Qag 76 _ g62 0 77 _ (.int .u32 (wv (rnds KK (w64 b) s i).a)) _ (Qah (Qah r62_13 (Qax _)) hR) rfl kj kj kj)) ?_
      refine Qaz (Qam _) (.pointer (some ⟨g62,2,none⟩)) kj kj (fun W=>by kernel_rfl) ?_
      refine QaK (Qam _) (.int .u32 (wv (rnds KK (w64 b) s i).c)) kj kj (fun W hR=>(Qag 76 _ g62 2 77 _ (.int .u32 (wv (rnds KK (w64 b) s i).c)) _ (Qah (Qah r62_13 (Qax _)) hR) rfl kj kj kj)) ?_
      refine Qaz (Qam _) (.int .u32 (wv (((rnds KK (w64 b) s i).a)&&&((rnds KK (w64 b) s i).c)))) kj kj (fun W=>(Qai (u:=.int .u32 (bits .and .u32 (wv ((rnds KK (w64 b) s i).a)) (wv ((rnds KK (w64 b) s i).c)))) kj (congrArg (Value.int .u32) (Qe0 _ _)))) ?_
      refine Qaz (Qam _) (.int .u32 (wv (((((rnds KK (w64 b) s i).a)&&&((rnds KK (w64 b) s i).b)))^^^((((rnds KK (w64 b) s i).a)&&&((rnds KK (w64 b) s i).c)))))) kj kj (fun W=>(Qai (u:=.int .u32 (bits .xor .u32 (wv (((rnds KK (w64 b) s i).a)&&&((rnds KK (w64 b) s i).b))) (wv (((rnds KK (w64 b) s i).a)&&&((rnds KK (w64 b) s i).c))))) kj (congrArg (Value.int .u32) (w_xor _ _)))) ?_
      refine Qaz (Qam _) (.pointer (some ⟨g62,1,none⟩)) kj kj (fun W=>by kernel_rfl) ?_
      refine QaK (Qam _) (.int .u32 (wv (rnds KK (w64 b) s i).b)) kj kj (fun W hR=>(Qag 76 _ g62 1 77 _ (.int .u32 (wv (rnds KK (w64 b) s i).b)) _ (Qah (Qah r62_13 (Qax _)) hR) rfl kj kj kj)) ?_
      refine Qaz (Qam _) (.pointer (some ⟨g62,2,none⟩)) kj kj (fun W=>by kernel_rfl) ?_
      refine QaK (Qam _) (.int .u32 (wv (rnds KK (w64 b) s i).c)) kj kj (fun W hR=>(Qag 76 _ g62 2 77 _ (.int .u32 (wv (rnds KK (w64 b) s i).c)) _ (Qah (Qah r62_13 (Qax _)) hR) rfl kj kj kj)) ?_
      refine Qaz (Qam _) (.int .u32 (wv (((rnds KK (w64 b) s i).b)&&&((rnds KK (w64 b) s i).c)))) kj kj (fun W=>(Qai (u:=.int .u32 (bits .and .u32 (wv ((rnds KK (w64 b) s i).b)) (wv ((rnds KK (w64 b) s i).c)))) kj (congrArg (Value.int .u32) (Qe0 _ _)))) ?_
      refine Qaz (Qam _) (.int .u32 (wv (((((((rnds KK (w64 b) s i).a)&&&((rnds KK (w64 b) s i).b)))^^^((((rnds KK (w64 b) s i).a)&&&((rnds KK (w64 b) s i).c)))))^^^((((rnds KK (w64 b) s i).b)&&&((rnds KK (w64 b) s i).c)))))) kj kj (fun W=>(Qai (u:=.int .u32 (bits .xor .u32 (wv (((((rnds KK (w64 b) s i).a)&&&((rnds KK (w64 b) s i).b)))^^^((((rnds KK (w64 b) s i).a)&&&((rnds KK (w64 b) s i).c))))) (wv (((rnds KK (w64 b) s i).b)&&&((rnds KK (w64 b) s i).c))))) kj (congrArg (Value.int .u32) (w_xor _ _)))) ?_
      refine QcZ (hF _ fun W14 e14=>?_)
      simp only [List.nil_append,List.cons_append,List.take_succ_cons,List.take_zero,List.drop_succ_cons,List.drop_zero,finE,up]
      clear hF
      have x14:Ext w W14:=Ext.tr x13 e14
      refine Qaa (.int .u32 (wv (((((((rr ((rnds KK (w64 b) s i).a) 2))^^^((rr ((rnds KK (w64 b) s i).a) 13))))^^^((rr ((rnds KK (w64 b) s i).a) 22))))+((((((((rnds KK (w64 b) s i).a)&&&((rnds KK (w64 b) s i).b)))^^^((((rnds KK (w64 b) s i).a)&&&((rnds KK (w64 b) s i).c)))))^^^((((rnds KK (w64 b) s i).b)&&&((rnds KK (w64 b) s i).c)))))))) 201 rfl kj (Qai (u:=.int .u32 (IntKind.u32.wrap (wv (((((rr ((rnds KK (w64 b) s i).a) 2))^^^((rr ((rnds KK (w64 b) s i).a) 13))))^^^((rr ((rnds KK (w64 b) s i).a) 22)))+wv (((((((rnds KK (w64 b) s i).a)&&&((rnds KK (w64 b) s i).b)))^^^((((rnds KK (w64 b) s i).a)&&&((rnds KK (w64 b) s i).c)))))^^^((((rnds KK (w64 b) s i).b)&&&((rnds KK (w64 b) s i).c))))))) kj (congrArg (Value.int .u32) (QbT _ _))) ?_
      refine Qaa (.int .u32 (wv (((((((rr ((rnds KK (w64 b) s i).a) 2))^^^((rr ((rnds KK (w64 b) s i).a) 13))))^^^((rr ((rnds KK (w64 b) s i).a) 22))))+((((((((rnds KK (w64 b) s i).a)&&&((rnds KK (w64 b) s i).b)))^^^((((rnds KK (w64 b) s i).a)&&&((rnds KK (w64 b) s i).c)))))^^^((((rnds KK (w64 b) s i).b)&&&((rnds KK (w64 b) s i).c)))))))) 18 rfl kj kj ?_
      refine Qaf ?_
      refine hK78 _ _ ?_
      refine wp_seq_k fun K79 hK79=>?_
      refine wp_seq_k fun K80 hK80=>?_
      refine Qab ?_
      refine Qaa (.int .i64 7) 19 rfl kj kj ?_
      refine Qaf ?_
      refine hK80 _ _ ?_
      refine wp_block ?_
      have r62_14:=(Qah r62_13 e14)
      refine Qa0 (fun (s6:Nat)=>[(2,.pointer (some ⟨g2,0,none⟩)),(4,.pointer (some ⟨g7,0,none⟩)),(6,.slice am17 ((KK.map wv).length) cm17),(7,.slice am20 ((padT t).length) cm20),(8,.int .i64 ((64*m:Nat):Int)),(9,.slice a9 ((((w64 b).map wv).take 64).length) c9),(15,.pointer (some ⟨g62,0,none⟩)),(16,.int .i64 ((i:Nat):Int)),(17,.int .u32 (wv (((((((((rnds KK (w64 b) s i).h)+((((((rr ((rnds KK (w64 b) s i).e) 6))^^^((rr ((rnds KK (w64 b) s i).e) 11))))^^^((rr ((rnds KK (w64 b) s i).e) 25))))))+((((((rnds KK (w64 b) s i).e)&&&((rnds KK (w64 b) s i).f)))^^^((((~~~((rnds KK (w64 b) s i).e)))&&&((rnds KK (w64 b) s i).g)))))))+((wget KK i))))+((wget (w64 b) i))))),(18,.int .u32 (wv (((((((rr ((rnds KK (w64 b) s i).a) 2))^^^((rr ((rnds KK (w64 b) s i).a) 13))))^^^((rr ((rnds KK (w64 b) s i).a) 22))))+((((((((rnds KK (w64 b) s i).a)&&&((rnds KK (w64 b) s i).b)))^^^((((rnds KK (w64 b) s i).a)&&&((rnds KK (w64 b) s i).c)))))^^^((((rnds KK (w64 b) s i).b)&&&((rnds KK (w64 b) s i).c)))))))),(19,.int .i64 ((s6:Nat):Int))]) (fun (s6:Nat) W=>(s6≤7)∧(W.heap[g62]? = some (.cells (ints .u32 (shf [wv (rnds KK (w64 b) s i).a,wv (rnds KK (w64 b) s i).b,wv (rnds KK (w64 b) s i).c,wv (rnds KK (w64 b) s i).d,wv (rnds KK (w64 b) s i).e,wv (rnds KK (w64 b) s i).f,wv (rnds KK (w64 b) s i).g,wv (rnds KK (w64 b) s i).h] s6)) 77))∧(Qa8 [g62] W14 W)∧(Ext w W)) (fun (s6:Nat)=>s6) 7 ⟨rfl,rfl,rfl,rfl,rfl,rfl,rfl,rfl,rfl,rfl,rfl,trivial⟩ ⟨(qR _),(Qba r62_14 (show _=shf _ 7 from rfl)),(Qa8.refl [g62] W14),x14⟩ fun s6 X6 V6 hI6=>?_
      obtain ⟨j,hs6⟩:∃ z,z=s6:=⟨_,rfl⟩
      subst hs6
      obtain ⟨hj,q62_6,kk6,xx6⟩:=hI6
      replace hj:j≤7:=hj
      replace q62_6:V6.heap[g62]? = some (.cells (ints .u32 (shf [wv (rnds KK (w64 b) s i).a,wv (rnds KK (w64 b) s i).b,wv (rnds KK (w64 b) s i).c,wv (rnds KK (w64 b) s i).d,wv (rnds KK (w64 b) s i).e,wv (rnds KK (w64 b) s i).f,wv (rnds KK (w64 b) s i).g,wv (rnds KK (w64 b) s i).h] j)) 77):=q62_6
      replace kk6:Qa8 [g62] W14 V6:=kk6
      replace xx6:Ext w V6:=xx6
      have q15:=kk6
      refine wp_seq_k fun K81 hK81=>?_
      refine wp_seq_k fun K82 hK82=>?_
      refine Qab ?_
      refine Qaa (.int .i64 ((j:Nat):Int)) 202 rfl kj kj ?_
      refine Qaa (.bool (decide (((j:Nat):Int)>0))) 203 rfl kj kj ?_
      refine Qaf ?_
      refine hK82 _ _ ?_
      refine Qar (t:=decide (((j:Nat):Int)>0)) kj (fun c83=>?_) (fun c83=>?_)
      ·skip
       have hj0:0<j:=by have:=of_decide_eq_true c83; omega
       refine wp_skip ?_
       refine hK81 _ _ ?_
       refine wp_seq_k fun K84 hK84=>?_
       refine wp_block ?_
       refine Qab ?_
       refine Qaa (.int .i64 ((j:Nat):Int)) 206 rfl kj kj ?_
       refine Qaa (.int .i64 ((j:Nat):Int)) 207 rfl kj kj ?_
       refine Qaa (.int .i64 (((j-1:Nat):Int))) 208 rfl kj (Qai (u:=.int .i64 (IntKind.i64.wrap (((j:Nat):Int)-1))) kj (congrArg (Value.int .i64) (i64n _ _ (by omega) (by omega)))) ?_
       refine Qaa (.pointer (some ⟨g62,j-1,none⟩)) 209 rfl kj (QaR _ _ _ .i64 (j-1) _ 8 76 rfl kj kj kj kj (by omega)) ?_
       refine Qaa (.int .u32 (nth (shf [wv (rnds KK (w64 b) s i).a,wv (rnds KK (w64 b) s i).b,wv (rnds KK (w64 b) s i).c,wv (rnds KK (w64 b) s i).d,wv (rnds KK (w64 b) s i).e,wv (rnds KK (w64 b) s i).f,wv (rnds KK (w64 b) s i).g,wv (rnds KK (w64 b) s i).h] j) (j-1))) 210 rfl kj (Qag 76 _ g62 (j-1) 77 _ (.int .u32 (nth (shf [wv (rnds KK (w64 b) s i).a,wv (rnds KK (w64 b) s i).b,wv (rnds KK (w64 b) s i).c,wv (rnds KK (w64 b) s i).d,wv (rnds KK (w64 b) s i).e,wv (rnds KK (w64 b) s i).f,wv (rnds KK (w64 b) s i).g,wv (rnds KK (w64 b) s i).h] j) (j-1))) _ q62_6 rfl kj (QaU _ _ _ (Nat.lt_of_lt_of_eq (by omega) (Qh0 hj).symm)) kj) ?_
       refine Qaa (.pointer (some ⟨g62,j,none⟩)) 211 rfl kj (QaR _ _ _ .i64 (j) _ 8 76 rfl kj kj kj kj (by omega)) ?_
       refine Qau g62 _ (ints .u32 ((shf [wv (rnds KK (w64 b) s i).a,wv (rnds KK (w64 b) s i).b,wv (rnds KK (w64 b) s i).c,wv (rnds KK (w64 b) s i).d,wv (rnds KK (w64 b) s i).e,wv (rnds KK (w64 b) s i).f,wv (rnds KK (w64 b) s i).g,wv (rnds KK (w64 b) s i).h] j).set j (nth (shf [wv (rnds KK (w64 b) s i).a,wv (rnds KK (w64 b) s i).b,wv (rnds KK (w64 b) s i).c,wv (rnds KK (w64 b) s i).d,wv (rnds KK (w64 b) s i).e,wv (rnds KK (w64 b) s i).f,wv (rnds KK (w64 b) s i).g,wv (rnds KK (w64 b) s i).h] j) (j-1)))) 77 q62_6 rfl kj (Qbe 76 _ _ g62 j 77 _ _ q62_6 rfl kj kj kj (Nat.lt_of_lt_of_eq (by omega) (Qh0 hj).symm)) fun W16 p16 r62_16=>?_
       have x16:Ext w W16:=Puts.ext p16 xx6 b62
       refine Qaf ?_
       refine hK84 _ _ ?_
       refine Qab ?_
       refine Qaa (.int .i64 ((j:Nat):Int)) 204 rfl kj kj ?_
       refine Qaa (.int .i64 (((j-1:Nat):Int))) 205 rfl kj (Qai (u:=.int .i64 (IntKind.i64.wrap (((j:Nat):Int)-1))) kj (congrArg (Value.int .i64) (i64n _ _ (by omega) (by omega)))) ?_
       refine Qaa (.int .i64 (((j-1:Nat):Int))) 19 rfl kj kj ?_
       refine Qaf ?_
       repeat (first | with_reducible refine goX1 ?_ | with_reducible refine goX2 ?_ | with_reducible refine goX3 ?_)
       exact Qat (j-1) ⟨rfl,rfl,rfl,rfl,rfl,rfl,rfl,rfl,rfl,rfl,rfl,trivial⟩ ⟨(by omega),(Qba r62_16 (Qkp hj0 hj)),(Qa8.puts q15 p16 (.inl (by simp))),x16⟩ (by show j-1<j; omega)
      ·skip
       have hj0:j=0:=by have:=of_decide_eq_false c83; omega
       have r62_15_85:V6.heap[g62]? = some (.cells (ints .u32 ([wv (rnds KK (w64 b) s i).a,wv (rnds KK (w64 b) s i).a,wv (rnds KK (w64 b) s i).b,wv (rnds KK (w64 b) s i).c,wv (rnds KK (w64 b) s i).d,wv (rnds KK (w64 b) s i).e,wv (rnds KK (w64 b) s i).f,wv (rnds KK (w64 b) s i).g])) 77):=Qba q62_6 (by rw [hj0]; rfl)
       refine wp_exit ?_
       refine hK79 _ _ ?_
       refine wp_seq_k fun K86 hK86=>?_
       refine Qab ?_
       refine Qaa (.pointer (some ⟨g62,4,none⟩)) 212 rfl kj kj ?_
       refine Qaa (.int .u32 (wv (rnds KK (w64 b) s i).d)) 213 rfl kj (Qag 76 _ g62 4 77 _ (.int .u32 (wv (rnds KK (w64 b) s i).d)) _ r62_15_85 rfl kj kj kj) ?_
       refine Qaa (.int .u32 (wv (((((((((rnds KK (w64 b) s i).h)+((((((rr ((rnds KK (w64 b) s i).e) 6))^^^((rr ((rnds KK (w64 b) s i).e) 11))))^^^((rr ((rnds KK (w64 b) s i).e) 25))))))+((((((rnds KK (w64 b) s i).e)&&&((rnds KK (w64 b) s i).f)))^^^((((~~~((rnds KK (w64 b) s i).e)))&&&((rnds KK (w64 b) s i).g)))))))+((wget KK i))))+((wget (w64 b) i))))) 214 rfl kj kj ?_
       refine Qaa (.int .u32 (wv (((rnds KK (w64 b) s i).d)+((((((((((rnds KK (w64 b) s i).h)+((((((rr ((rnds KK (w64 b) s i).e) 6))^^^((rr ((rnds KK (w64 b) s i).e) 11))))^^^((rr ((rnds KK (w64 b) s i).e) 25))))))+((((((rnds KK (w64 b) s i).e)&&&((rnds KK (w64 b) s i).f)))^^^((((~~~((rnds KK (w64 b) s i).e)))&&&((rnds KK (w64 b) s i).g)))))))+((wget KK i))))+((wget (w64 b) i))))))) 215 rfl kj (Qai (u:=.int .u32 (IntKind.u32.wrap (wv ((rnds KK (w64 b) s i).d)+wv (((((((((rnds KK (w64 b) s i).h)+((((((rr ((rnds KK (w64 b) s i).e) 6))^^^((rr ((rnds KK (w64 b) s i).e) 11))))^^^((rr ((rnds KK (w64 b) s i).e) 25))))))+((((((rnds KK (w64 b) s i).e)&&&((rnds KK (w64 b) s i).f)))^^^((((~~~((rnds KK (w64 b) s i).e)))&&&((rnds KK (w64 b) s i).g)))))))+((wget KK i))))+((wget (w64 b) i)))))) kj (congrArg (Value.int .u32) (QbT _ _))) ?_
       refine Qaa (.pointer (some ⟨g62,4,none⟩)) 216 rfl kj kj ?_
       refine Qau g62 _ (ints .u32 ([wv (rnds KK (w64 b) s i).a,wv (rnds KK (w64 b) s i).a,wv (rnds KK (w64 b) s i).b,wv (rnds KK (w64 b) s i).c,(wv (((rnds KK (w64 b) s i).d)+((((((((((rnds KK (w64 b) s i).h)+((((((rr ((rnds KK (w64 b) s i).e) 6))^^^((rr ((rnds KK (w64 b) s i).e) 11))))^^^((rr ((rnds KK (w64 b) s i).e) 25))))))+((((((rnds KK (w64 b) s i).e)&&&((rnds KK (w64 b) s i).f)))^^^((((~~~((rnds KK (w64 b) s i).e)))&&&((rnds KK (w64 b) s i).g)))))))+((wget KK i))))+((wget (w64 b) i)))))),wv (rnds KK (w64 b) s i).e,wv (rnds KK (w64 b) s i).f,wv (rnds KK (w64 b) s i).g])) 77 r62_15_85 rfl kj (Qbe 76 _ _ g62 4 77 _ _ r62_15_85 rfl kj kj kj (show 4<8 by decide)) fun W16 p16 r62_16=>?_
       have x16:Ext w W16:=Puts.ext p16 xx6 b62
       refine Qaf ?_
       refine hK86 _ _ ?_
       refine Qab ?_
       refine Qaa (.int .u32 (wv (((((((((rnds KK (w64 b) s i).h)+((((((rr ((rnds KK (w64 b) s i).e) 6))^^^((rr ((rnds KK (w64 b) s i).e) 11))))^^^((rr ((rnds KK (w64 b) s i).e) 25))))))+((((((rnds KK (w64 b) s i).e)&&&((rnds KK (w64 b) s i).f)))^^^((((~~~((rnds KK (w64 b) s i).e)))&&&((rnds KK (w64 b) s i).g)))))))+((wget KK i))))+((wget (w64 b) i))))) 217 rfl kj kj ?_
       refine Qaa (.int .u32 (wv (((((((rr ((rnds KK (w64 b) s i).a) 2))^^^((rr ((rnds KK (w64 b) s i).a) 13))))^^^((rr ((rnds KK (w64 b) s i).a) 22))))+((((((((rnds KK (w64 b) s i).a)&&&((rnds KK (w64 b) s i).b)))^^^((((rnds KK (w64 b) s i).a)&&&((rnds KK (w64 b) s i).c)))))^^^((((rnds KK (w64 b) s i).b)&&&((rnds KK (w64 b) s i).c)))))))) 218 rfl kj kj ?_
       refine Qaa (.int .u32 (wv (((((((((((rnds KK (w64 b) s i).h)+((((((rr ((rnds KK (w64 b) s i).e) 6))^^^((rr ((rnds KK (w64 b) s i).e) 11))))^^^((rr ((rnds KK (w64 b) s i).e) 25))))))+((((((rnds KK (w64 b) s i).e)&&&((rnds KK (w64 b) s i).f)))^^^((((~~~((rnds KK (w64 b) s i).e)))&&&((rnds KK (w64 b) s i).g)))))))+((wget KK i))))+((wget (w64 b) i))))+((((((((rr ((rnds KK (w64 b) s i).a) 2))^^^((rr ((rnds KK (w64 b) s i).a) 13))))^^^((rr ((rnds KK (w64 b) s i).a) 22))))+((((((((rnds KK (w64 b) s i).a)&&&((rnds KK (w64 b) s i).b)))^^^((((rnds KK (w64 b) s i).a)&&&((rnds KK (w64 b) s i).c)))))^^^((((rnds KK (w64 b) s i).b)&&&((rnds KK (w64 b) s i).c)))))))))) 219 rfl kj (Qai (u:=.int .u32 (IntKind.u32.wrap (wv (((((((((rnds KK (w64 b) s i).h)+((((((rr ((rnds KK (w64 b) s i).e) 6))^^^((rr ((rnds KK (w64 b) s i).e) 11))))^^^((rr ((rnds KK (w64 b) s i).e) 25))))))+((((((rnds KK (w64 b) s i).e)&&&((rnds KK (w64 b) s i).f)))^^^((((~~~((rnds KK (w64 b) s i).e)))&&&((rnds KK (w64 b) s i).g)))))))+((wget KK i))))+((wget (w64 b) i)))+wv (((((((rr ((rnds KK (w64 b) s i).a) 2))^^^((rr ((rnds KK (w64 b) s i).a) 13))))^^^((rr ((rnds KK (w64 b) s i).a) 22))))+((((((((rnds KK (w64 b) s i).a)&&&((rnds KK (w64 b) s i).b)))^^^((((rnds KK (w64 b) s i).a)&&&((rnds KK (w64 b) s i).c)))))^^^((((rnds KK (w64 b) s i).b)&&&((rnds KK (w64 b) s i).c))))))))) kj (congrArg (Value.int .u32) (QbT _ _))) ?_
       refine Qaa (.pointer (some ⟨g62,0,none⟩)) 220 rfl kj kj ?_
       refine Qau g62 _ (ints .u32 ([(wv (((((((((((rnds KK (w64 b) s i).h)+((((((rr ((rnds KK (w64 b) s i).e) 6))^^^((rr ((rnds KK (w64 b) s i).e) 11))))^^^((rr ((rnds KK (w64 b) s i).e) 25))))))+((((((rnds KK (w64 b) s i).e)&&&((rnds KK (w64 b) s i).f)))^^^((((~~~((rnds KK (w64 b) s i).e)))&&&((rnds KK (w64 b) s i).g)))))))+((wget KK i))))+((wget (w64 b) i))))+((((((((rr ((rnds KK (w64 b) s i).a) 2))^^^((rr ((rnds KK (w64 b) s i).a) 13))))^^^((rr ((rnds KK (w64 b) s i).a) 22))))+((((((((rnds KK (w64 b) s i).a)&&&((rnds KK (w64 b) s i).b)))^^^((((rnds KK (w64 b) s i).a)&&&((rnds KK (w64 b) s i).c)))))^^^((((rnds KK (w64 b) s i).b)&&&((rnds KK (w64 b) s i).c))))))))),wv (rnds KK (w64 b) s i).a,wv (rnds KK (w64 b) s i).b,wv (rnds KK (w64 b) s i).c,(wv (((rnds KK (w64 b) s i).d)+((((((((((rnds KK (w64 b) s i).h)+((((((rr ((rnds KK (w64 b) s i).e) 6))^^^((rr ((rnds KK (w64 b) s i).e) 11))))^^^((rr ((rnds KK (w64 b) s i).e) 25))))))+((((((rnds KK (w64 b) s i).e)&&&((rnds KK (w64 b) s i).f)))^^^((((~~~((rnds KK (w64 b) s i).e)))&&&((rnds KK (w64 b) s i).g)))))))+((wget KK i))))+((wget (w64 b) i)))))),wv (rnds KK (w64 b) s i).e,wv (rnds KK (w64 b) s i).f,wv (rnds KK (w64 b) s i).g])) 77 r62_16 rfl kj (Qbe 76 _ _ g62 0 77 _ _ r62_16 rfl kj kj kj (show 0<8 by decide)) fun W17 p17 r62_17=>?_
       have x17:Ext w W17:=Puts.ext p17 x16 b62
       refine Qaf ?_
       refine hK76 _ _ ?_
       refine Qab ?_
       refine Qaa (.int .i64 ((i:Nat):Int)) 134 rfl kj kj ?_
       refine Qaa (.int .i64 ((i+1:Nat):Int)) 135 rfl kj (Qai (u:=.int .i64 (IntKind.i64.wrap (((i:Nat):Int)+1))) kj (congrArg (Value.int .i64) (i64n _ _ (by omega) (by omega)))) ?_
       refine Qaa (.int .i64 ((i+1:Nat):Int)) 16 rfl kj kj ?_
       refine Qaf ?_
       repeat (first | with_reducible refine goX1 ?_ | with_reducible refine goX2 ?_ | with_reducible refine goX3 ?_)
       exact Qat (i+1) ⟨rfl,rfl,rfl,rfl,rfl,rfl,rfl,rfl,trivial⟩ ⟨(by omega),(Qba r62_17 (by rw [show rnds KK (w64 b) s (i+1)=rnd (wget KK i) (wget (w64 b) i) (rnds KK (w64 b) s i) from rfl]; generalize rnds KK (w64 b) s i=r; generalize wget KK i=kk; generalize wget (w64 b) i=ww; rfl)),(Qa8.puts (Qa8.puts (Qa8.keeps (Qa8.step (Qa8.step q12 e13) e14) q15 (Qek (.inl (by simp)) Qf5)) p16 (.inl (by simp))) p17 (.inl (by simp))),x17⟩ (by omega)
     ·skip
      have heq133:i=64:=by have:=of_decide_eq_false c75; omega
      have r62_12_87:V5.heap[g62]? = some (.cells (ints .u32 ([wv (rnds KK (w64 b) s 64).a,wv (rnds KK (w64 b) s 64).b,wv (rnds KK (w64 b) s 64).c,wv (rnds KK (w64 b) s 64).d,wv (rnds KK (w64 b) s 64).e,wv (rnds KK (w64 b) s 64).f,wv (rnds KK (w64 b) s 64).g,wv (rnds KK (w64 b) s 64).h])) 77):=Qba q62_5 (by rw [heq133])
      refine wp_exit ?_
      refine hK63 _ _ ?_
      refine wp_seq_k fun K88 hK88=>?_
      refine Qab ?_
      refine Qaa (.int .i64 0) 20 rfl kj kj ?_
      refine Qaf ?_
      refine hK88 _ _ ?_
      refine wp_block ?_
      have n15_4:g62≠g7:=(QfB r7_9 l62)
      obtain ⟨r,hr9⟩:∃ z,z=rnds KK (w64 b) s 64:=⟨_,rfl⟩
      have r62_12_89:V5.heap[g62]? = some (.cells (ints .u32 (r.l.map wv)) 77):=Qba r62_12_87 (by rw [hr9]; rfl)
      have r7_10:=(Qah r7_9 e10)
      have r7_11:=(Puts.row p11 r7_10 (Qay r7_9 l62))
      have r7_12:=(Qa8.row q12 r7_11 (Qbz (Qay r7_9 l62) Qb9))
      refine Qa0 (fun (s7:Nat)=>[(2,.pointer (some ⟨g2,0,none⟩)),(4,.pointer (some ⟨g7,0,none⟩)),(6,.slice am17 ((KK.map wv).length) cm17),(7,.slice am20 ((padT t).length) cm20),(8,.int .i64 ((64*m:Nat):Int)),(9,.slice a9 ((((w64 b).map wv).take 64).length) c9),(15,.pointer (some ⟨g62,0,none⟩)),(20,.int .i64 ((s7:Nat):Int))]) (fun (s7:Nat) W=>(s7≤8)∧(W.heap[g7]? = some (.cells (ints .u32 ((mixW s.l r.l s7).map wv)) 77))∧(Qa8 [g7] V5 W)∧(Ext w W)) (fun (s7:Nat)=>8-s7) 0 ⟨rfl,rfl,rfl,rfl,rfl,rfl,rfl,rfl,trivial⟩ ⟨(Nat.zero_le _),(Qba r7_12 (show _=(mixW s.l r.l 0).map wv from rfl)),(Qa8.refl [g7] V5),xx5⟩ fun s7 X7 V7 hI7=>?_
      obtain ⟨i,hs7⟩:∃ z,z=s7:=⟨_,rfl⟩
      subst hs7
      obtain ⟨hi,q7_7,kk7,xx7⟩:=hI7
      replace hi:i≤8:=hi
      replace q7_7:V7.heap[g7]? = some (.cells (ints .u32 ((mixW s.l r.l i).map wv)) 77):=q7_7
      replace kk7:Qa8 [g7] V5 V7:=kk7
      replace xx7:Ext w V7:=xx7
      have q13:=kk7
      refine wp_seq_k fun K90 hK90=>?_
      refine wp_seq_k fun K91 hK91=>?_
      refine Qab ?_
      refine Qaa (.int .i64 ((i:Nat):Int)) 221 rfl kj kj ?_
      refine Qaa (.bool (decide (((i:Nat):Int)<8))) 222 rfl kj kj ?_
      refine Qaf ?_
      refine hK91 _ _ ?_
      refine Qar (t:=decide (((i:Nat):Int)<8)) kj (fun c92=>?_) (fun c92=>?_)
      ·skip
       have hlt222:i<8:=by have:=of_decide_eq_true c92; omega
       refine wp_skip ?_
       refine hK90 _ _ ?_
       refine wp_seq_k fun K93 hK93=>?_
       refine wp_block ?_
       refine QaX 8 [⟨none,[(20,none)]⟩,⟨none,[(20,none)]⟩,⟨none,[(4,none),(226,some 1)]⟩,⟨none,[(227,some 2)]⟩,⟨none,[(20,none)]⟩,⟨none,[(15,none),(229,some 4)]⟩,⟨none,[(230,some 5)]⟩,⟨none,[(228,some 3),(231,some 6)]⟩] kj kj fun F hF=>?_
       refine Qaz (Qam _) (.int .i64 ((i:Nat):Int)) kj kj (fun W=>by kernel_rfl) ?_
       refine Qaz (Qam _) (.int .i64 ((i:Nat):Int)) kj kj (fun W=>by kernel_rfl) ?_
       refine Qaz (Qam _) (.pointer (some ⟨g7,i,none⟩)) kj kj (fun W=>(QaR _ _ _ .i64 (i) _ 8 76 rfl kj kj kj kj (by omega))) ?_
       refine QaK (Qam _) (.int .u32 (wv (wget s.l i))) kj kj (fun W hR=>(Qag 76 _ g7 i 77 _ (.int .u32 (wv (wget s.l i))) _ (Qah (Qah q7_7 (Qax _)) hR) rfl kj ((QaU _ _ _ (Nat.lt_of_lt_of_eq (by omega) (Qfb s r hi).symm)).trans (congrArg (fun z=>some (Value.int .u32 z)) (QhT s r hlt222))) kj)) ?_
       refine Qaz (Qam _) (.int .i64 ((i:Nat):Int)) kj kj (fun W=>by kernel_rfl) ?_
       refine Qaz (Qam _) (.pointer (some ⟨g62,i,none⟩)) kj kj (fun W=>(QaR _ _ _ .i64 (i) _ 8 76 rfl kj kj kj kj (by omega))) ?_
       have r62_13:=(Qa8.row q13 r62_12_89 (Qbz n15_4 Qb9))
       refine QaK (Qam _) (.int .u32 (wv (wget r.l i))) kj kj (fun W hR=>(Qag 76 _ g62 i 77 _ (.int .u32 (wv (wget r.l i))) _ (Qah (Qah r62_13 (Qax _)) hR) rfl kj ((QaU _ _ _ (Nat.lt_of_lt_of_eq (by omega) (show (r.l.map wv).length=8 from rfl).symm)).trans (congrArg (fun z=>some (Value.int .u32 z)) (QbG _ _))) kj)) ?_
       refine Qaz (Qam _) (.int .u32 (wv (((wget s.l i))+((wget r.l i))))) kj kj (fun W=>(Qai (u:=.int .u32 (IntKind.u32.wrap (wv (wget s.l i)+wv (wget r.l i)))) kj (congrArg (Value.int .u32) (QbT _ _)))) ?_
       refine QcZ (hF _ fun W14 e14=>?_)
       simp only [List.nil_append,List.cons_append,List.take_succ_cons,List.take_zero,List.drop_succ_cons,List.drop_zero,finE,up]
       clear hF
       have x14:Ext w W14:=Ext.tr xx7 e14
       refine Qaa (.pointer (some ⟨g7,i,none⟩)) 233 rfl kj (QaR _ _ _ .i64 (i) _ 8 76 rfl kj kj kj kj (by omega)) ?_
       have r7_14:=(Qah q7_7 e14)
       refine Qau g7 _ (ints .u32 (((mixW s.l r.l i).map wv).set i (wv (((wget s.l i))+((wget r.l i)))))) 77 r7_14 rfl kj (Qbe 76 _ _ g7 i 77 _ _ r7_14 rfl kj kj kj (Nat.lt_of_lt_of_eq (by omega) (Qfb s r hi).symm)) fun W15 p15 r7_15=>?_
       have x15:Ext w W15:=Puts.ext p15 x14 b7
       refine Qaf ?_
       refine hK93 _ _ ?_
       refine Qab ?_
       refine Qaa (.int .i64 ((i:Nat):Int)) 223 rfl kj kj ?_
       refine Qaa (.int .i64 ((i+1:Nat):Int)) 224 rfl kj (Qai (u:=.int .i64 (IntKind.i64.wrap (((i:Nat):Int)+1))) kj (congrArg (Value.int .i64) (i64n _ _ (by omega) (by omega)))) ?_
       refine Qaa (.int .i64 ((i+1:Nat):Int)) 20 rfl kj kj ?_
       refine Qaf ?_
       repeat (first | with_reducible refine goX1 ?_ | with_reducible refine goX2 ?_ | with_reducible refine goX3 ?_)
       exact Qat (i+1) ⟨rfl,rfl,rfl,rfl,rfl,rfl,rfl,rfl,trivial⟩ ⟨(by omega),(Qba r7_15 (QhS s r hlt222)),(Qa8.puts (Qa8.step q13 e14) p15 (.inl (by simp))),x15⟩ (by show 8-(i+1)<8-i; omega)
      ·skip
       have heq222:i=8:=by have:=of_decide_eq_false c92; omega
       refine wp_exit ?_
       refine hK27 _ _ ?_
       refine Qab ?_
       refine Qaa (.int .i64 ((64*m:Nat):Int)) 43 rfl kj kj ?_
       refine Qaa (.int .i64 (((64*m)+64:Nat):Int)) 44 rfl kj (Qai (u:=.int .i64 (IntKind.i64.wrap (((64*m:Nat):Int)+64))) kj (congrArg (Value.int .i64) (i64n _ _ (by omega) (by omega)))) ?_
       refine Qaa (.int .i64 (((64*m)+64:Nat):Int)) 8 rfl kj kj ?_
       refine Qaf ?_
       repeat (first | with_reducible refine goX1 ?_ | with_reducible refine goX2 ?_ | with_reducible refine goX3 ?_)
       exact Qat (m+1) ⟨rfl,rfl,rfl,rfl,rfl,trivial⟩ ⟨(by omega),(Qba q7_7 (by rw [heq222]; subst hr9; subst hs; subst hb; rfl)),(Qa8.keeps (Qa8.keeps (Qa8.puts (Qa8.step (Qa8.low (Qa8.step q7 e8) l9 (qT (Qa8.size q7) (qR _))) e10) p11 (.inr (qT (Qa8.size q7) (qT (qT (qT (qR _) e8.size) l9.size) l62)))) q12 (Qek (.inr (qT (Qa8.size q7) (qT (qT (qT (qR _) e8.size) l9.size) l62))) Qf5)) q13 (Qek (.inl (by simp)) Qf5)),xx7⟩ (by omega)
  ·skip
   have heq42:m=q:=by have:=of_decide_eq_false c25; omega
   have r7_7_94:V2.heap[g7]? = some (.cells (ints .u32 ([wv (absorb S0 (padT t) q).a,wv (absorb S0 (padT t) q).b,wv (absorb S0 (padT t) q).c,wv (absorb S0 (padT t) q).d,wv (absorb S0 (padT t) q).e,wv (absorb S0 (padT t) q).f,wv (absorb S0 (padT t) q).g,wv (absorb S0 (padT t) q).h])) 77):=Qba q7_2 (by rw [heq42])
   refine wp_exit ?_
   refine hK21 _ _ ?_
   refine wp_seq_k fun K95 hK95=>?_
   refine Qab ?_
   refine Qan (ints .u8 (List.replicate 32 0)) 28 21 rfl kj kj fun g96 W8 l96 e8 r96_8=>?_
   have x8:Ext w W8:=Ext.tr xx2 e8
   have b96:w.heap.size≤g96:=qT xx2.size l96
   refine Qaf ?_
   refine hK95 _ _ ?_
   refine wp_seq_k fun K97 hK97=>?_
   refine wp_seq_k fun K98 hK98=>?_
   refine Qab ?_
   refine Qaa (.int .i64 0) 22 rfl kj kj ?_
   refine Qaf ?_
   refine hK98 _ _ ?_
   refine wp_block ?_
   obtain ⟨sQ,hsQ⟩:∃ z,z=absorb S0 (padT t) q:=⟨_,rfl⟩
   have r7_8:=(Qah r7_7_94 e8)
   have r7_8_99:W8.heap[g7]? = some (.cells (ints .u32 (sQ.l.map wv)) 77):=Qba r7_8 (by rw [hsQ]; rfl)
   refine Qa0 (fun (s8:Nat)=>[(2,.pointer (some ⟨g2,0,none⟩)),(4,.pointer (some ⟨g7,0,none⟩)),(21,.pointer (some ⟨g96,0,none⟩)),(22,.int .i64 ((s8:Nat):Int))]) (fun (s8:Nat) W=>(s8≤32)∧(W.heap[g96]? = some (.cells (ints .u8 (fill sQ.out 32 s8)) 28))∧(Qa8 [g96] W8 W)∧(Ext w W)) (fun (s8:Nat)=>32-s8) 0 ⟨rfl,rfl,rfl,rfl,trivial⟩ ⟨(Nat.zero_le _),(Qba r96_8 (Qdo sQ.out 32).symm),(Qa8.refl [g96] W8),x8⟩ fun s8 X8 V8 hI8=>?_
   obtain ⟨i,hs8⟩:∃ z,z=s8:=⟨_,rfl⟩
   subst hs8
   obtain ⟨hi,q96_8,kk8,xx8⟩:=hI8
   replace hi:i≤32:=hi
   replace q96_8:V8.heap[g96]? = some (.cells (ints .u8 (fill sQ.out 32 i)) 28):=q96_8
   replace kk8:Qa8 [g96] W8 V8:=kk8
   replace xx8:Ext w V8:=xx8
   have q9:=kk8
   refine wp_seq_k fun K100 hK100=>?_
   refine wp_seq_k fun K101 hK101=>?_
   refine Qab ?_
   refine Qaa (.int .i64 ((i:Nat):Int)) 234 rfl kj kj ?_
   refine Qaa (.bool (decide (((i:Nat):Int)<32))) 235 rfl kj kj ?_
   refine Qaf ?_
   refine hK101 _ _ ?_
   refine Qar (t:=decide (((i:Nat):Int)<32)) kj (fun c102=>?_) (fun c102=>?_)
   ·skip
    have hlt235:i<32:=by have:=of_decide_eq_true c102; omega
    refine wp_skip ?_
    refine hK100 _ _ ?_
    refine wp_seq_k fun K103 hK103=>?_
    refine wp_block ?_
    refine Qab ?_
    refine Qaa (.int .i64 ((i:Nat):Int)) 238 rfl kj kj ?_
    refine Qaa (.int .i64 ((i:Nat):Int)) 239 rfl kj kj ?_
    refine Qaa (.int .i64 ((i/4:Nat):Int)) 240 rfl kj (Qai (u:=.int .i64 (IntKind.i64.wrap (Int.tdiv (((i:Nat):Int)) (4)))) kj (congrArg (Value.int .i64) (Qb3 _ 4 (by omega)))) ?_
    refine Qaa (.pointer (some ⟨g7,i/4,none⟩)) 241 rfl kj (QaR _ _ _ .i64 (i/4) _ 8 76 rfl kj kj kj kj (by omega)) ?_
    have r7_9:=(Qa8.row q9 r7_8_99 (Qbz (Qay r7_7_94 l96) Qb9))
    refine Qaa (.int .u32 (wv (wget sQ.l (i/4)))) 242 rfl kj (Qag 76 _ g7 (i/4) 77 _ (.int .u32 (wv (wget sQ.l (i/4)))) _ r7_9 rfl kj ((QaU _ _ _ (Nat.lt_of_lt_of_eq (by omega) (show (sQ.l.map wv).length=8 from rfl).symm)).trans (congrArg (fun z=>some (Value.int .u32 z)) (QbG _ _))) kj) ?_
    refine Qaa (.int .i64 ((i:Nat):Int)) 243 rfl kj kj ?_
    refine Qaa (.int .i64 ((i%4:Nat):Int)) 244 rfl kj (Qai (u:=.int .i64 (Int.tmod (((i:Nat):Int)) (4))) kj (congrArg (Value.int .i64) (Qbl _ 4))) ?_
    refine Qaa (.int .i64 ((8*(i%4):Nat):Int)) 245 rfl kj (Qai (u:=.int .i64 (IntKind.i64.wrap (8*((i%4:Nat):Int)))) kj (congrArg (Value.int .i64) (i64n _ _ (by omega) (by omega)))) ?_
    refine Qaa (.int .i64 (((24-8*(i%4):Nat):Int))) 246 rfl kj (Qai (u:=.int .i64 (IntKind.i64.wrap (24-((8*(i%4):Nat):Int)))) kj (congrArg (Value.int .i64) (i64n _ _ (by omega) (by omega)))) ?_
    refine Qaa (.int .u64 (((24-8*(i%4):Nat):Int))) 247 rfl kj (Qai (u:=.int .u64 (IntKind.u64.wrap (((24-8*(i%4):Nat):Int)))) kj (congrArg (Value.int .u64) (by rw [show ∀ z:Int,IntKind.u64.wrap z=z%2^64 from fun _=>rfl]; omega))) ?_
    refine Qaa (.int .u32 (wv (wget sQ.l (i/4)>>>(24-8*(i%4))))) 248 rfl kj (Qbf .shr _ _ _ _ .u32 .u64 _ _ _ rfl kj kj (QcN _ _ _ _ _ _ (by omega) (Qfs _ _ (24-8*(i%4)) rfl (by omega)))) ?_
    refine Qaa (.int .u8 (nth sQ.out i)) 249 rfl kj (Qai (u:=.int .u8 (IntKind.u8.wrap (wv (wget sQ.l (i/4)>>>(24-8*(i%4)))))) kj (congrArg (Value.int .u8) (by have h9:=Qgv sQ (a:=i/4) (b:=i%4) (by omega) (by omega); rwa [show 4*(i/4)+i%4=i by omega] at h9))) ?_
    refine Qaa (.pointer (some ⟨g96,i,none⟩)) 250 rfl kj (QaR _ _ _ .i64 (i) _ 32 5 rfl kj kj kj kj (by omega)) ?_
    refine Qau g96 _ (ints .u8 ((fill sQ.out 32 i).set i (nth sQ.out i))) 28 q96_8 rfl kj (Qbe 5 _ _ g96 i 28 _ _ q96_8 rfl kj kj kj (Nat.lt_of_lt_of_eq (by omega) (Qbx (show sQ.out.length=32 from rfl) hi).symm)) fun W10 p10 r96_10=>?_
    have x10:Ext w W10:=Puts.ext p10 xx8 b96
    refine Qaf ?_
    refine hK103 _ _ ?_
    refine Qab ?_
    refine Qaa (.int .i64 ((i:Nat):Int)) 236 rfl kj kj ?_
    refine Qaa (.int .i64 ((i+1:Nat):Int)) 237 rfl kj (Qai (u:=.int .i64 (IntKind.i64.wrap (((i:Nat):Int)+1))) kj (congrArg (Value.int .i64) (i64n _ _ (by omega) (by omega)))) ?_
    refine Qaa (.int .i64 ((i+1:Nat):Int)) 22 rfl kj kj ?_
    refine Qaf ?_
    repeat (first | with_reducible refine goX1 ?_ | with_reducible refine goX2 ?_ | with_reducible refine goX3 ?_)
    exact Qat (i+1) ⟨rfl,rfl,rfl,rfl,trivial⟩ ⟨(by omega),(Qba r96_10 (QcJ (show sQ.out.length=32 from rfl) hlt235)),(Qa8.puts q9 p10 (.inl (by simp))),x10⟩ (by show 32-(i+1)<32-i; omega)
   ·skip
    have heq235:i=32:=by have:=of_decide_eq_false c102; omega
    have r96_9_104:V8.heap[g96]? = some (.cells (ints .u8 (sQ.out)) 28):=Qba q96_8 (by rw [heq235]; exact Qdp (show sQ.out.length=32 from rfl))
    refine wp_exit ?_
    refine hK97 _ _ ?_
    refine wp_seq_k fun K105 hK105=>?_
    refine Qab ?_
    refine Qaa (.agg (ints .u8 (sQ.out))) 251 rfl kj (Qa4 28 _ g96 28 _ _ r96_9_104 rfl kj kj (isz (n:=32) kj ((Qae _ _).trans (show sQ.out.length=32 from rfl)))) ?_
    have r2_2:=(Qah r2_1 e2)
    have r2_3:=(Qah r2_2 e3)
    have r2_4:=(Qa8.row q4 r2_3 (Qbz (Qay r2_2 l7) Qb9))
    have r2_5:=(Qah r2_4 e5)
    have r2_6:=(Qah r2_5 e6)
    have r2_7:=(Qa8.row q7 r2_6 (Qbz (Qay r2_2 l7) Qb9))
    have r2_8:=(Qah r2_7 e8)
    have r2_9:=(Qa8.row q9 r2_8 (Qbz (Qay r2_7 l96) Qb9))
    refine Qau g2 _ (ints .u8 (sQ.out)) 28 r2_9 rfl kj (Qas 28 _ _ g2 28 _ _ r2_9 rfl kj kj (isz (n:=32) kj ((Qae _ _).trans (show sQ.out.length=32 from rfl))) (eqsz (n:=32) ((Qae _ _).trans (qZ (n:=32))) ((Qae _ _).trans (show sQ.out.length=32 from rfl))) (Qaw _ _)) fun W10 p10 r2_10=>?_
    have x10:Ext w W10:=Puts.ext p10 xx8 b2
    refine Qaf ?_
    refine hK105 _ _ ?_
    refine wp_ret ?_
    repeat (first | with_reducible refine goR1 ?_ | with_reducible refine goR2 ?_)
    exact (show bodyPost _ _ _ .ret _ _ from ret1 (.agg (ints .u8 (sQ.out))) rfl (Qb8 g2 28 _ r2_10 kj kj (isz (n:=32) kj ((Qae _ _).trans (show sQ.out.length=32 from rfl)))) ⟨by rw [show dig t=sQ.out by unfold dig; rw [hq,Nat.mul_div_cancel_left _ (by decide),hsQ]],x10⟩)
end Go.Proofs.YthfkppjajmjpnaaDoor.Sha
end
section
namespace Go.Proofs.YthfkppjajmjpnaaDoor.Te
open Go Go.RowKit
open Rely Auto Own Seat Wk Sha
theorem QkM {x : Nat} (hx:x≤1000000) (h:x%2=0):lv ((x:Nat):Int)≤0:=by
  unfold lv
  rw [if_neg (by omega),Int.toNat_natCast,Qg1 x (by omega) h]; decide
theorem Qip {x : Nat} (hx:x≤1000000) (hl:lv ((x:Nat):Int)≤0):x%2=0:=by
  unfold lv at hl
  rw [if_neg (by omega),Int.toNat_natCast] at hl
  rcases Nat.mod_two_eq_zero_or_one x with h | h
  · exact h
  · rw [QhX x (by omega) h] at hl; omega
theorem Qfg {x : Nat} (hx:x≤1000000) (h:x%2=0):kidL ((x:Nat):Int)<0:=by
  unfold kidL
  rw [if_pos (QkM hx h)]; decide
theorem QkW : Qbp (fun n x=>decide (x%2=0) || decide (0≤kidL x))=true:=by decide +kernel
theorem QgH {x : Nat} {n:Int} (hn:Qa2 ((x:Nat):Int) n=true) (h:kidL ((x:Nat):Int)=-1):x%2=0:=by
  have:=QaJ QkW hn
  rw [h] at this
  simp only [Bool.or_eq_true,decide_eq_true_eq] at this
  omega
theorem Qhu {ts : List NdV} {wo:List Int} (ok0:∀ x,x<ts.length→NdOk (ndi ts x).n) (hmt:∀ i,i<ts.length→(ndi ts i).n.ms.length≤50):∀ k x,x<ts.length→Qav (txtN ts wo k x)∧(txtN ts wo k x).length≤400
  | 0,x,hx=>⟨Qeo (ok0 x hx),qT (Qci (ok0 x hx) (hmt x hx)) (by decide)⟩
  | k+1,x,hx=>by
    unfold txtN
    split
    · exact ⟨Qeo (ok0 x hx),qT (Qci (ok0 x hx) (hmt x hx)) (by decide)⟩
    · have h5:=QeZ (wo:=wo) (ok0 x hx)
      have hl:=Qb0 h5
      have hm:(QcT ts wo x).ms.length≤50:=qT (Qfk _ _) (hmt x hx)
      refine ⟨QcL (QcL (QcL (QfJ [2] (by decide)) (QbU h5)) (QcE _)) (QcE _),?_⟩
      simp only [List.length_append,QaE,hl,List.length_cons,List.length_nil]; omega
set_option maxRecDepth 100000 in
theorem Qgt (ts : List NdV) (a_t:Option Addr) (c_t B1:Nat) (htl:ts.length≤100000) (hmt:∀ i,i<ts.length→(ndi ts i).n.ms.length≤50) (L:Nat) (f:Form ts L) (ok0:∀ x,x<ts.length→NdOk (ndi ts x).n) (wo:List Int) (a_o:Option Addr) (c_o Bo:Nat) (w:World) (ht:TrAt B1 w a_t ts) (hol:wo.length≤1000000) (ho:RdK .i64 Bo wo (.slice a_o wo.length c_o) w) (k x:Nat) (hx:x<ts.length) (h2:x%2=0):Calls Tryd.prog 35 #[.slice a_t ts.length c_t,.int .i64 ((x:Nat):Int),.slice a_o wo.length c_o] w (QbK w (OwnN .u8 5 w.heap.size (txtN ts wo k x))):=by
 refine enter 81 [(0,.slice a_t ts.length c_t),(1,.int .i64 ((x:Nat):Int)),(2,.slice a_o wo.length c_o)] Tryd.func35 rfl rfl kj rfl ?_
 refine wp_seq_k fun K1 hK1=>?_
 refine Qab ?_
 refine Qaa (.slice none 0 0) 6 rfl kj kj ?_
 refine Qaf ?_
 refine hK1 _ _ ?_
 refine wp_seq_k fun K2 hK2=>?_
 refine Qab ?_
 refine Qaa (.slice a_t ts.length c_t) 15 rfl kj kj ?_
 refine Qaa (.int .i64 ((x:Nat):Int)) 16 rfl kj kj ?_
 obtain ⟨gtT,otT,hat,hnts⟩:=TrAt.ext ht (Rely.Ext.refl w)
 have hnt:=hnts x (by omega)
 obtain ⟨nt,ent⟩:∃ z,z=ndi ts x:=⟨_,rfl⟩
 rw [←ent] at hnt
 have okt:=hnt.ok
 have rdt:=hnt.rd
 refine Qaa (.pointer (some ⟨gtT,otT+x*99,none⟩)) 17 rfl kj (Qap 23 _ _ .i64 x gtT otT ts.length c_t 50 99 a_t (hat (by omega)) rfl kj kj kj kj (by omega)) ?_
 refine Qaa (.agg (cat [#[.bool nt.n.us],#[.int .i64 nt.n.nm],ints .u8 (nt.n.key),ints .u8 (nt.n.sg),ints .u8 (nt.n.pa),#[.slice nt.a nt.n.ms.length nt.c]])) 18 rfl kj (QaH 50 _ gtT (otT+x*99) nt hnt rfl kj kj kj) ?_
 refine Qan (cat [#[.bool false],#[.int .i64 0],ints .u8 (List.replicate 32 0),ints .u8 (List.replicate 32 0),ints .u8 (List.replicate 32 0),#[.slice none 0 0]]) 50 7 rfl kj kj fun g3 W1 l3 e1 r3_1=>?_
 have x1:Ext w W1:=Ext.tr (Rely.Ext.refl w) e1
 have b3:w.heap.size≤g3:=qT (Rely.Ext.refl w).size l3
 refine Qau g3 _ (cat [#[.bool nt.n.us],#[.int .i64 nt.n.nm],ints .u8 (nt.n.key),ints .u8 (nt.n.sg),ints .u8 (nt.n.pa),#[.slice nt.a nt.n.ms.length nt.c]]) 50 r3_1 rfl kj (Qas 50 _ _ g3 50 _ _ r3_1 rfl kj kj (isz (n:=99) kj (by rw [Qac,Qac,Qac,Qac,Qac,Qac]; simp only [qS,cat,((Qae _ _).trans okt.gl),((Qae _ _).trans okt.kl),((Qae _ _).trans okt.pl)]; rfl)) (eqsz (n:=99) (by rw [Qac,Qac,Qac,Qac,Qac,Qac]; simp only [qS,cat,((Qae _ _).trans (qZ (n:=32)))]; rfl) (by rw [Qac,Qac,Qac,Qac,Qac,Qac]; simp only [qS,cat,((Qae _ _).trans okt.gl),((Qae _ _).trans okt.kl),((Qae _ _).trans okt.pl)]; rfl)) (Qbm _ (by intro a ha; simp only [List.mem_cons,List.not_mem_nil,or_false] at ha; rcases ha with rfl | rfl | rfl | rfl | rfl | rfl; exact (Qa7 _ rfl); exact (Qa7 _ rfl); exact (Qaw _ _); exact (Qaw _ _); exact (Qaw _ _); exact (Qa7 _ rfl)))) fun W2 p2 r3_2=>?_
 have x2:Ext w W2:=Puts.ext p2 x1 b3
 refine Qaf ?_
 refine hK2 _ _ ?_
 refine wp_seq_k fun K4 hK4=>?_
 refine wp_seq_k fun K5 hK5=>?_
 refine Qab ?_
 refine Qaa (.int .i64 ((x:Nat):Int)) 19 rfl kj kj ?_
 refine Qaa (.int .i64 ((x%2:Nat):Int)) 20 rfl kj (Qai (u:=.int .i64 (Int.tmod (((x:Nat):Int)) (2))) kj (congrArg (Value.int .i64) (Qbl _ 2))) ?_
 refine Qaa (.bool true) 21 rfl kj (Qai (u:=.bool ((((x%2:Nat):Int)==0))) kj (congrArg Value.bool (beq_iff_eq.2 (by omega)))) ?_
 refine Qaf ?_
 refine hK5 _ _ ?_
 refine cond_true kj ?_
 refine wp_seq_k fun K6 hK6=>?_
 refine wp_seq_k fun K7 hK7=>?_
 by_cases hqm:((x/2:Nat):Int)∈wo
 ·skip
  refine Qab ?_
  refine Qaa (.int .i64 ((x:Nat):Int)) 22 rfl kj kj ?_
  refine Qaa (.int .i64 ((x/2:Nat):Int)) 23 rfl kj (Qai (u:=.int .i64 (IntKind.i64.wrap (Int.tdiv (((x:Nat):Int)) (2)))) kj (congrArg (Value.int .i64) (Qb3 _ 2 (by omega)))) ?_
  refine Qaa (.slice a_o wo.length c_o) 24 rfl kj kj ?_
  refine Qal (.bool true) 41 #[.int .i64 ((x/2:Nat):Int),.slice a_o wo.length c_o] 25 rfl kj kj (inRb wo (((x/2:Nat):Int)) a_o c_o _ _ hol (RdK.here (RdK.ext ho x2)) true (decide_eq_true hqm)) fun W3 e3=>?_
  have x3:Ext w W3:=Ext.tr x2 e3
  refine Qaf ?_
  refine hK7 _ _ ?_
  refine cond_true kj ?_
  refine Qab ?_
  refine Qaa (.agg (cat [#[.bool false],#[.int .i64 0],ints .u8 (List.replicate 32 0),ints .u8 (List.replicate 32 0),ints .u8 (List.replicate 32 0),#[.slice none 0 0]])) 26 rfl kj kj ?_
  have r3_3:=(Qah r3_2 e3)
  refine Qau g3 _ (cat [#[.bool false],#[.int .i64 0],ints .u8 (List.replicate 32 0),ints .u8 (List.replicate 32 0),ints .u8 (List.replicate 32 0),#[.slice none 0 0]]) 50 r3_3 rfl kj (Qas 50 _ _ g3 50 _ _ r3_3 rfl kj kj (isz (n:=99) kj (by rw [Qac,Qac,Qac,Qac,Qac,Qac]; simp only [qS,cat,((Qae _ _).trans (qZ (n:=32)))]; rfl)) (eqsz (n:=99) (by rw [Qac,Qac,Qac,Qac,Qac,Qac]; simp only [qS,cat,((Qae _ _).trans okt.gl),((Qae _ _).trans okt.kl),((Qae _ _).trans okt.pl)]; rfl) (by rw [Qac,Qac,Qac,Qac,Qac,Qac]; simp only [qS,cat,((Qae _ _).trans (qZ (n:=32)))]; rfl)) (Qbm _ (by intro a ha; simp only [List.mem_cons,List.not_mem_nil,or_false] at ha; rcases ha with rfl | rfl | rfl | rfl | rfl | rfl; exact (Qa7 _ rfl); exact (Qa7 _ rfl); exact (Qaw _ _); exact (Qaw _ _); exact (Qaw _ _); exact (Qa7 _ rfl)))) fun W4 p4 r3_4=>?_
  have x4:Ext w W4:=Puts.ext p4 x3 b3
  refine Qaf ?_
  refine hK6 _ _ ?_
  refine wp_seq_k fun K8 hK8=>?_
  refine Qab ?_
  refine Qaa (.int .i64 ((x:Nat):Int)) 27 rfl kj kj ?_
  refine Qaa (.int .i64 ((x/2:Nat):Int)) 28 rfl kj (Qai (u:=.int .i64 (IntKind.i64.wrap (Int.tdiv (((x:Nat):Int)) (2)))) kj (congrArg (Value.int .i64) (Qb3 _ 2 (by omega)))) ?_
  refine Qaa (.int .u8 (IntKind.u8.wrap ((x/2:Nat):Int))) 29 rfl kj kj ?_
  refine QaD (ints .u8 ([1,(IntKind.u8.wrap ((x/2:Nat):Int))])) 5 2 30 rfl kj kj fun g9 W5 l9 e5 r9_5=>?_
  have x5:Ext w W5:=Ext.tr x4 e5
  have b9:w.heap.size≤g9:=qT x4.size l9
  have r3_5:=(Qah r3_4 e5)
  refine Qaa (.agg (cat [#[.bool false],#[.int .i64 0],ints .u8 (List.replicate 32 0),ints .u8 (List.replicate 32 0),ints .u8 (List.replicate 32 0),#[.slice none 0 0]])) 31 rfl kj (Qa4 50 _ g3 50 _ _ r3_5 rfl kj kj (isz (n:=99) kj (by rw [Qac,Qac,Qac,Qac,Qac,Qac]; simp only [qS,cat,((Qae _ _).trans (qZ (n:=32)))]; rfl))) ?_
  refine Qa1 (fun v W'=>(OwnN .u8 5 W5.heap.size (QaI zn.n)) v W'∧Ext W5 W') 57 #[.agg (cat [#[.bool false],#[.int .i64 0],ints .u8 (List.replicate 32 0),ints .u8 (List.replicate 32 0),ints .u8 (List.replicate 32 0),#[.slice none 0 0]])] 32 rfl kj kj ((Wr.rnodeC zn.n.us zn.n.nm zn.n.key zn.n.sg zn.n.pa zn.n.ms _ _ _ Qey.kl Qey.gl Qey.pl (by decide) (Qei _ _)).mono (by rintro e w' ⟨v,rfl,e1,hv⟩; exact ⟨v,rfl,hv,e1⟩)) fun vv10 W6 hh10=>?_
  obtain ⟨hv10,e6⟩:=hh10
  have x6:Ext w W6:=Ext.tr x5 e6
  obtain ⟨ab_,cb_,rfl,-⟩:=id (OwnN.rd hv10)
  have hXL:([1,(IntKind.u8.wrap ((x/2:Nat):Int))])++(QaI zn.n)=Qce ts wo x:=by unfold Qce QdM; rw [if_pos hqm]
  have r9_6:=(Qah r9_5 e6)
  have y4_5:Ext W4 W5:=(Rely.Ext.trans (Rely.Ext.refl W4) e5)
  have y4_6:Ext W4 W6:=(Rely.Ext.trans y4_5 e6)
  refine QaP (k:=.u8) (T:=5) (xs:=[1,(IntKind.u8.wrap ((x/2:Nat):Int))]) (ys:=QaI zn.n) (V:=W4) 1 (.tmp 30) (.tmp 32) 59 rfl kj kj (by decide) 33 rfl kj kj kj (QbY (xs:=[1,(IntKind.u8.wrap ((x/2:Nat):Int))]) rfl l9 r9_6 (show 2≤maxLen by decide)) (OwnN.rd hv10) (by have h9:=Qci (wo:=wo) (ok0 x hx) (hmt x hx); rw [←hXL,List.length_append] at h9; omega) y4_6 fun z1 W7 f11 y7 l7=>?_
  have x7:Ext w W7:=Ext.low x6 l7 x4.size
  refine Qaa (z1) 6 rfl kj kj ?_
  refine Qaf ?_
  refine hK8 _ _ ?_
  refine wp_ret ?_
  repeat (first | with_reducible refine goR1 ?_ | with_reducible refine goR2 ?_)
  exact (show bodyPost _ _ _ .ret _ _ from ret1 (z1) rfl (Qaq kj) ⟨_,rfl,x7,OwnN.base x4.size (by have h9:=f11; rw [Qbr k (Qfg (by omega) h2)]; rw [hXL] at h9; exact h9)⟩)
 ·skip
  refine Qab ?_
  refine Qaa (.int .i64 ((x:Nat):Int)) 22 rfl kj kj ?_
  refine Qaa (.int .i64 ((x/2:Nat):Int)) 23 rfl kj (Qai (u:=.int .i64 (IntKind.i64.wrap (Int.tdiv (((x:Nat):Int)) (2)))) kj (congrArg (Value.int .i64) (Qb3 _ 2 (by omega)))) ?_
  refine Qaa (.slice a_o wo.length c_o) 24 rfl kj kj ?_
  refine Qal (.bool false) 41 #[.int .i64 ((x/2:Nat):Int),.slice a_o wo.length c_o] 25 rfl kj kj (inRb wo (((x/2:Nat):Int)) a_o c_o _ _ hol (RdK.here (RdK.ext ho x2)) false (decide_eq_false hqm)) fun W3 e3=>?_
  have x3:Ext w W3:=Ext.tr x2 e3
  refine Qaf ?_
  refine hK7 _ _ ?_
  refine cond_false kj ?_
  refine wp_skip ?_
  refine hK6 _ _ ?_
  refine wp_seq_k fun K13 hK13=>?_
  refine Qab ?_
  refine Qaa (.int .i64 ((x:Nat):Int)) 27 rfl kj kj ?_
  refine Qaa (.int .i64 ((x/2:Nat):Int)) 28 rfl kj (Qai (u:=.int .i64 (IntKind.i64.wrap (Int.tdiv (((x:Nat):Int)) (2)))) kj (congrArg (Value.int .i64) (Qb3 _ 2 (by omega)))) ?_
  refine Qaa (.int .u8 (IntKind.u8.wrap ((x/2:Nat):Int))) 29 rfl kj kj ?_
  refine QaD (ints .u8 ([1,(IntKind.u8.wrap ((x/2:Nat):Int))])) 5 2 30 rfl kj kj fun g14 W4 l14 e4 r14_4=>?_
  have x4:Ext w W4:=Ext.tr x3 e4
  have b14:w.heap.size≤g14:=qT x3.size l14
  have r3_3:=(Qah r3_2 e3)
  have r3_4:=(Qah r3_3 e4)
  refine Qaa (.agg (cat [#[.bool nt.n.us],#[.int .i64 nt.n.nm],ints .u8 (nt.n.key),ints .u8 (nt.n.sg),ints .u8 (nt.n.pa),#[.slice nt.a nt.n.ms.length nt.c]])) 31 rfl kj (Qa4 50 _ g3 50 _ _ r3_4 rfl kj kj (isz (n:=99) kj (by rw [Qac,Qac,Qac,Qac,Qac,Qac]; simp only [qS,cat,((Qae _ _).trans okt.gl),((Qae _ _).trans okt.kl),((Qae _ _).trans okt.pl)]; rfl))) ?_
  have y0_1:Ext w W1:=(Rely.Ext.trans (Rely.Ext.refl w) e1)
  have y0_2:Ext w W2:=(Puts.ext p2 y0_1 l3)
  have y0_3:Ext w W3:=(Rely.Ext.trans y0_2 e3)
  have y0_4:Ext w W4:=(Rely.Ext.trans y0_3 e4)
  refine Qa1 (fun v W'=>(OwnN .u8 5 W4.heap.size (QaI nt.n)) v W'∧Ext W4 W') 57 #[.agg (cat [#[.bool nt.n.us],#[.int .i64 nt.n.nm],ints .u8 (nt.n.key),ints .u8 (nt.n.sg),ints .u8 (nt.n.pa),#[.slice nt.a nt.n.ms.length nt.c]])] 32 rfl kj kj ((Wr.rnodeC nt.n.us nt.n.nm nt.n.key nt.n.sg nt.n.pa nt.n.ms _ _ _ okt.kl okt.gl okt.pl (qT (ent▸hmt x hx) (by decide)) (RdK.here (RdK.ext rdt y0_4))).mono (by rintro e w' ⟨v,rfl,e1,hv⟩; exact ⟨v,rfl,hv,e1⟩)) fun vv15 W5 hh15=>?_
  obtain ⟨hv15,e5⟩:=hh15
  have x5:Ext w W5:=Ext.tr x4 e5
  obtain ⟨ab_,cb_,rfl,-⟩:=id (OwnN.rd hv15)
  have hXL:([1,(IntKind.u8.wrap ((x/2:Nat):Int))])++(QaI nt.n)=Qce ts wo x:=by unfold Qce QdM; rw [if_neg hqm,ent]
  have r14_5:=(Qah r14_4 e5)
  have y3_4:Ext W3 W4:=(Rely.Ext.trans (Rely.Ext.refl W3) e4)
  have y3_5:Ext W3 W5:=(Rely.Ext.trans y3_4 e5)
  refine QaP (k:=.u8) (T:=5) (xs:=[1,(IntKind.u8.wrap ((x/2:Nat):Int))]) (ys:=QaI nt.n) (V:=W3) 1 (.tmp 30) (.tmp 32) 59 rfl kj kj (by decide) 33 rfl kj kj kj (QbY (xs:=[1,(IntKind.u8.wrap ((x/2:Nat):Int))]) rfl l14 r14_5 (show 2≤maxLen by decide)) (OwnN.rd hv15) (by have h9:=Qci (wo:=wo) (ok0 x hx) (hmt x hx); rw [←hXL,List.length_append] at h9; omega) y3_5 fun z2 W6 f16 y6 l6=>?_
  have x6:Ext w W6:=Ext.low x5 l6 x3.size
  refine Qaa (z2) 6 rfl kj kj ?_
  refine Qaf ?_
  refine hK13 _ _ ?_
  refine wp_ret ?_
  repeat (first | with_reducible refine goR1 ?_ | with_reducible refine goR2 ?_)
  exact (show bodyPost _ _ _ .ret _ _ from ret1 (z2) rfl (Qaq kj) ⟨_,rfl,x6,OwnN.base x3.size (by have h9:=f16; rw [Qbr k (Qfg (by omega) h2)]; rw [hXL] at h9; exact h9)⟩)
set_option maxRecDepth 100000 in
theorem QiK (ts : List NdV) (a_t:Option Addr) (c_t B1:Nat) (htl:ts.length≤100000) (hmt:∀ i,i<ts.length→(ndi ts i).n.ms.length≤50) (L:Nat) (f:Form ts L) (ok0:∀ x,x<ts.length→NdOk (ndi ts x).n) (wo:List Int) (a_o:Option Addr) (c_o Bo:Nat) (w:World) (ht:TrAt B1 w a_t ts) (hol:wo.length≤1000000) (ho:RdK .i64 Bo wo (.slice a_o wo.length c_o) w) (k x:Nat) (hx:x<ts.length) (h2:x%2≠0) (l r:Nat) (hl0:kidL ((x:Nat):Int)=((l:Nat):Int)) (hr0:kidR ((x:Nat):Int)=((r:Nat):Int)) (hkid:∀ W,Calls Tryd.prog 16 #[.int .i64 ((x:Nat):Int)] W (Ret W (.tuple #[.int .i64 ((l:Nat):Int),.int .i64 ((r:Nat):Int)]))) (hl:∀ w,TrAt B1 w a_t ts→RdK .i64 w.heap.size wo (.slice a_o wo.length c_o) w→Calls Tryd.prog 14 #[.slice a_t ts.length c_t,.int .i64 ((l:Nat):Int),.slice a_o wo.length c_o] w (Ret w (.agg (ints .u8 (dig (txtN ts wo k l)))))) (hr:∀ w,TrAt B1 w a_t ts→RdK .i64 w.heap.size wo (.slice a_o wo.length c_o) w→Calls Tryd.prog 14 #[.slice a_t ts.length c_t,.int .i64 ((r:Nat):Int),.slice a_o wo.length c_o] w (Ret w (.agg (ints .u8 (dig (txtN ts wo k r)))))):Calls Tryd.prog 35 #[.slice a_t ts.length c_t,.int .i64 ((x:Nat):Int),.slice a_o wo.length c_o] w (QbK w (OwnN .u8 5 w.heap.size (txtN ts wo (k+1) x))):=by
 refine enter 81 [(0,.slice a_t ts.length c_t),(1,.int .i64 ((x:Nat):Int)),(2,.slice a_o wo.length c_o)] Tryd.func35 rfl rfl kj rfl ?_
 refine wp_seq_k fun K1 hK1=>?_
 refine Qab ?_
 refine Qaa (.slice none 0 0) 6 rfl kj kj ?_
 refine Qaf ?_
 refine hK1 _ _ ?_
 refine wp_seq_k fun K2 hK2=>?_
 refine Qab ?_
 refine Qaa (.slice a_t ts.length c_t) 15 rfl kj kj ?_
 refine Qaa (.int .i64 ((x:Nat):Int)) 16 rfl kj kj ?_
 obtain ⟨gtT,otT,hat,hnts⟩:=TrAt.ext ht (Rely.Ext.refl w)
 have hnt:=hnts x (by omega)
 obtain ⟨nt,ent⟩:∃ z,z=ndi ts x:=⟨_,rfl⟩
 rw [←ent] at hnt
 have okt:=hnt.ok
 have rdt:=hnt.rd
 refine Qaa (.pointer (some ⟨gtT,otT+x*99,none⟩)) 17 rfl kj (Qap 23 _ _ .i64 x gtT otT ts.length c_t 50 99 a_t (hat (by omega)) rfl kj kj kj kj (by omega)) ?_
 refine Qaa (.agg (cat [#[.bool nt.n.us],#[.int .i64 nt.n.nm],ints .u8 (nt.n.key),ints .u8 (nt.n.sg),ints .u8 (nt.n.pa),#[.slice nt.a nt.n.ms.length nt.c]])) 18 rfl kj (QaH 50 _ gtT (otT+x*99) nt hnt rfl kj kj kj) ?_
 refine Qan (cat [#[.bool false],#[.int .i64 0],ints .u8 (List.replicate 32 0),ints .u8 (List.replicate 32 0),ints .u8 (List.replicate 32 0),#[.slice none 0 0]]) 50 7 rfl kj kj fun g3 W1 l3 e1 r3_1=>?_
 have x1:Ext w W1:=Ext.tr (Rely.Ext.refl w) e1
 have b3:w.heap.size≤g3:=qT (Rely.Ext.refl w).size l3
 refine Qau g3 _ (cat [#[.bool nt.n.us],#[.int .i64 nt.n.nm],ints .u8 (nt.n.key),ints .u8 (nt.n.sg),ints .u8 (nt.n.pa),#[.slice nt.a nt.n.ms.length nt.c]]) 50 r3_1 rfl kj (Qas 50 _ _ g3 50 _ _ r3_1 rfl kj kj (isz (n:=99) kj (by rw [Qac,Qac,Qac,Qac,Qac,Qac]; simp only [qS,cat,((Qae _ _).trans okt.gl),((Qae _ _).trans okt.kl),((Qae _ _).trans okt.pl)]; rfl)) (eqsz (n:=99) (by rw [Qac,Qac,Qac,Qac,Qac,Qac]; simp only [qS,cat,((Qae _ _).trans (qZ (n:=32)))]; rfl) (by rw [Qac,Qac,Qac,Qac,Qac,Qac]; simp only [qS,cat,((Qae _ _).trans okt.gl),((Qae _ _).trans okt.kl),((Qae _ _).trans okt.pl)]; rfl)) (Qbm _ (by intro a ha; simp only [List.mem_cons,List.not_mem_nil,or_false] at ha; rcases ha with rfl | rfl | rfl | rfl | rfl | rfl; exact (Qa7 _ rfl); exact (Qa7 _ rfl); exact (Qaw _ _); exact (Qaw _ _); exact (Qaw _ _); exact (Qa7 _ rfl)))) fun W2 p2 r3_2=>?_
 have x2:Ext w W2:=Puts.ext p2 x1 b3
 refine Qaf ?_
 refine hK2 _ _ ?_
 refine wp_seq_k fun K4 hK4=>?_
 refine wp_seq_k fun K5 hK5=>?_
 refine Qab ?_
 refine Qaa (.int .i64 ((x:Nat):Int)) 19 rfl kj kj ?_
 refine Qaa (.int .i64 ((x%2:Nat):Int)) 20 rfl kj (Qai (u:=.int .i64 (Int.tmod (((x:Nat):Int)) (2))) kj (congrArg (Value.int .i64) (Qbl _ 2))) ?_
 refine Qaa (.bool false) 21 rfl kj (Qai (u:=.bool ((((x%2:Nat):Int)==0))) kj (congrArg Value.bool (beq_eq_false_iff_ne.2 (by omega)))) ?_
 refine Qaf ?_
 refine hK5 _ _ ?_
 refine cond_false kj ?_
 refine wp_skip ?_
 refine hK4 _ _ ?_
 refine wp_seq_k fun K6 hK6=>?_
 refine Qab ?_
 refine Qaa (.slice none 0 0) 8 rfl kj kj ?_
 refine Qaf ?_
 refine hK6 _ _ ?_
 refine wp_seq_k fun K7 hK7=>?_
 refine wp_seq_k fun K8 hK8=>?_
 refine Qab ?_
 refine Qaa (.int .i64 0) 9 rfl kj kj ?_
 refine Qaf ?_
 refine hK8 _ _ ?_
 refine wp_block ?_
 have y0_1:Ext w W1:=(Rely.Ext.trans (Rely.Ext.refl w) e1)
 have y0_2:Ext w W2:=(Puts.ext p2 y0_1 l3)
 have hml6:nt.n.ms.length≤50:=ent▸hmt x hx
 refine Qa0 (fun (s1:Nat×Value)=>[(0,.slice a_t ts.length c_t),(1,.int .i64 ((x:Nat):Int)),(2,.slice a_o wo.length c_o),(7,.pointer (some ⟨g3,0,none⟩)),(8,s1.2),(9,.int .i64 ((s1.1:Nat):Int))]) (fun (s1:Nat×Value) W=>(s1.1≤nt.n.ms.length)∧(OwnN .i64 3 W2.heap.size (exc (nt.n.ms.take s1.1) wo) s1.2 W)∧(Below W2.heap.size W2 W)∧(Ext w W)) (fun (s1:Nat×Value)=>nt.n.ms.length-s1.1) (0,(.slice none 0 0)) ⟨rfl,rfl,rfl,rfl,rfl,rfl,trivial⟩ ⟨(Nat.zero_le _),(Qcw _ _ _ _),(RowKit.Below.refl _ W2),x2⟩ fun s1 X1 V1 hI1=>?_
 obtain ⟨j,u⟩:=s1
 obtain ⟨hk,hu,kk1,xx1⟩:=hI1
 replace hk:j≤nt.n.ms.length:=hk
 replace hu:OwnN .i64 3 W2.heap.size (exc (nt.n.ms.take j) wo) u V1:=hu
 replace kk1:Below W2.heap.size W2 V1:=kk1
 replace xx1:Ext w V1:=xx1
 have l3:=kk1
 refine wp_seq_k fun K9 hK9=>?_
 refine wp_seq_k fun K10 hK10=>?_
 refine Qab ?_
 refine Qaa (.int .i64 ((j:Nat):Int)) 34 rfl kj kj ?_
 refine Qaa (.pointer (some ⟨g3,98,none⟩)) 35 rfl kj kj ?_
 have r3_3:=(Qb1 l3 r3_2 (Qa5 r3_2))
 refine Qaa (.slice nt.a nt.n.ms.length nt.c) 36 rfl kj (Qag 24 _ g3 98 50 _ (.slice nt.a nt.n.ms.length nt.c) _ r3_3 rfl kj (Qaj [#[.bool nt.n.us],#[.int .i64 nt.n.nm],ints .u8 (nt.n.key),ints .u8 (nt.n.sg),ints .u8 (nt.n.pa)] [#[.slice nt.a nt.n.ms.length nt.c]] [] 98 (by rw [Qac,Qac,Qac,Qac,Qac]; simp only [qS,cat,((Qae _ _).trans okt.gl),((Qae _ _).trans okt.kl),((Qae _ _).trans okt.pl)]; rfl) 0 _ rfl) kj) ?_
 refine Qaa (.int .i64 ((nt.n.ms.length:Nat):Int)) 37 rfl kj kj ?_
 refine Qaa (.bool (decide (((j:Nat):Int)<((nt.n.ms.length:Nat):Int)))) 38 rfl kj kj ?_
 refine Qaf ?_
 refine hK10 _ _ ?_
 refine Qar (t:=decide (((j:Nat):Int)<((nt.n.ms.length:Nat):Int))) kj (fun c11=>?_) (fun c11=>?_)
 ·skip
  have hlt38:j<nt.n.ms.length:=by have:=of_decide_eq_true c11; omega
  refine wp_skip ?_
  refine hK9 _ _ ?_
  refine wp_seq_k fun K12 hK12=>?_
  refine wp_block ?_
  refine wp_seq_k fun K13 hK13=>?_
  by_cases hq:nth nt.n.ms j∈wo
  ·skip
   refine Qab ?_
   refine Qaa (.pointer (some ⟨g3,98,none⟩)) 41 rfl kj kj ?_
   refine Qaa (.slice nt.a nt.n.ms.length nt.c) 42 rfl kj (Qag 24 _ g3 98 50 _ (.slice nt.a nt.n.ms.length nt.c) _ r3_3 rfl kj (Qaj [#[.bool nt.n.us],#[.int .i64 nt.n.nm],ints .u8 (nt.n.key),ints .u8 (nt.n.sg),ints .u8 (nt.n.pa)] [#[.slice nt.a nt.n.ms.length nt.c]] [] 98 (by rw [Qac,Qac,Qac,Qac,Qac]; simp only [qS,cat,((Qae _ _).trans okt.gl),((Qae _ _).trans okt.kl),((Qae _ _).trans okt.pl)]; rfl) 0 _ rfl) kj) ?_
   have y0_3:Ext w V1:=(Ext.low y0_2 l3 y0_2.size)
   have hnx_14:(nt.n.ms).length=nt.n.ms.length:=rfl
   obtain ⟨gcx_14,ocx_14,hax_14,hlx_14,hcx_14⟩:=QaY (RdK.here (RdK.ext rdt y0_3)) (by rw [hnx_14]; omega)
   refine Qaa (.int .i64 ((j:Nat):Int)) 43 rfl kj kj ?_
   refine Qaa (.pointer (some ⟨gcx_14,ocx_14+j,none⟩)) 44 rfl kj (Qa6 24 _ _ .i64 j gcx_14 ocx_14 nt.n.ms.length nt.c 3 nt.a _ hax_14 rfl rfl kj kj kj kj (Nat.lt_of_lt_of_eq (show j<nt.n.ms.length by omega) hnx_14.symm)) ?_
   refine Qaa (.int .i64 (nth (nt.n.ms) (j))) 45 rfl kj (Qak 3 _ _ (.int .i64 (nth (nt.n.ms) (j))) (hcx_14 j (Nat.lt_of_lt_of_eq (show j<nt.n.ms.length by omega) hnx_14.symm)) rfl kj kj) ?_
   refine Qaa (.slice a_o wo.length c_o) 46 rfl kj kj ?_
   refine Qal (.bool true) 41 #[.int .i64 (nth (nt.n.ms) (j)),.slice a_o wo.length c_o] 47 rfl kj kj (inRb wo (nth nt.n.ms j) a_o c_o _ _ hol (RdK.here (RdK.ext ho xx1)) true (decide_eq_true hq)) fun W4 e4=>?_
   have x4:Ext w W4:=Ext.tr xx1 e4
   refine Qaa (.bool false) 48 rfl kj kj ?_
   refine Qaf ?_
   refine hK13 _ _ ?_
   refine cond_false kj ?_
   refine wp_skip ?_
   refine hK12 _ _ ?_
   refine Qab ?_
   refine Qaa (.int .i64 ((j:Nat):Int)) 39 rfl kj kj ?_
   refine Qaa (.int .i64 ((j+1:Nat):Int)) 40 rfl kj (Qai (u:=.int .i64 (IntKind.i64.wrap (((j:Nat):Int)+1))) kj (congrArg (Value.int .i64) (i64n _ _ (by omega) (by omega)))) ?_
   refine Qaa (.int .i64 ((j+1:Nat):Int)) 9 rfl kj kj ?_
   refine Qaf ?_
   have f15_4:=(hu.ext e4)
   have y2_3:Ext W2 V1:=(Ext.low (Rely.Ext.refl W2) l3 (Rely.Ext.refl W2).size)
   repeat (first | with_reducible refine goX1 ?_ | with_reducible refine goX2 ?_ | with_reducible refine goX3 ?_)
   exact Qat ((j+1),u) ⟨rfl,rfl,rfl,rfl,rfl,rfl,trivial⟩ ⟨(by omega),(by rw [Qio (by omega) hq]; exact f15_4),(RowKit.Below.trans l3 (RowKit.Below.mono e4 y2_3.size)),x4⟩ (by show nt.n.ms.length-(j+1)<nt.n.ms.length-j; omega)
  ·skip
   refine Qab ?_
   refine Qaa (.pointer (some ⟨g3,98,none⟩)) 41 rfl kj kj ?_
   refine Qaa (.slice nt.a nt.n.ms.length nt.c) 42 rfl kj (Qag 24 _ g3 98 50 _ (.slice nt.a nt.n.ms.length nt.c) _ r3_3 rfl kj (Qaj [#[.bool nt.n.us],#[.int .i64 nt.n.nm],ints .u8 (nt.n.key),ints .u8 (nt.n.sg),ints .u8 (nt.n.pa)] [#[.slice nt.a nt.n.ms.length nt.c]] [] 98 (by rw [Qac,Qac,Qac,Qac,Qac]; simp only [qS,cat,((Qae _ _).trans okt.gl),((Qae _ _).trans okt.kl),((Qae _ _).trans okt.pl)]; rfl) 0 _ rfl) kj) ?_
   have y0_3:Ext w V1:=(Ext.low y0_2 l3 y0_2.size)
   have hnx_16:(nt.n.ms).length=nt.n.ms.length:=rfl
   obtain ⟨gcx_16,ocx_16,hax_16,hlx_16,hcx_16⟩:=QaY (RdK.here (RdK.ext rdt y0_3)) (by rw [hnx_16]; omega)
   refine Qaa (.int .i64 ((j:Nat):Int)) 43 rfl kj kj ?_
   refine Qaa (.pointer (some ⟨gcx_16,ocx_16+j,none⟩)) 44 rfl kj (Qa6 24 _ _ .i64 j gcx_16 ocx_16 nt.n.ms.length nt.c 3 nt.a _ hax_16 rfl rfl kj kj kj kj (Nat.lt_of_lt_of_eq (show j<nt.n.ms.length by omega) hnx_16.symm)) ?_
   refine Qaa (.int .i64 (nth (nt.n.ms) (j))) 45 rfl kj (Qak 3 _ _ (.int .i64 (nth (nt.n.ms) (j))) (hcx_16 j (Nat.lt_of_lt_of_eq (show j<nt.n.ms.length by omega) hnx_16.symm)) rfl kj kj) ?_
   refine Qaa (.slice a_o wo.length c_o) 46 rfl kj kj ?_
   refine Qal (.bool false) 41 #[.int .i64 (nth (nt.n.ms) (j)),.slice a_o wo.length c_o] 47 rfl kj kj (inRb wo (nth nt.n.ms j) a_o c_o _ _ hol (RdK.here (RdK.ext ho xx1)) false (decide_eq_false hq)) fun W4 e4=>?_
   have x4:Ext w W4:=Ext.tr xx1 e4
   refine Qaa (.bool true) 48 rfl kj kj ?_
   refine Qaf ?_
   refine hK13 _ _ ?_
   refine cond_true kj ?_
   refine Qab ?_
   refine Qaa (u) 49 rfl kj kj ?_
   refine Qaa (.pointer (some ⟨g3,98,none⟩)) 50 rfl kj kj ?_
   have r3_4:=(Qah r3_3 e4)
   refine Qaa (.slice nt.a nt.n.ms.length nt.c) 51 rfl kj (Qag 24 _ g3 98 50 _ (.slice nt.a nt.n.ms.length nt.c) _ r3_4 rfl kj (Qaj [#[.bool nt.n.us],#[.int .i64 nt.n.nm],ints .u8 (nt.n.key),ints .u8 (nt.n.sg),ints .u8 (nt.n.pa)] [#[.slice nt.a nt.n.ms.length nt.c]] [] 98 (by rw [Qac,Qac,Qac,Qac,Qac]; simp only [qS,cat,((Qae _ _).trans okt.gl),((Qae _ _).trans okt.kl),((Qae _ _).trans okt.pl)]; rfl) 0 _ rfl) kj) ?_
   refine Qaa (.int .i64 ((j:Nat):Int)) 52 rfl kj kj ?_
   refine Qaa (.pointer (some ⟨gcx_16,ocx_16+j,none⟩)) 53 rfl kj (Qa6 24 _ _ .i64 j gcx_16 ocx_16 nt.n.ms.length nt.c 3 nt.a _ hax_16 rfl rfl kj kj kj kj (Nat.lt_of_lt_of_eq (show j<nt.n.ms.length by omega) hnx_16.symm)) ?_
   have y3_4:Ext V1 W4:=(Rely.Ext.trans (Rely.Ext.refl V1) e4)
   refine Qaa (.int .i64 (nth (nt.n.ms) (j))) 54 rfl kj (Qak 3 _ _ (.int .i64 (nth (nt.n.ms) (j))) ((Below.cell y3_4 hlx_16).trans (hcx_16 j (Nat.lt_of_lt_of_eq (show j<nt.n.ms.length by omega) hnx_16.symm))) rfl kj kj) ?_
   refine QaD (ints .i64 ([(nth (nt.n.ms) (j))])) 3 1 55 rfl kj kj fun g17 W5 l17 e5 r17_5=>?_
   have x5:Ext w W5:=Ext.tr x4 e5
   have b17:w.heap.size≤g17:=qT x4.size l17
   have f18_4:=(hu.ext e4)
   have f19_5:=(f18_4.ext e5)
   have y2_3:Ext W2 V1:=(Ext.low (Rely.Ext.refl W2) l3 (Rely.Ext.refl W2).size)
   have y2_4:Ext W2 W4:=(Rely.Ext.trans y2_3 e4)
   have y2_5:Ext W2 W5:=(Rely.Ext.trans y2_4 e5)
   refine QaP (k:=.i64) (T:=3) (xs:=exc (nt.n.ms.take j) wo) (ys:=[nth nt.n.ms j]) (V:=W2) 8 (.tmp 49) (.tmp 55) 24 rfl kj kj (by decide) 56 rfl kj kj kj f19_5 (QaT (xs:=[(nth (nt.n.ms) (j))]) (n:=1) rfl r17_5 (Qa5 r17_5) (show 1≤maxLen from by decide)) (by have h9:=QgF nt.n.ms wo j; show (exc (nt.n.ms.take j) wo).length+1≤1000000000; omega) y2_5 fun u2 W6 f20 y6 l6=>?_
   have x6:Ext w W6:=Ext.low x5 l6 x2.size
   refine Qaa (u2) 8 rfl kj kj ?_
   refine Qaf ?_
   refine hK12 _ _ ?_
   refine Qab ?_
   refine Qaa (.int .i64 ((j:Nat):Int)) 39 rfl kj kj ?_
   refine Qaa (.int .i64 ((j+1:Nat):Int)) 40 rfl kj (Qai (u:=.int .i64 (IntKind.i64.wrap (((j:Nat):Int)+1))) kj (congrArg (Value.int .i64) (i64n _ _ (by omega) (by omega)))) ?_
   refine Qaa (.int .i64 ((j+1:Nat):Int)) 9 rfl kj kj ?_
   refine Qaf ?_
   repeat (first | with_reducible refine goX1 ?_ | with_reducible refine goX2 ?_ | with_reducible refine goX3 ?_)
   exact Qat ((j+1),u2) ⟨rfl,rfl,rfl,rfl,rfl,rfl,trivial⟩ ⟨(by omega),(by rw [QjI (by omega) hq]; exact f20),(RowKit.Below.trans (RowKit.Below.trans (RowKit.Below.trans l3 (RowKit.Below.mono e4 y2_3.size)) (RowKit.Below.mono e5 y2_4.size)) l6),x6⟩ (by show nt.n.ms.length-(j+1)<nt.n.ms.length-j; omega)
 ·skip
  have heq38:j=nt.n.ms.length:=by have:=of_decide_eq_false c11; omega
  have hu7:OwnN .i64 3 W2.heap.size (exc nt.n.ms wo) u V1:=by have h9:=hu; rw [heq38,List.take_length] at h9; exact h9
  obtain ⟨a5,c5,rfl,-⟩:=id (OwnN.rd hu7)
  obtain ⟨n5,hn5⟩:∃ z:NdV,z=⟨QcT ts wo x,a5,c5⟩:=⟨_,rfl⟩
  have ok5:NdOk n5.n:=by rw [hn5]; exact QeZ (ent▸okt)
  have hm5:n5.n.ms.length≤50:=by rw [hn5]; exact qT (Qfk _ _) (hmt x hx)
  have hu5:OwnN .i64 3 W2.heap.size n5.n.ms (.slice n5.a n5.n.ms.length n5.c) V1:=by
   rw [hn5]; show OwnN _ _ _ (exc (ndi ts x).n.ms wo) (.slice a5 (exc (ndi ts x).n.ms wo).length c5) _; rw [←ent]; exact hu7
  refine wp_exit ?_
  refine hK7 _ _ ?_
  refine wp_seq_k fun K21 hK21=>?_
  refine Qab ?_
  refine Qaa (.slice a5 (exc nt.n.ms wo).length c5) 57 rfl kj kj ?_
  refine Qaa (.pointer (some ⟨g3,98,none⟩)) 58 rfl kj kj ?_
  refine Qau g3 _ (cat [#[.bool nt.n.us],#[.int .i64 nt.n.nm],ints .u8 (nt.n.key),ints .u8 (nt.n.sg),ints .u8 (nt.n.pa),#[.slice a5 (exc nt.n.ms wo).length c5]]) 50 r3_3 rfl kj (run_storeQ 24 _ _ g3 98 50 [#[.bool nt.n.us],#[.int .i64 nt.n.nm],ints .u8 (nt.n.key),ints .u8 (nt.n.sg),ints .u8 (nt.n.pa)] [] _ (.slice a5 (exc nt.n.ms wo).length c5) r3_3 rfl kj kj kj (by rw [Qac,Qac,Qac,Qac,Qac]; simp only [qS,cat,((Qae _ _).trans okt.gl),((Qae _ _).trans okt.kl),((Qae _ _).trans okt.pl)]; rfl) rfl rfl) fun W4 p4 r3_4=>?_
  have x4:Ext w W4:=Puts.ext p4 xx1 b3
  have r10x:W4.heap[g3]? = some (.cells (cat [#[.bool n5.n.us],#[.int .i64 n5.n.nm],ints .u8 (n5.n.key),ints .u8 (n5.n.sg),ints .u8 (n5.n.pa),#[.slice n5.a n5.n.ms.length n5.c]]) 50):=by have h9:=r3_4; rw [hn5]; show _=some (Obj.cells (cat [#[.bool (ndi ts x).n.us],#[.int .i64 (ndi ts x).n.nm],ints .u8 (ndi ts x).n.key,ints .u8 (ndi ts x).n.sg,ints .u8 (ndi ts x).n.pa,#[.slice a5 (exc (ndi ts x).n.ms wo).length c5]]) _); rw [←ent]; exact h9
  refine Qaf ?_
  refine hK21 _ _ ?_
  refine wp_seq_k fun K22 hK22=>?_
  refine Qab ?_
  refine Qaa (.int .i64 ((x:Nat):Int)) 60 rfl kj kj ?_
  refine Qal (.tuple #[.int .i64 ((l:Nat):Int),.int .i64 ((r:Nat):Int)]) 16 #[.int .i64 ((x:Nat):Int)] 61 rfl kj kj (hkid _) fun W5 e5=>?_
  have x5:Ext w W5:=Ext.tr x4 e5
  refine Qaa (.tuple #[.int .i64 ((l:Nat):Int),.int .i64 ((r:Nat):Int)]) 59 rfl kj kj ?_
  refine Qaa (.int .i64 ((l:Nat):Int)) 62 rfl kj kj ?_
  refine Qaa (.int .i64 ((r:Nat):Int)) 63 rfl kj kj ?_
  refine Qaa (.int .i64 ((l:Nat):Int)) 10 rfl kj kj ?_
  refine Qaa (.int .i64 ((r:Nat):Int)) 11 rfl kj kj ?_
  refine Qaf ?_
  refine hK22 _ _ ?_
  refine wp_seq_k fun K23 hK23=>?_
  refine Qab ?_
  refine Qaa (.slice a_t ts.length c_t) 64 rfl kj kj ?_
  refine Qaa (.int .i64 ((l:Nat):Int)) 65 rfl kj kj ?_
  refine Qaa (.slice a_o wo.length c_o) 66 rfl kj kj ?_
  refine Qal (.agg (ints .u8 (dig (txtN ts wo k l)))) 14 #[.slice a_t ts.length c_t,.int .i64 ((l:Nat):Int),.slice a_o wo.length c_o] 67 rfl kj kj (hl _ (TrAt.ext ht x5) (RdK.here (RdK.ext ho x5))) fun W6 e6=>?_
  have x6:Ext w W6:=Ext.tr x5 e6
  refine Qan (ints .u8 (List.replicate 32 0)) 28 12 rfl kj kj fun g24 W7 l24 e7 r24_7=>?_
  have x7:Ext w W7:=Ext.tr x6 e7
  have b24:w.heap.size≤g24:=qT x6.size l24
  refine Qau g24 _ (ints .u8 (dig (txtN ts wo k l))) 28 r24_7 rfl kj (Qas 28 _ _ g24 28 _ _ r24_7 rfl kj kj (isz (n:=32) kj ((Qae _ _).trans (QaE _))) (eqsz (n:=32) ((Qae _ _).trans (qZ (n:=32))) ((Qae _ _).trans (QaE _))) (Qaw _ _)) fun W8 p8 r24_8=>?_
  have x8:Ext w W8:=Puts.ext p8 x7 b24
  refine Qaf ?_
  refine hK23 _ _ ?_
  refine wp_seq_k fun K25 hK25=>?_
  refine Qab ?_
  refine Qaa (.slice a_t ts.length c_t) 68 rfl kj kj ?_
  refine Qaa (.int .i64 ((r:Nat):Int)) 69 rfl kj kj ?_
  refine Qaa (.slice a_o wo.length c_o) 70 rfl kj kj ?_
  refine Qal (.agg (ints .u8 (dig (txtN ts wo k r)))) 14 #[.slice a_t ts.length c_t,.int .i64 ((r:Nat):Int),.slice a_o wo.length c_o] 71 rfl kj kj (hr _ (TrAt.ext ht x8) (RdK.here (RdK.ext ho x8))) fun W9 e9=>?_
  have x9:Ext w W9:=Ext.tr x8 e9
  refine Qan (ints .u8 (List.replicate 32 0)) 28 13 rfl kj kj fun g26 W10 l26 e10 r26_10=>?_
  have x10:Ext w W10:=Ext.tr x9 e10
  have b26:w.heap.size≤g26:=qT x9.size l26
  refine Qau g26 _ (ints .u8 (dig (txtN ts wo k r))) 28 r26_10 rfl kj (Qas 28 _ _ g26 28 _ _ r26_10 rfl kj kj (isz (n:=32) kj ((Qae _ _).trans (QaE _))) (eqsz (n:=32) ((Qae _ _).trans (qZ (n:=32))) ((Qae _ _).trans (QaE _))) (Qaw _ _)) fun W11 p11 r26_11=>?_
  have x11:Ext w W11:=Puts.ext p11 x10 b26
  refine Qaf ?_
  refine hK25 _ _ ?_
  refine wp_seq_k fun K27 hK27=>?_
  refine Qab ?_
  refine QaD (ints .u8 ([2])) 5 1 72 rfl kj kj fun g28 W12 l28 e12 r28_12=>?_
  have x12:Ext w W12:=Ext.tr x11 e12
  have b28:w.heap.size≤g28:=qT x11.size l28
  have r3_5:=(Qah r10x e5)
  have r3_6:=(Qah r3_5 e6)
  have r3_7:=(Qah r3_6 e7)
  have r3_8:=(Puts.row p8 r3_7 (Qay r3_6 l24))
  have r3_9:=(Qah r3_8 e9)
  have r3_10:=(Qah r3_9 e10)
  have r3_11:=(Puts.row p11 r3_10 (Qay r3_9 l26))
  have r3_12:=(Qah r3_11 e12)
  refine Qaa (.agg (cat [#[.bool n5.n.us],#[.int .i64 n5.n.nm],ints .u8 (n5.n.key),ints .u8 (n5.n.sg),ints .u8 (n5.n.pa),#[.slice n5.a n5.n.ms.length n5.c]])) 73 rfl kj (Qa4 50 _ g3 50 _ _ r3_12 rfl kj kj (isz (n:=99) kj (by rw [Qac,Qac,Qac,Qac,Qac,Qac]; simp only [qS,cat,((Qae _ _).trans ok5.gl),((Qae _ _).trans ok5.kl),((Qae _ _).trans ok5.pl)]; rfl))) ?_
  have hb0:=Qb0 ok5
  have f29_4:=(hu5.puts p4 (nb_old hu5 (Qa5 r3_2)))
  have f30_5:=(f29_4.ext e5)
  have f31_6:=(f30_5.ext e6)
  have f32_7:=(f31_6.ext e7)
  have f33_8:=(f32_7.puts p8 (Qgz f31_6 l24))
  have f34_9:=(f33_8.ext e9)
  have f35_10:=(f34_9.ext e10)
  have f36_11:=(f35_10.puts p11 (Qgz f34_9 l26))
  have f37_12:=(f36_11.ext e12)
  refine Qa1 (fun v W'=>(OwnN .u8 5 W12.heap.size (QaI n5.n)) v W'∧Ext W12 W') 57 #[.agg (cat [#[.bool n5.n.us],#[.int .i64 n5.n.nm],ints .u8 (n5.n.key),ints .u8 (n5.n.sg),ints .u8 (n5.n.pa),#[.slice n5.a n5.n.ms.length n5.c]])] 74 rfl kj kj ((Wr.rnodeC n5.n.us n5.n.nm n5.n.key n5.n.sg n5.n.pa n5.n.ms _ _ _ ok5.kl ok5.gl ok5.pl (qT hm5 (by decide)) (RdK.here (OwnN.rd f37_12))).mono (by rintro e w' ⟨v,rfl,e1,hv⟩; exact ⟨v,rfl,hv,e1⟩)) fun vv38 W13 hh38=>?_
  obtain ⟨hv38,e13⟩:=hh38
  have x13:Ext w W13:=Ext.tr x12 e13
  obtain ⟨ab_,cb_,rfl,-⟩:=id (OwnN.rd hv38)
  have r28_13:=(Qah r28_12 e13)
  have y11_12:Ext W11 W12:=(Rely.Ext.trans (Rely.Ext.refl W11) e12)
  have y11_13:Ext W11 W13:=(Rely.Ext.trans y11_12 e13)
  refine QaP (k:=.u8) (T:=5) (xs:=[2]) (ys:=QaI n5.n) (V:=W11) 1 (.tmp 72) (.tmp 74) 59 rfl kj kj (by decide) 75 rfl kj kj kj (QbY (xs:=[2]) rfl l28 r28_13 (by decide)) (OwnN.rd hv38) (by simp only [List.length_append,QaE,hb0,List.length_cons,List.length_nil]; omega) y11_13 fun z1 W14 f39 y14 l14=>?_
  have x14:Ext w W14:=Ext.low x13 l14 x11.size
  refine Qaa (z1) 14 rfl kj kj ?_
  refine Qaf ?_
  refine hK27 _ _ ?_
  refine wp_seq_k fun K41 hK41=>?_
  refine Qc8 (fun _=>True) kj fun W15 e15=>⟨trivial,?_⟩
  have x15:Ext w W15:=Ext.tr x14 e15
  refine QaQ 0 (z1) 76 rfl rfl kj kj (fun _ _ _ h=>h) (fun W hR=>by kernel_rfl) ?_
  refine QaQ 1 (.slice (some ⟨g24,0,none⟩) 32 32) 77 rfl rfl kj kj (fun _ _ _ h=>h) (fun W hR=>by kernel_rfl) ?_
  refine QaQ 3 (.slice (some ⟨g26,0,none⟩) 32 32) 79 rfl rfl kj kj (fun _ _ _ h=>h) (fun W hR=>by kernel_rfl) ?_
  refine Qc1 2 kj ?_
  have f42_15:=(f39.ext e15)
  have r24_9:=(Qah r24_8 e9)
  have r24_10:=(Qah r24_9 e10)
  have r24_11:=(Puts.row p11 r24_10 (Qay r24_9 l26))
  have r24_12:=(Qah r24_11 e12)
  have r24_13:=(Qah r24_12 e13)
  have r24_14:=(Qb1 l14 r24_13 (Qa5 r24_11))
  have r24_15:=(Qah r24_14 e15)
  have y11_15:Ext W11 W15:=(Rely.Ext.trans y14 e15)
  refine Wr.wo_appendT (k:=.u8) (T:=5) (xs:=[2]++QaI n5.n) (ys:=dig (txtN ts wo k l)) (V:=W11) 1 (.tmp 76) (.tmp 77) 59 rfl kj kj (by decide) 78 rfl 2 rfl kj kj kj f42_15 (QaT (xs:=dig (txtN ts wo k l)) (n:=32) (QaE _) r24_15 (Qa5 r24_15) (show 32≤maxLen from by decide)) (by simp only [List.length_append,QaE,hb0,List.length_cons,List.length_nil]; omega) y11_15 fun z2 W16 f43 y16 l16=>?_
  have x16:Ext w W16:=Ext.low x15 l16 x11.size
  refine Qc1 4 kj ?_
  have r26_12:=(Qah r26_11 e12)
  have r26_13:=(Qah r26_12 e13)
  have r26_14:=(Qb1 l14 r26_13 (Qa5 r26_11))
  have r26_15:=(Qah r26_14 e15)
  have r26_16:=(Qb1 l16 r26_15 (Qa5 r26_11))
  refine Wr.wo_appendT (k:=.u8) (T:=5) (xs:=[2]++QaI n5.n++dig (txtN ts wo k l)) (ys:=dig (txtN ts wo k r)) (V:=W11) 1 (.tmp 78) (.tmp 79) 59 rfl kj kj (by decide) 80 rfl 4 rfl kj kj kj f43 (QaT (xs:=dig (txtN ts wo k r)) (n:=32) (QaE _) r26_16 (Qa5 r26_16) (show 32≤maxLen from by decide)) (by simp only [List.length_append,QaE,hb0,List.length_cons,List.length_nil]; omega) y16 fun z3 W17 f45 y17 l17=>?_
  have x17:Ext w W17:=Ext.low x16 l17 x11.size
  refine QaQ 5 (z3) 6 rfl rfl kj kj (fun _ _ _ h=>h) (fun W hR=>by kernel_rfl) ?_
  refine Qfr kj ?_
  refine hK41 _ _ ?_
  refine wp_ret ?_
  repeat (first | with_reducible refine goR1 ?_ | with_reducible refine goR2 ?_)
  exact (show bodyPost _ _ _ .ret _ _ from ret1 (z3) rfl (Qaq kj) ⟨_,rfl,x17,OwnN.base x11.size (by have h9:=f45; rw [Qco k hl0 hr0]; rw [hn5] at h9; exact h9)⟩)
theorem QlJ (ts : List NdV) (a_t:Option Addr) (c_t B1:Nat) (htl:ts.length≤100000) (hmt:∀ i,i<ts.length→(ndi ts i).n.ms.length≤50) (L:Nat) (f:Form ts L) (ok0:∀ x,x<ts.length→NdOk (ndi ts x).n) (wo:List Int) (a_o:Option Addr) (c_o Bo:Nat) (w:World) (ht:TrAt B1 w a_t ts) (hol:wo.length≤1000000) (ho:RdK .i64 Bo wo (.slice a_o wo.length c_o) w) (k x:Nat) (hx:x<ts.length) (htx:∀ w,TrAt B1 w a_t ts→RdK .i64 w.heap.size wo (.slice a_o wo.length c_o) w→Calls Tryd.prog 35 #[.slice a_t ts.length c_t,.int .i64 ((x:Nat):Int),.slice a_o wo.length c_o] w (QbK w (OwnN .u8 5 w.heap.size (txtN ts wo k x)))):Calls Tryd.prog 14 #[.slice a_t ts.length c_t,.int .i64 ((x:Nat):Int),.slice a_o wo.length c_o] w (Ret w (.agg (ints .u8 (dig (txtN ts wo k x))))):=by
  have htx1:=Qhu (wo:=wo) ok0 hmt k x hx
  refine enter 12 [(0,.slice a_t ts.length c_t),(1,.int .i64 ((x:Nat):Int)),(2,.slice a_o wo.length c_o)] Tryd.func14 rfl rfl kj rfl ?_
  refine wp_seq_k fun K1 hK1=>?_
  refine Qab ?_
  refine Qan (ints .u8 (List.replicate 32 0)) 28 6 rfl kj kj fun g2 W1 l2 e1 r2_1=>?_
  have x1:Ext w W1:=Ext.tr (Rely.Ext.refl w) e1
  have b2:w.heap.size≤g2:=qT (Rely.Ext.refl w).size l2
  refine Qaf ?_
  refine hK1 _ _ ?_
  refine wp_seq_k fun K3 hK3=>?_
  refine Qab ?_
  refine Qaa (.slice a_t ts.length c_t) 7 rfl kj kj ?_
  refine Qaa (.int .i64 ((x:Nat):Int)) 8 rfl kj kj ?_
  refine Qaa (.slice a_o wo.length c_o) 9 rfl kj kj ?_
  refine Qa1 (fun v W'=>(OwnN .u8 5 W1.heap.size (txtN ts wo k x)) v W'∧Ext W1 W') 35 #[.slice a_t ts.length c_t,.int .i64 ((x:Nat):Int),.slice a_o wo.length c_o] 10 rfl kj kj ((htx _ (TrAt.ext ht x1) (RdK.here (RdK.ext ho x1))).mono (by rintro e w' ⟨v,rfl,e1,hv⟩; exact ⟨v,rfl,hv,e1⟩)) fun vv4 W2 hh4=>?_
  obtain ⟨hv4,e2⟩:=hh4
  have x2:Ext w W2:=Ext.tr x1 e2
  obtain ⟨ab_,cb_,rfl,-⟩:=id (OwnN.rd hv4)
  have hrd5:=(OwnN.rd hv4)
  refine Qal (.agg (ints .u8 (dig (txtN ts wo k x)))) 34 #[.slice ab_ ((txtN ts wo k x).length) cb_] 11 rfl kj kj (Qh8 (txtN ts wo k x) _ _ _ (qT htx1.2 (by decide)) htx1.1 (RdK.here hrd5)) fun W3 e3=>?_
  have x3:Ext w W3:=Ext.tr x2 e3
  have r2_2:=(Qah r2_1 e2)
  have r2_3:=(Qah r2_2 e3)
  refine Qau g2 _ (ints .u8 (dig (txtN ts wo k x))) 28 r2_3 rfl kj (Qas 28 _ _ g2 28 _ _ r2_3 rfl kj kj (isz (n:=32) kj ((Qae _ _).trans (QaE _))) (eqsz (n:=32) ((Qae _ _).trans (qZ (n:=32))) ((Qae _ _).trans (QaE _))) (Qaw _ _)) fun W4 p4 r2_4=>?_
  have x4:Ext w W4:=Puts.ext p4 x3 b2
  refine Qaf ?_
  refine hK3 _ _ ?_
  refine wp_ret ?_
  repeat (first | with_reducible refine goR1 ?_ | with_reducible refine goR2 ?_)
  exact (show bodyPost _ _ _ .ret _ _ from ret1 (.agg (ints .u8 (dig (txtN ts wo k x)))) rfl (Qb8 g2 28 _ r2_4 kj kj (isz (n:=32) kj ((Qae _ _).trans (QaE _)))) ⟨rfl,x4⟩)
theorem QlK (ts : List NdV) (a_t:Option Addr) (c_t B1:Nat) (htl:ts.length≤100000) (hmt:∀ i,i<ts.length→(ndi ts i).n.ms.length≤50) (L:Nat) (f:Form ts L) (ok0:∀ x,x<ts.length→NdOk (ndi ts x).n) (wo:List Int) (a_o:Option Addr) (c_o:Nat) (hol:wo.length≤1000000):∀ (k x:Nat),k≤5→x<ts.length→lv ((x:Nat):Int)≤((k:Nat):Int)→(∀ w,TrAt B1 w a_t ts→RdK .i64 w.heap.size wo (.slice a_o wo.length c_o) w→Calls Tryd.prog 35 #[.slice a_t ts.length c_t,.int .i64 ((x:Nat):Int),.slice a_o wo.length c_o] w (QbK w (OwnN .u8 5 w.heap.size (txtN ts wo k x))))∧(∀ w,TrAt B1 w a_t ts→RdK .i64 w.heap.size wo (.slice a_o wo.length c_o) w→Calls Tryd.prog 14 #[.slice a_t ts.length c_t,.int .i64 ((x:Nat):Int),.slice a_o wo.length c_o] w (Ret w (.agg (ints .u8 (dig (txtN ts wo k x)))))):=by
  have hlen:=f.len
  have hTr:=f.tr
  intro k
  induction k with
  | zero =>
    intro x hk hx hl
    have h0:=Qip (by omega) (show lv ((x:Nat):Int)≤0 from hl)
    have hA:∀ w,TrAt B1 w a_t ts→RdK .i64 w.heap.size wo (.slice a_o wo.length c_o) w→Calls Tryd.prog 35 #[.slice a_t ts.length c_t,.int .i64 ((x:Nat):Int),.slice a_o wo.length c_o] w (QbK w (OwnN .u8 5 w.heap.size (txtN ts wo 0 x))):=fun w ht ho=>Qgt ts a_t c_t B1 htl hmt L f ok0 wo a_o c_o _ w ht hol ho 0 x hx h0
    exact ⟨hA,fun w ht ho=>QlJ ts a_t c_t B1 htl hmt L f ok0 wo a_o c_o _ w ht hol ho 0 x hx hA⟩
  | succ k ih =>
    intro x hk hx hl
    have hA:∀ w,TrAt B1 w a_t ts→RdK .i64 w.heap.size wo (.slice a_o wo.length c_o) w→Calls Tryd.prog 35 #[.slice a_t ts.length c_t,.int .i64 ((x:Nat):Int),.slice a_o wo.length c_o] w (QbK w (OwnN .u8 5 w.heap.size (txtN ts wo (k+1) x))):=fun w ht ho=>by
      have hi:i64 ((x:Nat):Int):=⟨by omega,by omega⟩
      rcases Qcj (QaS hTr (x:=x) (by omega)) with ⟨-,⟨h0,h1⟩ | ⟨h2,h3,h4,h5⟩⟩
      · exact Qgt ts a_t c_t B1 htl hmt L f ok0 wo a_o c_o _ w ht hol ho (k+1) x hx (QgH (QaS hTr (x:=x) (by omega)) h0)
      · obtain ⟨l,hl0⟩:=Int.eq_ofNat_of_zero_le (Qcb h2)
        obtain ⟨r,hr0⟩:=Int.eq_ofNat_of_zero_le (Qcb h3)
        have hll:=Qcc h2
        have hrl:=Qcc h3
        exact QiK ts a_t c_t B1 htl hmt L f ok0 wo a_o c_o _ w ht hol ho k x hx (fun q=>by have:=Qfg (by omega) q; omega) l r hl0 hr0 (fun W=>by have:=(quiet (rchildren _ hi W)); rw [hl0,hr0] at this; exact this) (ih l (by omega) (by omega) (by rw [←hl0]; omega)).2 (ih r (by omega) (by omega) (by rw [←hr0]; omega)).2
    exact ⟨hA,fun w ht ho=>QlJ ts a_t c_t B1 htl hmt L f ok0 wo a_o c_o _ w ht hol ho (k+1) x hx hA⟩
end Go.Proofs.YthfkppjajmjpnaaDoor.Te
end
section
namespace Go.Proofs.YthfkppjajmjpnaaDoor.Te
open Go Go.RowKit
open Rely Auto Own Seat Wk Sha
theorem TrAt.oks {B : Nat} {w:World} {a:Option Addr} {ts:List NdV} (h:TrAt B w a ts):∀ x,x<ts.length→NdOk (ndi ts x).n:=by
  obtain ⟨g,o,h1,h2⟩:=h
  exact fun x hx=>(h2 x hx).ok
theorem Qj6 {n : NdV} {base g:Nat} {W:World} (hg:base≤g) (r:W.heap[g]? = some (.cells (cat (ndP n)) 50)) (ok:NdOk n.n) (hn:NdIn base W n):TrAt W.heap.size W (some ⟨g,0,none⟩) [n] :=
  (OwH.made (h:=none) (ts:=[n]) (c:=1) hg r (Qcy _ ok) (qR _) (by decide) (fun i hi j hj=>by obtain rfl:i=0:=Nat.lt_one_iff.1 hi; rw [Nat.zero_mul,Nat.zero_add]; rfl) (fun i hi=>by obtain rfl:i=0:=Nat.lt_one_iff.1 hi; exact ok) (fun i hi _=>by obtain rfl:i=0:=Nat.lt_one_iff.1 hi; exact hn) (fun i j hi hj hij _ _=>absurd ((Nat.lt_one_iff.1 hi).trans (Nat.lt_one_iff.1 hj).symm) hij)).tr
def dgN (ts : List NdV) (wo:List Int) (x:Nat):List Int:=dig (txtN ts wo 5 x)
theorem QaL (ts : List NdV) (wo:List Int) (x:Nat):(dgN ts wo x).length=32:=QaE _
theorem QcW {ts : List NdV} {L x:Nat} (f:Form ts L) (hx:x<ts.length):lv ((x:Nat):Int)≤((5:Nat):Int):=by
  have hlen:=f.len
  have hTr:=f.tr
  exact (Qcj (QaS hTr (x:=x) (by omega))).1
theorem Qga {ts : List NdV} {L:Nat} (f:Form ts L):leaves ((ts.length:Nat):Int)=((L:Nat):Int):=by
  have h1:=f.len
  have h2:=Qa9 f.tr
  have e:(ts.length:Nat)=2*L-1:=by omega
  rcases h2 with h | h | h | h | h | h <;> (obtain rfl:L=_:=Int.ofNat.inj h; rw [e]; decide +kernel)
theorem digD (ts : List NdV) (a_t:Option Addr) (c_t B1:Nat) (htl:ts.length≤100000) (hmt:∀ i,i<ts.length→(ndi ts i).n.ms.length≤50) (hc:chkT ts=true) (wo:List Int) (a_o:Option Addr) (c_o Bo:Nat) (w:World) (ht:TrAt B1 w a_t ts) (hT:TabAt w) (hSh:ShT w) (hol:wo.length≤1000000) (ho:RdK .i64 Bo wo (.slice a_o wo.length c_o) w) (x:Nat) (hx:x<ts.length):Calls Tryd.prog 27 #[.slice a_t ts.length c_t,.int .i64 ((x:Nat):Int),.slice a_o wo.length c_o] w (Ret w (.agg (ints .u8 (dgN ts wo x)))):=by
  obtain ⟨L,f,-⟩:=QbH htl hc
  exact digP ts a_t c_t B1 htl hmt L f ht.oks wo a_o c_o 0 hol 5 x (qR _) hx (QcW f hx) w ht hT hSh (RdK.here ho)
theorem Qmz (ts : List NdV) (a_t:Option Addr) (c_t B1:Nat) (htl:ts.length≤100000) (hmt:∀ i,i<ts.length→(ndi ts i).n.ms.length≤50) (hc:chkT ts=true) (wo:List Int) (a_o:Option Addr) (c_o Bo:Nat) (w:World) (ht:TrAt B1 w a_t ts) (hol:wo.length≤1000000) (ho:RdK .i64 Bo wo (.slice a_o wo.length c_o) w) (x:Nat) (hx:x<ts.length):Calls Tryd.prog 14 #[.slice a_t ts.length c_t,.int .i64 ((x:Nat):Int),.slice a_o wo.length c_o] w (Ret w (.agg (ints .u8 (dgN ts wo x)))):=by
  obtain ⟨L,f,-⟩:=QbH htl hc
  exact (QlK ts a_t c_t B1 htl hmt L f ht.oks wo a_o c_o hol 5 x (qR _) hx (QcW f hx)).2 w ht (RdK.here ho)
set_option maxRecDepth 100000 in
theorem QlU (ts : List NdV) (a_t:Option Addr) (c_t B1:Nat) (htl:ts.length≤100000) (hmt:∀ i,i<ts.length→(ndi ts i).n.ms.length≤50) (wo:List Int) (a_o:Option Addr) (c_o Bo:Nat) (w:World) (ht:TrAt B1 w a_t ts) (hT:TabAt w) (hSh:ShT w) (hol:wo.length≤1000000) (ho:RdK .i64 Bo wo (.slice a_o wo.length c_o) w) (hc:chkT ts=true) (x:Nat) (hx:x<ts.length):Calls Tryd.prog 10 #[.slice a_t ts.length c_t,.int .i64 ((x:Nat):Int),.slice a_o wo.length c_o] w (Ret w (.tuple #[.agg (ints .u8 (dgN ts wo x)),.bool true])):=by
  refine enter 26 [(0,.slice a_t ts.length c_t),(1,.int .i64 ((x:Nat):Int)),(2,.slice a_o wo.length c_o)] Tryd.func10 rfl rfl kj rfl ?_
  refine wp_seq_k fun K1 hK1=>?_
  refine Qab ?_
  refine Qan (ints .u8 (List.replicate 32 0)) 28 6 rfl kj kj fun g2 W1 l2 e1 r2_1=>?_
  have x1:Ext w W1:=Ext.tr (Rely.Ext.refl w) e1
  have b2:w.heap.size≤g2:=qT (Rely.Ext.refl w).size l2
  refine Qaa (.bool false) 7 rfl kj kj ?_
  refine Qaf ?_
  refine hK1 _ _ ?_
  refine wp_seq_k fun K3 hK3=>?_
  refine wp_seq_k fun K4 hK4=>?_
  refine Qab ?_
  refine Qaa (.int .i64 ((x:Nat):Int)) 8 rfl kj kj ?_
  refine Qaa (.bool false) 9 rfl kj (Qai (u:=.bool (decide (((x:Nat):Int)<0))) kj (congrArg Value.bool (decide_eq_false (by omega)))) ?_
  refine Qaa (.bool false) 10 rfl kj kj ?_
  refine Qaa (.int .i64 ((x:Nat):Int)) 11 rfl kj kj ?_
  refine Qaa (.slice a_t ts.length c_t) 12 rfl kj kj ?_
  refine Qaa (.int .i64 ((ts.length:Nat):Int)) 13 rfl kj kj ?_
  refine Qaa (.bool false) 14 rfl kj (Qai (u:=.bool (decide (((x:Nat):Int)≥((ts.length:Nat):Int)))) kj (congrArg Value.bool (decide_eq_false (by omega)))) ?_
  refine Qaa (.bool false) 15 rfl kj kj ?_
  refine Qaa (.bool false) 16 rfl kj kj ?_
  refine Qaa (.slice a_t ts.length c_t) 17 rfl kj kj ?_
  refine Qal (.nilIface) 26 #[.slice a_t ts.length c_t] 18 rfl kj kj (QjM ts a_t c_t _ _ (TrAt.ext ht x1) htl (fun i hi=>qT (hmt i hi) (by decide)) (TabAt.ext hT x1) hc) fun W2 e2=>?_
  have x2:Ext w W2:=Ext.tr x1 e2
  refine Qaa (.bool false) 19 rfl kj kj ?_
  refine Qaa (.bool false) 20 rfl kj kj ?_
  refine Qaf ?_
  refine hK4 _ _ ?_
  refine cond_false kj ?_
  refine wp_skip ?_
  refine hK3 _ _ ?_
  refine wp_seq_k fun K5 hK5=>?_
  refine Qab ?_
  refine Qaa (.slice a_t ts.length c_t) 22 rfl kj kj ?_
  refine Qaa (.int .i64 ((x:Nat):Int)) 23 rfl kj kj ?_
  refine Qaa (.slice a_o wo.length c_o) 24 rfl kj kj ?_
  refine Qal (.agg (ints .u8 (dgN ts wo x))) 27 #[.slice a_t ts.length c_t,.int .i64 ((x:Nat):Int),.slice a_o wo.length c_o] 25 rfl kj kj (digD ts a_t c_t B1 htl hmt hc wo a_o c_o _ _ (TrAt.ext ht x2) (TabAt.ext hT x2) (ShT.ext hSh x2) hol (RdK.ext ho x2) x hx) fun W3 e3=>?_
  have x3:Ext w W3:=Ext.tr x2 e3
  have r2_2:=(Qah r2_1 e2)
  have r2_3:=(Qah r2_2 e3)
  refine Qau g2 _ (ints .u8 (dgN ts wo x)) 28 r2_3 rfl kj (Qas 28 _ _ g2 28 _ _ r2_3 rfl kj kj (isz (n:=32) kj ((Qae _ _).trans (QaL ts wo x))) (eqsz (n:=32) ((Qae _ _).trans (qZ (n:=32))) ((Qae _ _).trans (QaL ts wo x))) (Qaw _ _)) fun W4 p4 r2_4=>?_
  have x4:Ext w W4:=Puts.ext p4 x3 b2
  refine Qaa (.bool true) 7 rfl kj kj ?_
  refine Qaf ?_
  refine hK5 _ _ ?_
  refine wp_ret ?_
  repeat (first | with_reducible refine goR1 ?_ | with_reducible refine goR2 ?_)
  exact (show bodyPost _ _ _ .ret _ _ from ret2 (.agg (ints .u8 (dgN ts wo x))) (.bool true) rfl (Qb8 g2 28 _ r2_4 kj kj (isz (n:=32) kj ((Qae _ _).trans (QaL ts wo x)))) (Qaq kj) ⟨rfl,x4⟩)
set_option maxRecDepth 100000 in
theorem QiX (ts : List NdV) (a_t:Option Addr) (c_t B1:Nat) (htl:ts.length≤100000) (hmt:∀ i,i<ts.length→(ndi ts i).n.ms.length≤50) (hc:chkT ts=true) (w:World) (ht:TrAt B1 w a_t ts) (hT:TabAt w) (hSh:ShT w) (L:Nat) (hL:leaves ((ts.length:Nat):Int)=((L:Nat):Int)) (h0:0<ts.length) (hroot:∀ W,Calls Tryd.prog 28 #[.int .i64 ((L:Nat):Int)] W (Ret W (.int .i64 ((ts.length/2:Nat):Int)))):Calls Tryd.prog 11 #[.slice a_t ts.length c_t] w (Ret w (.tuple #[.agg (ints .u8 (dgN ts [] (ts.length/2))),.bool true])):=by
  refine enter 12 [(0,.slice a_t ts.length c_t)] Tryd.func11 rfl rfl kj rfl ?_
  refine wp_seq_k fun K1 hK1=>?_
  refine Qab ?_
  refine Qan (ints .u8 (List.replicate 32 0)) 28 2 rfl kj kj fun g2 W1 l2 e1 r2_1=>?_
  have x1:Ext w W1:=Ext.tr (Rely.Ext.refl w) e1
  have b2:w.heap.size≤g2:=qT (Rely.Ext.refl w).size l2
  refine Qaa (.bool false) 3 rfl kj kj ?_
  refine Qaf ?_
  refine hK1 _ _ ?_
  refine wp_seq_k fun K3 hK3=>?_
  refine Qab ?_
  refine Qaa (.slice a_t ts.length c_t) 4 rfl kj kj ?_
  refine Qaa (.slice a_t ts.length c_t) 5 rfl kj kj ?_
  refine Qaa (.int .i64 ((ts.length:Nat):Int)) 6 rfl kj kj ?_
  refine Qal (.int .i64 ((L:Nat):Int)) 29 #[.int .i64 ((ts.length:Nat):Int)] 7 rfl kj kj (Qcd ((ts.length:Nat):Int) ⟨by omega,by omega⟩ _ hL _) fun W2 e2=>?_
  have x2:Ext w W2:=Ext.tr x1 e2
  refine Qal (.int .i64 (((ts.length/2):Nat):Int)) 28 #[.int .i64 ((L:Nat):Int)] 8 rfl kj kj (hroot _) fun W3 e3=>?_
  have x3:Ext w W3:=Ext.tr x2 e3
  refine Qal (.tuple #[.agg (ints .u8 (dgN ts [] (ts.length/2))),.bool true]) 10 #[.slice a_t ts.length c_t,.int .i64 (((ts.length/2):Nat):Int),.slice none 0 0] 9 rfl kj kj (QlU ts a_t c_t B1 htl hmt [] none 0 0 _ (TrAt.ext ht x3) (TabAt.ext hT x3) (ShT.ext hSh x3) (by decide) (show RdK .i64 0 ([]:List Int) (.slice none ([]:List Int).length 0) _ from Qei 0 _) hc (ts.length/2) (by omega)) fun W4 e4=>?_
  have x4:Ext w W4:=Ext.tr x3 e4
  refine Qaa (.agg (ints .u8 (dgN ts [] (ts.length/2)))) 10 rfl kj kj ?_
  refine Qaa (.bool true) 11 rfl kj kj ?_
  have r2_2:=(Qah r2_1 e2)
  have r2_3:=(Qah r2_2 e3)
  have r2_4:=(Qah r2_3 e4)
  refine Qau g2 _ (ints .u8 (dgN ts [] (ts.length/2))) 28 r2_4 rfl kj (Qas 28 _ _ g2 28 _ _ r2_4 rfl kj kj (isz (n:=32) kj ((Qae _ _).trans (QaL ts [] (ts.length/2)))) (eqsz (n:=32) ((Qae _ _).trans (qZ (n:=32))) ((Qae _ _).trans (QaL ts [] (ts.length/2)))) (Qaw _ _)) fun W5 p5 r2_5=>?_
  have x5:Ext w W5:=Puts.ext p5 x4 b2
  refine Qaa (.bool true) 3 rfl kj kj ?_
  refine Qaf ?_
  refine hK3 _ _ ?_
  refine wp_ret ?_
  repeat (first | with_reducible refine goR1 ?_ | with_reducible refine goR2 ?_)
  exact (show bodyPost _ _ _ .ret _ _ from ret2 (.agg (ints .u8 (dgN ts [] (ts.length/2)))) (.bool true) rfl (Qb8 g2 28 _ r2_5 kj kj (isz (n:=32) kj ((Qae _ _).trans (QaL ts [] (ts.length/2))))) (Qaq kj) ⟨rfl,x5⟩)
set_option maxRecDepth 100000 in
theorem QlI (ts : List NdV) (a_t:Option Addr) (c_t B1:Nat) (htl:ts.length≤100000) (hmt:∀ i,i<ts.length→(ndi ts i).n.ms.length≤50) (hc:chkT ts=true) (h0:0<ts.length) (w:World) (ht:TrAt B1 w a_t ts):Calls Tryd.prog 13 #[.slice a_t ts.length c_t] w (Ret w (.agg (ints .u8 (dgN ts [] (ts.length/2))))):=by
  refine enter 8 [(0,.slice a_t ts.length c_t)] Tryd.func13 rfl rfl kj rfl ?_
  refine wp_seq_k fun K1 hK1=>?_
  refine Qab ?_
  refine Qan (ints .u8 (List.replicate 32 0)) 28 2 rfl kj kj fun g2 W1 l2 e1 r2_1=>?_
  have x1:Ext w W1:=Ext.tr (Rely.Ext.refl w) e1
  have b2:w.heap.size≤g2:=qT (Rely.Ext.refl w).size l2
  refine Qaf ?_
  refine hK1 _ _ ?_
  refine wp_seq_k fun K3 hK3=>?_
  refine Qab ?_
  refine Qaa (.slice a_t ts.length c_t) 3 rfl kj kj ?_
  refine Qaa (.slice a_t ts.length c_t) 4 rfl kj kj ?_
  refine Qaa (.int .i64 ((ts.length:Nat):Int)) 5 rfl kj kj ?_
  refine Qaa (.int .i64 ((ts.length/2:Nat):Int)) 6 rfl kj (Qai (u:=.int .i64 (IntKind.i64.wrap (Int.tdiv (((ts.length:Nat):Int)) (2)))) kj (congrArg (Value.int .i64) (Qb3 _ 2 (by omega)))) ?_
  refine Qal (.agg (ints .u8 (dgN ts [] (ts.length/2)))) 14 #[.slice a_t ts.length c_t,.int .i64 ((ts.length/2:Nat):Int),.slice none 0 0] 7 rfl kj kj (Qmz ts a_t c_t B1 htl hmt hc [] none 0 0 _ (TrAt.ext ht x1) (by decide) (show RdK .i64 0 ([]:List Int) (.slice none ([]:List Int).length 0) _ from Qei 0 _) (ts.length/2) (by omega)) fun W2 e2=>?_
  have x2:Ext w W2:=Ext.tr x1 e2
  have r2_2:=(Qah r2_1 e2)
  refine Qau g2 _ (ints .u8 (dgN ts [] (ts.length/2))) 28 r2_2 rfl kj (Qas 28 _ _ g2 28 _ _ r2_2 rfl kj kj (isz (n:=32) kj ((Qae _ _).trans (QaL ts [] (ts.length/2)))) (eqsz (n:=32) ((Qae _ _).trans (qZ (n:=32))) ((Qae _ _).trans (QaL ts [] (ts.length/2)))) (Qaw _ _)) fun W3 p3 r2_3=>?_
  have x3:Ext w W3:=Puts.ext p3 x2 b2
  refine Qaf ?_
  refine hK3 _ _ ?_
  refine wp_ret ?_
  repeat (first | with_reducible refine goR1 ?_ | with_reducible refine goR2 ?_)
  exact (show bodyPost _ _ _ .ret _ _ from ret1 (.agg (ints .u8 (dgN ts [] (ts.length/2)))) rfl (Qb8 g2 28 _ r2_3 kj kj (isz (n:=32) kj ((Qae _ _).trans (QaL ts [] (ts.length/2))))) ⟨rfl,x3⟩)
theorem Qir {ts : List NdV} (htl:ts.length≤100000) (hc:chkT ts=true):0<ts.length:=by
  obtain ⟨L,f,-⟩:=QbH htl hc
  have h1:=f.len
  have h2:=Qa9 f.tr
  omega
theorem QcU (ts : List NdV) (a_t:Option Addr) (c_t B1:Nat) (htl:ts.length≤100000) (hmt:∀ i,i<ts.length→(ndi ts i).n.ms.length≤50) (hc:chkT ts=true) (w:World) (ht:TrAt B1 w a_t ts) (hT:TabAt w) (hSh:ShT w):Calls Tryd.prog 11 #[.slice a_t ts.length c_t] w (Ret w (.tuple #[.agg (ints .u8 (dgN ts [] (ts.length/2))),.bool true])):=by
  obtain ⟨L,f,-⟩:=QbH htl hc
  have h1:=f.len
  have h2:=Qa9 f.tr
  refine QiX ts a_t c_t B1 htl hmt hc w ht hT hSh L (Qga f) (by omega) (fun W=>?_)
  have h3:=quiet (root ((L:Nat):Int) W)
  rw [if_pos f.tr,show ((L:Nat):Int)-1=((ts.length/2:Nat):Int) by omega] at h3
  exact h3
set_option maxRecDepth 100000 in
theorem QhY (ts : List NdV) (a_t:Option Addr) (c_t B1:Nat) (w:World) (ht:TrAt B1 w a_t ts):Calls Tryd.prog 9 #[.slice a_t ts.length c_t] w (fun e W=>∃ b,e=.returned (.bool b)∧Ext w W∧(b=false→∀ i,i<ts.length→i≤40∧(ndi ts i).n.ms.length≤50)∧(b=true→¬ ∀ i,i<ts.length→i≤40∧(ndi ts i).n.ms.length≤50)):=by
 refine enter 21 [(0,.slice a_t ts.length c_t)] Tryd.func9 rfl rfl kj rfl ?_
 refine wp_seq_k fun K1 hK1=>?_
 refine Qab ?_
 refine Qaa (.bool false) 2 rfl kj kj ?_
 refine Qaf ?_
 refine hK1 _ _ ?_
 refine wp_seq_k fun K2 hK2=>?_
 refine wp_seq_k fun K3 hK3=>?_
 refine Qab ?_
 refine Qaa (.slice a_t ts.length c_t) 5 rfl kj kj ?_
 refine Qaa (.int .i64 ((ts.length:Nat):Int)) 6 rfl kj kj ?_
 refine Qaa (.int .i64 0) 7 rfl kj kj ?_
 refine Qaf ?_
 refine hK3 _ _ ?_
 refine wp_block ?_
 refine Qa0 (fun (s1:Nat)=>[(5,.slice a_t ts.length c_t),(6,.int .i64 ((ts.length:Nat):Int)),(7,.int .i64 ((s1:Nat):Int))]) (fun (s1:Nat) W=>(s1≤ts.length)∧(∀ j,j<s1→j≤40∧(ndi ts j).n.ms.length≤50)∧(Ext w W)∧(Ext w W)) (fun (s1:Nat)=>ts.length-s1) 0 ⟨rfl,rfl,rfl,trivial⟩ ⟨(Nat.zero_le _),(fun j hj=>absurd hj (Nat.not_lt_zero j)),(Rely.Ext.refl w),(Rely.Ext.refl w)⟩ fun s1 X1 V1 hI1=>?_
 obtain ⟨i,hs1⟩:∃ z,z=s1:=⟨_,rfl⟩
 subst hs1
 obtain ⟨hi,hsm,kk1,xx1⟩:=hI1
 replace hi:i≤ts.length:=hi
 replace hsm:∀ j,j<i→j≤40∧(ndi ts j).n.ms.length≤50:=hsm
 replace kk1:Ext w V1:=kk1
 replace xx1:Ext w V1:=xx1
 have e1:=kk1
 refine wp_seq_k fun K4 hK4=>?_
 refine Qab ?_
 refine Qaa (.bool (decide (((i:Nat):Int)<((ts.length:Nat):Int)))) 8 rfl kj kj ?_
 refine Qaf ?_
 refine hK4 _ _ ?_
 refine wp_seq_k fun K5 hK5=>?_
 refine Qar (t:=decide (((i:Nat):Int)<((ts.length:Nat):Int))) kj (fun c6=>?_) (fun c6=>?_)
 ·skip
  have hlt8:i<ts.length:=by have:=of_decide_eq_true c6; omega
  refine wp_skip ?_
  refine hK5 _ _ ?_
  refine wp_seq_k fun K7 hK7=>?_
  refine wp_block ?_
  refine wp_seq_k fun K8 hK8=>?_
  refine Qab ?_
  refine Qaa (.int .i64 ((i:Nat):Int)) 9 rfl kj kj ?_
  obtain ⟨gtT,otT,hat,hnts⟩:=TrAt.ext ht xx1
  have hnt:=hnts i (by omega)
  obtain ⟨nt,ent⟩:∃ z,z=ndi ts i:=⟨_,rfl⟩
  rw [←ent] at hnt
  have okt:=hnt.ok
  have rdt:=hnt.rd
  refine Qaa (.pointer (some ⟨gtT,otT+i*99,none⟩)) 10 rfl kj (Qap 23 _ _ .i64 i gtT otT ts.length c_t 50 99 a_t (hat (by omega)) rfl kj kj kj kj (by omega)) ?_
  refine Qaa (.agg (cat [#[.bool nt.n.us],#[.int .i64 nt.n.nm],ints .u8 (nt.n.key),ints .u8 (nt.n.sg),ints .u8 (nt.n.pa),#[.slice nt.a nt.n.ms.length nt.c]])) 11 rfl kj (QaH 50 _ gtT (otT+i*99) nt hnt rfl kj kj kj) ?_
  refine Qan (cat [#[.bool false],#[.int .i64 0],ints .u8 (List.replicate 32 0),ints .u8 (List.replicate 32 0),ints .u8 (List.replicate 32 0),#[.slice none 0 0]]) 50 4 rfl kj kj fun g9 W2 l9 e2 r9_2=>?_
  have x2:Ext w W2:=Ext.tr xx1 e2
  have b9:w.heap.size≤g9:=qT xx1.size l9
  refine Qaa (.int .i64 ((i:Nat):Int)) 3 rfl kj kj ?_
  refine Qau g9 _ (cat [#[.bool nt.n.us],#[.int .i64 nt.n.nm],ints .u8 (nt.n.key),ints .u8 (nt.n.sg),ints .u8 (nt.n.pa),#[.slice nt.a nt.n.ms.length nt.c]]) 50 r9_2 rfl kj (Qas 50 _ _ g9 50 _ _ r9_2 rfl kj kj (isz (n:=99) kj (by rw [Qac,Qac,Qac,Qac,Qac,Qac]; simp only [qS,cat,((Qae _ _).trans okt.gl),((Qae _ _).trans okt.kl),((Qae _ _).trans okt.pl)]; rfl)) (eqsz (n:=99) (by rw [Qac,Qac,Qac,Qac,Qac,Qac]; simp only [qS,cat,((Qae _ _).trans (qZ (n:=32)))]; rfl) (by rw [Qac,Qac,Qac,Qac,Qac,Qac]; simp only [qS,cat,((Qae _ _).trans okt.gl),((Qae _ _).trans okt.kl),((Qae _ _).trans okt.pl)]; rfl)) (Qbm _ (by intro a ha; simp only [List.mem_cons,List.not_mem_nil,or_false] at ha; rcases ha with rfl | rfl | rfl | rfl | rfl | rfl; exact (Qa7 _ rfl); exact (Qa7 _ rfl); exact (Qaw _ _); exact (Qaw _ _); exact (Qaw _ _); exact (Qa7 _ rfl)))) fun W3 p3 r9_3=>?_
  have x3:Ext w W3:=Puts.ext p3 x2 b9
  refine Qaf ?_
  refine hK8 _ _ ?_
  refine wp_seq_k fun K10 hK10=>?_
  rcases (show 40<i∨(i≤40∧50<nt.n.ms.length)∨(i≤40∧nt.n.ms.length≤50) by omega) with hq | hq | hq
  ·skip
   refine Qab ?_
   refine Qaa (.int .i64 ((i:Nat):Int)) 12 rfl kj kj ?_
   refine Qaa (.bool true) 13 rfl kj (Qai (u:=.bool (decide (((i:Nat):Int)>40))) kj (congrArg Value.bool (decide_eq_true (by omega)))) ?_
   refine Qaa (.bool true) 14 rfl kj kj ?_
   refine Qad 15 rfl kj ?_
   refine Qad 16 rfl kj ?_
   refine Qad 17 rfl kj ?_
   refine Qad 18 rfl kj ?_
   refine Qaa (.bool true) 19 rfl kj kj ?_
   refine Qaf ?_
   refine hK10 _ _ ?_
   refine cond_true kj ?_
   refine wp_seq_k fun K11 hK11=>?_
   refine Qab ?_
   refine Qaa (.bool true) 2 rfl kj kj ?_
   refine Qaf ?_
   refine hK11 _ _ ?_
   refine wp_ret ?_
   repeat (first | with_reducible refine goR1 ?_ | with_reducible refine goR2 ?_)
   exact (show bodyPost _ _ _ .ret _ _ from ret1 (.bool true) rfl (Qaq kj) ⟨true,rfl,x3,(fun h=>by cases h),fun _ h=>by have h9:=h i hlt8; rw [←ent] at h9; omega⟩)
  ·skip
   refine Qab ?_
   refine Qaa (.int .i64 ((i:Nat):Int)) 12 rfl kj kj ?_
   refine Qaa (.bool false) 13 rfl kj (Qai (u:=.bool (decide (((i:Nat):Int)>40))) kj (congrArg Value.bool (decide_eq_false (by omega)))) ?_
   refine Qaa (.bool false) 14 rfl kj kj ?_
   refine Qaa (.pointer (some ⟨g9,98,none⟩)) 15 rfl kj kj ?_
   refine Qaa (.slice nt.a nt.n.ms.length nt.c) 16 rfl kj (Qag 24 _ g9 98 50 _ (.slice nt.a nt.n.ms.length nt.c) _ r9_3 rfl kj (Qaj [#[.bool nt.n.us],#[.int .i64 nt.n.nm],ints .u8 (nt.n.key),ints .u8 (nt.n.sg),ints .u8 (nt.n.pa)] [#[.slice nt.a nt.n.ms.length nt.c]] [] 98 (by rw [Qac,Qac,Qac,Qac,Qac]; simp only [qS,cat,((Qae _ _).trans okt.gl),((Qae _ _).trans okt.kl),((Qae _ _).trans okt.pl)]; rfl) 0 _ rfl) kj) ?_
   refine Qaa (.int .i64 ((nt.n.ms.length:Nat):Int)) 17 rfl kj kj ?_
   refine Qaa (.bool true) 18 rfl kj (Qai (u:=.bool (decide (((nt.n.ms.length:Nat):Int)>50))) kj (congrArg Value.bool (decide_eq_true (by omega)))) ?_
   refine Qaa (.bool true) 19 rfl kj kj ?_
   refine Qaf ?_
   refine hK10 _ _ ?_
   refine cond_true kj ?_
   refine wp_seq_k fun K12 hK12=>?_
   refine Qab ?_
   refine Qaa (.bool true) 2 rfl kj kj ?_
   refine Qaf ?_
   refine hK12 _ _ ?_
   refine wp_ret ?_
   repeat (first | with_reducible refine goR1 ?_ | with_reducible refine goR2 ?_)
   exact (show bodyPost _ _ _ .ret _ _ from ret1 (.bool true) rfl (Qaq kj) ⟨true,rfl,x3,(fun h=>by cases h),fun _ h=>by have h9:=h i hlt8; rw [←ent] at h9; omega⟩)
  ·skip
   refine Qab ?_
   refine Qaa (.int .i64 ((i:Nat):Int)) 12 rfl kj kj ?_
   refine Qaa (.bool false) 13 rfl kj (Qai (u:=.bool (decide (((i:Nat):Int)>40))) kj (congrArg Value.bool (decide_eq_false (by omega)))) ?_
   refine Qaa (.bool false) 14 rfl kj kj ?_
   refine Qaa (.pointer (some ⟨g9,98,none⟩)) 15 rfl kj kj ?_
   refine Qaa (.slice nt.a nt.n.ms.length nt.c) 16 rfl kj (Qag 24 _ g9 98 50 _ (.slice nt.a nt.n.ms.length nt.c) _ r9_3 rfl kj (Qaj [#[.bool nt.n.us],#[.int .i64 nt.n.nm],ints .u8 (nt.n.key),ints .u8 (nt.n.sg),ints .u8 (nt.n.pa)] [#[.slice nt.a nt.n.ms.length nt.c]] [] 98 (by rw [Qac,Qac,Qac,Qac,Qac]; simp only [qS,cat,((Qae _ _).trans okt.gl),((Qae _ _).trans okt.kl),((Qae _ _).trans okt.pl)]; rfl) 0 _ rfl) kj) ?_
   refine Qaa (.int .i64 ((nt.n.ms.length:Nat):Int)) 17 rfl kj kj ?_
   refine Qaa (.bool false) 18 rfl kj (Qai (u:=.bool (decide (((nt.n.ms.length:Nat):Int)>50))) kj (congrArg Value.bool (decide_eq_false (by omega)))) ?_
   refine Qaa (.bool false) 19 rfl kj kj ?_
   refine Qaf ?_
   refine hK10 _ _ ?_
   refine cond_false kj ?_
   refine wp_skip ?_
   refine hK7 _ _ ?_
   refine Qab ?_
   refine Qaa (.int .i64 ((i+1:Nat):Int)) 20 rfl kj (Qai (u:=.int .i64 (IntKind.i64.wrap (((i:Nat):Int)+1))) kj (congrArg (Value.int .i64) (i64n _ _ (by omega) (by omega)))) ?_
   refine Qaa (.int .i64 ((i+1:Nat):Int)) 7 rfl kj kj ?_
   refine Qaf ?_
   have y0_2:Ext w W2:=(Rely.Ext.trans e1 e2)
   have y0_3:Ext w W3:=(Puts.ext p3 y0_2 (qT e1.size l9))
   repeat (first | with_reducible refine goX1 ?_ | with_reducible refine goX2 ?_ | with_reducible refine goX3 ?_)
   exact Qat (i+1) ⟨rfl,rfl,rfl,trivial⟩ ⟨(by omega),(fun j hj=>(Nat.lt_or_ge j i).elim (hsm j) fun h=>by have e:j=i:=(by omega); rw [e,←ent]; exact hq),y0_3,x3⟩ (by show ts.length-(i+1)<ts.length-i; omega)
 ·skip
  have heq8:i=ts.length:=by have:=of_decide_eq_false c6; omega
  refine wp_exit ?_
  refine hK2 _ _ ?_
  refine wp_seq_k fun K13 hK13=>?_
  refine Qab ?_
  refine Qaa (.bool false) 2 rfl kj kj ?_
  refine Qaf ?_
  refine hK13 _ _ ?_
  refine wp_ret ?_
  repeat (first | with_reducible refine goR1 ?_ | with_reducible refine goR2 ?_)
  exact (show bodyPost _ _ _ .ret _ _ from ret1 (.bool false) rfl (Qaq kj) ⟨false,rfl,xx1,(fun _ j hj=>hsm j (by omega)),fun h=>by cases h⟩)
theorem QfD (ts : List NdV) (a_t:Option Addr) (c_t B1:Nat) (w:World) (ht:TrAt B1 w a_t ts) (h:¬ ∀ i,i<ts.length→i≤40∧(ndi ts i).n.ms.length≤50):Calls Tryd.prog 9 #[.slice a_t ts.length c_t] w (Ret w (.bool true)) :=
  (QhY ts a_t c_t B1 w ht).mono fun e W ⟨b,h1,h2,h3,h4⟩=>by
    cases b with
    | true=>exact ⟨h1,h2⟩
    | false=>exact absurd (h3 rfl) h
theorem Qbt (ts : List NdV) (a_t:Option Addr) (c_t B1:Nat) (w:World) (ht:TrAt B1 w a_t ts) (h:∀ i,i<ts.length→i≤40∧(ndi ts i).n.ms.length≤50):Calls Tryd.prog 9 #[.slice a_t ts.length c_t] w (Ret w (.bool false)) :=
  (QhY ts a_t c_t B1 w ht).mono fun e W ⟨b,h1,h2,h3,h4⟩=>by
    cases b with
    | false=>exact ⟨h1,h2⟩
    | true=>exact absurd h (h4 rfl)
theorem sm15 {ts : List NdV} (h:∀ i,i<ts.length→i≤40∧(ndi ts i).n.ms.length≤50):ts.length≤41:=by
  rcases Nat.lt_or_ge 41 ts.length with h1 | h1
  · exact absurd (h 41 h1).1 (by decide)
  · exact h1
end Go.Proofs.YthfkppjajmjpnaaDoor.Te
end
