/- Texts of this claim, joined (V5). -/
import Derived.Test.YtoiendjhplbjjaaDoorZV4
import Derived.Laws.BitsAll
import Derived.Test.YtoiendjhplbjjaaDoorRows
import Derived.Deep.Strs
import Derived.Lib.SmallJoins

set_option linter.unusedVariables false
set_option linter.unusedSimpArgs false
set_option maxHeartbeats 4000000
section
namespace Go.Proofs.YtoiendjhplbjjaaDoor.Ll
open Go Go.RowKit
open Rely Auto Own Sha Sha
open Cha Ae
set_option maxRecDepth 100000 in
theorem QjY (sk rk:List Int) (hsk:sk.length=32) (hrk:rk.length=32) (hskb:Qai sk) (hrkb:Qai rk) (len cap gT oT:Nat) (ad:Option Addr) (ops:Nat→OpV4)  (th tq:TypeId) (w:World) (had:0<len→ad=some ⟨gT,oT,none⟩) (hops:∀ i,i<len→OpAt4 w gT oT i (ops i)) (hh:w.heap[2]? = some (.cells (ints .u32 [1634760805,857760878,2036477234,1797285236]) th)) (hq:w.heap[3]? = some (.cells (ints .i64 [0,4,8,12,1,5,9,13,2,6,10,14,3,7,11,15,0,5,10,15,1,6,11,12,2,7,8,13,3,4,9,14]) tq)) (hub:∀ i,i<len→(ops i).xs.length≤1048576) (hall:¬ ∀ i,i<len→i≤60∧((ops i).xs.length≤300∨65536<(ops i).xs.length)):Calls Tryd.prog 6 #[.agg (ints .u8 sk),.agg (ints .u8 rk),.slice ad len cap] w (Ret w (.bool true)):=by
  refine enter 202 [(0,.agg (ints .u8 (sk))),(1,.agg (ints .u8 (rk))),(2,.slice ad len cap)] Tryd.func6 rfl rfl kj rfl ?_
  refine wp_seq_k fun K3 hK3=>?_
  refine Qac ?_
  refine Qas (ints .u8 (sk)) 23 3 rfl kj kj fun g4 W1 l4 e1 r4_1=>?_
  have x1:Ext w W1:=Ext.tr (Rely.Ext.refl w) e1
  have b4:w.heap.size≤g4:=qT (Rely.Ext.refl w).size l4
  refine Qas (ints .u8 (rk)) 23 4 rfl kj kj fun g5 W2 l5 e2 r5_2=>?_
  have x2:Ext w W2:=Ext.tr x1 e2
  have b5:w.heap.size≤g5:=qT x1.size l5
  refine Qaa (.bool false) 6 rfl kj kj ?_
  refine Qae ?_
  refine hK3 _ _ ?_
  refine wp_seq_k fun K6 hK6=>?_
  refine wp_seq_k fun K7 hK7=>?_
  refine Qac ?_
  refine Qan (.bool true) 41 #[] 25 rfl kj kj ((Lk.alive12) _) fun W3 e3=>?_
  have x3:Ext w W3:=Ext.tr x2 e3
  refine Qaa (.bool false) 26 rfl kj kj ?_
  refine Qae ?_
  refine hK7 _ _ ?_
  refine cond_false kj ?_
  refine wp_skip ?_
  refine hK6 _ _ ?_
  refine wp_seq_k fun K8 hK8=>?_
  refine wp_seq_k fun K9 hK9=>?_
  refine Qac ?_
  refine Qaa (.slice ad len cap) 27 rfl kj kj ?_
  refine Qan (.bool true) 42 #[.slice ad len cap] 28 rfl kj kj (Qig len cap gT oT ad ops _ had (fun i hi=>OpAt4.ext (hops i hi) x3) hub hall) fun W4 e4=>?_
  have x4:Ext w W4:=Ext.tr x3 e4
  refine Qae ?_
  refine hK9 _ _ ?_
  refine cond_true kj ?_
  refine wp_seq_k fun K10 hK10=>?_
  refine Qac ?_
  refine Qaa (.bool true) 6 rfl kj kj ?_
  refine Qae ?_
  refine hK10 _ _ ?_
  refine wp_ret ?_
  repeat (first | with_reducible refine goR1 ?_ | with_reducible refine goR2 ?_)
  exact (show bodyPost _ _ _ .ret _ _ from ret1 (.bool true) rfl (Qaq kj) ⟨rfl,x4⟩)
set_option maxRecDepth 100000 in
theorem QjZ (sk rk:List Int) (hsk:sk.length=32) (hrk:rk.length=32) (hskb:Qai sk) (hrkb:Qai rk) (len cap gT oT:Nat) (ad:Option Addr) (ops:Nat→OpV4)  (th tq:TypeId) (w:World) (had:0<len→ad=some ⟨gT,oT,none⟩) (hops:∀ i,i<len→OpAt4 w gT oT i (ops i)) (hh:w.heap[2]? = some (.cells (ints .u32 [1634760805,857760878,2036477234,1797285236]) th)) (hq:w.heap[3]? = some (.cells (ints .i64 [0,4,8,12,1,5,9,13,2,6,10,14,3,7,11,15,0,5,10,15,1,6,11,12,2,7,8,13,3,4,9,14]) tq)) (hub:∀ i,i<len→(ops i).xs.length≤1048576) (hall:∀ i,i<len→i≤60∧((ops i).xs.length≤300∨65536<(ops i).xs.length)):Calls Tryd.prog 6 #[.agg (ints .u8 sk),.agg (ints .u8 rk),.slice ad len cap] w (Ret w (.bool true)):=by
 refine enter 202 [(0,.agg (ints .u8 (sk))),(1,.agg (ints .u8 (rk))),(2,.slice ad len cap)] Tryd.func6 rfl rfl kj rfl ?_
 refine wp_seq_k fun K3 hK3=>?_
 refine Qac ?_
 refine Qas (ints .u8 (sk)) 23 3 rfl kj kj fun g4 W1 l4 e1 r4_1=>?_
 have x1:Ext w W1:=Ext.tr (Rely.Ext.refl w) e1
 have b4:w.heap.size≤g4:=qT (Rely.Ext.refl w).size l4
 refine Qas (ints .u8 (rk)) 23 4 rfl kj kj fun g5 W2 l5 e2 r5_2=>?_
 have x2:Ext w W2:=Ext.tr x1 e2
 have b5:w.heap.size≤g5:=qT x1.size l5
 refine Qaa (.bool false) 6 rfl kj kj ?_
 refine Qae ?_
 refine hK3 _ _ ?_
 refine wp_seq_k fun K6 hK6=>?_
 refine wp_seq_k fun K7 hK7=>?_
 refine Qac ?_
 refine Qan (.bool true) 41 #[] 25 rfl kj kj ((Lk.alive12) _) fun W3 e3=>?_
 have x3:Ext w W3:=Ext.tr x2 e3
 refine Qaa (.bool false) 26 rfl kj kj ?_
 refine Qae ?_
 refine hK7 _ _ ?_
 refine cond_false kj ?_
 refine wp_skip ?_
 refine hK6 _ _ ?_
 refine wp_seq_k fun K8 hK8=>?_
 refine wp_seq_k fun K9 hK9=>?_
 refine Qac ?_
 refine Qaa (.slice ad len cap) 27 rfl kj kj ?_
 refine Qan (.bool false) 42 #[.slice ad len cap] 28 rfl kj kj (Qih len cap gT oT ad ops _ had (fun i hi=>OpAt4.ext (hops i hi) x3) hub hall) fun W4 e4=>?_
 have x4:Ext w W4:=Ext.tr x3 e4
 refine Qae ?_
 refine hK9 _ _ ?_
 refine cond_false kj ?_
 refine wp_skip ?_
 refine hK8 _ _ ?_
 refine wp_seq_k fun K10 hK10=>?_
 refine Qac ?_
 have r4_2:=(Qab r4_1 e2)
 have r4_3:=(Qab r4_2 e3)
 have r4_4:=(Qab r4_3 e4)
 refine Qaa (.agg (ints .u8 (sk))) 29 rfl kj (Qao 23 _ g4 23 _ _ r4_4 rfl kj kj (isz (n:=32) kj ((Qaf _ _).trans hsk))) ?_
 have r5_3:=(Qab r5_2 e3)
 have r5_4:=(Qab r5_3 e4)
 refine Qaa (.agg (ints .u8 (rk))) 30 rfl kj (Qao 23 _ g5 23 _ _ r5_4 rfl kj kj (isz (n:=32) kj ((Qaf _ _).trans hrk))) ?_
 refine Qat (fun v W'=>(NewL W4.heap.size sk rk) v W'∧Ext W4 W') 43 #[.agg (ints .u8 (sk)),.agg (ints .u8 (rk))] 31 rfl kj kj ((newC sk rk _ hsk hrk).mono (by rintro e w' ⟨v,rfl,e1,hv⟩; exact ⟨v,rfl,hv,e1⟩)) fun vv11 W5 hh11=>?_
 obtain ⟨hv11,e5⟩:=hh11
 have x5:Ext w W5:=Ext.tr x4 e5
 obtain ⟨gl13,rfl,ll13,rl13⟩:=hv11
 have b13:w.heap.size≤gl13:=qT x4.size ll13
 refine Qaa (.pointer (some ⟨gl13,0,none⟩)) 7 rfl kj kj ?_
 refine Qae ?_
 refine hK10 _ _ ?_
 refine wp_seq_k fun K14 hK14=>?_
 refine wp_seq_k fun K15 hK15=>?_
 refine Qac ?_
 refine Qaa (.pointer (some ⟨gl13,0,none⟩)) 32 rfl kj kj ?_
 refine Qaa (.bool false) 33 rfl kj kj ?_
 refine Qaa (.bool false) 34 rfl kj kj ?_
 refine Qaa (.pointer (some ⟨gl13,0,none⟩)) 35 rfl kj kj ?_
 refine Qan (.int .i64 (0-1)) 44 #[.pointer (some ⟨gl13,0,none⟩)] 36 rfl kj kj (HighestC gl13 0 0 (by decide) (by decide) sk rk 0 hsk hrk _ rl13) fun W6 e6=>?_
 have x6:Ext w W6:=Ext.tr x5 e6
 refine Qaa (.bool false) 37 rfl kj (Qad (u:=.bool (((0-1) != (-1)))) kj (congrArg Value.bool (by decide))) ?_
 refine Qaa (.bool false) 38 rfl kj kj ?_
 refine Qaa (.bool false) 39 rfl kj kj ?_
 refine Qaa (.pointer (some ⟨gl13,0,none⟩)) 40 rfl kj kj ?_
 have r13_6:=(Qab rl13 e6)
 refine Qan (.int .i64 0) 45 #[.pointer (some ⟨gl13,0,none⟩)] 41 rfl kj kj (Qgj gl13 0 0 (by decide) (by decide) sk rk 0 hsk hrk _ r13_6) fun W7 e7=>?_
 have x7:Ext w W7:=Ext.tr x6 e7
 refine Qaa (.bool false) 42 rfl kj kj ?_
 refine Qaa (.bool false) 43 rfl kj kj ?_
 refine Qae ?_
 refine hK15 _ _ ?_
 refine cond_false kj ?_
 refine wp_skip ?_
 refine hK14 _ _ ?_
 refine wp_seq_k fun K16 hK16=>?_
 refine Qac ?_
 refine QaD (ints .i64 ([])) 3 0 44 rfl kj kj fun g17 W8 l17 e8 r17_8=>?_
 have x8:Ext w W8:=Ext.tr x7 e8
 have b17:w.heap.size≤g17:=qT x7.size l17
 refine Qaa (.int .i64 0) 8 rfl kj kj ?_
 refine Qaa (.slice (some ⟨g17,0,none⟩) 0 0) 9 rfl kj kj ?_
 refine Qae ?_
 refine hK16 _ _ ?_
 refine wp_seq_k fun K18 hK18=>?_
 refine wp_seq_k fun K19 hK19=>?_
 refine Qac ?_
 refine Qaa (.slice ad len cap) 45 rfl kj kj ?_
 refine Qaa (.int .i64 ((len:Nat):Int)) 46 rfl kj kj ?_
 refine Qaa (.int .i64 0) 47 rfl kj kj ?_
 refine Qae ?_
 refine hK19 _ _ ?_
 refine wp_block ?_
 have r13_7:=(Qab r13_6 e7)
 have r2_1:=(Qab hh e1)
 have r2_2:=(Qab r2_1 e2)
 have r2_3:=(Qab r2_2 e3)
 have r2_4:=(Qab r2_3 e4)
 have r2_5:=(Qab r2_4 e5)
 have r2_6:=(Qab r2_5 e6)
 have r2_7:=(Qab r2_6 e7)
 have r1_1:=(Qab hq e1)
 have r1_2:=(Qab r1_1 e2)
 have r1_3:=(Qab r1_2 e3)
 have r1_4:=(Qab r1_3 e4)
 have r1_5:=(Qab r1_4 e5)
 have r1_6:=(Qab r1_5 e6)
 have r1_7:=(Qab r1_6 e7)
 have r4_5:=(Qab r4_4 e5)
 have r4_6:=(Qab r4_5 e6)
 have r4_7:=(Qab r4_6 e7)
 have r5_5:=(Qab r5_4 e5)
 have r5_6:=(Qab r5_5 e6)
 have r5_7:=(Qab r5_6 e7)
 have n_13_4:gl13≠g4:=(QaA r4_4 ll13)
 have n_13_5:gl13≠g5:=(QaA r5_4 ll13)
 have n_4_13:g4≠gl13:=(Qag r4_4 ll13)
 have n_4_5:g4≠g5:=(Qag r4_1 l5)
 have n_5_13:g5≠gl13:=(Qag r5_4 ll13)
 have n_5_4:g5≠g4:=(QaA r4_1 l5)
 have r13_8:=(Qab r13_7 e8)
 have r4_8:=(Qab r4_7 e8)
 have r5_8:=(Qab r5_7 e8)
 refine QaB (fun (s1:Nat×Nat×Int×Nat×List Int×Value)=>[(3,.pointer (some ⟨g4,0,none⟩)),(4,.pointer (some ⟨g5,0,none⟩)),(7,.pointer (some ⟨gl13,0,none⟩)),(8,.int .i64 ((s1.2.1:Nat):Int)),(9,s1.2.2.2.2.2),(45,.slice ad len cap),(46,.int .i64 ((len:Nat):Int)),(47,.int .i64 ((s1.1:Nat):Int))]) (fun (s1:Nat×Nat×Int×Nat×List Int×Value) W=>(s1.1≤len)∧(s1.2.1≤4294967295)∧(WInv s1.2.2.1 s1.2.2.2.1 s1.2.2.2.2.1)∧(∀ m∈s1.2.2.2.2.1,0≤m∧m≤4294967294)∧(s1.2.2.2.2.1.length≤s1.1)∧(OwnN .i64 3 W7.heap.size s1.2.2.2.2.1 s1.2.2.2.2.2 W)∧(W7.heap.size≤W.heap.size)∧(W.heap[gl13]? = some (.cells (cat [#[.int .i64 s1.2.2.1],#[.int .u64 ((s1.2.2.2.1:Nat):Int)],ints .u8 (sk),ints .u8 (rk),#[.int .i64 ((s1.2.1:Nat):Int)]]) 136))∧(W.heap[g4]? = some (.cells (ints .u8 (sk)) 23))∧(W.heap[g5]? = some (.cells (ints .u8 (rk)) 23))∧(Ext w W)) (fun (s1:Nat×Nat×Int×Nat×List Int×Value)=>len-s1.1) (0,0,0,0,[],.slice (some ⟨g17,0,none⟩) 0 0) ⟨rfl,rfl,rfl,rfl,rfl,rfl,rfl,rfl,trivial⟩ ⟨(Nat.zero_le _),(Nat.zero_le _),Qik,(fun m h=>by cases h),(Nat.zero_le _),(QbW (xs:=[]) rfl l17 r17_8 (by decide)),(Nat.le_of_lt (Nat.lt_of_le_of_lt l17 (Qa0 r17_8))),r13_8,r4_8,r5_8,x8⟩ fun s1 X1 V1 hI1=>?_
 obtain ⟨i,n,p,B,ts,u⟩:=s1
 obtain ⟨hi,hn,hI,hzb,hzl,hu,hbz,q13_1,q4_1,q5_1,xx1⟩:=hI1
 replace hi:i≤len:=hi
 replace hn:n≤4294967295:=hn
 replace hI:WInv p B ts:=hI
 replace hzb:∀ m∈ts,0≤m∧m≤4294967294:=hzb
 replace hzl:ts.length≤i:=hzl
 replace hu:OwnN .i64 3 W7.heap.size ts u V1:=hu
 replace hbz:W7.heap.size≤V1.heap.size:=hbz
 replace q13_1:V1.heap[gl13]? = some (.cells (cat [#[.int .i64 p],#[.int .u64 ((B:Nat):Int)],ints .u8 (sk),ints .u8 (rk),#[.int .i64 ((n:Nat):Int)]]) 136):=q13_1
 replace q4_1:V1.heap[g4]? = some (.cells (ints .u8 (sk)) 23):=q4_1
 replace q5_1:V1.heap[g5]? = some (.cells (ints .u8 (rk)) 23):=q5_1
 replace xx1:Ext w V1:=xx1
 obtain ⟨a_u,c_u,rfl,-⟩:=id (OwnN.rd hu)
 refine wp_seq_k fun K20 hK20=>?_
 refine Qac ?_
 refine Qaa (.bool (decide (((i:Nat):Int)<((len:Nat):Int)))) 48 rfl kj kj ?_
 refine Qae ?_
 refine hK20 _ _ ?_
 refine wp_seq_k fun K21 hK21=>?_
 refine Qa7 (t:=decide (((i:Nat):Int)<((len:Nat):Int))) kj (fun c22=>?_) (fun c22=>?_)
 ·skip
  have hlt:i<len:=by have:=of_decide_eq_true c22; omega
  obtain ⟨op,hopE⟩:∃ z,z=ops i:=⟨_,rfl⟩
  have hop:OpAt4 w gT oT i op:=hopE▸hops i hlt
  have hox:op.xs.length≤1048576:=hopE▸hub i hlt
  have hi60:=(hall i hlt).1
  have hobx:=OpAt4.bytes hop
  refine wp_skip ?_
  refine hK21 _ _ ?_
  refine wp_seq_k fun K23 hK23=>?_
  refine wp_block ?_
  refine wp_seq_k fun K24 hK24=>?_
  refine Qac ?_
  refine Qaa (.pointer (some ⟨gT,oT+i*4,none⟩)) 49 rfl kj (QeP 62 _ _ .i64 i gT oT len cap 68 4 ad (had (by omega)) rfl kj kj kj kj hlt) ?_
  refine Qaa (.agg (cat [#[.int .i64 op.kind],#[.slice op.a op.xs.length op.c],#[.int .i64 op.n],#[.int .u8 op.b]])) 50 rfl kj (Qej 68 _ gT oT i op (OpAt4.ext hop xx1) rfl kj kj kj) ?_
  refine Qas (cat [#[.int .i64 0],#[.slice none 0 0],#[.int .i64 0],#[.int .u8 0]]) 68 11 rfl kj kj fun g25 W10 l25 e10 r25_10=>?_
  have x10:Ext w W10:=Ext.tr xx1 e10
  have b25:w.heap.size≤g25:=qT xx1.size l25
  refine Qal g25 _ (cat [#[.int .i64 op.kind],#[.slice op.a op.xs.length op.c],#[.int .i64 op.n],#[.int .u8 op.b]]) 68 r25_10 rfl kj (Qav 68 _ _ g25 68 _ _ r25_10 rfl kj kj (isz (n:=4) kj kj) (eqsz (n:=4) kj kj) kj) fun W11 p11 r25_11=>?_
  have x11:Ext w W11:=Puts.ext p11 x10 b25
  refine Qae ?_
  refine hK24 _ _ ?_
  refine wp_seq_k fun K26 hK26=>?_
  refine Qac ?_
  refine Qaa (.pointer (some ⟨g25,1,none⟩)) 51 rfl kj kj ?_
  refine Qaa (.slice op.a op.xs.length op.c) 52 rfl kj (Qah 33 _ g25 1 68 _ (.slice op.a op.xs.length op.c) _ r25_11 rfl kj kj kj) ?_
  refine Qat (fun v W'=>(QbS 5 W11.heap.size (op.xs)) v W'∧Ext W11 W') 20 #[.slice op.a op.xs.length op.c] 53 rfl kj kj ((Qje (op.xs) _ _ _ (by omega) (OpAt4.rd (OpAt4.ext hop x11))).mono (by rintro e w' ⟨v,rfl,e1,hv⟩; exact ⟨v,rfl,hv,e1⟩)) fun vv27 W12 hh27=>?_
  obtain ⟨hv27,e12⟩:=hh27
  have x12:Ext w W12:=Ext.tr x11 e12
  obtain ⟨gk28,ck28,rfl,ho28⟩:=hv27
  refine Qaa (.slice (some ⟨gk28,0,none⟩) (op.xs).length ck28) 12 rfl kj kj ?_
  refine Qae ?_
  refine hK26 _ _ ?_
  refine wp_seq_k fun K29 hK29=>?_
  refine Qac ?_
  refine Qaa (.pointer (some ⟨g25,0,none⟩)) 54 rfl kj kj ?_
  have r25_12:=(Qab r25_11 e12)
  refine Qaa (.int .i64 op.kind) 55 rfl kj (Qah 3 _ g25 0 68 _ (.int .i64 op.kind) _ r25_12 rfl kj kj kj) ?_
  refine Qae ?_
  refine hK29 _ _ ?_
  refine wp_block ?_
  refine wp_seq_k fun K30 hK30=>?_
  rcases (show op.kind=0∨op.kind=1∨op.kind=3∨(op.kind≠0∧op.kind≠1∧op.kind≠3) by omega) with hk | hk | hk | hk
  ·skip
   obtain ⟨xo,bad,n2,hxob,hxol,hn2,hbn,hP,hR_⟩:=QiE sk hsk hskb n hn op.xs
   refine Qac ?_
   refine Qaa (.bool true) 129 rfl kj (Qad (u:=.bool ((op.kind==0))) kj (congrArg Value.bool (beq_iff_eq.2 hk))) ?_
   refine Qaa (.bool true) 128 rfl kj kj ?_
   refine Qae ?_
   refine hK30 _ _ ?_
   refine cond_true kj ?_
   refine wp_seq_k fun K31 hK31=>?_
   refine Qac ?_
   refine Qaa (.pointer (some ⟨gl13,0,none⟩)) 131 rfl kj kj ?_
   refine Qaa (.slice (some ⟨gk28,0,none⟩) (op.xs).length ck28) 132 rfl kj kj ?_
   have r13_10:=(Qab q13_1 e10)
   have r13_11:=(Puts.row p11 r13_10 (Qag q13_1 l25))
   have r13_12:=(Qab r13_11 e12)
   have r2_10:=(Qab (Qab hh xx1) e10)
   have r2_11:=(Puts.row p11 r2_10 (Qag (Qab hh xx1) l25))
   have r2_12:=(Qab r2_11 e12)
   have r1_10:=(Qab (Qab hq xx1) e10)
   have r1_11:=(Puts.row p11 r1_10 (Qag (Qab hq xx1) l25))
   have r1_12:=(Qab r1_11 e12)
   refine Qat (fun v W'=>∃ u,v=.tuple #[u,errV bad]∧OwnN .u8 5 W12.heap.size xo u W'∧ExtB gl13 W12 W'∧W'.heap[gl13]? = some (.cells (cat [#[.int .i64 p],#[.int .u64 ((B:Nat):Int)],ints .u8 (sk),ints .u8 (rk),#[.int .i64 ((n2:Nat):Int)]]) 136)) 46 #[.pointer (some ⟨gl13,0,none⟩),.slice (some ⟨gk28,0,none⟩) (op.xs).length ck28] 133 rfl kj kj ((hP gl13 p B rk _ th tq _ hI.hnx hI.hB hrk r13_12 r2_12 r1_12 (Nat.ne_of_lt (qL (Qa0 hh) b13)) (Nat.ne_of_lt (qL (Qa0 hq) b13)) (fun W e=>OwnN.rd (Qbs (QbS.own ⟨gk28,ck28,rfl,ho28⟩) e (Qc9 (QbS.own ⟨gk28,ck28,rfl,ho28⟩) (Qa0 r13_11))))).mono (by rintro e w' ⟨u,rfl,h1,h2,h3⟩; exact ⟨_,rfl,u,rfl,h1,h2,h3⟩)) fun v W13 h32=>?_
   obtain ⟨u32_,rfl,hu32_,q13,r13_13⟩:=h32
   have x13:Ext w W13:=ExtB.up x12 q13 b13
   obtain ⟨a32_,c32_,rfl,-⟩:=id (OwnN.rd hu32_)
   refine Qaa (.tuple #[.slice a32_ ((xo).length) c32_,errV bad]) 130 rfl kj kj ?_
   refine Qaa (.slice a32_ ((xo).length) c32_) 134 rfl kj kj ?_
   refine Qaa (errV bad) 135 rfl kj kj ?_
   refine Qaa (.slice a32_ ((xo).length) c32_) 13 rfl kj kj ?_
   refine Qaa (errV bad) 14 rfl kj kj ?_
   refine Qae ?_
   refine hK31 _ _ ?_
   refine wp_seq_k fun K33 hK33=>?_
   refine Qac ?_
   have r4_10:=(Qab q4_1 e10)
   have r4_11:=(Puts.row p11 r4_10 (Qag q4_1 l25))
   have r4_12:=(Qab r4_11 e12)
   have r4_13:=(ExtB.row q13 r4_12 n_4_13)
   refine Qaa (.agg (ints .u8 (sk))) 137 rfl kj (Qao 23 _ g4 23 _ _ r4_13 rfl kj kj (isz (n:=32) kj ((Qaf _ _).trans hsk))) ?_
   refine Qaa (.int .i64 ((n:Nat):Int)) 138 rfl kj kj ?_
   refine Qaa (.pointer (some ⟨g25,1,none⟩)) 139 rfl kj kj ?_
   have r25_13:=(ExtB.row q13 r25_12 (QaA q13_1 l25))
   refine Qaa (.slice op.a op.xs.length op.c) 140 rfl kj (Qah 33 _ g25 1 68 _ (.slice op.a op.xs.length op.c) _ r25_13 rfl kj kj kj) ?_
   refine Qat (fun v W'=>(fun v W=>∃ u,v=.tuple #[u,.int .i64 bad]∧OwnN .u8 5 W13.heap.size xo u W) v W'∧Ext W13 W') 47 #[.agg (ints .u8 (sk)),.int .i64 ((n:Nat):Int),.slice op.a op.xs.length op.c] 141 rfl kj kj ((hR_ _ _ _ (OpAt4.rd (OpAt4.ext hop x13))).mono (by rintro e w' ⟨v,rfl,e1,hv⟩; exact ⟨v,rfl,hv,e1⟩)) fun vv34 W14 hh34=>?_
   obtain ⟨hv34,e14⟩:=hh34
   have x14:Ext w W14:=Ext.tr x13 e14
   obtain ⟨u35_,rfl,hu35_⟩:=hv34
   obtain ⟨a35_,c35_,rfl,-⟩:=id (OwnN.rd hu35_)
   refine Qaa (.tuple #[.slice a35_ ((xo).length) c35_,.int .i64 bad]) 136 rfl kj kj ?_
   refine Qaa (.slice a35_ ((xo).length) c35_) 142 rfl kj kj ?_
   refine Qaa (.int .i64 bad) 143 rfl kj kj ?_
   refine Qaa (.slice a35_ ((xo).length) c35_) 15 rfl kj kj ?_
   refine Qaa (.int .i64 bad) 16 rfl kj kj ?_
   refine Qae ?_
   refine hK33 _ _ ?_
   refine wp_seq_k fun K36 hK36=>?_
   refine wp_seq_k fun K37 hK37=>?_
   rcases hbn with hb | hb
   ·skip
    refine Qac ?_
    refine Qaa (.int .i64 bad) 144 rfl kj kj ?_
    refine Qaa (.bool true) 145 rfl kj (Qad (u:=.bool ((bad==0))) kj (congrArg Value.bool (beq_iff_eq.2 hb.1))) ?_
    refine Qae ?_
    refine hK37 _ _ ?_
    refine cond_true kj ?_
    refine Qac ?_
    refine Qaa (.int .i64 ((n:Nat):Int)) 146 rfl kj kj ?_
    refine Qaa (.int .i64 (((n2:Nat):Int))) 147 rfl kj (Qad (u:=.int .i64 (IntKind.i64.wrap (((n:Nat):Int)+1))) kj (congrArg (Value.int .i64) (by rw [hb.2]; exact (IntWalk.i64_in _ (by omega)).trans (by omega)))) ?_
    refine Qaa (.int .i64 (((n2:Nat):Int))) 8 rfl kj kj ?_
    refine Qae ?_
    refine hK36 _ _ ?_
    refine wp_seq_k fun K38 hK38=>?_
    refine Qac ?_
    refine Qaa (.slice a32_ ((xo).length) c32_) 148 rfl kj kj ?_
    refine Qaa (.slice a35_ ((xo).length) c35_) 149 rfl kj kj ?_
    have f39_14:=(hu32_.ext e14)
    refine Qan (.bool true) 26 #[.slice a32_ ((xo).length) c32_,.slice a35_ ((xo).length) c35_] 150 rfl kj kj ((QfA _ _ _ _ _ rfl (RdK.bytes (OwnN.rd f39_14) hxob) (RdK.bytes (OwnN.rd hu35_) hxob))) fun W15 e15=>?_
    have x15:Ext w W15:=Ext.tr x14 e15
    refine Qaa (.bool false) 151 rfl kj kj ?_
    refine Qaa (.bool false) 152 rfl kj kj ?_
    refine Qaa (errV bad) 153 rfl kj kj ?_
    refine Qan (.int .i64 bad) 25 #[errV bad] 154 rfl kj kj ((numV bad) _) fun W16 e16=>?_
    have x16:Ext w W16:=Ext.tr x15 e16
    refine Qaa (.int .i64 bad) 155 rfl kj kj ?_
    refine Qaa (.bool false) 156 rfl kj (Qad (u:=.bool ((bad != bad))) kj (congrArg Value.bool (bne_self_eq_false _))) ?_
    refine Qaa (.bool false) 157 rfl kj kj ?_
    refine Qaa (.bool false) 158 rfl kj kj ?_
    refine Qaa (.slice (some ⟨gk28,0,none⟩) (op.xs).length ck28) 159 rfl kj kj ?_
    refine Qaa (.pointer (some ⟨g25,1,none⟩)) 160 rfl kj kj ?_
    have r25_14:=(Qab r25_13 e14)
    have r25_15:=(Qab r25_14 e15)
    have r25_16:=(Qab r25_15 e16)
    refine Qaa (.slice op.a op.xs.length op.c) 161 rfl kj (Qah 33 _ g25 1 68 _ (.slice op.a op.xs.length op.c) _ r25_16 rfl kj kj kj) ?_
    have f40_13:=(Qbs ho28 q13 (Qc9 ho28 (Qa0 r13_11)))
    have f41_14:=(f40_13.ext e14)
    have f42_15:=(f41_14.ext e15)
    have f43_16:=(f42_15.ext e16)
    refine Qan (.bool true) 28 #[.slice (some ⟨gk28,0,none⟩) (op.xs).length ck28,.slice op.a op.xs.length op.c] 162 rfl kj kj ((QfQ (op.xs) _ _ _ _ _ (by omega) hobx (show QbS 5 _ (op.xs) _ _ from ⟨gk28,ck28,rfl,f43_16⟩) (OpAt4.rd (OpAt4.ext hop x16)))) fun W17 e17=>?_
    have x17:Ext w W17:=Ext.tr x16 e17
    refine Qaa (.bool false) 163 rfl kj kj ?_
    refine Qaa (.bool false) 164 rfl kj kj ?_
    refine Qaa (.bool false) 165 rfl kj kj ?_
    refine Qaa (.pointer (some ⟨gl13,0,none⟩)) 166 rfl kj kj ?_
    have r13_14:=(Qab r13_13 e14)
    have r13_15:=(Qab r13_14 e15)
    have r13_16:=(Qab r13_15 e16)
    have r13_17:=(Qab r13_16 e17)
    refine Qan (.int .i64 ((n2:Nat):Int)) 45 #[.pointer (some ⟨gl13,0,none⟩)] 167 rfl kj kj (Qgj gl13 p B hI.hnx hI.hB sk rk n2 hsk hrk _ r13_17) fun W18 e18=>?_
    have x18:Ext w W18:=Ext.tr x17 e18
    refine Qaa (.int .i64 (((n2:Nat):Int))) 168 rfl kj kj ?_
    refine Qaa (.bool false) 169 rfl kj (Qad (u:=.bool ((((n2:Nat):Int) != ((n2:Nat):Int)))) kj (congrArg Value.bool (bne_self_eq_false _))) ?_
    refine Qaa (.bool false) 170 rfl kj kj ?_
    refine Qae ?_
    refine hK38 _ _ ?_
    refine cond_false kj ?_
    refine wp_skip ?_
    refine hK23 _ _ ?_
    refine Qac ?_
    refine Qaa (.int .i64 ((i+1:Nat):Int)) 197 rfl kj (Qad (u:=.int .i64 (IntKind.i64.wrap (((i:Nat):Int)+1))) kj (congrArg (Value.int .i64) (i64n _ _ (by omega) (by omega)))) ?_
    refine Qaa (.int .i64 ((i+1:Nat):Int)) 47 rfl kj kj ?_
    refine Qae ?_
    have mu44_10:=(hu.ext e10)
    have mu45_11:=(mu44_10.puts p11 (QbG mu44_10 r25_10 (by decide)))
    have mu46_12:=(mu45_11.ext e12)
    have mu47_13:=(Qbs mu46_12 q13 (QbG mu46_12 r13_12 (by decide)))
    have mu48_14:=(mu47_13.ext e14)
    have mu49_15:=(mu48_14.ext e15)
    have mu50_16:=(mu49_15.ext e16)
    have mu51_17:=(mu50_16.ext e17)
    have mu52_18:=(mu51_17.ext e18)
    have r13_18:=(Qab r13_17 e18)
    have r4_14:=(Qab r4_13 e14)
    have r4_15:=(Qab r4_14 e15)
    have r4_16:=(Qab r4_15 e16)
    have r4_17:=(Qab r4_16 e17)
    have r4_18:=(Qab r4_17 e18)
    have r5_10:=(Qab q5_1 e10)
    have r5_11:=(Puts.row p11 r5_10 (Qag q5_1 l25))
    have r5_12:=(Qab r5_11 e12)
    have r5_13:=(ExtB.row q13 r5_12 n_5_13)
    have r5_14:=(Qab r5_13 e14)
    have r5_15:=(Qab r5_14 e15)
    have r5_16:=(Qab r5_15 e16)
    have r5_17:=(Qab r5_16 e17)
    have r5_18:=(Qab r5_17 e18)
    repeat (first | with_reducible refine goX1 ?_ | with_reducible refine goX2 ?_ | with_reducible refine goX3 ?_)
    exact Qax ((i+1),n2,p,B,ts,.slice a_u ts.length c_u) ⟨rfl,rfl,rfl,rfl,rfl,rfl,rfl,rfl,trivial⟩ ⟨(by omega),hn2,hI,hzb,(Nat.le_succ_of_le hzl),mu52_18,(qT hbz (qT (qT (qT (qT (qT (qT (qT (qT (qT (qR _) e10.size) (qE p11.2.2.2.1.symm)) e12.size) q13.2.2.2.1) e14.size) e15.size) e16.size) e17.size) e18.size)),r13_18,r4_18,r5_18,x18⟩ (by show len-(i+1)<len-i; omega)
   ·skip
    refine Qac ?_
    refine Qaa (.int .i64 bad) 144 rfl kj kj ?_
    refine Qaa (.bool false) 145 rfl kj (Qad (u:=.bool ((bad==0))) kj (congrArg Value.bool (beq_eq_false_iff_ne.2 hb.1))) ?_
    refine Qae ?_
    refine hK37 _ _ ?_
    refine cond_false kj ?_
    refine wp_skip ?_
    refine hK36 _ _ ?_
    refine wp_seq_k fun K53 hK53=>?_
    refine Qac ?_
    refine Qaa (.slice a32_ ((xo).length) c32_) 148 rfl kj kj ?_
    refine Qaa (.slice a35_ ((xo).length) c35_) 149 rfl kj kj ?_
    have f54_14:=(hu32_.ext e14)
    refine Qan (.bool true) 26 #[.slice a32_ ((xo).length) c32_,.slice a35_ ((xo).length) c35_] 150 rfl kj kj ((QfA _ _ _ _ _ rfl (RdK.bytes (OwnN.rd f54_14) hxob) (RdK.bytes (OwnN.rd hu35_) hxob))) fun W15 e15=>?_
    have x15:Ext w W15:=Ext.tr x14 e15
    refine Qaa (.bool false) 151 rfl kj kj ?_
    refine Qaa (.bool false) 152 rfl kj kj ?_
    refine Qaa (errV bad) 153 rfl kj kj ?_
    refine Qan (.int .i64 bad) 25 #[errV bad] 154 rfl kj kj ((numV bad) _) fun W16 e16=>?_
    have x16:Ext w W16:=Ext.tr x15 e16
    refine Qaa (.int .i64 bad) 155 rfl kj kj ?_
    refine Qaa (.bool false) 156 rfl kj (Qad (u:=.bool ((bad != bad))) kj (congrArg Value.bool (bne_self_eq_false _))) ?_
    refine Qaa (.bool false) 157 rfl kj kj ?_
    refine Qaa (.bool false) 158 rfl kj kj ?_
    refine Qaa (.slice (some ⟨gk28,0,none⟩) (op.xs).length ck28) 159 rfl kj kj ?_
    refine Qaa (.pointer (some ⟨g25,1,none⟩)) 160 rfl kj kj ?_
    have r25_14:=(Qab r25_13 e14)
    have r25_15:=(Qab r25_14 e15)
    have r25_16:=(Qab r25_15 e16)
    refine Qaa (.slice op.a op.xs.length op.c) 161 rfl kj (Qah 33 _ g25 1 68 _ (.slice op.a op.xs.length op.c) _ r25_16 rfl kj kj kj) ?_
    have f55_13:=(Qbs ho28 q13 (Qc9 ho28 (Qa0 r13_11)))
    have f56_14:=(f55_13.ext e14)
    have f57_15:=(f56_14.ext e15)
    have f58_16:=(f57_15.ext e16)
    refine Qan (.bool true) 28 #[.slice (some ⟨gk28,0,none⟩) (op.xs).length ck28,.slice op.a op.xs.length op.c] 162 rfl kj kj ((QfQ (op.xs) _ _ _ _ _ (by omega) hobx (show QbS 5 _ (op.xs) _ _ from ⟨gk28,ck28,rfl,f58_16⟩) (OpAt4.rd (OpAt4.ext hop x16)))) fun W17 e17=>?_
    have x17:Ext w W17:=Ext.tr x16 e17
    refine Qaa (.bool false) 163 rfl kj kj ?_
    refine Qaa (.bool false) 164 rfl kj kj ?_
    refine Qaa (.bool false) 165 rfl kj kj ?_
    refine Qaa (.pointer (some ⟨gl13,0,none⟩)) 166 rfl kj kj ?_
    have r13_14:=(Qab r13_13 e14)
    have r13_15:=(Qab r13_14 e15)
    have r13_16:=(Qab r13_15 e16)
    have r13_17:=(Qab r13_16 e17)
    refine Qan (.int .i64 ((n2:Nat):Int)) 45 #[.pointer (some ⟨gl13,0,none⟩)] 167 rfl kj kj (Qgj gl13 p B hI.hnx hI.hB sk rk n2 hsk hrk _ r13_17) fun W18 e18=>?_
    have x18:Ext w W18:=Ext.tr x17 e18
    refine Qaa (.int .i64 ((n:Nat):Int)) 168 rfl kj kj ?_
    refine Qaa (.bool false) 169 rfl kj (Qad (u:=.bool ((((n2:Nat):Int) != ((n:Nat):Int)))) kj (congrArg Value.bool (bne_eq_false_iff_eq.2 (by omega)))) ?_
    refine Qaa (.bool false) 170 rfl kj kj ?_
    refine Qae ?_
    refine hK53 _ _ ?_
    refine cond_false kj ?_
    refine wp_skip ?_
    refine hK23 _ _ ?_
    refine Qac ?_
    refine Qaa (.int .i64 ((i+1:Nat):Int)) 197 rfl kj (Qad (u:=.int .i64 (IntKind.i64.wrap (((i:Nat):Int)+1))) kj (congrArg (Value.int .i64) (i64n _ _ (by omega) (by omega)))) ?_
    refine Qaa (.int .i64 ((i+1:Nat):Int)) 47 rfl kj kj ?_
    refine Qae ?_
    have mu59_10:=(hu.ext e10)
    have mu60_11:=(mu59_10.puts p11 (QbG mu59_10 r25_10 (by decide)))
    have mu61_12:=(mu60_11.ext e12)
    have mu62_13:=(Qbs mu61_12 q13 (QbG mu61_12 r13_12 (by decide)))
    have mu63_14:=(mu62_13.ext e14)
    have mu64_15:=(mu63_14.ext e15)
    have mu65_16:=(mu64_15.ext e16)
    have mu66_17:=(mu65_16.ext e17)
    have mu67_18:=(mu66_17.ext e18)
    have r13_18:=(Qab r13_17 e18)
    have r4_14:=(Qab r4_13 e14)
    have r4_15:=(Qab r4_14 e15)
    have r4_16:=(Qab r4_15 e16)
    have r4_17:=(Qab r4_16 e17)
    have r4_18:=(Qab r4_17 e18)
    have r5_10:=(Qab q5_1 e10)
    have r5_11:=(Puts.row p11 r5_10 (Qag q5_1 l25))
    have r5_12:=(Qab r5_11 e12)
    have r5_13:=(ExtB.row q13 r5_12 n_5_13)
    have r5_14:=(Qab r5_13 e14)
    have r5_15:=(Qab r5_14 e15)
    have r5_16:=(Qab r5_15 e16)
    have r5_17:=(Qab r5_16 e17)
    have r5_18:=(Qab r5_17 e18)
    repeat (first | with_reducible refine goX1 ?_ | with_reducible refine goX2 ?_ | with_reducible refine goX3 ?_)
    exact Qax ((i+1),n2,p,B,ts,.slice a_u ts.length c_u) ⟨rfl,rfl,rfl,(congrArg (fun z:Nat=>Value.int .i64 (z:Int)) hb.2.symm),rfl,rfl,rfl,rfl,trivial⟩ ⟨(by omega),hn2,hI,hzb,(Nat.le_succ_of_le hzl),mu67_18,(qT hbz (qT (qT (qT (qT (qT (qT (qT (qT (qT (qR _) e10.size) (qE p11.2.2.2.1.symm)) e12.size) q13.2.2.2.1) e14.size) e15.size) e16.size) e17.size) e18.size)),r13_18,r4_18,r5_18,x18⟩ (by show len-(i+1)<len-i; omega)
  ·skip
   refine Qac ?_
   refine Qaa (.bool false) 129 rfl kj (Qad (u:=.bool ((op.kind==0))) kj (congrArg Value.bool (beq_eq_false_iff_ne.2 (by omega)))) ?_
   refine Qaa (.bool false) 128 rfl kj kj ?_
   refine Qae ?_
   refine hK30 _ _ ?_
   refine cond_false kj ?_
   refine wp_seq_k fun K68 hK68=>?_
   refine Qac ?_
   refine Qaa (.bool true) 172 rfl kj (Qad (u:=.bool ((op.kind==1))) kj (congrArg Value.bool (beq_iff_eq.2 hk))) ?_
   refine Qaa (.bool true) 171 rfl kj kj ?_
   refine Qae ?_
   refine hK68 _ _ ?_
   refine cond_true kj ?_
   refine wp_seq_k fun K69 hK69=>?_
   rcases (show op.n<((n:Nat):Int)∨(((n:Nat):Int)≤op.n∧4294967295<op.n)∨(((n:Nat):Int)≤op.n∧op.n≤4294967295) by omega) with hj | hj | hj
   ·skip
    refine Qac ?_
    refine Qaa (.pointer (some ⟨g25,2,none⟩)) 173 rfl kj kj ?_
    refine Qaa (.int .i64 op.n) 174 rfl kj (Qah 3 _ g25 2 68 _ (.int .i64 op.n) _ r25_12 rfl kj kj kj) ?_
    refine Qaa (.int .i64 ((n:Nat):Int)) 175 rfl kj kj ?_
    refine Qaa (.bool false) 176 rfl kj (Qad (u:=.bool (decide (op.n≥((n:Nat):Int)))) kj (congrArg Value.bool (decide_eq_false (by omega)))) ?_
    refine Qaa (.bool false) 177 rfl kj kj ?_
    refine Qa3 178 rfl kj ?_
    refine Qa3 179 rfl kj ?_
    refine Qa3 180 rfl kj ?_
    refine Qaa (.bool false) 181 rfl kj kj ?_
    refine Qaa (.bool false) 17 rfl kj kj ?_
    refine Qae ?_
    refine hK69 _ _ ?_
    refine wp_seq_k fun K70 hK70=>?_
    refine wp_seq_k fun K71 hK71=>?_
    refine Qac ?_
    refine Qaa (.bool false) 182 rfl kj kj ?_
    refine Qae ?_
    refine hK71 _ _ ?_
    refine cond_false kj ?_
    refine wp_skip ?_
    refine hK70 _ _ ?_
    refine wp_seq_k fun K72 hK72=>?_
    refine Qac ?_
    refine Qaa (.pointer (some ⟨gl13,0,none⟩)) 185 rfl kj kj ?_
    refine Qaa (.pointer (some ⟨g25,2,none⟩)) 186 rfl kj kj ?_
    refine Qaa (.int .i64 op.n) 187 rfl kj (Qah 3 _ g25 2 68 _ (.int .i64 op.n) _ r25_12 rfl kj kj kj) ?_
    have r13_10:=(Qab q13_1 e10)
    have r13_11:=(Puts.row p11 r13_10 (Qag q13_1 l25))
    have r13_12:=(Qab r13_11 e12)
    refine Qan (.bool false) 48 #[.pointer (some ⟨gl13,0,none⟩),.int .i64 op.n] 188 rfl kj kj (Qkj gl13 p B hI.hnx hI.hB sk rk n hsk hrk _ r13_12 op.n (by omega)) fun W13 e13=>?_
    have x13:Ext w W13:=Ext.tr x12 e13
    refine Qaa (.bool false) 189 rfl kj kj ?_
    refine Qaa (.bool false) 190 rfl kj kj ?_
    refine Qaa (.bool false) 191 rfl kj kj ?_
    refine Qaa (.pointer (some ⟨gl13,0,none⟩)) 192 rfl kj kj ?_
    have r13_13:=(Qab r13_12 e13)
    refine Qan (.int .i64 ((n:Nat):Int)) 45 #[.pointer (some ⟨gl13,0,none⟩)] 193 rfl kj kj (Qgj gl13 p B hI.hnx hI.hB sk rk n hsk hrk _ r13_13) fun W14 e14=>?_
    have x14:Ext w W14:=Ext.tr x13 e14
    refine Qaa (.int .i64 ((n:Nat):Int)) 194 rfl kj kj ?_
    refine Qaa (.bool false) 195 rfl kj (Qad (u:=.bool ((((n:Nat):Int) != ((n:Nat):Int)))) kj (congrArg Value.bool (bne_self_eq_false _))) ?_
    refine Qaa (.bool false) 196 rfl kj kj ?_
    refine Qae ?_
    refine hK72 _ _ ?_
    refine cond_false kj ?_
    refine wp_skip ?_
    refine hK23 _ _ ?_
    refine Qac ?_
    refine Qaa (.int .i64 ((i+1:Nat):Int)) 197 rfl kj (Qad (u:=.int .i64 (IntKind.i64.wrap (((i:Nat):Int)+1))) kj (congrArg (Value.int .i64) (i64n _ _ (by omega) (by omega)))) ?_
    refine Qaa (.int .i64 ((i+1:Nat):Int)) 47 rfl kj kj ?_
    refine Qae ?_
    have mu73_10:=(hu.ext e10)
    have mu74_11:=(mu73_10.puts p11 (QbG mu73_10 r25_10 (by decide)))
    have mu75_12:=(mu74_11.ext e12)
    have mu76_13:=(mu75_12.ext e13)
    have mu77_14:=(mu76_13.ext e14)
    have r13_14:=(Qab r13_13 e14)
    have r4_10:=(Qab q4_1 e10)
    have r4_11:=(Puts.row p11 r4_10 (Qag q4_1 l25))
    have r4_12:=(Qab r4_11 e12)
    have r4_13:=(Qab r4_12 e13)
    have r4_14:=(Qab r4_13 e14)
    have r5_10:=(Qab q5_1 e10)
    have r5_11:=(Puts.row p11 r5_10 (Qag q5_1 l25))
    have r5_12:=(Qab r5_11 e12)
    have r5_13:=(Qab r5_12 e13)
    have r5_14:=(Qab r5_13 e14)
    repeat (first | with_reducible refine goX1 ?_ | with_reducible refine goX2 ?_ | with_reducible refine goX3 ?_)
    exact Qax ((i+1),n,p,B,ts,.slice a_u ts.length c_u) ⟨rfl,rfl,rfl,rfl,rfl,rfl,rfl,rfl,trivial⟩ ⟨(by omega),hn,hI,hzb,(Nat.le_succ_of_le hzl),mu77_14,(qT hbz (qT (qT (qT (qT (qT (qR _) e10.size) (qE p11.2.2.2.1.symm)) e12.size) e13.size) e14.size)),r13_14,r4_14,r5_14,x14⟩ (by show len-(i+1)<len-i; omega)
   ·skip
    refine Qac ?_
    refine Qaa (.pointer (some ⟨g25,2,none⟩)) 173 rfl kj kj ?_
    refine Qaa (.int .i64 op.n) 174 rfl kj (Qah 3 _ g25 2 68 _ (.int .i64 op.n) _ r25_12 rfl kj kj kj) ?_
    refine Qaa (.int .i64 ((n:Nat):Int)) 175 rfl kj kj ?_
    refine Qaa (.bool true) 176 rfl kj (Qad (u:=.bool (decide (op.n≥((n:Nat):Int)))) kj (congrArg Value.bool (decide_eq_true (by omega)))) ?_
    refine Qaa (.bool true) 177 rfl kj kj ?_
    refine Qaa (.pointer (some ⟨g25,2,none⟩)) 178 rfl kj kj ?_
    refine Qaa (.int .i64 op.n) 179 rfl kj (Qah 3 _ g25 2 68 _ (.int .i64 op.n) _ r25_12 rfl kj kj kj) ?_
    refine Qaa (.bool false) 180 rfl kj (Qad (u:=.bool (decide (op.n≤4294967295))) kj (congrArg Value.bool (decide_eq_false (by omega)))) ?_
    refine Qaa (.bool false) 181 rfl kj kj ?_
    refine Qaa (.bool false) 17 rfl kj kj ?_
    refine Qae ?_
    refine hK69 _ _ ?_
    refine wp_seq_k fun K78 hK78=>?_
    refine wp_seq_k fun K79 hK79=>?_
    refine Qac ?_
    refine Qaa (.bool false) 182 rfl kj kj ?_
    refine Qae ?_
    refine hK79 _ _ ?_
    refine cond_false kj ?_
    refine wp_skip ?_
    refine hK78 _ _ ?_
    refine wp_seq_k fun K80 hK80=>?_
    refine Qac ?_
    refine Qaa (.pointer (some ⟨gl13,0,none⟩)) 185 rfl kj kj ?_
    refine Qaa (.pointer (some ⟨g25,2,none⟩)) 186 rfl kj kj ?_
    refine Qaa (.int .i64 op.n) 187 rfl kj (Qah 3 _ g25 2 68 _ (.int .i64 op.n) _ r25_12 rfl kj kj kj) ?_
    have r13_10:=(Qab q13_1 e10)
    have r13_11:=(Puts.row p11 r13_10 (Qag q13_1 l25))
    have r13_12:=(Qab r13_11 e12)
    refine Qan (.bool false) 48 #[.pointer (some ⟨gl13,0,none⟩),.int .i64 op.n] 188 rfl kj kj (Qkk gl13 p B hI.hnx hI.hB sk rk n hsk hrk _ r13_12 op.n (by omega) (by omega)) fun W13 e13=>?_
    have x13:Ext w W13:=Ext.tr x12 e13
    refine Qaa (.bool false) 189 rfl kj kj ?_
    refine Qaa (.bool false) 190 rfl kj kj ?_
    refine Qaa (.bool false) 191 rfl kj kj ?_
    refine Qaa (.pointer (some ⟨gl13,0,none⟩)) 192 rfl kj kj ?_
    have r13_13:=(Qab r13_12 e13)
    refine Qan (.int .i64 ((n:Nat):Int)) 45 #[.pointer (some ⟨gl13,0,none⟩)] 193 rfl kj kj (Qgj gl13 p B hI.hnx hI.hB sk rk n hsk hrk _ r13_13) fun W14 e14=>?_
    have x14:Ext w W14:=Ext.tr x13 e14
    refine Qaa (.int .i64 ((n:Nat):Int)) 194 rfl kj kj ?_
    refine Qaa (.bool false) 195 rfl kj (Qad (u:=.bool ((((n:Nat):Int) != ((n:Nat):Int)))) kj (congrArg Value.bool (bne_self_eq_false _))) ?_
    refine Qaa (.bool false) 196 rfl kj kj ?_
    refine Qae ?_
    refine hK80 _ _ ?_
    refine cond_false kj ?_
    refine wp_skip ?_
    refine hK23 _ _ ?_
    refine Qac ?_
    refine Qaa (.int .i64 ((i+1:Nat):Int)) 197 rfl kj (Qad (u:=.int .i64 (IntKind.i64.wrap (((i:Nat):Int)+1))) kj (congrArg (Value.int .i64) (i64n _ _ (by omega) (by omega)))) ?_
    refine Qaa (.int .i64 ((i+1:Nat):Int)) 47 rfl kj kj ?_
    refine Qae ?_
    have mu81_10:=(hu.ext e10)
    have mu82_11:=(mu81_10.puts p11 (QbG mu81_10 r25_10 (by decide)))
    have mu83_12:=(mu82_11.ext e12)
    have mu84_13:=(mu83_12.ext e13)
    have mu85_14:=(mu84_13.ext e14)
    have r13_14:=(Qab r13_13 e14)
    have r4_10:=(Qab q4_1 e10)
    have r4_11:=(Puts.row p11 r4_10 (Qag q4_1 l25))
    have r4_12:=(Qab r4_11 e12)
    have r4_13:=(Qab r4_12 e13)
    have r4_14:=(Qab r4_13 e14)
    have r5_10:=(Qab q5_1 e10)
    have r5_11:=(Puts.row p11 r5_10 (Qag q5_1 l25))
    have r5_12:=(Qab r5_11 e12)
    have r5_13:=(Qab r5_12 e13)
    have r5_14:=(Qab r5_13 e14)
    repeat (first | with_reducible refine goX1 ?_ | with_reducible refine goX2 ?_ | with_reducible refine goX3 ?_)
    exact Qax ((i+1),n,p,B,ts,.slice a_u ts.length c_u) ⟨rfl,rfl,rfl,rfl,rfl,rfl,rfl,rfl,trivial⟩ ⟨(by omega),hn,hI,hzb,(Nat.le_succ_of_le hzl),mu85_14,(qT hbz (qT (qT (qT (qT (qT (qR _) e10.size) (qE p11.2.2.2.1.symm)) e12.size) e13.size) e14.size)),r13_14,r4_14,r5_14,x14⟩ (by show len-(i+1)<len-i; omega)
   ·skip
    obtain ⟨m,hm⟩:∃ m:Nat,op.n=(m:Int):=⟨op.n.toNat,by omega⟩
    refine Qac ?_
    refine Qaa (.pointer (some ⟨g25,2,none⟩)) 173 rfl kj kj ?_
    refine Qaa (.int .i64 op.n) 174 rfl kj (Qah 3 _ g25 2 68 _ (.int .i64 op.n) _ r25_12 rfl kj kj kj) ?_
    refine Qaa (.int .i64 ((n:Nat):Int)) 175 rfl kj kj ?_
    refine Qaa (.bool true) 176 rfl kj (Qad (u:=.bool (decide (op.n≥((n:Nat):Int)))) kj (congrArg Value.bool (decide_eq_true (by omega)))) ?_
    refine Qaa (.bool true) 177 rfl kj kj ?_
    refine Qaa (.pointer (some ⟨g25,2,none⟩)) 178 rfl kj kj ?_
    refine Qaa (.int .i64 op.n) 179 rfl kj (Qah 3 _ g25 2 68 _ (.int .i64 op.n) _ r25_12 rfl kj kj kj) ?_
    refine Qaa (.bool true) 180 rfl kj (Qad (u:=.bool (decide (op.n≤4294967295))) kj (congrArg Value.bool (decide_eq_true (by omega)))) ?_
    refine Qaa (.bool true) 181 rfl kj kj ?_
    refine Qaa (.bool true) 17 rfl kj kj ?_
    refine Qae ?_
    refine hK69 _ _ ?_
    refine wp_seq_k fun K86 hK86=>?_
    refine wp_seq_k fun K87 hK87=>?_
    refine Qac ?_
    refine Qaa (.bool true) 182 rfl kj kj ?_
    refine Qae ?_
    refine hK87 _ _ ?_
    refine cond_true kj ?_
    refine Qac ?_
    refine Qaa (.pointer (some ⟨g25,2,none⟩)) 183 rfl kj kj ?_
    refine Qaa (.int .i64 op.n) 184 rfl kj (Qah 3 _ g25 2 68 _ (.int .i64 op.n) _ r25_12 rfl kj kj kj) ?_
    refine Qaa (.int .i64 op.n) 8 rfl kj kj ?_
    refine Qae ?_
    refine hK86 _ _ ?_
    refine wp_seq_k fun K88 hK88=>?_
    refine Qac ?_
    refine Qaa (.pointer (some ⟨gl13,0,none⟩)) 185 rfl kj kj ?_
    refine Qaa (.pointer (some ⟨g25,2,none⟩)) 186 rfl kj kj ?_
    refine Qaa (.int .i64 op.n) 187 rfl kj (Qah 3 _ g25 2 68 _ (.int .i64 op.n) _ r25_12 rfl kj kj kj) ?_
    have r13_10:=(Qab q13_1 e10)
    have r13_11:=(Puts.row p11 r13_10 (Qag q13_1 l25))
    have r13_12:=(Qab r13_11 e12)
    refine Qat (fun v W'=>v=.bool true∧ExtB gl13 W12 W'∧W'.heap[gl13]? = some (.cells (cat [#[.int .i64 p],#[.int .u64 ((B:Nat):Int)],ints .u8 (sk),ints .u8 (rk),#[.int .i64 ((m:Nat):Int)]]) 136)) 48 #[.pointer (some ⟨gl13,0,none⟩),.int .i64 op.n] 188 rfl kj kj ((show Calls Tryd.prog 48 #[.pointer (some ⟨gl13,0,none⟩),.int .i64 op.n] W12 (fun e W=>e=.returned (.bool true)∧ExtB gl13 W12 W∧W.heap[gl13]? = some (.cells (cat [#[.int .i64 p],#[.int .u64 ((B:Nat):Int)],ints .u8 (sk),ints .u8 (rk),#[.int .i64 ((m:Nat):Int)]]) 136)) from by rw [hm]; exact Qkl gl13 p B hI.hnx hI.hB sk rk n hsk hrk _ r13_12 m (by omega) (by omega)).mono (by intro e w' h; exact ⟨_,h.1,rfl,h.2⟩)) fun v W13 h89=>?_
    obtain ⟨rfl,q13,r13_13⟩:=h89
    have x13:Ext w W13:=ExtB.up x12 q13 b13
    refine Qaa (.bool true) 189 rfl kj kj ?_
    refine Qaa (.bool false) 190 rfl kj kj ?_
    refine Qaa (.bool false) 191 rfl kj kj ?_
    refine Qaa (.pointer (some ⟨gl13,0,none⟩)) 192 rfl kj kj ?_
    refine Qan (.int .i64 ((m:Nat):Int)) 45 #[.pointer (some ⟨gl13,0,none⟩)] 193 rfl kj kj (Qgj gl13 p B hI.hnx hI.hB sk rk m hsk hrk _ r13_13) fun W14 e14=>?_
    have x14:Ext w W14:=Ext.tr x13 e14
    refine Qaa (.int .i64 op.n) 194 rfl kj kj ?_
    refine Qaa (.bool false) 195 rfl kj (Qad (u:=.bool ((((m:Nat):Int) != op.n))) kj (congrArg Value.bool (bne_eq_false_iff_eq.2 hm.symm))) ?_
    refine Qaa (.bool false) 196 rfl kj kj ?_
    refine Qae ?_
    refine hK88 _ _ ?_
    refine cond_false kj ?_
    refine wp_skip ?_
    refine hK23 _ _ ?_
    refine Qac ?_
    refine Qaa (.int .i64 ((i+1:Nat):Int)) 197 rfl kj (Qad (u:=.int .i64 (IntKind.i64.wrap (((i:Nat):Int)+1))) kj (congrArg (Value.int .i64) (i64n _ _ (by omega) (by omega)))) ?_
    refine Qaa (.int .i64 ((i+1:Nat):Int)) 47 rfl kj kj ?_
    refine Qae ?_
    have mu90_10:=(hu.ext e10)
    have mu91_11:=(mu90_10.puts p11 (QbG mu90_10 r25_10 (by decide)))
    have mu92_12:=(mu91_11.ext e12)
    have mu93_13:=(Qbs mu92_12 q13 (QbG mu92_12 r13_12 (by decide)))
    have mu94_14:=(mu93_13.ext e14)
    have r13_14:=(Qab r13_13 e14)
    have r4_10:=(Qab q4_1 e10)
    have r4_11:=(Puts.row p11 r4_10 (Qag q4_1 l25))
    have r4_12:=(Qab r4_11 e12)
    have r4_13:=(ExtB.row q13 r4_12 n_4_13)
    have r4_14:=(Qab r4_13 e14)
    have r5_10:=(Qab q5_1 e10)
    have r5_11:=(Puts.row p11 r5_10 (Qag q5_1 l25))
    have r5_12:=(Qab r5_11 e12)
    have r5_13:=(ExtB.row q13 r5_12 n_5_13)
    have r5_14:=(Qab r5_13 e14)
    repeat (first | with_reducible refine goX1 ?_ | with_reducible refine goX2 ?_ | with_reducible refine goX3 ?_)
    exact Qax ((i+1),m,p,B,ts,.slice a_u ts.length c_u) ⟨rfl,rfl,rfl,(congrArg (Value.int .i64) hm),rfl,rfl,rfl,rfl,trivial⟩ ⟨(by omega),(show m≤4294967295 by omega),hI,hzb,(Nat.le_succ_of_le hzl),mu94_14,(qT hbz (qT (qT (qT (qT (qT (qR _) e10.size) (qE p11.2.2.2.1.symm)) e12.size) q13.2.2.2.1) e14.size)),r13_14,r4_14,r5_14,x14⟩ (by show len-(i+1)<len-i; omega)
  ·skip
   refine Qac ?_
   refine Qaa (.bool false) 129 rfl kj (Qad (u:=.bool ((op.kind==0))) kj (congrArg Value.bool (beq_eq_false_iff_ne.2 (by omega)))) ?_
   refine Qaa (.bool false) 128 rfl kj kj ?_
   refine Qae ?_
   refine hK30 _ _ ?_
   refine cond_false kj ?_
   refine wp_seq_k fun K95 hK95=>?_
   refine Qac ?_
   refine Qaa (.bool false) 172 rfl kj (Qad (u:=.bool ((op.kind==1))) kj (congrArg Value.bool (beq_eq_false_iff_ne.2 (by omega)))) ?_
   refine Qaa (.bool false) 171 rfl kj kj ?_
   refine Qae ?_
   refine hK95 _ _ ?_
   refine cond_false kj ?_
   refine wp_seq_k fun K96 hK96=>?_
   refine Qac ?_
   refine Qaa (.pointer (some ⟨g25,1,none⟩)) 56 rfl kj kj ?_
   refine Qaa (.slice op.a op.xs.length op.c) 57 rfl kj (Qah 33 _ g25 1 68 _ (.slice op.a op.xs.length op.c) _ r25_12 rfl kj kj kj) ?_
   refine Qaa (.slice op.a op.xs.length op.c) 18 rfl kj kj ?_
   refine Qae ?_
   refine hK96 _ _ ?_
   refine wp_seq_k fun K97 hK97=>?_
   refine wp_seq_k fun K98 hK98=>?_
   refine Qac ?_
   refine Qaa (.pointer (some ⟨g25,0,none⟩)) 58 rfl kj kj ?_
   refine Qaa (.int .i64 op.kind) 59 rfl kj (Qah 3 _ g25 0 68 _ (.int .i64 op.kind) _ r25_12 rfl kj kj kj) ?_
   refine Qaa (.bool false) 60 rfl kj (Qad (u:=.bool ((op.kind != 3))) kj (congrArg Value.bool (bne_eq_false_iff_eq.2 hk))) ?_
   refine Qae ?_
   refine hK98 _ _ ?_
   refine cond_false kj ?_
   refine wp_skip ?_
   refine hK97 _ _ ?_
   refine wp_seq_k fun K99 hK99=>?_
   skip
   ·skip
    obtain ⟨xo,bad,mm,p2,q2,ts2,hxob,hxol,hI2,hbn,hP,hR_⟩:=Qff rk hrk hrkb p B ts hI hzb (by omega) op.xs hobx
    refine Qac ?_
    refine Qaa (.slice op.a op.xs.length op.c) 83 rfl kj kj ?_
    refine Qat (fun v W'=>(QbS 5 W12.heap.size (op.xs)) v W'∧Ext W12 W') 20 #[.slice op.a op.xs.length op.c] 84 rfl kj kj ((Qje (op.xs) _ _ _ (by omega) (OpAt4.rd (OpAt4.ext hop x12))).mono (by rintro e w' ⟨v,rfl,e1,hv⟩; exact ⟨v,rfl,hv,e1⟩)) fun vv100 W13 hh100=>?_
    obtain ⟨hv100,e13⟩:=hh100
    have x13:Ext w W13:=Ext.tr x12 e13
    obtain ⟨gk101,ck101,rfl,ho101⟩:=hv100
    refine Qaa (.slice (some ⟨gk101,0,none⟩) (op.xs).length ck101) 19 rfl kj kj ?_
    refine Qae ?_
    refine hK99 _ _ ?_
    refine wp_seq_k fun K102 hK102=>?_
    refine Qac ?_
    refine Qaa (.pointer (some ⟨gl13,0,none⟩)) 86 rfl kj kj ?_
    refine Qaa (.slice (some ⟨gk101,0,none⟩) (op.xs).length ck101) 87 rfl kj kj ?_
    have r13_10:=(Qab q13_1 e10)
    have r13_11:=(Puts.row p11 r13_10 (Qag q13_1 l25))
    have r13_12:=(Qab r13_11 e12)
    have r13_13:=(Qab r13_12 e13)
    have r2_10:=(Qab (Qab hh xx1) e10)
    have r2_11:=(Puts.row p11 r2_10 (Qag (Qab hh xx1) l25))
    have r2_12:=(Qab r2_11 e12)
    have r2_13:=(Qab r2_12 e13)
    have r1_10:=(Qab (Qab hq xx1) e10)
    have r1_11:=(Puts.row p11 r1_10 (Qag (Qab hq xx1) l25))
    have r1_12:=(Qab r1_11 e12)
    have r1_13:=(Qab r1_12 e13)
    refine Qat (fun v W'=>∃ u,v=.tuple #[u,errV bad]∧OwnN .u8 5 W13.heap.size xo u W'∧ExtB gl13 W13 W'∧W'.heap[gl13]? = some (.cells (cat [#[.int .i64 p2],#[.int .u64 ((q2:Nat):Int)],ints .u8 (sk),ints .u8 (rk),#[.int .i64 ((n:Nat):Int)]]) 136)) 49 #[.pointer (some ⟨gl13,0,none⟩),.slice (some ⟨gk101,0,none⟩) (op.xs).length ck101] 88 rfl kj kj ((hP gl13 sk n _ th tq _ hsk r13_13 r2_13 r1_13 (Nat.ne_of_lt (qL (Qa0 hh) b13)) (Nat.ne_of_lt (qL (Qa0 hq) b13)) (fun W e=>OwnN.rd (Qbs (QbS.own ⟨gk101,ck101,rfl,ho101⟩) e (Qc9 (QbS.own ⟨gk101,ck101,rfl,ho101⟩) (Qa0 r13_12))))).mono (by rintro e w' ⟨u,rfl,h1,h2,h3⟩; exact ⟨_,rfl,u,rfl,h1,h2,h3⟩)) fun v W14 h103=>?_
    obtain ⟨u103_,rfl,hu103_,q14,r13_14⟩:=h103
    have x14:Ext w W14:=ExtB.up x13 q14 b13
    obtain ⟨a103_,c103_,rfl,-⟩:=id (OwnN.rd hu103_)
    refine Qaa (.tuple #[.slice a103_ ((xo).length) c103_,errV bad]) 85 rfl kj kj ?_
    refine Qaa (.slice a103_ ((xo).length) c103_) 89 rfl kj kj ?_
    refine Qaa (errV bad) 90 rfl kj kj ?_
    refine Qaa (.slice a103_ ((xo).length) c103_) 20 rfl kj kj ?_
    refine Qaa (errV bad) 21 rfl kj kj ?_
    refine Qae ?_
    refine hK102 _ _ ?_
    refine wp_seq_k fun K104 hK104=>?_
    refine Qac ?_
    have r5_10:=(Qab q5_1 e10)
    have r5_11:=(Puts.row p11 r5_10 (Qag q5_1 l25))
    have r5_12:=(Qab r5_11 e12)
    have r5_13:=(Qab r5_12 e13)
    have r5_14:=(ExtB.row q14 r5_13 n_5_13)
    refine Qaa (.agg (ints .u8 (rk))) 92 rfl kj (Qao 23 _ g5 23 _ _ r5_14 rfl kj kj (isz (n:=32) kj ((Qaf _ _).trans hrk))) ?_
    refine Qaa (.slice a_u ts.length c_u) 93 rfl kj kj ?_
    refine Qaa (.slice op.a op.xs.length op.c) 94 rfl kj kj ?_
    have mu105_10:=(hu.ext e10)
    have mu106_11:=(mu105_10.puts p11 (QbG mu105_10 r25_10 (by decide)))
    have mu107_12:=(mu106_11.ext e12)
    have mu108_13:=(mu107_12.ext e13)
    have mu109_14:=(Qbs mu108_13 q14 (QbG mu108_13 r13_13 (by decide)))
    refine Qat (fun v W'=>(fun v W=>∃ u,v=.tuple #[.int .i64 mm,u,.int .i64 bad]∧OwnN .u8 5 W14.heap.size xo u W) v W'∧Ext W14 W') 50 #[.agg (ints .u8 (rk)),.slice a_u ts.length c_u,.slice op.a op.xs.length op.c] 95 rfl kj kj ((hR_ _ _ _ _ _ _ (OwnN.rd mu109_14) (OpAt4.rd (OpAt4.ext hop x14))).mono (by rintro e w' ⟨v,rfl,e1,hv⟩; exact ⟨v,rfl,hv,e1⟩)) fun vv110 W15 hh110=>?_
    obtain ⟨hv110,e15⟩:=hh110
    have x15:Ext w W15:=Ext.tr x14 e15
    obtain ⟨u111_,rfl,hu111_⟩:=hv110
    obtain ⟨a111_,c111_,rfl,-⟩:=id (OwnN.rd hu111_)
    refine Qaa (.tuple #[.int .i64 mm,.slice a111_ ((xo).length) c111_,.int .i64 bad]) 91 rfl kj kj ?_
    refine Qaa (.int .i64 mm) 96 rfl kj kj ?_
    refine Qaa (.slice a111_ ((xo).length) c111_) 97 rfl kj kj ?_
    refine Qaa (.int .i64 bad) 98 rfl kj kj ?_
    refine Qaa (.int .i64 mm) 22 rfl kj kj ?_
    refine Qaa (.slice a111_ ((xo).length) c111_) 23 rfl kj kj ?_
    refine Qaa (.int .i64 bad) 24 rfl kj kj ?_
    refine Qae ?_
    refine hK104 _ _ ?_
    refine wp_seq_k fun K112 hK112=>?_
    refine wp_seq_k fun K113 hK113=>?_
    rcases hbn with hb | hb
    ·skip
     obtain ⟨hb1,hb2,hb3,hb4⟩:=hb
     subst hb2
     refine Qac ?_
     refine Qaa (.int .i64 bad) 99 rfl kj kj ?_
     refine Qaa (.bool true) 100 rfl kj (Qad (u:=.bool ((bad==0))) kj (congrArg Value.bool (beq_iff_eq.2 hb1))) ?_
     refine Qae ?_
     refine hK113 _ _ ?_
     refine cond_true kj ?_
     refine Qac ?_
     refine Qaa (.slice a_u ts.length c_u) 101 rfl kj kj ?_
     refine Qaa (.int .i64 mm) 102 rfl kj kj ?_
     refine QaD (ints .i64 ([mm])) 3 1 103 rfl kj kj fun g114 W16 l114 e16 r114_16=>?_
     have x16:Ext w W16:=Ext.tr x15 e16
     have b114:w.heap.size≤g114:=qT x15.size l114
     have mu115_15:=(mu109_14.ext e15)
     have mu116_16:=(mu115_15.ext e16)
     have r13_15:=(Qab r13_14 e15)
     have r13_16:=(Qab r13_15 e16)
     have r4_10:=(Qab q4_1 e10)
     have r4_11:=(Puts.row p11 r4_10 (Qag q4_1 l25))
     have r4_12:=(Qab r4_11 e12)
     have r4_13:=(Qab r4_12 e13)
     have r4_14:=(ExtB.row q14 r4_13 n_4_13)
     have r4_15:=(Qab r4_14 e15)
     have r4_16:=(Qab r4_15 e16)
     have r5_15:=(Qab r5_14 e15)
     have r5_16:=(Qab r5_15 e16)
     have r25_13:=(Qab r25_12 e13)
     have r25_14:=(ExtB.row q14 r25_13 (QaA q13_1 l25))
     have r25_15:=(Qab r25_14 e15)
     have r25_16:=(Qab r25_15 e16)
     refine QdA (k:=.i64) (T:=3) (xs:=ts) (ys:=[mm]) (W7.heap.size) 8 (.tmp 101) (.tmp 103) 66 rfl kj kj (by decide) 104 rfl kj kj kj mu116_16 (QaM (xs:=[mm]) (n:=1) rfl r114_16 (Qa0 r114_16) (by decide)) (by simp; omega) (qT hbz (qT (qT (qT (qT (qT (qT (qT (qR _) e10.size) (qE p11.2.2.2.1.symm)) e12.size) e13.size) q14.2.2.2.1) e15.size) e16.size)) fun u2 W17 hu2 q17=>?_
     have x17:Ext w W17:=Qip x16 q17 (fun g hg=>qT x7.size (OwnN.ge mu116_16 hg))
     obtain ⟨a_v,c_v,rfl,-⟩:=id (OwnN.rd hu2)
     refine Qaa (.slice a_v ((ts++[mm]).length) c_v) 9 rfl kj kj ?_
     refine Qae ?_
     refine hK112 _ _ ?_
     refine wp_seq_k fun K117 hK117=>?_
     refine Qac ?_
     refine Qaa (.slice a103_ ((xo).length) c103_) 105 rfl kj kj ?_
     refine Qaa (.slice a111_ ((xo).length) c111_) 106 rfl kj kj ?_
     have f118_15:=(hu103_.ext e15)
     have f119_16:=(f118_15.ext e16)
     have f120_17:=(OwnN.grownN f119_16 q17 mu116_16 (by decide))
     have f121_16:=(hu111_.ext e16)
     have f122_17:=(OwnN.grownN f121_16 q17 mu116_16 (by decide))
     refine Qan (.bool true) 26 #[.slice a103_ ((xo).length) c103_,.slice a111_ ((xo).length) c111_] 107 rfl kj kj ((QfA _ _ _ _ _ rfl (RdK.bytes (OwnN.rd f120_17) hxob) (RdK.bytes (OwnN.rd f122_17) hxob))) fun W18 e18=>?_
     have x18:Ext w W18:=Ext.tr x17 e18
     refine Qaa (.bool false) 108 rfl kj kj ?_
     refine Qaa (.bool false) 109 rfl kj kj ?_
     refine Qaa (errV bad) 110 rfl kj kj ?_
     refine Qan (.int .i64 bad) 25 #[errV bad] 111 rfl kj kj ((numV bad) _) fun W19 e19=>?_
     have x19:Ext w W19:=Ext.tr x18 e19
     refine Qaa (.int .i64 bad) 112 rfl kj kj ?_
     refine Qaa (.bool false) 113 rfl kj (Qad (u:=.bool ((bad != bad))) kj (congrArg Value.bool (bne_self_eq_false _))) ?_
     refine Qaa (.bool false) 114 rfl kj kj ?_
     refine Qaa (.bool false) 115 rfl kj kj ?_
     refine Qaa (.slice (some ⟨gk101,0,none⟩) (op.xs).length ck101) 116 rfl kj kj ?_
     refine Qaa (.slice op.a op.xs.length op.c) 117 rfl kj kj ?_
     have f123_14:=(Qbs ho101 q14 (Qc9 ho101 (Qa0 r13_12)))
     have f124_15:=(f123_14.ext e15)
     have f125_16:=(f124_15.ext e16)
     have f126_17:=(OwnN.grownN f125_16 q17 mu116_16 (by decide))
     have f127_18:=(f126_17.ext e18)
     have f128_19:=(f127_18.ext e19)
     refine Qan (.bool true) 28 #[.slice (some ⟨gk101,0,none⟩) (op.xs).length ck101,.slice op.a op.xs.length op.c] 118 rfl kj kj ((QfQ (op.xs) _ _ _ _ _ (by omega) hobx (show QbS 5 _ (op.xs) _ _ from ⟨gk101,ck101,rfl,f128_19⟩) (OpAt4.rd (OpAt4.ext hop x19)))) fun W20 e20=>?_
     have x20:Ext w W20:=Ext.tr x19 e20
     refine Qaa (.bool false) 119 rfl kj kj ?_
     refine Qaa (.bool false) 120 rfl kj kj ?_
     refine Qaa (.bool false) 121 rfl kj kj ?_
     refine Qaa (.pointer (some ⟨gl13,0,none⟩)) 122 rfl kj kj ?_
     have r13_17:=(Qd8 q17 r13_16 (QbG mu116_16 r13_16 (by decide)))
     have r13_18:=(Qab r13_17 e18)
     have r13_19:=(Qab r13_18 e19)
     have r13_20:=(Qab r13_19 e20)
     refine Qan (.int .i64 (p2-1)) 44 #[.pointer (some ⟨gl13,0,none⟩)] 123 rfl kj kj (HighestC gl13 p2 q2 hI2.hnx hI2.hB sk rk n hsk hrk _ r13_20) fun W21 e21=>?_
     have x21:Ext w W21:=Ext.tr x20 e21
     refine Qaa (.slice a_v ((ts++[mm]).length) c_v) 124 rfl kj kj ?_
     have mu129_18:=(hu2.ext e18)
     have mu130_19:=(mu129_18.ext e19)
     have mu131_20:=(mu130_19.ext e20)
     have mu132_21:=(mu131_20.ext e21)
     refine Qan (.int .i64 (hiT (ts++[mm]))) 51 #[.slice a_v ((ts++[mm]).length) c_v] 125 rfl kj kj (QcI (ts++[mm]) (by simp; omega) _ _ _ _ (OwnN.rd mu132_21)) fun W22 e22=>?_
     have x22:Ext w W22:=Ext.tr x21 e22
     refine Qaa (.bool false) 126 rfl kj (Qad (u:=.bool (((p2-1) != (hiT (ts++[mm]))))) kj (congrArg Value.bool (bne_eq_false_iff_eq.2 hI2.hhi.symm))) ?_
     refine Qaa (.bool false) 127 rfl kj kj ?_
     refine Qae ?_
     refine hK117 _ _ ?_
     refine cond_false kj ?_
     refine wp_skip ?_
     refine hK23 _ _ ?_
     refine Qac ?_
     refine Qaa (.int .i64 ((i+1:Nat):Int)) 197 rfl kj (Qad (u:=.int .i64 (IntKind.i64.wrap (((i:Nat):Int)+1))) kj (congrArg (Value.int .i64) (i64n _ _ (by omega) (by omega)))) ?_
     refine Qaa (.int .i64 ((i+1:Nat):Int)) 47 rfl kj kj ?_
     refine Qae ?_
     have mu133_22:=(mu132_21.ext e22)
     have r13_21:=(Qab r13_20 e21)
     have r13_22:=(Qab r13_21 e22)
     have r4_17:=(Qd8 q17 r4_16 (QbG mu116_16 r4_16 (by decide)))
     have r4_18:=(Qab r4_17 e18)
     have r4_19:=(Qab r4_18 e19)
     have r4_20:=(Qab r4_19 e20)
     have r4_21:=(Qab r4_20 e21)
     have r4_22:=(Qab r4_21 e22)
     have r5_17:=(Qd8 q17 r5_16 (QbG mu116_16 r5_16 (by decide)))
     have r5_18:=(Qab r5_17 e18)
     have r5_19:=(Qab r5_18 e19)
     have r5_20:=(Qab r5_19 e20)
     have r5_21:=(Qab r5_20 e21)
     have r5_22:=(Qab r5_21 e22)
     repeat (first | with_reducible refine goX1 ?_ | with_reducible refine goX2 ?_ | with_reducible refine goX3 ?_)
     exact Qax ((i+1),n,p2,q2,(ts++[mm]),.slice a_v ((ts++[mm]).length) c_v) ⟨rfl,rfl,rfl,rfl,rfl,rfl,rfl,rfl,trivial⟩ ⟨(by omega),hn,hI2,(Qfr hzb hb3 hb4),(by rw [List.length_append]; exact Nat.succ_le_succ hzl),mu133_22,(qT (qT (qT hbz (qT (qT (qT (qT (qT (qT (qT (qR _) e10.size) (qE p11.2.2.2.1.symm)) e12.size) e13.size) q14.2.2.2.1) e15.size) e16.size)) q17.size) (qT (qT (qT (qT (qT (qR _) e18.size) e19.size) e20.size) e21.size) e22.size)),r13_22,r4_22,r5_22,x22⟩ (by show len-(i+1)<len-i; omega)
    ·skip
     obtain ⟨hb1,hb2⟩:=hb
     rw [hb2] at hI2
     refine Qac ?_
     refine Qaa (.int .i64 bad) 99 rfl kj kj ?_
     refine Qaa (.bool false) 100 rfl kj (Qad (u:=.bool ((bad==0))) kj (congrArg Value.bool (beq_eq_false_iff_ne.2 hb1))) ?_
     refine Qae ?_
     refine hK113 _ _ ?_
     refine cond_false kj ?_
     refine wp_skip ?_
     refine hK112 _ _ ?_
     refine wp_seq_k fun K134 hK134=>?_
     refine Qac ?_
     refine Qaa (.slice a103_ ((xo).length) c103_) 105 rfl kj kj ?_
     refine Qaa (.slice a111_ ((xo).length) c111_) 106 rfl kj kj ?_
     have f135_15:=(hu103_.ext e15)
     refine Qan (.bool true) 26 #[.slice a103_ ((xo).length) c103_,.slice a111_ ((xo).length) c111_] 107 rfl kj kj ((QfA _ _ _ _ _ rfl (RdK.bytes (OwnN.rd f135_15) hxob) (RdK.bytes (OwnN.rd hu111_) hxob))) fun W16 e16=>?_
     have x16:Ext w W16:=Ext.tr x15 e16
     refine Qaa (.bool false) 108 rfl kj kj ?_
     refine Qaa (.bool false) 109 rfl kj kj ?_
     refine Qaa (errV bad) 110 rfl kj kj ?_
     refine Qan (.int .i64 bad) 25 #[errV bad] 111 rfl kj kj ((numV bad) _) fun W17 e17=>?_
     have x17:Ext w W17:=Ext.tr x16 e17
     refine Qaa (.int .i64 bad) 112 rfl kj kj ?_
     refine Qaa (.bool false) 113 rfl kj (Qad (u:=.bool ((bad != bad))) kj (congrArg Value.bool (bne_self_eq_false _))) ?_
     refine Qaa (.bool false) 114 rfl kj kj ?_
     refine Qaa (.bool false) 115 rfl kj kj ?_
     refine Qaa (.slice (some ⟨gk101,0,none⟩) (op.xs).length ck101) 116 rfl kj kj ?_
     refine Qaa (.slice op.a op.xs.length op.c) 117 rfl kj kj ?_
     have f136_14:=(Qbs ho101 q14 (Qc9 ho101 (Qa0 r13_12)))
     have f137_15:=(f136_14.ext e15)
     have f138_16:=(f137_15.ext e16)
     have f139_17:=(f138_16.ext e17)
     refine Qan (.bool true) 28 #[.slice (some ⟨gk101,0,none⟩) (op.xs).length ck101,.slice op.a op.xs.length op.c] 118 rfl kj kj ((QfQ (op.xs) _ _ _ _ _ (by omega) hobx (show QbS 5 _ (op.xs) _ _ from ⟨gk101,ck101,rfl,f139_17⟩) (OpAt4.rd (OpAt4.ext hop x17)))) fun W18 e18=>?_
     have x18:Ext w W18:=Ext.tr x17 e18
     refine Qaa (.bool false) 119 rfl kj kj ?_
     refine Qaa (.bool false) 120 rfl kj kj ?_
     refine Qaa (.bool false) 121 rfl kj kj ?_
     refine Qaa (.pointer (some ⟨gl13,0,none⟩)) 122 rfl kj kj ?_
     have r13_15:=(Qab r13_14 e15)
     have r13_16:=(Qab r13_15 e16)
     have r13_17:=(Qab r13_16 e17)
     have r13_18:=(Qab r13_17 e18)
     refine Qan (.int .i64 (p2-1)) 44 #[.pointer (some ⟨gl13,0,none⟩)] 123 rfl kj kj (HighestC gl13 p2 q2 hI2.hnx hI2.hB sk rk n hsk hrk _ r13_18) fun W19 e19=>?_
     have x19:Ext w W19:=Ext.tr x18 e19
     refine Qaa (.slice a_u ts.length c_u) 124 rfl kj kj ?_
     have mu140_15:=(mu109_14.ext e15)
     have mu141_16:=(mu140_15.ext e16)
     have mu142_17:=(mu141_16.ext e17)
     have mu143_18:=(mu142_17.ext e18)
     have mu144_19:=(mu143_18.ext e19)
     refine Qan (.int .i64 (hiT ts)) 51 #[.slice a_u ts.length c_u] 125 rfl kj kj (QcI ts (by omega) _ _ _ _ (OwnN.rd mu144_19)) fun W20 e20=>?_
     have x20:Ext w W20:=Ext.tr x19 e20
     refine Qaa (.bool false) 126 rfl kj (Qad (u:=.bool (((p2-1) != (hiT ts)))) kj (congrArg Value.bool (bne_eq_false_iff_eq.2 hI2.hhi.symm))) ?_
     refine Qaa (.bool false) 127 rfl kj kj ?_
     refine Qae ?_
     refine hK134 _ _ ?_
     refine cond_false kj ?_
     refine wp_skip ?_
     refine hK23 _ _ ?_
     refine Qac ?_
     refine Qaa (.int .i64 ((i+1:Nat):Int)) 197 rfl kj (Qad (u:=.int .i64 (IntKind.i64.wrap (((i:Nat):Int)+1))) kj (congrArg (Value.int .i64) (i64n _ _ (by omega) (by omega)))) ?_
     refine Qaa (.int .i64 ((i+1:Nat):Int)) 47 rfl kj kj ?_
     refine Qae ?_
     have mu145_20:=(mu144_19.ext e20)
     have r13_19:=(Qab r13_18 e19)
     have r13_20:=(Qab r13_19 e20)
     have r4_10:=(Qab q4_1 e10)
     have r4_11:=(Puts.row p11 r4_10 (Qag q4_1 l25))
     have r4_12:=(Qab r4_11 e12)
     have r4_13:=(Qab r4_12 e13)
     have r4_14:=(ExtB.row q14 r4_13 n_4_13)
     have r4_15:=(Qab r4_14 e15)
     have r4_16:=(Qab r4_15 e16)
     have r4_17:=(Qab r4_16 e17)
     have r4_18:=(Qab r4_17 e18)
     have r4_19:=(Qab r4_18 e19)
     have r4_20:=(Qab r4_19 e20)
     have r5_15:=(Qab r5_14 e15)
     have r5_16:=(Qab r5_15 e16)
     have r5_17:=(Qab r5_16 e17)
     have r5_18:=(Qab r5_17 e18)
     have r5_19:=(Qab r5_18 e19)
     have r5_20:=(Qab r5_19 e20)
     repeat (first | with_reducible refine goX1 ?_ | with_reducible refine goX2 ?_ | with_reducible refine goX3 ?_)
     exact Qax ((i+1),n,p2,q2,ts,.slice a_u ts.length c_u) ⟨rfl,rfl,rfl,rfl,rfl,rfl,rfl,rfl,trivial⟩ ⟨(by omega),hn,hI2,hzb,(Nat.le_succ_of_le hzl),mu145_20,(qT hbz (qT (qT (qT (qT (qT (qT (qT (qT (qT (qT (qT (qR _) e10.size) (qE p11.2.2.2.1.symm)) e12.size) e13.size) q14.2.2.2.1) e15.size) e16.size) e17.size) e18.size) e19.size) e20.size)),r13_20,r4_20,r5_20,x20⟩ (by show len-(i+1)<len-i; omega)
  ·skip
   obtain ⟨xf,bf,hfb,hfl,hF⟩:=QkP rk hrk hrkb op.n op.xs
   refine Qac ?_
   refine Qaa (.bool false) 129 rfl kj (Qad (u:=.bool ((op.kind==0))) kj (congrArg Value.bool (beq_eq_false_iff_ne.2 (by omega)))) ?_
   refine Qaa (.bool false) 128 rfl kj kj ?_
   refine Qae ?_
   refine hK30 _ _ ?_
   refine cond_false kj ?_
   refine wp_seq_k fun K146 hK146=>?_
   refine Qac ?_
   refine Qaa (.bool false) 172 rfl kj (Qad (u:=.bool ((op.kind==1))) kj (congrArg Value.bool (beq_eq_false_iff_ne.2 (by omega)))) ?_
   refine Qaa (.bool false) 171 rfl kj kj ?_
   refine Qae ?_
   refine hK146 _ _ ?_
   refine cond_false kj ?_
   refine wp_seq_k fun K147 hK147=>?_
   refine Qac ?_
   refine Qaa (.pointer (some ⟨g25,1,none⟩)) 56 rfl kj kj ?_
   refine Qaa (.slice op.a op.xs.length op.c) 57 rfl kj (Qah 33 _ g25 1 68 _ (.slice op.a op.xs.length op.c) _ r25_12 rfl kj kj kj) ?_
   refine Qaa (.slice op.a op.xs.length op.c) 18 rfl kj kj ?_
   refine Qae ?_
   refine hK147 _ _ ?_
   refine wp_seq_k fun K148 hK148=>?_
   refine wp_seq_k fun K149 hK149=>?_
   refine Qac ?_
   refine Qaa (.pointer (some ⟨g25,0,none⟩)) 58 rfl kj kj ?_
   refine Qaa (.int .i64 op.kind) 59 rfl kj (Qah 3 _ g25 0 68 _ (.int .i64 op.kind) _ r25_12 rfl kj kj kj) ?_
   refine Qaa (.bool true) 60 rfl kj (Qad (u:=.bool ((op.kind != 3))) kj (congrArg Value.bool (bne_iff_ne.2 (by omega)))) ?_
   refine Qae ?_
   refine hK149 _ _ ?_
   refine cond_true kj ?_
   refine wp_seq_k fun K150 hK150=>?_
   refine Qac ?_
   have r5_10:=(Qab q5_1 e10)
   have r5_11:=(Puts.row p11 r5_10 (Qag q5_1 l25))
   have r5_12:=(Qab r5_11 e12)
   refine Qaa (.agg (ints .u8 (rk))) 62 rfl kj (Qao 23 _ g5 23 _ _ r5_12 rfl kj kj (isz (n:=32) kj ((Qaf _ _).trans hrk))) ?_
   refine Qaa (.pointer (some ⟨g25,2,none⟩)) 63 rfl kj kj ?_
   refine Qaa (.int .i64 op.n) 64 rfl kj (Qah 3 _ g25 2 68 _ (.int .i64 op.n) _ r25_12 rfl kj kj kj) ?_
   refine Qaa (.pointer (some ⟨g25,1,none⟩)) 65 rfl kj kj ?_
   refine Qaa (.slice op.a op.xs.length op.c) 66 rfl kj (Qah 33 _ g25 1 68 _ (.slice op.a op.xs.length op.c) _ r25_12 rfl kj kj kj) ?_
   refine Qat (fun v W'=>(fun v W=>∃ u,v=.tuple #[u,.int .i64 bf]∧OwnN .u8 5 W12.heap.size xf u W) v W'∧Ext W12 W') 47 #[.agg (ints .u8 (rk)),.int .i64 op.n,.slice op.a op.xs.length op.c] 67 rfl kj kj ((hF _ _ _ (OpAt4.rd (OpAt4.ext hop x12))).mono (by rintro e w' ⟨v,rfl,e1,hv⟩; exact ⟨v,rfl,hv,e1⟩)) fun vv151 W13 hh151=>?_
   obtain ⟨hv151,e13⟩:=hh151
   have x13:Ext w W13:=Ext.tr x12 e13
   obtain ⟨u152_,rfl,hu152_⟩:=hv151
   obtain ⟨a152_,c152_,rfl,-⟩:=id (OwnN.rd hu152_)
   refine Qaa (.tuple #[.slice a152_ ((xf).length) c152_,.int .i64 bf]) 61 rfl kj kj ?_
   refine Qaa (.slice a152_ ((xf).length) c152_) 68 rfl kj kj ?_
   refine Qaa (.int .i64 bf) 69 rfl kj kj ?_
   refine Qaa (.slice a152_ ((xf).length) c152_) 18 rfl kj kj ?_
   refine Qae ?_
   refine hK150 _ _ ?_
   refine wp_seq_k fun K153 hK153=>?_
   rcases Nat.eq_zero_or_pos xf.length with hz | hz
   ·skip
    refine Qac ?_
    refine Qaa (.slice a152_ ((xf).length) c152_) 70 rfl kj kj ?_
    refine Qaa (.int .i64 (((xf).length:Nat):Int)) 71 rfl kj kj ?_
    refine Qaa (.bool false) 72 rfl kj (Qad (u:=.bool (decide ((((xf).length:Nat):Int)>0))) kj (congrArg Value.bool (decide_eq_false (by omega)))) ?_
    refine Qae ?_
    refine hK153 _ _ ?_
    refine cond_false kj ?_
    refine wp_skip ?_
    refine hK148 _ _ ?_
    refine wp_seq_k fun K154 hK154=>?_
    skip
    ·skip
     obtain ⟨xo,bad,mm,p2,q2,ts2,hxob,hxol,hI2,hbn,hP,hR_⟩:=Qff rk hrk hrkb p B ts hI hzb (by omega) xf hfb
     refine Qac ?_
     refine Qaa (.slice a152_ ((xf).length) c152_) 83 rfl kj kj ?_
     refine Qat (fun v W'=>(QbS 5 W13.heap.size (xf)) v W'∧Ext W13 W') 20 #[.slice a152_ ((xf).length) c152_] 84 rfl kj kj ((Qje (xf) _ _ _ (by omega) (OwnN.rd hu152_)).mono (by rintro e w' ⟨v,rfl,e1,hv⟩; exact ⟨v,rfl,hv,e1⟩)) fun vv155 W14 hh155=>?_
     obtain ⟨hv155,e14⟩:=hh155
     have x14:Ext w W14:=Ext.tr x13 e14
     obtain ⟨gk156,ck156,rfl,ho156⟩:=hv155
     refine Qaa (.slice (some ⟨gk156,0,none⟩) (xf).length ck156) 19 rfl kj kj ?_
     refine Qae ?_
     refine hK154 _ _ ?_
     refine wp_seq_k fun K157 hK157=>?_
     refine Qac ?_
     refine Qaa (.pointer (some ⟨gl13,0,none⟩)) 86 rfl kj kj ?_
     refine Qaa (.slice (some ⟨gk156,0,none⟩) (xf).length ck156) 87 rfl kj kj ?_
     have r13_10:=(Qab q13_1 e10)
     have r13_11:=(Puts.row p11 r13_10 (Qag q13_1 l25))
     have r13_12:=(Qab r13_11 e12)
     have r13_13:=(Qab r13_12 e13)
     have r13_14:=(Qab r13_13 e14)
     have r2_10:=(Qab (Qab hh xx1) e10)
     have r2_11:=(Puts.row p11 r2_10 (Qag (Qab hh xx1) l25))
     have r2_12:=(Qab r2_11 e12)
     have r2_13:=(Qab r2_12 e13)
     have r2_14:=(Qab r2_13 e14)
     have r1_10:=(Qab (Qab hq xx1) e10)
     have r1_11:=(Puts.row p11 r1_10 (Qag (Qab hq xx1) l25))
     have r1_12:=(Qab r1_11 e12)
     have r1_13:=(Qab r1_12 e13)
     have r1_14:=(Qab r1_13 e14)
     refine Qat (fun v W'=>∃ u,v=.tuple #[u,errV bad]∧OwnN .u8 5 W14.heap.size xo u W'∧ExtB gl13 W14 W'∧W'.heap[gl13]? = some (.cells (cat [#[.int .i64 p2],#[.int .u64 ((q2:Nat):Int)],ints .u8 (sk),ints .u8 (rk),#[.int .i64 ((n:Nat):Int)]]) 136)) 49 #[.pointer (some ⟨gl13,0,none⟩),.slice (some ⟨gk156,0,none⟩) (xf).length ck156] 88 rfl kj kj ((hP gl13 sk n _ th tq _ hsk r13_14 r2_14 r1_14 (Nat.ne_of_lt (qL (Qa0 hh) b13)) (Nat.ne_of_lt (qL (Qa0 hq) b13)) (fun W e=>OwnN.rd (Qbs (QbS.own ⟨gk156,ck156,rfl,ho156⟩) e (Qc9 (QbS.own ⟨gk156,ck156,rfl,ho156⟩) (Qa0 r13_13))))).mono (by rintro e w' ⟨u,rfl,h1,h2,h3⟩; exact ⟨_,rfl,u,rfl,h1,h2,h3⟩)) fun v W15 h158=>?_
     obtain ⟨u158_,rfl,hu158_,q15,r13_15⟩:=h158
     have x15:Ext w W15:=ExtB.up x14 q15 b13
     obtain ⟨a158_,c158_,rfl,-⟩:=id (OwnN.rd hu158_)
     refine Qaa (.tuple #[.slice a158_ ((xo).length) c158_,errV bad]) 85 rfl kj kj ?_
     refine Qaa (.slice a158_ ((xo).length) c158_) 89 rfl kj kj ?_
     refine Qaa (errV bad) 90 rfl kj kj ?_
     refine Qaa (.slice a158_ ((xo).length) c158_) 20 rfl kj kj ?_
     refine Qaa (errV bad) 21 rfl kj kj ?_
     refine Qae ?_
     refine hK157 _ _ ?_
     refine wp_seq_k fun K159 hK159=>?_
     refine Qac ?_
     have r5_13:=(Qab r5_12 e13)
     have r5_14:=(Qab r5_13 e14)
     have r5_15:=(ExtB.row q15 r5_14 n_5_13)
     refine Qaa (.agg (ints .u8 (rk))) 92 rfl kj (Qao 23 _ g5 23 _ _ r5_15 rfl kj kj (isz (n:=32) kj ((Qaf _ _).trans hrk))) ?_
     refine Qaa (.slice a_u ts.length c_u) 93 rfl kj kj ?_
     refine Qaa (.slice a152_ ((xf).length) c152_) 94 rfl kj kj ?_
     have mu160_10:=(hu.ext e10)
     have mu161_11:=(mu160_10.puts p11 (QbG mu160_10 r25_10 (by decide)))
     have mu162_12:=(mu161_11.ext e12)
     have mu163_13:=(mu162_12.ext e13)
     have mu164_14:=(mu163_13.ext e14)
     have mu165_15:=(Qbs mu164_14 q15 (QbG mu164_14 r13_14 (by decide)))
     have f166_14:=(hu152_.ext e14)
     have f167_15:=(Qbs f166_14 q15 (Qc9 hu152_ (Qa0 r13_12)))
     refine Qat (fun v W'=>(fun v W=>∃ u,v=.tuple #[.int .i64 mm,u,.int .i64 bad]∧OwnN .u8 5 W15.heap.size xo u W) v W'∧Ext W15 W') 50 #[.agg (ints .u8 (rk)),.slice a_u ts.length c_u,.slice a152_ ((xf).length) c152_] 95 rfl kj kj ((hR_ _ _ _ _ _ _ (OwnN.rd mu165_15) (OwnN.rd f167_15)).mono (by rintro e w' ⟨v,rfl,e1,hv⟩; exact ⟨v,rfl,hv,e1⟩)) fun vv168 W16 hh168=>?_
     obtain ⟨hv168,e16⟩:=hh168
     have x16:Ext w W16:=Ext.tr x15 e16
     obtain ⟨u169_,rfl,hu169_⟩:=hv168
     obtain ⟨a169_,c169_,rfl,-⟩:=id (OwnN.rd hu169_)
     refine Qaa (.tuple #[.int .i64 mm,.slice a169_ ((xo).length) c169_,.int .i64 bad]) 91 rfl kj kj ?_
     refine Qaa (.int .i64 mm) 96 rfl kj kj ?_
     refine Qaa (.slice a169_ ((xo).length) c169_) 97 rfl kj kj ?_
     refine Qaa (.int .i64 bad) 98 rfl kj kj ?_
     refine Qaa (.int .i64 mm) 22 rfl kj kj ?_
     refine Qaa (.slice a169_ ((xo).length) c169_) 23 rfl kj kj ?_
     refine Qaa (.int .i64 bad) 24 rfl kj kj ?_
     refine Qae ?_
     refine hK159 _ _ ?_
     refine wp_seq_k fun K170 hK170=>?_
     refine wp_seq_k fun K171 hK171=>?_
     rcases hbn with hb | hb
     ·skip
      obtain ⟨hb1,hb2,hb3,hb4⟩:=hb
      subst hb2
      refine Qac ?_
      refine Qaa (.int .i64 bad) 99 rfl kj kj ?_
      refine Qaa (.bool true) 100 rfl kj (Qad (u:=.bool ((bad==0))) kj (congrArg Value.bool (beq_iff_eq.2 hb1))) ?_
      refine Qae ?_
      refine hK171 _ _ ?_
      refine cond_true kj ?_
      refine Qac ?_
      refine Qaa (.slice a_u ts.length c_u) 101 rfl kj kj ?_
      refine Qaa (.int .i64 mm) 102 rfl kj kj ?_
      refine QaD (ints .i64 ([mm])) 3 1 103 rfl kj kj fun g172 W17 l172 e17 r172_17=>?_
      have x17:Ext w W17:=Ext.tr x16 e17
      have b172:w.heap.size≤g172:=qT x16.size l172
      have mu173_16:=(mu165_15.ext e16)
      have mu174_17:=(mu173_16.ext e17)
      have r13_16:=(Qab r13_15 e16)
      have r13_17:=(Qab r13_16 e17)
      have r4_10:=(Qab q4_1 e10)
      have r4_11:=(Puts.row p11 r4_10 (Qag q4_1 l25))
      have r4_12:=(Qab r4_11 e12)
      have r4_13:=(Qab r4_12 e13)
      have r4_14:=(Qab r4_13 e14)
      have r4_15:=(ExtB.row q15 r4_14 n_4_13)
      have r4_16:=(Qab r4_15 e16)
      have r4_17:=(Qab r4_16 e17)
      have r5_16:=(Qab r5_15 e16)
      have r5_17:=(Qab r5_16 e17)
      have r25_13:=(Qab r25_12 e13)
      have r25_14:=(Qab r25_13 e14)
      have r25_15:=(ExtB.row q15 r25_14 (QaA q13_1 l25))
      have r25_16:=(Qab r25_15 e16)
      have r25_17:=(Qab r25_16 e17)
      refine QdA (k:=.i64) (T:=3) (xs:=ts) (ys:=[mm]) (W7.heap.size) 8 (.tmp 101) (.tmp 103) 66 rfl kj kj (by decide) 104 rfl kj kj kj mu174_17 (QaM (xs:=[mm]) (n:=1) rfl r172_17 (Qa0 r172_17) (by decide)) (by simp; omega) (qT hbz (qT (qT (qT (qT (qT (qT (qT (qT (qR _) e10.size) (qE p11.2.2.2.1.symm)) e12.size) e13.size) e14.size) q15.2.2.2.1) e16.size) e17.size)) fun u2 W18 hu2 q18=>?_
      have x18:Ext w W18:=Qip x17 q18 (fun g hg=>qT x7.size (OwnN.ge mu174_17 hg))
      obtain ⟨a_v,c_v,rfl,-⟩:=id (OwnN.rd hu2)
      refine Qaa (.slice a_v ((ts++[mm]).length) c_v) 9 rfl kj kj ?_
      refine Qae ?_
      refine hK170 _ _ ?_
      refine wp_seq_k fun K175 hK175=>?_
      refine Qac ?_
      refine Qaa (.slice a158_ ((xo).length) c158_) 105 rfl kj kj ?_
      refine Qaa (.slice a169_ ((xo).length) c169_) 106 rfl kj kj ?_
      have f176_16:=(hu158_.ext e16)
      have f177_17:=(f176_16.ext e17)
      have f178_18:=(OwnN.grownN f177_17 q18 mu174_17 (by decide))
      have f179_17:=(hu169_.ext e17)
      have f180_18:=(OwnN.grownN f179_17 q18 mu174_17 (by decide))
      refine Qan (.bool true) 26 #[.slice a158_ ((xo).length) c158_,.slice a169_ ((xo).length) c169_] 107 rfl kj kj ((QfA _ _ _ _ _ rfl (RdK.bytes (OwnN.rd f178_18) hxob) (RdK.bytes (OwnN.rd f180_18) hxob))) fun W19 e19=>?_
      have x19:Ext w W19:=Ext.tr x18 e19
      refine Qaa (.bool false) 108 rfl kj kj ?_
      refine Qaa (.bool false) 109 rfl kj kj ?_
      refine Qaa (errV bad) 110 rfl kj kj ?_
      refine Qan (.int .i64 bad) 25 #[errV bad] 111 rfl kj kj ((numV bad) _) fun W20 e20=>?_
      have x20:Ext w W20:=Ext.tr x19 e20
      refine Qaa (.int .i64 bad) 112 rfl kj kj ?_
      refine Qaa (.bool false) 113 rfl kj (Qad (u:=.bool ((bad != bad))) kj (congrArg Value.bool (bne_self_eq_false _))) ?_
      refine Qaa (.bool false) 114 rfl kj kj ?_
      refine Qaa (.bool false) 115 rfl kj kj ?_
      refine Qaa (.slice (some ⟨gk156,0,none⟩) (xf).length ck156) 116 rfl kj kj ?_
      refine Qaa (.slice a152_ ((xf).length) c152_) 117 rfl kj kj ?_
      have f181_15:=(Qbs ho156 q15 (Qc9 ho156 (Qa0 r13_13)))
      have f182_16:=(f181_15.ext e16)
      have f183_17:=(f182_16.ext e17)
      have f184_18:=(OwnN.grownN f183_17 q18 mu174_17 (by decide))
      have f185_19:=(f184_18.ext e19)
      have f186_20:=(f185_19.ext e20)
      have f187_16:=(f167_15.ext e16)
      have f188_17:=(f187_16.ext e17)
      have f189_18:=(OwnN.grownN f188_17 q18 mu174_17 (by decide))
      have f190_19:=(f189_18.ext e19)
      have f191_20:=(f190_19.ext e20)
      refine Qan (.bool true) 28 #[.slice (some ⟨gk156,0,none⟩) (xf).length ck156,.slice a152_ ((xf).length) c152_] 118 rfl kj kj ((QfQ (xf) _ _ _ _ _ (by omega) hfb (show QbS 5 _ (xf) _ _ from ⟨gk156,ck156,rfl,f186_20⟩) (OwnN.rd f191_20))) fun W21 e21=>?_
      have x21:Ext w W21:=Ext.tr x20 e21
      refine Qaa (.bool false) 119 rfl kj kj ?_
      refine Qaa (.bool false) 120 rfl kj kj ?_
      refine Qaa (.bool false) 121 rfl kj kj ?_
      refine Qaa (.pointer (some ⟨gl13,0,none⟩)) 122 rfl kj kj ?_
      have r13_18:=(Qd8 q18 r13_17 (QbG mu174_17 r13_17 (by decide)))
      have r13_19:=(Qab r13_18 e19)
      have r13_20:=(Qab r13_19 e20)
      have r13_21:=(Qab r13_20 e21)
      refine Qan (.int .i64 (p2-1)) 44 #[.pointer (some ⟨gl13,0,none⟩)] 123 rfl kj kj (HighestC gl13 p2 q2 hI2.hnx hI2.hB sk rk n hsk hrk _ r13_21) fun W22 e22=>?_
      have x22:Ext w W22:=Ext.tr x21 e22
      refine Qaa (.slice a_v ((ts++[mm]).length) c_v) 124 rfl kj kj ?_
      have mu192_19:=(hu2.ext e19)
      have mu193_20:=(mu192_19.ext e20)
      have mu194_21:=(mu193_20.ext e21)
      have mu195_22:=(mu194_21.ext e22)
      refine Qan (.int .i64 (hiT (ts++[mm]))) 51 #[.slice a_v ((ts++[mm]).length) c_v] 125 rfl kj kj (QcI (ts++[mm]) (by simp; omega) _ _ _ _ (OwnN.rd mu195_22)) fun W23 e23=>?_
      have x23:Ext w W23:=Ext.tr x22 e23
      refine Qaa (.bool false) 126 rfl kj (Qad (u:=.bool (((p2-1) != (hiT (ts++[mm]))))) kj (congrArg Value.bool (bne_eq_false_iff_eq.2 hI2.hhi.symm))) ?_
      refine Qaa (.bool false) 127 rfl kj kj ?_
      refine Qae ?_
      refine hK175 _ _ ?_
      refine cond_false kj ?_
      refine wp_skip ?_
      refine hK23 _ _ ?_
      refine Qac ?_
      refine Qaa (.int .i64 ((i+1:Nat):Int)) 197 rfl kj (Qad (u:=.int .i64 (IntKind.i64.wrap (((i:Nat):Int)+1))) kj (congrArg (Value.int .i64) (i64n _ _ (by omega) (by omega)))) ?_
      refine Qaa (.int .i64 ((i+1:Nat):Int)) 47 rfl kj kj ?_
      refine Qae ?_
      have mu196_23:=(mu195_22.ext e23)
      have r13_22:=(Qab r13_21 e22)
      have r13_23:=(Qab r13_22 e23)
      have r4_18:=(Qd8 q18 r4_17 (QbG mu174_17 r4_17 (by decide)))
      have r4_19:=(Qab r4_18 e19)
      have r4_20:=(Qab r4_19 e20)
      have r4_21:=(Qab r4_20 e21)
      have r4_22:=(Qab r4_21 e22)
      have r4_23:=(Qab r4_22 e23)
      have r5_18:=(Qd8 q18 r5_17 (QbG mu174_17 r5_17 (by decide)))
      have r5_19:=(Qab r5_18 e19)
      have r5_20:=(Qab r5_19 e20)
      have r5_21:=(Qab r5_20 e21)
      have r5_22:=(Qab r5_21 e22)
      have r5_23:=(Qab r5_22 e23)
      repeat (first | with_reducible refine goX1 ?_ | with_reducible refine goX2 ?_ | with_reducible refine goX3 ?_)
      exact Qax ((i+1),n,p2,q2,(ts++[mm]),.slice a_v ((ts++[mm]).length) c_v) ⟨rfl,rfl,rfl,rfl,rfl,rfl,rfl,rfl,trivial⟩ ⟨(by omega),hn,hI2,(Qfr hzb hb3 hb4),(by rw [List.length_append]; exact Nat.succ_le_succ hzl),mu196_23,(qT (qT (qT hbz (qT (qT (qT (qT (qT (qT (qT (qT (qR _) e10.size) (qE p11.2.2.2.1.symm)) e12.size) e13.size) e14.size) q15.2.2.2.1) e16.size) e17.size)) q18.size) (qT (qT (qT (qT (qT (qR _) e19.size) e20.size) e21.size) e22.size) e23.size)),r13_23,r4_23,r5_23,x23⟩ (by show len-(i+1)<len-i; omega)
     ·skip
      obtain ⟨hb1,hb2⟩:=hb
      rw [hb2] at hI2
      refine Qac ?_
      refine Qaa (.int .i64 bad) 99 rfl kj kj ?_
      refine Qaa (.bool false) 100 rfl kj (Qad (u:=.bool ((bad==0))) kj (congrArg Value.bool (beq_eq_false_iff_ne.2 hb1))) ?_
      refine Qae ?_
      refine hK171 _ _ ?_
      refine cond_false kj ?_
      refine wp_skip ?_
      refine hK170 _ _ ?_
      refine wp_seq_k fun K197 hK197=>?_
      refine Qac ?_
      refine Qaa (.slice a158_ ((xo).length) c158_) 105 rfl kj kj ?_
      refine Qaa (.slice a169_ ((xo).length) c169_) 106 rfl kj kj ?_
      have f198_16:=(hu158_.ext e16)
      refine Qan (.bool true) 26 #[.slice a158_ ((xo).length) c158_,.slice a169_ ((xo).length) c169_] 107 rfl kj kj ((QfA _ _ _ _ _ rfl (RdK.bytes (OwnN.rd f198_16) hxob) (RdK.bytes (OwnN.rd hu169_) hxob))) fun W17 e17=>?_
      have x17:Ext w W17:=Ext.tr x16 e17
      refine Qaa (.bool false) 108 rfl kj kj ?_
      refine Qaa (.bool false) 109 rfl kj kj ?_
      refine Qaa (errV bad) 110 rfl kj kj ?_
      refine Qan (.int .i64 bad) 25 #[errV bad] 111 rfl kj kj ((numV bad) _) fun W18 e18=>?_
      have x18:Ext w W18:=Ext.tr x17 e18
      refine Qaa (.int .i64 bad) 112 rfl kj kj ?_
      refine Qaa (.bool false) 113 rfl kj (Qad (u:=.bool ((bad != bad))) kj (congrArg Value.bool (bne_self_eq_false _))) ?_
      refine Qaa (.bool false) 114 rfl kj kj ?_
      refine Qaa (.bool false) 115 rfl kj kj ?_
      refine Qaa (.slice (some ⟨gk156,0,none⟩) (xf).length ck156) 116 rfl kj kj ?_
      refine Qaa (.slice a152_ ((xf).length) c152_) 117 rfl kj kj ?_
      have f199_15:=(Qbs ho156 q15 (Qc9 ho156 (Qa0 r13_13)))
      have f200_16:=(f199_15.ext e16)
      have f201_17:=(f200_16.ext e17)
      have f202_18:=(f201_17.ext e18)
      have f203_16:=(f167_15.ext e16)
      have f204_17:=(f203_16.ext e17)
      have f205_18:=(f204_17.ext e18)
      refine Qan (.bool true) 28 #[.slice (some ⟨gk156,0,none⟩) (xf).length ck156,.slice a152_ ((xf).length) c152_] 118 rfl kj kj ((QfQ (xf) _ _ _ _ _ (by omega) hfb (show QbS 5 _ (xf) _ _ from ⟨gk156,ck156,rfl,f202_18⟩) (OwnN.rd f205_18))) fun W19 e19=>?_
      have x19:Ext w W19:=Ext.tr x18 e19
      refine Qaa (.bool false) 119 rfl kj kj ?_
      refine Qaa (.bool false) 120 rfl kj kj ?_
      refine Qaa (.bool false) 121 rfl kj kj ?_
      refine Qaa (.pointer (some ⟨gl13,0,none⟩)) 122 rfl kj kj ?_
      have r13_16:=(Qab r13_15 e16)
      have r13_17:=(Qab r13_16 e17)
      have r13_18:=(Qab r13_17 e18)
      have r13_19:=(Qab r13_18 e19)
      refine Qan (.int .i64 (p2-1)) 44 #[.pointer (some ⟨gl13,0,none⟩)] 123 rfl kj kj (HighestC gl13 p2 q2 hI2.hnx hI2.hB sk rk n hsk hrk _ r13_19) fun W20 e20=>?_
      have x20:Ext w W20:=Ext.tr x19 e20
      refine Qaa (.slice a_u ts.length c_u) 124 rfl kj kj ?_
      have mu206_16:=(mu165_15.ext e16)
      have mu207_17:=(mu206_16.ext e17)
      have mu208_18:=(mu207_17.ext e18)
      have mu209_19:=(mu208_18.ext e19)
      have mu210_20:=(mu209_19.ext e20)
      refine Qan (.int .i64 (hiT ts)) 51 #[.slice a_u ts.length c_u] 125 rfl kj kj (QcI ts (by omega) _ _ _ _ (OwnN.rd mu210_20)) fun W21 e21=>?_
      have x21:Ext w W21:=Ext.tr x20 e21
      refine Qaa (.bool false) 126 rfl kj (Qad (u:=.bool (((p2-1) != (hiT ts)))) kj (congrArg Value.bool (bne_eq_false_iff_eq.2 hI2.hhi.symm))) ?_
      refine Qaa (.bool false) 127 rfl kj kj ?_
      refine Qae ?_
      refine hK197 _ _ ?_
      refine cond_false kj ?_
      refine wp_skip ?_
      refine hK23 _ _ ?_
      refine Qac ?_
      refine Qaa (.int .i64 ((i+1:Nat):Int)) 197 rfl kj (Qad (u:=.int .i64 (IntKind.i64.wrap (((i:Nat):Int)+1))) kj (congrArg (Value.int .i64) (i64n _ _ (by omega) (by omega)))) ?_
      refine Qaa (.int .i64 ((i+1:Nat):Int)) 47 rfl kj kj ?_
      refine Qae ?_
      have mu211_21:=(mu210_20.ext e21)
      have r13_20:=(Qab r13_19 e20)
      have r13_21:=(Qab r13_20 e21)
      have r4_10:=(Qab q4_1 e10)
      have r4_11:=(Puts.row p11 r4_10 (Qag q4_1 l25))
      have r4_12:=(Qab r4_11 e12)
      have r4_13:=(Qab r4_12 e13)
      have r4_14:=(Qab r4_13 e14)
      have r4_15:=(ExtB.row q15 r4_14 n_4_13)
      have r4_16:=(Qab r4_15 e16)
      have r4_17:=(Qab r4_16 e17)
      have r4_18:=(Qab r4_17 e18)
      have r4_19:=(Qab r4_18 e19)
      have r4_20:=(Qab r4_19 e20)
      have r4_21:=(Qab r4_20 e21)
      have r5_16:=(Qab r5_15 e16)
      have r5_17:=(Qab r5_16 e17)
      have r5_18:=(Qab r5_17 e18)
      have r5_19:=(Qab r5_18 e19)
      have r5_20:=(Qab r5_19 e20)
      have r5_21:=(Qab r5_20 e21)
      repeat (first | with_reducible refine goX1 ?_ | with_reducible refine goX2 ?_ | with_reducible refine goX3 ?_)
      exact Qax ((i+1),n,p2,q2,ts,.slice a_u ts.length c_u) ⟨rfl,rfl,rfl,rfl,rfl,rfl,rfl,rfl,trivial⟩ ⟨(by omega),hn,hI2,hzb,(Nat.le_succ_of_le hzl),mu211_21,(qT hbz (qT (qT (qT (qT (qT (qT (qT (qT (qT (qT (qT (qT (qR _) e10.size) (qE p11.2.2.2.1.symm)) e12.size) e13.size) e14.size) q15.2.2.2.1) e16.size) e17.size) e18.size) e19.size) e20.size) e21.size)),r13_21,r4_21,r5_21,x21⟩ (by show len-(i+1)<len-i; omega)
   ·skip
    obtain ⟨gr,cr,rr_,evr,lr,rowr,hcr⟩:=Qdo hu152_ rfl hz
    rw [evr]
    obtain ⟨fz,ez⟩:∃ z,xf.set (xf.length-1) (bits .xor .u8 (nth (xf) (xf.length-1)) op.b)=z:=⟨_,rfl⟩
    have lfz:fz.length=xf.length:=by rw [←ez,List.length_set]
    have hzb9:Qai fz:=ez▸QaY hfb (xf.length-1) (QfV _ _).1 (Int.le_of_lt_add_one (QfV _ _).2)
    refine Qac ?_
    refine Qaa (.slice (some ⟨gr,0,none⟩) xf.length cr) 70 rfl kj kj ?_
    refine Qaa (.int .i64 ((xf.length:Nat):Int)) 71 rfl kj kj ?_
    refine Qaa (.bool true) 72 rfl kj (Qad (u:=.bool (decide (((xf.length:Nat):Int)>0))) kj (congrArg Value.bool (decide_eq_true (by omega)))) ?_
    refine Qae ?_
    refine hK153 _ _ ?_
    refine cond_true kj ?_
    have r25_13:=(Qab r25_12 e13)
    refine Wm.region_walkM (fun W=>W.heap[gr]? = some (.cells (ints .u8 (xf)++rr_) 5)∧W.heap[g25]? = some (.cells (cat [#[.int .i64 op.kind],#[.slice op.a op.xs.length op.c],#[.int .i64 op.n],#[.int .u8 op.b]]) 68)) 10 kj fun W14 e14=>⟨⟨Qab rowr e14,Qab r25_13 e14⟩,?_⟩
    have x14:Ext w W14:=Ext.tr x13 e14
    refine Wm.wm_val 0 (.slice (some ⟨gr,0,none⟩) xf.length cr) 73 rfl rfl kj kj (by decide) kj (fun _ _ _ h=>h) (fun W hR=>by kernel_rfl) ?_
    refine Wm.wm_val 1 (.slice (some ⟨gr,0,none⟩) xf.length cr) 74 rfl rfl kj kj (by decide) kj (fun _ _ _ h=>h) (fun W hR=>by kernel_rfl) ?_
    refine Wm.wm_val 2 (.int .i64 ((xf.length:Nat):Int)) 75 rfl rfl kj kj (by decide) kj (fun _ _ _ h=>h) (fun W hR=>by kernel_rfl) ?_
    refine Wm.wm_val 3 (.int .i64 (((xf.length-1:Nat):Int))) 76 rfl rfl kj kj (by decide) kj (fun _ _ _ h=>h) (fun W hR=>(Qad (u:=.int .i64 (IntKind.i64.wrap (((xf.length:Nat):Int)-1))) kj (congrArg (Value.int .i64) ((IntWalk.i64_in _ (by omega)).trans (by omega))))) ?_
    refine Wm.wm_val 4 (.pointer (some ⟨gr,(xf.length-1),none⟩)) 77 rfl rfl kj kj (by decide) kj (fun _ _ _ h=>h) (fun W hR=>(Qau 33 _ _ .i64 (xf.length-1) gr xf.length cr 5 rfl kj kj kj kj (by omega))) ?_
    refine Wm.wm_val 5 (.int .u8 (nth (xf) (xf.length-1))) 78 rfl rfl kj kj (by decide) kj (fun _ _ _ h=>h) (fun W hR=>(Qah 5 _ gr (xf.length-1) 5 _ (.int .u8 (nth (xf) (xf.length-1))) _ hR.1 rfl kj (QaT (Nat.lt_of_lt_of_eq (by omega) rfl.symm)) kj)) ?_
    refine Wm.wm_val 6 (.pointer (some ⟨g25,3,none⟩)) 79 rfl rfl kj kj (by decide) kj (fun _ _ _ h=>h) (fun W hR=>by kernel_rfl) ?_
    refine Wm.wm_val 7 (.int .u8 op.b) 80 rfl rfl kj kj (by decide) kj (fun _ _ _ h=>h) (fun W hR=>(Qah 5 _ g25 3 68 _ (.int .u8 op.b) _ hR.2 rfl kj kj kj)) ?_
    refine Wm.wm_val 8 (.int .u8 (bits .xor .u8 (nth (xf) (xf.length-1)) op.b)) 81 rfl rfl kj kj (by decide) kj (fun _ _ _ h=>h) (fun W hR=>(Qad (u:=.int .u8 (bits .xor .u8 ((nth (xf) (xf.length-1))) (op.b))) kj (congrArg (Value.int .u8) rfl))) ?_
    refine Wm.wm_val 9 (.pointer (some ⟨gr,(xf.length-1),none⟩)) 82 rfl rfl kj kj (by decide) kj (fun _ _ _ h=>h) (fun W hR=>(Qau 33 _ _ .i64 (xf.length-1) gr xf.length cr 5 rfl kj kj kj kj (by omega))) ?_
    have r212_14:=(Qab rowr e14)
    have r25_14:=(Qab r25_13 e14)
    refine Wm.wm_store gr _ (ints .u8 ((xf).set (xf.length-1) (bits .xor .u8 (nth (xf) (xf.length-1)) op.b))++rr_) 5 r212_14 kj kj rfl rfl kj (Qbn 5 _ _ gr (xf.length-1) 5 _ _ _ r212_14 rfl kj kj kj (Nat.lt_of_lt_of_eq (by omega) rfl.symm)) fun W15 p15 r212_15=>?_
    have x15:Ext w W15:=Puts.ext p15 x14 (qT x12.size lr)
    have r212_15_213:W15.heap[gr]? = some (.cells (ints .u8 (fz)++rr_) 5):=Qbk r212_15 ez
    refine hK148 _ _ ?_
    refine wp_seq_k fun K214 hK214=>?_
    skip
    ·skip
     obtain ⟨xo,bad,mm,p2,q2,ts2,hxob,hxol,hI2,hbn,hP,hR_⟩:=Qff rk hrk hrkb p B ts hI hzb (by omega) fz hzb9
     refine Qac ?_
     refine Qaa (.slice (some ⟨gr,0,none⟩) xf.length cr) 83 rfl kj kj ?_
     refine Qat (fun v W'=>(QbS 5 W15.heap.size (fz)) v W'∧Ext W15 W') 20 #[.slice (some ⟨gr,0,none⟩) xf.length cr] 84 rfl kj kj ((Qje (fz) _ _ _ (by omega) (Qdc lfz r212_15_213 hcr)).mono (by rintro e w' ⟨v,rfl,e1,hv⟩; exact ⟨v,rfl,hv,e1⟩)) fun vv215 W16 hh215=>?_
     obtain ⟨hv215,e16⟩:=hh215
     have x16:Ext w W16:=Ext.tr x15 e16
     obtain ⟨gk216,ck216,rfl,ho216⟩:=hv215
     refine Qaa (.slice (some ⟨gk216,0,none⟩) (fz).length ck216) 19 rfl kj kj ?_
     refine Qae ?_
     refine hK214 _ _ ?_
     refine wp_seq_k fun K217 hK217=>?_
     refine Qac ?_
     refine Qaa (.pointer (some ⟨gl13,0,none⟩)) 86 rfl kj kj ?_
     refine Qaa (.slice (some ⟨gk216,0,none⟩) (fz).length ck216) 87 rfl kj kj ?_
     have r13_10:=(Qab q13_1 e10)
     have r13_11:=(Puts.row p11 r13_10 (Qag q13_1 l25))
     have r13_12:=(Qab r13_11 e12)
     have r13_13:=(Qab r13_12 e13)
     have r13_14:=(Qab r13_13 e14)
     have r13_15:=(Puts.row p15 r13_14 (Qag r13_12 lr))
     have r13_16:=(Qab r13_15 e16)
     have r2_10:=(Qab (Qab hh xx1) e10)
     have r2_11:=(Puts.row p11 r2_10 (Qag (Qab hh xx1) l25))
     have r2_12:=(Qab r2_11 e12)
     have r2_13:=(Qab r2_12 e13)
     have r2_14:=(Qab r2_13 e14)
     have r2_15:=(Puts.row p15 r2_14 (Qag r2_12 lr))
     have r2_16:=(Qab r2_15 e16)
     have r1_10:=(Qab (Qab hq xx1) e10)
     have r1_11:=(Puts.row p11 r1_10 (Qag (Qab hq xx1) l25))
     have r1_12:=(Qab r1_11 e12)
     have r1_13:=(Qab r1_12 e13)
     have r1_14:=(Qab r1_13 e14)
     have r1_15:=(Puts.row p15 r1_14 (Qag r1_12 lr))
     have r1_16:=(Qab r1_15 e16)
     refine Qat (fun v W'=>∃ u,v=.tuple #[u,errV bad]∧OwnN .u8 5 W16.heap.size xo u W'∧ExtB gl13 W16 W'∧W'.heap[gl13]? = some (.cells (cat [#[.int .i64 p2],#[.int .u64 ((q2:Nat):Int)],ints .u8 (sk),ints .u8 (rk),#[.int .i64 ((n:Nat):Int)]]) 136)) 49 #[.pointer (some ⟨gl13,0,none⟩),.slice (some ⟨gk216,0,none⟩) (fz).length ck216] 88 rfl kj kj ((hP gl13 sk n _ th tq _ hsk r13_16 r2_16 r1_16 (Nat.ne_of_lt (qL (Qa0 hh) b13)) (Nat.ne_of_lt (qL (Qa0 hq) b13)) (fun W e=>OwnN.rd (Qbs (QbS.own ⟨gk216,ck216,rfl,ho216⟩) e (Qc9 (QbS.own ⟨gk216,ck216,rfl,ho216⟩) (Qa0 r13_15))))).mono (by rintro e w' ⟨u,rfl,h1,h2,h3⟩; exact ⟨_,rfl,u,rfl,h1,h2,h3⟩)) fun v W17 h218=>?_
     obtain ⟨u218_,rfl,hu218_,q17,r13_17⟩:=h218
     have x17:Ext w W17:=ExtB.up x16 q17 b13
     obtain ⟨a218_,c218_,rfl,-⟩:=id (OwnN.rd hu218_)
     refine Qaa (.tuple #[.slice a218_ ((xo).length) c218_,errV bad]) 85 rfl kj kj ?_
     refine Qaa (.slice a218_ ((xo).length) c218_) 89 rfl kj kj ?_
     refine Qaa (errV bad) 90 rfl kj kj ?_
     refine Qaa (.slice a218_ ((xo).length) c218_) 20 rfl kj kj ?_
     refine Qaa (errV bad) 21 rfl kj kj ?_
     refine Qae ?_
     refine hK217 _ _ ?_
     refine wp_seq_k fun K219 hK219=>?_
     refine Qac ?_
     have r5_13:=(Qab r5_12 e13)
     have r5_14:=(Qab r5_13 e14)
     have r5_15:=(Puts.row p15 r5_14 (Qag r5_12 lr))
     have r5_16:=(Qab r5_15 e16)
     have r5_17:=(ExtB.row q17 r5_16 n_5_13)
     refine Qaa (.agg (ints .u8 (rk))) 92 rfl kj (Qao 23 _ g5 23 _ _ r5_17 rfl kj kj (isz (n:=32) kj ((Qaf _ _).trans hrk))) ?_
     refine Qaa (.slice a_u ts.length c_u) 93 rfl kj kj ?_
     refine Qaa (.slice (some ⟨gr,0,none⟩) xf.length cr) 94 rfl kj kj ?_
     have mu220_10:=(hu.ext e10)
     have mu221_11:=(mu220_10.puts p11 (QbG mu220_10 r25_10 (by decide)))
     have mu222_12:=(mu221_11.ext e12)
     have mu223_13:=(mu222_12.ext e13)
     have mu224_14:=(mu223_13.ext e14)
     have mu225_15:=(mu224_14.puts p15 (QbG mu224_14 r212_14 (by decide)))
     have mu226_16:=(mu225_15.ext e16)
     have mu227_17:=(Qbs mu226_16 q17 (QbG mu226_16 r13_16 (by decide)))
     have r212_16:=(Qab r212_15_213 e16)
     have r212_17:=(ExtB.row q17 r212_16 (QaA r13_12 lr))
     refine Qat (fun v W'=>(fun v W=>∃ u,v=.tuple #[.int .i64 mm,u,.int .i64 bad]∧OwnN .u8 5 W17.heap.size xo u W) v W'∧Ext W17 W') 50 #[.agg (ints .u8 (rk)),.slice a_u ts.length c_u,.slice (some ⟨gr,0,none⟩) xf.length cr] 95 rfl kj kj ((hR_ _ _ _ _ _ _ (OwnN.rd mu227_17) (Qdc lfz r212_17 hcr)).mono (by rintro e w' ⟨v,rfl,e1,hv⟩; exact ⟨v,rfl,hv,e1⟩)) fun vv228 W18 hh228=>?_
     obtain ⟨hv228,e18⟩:=hh228
     have x18:Ext w W18:=Ext.tr x17 e18
     obtain ⟨u229_,rfl,hu229_⟩:=hv228
     obtain ⟨a229_,c229_,rfl,-⟩:=id (OwnN.rd hu229_)
     refine Qaa (.tuple #[.int .i64 mm,.slice a229_ ((xo).length) c229_,.int .i64 bad]) 91 rfl kj kj ?_
     refine Qaa (.int .i64 mm) 96 rfl kj kj ?_
     refine Qaa (.slice a229_ ((xo).length) c229_) 97 rfl kj kj ?_
     refine Qaa (.int .i64 bad) 98 rfl kj kj ?_
     refine Qaa (.int .i64 mm) 22 rfl kj kj ?_
     refine Qaa (.slice a229_ ((xo).length) c229_) 23 rfl kj kj ?_
     refine Qaa (.int .i64 bad) 24 rfl kj kj ?_
     refine Qae ?_
     refine hK219 _ _ ?_
     refine wp_seq_k fun K230 hK230=>?_
     refine wp_seq_k fun K231 hK231=>?_
     rcases hbn with hb | hb
     ·skip
      obtain ⟨hb1,hb2,hb3,hb4⟩:=hb
      subst hb2
      refine Qac ?_
      refine Qaa (.int .i64 bad) 99 rfl kj kj ?_
      refine Qaa (.bool true) 100 rfl kj (Qad (u:=.bool ((bad==0))) kj (congrArg Value.bool (beq_iff_eq.2 hb1))) ?_
      refine Qae ?_
      refine hK231 _ _ ?_
      refine cond_true kj ?_
      refine Qac ?_
      refine Qaa (.slice a_u ts.length c_u) 101 rfl kj kj ?_
      refine Qaa (.int .i64 mm) 102 rfl kj kj ?_
      refine QaD (ints .i64 ([mm])) 3 1 103 rfl kj kj fun g232 W19 l232 e19 r232_19=>?_
      have x19:Ext w W19:=Ext.tr x18 e19
      have b232:w.heap.size≤g232:=qT x18.size l232
      have mu233_18:=(mu227_17.ext e18)
      have mu234_19:=(mu233_18.ext e19)
      have r13_18:=(Qab r13_17 e18)
      have r13_19:=(Qab r13_18 e19)
      have r4_10:=(Qab q4_1 e10)
      have r4_11:=(Puts.row p11 r4_10 (Qag q4_1 l25))
      have r4_12:=(Qab r4_11 e12)
      have r4_13:=(Qab r4_12 e13)
      have r4_14:=(Qab r4_13 e14)
      have r4_15:=(Puts.row p15 r4_14 (Qag r4_12 lr))
      have r4_16:=(Qab r4_15 e16)
      have r4_17:=(ExtB.row q17 r4_16 n_4_13)
      have r4_18:=(Qab r4_17 e18)
      have r4_19:=(Qab r4_18 e19)
      have r5_18:=(Qab r5_17 e18)
      have r5_19:=(Qab r5_18 e19)
      have r25_15:=(Puts.row p15 r25_14 (Qag r25_12 lr))
      have r25_16:=(Qab r25_15 e16)
      have r25_17:=(ExtB.row q17 r25_16 (QaA q13_1 l25))
      have r25_18:=(Qab r25_17 e18)
      have r25_19:=(Qab r25_18 e19)
      have r212_18:=(Qab r212_17 e18)
      have r212_19:=(Qab r212_18 e19)
      refine QdA (k:=.i64) (T:=3) (xs:=ts) (ys:=[mm]) (W7.heap.size) 8 (.tmp 101) (.tmp 103) 66 rfl kj kj (by decide) 104 rfl kj kj kj mu234_19 (QaM (xs:=[mm]) (n:=1) rfl r232_19 (Qa0 r232_19) (by decide)) (by simp; omega) (qT hbz (qT (qT (qT (qT (qT (qT (qT (qT (qT (qT (qR _) e10.size) (qE p11.2.2.2.1.symm)) e12.size) e13.size) e14.size) (qE p15.2.2.2.1.symm)) e16.size) q17.2.2.2.1) e18.size) e19.size)) fun u2 W20 hu2 q20=>?_
      have x20:Ext w W20:=Qip x19 q20 (fun g hg=>qT x7.size (OwnN.ge mu234_19 hg))
      obtain ⟨a_v,c_v,rfl,-⟩:=id (OwnN.rd hu2)
      refine Qaa (.slice a_v ((ts++[mm]).length) c_v) 9 rfl kj kj ?_
      refine Qae ?_
      refine hK230 _ _ ?_
      refine wp_seq_k fun K235 hK235=>?_
      refine Qac ?_
      refine Qaa (.slice a218_ ((xo).length) c218_) 105 rfl kj kj ?_
      refine Qaa (.slice a229_ ((xo).length) c229_) 106 rfl kj kj ?_
      have f236_18:=(hu218_.ext e18)
      have f237_19:=(f236_18.ext e19)
      have f238_20:=(OwnN.grownN f237_19 q20 mu234_19 (by decide))
      have f239_19:=(hu229_.ext e19)
      have f240_20:=(OwnN.grownN f239_19 q20 mu234_19 (by decide))
      refine Qan (.bool true) 26 #[.slice a218_ ((xo).length) c218_,.slice a229_ ((xo).length) c229_] 107 rfl kj kj ((QfA _ _ _ _ _ rfl (RdK.bytes (OwnN.rd f238_20) hxob) (RdK.bytes (OwnN.rd f240_20) hxob))) fun W21 e21=>?_
      have x21:Ext w W21:=Ext.tr x20 e21
      refine Qaa (.bool false) 108 rfl kj kj ?_
      refine Qaa (.bool false) 109 rfl kj kj ?_
      refine Qaa (errV bad) 110 rfl kj kj ?_
      refine Qan (.int .i64 bad) 25 #[errV bad] 111 rfl kj kj ((numV bad) _) fun W22 e22=>?_
      have x22:Ext w W22:=Ext.tr x21 e22
      refine Qaa (.int .i64 bad) 112 rfl kj kj ?_
      refine Qaa (.bool false) 113 rfl kj (Qad (u:=.bool ((bad != bad))) kj (congrArg Value.bool (bne_self_eq_false _))) ?_
      refine Qaa (.bool false) 114 rfl kj kj ?_
      refine Qaa (.bool false) 115 rfl kj kj ?_
      refine Qaa (.slice (some ⟨gk216,0,none⟩) (fz).length ck216) 116 rfl kj kj ?_
      refine Qaa (.slice (some ⟨gr,0,none⟩) xf.length cr) 117 rfl kj kj ?_
      have f241_17:=(Qbs ho216 q17 (Qc9 ho216 (Qa0 r13_15)))
      have f242_18:=(f241_17.ext e18)
      have f243_19:=(f242_18.ext e19)
      have f244_20:=(OwnN.grownN f243_19 q20 mu234_19 (by decide))
      have f245_21:=(f244_20.ext e21)
      have f246_22:=(f245_21.ext e22)
      have r212_20:=(Qd8 q20 r212_19 (QbG mu234_19 r212_19 (by decide)))
      have r212_21:=(Qab r212_20 e21)
      have r212_22:=(Qab r212_21 e22)
      refine Qan (.bool true) 28 #[.slice (some ⟨gk216,0,none⟩) (fz).length ck216,.slice (some ⟨gr,0,none⟩) xf.length cr] 118 rfl kj kj ((QfQ (fz) _ _ _ _ _ (by omega) hzb9 (show QbS 5 _ (fz) _ _ from ⟨gk216,ck216,rfl,f246_22⟩) (Qdc lfz r212_22 hcr))) fun W23 e23=>?_
      have x23:Ext w W23:=Ext.tr x22 e23
      refine Qaa (.bool false) 119 rfl kj kj ?_
      refine Qaa (.bool false) 120 rfl kj kj ?_
      refine Qaa (.bool false) 121 rfl kj kj ?_
      refine Qaa (.pointer (some ⟨gl13,0,none⟩)) 122 rfl kj kj ?_
      have r13_20:=(Qd8 q20 r13_19 (QbG mu234_19 r13_19 (by decide)))
      have r13_21:=(Qab r13_20 e21)
      have r13_22:=(Qab r13_21 e22)
      have r13_23:=(Qab r13_22 e23)
      refine Qan (.int .i64 (p2-1)) 44 #[.pointer (some ⟨gl13,0,none⟩)] 123 rfl kj kj (HighestC gl13 p2 q2 hI2.hnx hI2.hB sk rk n hsk hrk _ r13_23) fun W24 e24=>?_
      have x24:Ext w W24:=Ext.tr x23 e24
      refine Qaa (.slice a_v ((ts++[mm]).length) c_v) 124 rfl kj kj ?_
      have mu247_21:=(hu2.ext e21)
      have mu248_22:=(mu247_21.ext e22)
      have mu249_23:=(mu248_22.ext e23)
      have mu250_24:=(mu249_23.ext e24)
      refine Qan (.int .i64 (hiT (ts++[mm]))) 51 #[.slice a_v ((ts++[mm]).length) c_v] 125 rfl kj kj (QcI (ts++[mm]) (by simp; omega) _ _ _ _ (OwnN.rd mu250_24)) fun W25 e25=>?_
      have x25:Ext w W25:=Ext.tr x24 e25
      refine Qaa (.bool false) 126 rfl kj (Qad (u:=.bool (((p2-1) != (hiT (ts++[mm]))))) kj (congrArg Value.bool (bne_eq_false_iff_eq.2 hI2.hhi.symm))) ?_
      refine Qaa (.bool false) 127 rfl kj kj ?_
      refine Qae ?_
      refine hK235 _ _ ?_
      refine cond_false kj ?_
      refine wp_skip ?_
      refine hK23 _ _ ?_
      refine Qac ?_
      refine Qaa (.int .i64 ((i+1:Nat):Int)) 197 rfl kj (Qad (u:=.int .i64 (IntKind.i64.wrap (((i:Nat):Int)+1))) kj (congrArg (Value.int .i64) (i64n _ _ (by omega) (by omega)))) ?_
      refine Qaa (.int .i64 ((i+1:Nat):Int)) 47 rfl kj kj ?_
      refine Qae ?_
      have mu251_25:=(mu250_24.ext e25)
      have r13_24:=(Qab r13_23 e24)
      have r13_25:=(Qab r13_24 e25)
      have r4_20:=(Qd8 q20 r4_19 (QbG mu234_19 r4_19 (by decide)))
      have r4_21:=(Qab r4_20 e21)
      have r4_22:=(Qab r4_21 e22)
      have r4_23:=(Qab r4_22 e23)
      have r4_24:=(Qab r4_23 e24)
      have r4_25:=(Qab r4_24 e25)
      have r5_20:=(Qd8 q20 r5_19 (QbG mu234_19 r5_19 (by decide)))
      have r5_21:=(Qab r5_20 e21)
      have r5_22:=(Qab r5_21 e22)
      have r5_23:=(Qab r5_22 e23)
      have r5_24:=(Qab r5_23 e24)
      have r5_25:=(Qab r5_24 e25)
      repeat (first | with_reducible refine goX1 ?_ | with_reducible refine goX2 ?_ | with_reducible refine goX3 ?_)
      exact Qax ((i+1),n,p2,q2,(ts++[mm]),.slice a_v ((ts++[mm]).length) c_v) ⟨rfl,rfl,rfl,rfl,rfl,rfl,rfl,rfl,trivial⟩ ⟨(by omega),hn,hI2,(Qfr hzb hb3 hb4),(by rw [List.length_append]; exact Nat.succ_le_succ hzl),mu251_25,(qT (qT (qT hbz (qT (qT (qT (qT (qT (qT (qT (qT (qT (qT (qR _) e10.size) (qE p11.2.2.2.1.symm)) e12.size) e13.size) e14.size) (qE p15.2.2.2.1.symm)) e16.size) q17.2.2.2.1) e18.size) e19.size)) q20.size) (qT (qT (qT (qT (qT (qR _) e21.size) e22.size) e23.size) e24.size) e25.size)),r13_25,r4_25,r5_25,x25⟩ (by show len-(i+1)<len-i; omega)
     ·skip
      obtain ⟨hb1,hb2⟩:=hb
      rw [hb2] at hI2
      refine Qac ?_
      refine Qaa (.int .i64 bad) 99 rfl kj kj ?_
      refine Qaa (.bool false) 100 rfl kj (Qad (u:=.bool ((bad==0))) kj (congrArg Value.bool (beq_eq_false_iff_ne.2 hb1))) ?_
      refine Qae ?_
      refine hK231 _ _ ?_
      refine cond_false kj ?_
      refine wp_skip ?_
      refine hK230 _ _ ?_
      refine wp_seq_k fun K252 hK252=>?_
      refine Qac ?_
      refine Qaa (.slice a218_ ((xo).length) c218_) 105 rfl kj kj ?_
      refine Qaa (.slice a229_ ((xo).length) c229_) 106 rfl kj kj ?_
      have f253_18:=(hu218_.ext e18)
      refine Qan (.bool true) 26 #[.slice a218_ ((xo).length) c218_,.slice a229_ ((xo).length) c229_] 107 rfl kj kj ((QfA _ _ _ _ _ rfl (RdK.bytes (OwnN.rd f253_18) hxob) (RdK.bytes (OwnN.rd hu229_) hxob))) fun W19 e19=>?_
      have x19:Ext w W19:=Ext.tr x18 e19
      refine Qaa (.bool false) 108 rfl kj kj ?_
      refine Qaa (.bool false) 109 rfl kj kj ?_
      refine Qaa (errV bad) 110 rfl kj kj ?_
      refine Qan (.int .i64 bad) 25 #[errV bad] 111 rfl kj kj ((numV bad) _) fun W20 e20=>?_
      have x20:Ext w W20:=Ext.tr x19 e20
      refine Qaa (.int .i64 bad) 112 rfl kj kj ?_
      refine Qaa (.bool false) 113 rfl kj (Qad (u:=.bool ((bad != bad))) kj (congrArg Value.bool (bne_self_eq_false _))) ?_
      refine Qaa (.bool false) 114 rfl kj kj ?_
      refine Qaa (.bool false) 115 rfl kj kj ?_
      refine Qaa (.slice (some ⟨gk216,0,none⟩) (fz).length ck216) 116 rfl kj kj ?_
      refine Qaa (.slice (some ⟨gr,0,none⟩) xf.length cr) 117 rfl kj kj ?_
      have f254_17:=(Qbs ho216 q17 (Qc9 ho216 (Qa0 r13_15)))
      have f255_18:=(f254_17.ext e18)
      have f256_19:=(f255_18.ext e19)
      have f257_20:=(f256_19.ext e20)
      have r212_18:=(Qab r212_17 e18)
      have r212_19:=(Qab r212_18 e19)
      have r212_20:=(Qab r212_19 e20)
      refine Qan (.bool true) 28 #[.slice (some ⟨gk216,0,none⟩) (fz).length ck216,.slice (some ⟨gr,0,none⟩) xf.length cr] 118 rfl kj kj ((QfQ (fz) _ _ _ _ _ (by omega) hzb9 (show QbS 5 _ (fz) _ _ from ⟨gk216,ck216,rfl,f257_20⟩) (Qdc lfz r212_20 hcr))) fun W21 e21=>?_
      have x21:Ext w W21:=Ext.tr x20 e21
      refine Qaa (.bool false) 119 rfl kj kj ?_
      refine Qaa (.bool false) 120 rfl kj kj ?_
      refine Qaa (.bool false) 121 rfl kj kj ?_
      refine Qaa (.pointer (some ⟨gl13,0,none⟩)) 122 rfl kj kj ?_
      have r13_18:=(Qab r13_17 e18)
      have r13_19:=(Qab r13_18 e19)
      have r13_20:=(Qab r13_19 e20)
      have r13_21:=(Qab r13_20 e21)
      refine Qan (.int .i64 (p2-1)) 44 #[.pointer (some ⟨gl13,0,none⟩)] 123 rfl kj kj (HighestC gl13 p2 q2 hI2.hnx hI2.hB sk rk n hsk hrk _ r13_21) fun W22 e22=>?_
      have x22:Ext w W22:=Ext.tr x21 e22
      refine Qaa (.slice a_u ts.length c_u) 124 rfl kj kj ?_
      have mu258_18:=(mu227_17.ext e18)
      have mu259_19:=(mu258_18.ext e19)
      have mu260_20:=(mu259_19.ext e20)
      have mu261_21:=(mu260_20.ext e21)
      have mu262_22:=(mu261_21.ext e22)
      refine Qan (.int .i64 (hiT ts)) 51 #[.slice a_u ts.length c_u] 125 rfl kj kj (QcI ts (by omega) _ _ _ _ (OwnN.rd mu262_22)) fun W23 e23=>?_
      have x23:Ext w W23:=Ext.tr x22 e23
      refine Qaa (.bool false) 126 rfl kj (Qad (u:=.bool (((p2-1) != (hiT ts)))) kj (congrArg Value.bool (bne_eq_false_iff_eq.2 hI2.hhi.symm))) ?_
      refine Qaa (.bool false) 127 rfl kj kj ?_
      refine Qae ?_
      refine hK252 _ _ ?_
      refine cond_false kj ?_
      refine wp_skip ?_
      refine hK23 _ _ ?_
      refine Qac ?_
      refine Qaa (.int .i64 ((i+1:Nat):Int)) 197 rfl kj (Qad (u:=.int .i64 (IntKind.i64.wrap (((i:Nat):Int)+1))) kj (congrArg (Value.int .i64) (i64n _ _ (by omega) (by omega)))) ?_
      refine Qaa (.int .i64 ((i+1:Nat):Int)) 47 rfl kj kj ?_
      refine Qae ?_
      have mu263_23:=(mu262_22.ext e23)
      have r13_22:=(Qab r13_21 e22)
      have r13_23:=(Qab r13_22 e23)
      have r4_10:=(Qab q4_1 e10)
      have r4_11:=(Puts.row p11 r4_10 (Qag q4_1 l25))
      have r4_12:=(Qab r4_11 e12)
      have r4_13:=(Qab r4_12 e13)
      have r4_14:=(Qab r4_13 e14)
      have r4_15:=(Puts.row p15 r4_14 (Qag r4_12 lr))
      have r4_16:=(Qab r4_15 e16)
      have r4_17:=(ExtB.row q17 r4_16 n_4_13)
      have r4_18:=(Qab r4_17 e18)
      have r4_19:=(Qab r4_18 e19)
      have r4_20:=(Qab r4_19 e20)
      have r4_21:=(Qab r4_20 e21)
      have r4_22:=(Qab r4_21 e22)
      have r4_23:=(Qab r4_22 e23)
      have r5_18:=(Qab r5_17 e18)
      have r5_19:=(Qab r5_18 e19)
      have r5_20:=(Qab r5_19 e20)
      have r5_21:=(Qab r5_20 e21)
      have r5_22:=(Qab r5_21 e22)
      have r5_23:=(Qab r5_22 e23)
      repeat (first | with_reducible refine goX1 ?_ | with_reducible refine goX2 ?_ | with_reducible refine goX3 ?_)
      exact Qax ((i+1),n,p2,q2,ts,.slice a_u ts.length c_u) ⟨rfl,rfl,rfl,rfl,rfl,rfl,rfl,rfl,trivial⟩ ⟨(by omega),hn,hI2,hzb,(Nat.le_succ_of_le hzl),mu263_23,(qT hbz (qT (qT (qT (qT (qT (qT (qT (qT (qT (qT (qT (qT (qT (qT (qR _) e10.size) (qE p11.2.2.2.1.symm)) e12.size) e13.size) e14.size) (qE p15.2.2.2.1.symm)) e16.size) q17.2.2.2.1) e18.size) e19.size) e20.size) e21.size) e22.size) e23.size)),r13_23,r4_23,r5_23,x23⟩ (by show len-(i+1)<len-i; omega)
 ·skip
  have heq:i=len:=by have:=of_decide_eq_false c22; omega
  refine wp_exit ?_
  refine hK18 _ _ ?_
  refine wp_seq_k fun K264 hK264=>?_
  refine Qac ?_
  refine Qaa (.pointer (some ⟨gl13,0,none⟩)) 198 rfl kj kj ?_
  refine Qan (.int .i64 ((n:Nat):Int)) 45 #[.pointer (some ⟨gl13,0,none⟩)] 199 rfl kj kj (Qgj gl13 p B hI.hnx hI.hB sk rk n hsk hrk _ q13_1) fun W10 e10=>?_
  have x10:Ext w W10:=Ext.tr xx1 e10
  refine Qaa (.int .i64 ((n:Nat):Int)) 200 rfl kj kj ?_
  refine Qaa (.bool true) 201 rfl kj (Qad (u:=.bool ((((n:Nat):Int)==((n:Nat):Int)))) kj (congrArg Value.bool (beq_self_eq_true _))) ?_
  refine Qaa (.bool true) 6 rfl kj kj ?_
  refine Qae ?_
  refine hK264 _ _ ?_
  refine wp_ret ?_
  repeat (first | with_reducible refine goR1 ?_ | with_reducible refine goR2 ?_)
  exact (show bodyPost _ _ _ .ret _ _ from ret1 (.bool true) rfl (Qaq kj) ⟨rfl,x10⟩)
theorem lawLinkPlays (sk rk:List Int) (hsk:sk.length=32) (hrk:rk.length=32) (hskb:Qai sk) (hrkb:Qai rk) (len cap gT oT:Nat) (ad:Option Addr) (ops:Nat→OpV4)  (th tq:TypeId) (w:World) (had:0<len→ad=some ⟨gT,oT,none⟩) (hops:∀ i,i<len→OpAt4 w gT oT i (ops i)) (hh:w.heap[2]? = some (.cells (ints .u32 [1634760805,857760878,2036477234,1797285236]) th)) (hq:w.heap[3]? = some (.cells (ints .i64 [0,4,8,12,1,5,9,13,2,6,10,14,3,7,11,15,0,5,10,15,1,6,11,12,2,7,8,13,3,4,9,14]) tq)) (hub:∀ i,i<len→(ops i).xs.length≤1048576):Calls Tryd.prog 6 #[.agg (ints .u8 sk),.agg (ints .u8 rk),.slice ad len cap] w (Ret w (.bool true)):=by
  by_cases hall:∀ i,i<len→i≤60∧((ops i).xs.length≤300∨65536<(ops i).xs.length)
  · exact QjZ sk rk hsk hrk hskb hrkb len cap gT oT ad ops th tq w had hops hh hq hub hall
  · exact QjY sk rk hsk hrk hskb hrkb len cap gT oT ad ops th tq w had hops hh hq hub hall
end Go.Proofs.YtoiendjhplbjjaaDoor.Ll
end
section
namespace Go.Proofs.YtoiendjhplbjjaaDoor.Auto
open Go
theorem Qjk {H : Type} (d:DataW H):0<Rows.uptoBulk d:=by
  cases d with
  | lit l=>cases l <;> simp [Rows.uptoBulk]
  | _=>simp [Rows.uptoBulk]
theorem QgZ {H : Type}:∀ l:List (DataW H),l.length≤Rows.uptoBulkAll l
  | []=>Nat.zero_le _
  | d::r=>by
    have h1:=Qjk d
    have h2:=QgZ r
    simp only [Rows.uptoBulkAll,List.length_cons]
    omega
theorem Qh4 {H : Type} (a b:List (DataW H)):a.length≤Rows.uptoBulk (.slice a b):=by
  have h:=QgZ a
  simp only [Rows.uptoBulk]
  omega
end Go.Proofs.YtoiendjhplbjjaaDoor.Auto
end
section
namespace Go.Proofs.YtoiendjhplbjjaaDoor.Auto
open Go Go.RowKit Go.WideShapes Go.ChangeShapes Go.ChangeAt
open Rely Go.Deep
theorem QgY {H : Type} {d:DataW H}:∀ {l:List (DataW H)},d∈l→Rows.uptoBulk d≤Rows.uptoBulkAll l
  | e::r,h=>by
    rcases List.mem_cons.1 h with rfl | h2
    · simp only [Rows.uptoBulkAll]; omega
    · have:=QgY h2
      simp only [Rows.uptoBulkAll]; omega
section
variable {H : Type} {enc : TypeId × Value → H} {P : Program} {w : World} {b0 : Nat} {held : Bool}
theorem open_ops4U {t s e:TypeId} {f0 f1 f2 f3:Field} {ad:Option Addr} {len cap:Nat} {d:DataW H} {p:List MemPlace} (hs:P.underlying t=some (.slice s)) (hss:P.underlying s=some (.struct #[f0,f1,f2,f3])) (ho:f0.offset=0∧f1.offset=1∧f2.offset=2∧f3.offset=3)
    (h0:P.underlying f0.type=some (.int .i64)) (h1:P.underlying f1.type=some (.slice e)) (h2:P.underlying f2.type=some (.int .i64)) (h3:P.underlying f3.type=some (.int .u8)) (hc:P.cellsOf f0.type=1∧P.cellsOf f1.type=1∧P.cellsOf f2.type=1∧P.cellsOf f3.type=1)
    (he:P.underlying e=some (.int .u8)) (hce:P.cellsOf e=1) (hcs:P.cellsOf s=4)
    (h:DataW.Trod enc P w b0 (fun _=>true) held t (.slice ad len cap) d p) :
    ∃ gT oT:Nat,(0<len→ad=some ⟨gT,oT,none⟩∧gT<w.heap.size)∧∀ i,i<len→∃ o,OpAt4 w gT oT i o∧o.xs.length≤Rows.uptoBulk d:=by
  obtain ⟨fuel,hf⟩:=h
  rcases DataW.trod_slice hs hf with ⟨hcs',-⟩ | ⟨x,l,c,elems,rest,n,-,hcs',hdx,hb,hl,hmx,hlen,hel,-,-⟩
  · simp [Value.cells] at hcs'
    obtain ⟨rfl,rfl,rfl⟩:=hcs'
    exact ⟨0,0,fun h=>absurd h (by omega),fun i hi=>absurd hi (by omega)⟩
  · simp [Value.cells] at hcs'
    obtain ⟨rfl,rfl,rfl⟩:=hcs'
    have key:∀ i,i<len→∃ o:OpV4,w.cell? (x.add (i*4))=some (.int .i64 o.kind)∧w.cell? (x.add (i*4+1))=some (.slice o.a o.xs.length o.c)∧w.cell? (x.add (i*4+2))=some (.int .i64 o.n)∧w.cell? (x.add (i*4+3))=some (.int .u8 o.b) ∧
        RdK .u8 w.heap.size o.xs (.slice o.a o.xs.length o.c) w∧Qai o.xs∧(Lit.int .i64 o.kind).wf=true∧(Lit.int .i64 o.n).wf=true∧(Lit.int .u8 o.b).wf=true∧o.xs.length≤Rows.uptoBulk d:=fun i hi=>by
      have h4:=hel i hi
      rw [hcs,List.getElem?_eq_getElem (by omega)] at h4
      obtain ⟨cs,hc1,hc2⟩:=Option.bind_eq_some_iff.1 h4
      obtain ⟨hn,q1,q2⟩:=World.cells?_some hc1
      obtain ⟨y0,y1,y2,y3,m,hex,hl3,t0,t1,t2,t3⟩:=Joins.trod_struct4 hss hc2
      rw [ho.1,hc.1] at t0
      rw [ho.2.1,hc.2.1] at t1
      rw [ho.2.2.1,hc.2.2.1] at t2
      rw [ho.2.2.2,hc.2.2.2] at t3
      rw [hcs] at hl3
      have p0:=q2 0 (by omega)
      have p1:=q2 1 (by omega)
      have p2:=q2 2 (by omega)
      have p3:=q2 3 (by omega)
      rw [Qjn] at p0 p1 p2 p3
      obtain ⟨z0,e0,-,w0⟩:=DataW.trod_int h0 t0
      obtain ⟨z2,e2,-,w2⟩:=DataW.trod_int h2 t2
      obtain ⟨z3,e3,-,w3⟩:=DataW.trod_int h3 t3
      match cs,hl3 with
      | [c0,c1,c2,c3],_ =>
        simp only [List.drop_zero,List.drop_succ_cons,List.take_succ_cons,List.take_zero,List.cons.injEq,and_true] at e0 e2 e3
        subst e0; subst e2; subst e3
        simp only [List.drop_succ_cons,List.drop_zero,List.take_succ_cons,List.take_zero] at t1
        rcases open_ints h1 he hce t1 with ⟨hcv,-⟩ | ⟨y,l,cc,zs,hcv,-,hl2,hm2,hz2,hy1,hcell,hwz⟩
        · simp only [List.cons.injEq,and_true] at hcv
          subst hcv
          exact ⟨⟨z0,none,0,[],z2,z3⟩,p0,p1,p2,p3,⟨none,0,rfl,qR _,Nat.zero_le _,fun _=>rfl,.inl rfl⟩,(fun x hx=>by cases hx),w0,w2,w3,Nat.zero_le _⟩
        · simp only [List.cons.injEq,and_true] at hcv
          subst hcv
          obtain ⟨r,rl,rf⟩:=Qht (k:=.u8) (w:=w) (a:=some y) (len:=l) (cap:=cc) (zs:=zs) (.inr ⟨y,rfl,hl2,hm2,by simpa using hz2,hcell,hwz⟩)
          refine ⟨⟨z0,some y,cc,zs.take l,z2,z3⟩,p0,?_,p2,p3,?_,Qjj rf,w0,w2,w3,?_⟩
          · show _=some (Value.slice (some y) (zs.take l).length cc)
            rw [rl]; exact p1
          · show RdK .u8 w.heap.size (zs.take l) (.slice (some y) (zs.take l).length cc) w
            rw [rl]; exact r
          · show (zs.take l).length≤_
            have b1:=Qh4 (H:=H) (lits .u8 (zs.take l)) (lits .u8 (zs.drop l))
            have b0:(lits (H:=H) .u8 (zs.take l)).length=l:=by unfold lits; rw [List.length_map]; exact rl
            have b2:Rows.uptoBulk y1.1≤Rows.uptoBulk (elems[i]'(by omega)).1:=by
              rw [hex]; simp only [Rows.uptoBulk,Rows.uptoBulkAll]; omega
            rw [hy1] at b2
            have b3:Rows.uptoBulk (elems[i]'(by omega)).1≤Rows.uptoBulk d:=by
              have e:d=_:=congrArg Prod.fst hdx
              rw [e]
              have e3:Rows.uptoBulk (elems[i]'(by omega)).1≤Rows.uptoBulkAll (elems.map (·.1)):=QgY (List.mem_map_of_mem (List.getElem_mem _))
              show _≤Rows.uptoBulkAll (elems.map (·.1))+Rows.uptoBulkAll (rest.map (·.1))+1
              omega
            simp only at b2
            rw [rl]
            omega
    rcases Nat.eq_zero_or_pos len with h0' | h0'
    · exact ⟨0,0,fun h=>absurd h (by omega),fun i hi=>absurd hi (by omega)⟩
    obtain ⟨b,off,spot⟩:=x
    have hspot:spot=none:=by
      obtain ⟨_,hq,-⟩:=key 0 h0'
      simpa [Addr.add] using World.cell?_spot hq
    subst hspot
    obtain ⟨_,hq0,-⟩:=key 0 h0'
    rw [WideShapes.add_plain,Nat.zero_mul,Nat.add_zero] at hq0
    refine ⟨b,off,fun _=>⟨rfl,Qee hq0⟩,fun i hi=>?_⟩
    obtain ⟨o,k1,k2,k3,k5,k4⟩:=key i hi
    rw [WideShapes.add_plain] at k1 k2 k3 k5
    obtain ⟨k41,k42,k43,k44,k45,k46⟩:=k4
    exact ⟨o,⟨k1,by rw [Nat.add_assoc]; exact k2,by rw [Nat.add_assoc]; exact k3,by rw [Nat.add_assoc]; exact k5,k41,k42,k43,k44,k45⟩,k46⟩
end
end Go.Proofs.YtoiendjhplbjjaaDoor.Auto
end
section
namespace Go.Proofs.YtoiendjhplbjjaaDoor.Auto
open Go Go.RowKit
open Rely
theorem chunks {α : Type} (m:Nat):∀ (n:Nat) (cs:List α),cs.length=n*m→((List.range n).map fun i=>(cs.drop (i*m)).take m).flatten=cs
  | 0,cs,h=>by
    have:cs=[]:=List.length_eq_zero_iff.1 (by simpa using h)
    subst this; rfl
  | n+1,cs,h=>by
    have hm:(n+1)*m=n*m+m:=Nat.succ_mul n m
    rw [List.range_succ,List.map_append,List.flatten_append]
    have ih:=chunks m n (cs.take (n*m)) (by rw [List.length_take]; omega)
    have e1:((List.range n).map fun i=>(cs.drop (i*m)).take m)=((List.range n).map fun i=>((cs.take (n*m)).drop (i*m)).take m):=by
      refine List.map_congr_left fun i hi=>?_
      rw [List.mem_range] at hi
      have h1:(i+1)*m≤n*m:=Nat.mul_le_mul_right m hi
      rw [Nat.succ_mul] at h1
      rw [List.drop_take,List.take_take,Nat.min_eq_left (by omega)]
    rw [e1,ih]
    simp only [List.map_cons,List.map_nil,List.flatten_cons,List.flatten_nil,List.append_nil]
    have e2:(cs.drop (n*m)).take m=cs.drop (n*m):=List.take_of_length_le (by rw [List.length_drop]; omega)
    rw [e2,List.take_append_drop]
theorem Qfw {H : Type} {enc:TypeId×Value→H} {P:Program} {w:World} {base:Nat} {sp:Nat→Bool} {held:Bool} {fuel:Nat} {t e i:TypeId} {n m:Nat} {k:IntKind} {cs:List Value} {zss:List (List Int)} {p:List MemPlace}
    (ht:P.underlying t=some (.array n e)) (he:P.underlying e=some (.array m i)) (hi:P.underlying i=some (.int k)) (hci:P.cellsOf i=1) (hce:P.cellsOf e=m) (hct:P.cellsOf t=n*m)
    (h:DataW.trod enc P w base sp held fuel t cs=some (.agg (zss.map (Lib.tabData k)),p)):cs=zss.flatten.map fun z=>Value.int k z:=by
  cases fuel with
  | zero=>simp [DataW.trod] at h
  | succ fuel =>
    simp only [DataW.trod,ht,hce,hct] at h
    split at h
    · rename_i hl
      obtain ⟨xs,hm,hx⟩:=Option.map_eq_some_iff.1 h
      have hxs:xs.map (·.1)=zss.map fun z=>(Lib.tabData k z:DataW H):=by
        have:=congrArg Prod.fst hx
        simpa using this
      have hxl:xs.length=n:=by simpa using Lib.mapM_length hm
      have hzl:zss.length=n:=by
        have:=congrArg List.length hxs
        simp at this
        omega
      rw [←chunks m n cs (by simpa using hl),List.map_flatten]
      congr 1
      apply List.ext_getElem?
      intro j
      by_cases hj:j<n
      · obtain ⟨b,hb,hf⟩:=Lib.mapM_at hm j j (by simp [hj])
        have h2:(xs.map (·.1))[j]? = some b.1:=by simp [hb]
        rw [hxs,List.getElem?_map,List.getElem?_eq_getElem (by omega),Option.map_some,Option.some.injEq] at h2
        have h3:=Lib.cells_of_tab he hi hci hce (zs:=zss[j]'(by omega)) (p:=b.2) (by rw [h2]; exact hf)
        rw [List.getElem?_map,List.getElem?_map,List.getElem?_range hj,List.getElem?_eq_getElem (by omega),Option.map_some,Option.map_some,h3]
      · rw [List.getElem?_eq_none (by simp; omega),List.getElem?_eq_none (by simp; omega)]
    · cases h
theorem Qii {P : Program} {w:World} {laid:List (String×DataW Unit)} {n:String} {k:IntKind} {zss:List (List Int)} {g:Nat} {t e i:TypeId} {m1 m:Nat} (h:laidMet P laid w) (hm:(n,DataW.agg (zss.map (Lib.tabData k)))∈laid)
    (hg:P.globalNamed n=some g) (hty:(P.globals[g]?).map (·.type)=some t) (ht:P.underlying t=some (.array m1 e)) (he:P.underlying e=some (.array m i)) (hi:P.underlying i=some (.int k)) (hci:P.cellsOf i=1) (hce:P.cellsOf e=m) (hct:P.cellsOf t=m1*m) (h0:0<zss.flatten.length) :
    ∃ t,w.heap[g]? = some (.cells (ints k zss.flatten) t):=by
  obtain ⟨ps,hL,-,hC⟩:=h
  obtain ⟨g',t',cs,fuel,p,hg',ht',hvar,hd,hin⟩:=QdC _ _ _ _ hL hm
  obtain rfl:=Option.some.inj (hg.symm.trans hg')
  obtain rfl:=Option.some.inj (hty.symm.trans ht')
  have hcs:=Qfw ht he hi hci hce hct hd
  have hsz:0<cs.size:=by rw [←Array.length_toList,hcs,List.length_map]; exact h0
  obtain ⟨⟨c,t2,hc⟩,-⟩:=hC g 0 (hin _ (List.mem_map.2 ⟨0,List.mem_range.2 hsz,rfl⟩))
  unfold World.var? at hvar
  rw [hg] at hvar
  simp only [Option.bind_some,hc,Option.some.injEq] at hvar
  subst hvar
  refine ⟨t2,hc.trans ?_⟩
  rw [show c=ints k zss.flatten from by rw [ints,←hcs]]
end Go.Proofs.YtoiendjhplbjjaaDoor.Auto
end
