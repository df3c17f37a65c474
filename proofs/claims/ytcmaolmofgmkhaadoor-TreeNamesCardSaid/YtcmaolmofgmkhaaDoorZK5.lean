/- Texts of this claim, joined (K5). -/
import Derived.Test.YtcmaolmofgmkhaaDoorZK4
import Derived.Lib.SmallJoins
import Derived.Lib.LaidTab
import Derived.Deep.Strs

set_option linter.unusedVariables false
set_option linter.unusedSimpArgs false
set_option maxHeartbeats 4000000
section
namespace Go.Proofs.YtcmaolmofgmkhaaDoor.Te
open Go Go.RowKit
open Rely Auto Own Seat Sha
theorem Qjt (ts : List NdV) (a_t:Option Addr) (c_t B1:Nat) (w:World) (ht:TrAt B1 w a_t ts) (htl:ts.length≤100000) (hmt:∀ i,i<ts.length→(ndi ts i).n.ms.length≤1000000) (hT:TabAt w) (nm v:Int) (h:chkT ts=true) (e:QaG ts nm=v):Calls Tryd.prog 18 #[.slice a_t ts.length c_t,.int .i64 nm] w (Ret w (.int .i64 v)):=e▸QlJ ts a_t c_t B1 w ht htl hmt hT nm h
theorem Qhd (ks : List Int) (n:Int):((ks.map tmv).filter fun p=>p.1 != n)=(ks.filter (· != n)).map tmv:=by
  rw [List.filter_map]; rfl
theorem MpAt.row {g k:Nat} {m:List (Int×Value)} {A B:World} {o:Obj} (h:MpAt g m A) (p:Puts A g B) (r:A.heap[k]? = some o) (hn:k≠g):B.heap[k]? = some o:=(p.2.2.2.2 k hn).trans r
set_option maxRecDepth 100000 in
theorem Ql2 (ts : List NdV) (a_t:Option Addr) (c_t B1:Nat) (w:World) (ht:TrAt B1 w a_t ts) (hT:TabAt w) (name gone:Int) (hs:¬ (∀ i,i<ts.length→i≤70∧(ndi ts i).n.ms.length≤50))  : Calls Tryd.prog 8 #[.slice a_t ts.length c_t,.int .i64 name,.int .i64 gone] w (Ret w (.bool true)):=by
  refine Qdf 106 [(0,.slice a_t ts.length c_t),(1,.int .i64 name),(2,.int .i64 gone)] Tryd.func8 rfl rfl kj rfl ?_
  refine wp_seq_k fun K1 hK1=>?_
  refine Qab ?_
  refine Qap (#[.bool false]) 4 6 rfl kj kj fun g2 W1 l2 e1 r2_1=>?_
  have x1:Ext w W1:=Ext.tr (Rely.Ext.refl w) e1
  have b2:w.heap.size≤g2:=qT (Rely.Ext.refl w).size l2
  refine Qae ?_
  refine hK1 _ _ ?_
  refine wp_seq_k fun K3 hK3=>?_
  refine wp_seq_k fun K4 hK4=>?_
  refine Qab ?_
  refine Qal (.bool true) 9 #[] 18 rfl kj kj (Qiv _ (TabAt.ext hT x1)) fun W2 e2=>?_
  have x2:Ext w W2:=Ext.tr x1 e2
  refine Qaa (.bool false) 19 rfl kj kj ?_
  refine Qae ?_
  refine hK4 _ _ ?_
  refine cond_false kj ?_
  refine wp_skip ?_
  refine hK3 _ _ ?_
  refine wp_seq_k fun K5 hK5=>?_
  refine wp_seq_k fun K6 hK6=>?_
  refine Qab ?_
  refine Qaa (.slice a_t ts.length c_t) 20 rfl kj kj ?_
  refine Qal (.bool true) 10 #[.slice a_t ts.length c_t] 21 rfl kj kj (QhY ts a_t c_t _ _ (TrAt.ext ht x2) hs) fun W3 e3=>?_
  have x3:Ext w W3:=Ext.tr x2 e3
  refine Qaa (.bool true) 22 rfl kj kj ?_
  refine Qad 23 rfl kj ?_
  refine Qad 24 rfl kj ?_
  refine Qad 25 rfl kj ?_
  refine Qaa (.bool true) 26 rfl kj kj ?_
  refine Qae ?_
  refine hK6 _ _ ?_
  refine cond_true kj ?_
  refine wp_seq_k fun K7 hK7=>?_
  refine Qab ?_
  have r2_2:=(Qah r2_1 e2)
  have r2_3:=(Qah r2_2 e3)
  refine Qa5 g2 _ (#[.bool true]) 4 r2_3 rfl kj (Qa4 4 _ _ g2 0 4 _ (.bool true) r2_3 rfl kj kj kj kj kj rfl) fun W4 p4 r2_4=>?_
  have x4:Ext w W4:=Puts.ext p4 x3 b2
  refine Qae ?_
  refine hK7 _ _ ?_
  refine wp_ret ?_
  repeat (first | with_reducible refine goR1 ?_ | with_reducible refine goR2 ?_)
  exact (show bodyPostM _ _ _ _ _ .ret _ _ from Qlm (.bool true) rfl (Qbp g2 4 _ (.bool true) r2_4 kj kj rfl) ⟨rfl,x4⟩)
set_option maxRecDepth 100000 in
theorem Ql3 (ts : List NdV) (a_t:Option Addr) (c_t B1:Nat) (w:World) (ht:TrAt B1 w a_t ts) (hT:TabAt w) (name gone:Int) (hs:∀ i,i<ts.length→i≤70∧(ndi ts i).n.ms.length≤50) (hc:chkT ts=false):Calls Tryd.prog 8 #[.slice a_t ts.length c_t,.int .i64 name,.int .i64 gone] w (Ret w (.bool true)):=by
  have hl:=Qjv hs
  have htl:ts.length≤100000:=by omega
  have hl6:ts.length≤1000000:=by omega
  have hm6:∀ i,i<ts.length→(ndi ts i).n.ms.length≤1000000:=fun i hi=>qT (hs i hi).2 (by decide)
  refine Qdf 106 [(0,.slice a_t ts.length c_t),(1,.int .i64 name),(2,.int .i64 gone)] Tryd.func8 rfl rfl kj rfl ?_
  refine wp_seq_k fun K1 hK1=>?_
  refine Qab ?_
  refine Qap (#[.bool false]) 4 6 rfl kj kj fun g2 W1 l2 e1 r2_1=>?_
  have x1:Ext w W1:=Ext.tr (Rely.Ext.refl w) e1
  have b2:w.heap.size≤g2:=qT (Rely.Ext.refl w).size l2
  refine Qae ?_
  refine hK1 _ _ ?_
  refine wp_seq_k fun K3 hK3=>?_
  refine wp_seq_k fun K4 hK4=>?_
  refine Qab ?_
  refine Qal (.bool true) 9 #[] 18 rfl kj kj (Qiv _ (TabAt.ext hT x1)) fun W2 e2=>?_
  have x2:Ext w W2:=Ext.tr x1 e2
  refine Qaa (.bool false) 19 rfl kj kj ?_
  refine Qae ?_
  refine hK4 _ _ ?_
  refine cond_false kj ?_
  refine wp_skip ?_
  refine hK3 _ _ ?_
  refine wp_seq_k fun K5 hK5=>?_
  refine wp_seq_k fun K6 hK6=>?_
  refine Qab ?_
  refine Qaa (.slice a_t ts.length c_t) 20 rfl kj kj ?_
  refine Qal (.bool false) 10 #[.slice a_t ts.length c_t] 21 rfl kj kj (QfB ts a_t c_t _ _ (TrAt.ext ht x2) hs) fun W3 e3=>?_
  have x3:Ext w W3:=Ext.tr x2 e3
  refine Qaa (.bool false) 22 rfl kj kj ?_
  refine Qaa (.slice a_t ts.length c_t) 23 rfl kj kj ?_
  refine Qal (.iface 30 (.int .i64 3)) 11 #[.slice a_t ts.length c_t] 24 rfl kj kj (Qiq ts a_t c_t _ _ (TrAt.ext ht x3) htl hm6 (TabAt.ext hT x3) hc) fun W4 e4=>?_
  have x4:Ext w W4:=Ext.tr x3 e4
  refine Qaa (.bool true) 25 rfl kj kj ?_
  refine Qaa (.bool true) 26 rfl kj kj ?_
  refine Qae ?_
  refine hK6 _ _ ?_
  refine cond_true kj ?_
  refine wp_seq_k fun K7 hK7=>?_
  refine Qab ?_
  have r2_2:=(Qah r2_1 e2)
  have r2_3:=(Qah r2_2 e3)
  have r2_4:=(Qah r2_3 e4)
  refine Qa5 g2 _ (#[.bool true]) 4 r2_4 rfl kj (Qa4 4 _ _ g2 0 4 _ (.bool true) r2_4 rfl kj kj kj kj kj rfl) fun W5 p5 r2_5=>?_
  have x5:Ext w W5:=Puts.ext p5 x4 b2
  refine Qae ?_
  refine hK7 _ _ ?_
  refine wp_ret ?_
  repeat (first | with_reducible refine goR1 ?_ | with_reducible refine goR2 ?_)
  exact (show bodyPostM _ _ _ _ _ .ret _ _ from Qlm (.bool true) rfl (Qbp g2 4 _ (.bool true) r2_5 kj kj rfl) ⟨rfl,x5⟩)
set_option maxRecDepth 100000 in
theorem Ql1 (ts : List NdV) (a_t:Option Addr) (c_t B1:Nat) (w:World) (ht:TrAt B1 w a_t ts) (hT:TabAt w) (name gone:Int) (hs:∀ i,i<ts.length→i≤70∧(ndi ts i).n.ms.length≤50) (hc:chkT ts=true):Calls Tryd.prog 8 #[.slice a_t ts.length c_t,.int .i64 name,.int .i64 gone] w (Ret w (.bool true)):=by
 have hl:=Qjv hs
 have htl:ts.length≤100000:=by omega
 have hl6:ts.length≤1000000:=by omega
 have hm6:∀ i,i<ts.length→(ndi ts i).n.ms.length≤1000000:=fun i hi=>qT (hs i hi).2 (by decide)
 have hm1:∀ i,i<ts.length→(ndi ts i).n.ms.length≤1000:=fun i hi=>qT (hs i hi).2 (by decide)
 obtain ⟨L,Fm,hrL⟩:=QbG htl hc
 have hlen:=Fm.len
 have hL:=Qcf Fm.tr Fm.len
 have hL3:L≤32:=by have:=Qav Fm.tr; omega
 refine Qdf 106 [(0,.slice a_t ts.length c_t),(1,.int .i64 name),(2,.int .i64 gone)] Tryd.func8 rfl rfl kj rfl ?_
 refine wp_seq_k fun K1 hK1=>?_
 refine Qab ?_
 refine Qap (#[.bool false]) 4 6 rfl kj kj fun g2 W1 l2 e1 r2_1=>?_
 have x1:Ext w W1:=Ext.tr (Rely.Ext.refl w) e1
 have b2:w.heap.size≤g2:=qT (Rely.Ext.refl w).size l2
 refine Qae ?_
 refine hK1 _ _ ?_
 refine wp_seq_k fun K3 hK3=>?_
 refine wp_seq_k fun K4 hK4=>?_
 refine Qab ?_
 refine Qal (.bool true) 9 #[] 18 rfl kj kj (Qiv _ (TabAt.ext hT x1)) fun W2 e2=>?_
 have x2:Ext w W2:=Ext.tr x1 e2
 refine Qaa (.bool false) 19 rfl kj kj ?_
 refine Qae ?_
 refine hK4 _ _ ?_
 refine cond_false kj ?_
 refine wp_skip ?_
 refine hK3 _ _ ?_
 refine wp_seq_k fun K5 hK5=>?_
 refine wp_seq_k fun K6 hK6=>?_
 refine Qab ?_
 refine Qaa (.slice a_t ts.length c_t) 20 rfl kj kj ?_
 refine Qal (.bool false) 10 #[.slice a_t ts.length c_t] 21 rfl kj kj (QfB ts a_t c_t _ _ (TrAt.ext ht x2) hs) fun W3 e3=>?_
 have x3:Ext w W3:=Ext.tr x2 e3
 refine Qaa (.bool false) 22 rfl kj kj ?_
 refine Qaa (.slice a_t ts.length c_t) 23 rfl kj kj ?_
 refine Qal (.nilIface) 11 #[.slice a_t ts.length c_t] 24 rfl kj kj (Qca ts a_t c_t _ _ (TrAt.ext ht x3) htl hm6 (TabAt.ext hT x3) hc) fun W4 e4=>?_
 have x4:Ext w W4:=Ext.tr x3 e4
 refine Qaa (.bool false) 25 rfl kj kj ?_
 refine Qaa (.bool false) 26 rfl kj kj ?_
 refine Qae ?_
 refine hK6 _ _ ?_
 refine cond_false kj ?_
 refine wp_skip ?_
 refine hK5 _ _ ?_
 refine wp_seq_k fun K7 hK7=>?_
 refine Qab ?_
 refine Qfw 27 rfl kj kj fun gm W5 lgm e5 rgm=>?_
 have x5:Ext w W5:=Ext.tr x4 e5
 have bgm:w.heap.size≤gm:=qT x4.size lgm
 have hmp0:MpAt gm [] W5:=⟨_,_,rgm,QhU _⟩
 refine Qap (#[.map none]) 68 7 rfl kj kj fun g9 W6 l9 e6 r9_6=>?_
 have x6:Ext w W6:=Ext.tr x5 e6
 have b9:w.heap.size≤g9:=qT x5.size l9
 refine Qa5 g9 _ (#[.map (some gm)]) 68 r9_6 rfl kj (Qa4 68 _ _ g9 0 68 _ (.map (some gm)) r9_6 rfl kj kj kj kj kj rfl) fun W7 p7 r9_7=>?_
 have x7:Ext w W7:=Puts.ext p7 x6 b9
 refine Qae ?_
 refine hK7 _ _ ?_
 refine wp_seq_k fun K10 hK10=>?_
 refine wp_seq_k fun K11 hK11=>?_
 have r2_2:=(Qah r2_1 e2)
 have r2_3:=(Qah r2_2 e3)
 have r2_4:=(Qah r2_3 e4)
 have r2_5:=(Qah r2_4 e5)
 have n67_:g2≠g9:=(QaM r2_5 l9)
 refine Qab ?_
 refine Qaa (.slice a_t ts.length c_t) 28 rfl kj kj ?_
 refine Qa7 (fun v W'=>(MemR ts W7) v W'∧Ext W7 W') 19 #[.slice a_t ts.length c_t] 29 rfl kj kj ((Qf8 ts a_t c_t _ _ (TrAt.ext ht x7) htl hm1 (TabAt.ext hT x7) hc).mono (by rintro e w' ⟨v,rfl,e1,hv⟩; exact ⟨v,rfl,hv,e1⟩)) fun vv12 W8 hh12=>?_
 obtain ⟨hv12,e8⟩:=hh12
 have x8:Ext w W8:=Ext.tr x7 e8
 obtain ⟨cs1,gm1,aM1,cM1,hasM1,rfl,lm1,rm1,hOM1⟩:=hv12
 refine Qae ?_
 refine hK11 _ _ ?_
 refine wp_block ?_
 have r2_6:=(Qah r2_5 e6)
 have r2_7:=(Puts.row p7 r2_6 n67_)
 have r2_8:=(Qah r2_7 e8)
 have r9_8:=(Qah r9_7 e8)
 have mp_6:=(MpAt.ext hmp0 e6)
 have mp_7:=(MpAt.puts mp_6 p7 (Ne.symm (MpAt.ne mp_6 r9_6)))
 have mp_8:=(MpAt.ext mp_7 e8)
 have htM1:TrAt W8.heap.size W8 aM1 cs1:=hOM1.tr
 have hcl1:cs1.length=ts.length:=hasM1.1
 have hLc1:leaves ((cs1.length:Nat):Int)=((L:Nat):Int):=by rw [hcl1]; exact hL
 have hgmK:gm<W8.heap.size:=MpAt.lt mp_8
 refine QdX (gf:=66) (lb:=#[.pointer (some ⟨gm1,0,none⟩)]) (enc:=fun z:Nat=>.int .i64 ((z:Nat):Int)) (enc2:=fun z:Nat=>.agg (cat (ndP (nod cs1 z)))) kj (enters_of Tryd.func66 kj rfl) (Qdb 2 [] gm1 cs1 aM1 cM1 W8.heap.size W8 htM1 (by omega) L hLc1 (by omega) (by omega) rm1 (List.not_mem_nil) (Qes _ _)) (fun h k=>QaI.trans h k) QaI.book (Below.refl _ _)
   (fun pre W=>((W.heap[g2]? = some (.cells (#[.bool false]) 4))∧(W.heap[g9]? = some (.cells (#[.map (some gm)]) 68))∧Cnt (nmz cs1) gm pre W∧QaI [] W8 W)∧Ext w W)
   (fun c pre W=>False) (OwnFrom.and (fun s A B row hs hg hr=>⟨QaL hs.1 hg (fun r e=>(hr r e).2),QaL hs.2.1 hg (fun r e=>(hr r e).2),Cnt.keep hs.2.2.1 (hg.block gm (Cnt.lt hs.2.2.1) (fun e=>absurd (hr gm e.symm).1 (Nat.not_le_of_lt hgmK))),Qel hs.2.2.2 hg (fun r e=>(hr r e).2)⟩) (ownFrom_below (qR _) x8.size)) (fun c s A B row hs _ _=>hs.elim) ⟨⟨r2_8,r9_8,⟨[],mp_8,(fun p hp=>by cases hp),fun _=>rfl⟩,QaI.refl _ _⟩,x8⟩ (fun e=>QaI.ext e) (fun pre A B h e=>⟨⟨Qah h.1.1 e,Qah h.1.2.1 e,Cnt.keep h.1.2.2.1 (e.block gm (Cnt.lt h.1.2.2.1)),QaI.trans h.1.2.2.2 (QaI.ext e)⟩,Rely.Ext.trans h.2 e⟩) (fun pre W h=>h.1.2.2.2.1) (fun z g=>[(9,.pointer (some ⟨g,0,none⟩)),(31,.agg (cat [#[.bool (nod cs1 z).n.us],#[.int .i64 ((nod cs1 z).n.nm)],ints .u8 ((nod cs1 z).n.key),ints .u8 ((nod cs1 z).n.sg),ints .u8 ((nod cs1 z).n.pa),#[.slice ((nod cs1 z).a) ((nod cs1 z).n.ms.length) ((nod cs1 z).c)]])),(30,.int .i64 ((z:Nat):Int))]) (fun z=>(cat [#[.bool (nod cs1 z).n.us],#[.int .i64 ((nod cs1 z).n.nm)],ints .u8 ((nod cs1 z).n.key),ints .u8 ((nod cs1 z).n.sg),ints .u8 ((nod cs1 z).n.pa),#[.slice ((nod cs1 z).a) ((nod cs1 z).n.ms.length) ((nod cs1 z).c)]])) 41 (fun l z W K hK=>?_) (fun l pre z gP Wr hgP hI rP hp=>?_) (fun D1 ys WA lD1 hS hI rD1=>?_) (fun D1 c pre WA lD1 hSp hIx rD1=>?_)
 ·skip
  refine Qa1 ?_
  refine Qff (cat [#[.bool false],#[.int .i64 0],ints .u8 (List.replicate 32 0),ints .u8 (List.replicate 32 0),ints .u8 (List.replicate 32 0),#[.slice none 0 0]]) 41 9 rfl (Qan l 1 _) rfl kj kj fun g301 W1 l301 e1 r301_1=>?_
  have x1:Ext W W1:=Ext.tr (Rely.Ext.refl W) e1
  have b301:W.heap.size≤g301:=qT (Rely.Ext.refl W).size l301
  refine QbJ g301 _ (cat [#[.bool (nod cs1 z).n.us],#[.int .i64 ((nod cs1 z).n.nm)],ints .u8 ((nod cs1 z).n.key),ints .u8 ((nod cs1 z).n.sg),ints .u8 ((nod cs1 z).n.pa),#[.slice ((nod cs1 z).a) ((nod cs1 z).n.ms.length) ((nod cs1 z).c)]]) 41 r301_1 rfl (Qan l 1 _) rfl kj (QaE 41 _ _ g301 41 _ _ r301_1 rfl kj kj (isz (n:=99) kj (by rw [Qac,Qac,Qac,Qac,Qac,Qac]; simp only [qS,cat,((Qaf _ _).trans (Qb1 htM1 z).1.gl),((Qaf _ _).trans (Qb1 htM1 z).1.kl),((Qaf _ _).trans (Qb1 htM1 z).1.pl)]; rfl)) (eqsz (n:=99) (by rw [Qac,Qac,Qac,Qac,Qac,Qac]; simp only [qS,cat,((Qaf _ _).trans (qZ (n:=32)))]; rfl) (by rw [Qac,Qac,Qac,Qac,Qac,Qac]; simp only [qS,cat,((Qaf _ _).trans (Qb1 htM1 z).1.gl),((Qaf _ _).trans (Qb1 htM1 z).1.kl),((Qaf _ _).trans (Qb1 htM1 z).1.pl)]; rfl)) (Qbt _ (by intro a ha; simp only [List.mem_cons,List.not_mem_nil,or_false] at ha; rcases ha with rfl | rfl | rfl | rfl | rfl | rfl; exact (Qa2 _ rfl); exact (Qa2 _ rfl); exact (Qa3 _ _); exact (Qa3 _ _); exact (Qa3 _ _); exact (Qa2 _ rfl)))) fun W2 p2 r301_2=>?_
  have x2:Ext W W2:=Puts.ext p2 x1 b301
  refine Qba ?_
  have y0_1:Ext W W1:=(Rely.Ext.trans (Rely.Ext.refl W) e1)
  have y0_2:Ext W W2:=(Puts.ext p2 y0_1 l301)
  exact hK _ _ l301 y0_2 r301_2
 ·skip
  obtain ⟨⟨q6,q7,hcn,hkc⟩,xx⟩:=hI
  have htr:=TrAt.keepC htM1 hkc (Qes _ _)
  obtain ⟨okz,rdz⟩:=Qb1 htr z
  obtain ⟨ms,hmp,vv,hvv,hst⟩:=Cnt.step hcn z
  refine wpIn_block ?_
  rcases hst with ⟨hq,hst⟩ | ⟨hq,hst⟩
  ·skip
   refine Qa1 ?_
   refine Qay (.map (some gm)) 32 rfl (Qan l 1 _) rfl kj (Qag 68 _ g9 0 68 _ (.map (some gm)) _ q7 rfl kj kj kj) ?_
   refine Qay (.pointer (some ⟨gP,1,none⟩)) 33 rfl (Qan l 1 _) rfl kj kj ?_
   refine Qay (.int .i64 ((nod cs1 z).n.nm)) 34 rfl (Qan l 1 _) rfl kj (Qag 3 _ gP 1 41 _ (.int .i64 ((nod cs1 z).n.nm)) _ rP rfl kj (Qak [#[.bool (nod cs1 z).n.us]] [#[.int .i64 ((nod cs1 z).n.nm)]] [ints .u8 ((nod cs1 z).n.key),ints .u8 ((nod cs1 z).n.sg),ints .u8 ((nod cs1 z).n.pa),#[.slice ((nod cs1 z).a) ((nod cs1 z).n.ms.length) ((nod cs1 z).c)]] 1 kj 0 _ rfl) kj) ?_
   refine Qay (.int .i64 vv) 35 rfl (Qan l 1 _) rfl kj ((Qbo 68 (.tmp 32) (.tmp 34) (kt:=3) (et:=3) (n:=nmz cs1 z) (z:=.int .i64 0) rfl kj kj kj kj hmp kj).trans (by rw [hvv])) ?_
   refine Qay (.int .i64 (IntKind.i64.wrap (vv+1))) 36 rfl (Qan l 1 _) rfl kj kj ?_
   refine QkD (.tmp 32) (.tmp 34) (.tmp 36) 68 (kt:=3) (et:=3) (n:=nmz cs1 z) (v:=.int .i64 (IntKind.i64.wrap (vv+1))) rfl kj kj kj kj kj hmp hq rfl (Qan l 1 _) rfl kj fun W1 p1 hm2=>?_
   have x1:Ext w W1:=Puts.ext p1 xx bgm
   refine Qba ?_
   repeat (first | with_reducible refine goX1 ?_ | with_reducible refine goX2 ?_ | with_reducible refine goX3 ?_)
   have r501_1:=(MpAt.row hmp p1 q6 (MpAt.ne hmp q6))
   have r502_1:=(MpAt.row hmp p1 q7 (MpAt.ne hmp q7))
   exact ⟨(Qek p1 hgmK),Qck p1 hmp,⟨r501_1,r502_1,hst _ hm2,QaI.trans hkc (Qck p1 hmp)⟩,x1⟩
  ·skip
   refine Qa1 ?_
   refine Qay (.map (some gm)) 32 rfl (Qan l 1 _) rfl kj (Qag 68 _ g9 0 68 _ (.map (some gm)) _ q7 rfl kj kj kj) ?_
   refine Qay (.pointer (some ⟨gP,1,none⟩)) 33 rfl (Qan l 1 _) rfl kj kj ?_
   refine Qay (.int .i64 ((nod cs1 z).n.nm)) 34 rfl (Qan l 1 _) rfl kj (Qag 3 _ gP 1 41 _ (.int .i64 ((nod cs1 z).n.nm)) _ rP rfl kj (Qak [#[.bool (nod cs1 z).n.us]] [#[.int .i64 ((nod cs1 z).n.nm)]] [ints .u8 ((nod cs1 z).n.key),ints .u8 ((nod cs1 z).n.sg),ints .u8 ((nod cs1 z).n.pa),#[.slice ((nod cs1 z).a) ((nod cs1 z).n.ms.length) ((nod cs1 z).c)]] 1 kj 0 _ rfl) kj) ?_
   refine Qay (.int .i64 vv) 35 rfl (Qan l 1 _) rfl kj ((Qbo 68 (.tmp 32) (.tmp 34) (kt:=3) (et:=3) (n:=nmz cs1 z) (z:=.int .i64 0) rfl kj kj kj kj hmp kj).trans (by rw [hvv])) ?_
   refine Qay (.int .i64 (IntKind.i64.wrap (vv+1))) 36 rfl (Qan l 1 _) rfl kj kj ?_
   refine QkB (.tmp 32) (.tmp 34) (.tmp 36) 68 (kt:=3) (et:=3) (n:=nmz cs1 z) (v:=.int .i64 (IntKind.i64.wrap (vv+1))) rfl kj kj kj kj kj hmp hq rfl (Qan l 1 _) rfl kj fun W1 p1 hm2=>?_
   have x1:Ext w W1:=Puts.ext p1 xx bgm
   refine Qba ?_
   repeat (first | with_reducible refine goX1 ?_ | with_reducible refine goX2 ?_ | with_reducible refine goX3 ?_)
   have r501_1:=(MpAt.row hmp p1 q6 (MpAt.ne hmp q6))
   have r502_1:=(MpAt.row hmp p1 q7 (MpAt.ne hmp q7))
   exact ⟨(Qek p1 hgmK),Qck p1 hmp,⟨r501_1,r502_1,hst _ hm2,QaI.trans hkc (Qck p1 hmp)⟩,x1⟩
 ·skip
  obtain ⟨⟨q6,q7,hcn,hkc⟩,xx⟩:=hI
  subst hS
  obtain ⟨ms,hm1_,-,hm2⟩:=hcn
  rw [Qfo cs1 L (by omega),QfJ hasM1] at hm2
  have hm3:=hm2 (Nms.start Fm).1
  rw [hm3] at hm1_
  have hN1:=Nms.start Fm
  obtain ⟨ks1,hks1⟩:∃ z,z=QaT ts L:=⟨_,rfl⟩
  rw [←hks1] at hm1_ hN1
  have hbD1:w.heap.size≤D1:=qT x8.size lD1
  have hgD1:gm<D1:=qL hgmK lD1
  refine hK10 _ _ ?_
  refine Qhi fun K14 M14 hK14 hM14=>?_
  have hJ1:∀ (T1:List NdV) (aT1:Option Addr) (cT1:Nat) (ks1:List Int) (X:Env) (WJ1:World),chkT T1=true→T1.length≤63→(∀ i,i<T1.length→(ndi T1 i).n.ms.length≤32)→TrAt WJ1.heap.size WJ1 aT1 T1→Nms T1 ks1→MpAt gm ((ks1).map tmv) WJ1→WJ1.heap[g2]? = some (.cells (#[.bool false]) 4)→WJ1.heap[g9]? = some (.cells (#[.map (some gm)]) 68)→WJ1.heap[D1]? = some (.deferred (some []))→Ext w WJ1→K14 (Qar [Auto.mark D1] 106 ([(0,.slice aT1 T1.length cT1),(1,.int .i64 name),(2,.int .i64 gone),(6,.pointer (some ⟨g2,0,none⟩)),(7,.pointer (some ⟨g9,0,none⟩))]++X)) WJ1:=by
   intro T1 aT1 cT1 ks1 X14 WJ1 hc1 hl1 hm321 hT1 hN1 hmp1 q61 q71 rD1 xx1
   refine hK14 _ _ ?_
   have htl1:T1.length≤100000:=by omega
   have hmk1:∀ i,i<T1.length→(ndi T1 i).n.ms.length≤1000:=fun i hi=>qT (hm321 i hi) (by decide)
   have hm61:∀ i,i<T1.length→(ndi T1 i).n.ms.length≤1000000:=fun i hi=>qT (hm321 i hi) (by decide)
   have hm501:∀ i,i<T1.length→(ndi T1 i).n.ms.length≤50:=fun i hi=>qT (hm321 i hi) (by decide)
   obtain ⟨L1,F1,hr1⟩:=QbG htl1 hc1
   have hlen1:=F1.len
   refine wp_seq_k fun K15 hK15=>?_
   have hJ2:∀ (T2:List NdV) (aT2:Option Addr) (cT2:Nat) (ks2:List Int) (X:Env) (WJ2:World),chkT T2=true→T2.length≤63→(∀ i,i<T2.length→(ndi T2 i).n.ms.length≤32)→TrAt WJ2.heap.size WJ2 aT2 T2→Nms T2 ks2→MpAt gm ((ks2).map tmv) WJ2→WJ2.heap[g2]? = some (.cells (#[.bool false]) 4)→WJ2.heap[g9]? = some (.cells (#[.map (some gm)]) 68)→WJ2.heap[D1]? = some (.deferred (some []))→Ext w WJ2→K15 (Qar [Auto.mark D1] 106 ([(0,.slice aT2 T2.length cT2),(1,.int .i64 name),(2,.int .i64 gone),(6,.pointer (some ⟨g2,0,none⟩)),(7,.pointer (some ⟨g9,0,none⟩))]++X)) WJ2:=by
    intro T2 aT2 cT2 ks2 X15 WJ2 hc2 hl2 hm322 hT2 hN2 hmp2 q62 q72 rD2 xx2
    refine hK15 _ _ ?_
    have htl2:T2.length≤100000:=by omega
    have hmk2:∀ i,i<T2.length→(ndi T2 i).n.ms.length≤1000:=fun i hi=>qT (hm322 i hi) (by decide)
    have hm62:∀ i,i<T2.length→(ndi T2 i).n.ms.length≤1000000:=fun i hi=>qT (hm322 i hi) (by decide)
    have hm502:∀ i,i<T2.length→(ndi T2 i).n.ms.length≤50:=fun i hi=>qT (hm322 i hi) (by decide)
    obtain ⟨L2,F2,hr2⟩:=QbG htl2 hc2
    have hlen2:=F2.len
    refine wp_seq_k fun K16 hK16=>?_
    refine Qab ?_
    refine Qap (#[.int .i64 0]) 3 15 rfl kj kj fun g17 W12 l17 e12 r17_12=>?_
    have x12:Ext w W12:=Ext.tr xx2 e12
    have b17:w.heap.size≤g17:=qT xx2.size l17
    refine Qa5 g17 _ (#[.int .i64 0]) 3 r17_12 rfl kj (Qa4 3 _ _ g17 0 3 _ (.int .i64 0) r17_12 rfl kj kj kj kj kj rfl) fun W13 p13 r17_13=>?_
    have x13:Ext w W13:=Puts.ext p13 x12 b17
    refine Qae ?_
    refine hK16 _ _ ?_
    refine wp_seq_k fun K18 hK18=>?_
    refine wp_seq_k fun K19 hK19=>?_
    have n67:g2≠g9:=n67_
    refine Qab ?_
    refine Qaa (.slice aT2 T2.length cT2) 86 rfl kj kj ?_
    have y11_12:Ext WJ2 W12:=(Rely.Ext.trans (Rely.Ext.refl WJ2) e12)
    have y11_13:Ext WJ2 W13:=(Puts.ext p13 y11_12 l17)
    refine Qa7 (fun v W'=>(MemR T2 W13) v W'∧Ext W13 W') 19 #[.slice aT2 T2.length cT2] 87 rfl kj kj ((Qf8 T2 aT2 cT2 _ _ (TrAt.ext hT2 y11_13) htl2 hmk2 (TabAt.ext hT x13) hc2).mono (by rintro e w' ⟨v,rfl,e1,hv⟩; exact ⟨v,rfl,hv,e1⟩)) fun vv20 W14 hh20=>?_
    obtain ⟨hv20,e14⟩:=hh20
    have x14:Ext w W14:=Ext.tr x13 e14
    obtain ⟨cs2,gm2,aM2,cM2,hasM2,rfl,lm2,rm2,hOM2⟩:=hv20
    refine Qae ?_
    refine hK19 _ _ ?_
    refine wp_block ?_
    have y11_14:Ext WJ2 W14:=(Rely.Ext.trans y11_13 e14)
    have r2_12:=(Qah q62 e12)
    have r2_13:=(Puts.row p13 r2_12 (QaM q62 l17))
    have r2_14:=(Qah r2_13 e14)
    have r9_12:=(Qah q72 e12)
    have r9_13:=(Puts.row p13 r9_12 (QaM q72 l17))
    have r9_14:=(Qah r9_13 e14)
    have r17_14:=(Qah r17_13 e14)
    have r13_12:=(Qah rD2 e12)
    have r13_13:=(Puts.row p13 r13_12 (QcO r17_12 r13_12))
    have r13_14:=(Qah r13_13 e14)
    have mp_12:=(MpAt.ext hmp2 e12)
    have mp_13:=(MpAt.puts mp_12 p13 (Ne.symm (MpAt.ne mp_12 r17_12)))
    have mp_14:=(MpAt.ext mp_13 e14)
    have n15_6:g2≠g17:=(QaM q62 l17)
    have n15_7:g9≠g17:=(QaM q72 l17)
    have htM2:TrAt W14.heap.size W14 aM2 cs2:=hOM2.tr
    have hcl2:cs2.length=T2.length:=hasM2.1
    have hLc2:leaves ((cs2.length:Nat):Int)=((L2:Nat):Int):=by rw [hcl2]; exact Qcf F2.tr F2.len
    have hL32:L2≤32:=by have:=Qav F2.tr; omega
    have hgmK2:gm<W14.heap.size:=MpAt.lt mp_14
    have hDK2:D1<W14.heap.size:=QaB r13_14
    have h15K:g17<W14.heap.size:=QaB r17_14
    have hav2:AvT (fun g=>g∉[g17]) aM2 cs2:=(Qge hOM2).mono fun g hg hm=>by have h9:=QaB r17_13; rw [List.mem_singleton.1 hm] at hg; omega
    have hn2:gm2∉[g17]:=Qef (Nat.ne_of_gt (qL (QaB r17_13) lm2)) QcZ
    refine QdX (gf:=66) (lb:=#[.pointer (some ⟨gm2,0,none⟩)]) (enc:=fun z:Nat=>.int .i64 ((z:Nat):Int)) (enc2:=fun z:Nat=>.agg (cat (ndP (nod cs2 z)))) kj (enters_of Tryd.func66 kj rfl) (Qdb 2 [g17] gm2 cs2 aM2 cM2 W14.heap.size W14 htM2 (by omega) L2 hLc2 (by omega) hL32 rm2 hn2 hav2) (fun h k=>QaI.trans h k) QaI.book (Below.refl _ _)
      (fun pre W=>((W.heap[g2]? = some (.cells (#[.bool false]) 4))∧(W.heap[g9]? = some (.cells (#[.map (some gm)]) 68))∧(W.heap[g17]? = some (.cells (#[.int .i64 ((pre.length:Nat):Int)]) 3))∧MpAt gm ((ks2).map tmv) W∧W.heap[D1]? = some (.deferred (some []))∧QaI [g17] W14 W)∧Ext w W)
      (fun c pre W=>(c=.ret∧∃ q z,pre=q++[z]∧nmz cs2 z∉ks2)) (OwnFrom.and (fun s A B row hs hg hr=>⟨QaL hs.1 hg (fun r e=>(hr r e).2),QaL hs.2.1 hg (fun r e=>(hr r e).2),QaL hs.2.2.1 hg (fun r e=>(hr r e).2),MpAt.keep hs.2.2.2.1 (hg.block gm (MpAt.lt hs.2.2.2.1) (fun e=>absurd (hr gm e.symm).1 (Nat.not_le_of_lt hgmK2))),(hg.block D1 (QaB hs.2.2.2.2.1) (fun e=>absurd (hr D1 e.symm).1 (Nat.not_le_of_lt hDK2))).trans hs.2.2.2.2.1,Qel hs.2.2.2.2.2 hg (fun r e=>(hr r e).2)⟩) (ownFrom_below (qR _) x14.size)) (fun c s A B row hs _ _=>hs) ⟨⟨r2_14,r9_14,r17_14,mp_14,r13_14,QaI.refl _ _⟩,x14⟩ (fun e=>QaI.ext e) (fun pre A B h e=>⟨⟨Qah h.1.1 e,Qah h.1.2.1 e,Qah h.1.2.2.1 e,MpAt.ext h.1.2.2.2.1 e,Qah h.1.2.2.2.2.1 e,QaI.trans h.1.2.2.2.2.2 (QaI.ext e)⟩,Rely.Ext.trans h.2 e⟩) (fun pre W h=>h.1.2.2.2.2.2.1) (fun z g=>[(17,.pointer (some ⟨g,0,none⟩)),(89,.agg (cat [#[.bool (nod cs2 z).n.us],#[.int .i64 ((nod cs2 z).n.nm)],ints .u8 ((nod cs2 z).n.key),ints .u8 ((nod cs2 z).n.sg),ints .u8 ((nod cs2 z).n.pa),#[.slice ((nod cs2 z).a) ((nod cs2 z).n.ms.length) ((nod cs2 z).c)]])),(88,.int .i64 ((z:Nat):Int))]) (fun z=>(cat [#[.bool (nod cs2 z).n.us],#[.int .i64 ((nod cs2 z).n.nm)],ints .u8 ((nod cs2 z).n.key),ints .u8 ((nod cs2 z).n.sg),ints .u8 ((nod cs2 z).n.pa),#[.slice ((nod cs2 z).a) ((nod cs2 z).n.ms.length) ((nod cs2 z).c)]])) 41 (fun l z W K hK=>?_) (fun l pre z gP Wr hgP hI rP hp=>?_) (fun D2 ys WB lD2 hS hI rD2=>?_) (fun D2 c pre WB lD2 hSp hIx rD2=>?_)
    ·skip
     refine Qa1 ?_
     refine Qff (cat [#[.bool false],#[.int .i64 0],ints .u8 (List.replicate 32 0),ints .u8 (List.replicate 32 0),ints .u8 (List.replicate 32 0),#[.slice none 0 0]]) 41 17 rfl (Qan l 1 _) rfl kj kj fun g301 W1 l301 e1 r301_1=>?_
     have x1:Ext W W1:=Ext.tr (Rely.Ext.refl W) e1
     have b301:W.heap.size≤g301:=qT (Rely.Ext.refl W).size l301
     refine QbJ g301 _ (cat [#[.bool (nod cs2 z).n.us],#[.int .i64 ((nod cs2 z).n.nm)],ints .u8 ((nod cs2 z).n.key),ints .u8 ((nod cs2 z).n.sg),ints .u8 ((nod cs2 z).n.pa),#[.slice ((nod cs2 z).a) ((nod cs2 z).n.ms.length) ((nod cs2 z).c)]]) 41 r301_1 rfl (Qan l 1 _) rfl kj (QaE 41 _ _ g301 41 _ _ r301_1 rfl kj kj (isz (n:=99) kj (by rw [Qac,Qac,Qac,Qac,Qac,Qac]; simp only [qS,cat,((Qaf _ _).trans (Qb1 htM2 z).1.gl),((Qaf _ _).trans (Qb1 htM2 z).1.kl),((Qaf _ _).trans (Qb1 htM2 z).1.pl)]; rfl)) (eqsz (n:=99) (by rw [Qac,Qac,Qac,Qac,Qac,Qac]; simp only [qS,cat,((Qaf _ _).trans (qZ (n:=32)))]; rfl) (by rw [Qac,Qac,Qac,Qac,Qac,Qac]; simp only [qS,cat,((Qaf _ _).trans (Qb1 htM2 z).1.gl),((Qaf _ _).trans (Qb1 htM2 z).1.kl),((Qaf _ _).trans (Qb1 htM2 z).1.pl)]; rfl)) (Qbt _ (by intro a ha; simp only [List.mem_cons,List.not_mem_nil,or_false] at ha; rcases ha with rfl | rfl | rfl | rfl | rfl | rfl; exact (Qa2 _ rfl); exact (Qa2 _ rfl); exact (Qa3 _ _); exact (Qa3 _ _); exact (Qa3 _ _); exact (Qa2 _ rfl)))) fun W2 p2 r301_2=>?_
     have x2:Ext W W2:=Puts.ext p2 x1 b301
     refine Qba ?_
     have y0_1:Ext W W1:=(Rely.Ext.trans (Rely.Ext.refl W) e1)
     have y0_2:Ext W W2:=(Puts.ext p2 y0_1 l301)
     exact hK _ _ l301 y0_2 r301_2
    ·skip
     obtain ⟨⟨q6,q7,q15,hmq,rDq,hkc⟩,xx⟩:=hI
     have hp32:pre.length<32:=hp
     have htr:=TrAt.keepC htM2 hkc hav2
     obtain ⟨okz,rdz⟩:=Qb1 htr z
     have hl1:(pre++[z]).length=pre.length+1:=by simp
     refine wpIn_block ?_
     refine wpIn_seq_k fun K506 hK506=>?_
     by_cases hq:nmz cs2 z∈ks2
     ·skip
      refine Qa1 ?_
      refine Qay (.int .i64 ((pre.length:Nat):Int)) 90 rfl (Qan l 1 _) rfl kj (Qag 3 _ g17 0 3 _ (.int .i64 ((pre.length:Nat):Int)) _ q15 rfl kj kj kj) ?_
      refine Qay (.int .i64 ((pre.length+1:Nat):Int)) 91 rfl (Qan l 1 _) rfl kj (Qai (u:=.int .i64 (IntKind.i64.wrap (((pre.length:Nat):Int)+1))) kj (congrArg (Value.int .i64) (i64n _ _ (by omega) (by omega)))) ?_
      refine QbJ g17 _ (#[.int .i64 ((pre.length+1:Nat):Int)]) 3 q15 rfl (Qan l 1 _) rfl kj (Qa4 3 _ _ g17 0 3 _ (.int .i64 ((pre.length+1:Nat):Int)) q15 rfl kj kj kj kj kj rfl) fun W1 p1 r503_1=>?_
      have x1:Ext w W1:=Puts.ext p1 xx b17
      refine Qba ?_
      refine hK506 _ _ ?_
      refine wpIn_seq_k fun K507 hK507=>?_
      refine Qa1 ?_
      have r502_1:=(Puts.row p1 q7 n15_7)
      refine Qay (.map (some gm)) 92 rfl (Qan l 1 _) rfl kj (Qag 68 _ g9 0 68 _ (.map (some gm)) _ r502_1 rfl kj kj kj) ?_
      refine Qay (.pointer (some ⟨gP,1,none⟩)) 93 rfl (Qan l 1 _) rfl kj kj ?_
      have r504_1:=(Puts.row p1 rP (Nat.ne_of_gt (qL h15K hgP)))
      refine Qay (.int .i64 ((nod cs2 z).n.nm)) 94 rfl (Qan l 1 _) rfl kj (Qag 3 _ gP 1 41 _ (.int .i64 ((nod cs2 z).n.nm)) _ r504_1 rfl kj (Qak [#[.bool (nod cs2 z).n.us]] [#[.int .i64 ((nod cs2 z).n.nm)]] [ints .u8 ((nod cs2 z).n.key),ints .u8 ((nod cs2 z).n.sg),ints .u8 ((nod cs2 z).n.pa),#[.slice ((nod cs2 z).a) ((nod cs2 z).n.ms.length) ((nod cs2 z).c)]] 1 kj 0 _ rfl) kj) ?_
      have mp_1:=(MpAt.puts hmq p1 (Ne.symm (MpAt.ne hmq q15)))
      refine Qay (.int .i64 1) 95 rfl (Qan l 1 _) rfl kj ((Qbo 68 (.tmp 92) (.tmp 94) (kt:=3) (et:=3) (n:=nmz cs2 z) (z:=.int .i64 0) rfl kj kj kj kj mp_1 kj).trans (by rw [Qi8 hq])) ?_
      refine Qay (.bool false) 96 rfl (Qan l 1 _) rfl kj kj ?_
      refine Qba ?_
      refine hK507 _ _ ?_
      refine Qdd kj ?_
      refine wpIn_skip ?_
      repeat (first | with_reducible refine goX1 ?_ | with_reducible refine goX2 ?_ | with_reducible refine goX3 ?_)
      have hkq:QaI [g17] Wr W1:=QaI.keeps (QaQ.puts (QaQ.refl [g17] Wr) p1 (.inl (by simp)))
      have r501_1:=(Puts.row p1 q6 n15_6)
      have r505_1:=(Puts.row p1 rDq (QcO q15 rDq))
      exact ⟨(Qc8 p1 q15),hkq,⟨r501_1,r502_1,(by rw [hl1]; exact r503_1),mp_1,r505_1,QaI.trans hkc hkq⟩,x1⟩
     ·skip
      refine Qa1 ?_
      refine Qay (.int .i64 ((pre.length:Nat):Int)) 90 rfl (Qan l 1 _) rfl kj (Qag 3 _ g17 0 3 _ (.int .i64 ((pre.length:Nat):Int)) _ q15 rfl kj kj kj) ?_
      refine Qay (.int .i64 ((pre.length+1:Nat):Int)) 91 rfl (Qan l 1 _) rfl kj (Qai (u:=.int .i64 (IntKind.i64.wrap (((pre.length:Nat):Int)+1))) kj (congrArg (Value.int .i64) (i64n _ _ (by omega) (by omega)))) ?_
      refine QbJ g17 _ (#[.int .i64 ((pre.length+1:Nat):Int)]) 3 q15 rfl (Qan l 1 _) rfl kj (Qa4 3 _ _ g17 0 3 _ (.int .i64 ((pre.length+1:Nat):Int)) q15 rfl kj kj kj kj kj rfl) fun W1 p1 r503_1=>?_
      have x1:Ext w W1:=Puts.ext p1 xx b17
      refine Qba ?_
      refine hK506 _ _ ?_
      refine wpIn_seq_k fun K508 hK508=>?_
      refine Qa1 ?_
      have r502_1:=(Puts.row p1 q7 n15_7)
      refine Qay (.map (some gm)) 92 rfl (Qan l 1 _) rfl kj (Qag 68 _ g9 0 68 _ (.map (some gm)) _ r502_1 rfl kj kj kj) ?_
      refine Qay (.pointer (some ⟨gP,1,none⟩)) 93 rfl (Qan l 1 _) rfl kj kj ?_
      have r504_1:=(Puts.row p1 rP (Nat.ne_of_gt (qL h15K hgP)))
      refine Qay (.int .i64 ((nod cs2 z).n.nm)) 94 rfl (Qan l 1 _) rfl kj (Qag 3 _ gP 1 41 _ (.int .i64 ((nod cs2 z).n.nm)) _ r504_1 rfl kj (Qak [#[.bool (nod cs2 z).n.us]] [#[.int .i64 ((nod cs2 z).n.nm)]] [ints .u8 ((nod cs2 z).n.key),ints .u8 ((nod cs2 z).n.sg),ints .u8 ((nod cs2 z).n.pa),#[.slice ((nod cs2 z).a) ((nod cs2 z).n.ms.length) ((nod cs2 z).c)]] 1 kj 0 _ rfl) kj) ?_
      have mp_1:=(MpAt.puts hmq p1 (Ne.symm (MpAt.ne hmq q15)))
      refine Qay (.int .i64 0) 95 rfl (Qan l 1 _) rfl kj ((Qbo 68 (.tmp 92) (.tmp 94) (kt:=3) (et:=3) (n:=nmz cs2 z) (z:=.int .i64 0) rfl kj kj kj kj mp_1 kj).trans (by rw [Qfr hq])) ?_
      refine Qay (.bool true) 96 rfl (Qan l 1 _) rfl kj kj ?_
      refine Qba ?_
      refine hK508 _ _ ?_
      refine QfC kj ?_
      refine wpIn_seq_k fun K509 hK509=>?_
      refine Qa1 ?_
      have r501_1:=(Puts.row p1 q6 n15_6)
      refine QbJ g2 _ (#[.bool false]) 4 r501_1 rfl (Qan l 1 _) rfl kj (Qa4 4 _ _ g2 0 4 _ (.bool false) r501_1 rfl kj kj kj kj kj rfl) fun W2 p2 r501_2=>?_
      have x2:Ext w W2:=Puts.ext p2 x1 b2
      refine Qba ?_
      refine hK509 _ _ ?_
      refine wpIn_ret ?_
      repeat (first | with_reducible refine goR1 ?_ | with_reducible refine goR2 ?_)
      exact ⟨(KeepsFrom.trans (Qc8 p1 q15) (Qc8 p2 r501_1)),rfl,pre,z,rfl,hq⟩
    ·skip
     obtain ⟨⟨q6,q7,q15,hmq,rDq,hkc⟩,xx⟩:=hI
     subst hS
     have hcn:(QaD cs2 L2).length=ks2.length:=by rw [Qdl hasM2]; exact Nms.len F2 hN2
     rw [hcn] at q15
     have hbD2:w.heap.size≤D2:=qT x14.size lD2
     have hDD:D1≠D2:=Nat.ne_of_lt (qL hDK2 lD2)
     have hT9:TrAt _ WB aT2 T2:=TrAt.keepC (TrAt.ext hT2 y11_14) hkc (Qis hT2 (by intro g hg; rw [List.mem_singleton.1 hg]; exact (qT (qR _) l17)))
     refine hK18 _ _ ?_
     refine wp_seq_k fun K22 hK22=>?_
     refine Qab ?_
     refine Qaa (.int .i64 ((ks2.length:Nat):Int)) 97 rfl kj (Qag 3 _ g17 0 3 _ (.int .i64 ((ks2.length:Nat):Int)) _ q15 rfl kj kj kj) ?_
     refine Qaa (.map (some gm)) 98 rfl kj (Qag 68 _ g9 0 68 _ (.map (some gm)) _ q7 rfl kj kj kj) ?_
     refine Qaa (.int .i64 (((ks2.map tmv).length:Nat):Int)) 99 rfl kj (QiG (.tmp 98) 68 (kt:=3) (et:=3) rfl kj kj hmq) ?_
     refine Qaa (.bool true) 100 rfl kj (Qai (u:=.bool ((((ks2.length:Nat):Int)==(((ks2.map tmv).length:Nat):Int)))) kj (congrArg Value.bool (beq_iff_eq.2 (by rw [List.length_map])))) ?_
     refine Qaa (.bool true) 101 rfl kj kj ?_
     refine Qaa (.slice aT2 T2.length cT2) 102 rfl kj kj ?_
     refine Qal (.nilIface) 11 #[.slice aT2 T2.length cT2] 103 rfl kj kj (Qca T2 aT2 cT2 _ _ (TrAt.ext hT9 (Rely.Ext.refl WB)) htl2 hm62 (TabAt.ext hT xx) hc2) fun W16 e16=>?_
     have x16:Ext w W16:=Ext.tr xx e16
     refine Qaa (.bool true) 104 rfl kj kj ?_
     refine Qaa (.bool true) 105 rfl kj kj ?_
     have r2_16:=(Qah q6 e16)
     refine Qa5 g2 _ (#[.bool true]) 4 r2_16 rfl kj (Qa4 4 _ _ g2 0 4 _ (.bool true) r2_16 rfl kj kj kj kj kj rfl) fun W17 p17 r2_17=>?_
     have x17:Ext w W17:=Puts.ext p17 x16 b2
     refine Qae ?_
     refine hK22 _ _ ?_
     refine wp_ret ?_
     have r21_16:=(Qah rD2 e16)
     have r21_17:=(Puts.row p17 r21_16 (QcO q6 rD2))
     have r13_16:=(Qah rDq e16)
     have r13_17:=(Puts.row p17 r13_16 (QcO q6 rDq))
     exact (show bodyPostM _ _ _ _ _ .ret _ _ from Qll (.bool true) rfl r21_17 ((World.putObj_heap_other hDD).trans r13_17) (Qbp g2 4 _ (.bool true) (Qcu (Qcu r2_17 r21_17 _) ((World.putObj_heap_other hDD).trans r13_17) _) kj kj rfl) ⟨rfl,QbI (QbI x17 hbD2 r21_17 _) hbD1 ((World.putObj_heap_other hDD).trans r13_17) _⟩)
    ·obtain ⟨rfl,q,z,rfl,hbad⟩:=hIx
     obtain ⟨k0,hk0,hus0,e0⟩:=hSp
     obtain ⟨rfl,e1⟩:=List.append_inj' e0 rfl
     obtain rfl:z=k0:=by simpa using e1
     refine absurd ((hN2.2 _).2 ⟨z,by omega,by rw [←hasM2.all]; exact hus0,?_⟩) hbad
     rw [←hasM2.all]; unfold nmz; rw [Qf4 (by omega)]
   clear hK15
   refine wp_seq_k fun K23 hK23=>?_
   rcases Qko T1 (by omega) hm501 (QaG T1 gone) with ⟨bb,hb,hA⟩ | ⟨R,hFN,hA⟩
   ·skip
    refine Qab ?_
    refine Qaa (.slice aT1 T1.length cT1) 64 rfl kj kj ?_
    refine Qaa (.slice aT1 T1.length cT1) 65 rfl kj kj ?_
    refine Qaa (.int .i64 gone) 66 rfl kj kj ?_
    refine Qal (.int .i64 (QaG T1 gone)) 18 #[.slice aT1 T1.length cT1,.int .i64 gone] 67 rfl kj kj (Qjt T1 aT1 cT1 _ _ (TrAt.ext hT1 (Rely.Ext.refl WJ1)) htl1 hm61 (TabAt.ext hT xx1) gone _ hc1 rfl) fun W11 e11=>?_
    have x11:Ext w W11:=Ext.tr xx1 e11
    have y10_11:Ext WJ1 W11:=(Rely.Ext.trans (Rely.Ext.refl WJ1) e11)
    refine Qal (.tuple #[.slice none 0 0,.iface 30 (.int .i64 bb)]) 29 #[.slice aT1 T1.length cT1,.int .i64 (QaG T1 gone)] 68 rfl kj kj (hA.1 T1 aT1 cT1 _ _ (AsC.refl T1) (TrAt.ext hT1 y10_11) (TabAt.ext hT x11)) fun W12 e12=>?_
    have x12:Ext w W12:=Ext.tr x11 e12
    refine Qaa (.tuple #[.slice none 0 0,.iface 30 (.int .i64 bb)]) 63 rfl kj kj ?_
    refine Qaa (.slice none 0 0) 69 rfl kj kj ?_
    refine Qaa (.iface 30 (.int .i64 bb)) 70 rfl kj kj ?_
    refine Qaa (.slice none 0 0) 13 rfl kj kj ?_
    refine Qaa (.iface 30 (.int .i64 bb)) 14 rfl kj kj ?_
    refine Qae ?_
    refine hK23 _ _ ?_
    refine wp_seq_k fun K24 hK24=>?_
    refine Qab ?_
    refine Qaa (.iface 30 (.int .i64 bb)) 71 rfl kj kj ?_
    refine Qaa (.bool false) 72 rfl kj kj ?_
    refine Qae ?_
    refine hK24 _ _ ?_
    refine cond_false kj ?_
    refine wp_skip ?_
    have y10_12:Ext WJ1 W12:=(Rely.Ext.trans y10_11 e12)
    have mp_11:=(MpAt.ext hmp1 e11)
    have mp_12:=(MpAt.ext mp_11 e12)
    have r2_11:=(Qah q61 e11)
    have r2_12:=(Qah r2_11 e12)
    have r9_11:=(Qah q71 e11)
    have r9_12:=(Qah r9_11 e12)
    have r13_11:=(Qah rD1 e11)
    have r13_12:=(Qah r13_11 e12)
    exact QdJ (K:=K15) [(0,.slice aT1 T1.length cT1),(1,.int .i64 name),(2,.int .i64 gone),(6,.pointer (some ⟨g2,0,none⟩)),(7,.pointer (some ⟨g9,0,none⟩))] (hJ2 T1 aT1 cT1 (ks1) _ _ hc1 hl1 hm321 (TrAt.ext hT1 y10_12).here hN1 mp_12 r2_12 r9_12 r13_12 x12) ⟨rfl,rfl,rfl,rfl,rfl,trivial⟩
   ·skip
    refine Qab ?_
    refine Qaa (.slice aT1 T1.length cT1) 64 rfl kj kj ?_
    refine Qaa (.slice aT1 T1.length cT1) 65 rfl kj kj ?_
    refine Qaa (.int .i64 gone) 66 rfl kj kj ?_
    refine Qal (.int .i64 (QaG T1 gone)) 18 #[.slice aT1 T1.length cT1,.int .i64 gone] 67 rfl kj kj (Qjt T1 aT1 cT1 _ _ (TrAt.ext hT1 (Rely.Ext.refl WJ1)) htl1 hm61 (TabAt.ext hT xx1) gone _ hc1 rfl) fun W11 e11=>?_
    have x11:Ext w W11:=Ext.tr xx1 e11
    have y10_11:Ext WJ1 W11:=(Rely.Ext.trans (Rely.Ext.refl WJ1) e11)
    refine Qa7 (fun v W'=>(fun v W9=>∃ rs,AsC rs R∧∃ u,v=.tuple #[u,.nilIface]∧FrT W11.heap.size rs u W9) v W'∧Ext W11 W') 29 #[.slice aT1 T1.length cT1,.int .i64 (QaG T1 gone)] 68 rfl kj kj ((hA.1 T1 aT1 cT1 _ W11 (AsC.refl T1) (TrAt.ext hT1 y10_11) (TabAt.ext hT x11)).mono (by rintro e w' ⟨v,rfl,e1,hv⟩; exact ⟨v,rfl,hv,e1⟩)) fun vv25 W12 hh25=>?_
    obtain ⟨hv25,e12⟩:=hh25
    have x12:Ext w W12:=Ext.tr x11 e12
    obtain ⟨rs,hrs,ur,rfl,hfr⟩:=hv25
    obtain ⟨a_r,c_r,rfl,htr,-⟩:=FrT.parts hfr
    obtain ⟨hrl,hrm,hrc⟩:=Qgr hrs hFN.1
    obtain ⟨m,hfm0,hum,hnmR⟩:=hFN.2
    have hgn:=(Qii hfm0).2.1
    have hml:=(Qii hfm0).2.2
    rw [hgn] at hnmR
    have hN9:Nms rs (ks1.filter (· != gone)):=(Nms.rem hN1 hnmR).c hrs
    have hgk:gone∈ks1:=(hN1.2 _).2 ⟨m,hml,hum,hgn⟩
    have hrl5:rs.length≤100000:=by omega
    have hrm6:∀ i,i<rs.length→(ndi rs i).n.ms.length≤1000000:=fun i hi=>qT (hrm i hi) (by decide)
    have hfm:QaG rs gone=-1:=by rw [Qdy hrs]; exact Qjd fun q=>((hnmR gone).1 q).2 rfl
    refine Qaa (.tuple #[.slice a_r rs.length c_r,.nilIface]) 63 rfl kj kj ?_
    refine Qaa (.slice a_r rs.length c_r) 69 rfl kj kj ?_
    refine Qaa (.nilIface) 70 rfl kj kj ?_
    refine Qaa (.slice a_r rs.length c_r) 13 rfl kj kj ?_
    refine Qaa (.nilIface) 14 rfl kj kj ?_
    refine Qae ?_
    refine hK23 _ _ ?_
    refine wp_seq_k fun K26 hK26=>?_
    refine Qab ?_
    refine Qaa (.nilIface) 71 rfl kj kj ?_
    refine Qaa (.bool true) 72 rfl kj kj ?_
    refine Qae ?_
    refine hK26 _ _ ?_
    refine cond_true kj ?_
    refine wp_seq_k fun K27 hK27=>?_
    refine wp_seq_k fun K28 hK28=>?_
    refine Qab ?_
    refine Qaa (.slice a_r rs.length c_r) 73 rfl kj kj ?_
    refine Qaa (.int .i64 gone) 74 rfl kj kj ?_
    refine Qal (.int .i64 (-1)) 18 #[.slice a_r rs.length c_r,.int .i64 gone] 75 rfl kj kj (Qjt rs a_r c_r _ _ (TrAt.ext htr (Rely.Ext.refl W12)) hrl5 hrm6 (TabAt.ext hT x12) gone _ hrc hfm) fun W13 e13=>?_
    have x13:Ext w W13:=Ext.tr x12 e13
    refine Qaa (.bool false) 76 rfl kj kj ?_
    refine Qaa (.bool false) 77 rfl kj kj ?_
    have r9_11:=(Qah q71 e11)
    have r9_12:=(Qah r9_11 e12)
    have r9_13:=(Qah r9_12 e13)
    refine Qaa (.map (some gm)) 78 rfl kj (Qag 68 _ g9 0 68 _ (.map (some gm)) _ r9_13 rfl kj kj kj) ?_
    refine Qaa (.int .i64 gone) 79 rfl kj kj ?_
    have mp_11:=(MpAt.ext hmp1 e11)
    have mp_12:=(MpAt.ext mp_11 e12)
    have mp_13:=(MpAt.ext mp_12 e13)
    refine Qaa (.int .i64 1) 80 rfl kj ((Qbo 68 (.tmp 78) (.tmp 79) (kt:=3) (et:=3) (n:=gone) (z:=.int .i64 0) rfl kj kj kj kj mp_13 kj).trans (by rw [Qi8 hgk])) ?_
    refine Qaa (.bool false) 81 rfl kj kj ?_
    refine Qaa (.bool false) 82 rfl kj kj ?_
    refine Qae ?_
    refine hK28 _ _ ?_
    refine cond_false kj ?_
    refine wp_skip ?_
    refine hK27 _ _ ?_
    refine wp_seq_k fun K29 hK29=>?_
    refine Qab ?_
    refine Qaa (.map (some gm)) 83 rfl kj (Qag 68 _ g9 0 68 _ (.map (some gm)) _ r9_13 rfl kj kj kj) ?_
    refine Qaa (.int .i64 gone) 84 rfl kj kj ?_
    refine QiE (n:=gone) (.tmp 83) (.tmp 84) 68 (kt:=3) (et:=3) rfl kj kj kj kj mp_13 rfl kj fun W14 p14 hm14=>?_
    rw [Qhd] at hm14
    have x14:Ext w W14:=Puts.ext p14 x13 bgm
    refine Qae ?_
    refine hK29 _ _ ?_
    refine Qab ?_
    refine Qaa (.slice a_r rs.length c_r) 85 rfl kj kj ?_
    refine Qaa (.slice a_r rs.length c_r) 0 rfl kj kj ?_
    refine Qae ?_
    have r2_11:=(Qah q61 e11)
    have r2_12:=(Qah r2_11 e12)
    have r2_13:=(Qah r2_12 e13)
    have r2_14:=(MpAt.row mp_13 p14 r2_13 (MpAt.ne mp_13 r2_13))
    have r9_14:=(MpAt.row mp_13 p14 r9_13 (MpAt.ne mp_13 r9_13))
    have r13_11:=(Qah rD1 e11)
    have r13_12:=(Qah r13_11 e12)
    have r13_13:=(Qah r13_12 e13)
    have r13_14:=(MpAt.row mp_13 p14 r13_13 (Nat.ne_of_gt hgD1))
    exact QdJ (K:=K15) [(0,.slice a_r rs.length c_r),(1,.int .i64 name),(2,.int .i64 gone),(6,.pointer (some ⟨g2,0,none⟩)),(7,.pointer (some ⟨g9,0,none⟩))] (hJ2 rs a_r c_r (ks1.filter (· != gone)) _ _ hrc hrl hrm ((TrAt.keepC (TrAt.ext htr e13) (Qck (gs:=[]) p14 mp_13) (Qes _ _))).here hN9 hm14 r2_14 r9_14 r13_14 x14) ⟨rfl,rfl,rfl,rfl,rfl,trivial⟩
  clear hK14
  have hl63:ts.length≤63:=Fm.small.1
  have hm32:∀ i,i<ts.length→(ndi ts i).n.ms.length≤32:=fun i hi=>(Fm.small.2 i hi).2
  rcases QkV ts (by omega) (fun i hi=>(hs i hi).2) (lf name) (QfW name) (show ([]:List Int).length≤50 by decide) with ⟨bb,hb,hA⟩ | ⟨m,R,hFN,hA⟩
  ·skip
   refine Qab ?_
   refine Qaa (.slice a_t ts.length c_t) 38 rfl kj kj ?_
   refine Qaa (.int .i64 name) 39 rfl kj kj ?_
   refine Qaa (.agg (cat [#[.bool true],#[.int .i64 name],ints .u8 (List.replicate 32 0),ints .u8 (List.replicate 32 0),ints .u8 (List.replicate 32 0),#[.slice none 0 0]])) 40 rfl kj kj ?_
   refine Qal (.tuple #[.slice none 0 0,.int .i64 0,.iface 30 (.int .i64 bb)]) 25 #[.slice a_t ts.length c_t,.agg (cat [#[.bool true],#[.int .i64 name],ints .u8 (List.replicate 32 0),ints .u8 (List.replicate 32 0),ints .u8 (List.replicate 32 0),#[.slice none 0 0]])] 41 rfl kj kj (hA.1 ts a_t c_t _ _ (AsC.refl ts) (TrAt.ext ht xx) (TabAt.ext hT xx) ⟨⟨0,QcW 0 _⟩⟩) fun W10 e10=>?_
   have x10:Ext w W10:=Ext.tr xx e10
   refine Qaa (.tuple #[.slice none 0 0,.int .i64 0,.iface 30 (.int .i64 bb)]) 37 rfl kj kj ?_
   refine Qaa (.slice none 0 0) 42 rfl kj kj ?_
   refine Qaa (.int .i64 0) 43 rfl kj kj ?_
   refine Qaa (.iface 30 (.int .i64 bb)) 44 rfl kj kj ?_
   refine Qaa (.slice none 0 0) 10 rfl kj kj ?_
   refine Qaa (.int .i64 0) 11 rfl kj kj ?_
   refine Qaa (.iface 30 (.int .i64 bb)) 12 rfl kj kj ?_
   refine Qae ?_
   refine hM14 _ _ ?_
   refine wp_seq_k fun K30 hK30=>?_
   refine Qab ?_
   refine Qaa (.iface 30 (.int .i64 bb)) 45 rfl kj kj ?_
   refine Qaa (.bool false) 46 rfl kj kj ?_
   refine Qae ?_
   refine hK30 _ _ ?_
   refine cond_false kj ?_
   refine wp_skip ?_
   have mp_10:=(MpAt.ext hm1_ e10)
   have r2_10:=(Qah q6 e10)
   have r9_10:=(Qah q7 e10)
   have r13_10:=(Qah rD1 e10)
   exact QdJ (K:=K14) [(0,.slice a_t ts.length c_t),(1,.int .i64 name),(2,.int .i64 gone),(6,.pointer (some ⟨g2,0,none⟩)),(7,.pointer (some ⟨g9,0,none⟩))] (hJ1 ts a_t c_t (ks1) _ _ hc hl63 hm32 (TrAt.ext ht x10).here hN1 mp_10 r2_10 r9_10 r13_10 x10) ⟨rfl,rfl,rfl,rfl,rfl,trivial⟩
  ·skip
   refine Qab ?_
   refine Qaa (.slice a_t ts.length c_t) 38 rfl kj kj ?_
   refine Qaa (.int .i64 name) 39 rfl kj kj ?_
   refine Qaa (.agg (cat [#[.bool true],#[.int .i64 name],ints .u8 (List.replicate 32 0),ints .u8 (List.replicate 32 0),ints .u8 (List.replicate 32 0),#[.slice none 0 0]])) 40 rfl kj kj ?_
   refine Qa7 (fun v W'=>(fun v W9=>∃ rs,AsC rs R∧∃ u,v=.tuple #[u,.int .i64 ((m:Nat):Int),.nilIface]∧FrT WA.heap.size rs u W9) v W'∧Ext WA W') 25 #[.slice a_t ts.length c_t,.agg (cat [#[.bool true],#[.int .i64 name],ints .u8 (List.replicate 32 0),ints .u8 (List.replicate 32 0),ints .u8 (List.replicate 32 0),#[.slice none 0 0]])] 41 rfl kj kj ((hA.1 ts a_t c_t _ WA (AsC.refl ts) (TrAt.ext ht xx) (TabAt.ext hT xx) ⟨⟨0,QcW 0 _⟩⟩).mono (by rintro e w' ⟨v,rfl,e1,hv⟩; exact ⟨v,rfl,hv,e1⟩)) fun vv31 W10 hh31=>?_
   obtain ⟨hv31,e10⟩:=hh31
   have x10:Ext w W10:=Ext.tr xx e10
   obtain ⟨rs,hrs,ur,rfl,hfr⟩:=hv31
   obtain ⟨a_r,c_r,rfl,htr,-⟩:=FrT.parts hfr
   obtain ⟨hrl,hrm,hrc⟩:=Qgr hrs hFN.1
   have hN9:Nms rs (ks1++[name]):=(Nms.add hN1 hFN.2).c hrs
   have hnk:name∉ks1:=fun q=>hFN.2.2.1 ((hN1.2 _).1 q)
   have hrl5:rs.length≤100000:=by omega
   have hrm6:∀ i,i<rs.length→(ndi rs i).n.ms.length≤1000000:=fun i hi=>qT (hrm i hi) (by decide)
   have hfm:QaG rs name=((m:Nat):Int):=by
    obtain ⟨L9,F9,-⟩:=QbG hrl5 hrc
    exact Qje F9 (by rw [hrs.1]; exact hFN.2.2.2.1) (by rw [hrs.all]; exact hFN.2.2.2.2.1) (by rw [hrs.all]; exact hFN.2.2.2.2.2)
   refine Qaa (.tuple #[.slice a_r rs.length c_r,.int .i64 ((m:Nat):Int),.nilIface]) 37 rfl kj kj ?_
   refine Qaa (.slice a_r rs.length c_r) 42 rfl kj kj ?_
   refine Qaa (.int .i64 ((m:Nat):Int)) 43 rfl kj kj ?_
   refine Qaa (.nilIface) 44 rfl kj kj ?_
   refine Qaa (.slice a_r rs.length c_r) 10 rfl kj kj ?_
   refine Qaa (.int .i64 ((m:Nat):Int)) 11 rfl kj kj ?_
   refine Qaa (.nilIface) 12 rfl kj kj ?_
   refine Qae ?_
   refine hM14 _ _ ?_
   refine wp_seq_k fun K32 hK32=>?_
   refine Qab ?_
   refine Qaa (.nilIface) 45 rfl kj kj ?_
   refine Qaa (.bool true) 46 rfl kj kj ?_
   refine Qae ?_
   refine hK32 _ _ ?_
   refine cond_true kj ?_
   refine wp_seq_k fun K33 hK33=>?_
   refine wp_seq_k fun K34 hK34=>?_
   refine Qab ?_
   refine Qaa (.slice a_r rs.length c_r) 47 rfl kj kj ?_
   refine Qaa (.int .i64 name) 48 rfl kj kj ?_
   refine Qal (.int .i64 ((m:Nat):Int)) 18 #[.slice a_r rs.length c_r,.int .i64 name] 49 rfl kj kj (Qjt rs a_r c_r _ _ (TrAt.ext htr (Rely.Ext.refl W10)) hrl5 hrm6 (TabAt.ext hT x10) name _ hrc hfm) fun W11 e11=>?_
   have x11:Ext w W11:=Ext.tr x10 e11
   refine Qaa (.int .i64 ((m:Nat):Int)) 50 rfl kj kj ?_
   refine Qaa (.bool false) 51 rfl kj (Qai (u:=.bool ((((m:Nat):Int) != ((m:Nat):Int)))) kj (congrArg Value.bool (bne_self_eq_false _))) ?_
   refine Qaa (.bool false) 52 rfl kj kj ?_
   have r9_10:=(Qah q7 e10)
   have r9_11:=(Qah r9_10 e11)
   refine Qaa (.map (some gm)) 53 rfl kj (Qag 68 _ g9 0 68 _ (.map (some gm)) _ r9_11 rfl kj kj kj) ?_
   refine Qaa (.int .i64 name) 54 rfl kj kj ?_
   have mp_10:=(MpAt.ext hm1_ e10)
   have mp_11:=(MpAt.ext mp_10 e11)
   refine Qaa (.int .i64 0) 55 rfl kj ((Qbo 68 (.tmp 53) (.tmp 54) (kt:=3) (et:=3) (n:=name) (z:=.int .i64 0) rfl kj kj kj kj mp_11 kj).trans (by rw [Qfr hnk])) ?_
   refine Qaa (.bool false) 56 rfl kj kj ?_
   refine Qaa (.bool false) 57 rfl kj kj ?_
   refine Qae ?_
   refine hK34 _ _ ?_
   refine cond_false kj ?_
   refine wp_skip ?_
   refine hK33 _ _ ?_
   refine wp_seq_k fun K35 hK35=>?_
   refine Qab ?_
   refine Qaa (.map (some gm)) 58 rfl kj (Qag 68 _ g9 0 68 _ (.map (some gm)) _ r9_11 rfl kj kj kj) ?_
   refine Qaa (.int .i64 name) 59 rfl kj kj ?_
   refine Qaa (.int .i64 0) 60 rfl kj ((Qbo 68 (.tmp 58) (.tmp 59) (kt:=3) (et:=3) (n:=name) (z:=.int .i64 0) rfl kj kj kj kj mp_11 kj).trans (by rw [Qfr hnk])) ?_
   refine Qaa (.int .i64 1) 61 rfl kj kj ?_
   refine Qfu (.tmp 58) (.tmp 59) (.tmp 61) 68 (kt:=3) (et:=3) (n:=name) rfl kj kj kj kj kj mp_11 hnk rfl kj fun W12 p12 hm12=>?_
   have x12:Ext w W12:=Puts.ext p12 x11 bgm
   refine Qae ?_
   refine hK35 _ _ ?_
   refine Qab ?_
   refine Qaa (.slice a_r rs.length c_r) 62 rfl kj kj ?_
   refine Qaa (.slice a_r rs.length c_r) 0 rfl kj kj ?_
   refine Qae ?_
   have r2_10:=(Qah q6 e10)
   have r2_11:=(Qah r2_10 e11)
   have r2_12:=(MpAt.row mp_11 p12 r2_11 (MpAt.ne mp_11 r2_11))
   have r9_12:=(MpAt.row mp_11 p12 r9_11 (MpAt.ne mp_11 r9_11))
   have r13_10:=(Qah rD1 e10)
   have r13_11:=(Qah r13_10 e11)
   have r13_12:=(MpAt.row mp_11 p12 r13_11 (Nat.ne_of_gt hgD1))
   exact QdJ (K:=K14) [(0,.slice a_r rs.length c_r),(1,.int .i64 name),(2,.int .i64 gone),(6,.pointer (some ⟨g2,0,none⟩)),(7,.pointer (some ⟨g9,0,none⟩))] (hJ1 rs a_r c_r (ks1++[name]) _ _ hrc hrl hrm ((TrAt.keepC (TrAt.ext htr e11) (Qck (gs:=[]) p12 mp_11) (Qes _ _))).here hN9 hm12 r2_12 r9_12 r13_12 x12) ⟨rfl,rfl,rfl,rfl,rfl,trivial⟩
 ·exact hIx.elim
theorem lawNames (ts : List NdV) (a_t:Option Addr) (c_t B1:Nat) (w:World) (ht:TrAt B1 w a_t ts) (hT:TabAt w) (name gone:Int):Calls Tryd.prog 8 #[.slice a_t ts.length c_t,.int .i64 name,.int .i64 gone] w (Ret w (.bool true)):=by
  by_cases hs:∀ i,i<ts.length→i≤70∧(ndi ts i).n.ms.length≤50
  case neg=>exact Ql2 ts a_t c_t B1 w ht hT name gone hs
  cases hc:chkT ts with
  | false=>exact Ql3 ts a_t c_t B1 w ht hT name gone hs hc
  | true=>exact Ql1 ts a_t c_t B1 w ht hT name gone hs hc
end Go.Proofs.YtcmaolmofgmkhaaDoor.Te
end
section
namespace Go.Proofs.YtcmaolmofgmkhaaDoor.Auto
open Go Go.RowKit Go.WideShapes
open Rely
section
variable {H : Type} {enc : TypeId × Value → H} {P : Program} {W w : World} {r : Reach} {base b0 : Nat} {sp : Nat → Bool} {held : Bool}
theorem open_raw {n : Nat} {t e:TypeId} {cs:List Value} {fuel:Nat} {x:DataW H×List MemPlace} (ht:P.underlying t=some (.array n e)) (he:P.underlying e=some (.int .u8)) (hce:P.cellsOf e=1) (hct:P.cellsOf t=n)
    (hf:DataW.trod enc P w b0 sp held fuel t cs=some x):∃ xs:List Int,cs=xs.map (Value.int .u8)∧xs.length=n∧Qb7 xs:=by
  obtain ⟨xs,m,-,-,hl,hn,hx⟩:=DataW.trod_array ht hf
  have hcs:cs.length=n:=by simpa [hct] using hl
  have each:∀ i,i<n→∃ z:Int,cs[i]? = some (.int .u8 z)∧(0≤z∧z≤255):=by
    intro i hi
    have h1:=hx i hi
    rw [hce,Nat.mul_one] at h1
    have hlt:i<cs.length:=by omega
    have h2:cs.drop i=cs[i]::cs.drop (i+1):=List.drop_eq_getElem_cons hlt
    have h1:DataW.trod enc P w b0 sp held m e ((cs.drop i).take 1)=xs[i]?:=h1
    rw [h2] at h1
    simp only [List.take_succ_cons,List.take_zero] at h1
    obtain ⟨y,hy⟩:∃ y,xs[i]? = some y:=⟨xs[i],by simp [hn,hi]⟩
    rw [hy] at h1
    obtain ⟨z,hc,-,hw⟩:=DataW.trod_int he h1
    refine ⟨z,?_,?_⟩
    · rw [List.getElem?_eq_getElem hlt]
      simp only [List.cons.injEq] at hc
      rw [hc.1]
    · simpa [Lit.wf,IntKind.min,IntKind.max,IntKind.signed,IntKind.bits] using hw
  have all:∀ (l:List Value),(∀ i,i<l.length→∃ z:Int,l[i]? = some (.int .u8 z)∧(0≤z∧z≤255))→∃ zs:List Int,l=zs.map (Value.int .u8)∧Qb7 zs:=by
    intro l
    induction l with
    | nil=>exact fun _=>⟨[],rfl,fun x hx=>by simp at hx⟩
    | cons a l ih =>
      intro h
      obtain ⟨zs,h1,h2⟩:=ih fun i hi=>by simpa using h (i+1) (by simp; omega)
      obtain ⟨z,h3,h4⟩:=h 0 (by simp)
      simp only [List.getElem?_cons_zero,Option.some.injEq] at h3
      refine ⟨z::zs,by rw [h3,h1]; rfl,fun x hx=>?_⟩
      rcases List.mem_cons.1 hx with e | e
      · rw [e]; exact h4
      · exact h2 x e
  obtain ⟨zs,h1,h2⟩:=all cs fun i hi=>each i (by omega)
  exact ⟨zs,h1,by rw [←hcs,h1,List.length_map],h2⟩
end
end Go.Proofs.YtcmaolmofgmkhaaDoor.Auto
end
section
namespace Go.Proofs.YtcmaolmofgmkhaaDoor.Auto
open Go Go.RowKit Go.WideShapes
open Rely
section
variable {H : Type} {enc : TypeId × Value → H} {P : Program} {W w : World} {r : Reach} {base b0 : Nat} {sp : Nat → Bool} {held : Bool}
theorem Qi5 {t : TypeId} {f0 f1 f2 f3 f4 f5:Field} {fuel:Nat} {cs:List Value} {x:DataW H×List MemPlace} (ht:P.underlying t=some (.struct #[f0,f1,f2,f3,f4,f5])) (h:DataW.trod enc P w b0 sp held fuel t cs=some x) :
    ∃ y0 y1 y2 y3 y4 y5 n,cs.length=P.cellsOf t∧DataW.trod enc P w b0 sp held n f0.type ((cs.drop f0.offset).take (P.cellsOf f0.type))=some y0∧DataW.trod enc P w b0 sp held n f1.type ((cs.drop f1.offset).take (P.cellsOf f1.type))=some y1∧DataW.trod enc P w b0 sp held n f2.type ((cs.drop f2.offset).take (P.cellsOf f2.type))=some y2∧DataW.trod enc P w b0 sp held n f3.type ((cs.drop f3.offset).take (P.cellsOf f3.type))=some y3∧DataW.trod enc P w b0 sp held n f4.type ((cs.drop f4.offset).take (P.cellsOf f4.type))=some y4∧DataW.trod enc P w b0 sp held n f5.type ((cs.drop f5.offset).take (P.cellsOf f5.type))=some y5:=by
  obtain ⟨xs,n,_,rfl,hl,hlen,hf⟩:=DataW.trod_struct ht h
  match xs,hlen with
  | [y0,y1,y2,y3,y4,y5],_=>exact ⟨y0,y1,y2,y3,y4,y5,n,hl,by simpa using hf 0 f0 rfl,by simpa using hf 1 f1 rfl,by simpa using hf 2 f2 rfl,by simpa using hf 3 f3 rfl,by simpa using hf 4 f4 rfl,by simpa using hf 5 f5 rfl⟩
theorem sub_st6 {t : TypeId} {f0 f1 f2 f3 f4 f5:Field} {fuel:Nat} {cs:List Value} {x:DataW H×List MemPlace} {n0 n1 n2 n3 n4 n5:Nat} (ht:P.underlying t=some (.struct #[f0,f1,f2,f3,f4,f5]))
    (ho:f0.offset=0∧f1.offset=n0∧f2.offset=n0+n1∧f3.offset=n0+n1+n2∧f4.offset=n0+n1+n2+n3∧f5.offset=n0+n1+n2+n3+n4) (hc:P.cellsOf f0.type=n0∧P.cellsOf f1.type=n1∧P.cellsOf f2.type=n2∧P.cellsOf f3.type=n3∧P.cellsOf f4.type=n4∧P.cellsOf f5.type=n5) (hC:P.cellsOf t=n0+n1+n2+n3+n4+n5) (h:DataW.trod enc P w b0 sp held fuel t cs=some x) :
    ∃ (X0 X1 X2 X3 X4 X5:List Value) (y0 y1 y2 y3 y4 y5:DataW H×List MemPlace) (n:Nat),cs=X0++X1++X2++X3++X4++X5∧DataW.trod enc P w b0 sp held n f0.type X0=some y0∧DataW.trod enc P w b0 sp held n f1.type X1=some y1∧DataW.trod enc P w b0 sp held n f2.type X2=some y2∧DataW.trod enc P w b0 sp held n f3.type X3=some y3∧DataW.trod enc P w b0 sp held n f4.type X4=some y4∧DataW.trod enc P w b0 sp held n f5.type X5=some y5:=by
  obtain ⟨y0,y1,y2,y3,y4,y5,n,hl,h0,h1,h2,h3,h4,h5⟩:=Qi5 ht h
  obtain ⟨o0,o1,o2,o3,o4,o5⟩:=ho
  obtain ⟨c0,c1,c2,c3,c4,c5⟩:=hc
  rw [o0,c0] at h0
  rw [o1,c1] at h1
  rw [o2,c2] at h2
  rw [o3,c3] at h3
  rw [o4,c4] at h4
  rw [o5,c5] at h5
  refine ⟨_,_,_,_,_,_,y0,y1,y2,y3,y4,y5,n,?_,h0,h1,h2,h3,h4,h5⟩
  rw [hC] at hl
  simp only [List.drop_zero]
  have e1:cs.take (n0)++(cs.drop (n0)).take n1=cs.take (n0+n1):=by rw [List.take_add (i:=n0)]
  have e2:cs.take (n0+n1)++(cs.drop (n0+n1)).take n2=cs.take (n0+n1+n2):=by rw [List.take_add (i:=n0+n1)]
  have e3:cs.take (n0+n1+n2)++(cs.drop (n0+n1+n2)).take n3=cs.take (n0+n1+n2+n3):=by rw [List.take_add (i:=n0+n1+n2)]
  have e4:cs.take (n0+n1+n2+n3)++(cs.drop (n0+n1+n2+n3)).take n4=cs.take (n0+n1+n2+n3+n4):=by rw [List.take_add (i:=n0+n1+n2+n3)]
  have e5:cs.take (n0+n1+n2+n3+n4)++(cs.drop (n0+n1+n2+n3+n4)).take n5=cs.take (n0+n1+n2+n3+n4+n5):=by rw [List.take_add (i:=n0+n1+n2+n3+n4)]
  rw [e1,e2,e3,e4,e5,List.take_of_length_le (by omega)]
end
end Go.Proofs.YtcmaolmofgmkhaaDoor.Auto
end
section
namespace Go.Proofs.YtcmaolmofgmkhaaDoor.Auto
open Go Go.RowKit
open Rely
end Go.Proofs.YtcmaolmofgmkhaaDoor.Auto
end
section
namespace Go.Proofs.YtcmaolmofgmkhaaDoor.Te
open Go Go.RowKit
open Rely Auto Own Sha
open Go.WideShapes Go.ChangeShapes Go.ChangeAt Go.Deep
open Go.Proofs.YtcmaolmofgmkhaaDoor
section
variable {H : Type} {enc : TypeId × Value → H} {P : Program} {w : World} {b0 : Nat} {held : Bool}
theorem Qjs (x : Addr) (i j:Nat):(x.add i).add j=x.add (i+j):=by
  by_cases hi:i=0 <;> by_cases hj:j=0 <;> simp [Addr.add,hi,hj,Nat.add_assoc]
theorem open_tree {t s e5 e3:TypeId} {f0 f1 f2 f3 f4 f5:Field} {ad:Option Addr} {len cap:Nat} {d:DataW H} {p:List MemPlace} (hs:P.underlying t=some (.slice s)) (hss:P.underlying s=some (.struct #[f0,f1,f2,f3,f4,f5]))
    (ho:f0.offset=0∧f1.offset=1∧f2.offset=1+1∧f3.offset=1+1+32∧f4.offset=1+1+32+32∧f5.offset=1+1+32+32+32) (hc:P.cellsOf f0.type=1∧P.cellsOf f1.type=1∧P.cellsOf f2.type=32∧P.cellsOf f3.type=32∧P.cellsOf f4.type=32∧P.cellsOf f5.type=1) (hC:P.cellsOf s=1+1+32+32+32+1)
    (h0:P.underlying f0.type=some .bool) (h1:P.underlying f1.type=some (.int .i64)) (h2:P.underlying f2.type=some (.array 32 e5)) (h3:P.underlying f3.type=some (.array 32 e5)) (h4:P.underlying f4.type=some (.array 32 e5)) (h5:P.underlying f5.type=some (.slice e3))
    (he5:P.underlying e5=some (.int .u8)) (hc5:P.cellsOf e5=1) (he3:P.underlying e3=some (.int .i64)) (hc3:P.cellsOf e3=1)
    (h:DataW.Trod enc P w b0 (fun _=>true) held t (.slice ad len cap) d p) :
    ∃ ts:List NdV,ts.length=len∧TrAt w.heap.size w ad ts∧∀ n∈ts,NdOk n.n:=by
  obtain ⟨fuel,hf⟩:=h
  rcases DataW.trod_slice hs hf with ⟨hcs',-⟩ | ⟨x,l,c,elems,rest,n,-,hcs',-,hb,hl,hmx,hlen,hel,-,-⟩
  · simp [Value.cells] at hcs'
    obtain ⟨rfl,rfl,rfl⟩:=hcs'
    exact ⟨[],rfl,⟨0,0,fun h=>absurd h (by decide),fun i hi=>absurd hi (Nat.not_lt_zero _)⟩,fun n hn=>by cases hn⟩
  · simp [Value.cells] at hcs'
    obtain ⟨rfl,rfl,rfl⟩:=hcs'
    have key:∀ i,i<len→∃ n:NdV,(∀ j u,(cat (ndP n))[j]? = some u→w.cell? (x.add (i*99+j))=some u)∧RdK .i64 w.heap.size n.n.ms (.slice n.a n.n.ms.length n.c) w∧NdOk n.n:=fun i hi=>by
      have h9:=hel i hi
      rw [hC,List.getElem?_eq_getElem (by omega)] at h9
      obtain ⟨cs,hc1,hc2⟩:=Option.bind_eq_some_iff.1 h9
      obtain ⟨hn,q1,q2⟩:=World.cells?_some hc1
      obtain ⟨X0,X1,X2,X3,X4,X5,y0,y1,y2,y3,y4,y5,m,hcs,t0,t1,t2,t3,t4,t5⟩:=Auto.sub_st6 hss ho hc hC hc2
      obtain ⟨us,rfl,-⟩:=DataW.trod_bool h0 t0
      obtain ⟨nm,rfl,-,-⟩:=DataW.trod_int h1 t1
      obtain ⟨key,rfl,hkl,hkb⟩:=Auto.open_raw h2 he5 hc5 hc.2.2.1 t2
      obtain ⟨sg,rfl,hgl,hgb⟩:=Auto.open_raw h3 he5 hc5 hc.2.2.2.1 t3
      obtain ⟨pa,rfl,hpl,hpb⟩:=Auto.open_raw h4 he5 hc5 hc.2.2.2.2.1 t4
      have fin:∀ (a:Option Addr) (ms:List Int) (c:Nat),X5=[.slice a ms.length c]→RdK .i64 w.heap.size ms (.slice a ms.length c) w→∃ n:NdV,(∀ j u,(cat (ndP n))[j]? = some u→w.cell? (x.add (i*99+j))=some u)∧RdK .i64 w.heap.size n.n.ms (.slice n.a n.n.ms.length n.c) w∧NdOk n.n:=fun a ms c e r=>by
        refine ⟨⟨⟨us,nm,key,sg,pa,ms⟩,a,c⟩,fun j u hu=>?_,r,⟨hkl,hgl,hpl,hkb,hgb,hpb⟩⟩
        have e9:(cat (ndP ⟨⟨us,nm,key,sg,pa,ms⟩,a,c⟩)).toList=cs:=by
          rw [hcs,e]
          unfold ndP
          simp [cat,Rely.ints]
        rw [←Array.getElem?_toList,e9] at hu
        have hj:j<99:=by have:=(List.getElem?_eq_some_iff.1 hu).1; omega
        have:=q2 j hj
        rw [Qjs] at this
        rw [this]; exact hu
      rcases open_ints h5 he3 hc3 t5 with ⟨hcv,-⟩ | ⟨y,l,cc,zs,hcv,-,hl2,hm2,hz2,-,hcell,hwz⟩
      · exact fin none [] 0 hcv ⟨none,0,rfl,qR _,Nat.zero_le _,fun _=>rfl,.inl rfl⟩
      · obtain ⟨r,rl,rf⟩:=Auto.rdK_of_row (k:=.i64) (w:=w) (a:=some y) (len:=l) (cap:=cc) (zs:=zs) (.inr ⟨y,rfl,hl2,hm2,by simpa using hz2,hcell,hwz⟩)
        refine fin (some y) (zs.take l) cc (by rw [rl]; exact hcv) ?_
        rw [rl]; exact r
    rcases Nat.eq_zero_or_pos len with h0' | h0'
    · subst h0'
      exact ⟨[],rfl,⟨0,0,fun h=>absurd h (by decide),fun i hi=>absurd hi (Nat.not_lt_zero _)⟩,fun n hn=>by cases hn⟩
    obtain ⟨b,off,spot⟩:=x
    have first:∀ n:NdV,(cat (ndP n))[0]? = some (.bool n.n.us):=fun n=>by
      unfold ndP
      show (#[Value.bool n.n.us]++cat _)[0]? = _
      rw [Array.getElem?_append_left (show 0<1 by decide)]
      rfl
    obtain ⟨n0,hq,-⟩:=key 0 h0'
    have hq0:=hq 0 _ (first n0)
    have hspot:spot=none:=by simpa [Addr.add] using World.cell?_spot hq0
    subst hspot
    rw [WideShapes.add_plain] at hq0
    have hlt:b<w.heap.size:=Qdt hq0
    have all:∀ m,m≤len→∃ ts:List NdV,ts.length=m∧∀ i,i<m→NdAt w.heap.size w b (off+i*99) (ndi ts i):=by
      intro m
      induction m with
      | zero=>exact fun _=>⟨[],rfl,fun i hi=>absurd hi (Nat.not_lt_zero _)⟩
      | succ m ih =>
        intro hm
        obtain ⟨ts,htl,hts⟩:=ih (by omega)
        obtain ⟨n,k1,k2,k3⟩:=key m (by omega)
        refine ⟨ts++[n],by rw [List.length_append,htl]; rfl,fun i hi=>?_⟩
        have e:ndi (ts++[n]) i=if i<m then ndi ts i else n:=by
          unfold ndi
          rw [List.getD_eq_getElem?_getD,List.getD_eq_getElem?_getD]
          split
          · rename_i h; rw [List.getElem?_append_left (by omega)]
          · rename_i h
            rw [List.getElem?_append_right (by omega),show i-ts.length=0 by omega]; rfl
        rw [e]
        split
        · rename_i h; exact hts i h
        · rename_i h
          obtain rfl:i=m:=by omega
          exact ⟨hlt,hlt,fun j u hu=>by have:=k1 j u hu; rw [WideShapes.add_plain] at this; rw [Nat.add_assoc]; exact this,k2,k3⟩
    obtain ⟨ts,htl,hts⟩:=all len (qR _)
    refine ⟨ts,htl,⟨b,off,fun _=>rfl,fun i hi=>hts i (by omega)⟩,fun n hn=>?_⟩
    obtain ⟨i,hi,e⟩:=List.mem_iff_getElem.1 hn
    have:=(hts i (by omega)).ok
    unfold ndi at this
    rw [List.getD_eq_getElem?_getD,List.getElem?_eq_getElem hi] at this
    rw [←e]; exact this
end
end Go.Proofs.YtcmaolmofgmkhaaDoor.Te
end
