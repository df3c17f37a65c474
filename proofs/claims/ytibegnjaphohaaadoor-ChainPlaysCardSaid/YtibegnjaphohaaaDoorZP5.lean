/- Texts of this claim, joined (P5). -/
import Derived.Test.YtibegnjaphohaaaDoorZP4
import Derived.Lib.SmallJoins
import Derived.Lib.LaidTab
import Derived.Deep.Strs

set_option linter.unusedVariables false
set_option linter.unusedSimpArgs false
set_option maxHeartbeats 4000000
section
namespace Go.Proofs.YtibegnjaphohaaaDoor.Cn
open Go Go.RowKit
open Rely Auto Own Sha
open Go.Proofs.YtibegnjaphohaaaDoor
open Wk
theorem lawPlays (sec : List Int) (hsl:sec.length=32) (hsb:Qat sec) (x:Int) (os:List Int) (m:Nat) (a_o:Option Addr) (c_o:Nat) (tc tq:TypeId) (w:World) (hc:w.heap[2]? = some (.cells (ints .u64 QaN) tc)) (hq:w.heap[1]? = some (.cells (ints .u64 Qam) tq)) (hT:Seat.TabAt w) (hop:QmZ os m a_o w):Calls Tryd.prog 3 #[.agg (ints .u8 sec),.int .i64 x,.slice a_o m c_o] w (Ret w (.bool true)):=by
 refine enter 252 [(0,.agg (ints .u8 (sec))),(1,.int .i64 x),(2,.slice a_o m c_o)] Tryd.func3 rfl rfl kj rfl <| sgC fun K3 hK3=>Qap (ints .u8 (sec)) 23 3 rfl kj kj fun g4 W1 l4 e1 r4_1=>?_
 have x1:=Ext.tr (Rely.Ext.refl w) e1
 have b4:=qT (Rely.Ext.refl w).size l4
 refine sg 1 kj <| sgN hK3 <| wp_seq_k fun K5 hK5=>sgC fun K6 hK6=>?_
 have r1_1:=(Qac hc e1)
 have r2_1:=(Qac hq e1)
 refine Qar (.bool true) 8 #[] 25 rfl kj kj (Qmg tc tq _ r1_1 r2_1 (hT.ext x1)) fun W2 e2=>?_
 have x2:=Ext.tr x1 e2
 refine sg 1 kj <| sgN hK6 <| cond_false kj <| wp_skip <| hK5 _ _ <| wp_seq_k fun K7 hK7=>sgB kj <| Qa3 (t:=decide (((m:Nat):Int)>30)) kj (fun c9=>?_) (fun c9=>?_)
 ·skip
  refine sgB kj <| wp_ret ?_
  repeat (first | with_reducible refine goR1 ?_ | with_reducible refine goR2 ?_)
  exact (show bodyPost _ _ _ .ret _ _ from ret1 (.bool true) rfl (Qa2 kj) ⟨rfl,x2⟩)
 ·skip
  have hm30:m≤30:=by have:=of_decide_eq_false c9; omega
  refine wp_skip <| hK7 _ _ <| sgC fun K11 hK11=>?_
  have r4_2:=(Qac r4_1 e2)
  refine Qab (.agg (ints .u8 (sec))) 30 rfl kj (Qaq 23 _ g4 23 _ _ r4_2 rfl kj kj (isz (n:=32) kj ((Qad _ _).trans hsl))) <| sg 1 kj <| Qa6 (fun v W'=>(NewF sec x W2) v W'∧Ext W2 W') 9 #[.agg (ints .u8 (sec)),.int .i64 x] 32 rfl kj kj ((newG sec hsl hsb x tc tq _ (Qac r1_1 e2) (Qac r2_1 e2) (hT.ext x2)).mono (by rintro e w' ⟨v,rfl,e1,hv⟩; exact ⟨v,rfl,hv,e1⟩)) fun vv12 W3 hh12=>?_
  obtain ⟨hv12,e3⟩:=hh12
  have x3:=Ext.tr x2 e3
  obtain ⟨gc,gl,la,cap,lp,fs0,rfl,lgc,hrow,hsub,hfs,hf32,hcs⟩:=hv12
  obtain ⟨nl,hnl⟩:∃ z,z=fs0.length:=⟨_,rfl⟩
  have hca0:ChAt W2.heap.size gc gl la cap nl lp fs0 0 W3:=⟨by rw [hnl]; exact hrow,fun h=>hsub (by omega),hfs,hnl.symm⟩
  refine sg 1 kj <| sgN hK11 <| wp_seq_k fun K13 hK13=>sgB kj <| cond_false kj <| wp_skip <| hK13 _ _ <| sgC fun K15 hK15=>?_
  have r4_3:=(Qac r4_2 e3)
  have hb_g4:g4<W3.heap.size:=Qay r4_3
  refine QcN (.cells #[] 34) (fun g=>.slice (some ⟨g,0,none⟩) 0 0) 35 rfl kj kj fun gn35 W4 ln35 e4 rn35=>sg 1 kj <| sgN hK15 <| wp_seq_k fun K16 hK16=>sgB kj <| wp_block <| QaC (fun (s1:Nat×Value)=>[(1,.int .i64 x),(2,.slice a_o m c_o),(3,.pointer (some ⟨g4,0,none⟩)),(7,.pointer (some ⟨gc,0,none⟩)),(8,s1.2),(9,.int .i64 ((s1.1:Nat):Int))]) (fun (s1:Nat×Value) W=>(s1.1≤fs0.length)∧(W.ownsRow W3.heap.size 34 36 s1.2 s1.1 ((fs0.take s1.1).flatMap lnC))∧(Below W3.heap.size W4 W)∧(Ext w W)) (fun (s1:Nat×Value)=>fs0.length-s1.1) (0,(.slice (some ⟨gn35,0,none⟩) 0 0)) ⟨kj,kj,kj,kj,kj,kj,trivial⟩ ⟨(Nat.zero_le _),(QgO ln35 rn35),(RowKit.Below.refl _ W4),(Ext.tr x3 e4)⟩ fun s1 X1 V1 hI1=>?_
  obtain ⟨i,u⟩:=s1
  obtain ⟨hi,hu,kk1,xx1⟩:=hI1
  replace hi:i≤fs0.length:=hi
  replace hu:V1.ownsRow W3.heap.size 34 36 u i ((fs0.take i).flatMap lnC):=hu
  replace kk1:Below W3.heap.size W4 V1:=kk1
  replace xx1:Ext w V1:=xx1
  have l5:=kk1
  refine wp_seq_k fun K18 hK18=>?_
  rcases (show i<fs0.length∨¬ i<fs0.length by omega) with hlt | hge
  ·skip
   obtain ⟨hxt,z,hz5,hxz,hfz,hln⟩:Seat.isTree x=true∧∃ z,z≤5∧x=((2^z:Nat):Int)∧fs0.length=2^z∧∀ i,i<2^z→lnP (fs0.getD i lf0)=[ints .u8 (Qbk sec z i),#[.int .i64 0],#[.slice none 0 0],#[.slice none 0 0],#[.int .i64 0]]:=by
    rcases hcs with ⟨-,h9⟩ | h9
    ·omega
    ·exact h9
   refine wp_seq_k fun K19 hK19=>?_
   skip
   ·skip
    refine Qaf <| sg 2 kj <| Qab (.bool true) 38 rfl kj (Qai (u:=.bool (decide (((i:Nat):Int)<x))) kj (congrArg Value.bool (decide_eq_true (by omega)))) <| sg 2 kj <| Qa6 (fun v W'=>v=.bool true∧V1=W') 10 #[.int .i64 x] 41 rfl kj kj ((Qk7 hxt _).mono fun e w' h=>⟨_,h.1,rfl,h.2⟩) fun v20 W20 h20=>?_
    obtain ⟨rfl,rfl⟩:=h20
    refine sg 1 kj <| sgN hK19 <| cond_true kj <| wp_skip <| hK18 _ _ <| wp_seq_k fun K21 hK21=>wp_block <| Qaf <| sg 1 kj <| Qab (.agg (ints .u8 (sec))) 46 rfl kj (Qaq 23 _ g4 23 _ _ (QaS l5 (Qac r4_3 e4) hb_g4) rfl kj kj (isz (n:=32) kj ((Qad _ _).trans hsl))) ?_
    refine sg 2 kj <| Qar (.agg (ints .u8 (Qbk sec z i))) 11 #[.agg (ints .u8 (sec)),.int .i64 x,.int .i64 ((i:Nat):Int)] 49 rfl kj kj ((fun W=>Qn7 sec hsl hsb x z hz5 hxz i (by omega) W) _) fun W6 e6=>Qab (.agg (cat [ints .u8 (Qbk sec z i),#[.int .i64 0],#[.slice none 0 0],#[.slice none 0 0],#[.int .i64 0]])) 50 rfl kj (Qfk 34 _ (.agg (cat [ints .u8 (List.replicate 32 0),#[.int .i64 0],#[.slice none 0 0],#[.slice none 0 0],#[.int .i64 0]])) #[(0,32),(32,1),(33,1),(34,1),(35,1)] (cat [ints .u8 (Qbk sec z i),#[.int .i64 0],#[.slice none 0 0],#[.slice none 0 0],#[.int .i64 0]]) _ [(0,.agg (ints .u8 (Qbk sec z i)))] rfl kj rfl (QlS (fun i=>(#[(0,32),(32,1),(33,1),(34,1),(35,1)]:Array (Nat×Nat))[i]?) rfl (Qbk sec z i) (QeI hsl z i)) kj kj kj) <| QcN (.cells (cat [ints .u8 (Qbk sec z i),#[.int .i64 0],#[.slice none 0 0],#[.slice none 0 0],#[.int .i64 0]]) 34) (fun g=>.slice (some ⟨g,0,none⟩) 1 1) 51 rfl kj (QgK 28 34 36 _ (.agg (cat [ints .u8 (Qbk sec z i),#[.int .i64 0],#[.slice none 0 0],#[.slice none 0 0],#[.int .i64 0]])) rfl kj kj kj kj (by have h9:=QdF (fs0.getD i lf0) (Qh9 hca0.ok _ (Qcd fs0 lf0 i hlt)); rw [hln i (by omega)] at h9; exact h9) (by decide) (by decide)) fun gn51 W7 ln51 e7 rn51=>?_
    have x7:=Ext.tr (Ext.tr xx1 e6) e7
    have y3_4:=(Rely.Ext.trans (Rely.Ext.refl W3) e4)
    have y3_5:=(Ext.low y3_4 l5 (Rely.Ext.refl W3).size)
    have y3_6:=(Rely.Ext.trans y3_5 e6)
    have hln1:W7.ownsRow 0 34 36 (.slice (some ⟨gn51,0,none⟩) 1 1) 1 (lnC (fs0.getD i lf0)):=by
     have h9:=QdF (fs0.getD i lf0) (Qh9 hca0.ok _ (Qcd fs0 lf0 i hlt))
     unfold lnC
     rw [hln i (by omega)] at h9 ⊢
     exact QfD (Nat.zero_le _) rn51 h9
    refine Qdo 96 (.tmp 45) (.tmp 51) 28 rfl kj kj (by decide) (by decide) 52 rfl kj kj kj (QaR (QaR hu e6) e7) hln1 (Ql4 _) (by omega) (Rely.Ext.trans y3_6 e7).size fun u52 W8 hu52 l8 rt8=>?_
    have x8:=Ext.low x7 l8 x3.size
    have hu2:W8.ownsRow W3.heap.size 34 36 u52 (i+1) ((fs0.take (i+1)).flatMap lnC):=by
     rw [Qe7 fs0 lf0 i hlt,List.flatMap_append]
     simpa using hu52
    refine sg 1 kj <| Qak <| hK21 _ _ <| Qaf <| sg 1 kj <| Qab (.int .i64 ((i+1:Nat):Int)) 44 rfl kj (Qai (u:=.int .i64 (IntKind.i64.wrap (((i:Nat):Int)+1))) kj (congrArg (Value.int .i64) (i64n _ _ (by omega) (by omega)))) <| sg 1 kj <| Qak ?_
    repeat (first | with_reducible refine goX1 ?_ | with_reducible refine goX2 ?_ | with_reducible refine goX3 ?_)
    exact Qa4 ((i+1),u52) ⟨kj,kj,kj,kj,kj,kj,trivial⟩ ⟨(by omega),hu2,(RowKit.Below.trans (RowKit.Below.trans (RowKit.Below.trans l5 (RowKit.Below.mono e6 y3_5.size)) (RowKit.Below.mono e7 y3_6.size)) l8),x8⟩ (by show fs0.length-(i+1)<fs0.length-i; omega)
  ·skip
   have hie:i=fs0.length:=by omega
   refine wp_seq_k fun K22 hK22=>?_
   have hJ22:∀ X:Env,K22 (Qa0 [] 252 ([(2,.slice a_o m c_o),(7,.pointer (some ⟨gc,0,none⟩)),(8,u),(42,.bool false)]++X)) V1:=by
    intro X22
    refine hK22 _ _ <| cond_false kj <| wp_exit <| hK16 _ _ <| wp_seq_k fun K23 hK23=>wp_seq_k fun K24 hK24=>?_
    skip
    ·skip
     have y3_4:=(Rely.Ext.trans (Rely.Ext.refl W3) e4)
     have y3_5:=(Ext.low y3_4 l5 (Rely.Ext.refl W3).size)
     have hli0:V1.ownsRow W2.heap.size 34 36 u nl (fs0.flatMap lnC):=by
      have h9:=Qex hu (Rely.Ext.trans (Rely.Ext.refl W2) e3).size
      rw [hie,List.take_length,←hnl] at h9
      exact h9
     obtain ⟨ua,uc,rfl⟩:=Qhs hli0
     have hca1:=ChAt.ext hca0 y3_5 (qR 0)
     obtain ⟨go,oo,hoa,hoc⟩:=hop
     refine sgA kj <| hK24 _ _ <| wp_block <| QaC (fun (s2:Nat×List Lf)=>[(7,.pointer (some ⟨gc,0,none⟩)),(8,.slice ua nl uc),(53,.slice a_o m c_o),(54,.int .i64 ((m:Nat):Int)),(55,.int .i64 ((s2.1:Nat):Int))]) (fun (s2:Nat×List Lf) W=>(s2.1≤m)∧(ChAt W2.heap.size gc gl la cap nl lp s2.2 s2.1 W)∧(W.ownsRow W2.heap.size 34 36 (.slice ua nl uc) nl (s2.2.flatMap lnC))∧(Ext w W)) (fun (s2:Nat×List Lf)=>m-s2.1) (0,fs0) ⟨kj,kj,kj,kj,kj,trivial⟩ ⟨(Nat.zero_le _),hca1,hli0,xx1⟩ fun s2 X2 V2 hI2=>?_
     obtain ⟨r,fs⟩:=s2
     obtain ⟨hr,hca,hli,xx2⟩:=hI2
     replace hr:r≤m:=hr
     replace hca:ChAt W2.heap.size gc gl la cap nl lp fs r V2:=hca
     replace hli:V2.ownsRow W2.heap.size 34 36 (.slice ua nl uc) nl (fs.flatMap lnC):=hli
     replace xx2:Ext w V2:=xx2
     refine sgB kj <| wp_seq_k fun K26 hK26=>Qa3 (t:=decide (((r:Nat):Int)<((m:Nat):Int))) kj (fun c27=>?_) (fun c27=>?_)
     ·skip
      have hlt56:r<m:=by have:=of_decide_eq_true c27; omega
      obtain ⟨hoa2,hog⟩:=hoa (by omega)
      refine wp_skip <| hK26 _ _ <| wp_seq_k fun K28 hK28=>wp_block <| sgC fun K29 hK29=>Qab (.pointer (some ⟨go,oo+r*3,none⟩)) 57 rfl kj (Qb4 24 _ _ .i64 r go oo m c_o 36 3 a_o hoa2 rfl kj kj kj kj hlt56) ?_
      obtain ⟨kd,hkd⟩:∃ z,z=nth os (r*3+0):=⟨_,rfl⟩
      obtain ⟨oi,hoi⟩:∃ z,z=nth os (r*3+1):=⟨_,rfl⟩
      obtain ⟨on,hon⟩:∃ z,z=nth os (r*3+2):=⟨_,rfl⟩
      refine Qab (.agg (cat [#[.int .i64 kd],#[.int .i64 oi],#[.int .i64 on]])) 58 rfl kj (by rw [hkd,hoi,hon]; exact Qd2 36 _ go (oo+r*3) 3 _ (.int .i64 (nth os (r*3+0))) rfl rfl (Qlu xx2 hog hoc hlt56) rfl kj kj kj) ?_
      clear hkd hoi hon
      refine Qap (cat [#[.int .i64 0],#[.int .i64 0],#[.int .i64 0]]) 36 11 rfl kj kj fun g30 W7 l30 e7 r30_7=>?_
      have x7:=Ext.tr xx2 e7
      refine Qaj g30 _ (cat [#[.int .i64 kd],#[.int .i64 oi],#[.int .i64 on]]) 36 r30_7 rfl kj (Qal 36 _ _ g30 36 _ _ r30_7 rfl kj kj (isz (n:=3) kj kj) (eqsz (n:=3) kj kj) kj) fun W8 p8 r30_8=>?_
      have x8:=Puts.ext p8 x7 (qT xx2.size l30)
      refine sgN hK29 <| wp_seq_k fun K31 hK31=>?_
      rcases (show (oi<0∨((nl:Nat):Int)≤oi)∨(0≤oi∧oi<((nl:Nat):Int)) by omega) with hno | hyes
      ·skip
       refine wp_seq_k fun K32 hK32=>?_
       have hJ32:∀ X:Env,K32 (Qa0 [] 252 ([(7,.pointer (some ⟨gc,0,none⟩)),(8,.slice ua nl uc),(11,.pointer (some ⟨g30,0,none⟩)),(53,.slice a_o m c_o),(54,.int .i64 ((m:Nat):Int)),(55,.int .i64 ((r:Nat):Int)),(68,.bool true)]++X)) W8:=by
        intro X32
        refine hK32 _ _ <| cond_true kj <| sgC fun K33 hK33=>sg 2 kj <| Qab (.int .i64 oi) 72 rfl kj (Qag 3 _ g30 1 36 _ (.int .i64 oi) _ r30_8 rfl kj kj kj) ?_
        have y6_7:=(Rely.Ext.trans (Rely.Ext.refl V2) e7)
        have y6_8:=(Puts.ext p8 y6_7 l30)
        refine Qar (.tuple #[.agg (cat [#[.int .i64 0],ints .u8 (List.replicate 32 0),#[.slice none 0 0]]),.iface 47 (.int .i64 9)]) 12 #[.pointer (some ⟨gc,0,none⟩),.int .i64 oi] 73 rfl kj kj (Qm2 gc la nl cap _ (Qac hca.row y6_8) oi hno) fun W9 e9=>?_
        have x9:=Ext.tr x8 e9
        refine sg 3 kj <| Qap (cat [#[.int .i64 0],ints .u8 (List.replicate 32 0),#[.slice none 0 0]]) 40 12 rfl kj kj fun g34 W10 l34 e10 r34_10=>?_
        have x10:=Ext.tr x9 e10
        refine Qaj g34 _ (cat [#[.int .i64 0],ints .u8 (List.replicate 32 0),#[.slice none 0 0]]) 40 r34_10 rfl kj (Qal 40 _ _ g34 40 _ _ r34_10 rfl kj kj (isz (n:=34) kj (by rw [Qaa,Qaa,Qaa]; simp only [qS,cat,((Qad _ _).trans (List.length_replicate (n:=32)))]; rfl)) (eqsz (n:=34) (by rw [Qaa,Qaa,Qaa]; simp only [qS,cat,((Qad _ _).trans (List.length_replicate (n:=32)))]; rfl) (by rw [Qaa,Qaa,Qaa]; simp only [qS,cat,((Qad _ _).trans (List.length_replicate (n:=32)))]; rfl)) (QaD _ (by intro a ha; simp only [List.mem_cons,List.not_mem_nil,or_false] at ha; rcases ha with rfl | rfl | rfl; exact (Qan _ rfl); exact (Qau _ _); exact (Qan _ rfl)))) fun W11 p11 r34_11=>?_
        have x11:=Puts.ext p11 x10 (qT x9.size l34)
        refine sg 1 kj <| sgN hK33 <| sgC fun K35 hK35=>sg 2 kj ?_
        have r30_9:=(Qac r30_8 e9)
        have r30_10:=(Qac r30_9 e10)
        have r30_11:=(Puts.row p11 r30_10 (Qae r30_9 l34))
        refine Qab (.int .i64 oi) 79 rfl kj (Qag 3 _ g30 1 36 _ (.int .i64 oi) _ r30_11 rfl kj kj kj) <| sg 1 kj <| Qab (.int .i64 on) 81 rfl kj (Qag 3 _ g30 2 36 _ (.int .i64 on) _ r30_11 rfl kj kj kj) ?_
        have y6_9:=(Rely.Ext.trans y6_8 e9)
        have y6_10:=(Rely.Ext.trans y6_9 e10)
        have y6_11:=(Puts.ext p11 y6_10 (qT y6_9.size l34))
        refine Qar (.tuple #[.agg (cat [#[.int .i64 0],ints .u8 (List.replicate 32 0),#[.slice none 0 0]]),.iface 47 (.int .i64 9)]) 13 #[.pointer (some ⟨gc,0,none⟩),.int .i64 oi,.int .i64 on] 82 rfl kj kj (Qms gc la nl cap _ (Qac hca.row y6_11) oi hno on) fun W12 e12=>?_
        have x12:=Ext.tr x11 e12
        refine sg 3 kj <| Qap (cat [#[.int .i64 0],ints .u8 (List.replicate 32 0),#[.slice none 0 0]]) 40 14 rfl kj kj fun g36 W13 l36 e13 r36_13=>?_
        have x13:=Ext.tr x12 e13
        refine Qaj g36 _ (cat [#[.int .i64 0],ints .u8 (List.replicate 32 0),#[.slice none 0 0]]) 40 r36_13 rfl kj (Qal 40 _ _ g36 40 _ _ r36_13 rfl kj kj (isz (n:=34) kj (by rw [Qaa,Qaa,Qaa]; simp only [qS,cat,((Qad _ _).trans (List.length_replicate (n:=32)))]; rfl)) (eqsz (n:=34) (by rw [Qaa,Qaa,Qaa]; simp only [qS,cat,((Qad _ _).trans (List.length_replicate (n:=32)))]; rfl) (by rw [Qaa,Qaa,Qaa]; simp only [qS,cat,((Qad _ _).trans (List.length_replicate (n:=32)))]; rfl)) (QaD _ (by intro a ha; simp only [List.mem_cons,List.not_mem_nil,or_false] at ha; rcases ha with rfl | rfl | rfl; exact (Qan _ rfl); exact (Qau _ _); exact (Qan _ rfl)))) fun W14 p14 r36_14=>?_
        have x14:=Puts.ext p14 x13 (qT x12.size l36)
        refine sg 1 kj <| sgN hK35 <| sgC fun K37 hK37=>sg 2 kj ?_
        have r30_12:=(Qac r30_11 e12)
        have r30_13:=(Qac r30_12 e13)
        have r30_14:=(Puts.row p14 r30_13 (Qae r30_12 l36))
        refine Qab (.int .i64 oi) 88 rfl kj (Qag 3 _ g30 1 36 _ (.int .i64 oi) _ r30_14 rfl kj kj kj) <| sg 1 kj <| Qab (.int .i64 on) 90 rfl kj (Qag 3 _ g30 2 36 _ (.int .i64 on) _ r30_14 rfl kj kj kj) ?_
        have y6_12:=(Rely.Ext.trans y6_11 e12)
        have y6_13:=(Rely.Ext.trans y6_12 e13)
        have y6_14:=(Puts.ext p14 y6_13 (qT y6_12.size l36))
        refine Qar (.tuple #[.agg (cat [#[.int .i64 0],ints .u8 (List.replicate 32 0),#[.slice none 0 0]]),.iface 47 (.int .i64 9)]) 14 #[.pointer (some ⟨gc,0,none⟩),.int .i64 oi,.int .i64 on] 91 rfl kj kj (Qm8 gc la nl cap _ (Qac hca.row y6_14) oi hno on) fun W15 e15=>?_
        have x15:=Ext.tr x14 e15
        refine sg 3 kj <| Qap (cat [#[.int .i64 0],ints .u8 (List.replicate 32 0),#[.slice none 0 0]]) 40 16 rfl kj kj fun g38 W16 l38 e16 r38_16=>?_
        have x16:=Ext.tr x15 e16
        refine Qaj g38 _ (cat [#[.int .i64 0],ints .u8 (List.replicate 32 0),#[.slice none 0 0]]) 40 r38_16 rfl kj (Qal 40 _ _ g38 40 _ _ r38_16 rfl kj kj (isz (n:=34) kj (by rw [Qaa,Qaa,Qaa]; simp only [qS,cat,((Qad _ _).trans (List.length_replicate (n:=32)))]; rfl)) (eqsz (n:=34) (by rw [Qaa,Qaa,Qaa]; simp only [qS,cat,((Qad _ _).trans (List.length_replicate (n:=32)))]; rfl) (by rw [Qaa,Qaa,Qaa]; simp only [qS,cat,((Qad _ _).trans (List.length_replicate (n:=32)))]; rfl)) (QaD _ (by intro a ha; simp only [List.mem_cons,List.not_mem_nil,or_false] at ha; rcases ha with rfl | rfl | rfl; exact (Qan _ rfl); exact (Qau _ _); exact (Qan _ rfl)))) fun W17 p17 r38_17=>?_
        have x17:=Puts.ext p17 x16 (qT x15.size l38)
        refine sg 1 kj <| sgN hK37 <| wp_seq_k fun K39 hK39=>sgC fun K40 hK40=>sg 1 kj <| Qar (.bool true) 15 #[.iface 47 (.int .i64 9),.int .i64 9] 95 rfl kj kj ((IsT 9 _ (Qcj (by decide))) _) fun W18 e18=>?_
        have x18:=Ext.tr x17 e18
        refine sg 3 kj <| Qar (.bool true) 15 #[.iface 47 (.int .i64 9),.int .i64 9] 99 rfl kj kj ((IsT 9 _ (Qcj (by decide))) _) fun W19 e19=>?_
        have x19:=Ext.tr x18 e19
        refine sg 4 kj <| Qar (.bool true) 15 #[.iface 47 (.int .i64 9),.int .i64 9] 104 rfl kj kj ((IsT 9 _ (Qcj (by decide))) _) fun W20 e20=>?_
        have x20:=Ext.tr x19 e20
        refine sg 5 kj ?_
        have r30_15:=(Qac r30_14 e15)
        have r30_16:=(Qac r30_15 e16)
        have r30_17:=(Puts.row p17 r30_16 (Qae r30_15 l38))
        have r30_18:=(Qac r30_17 e18)
        have r30_19:=(Qac r30_18 e19)
        have r30_20:=(Qac r30_19 e20)
        refine Qab (.int .i64 oi) 110 rfl kj (Qag 3 _ g30 1 36 _ (.int .i64 oi) _ r30_20 rfl kj kj kj) ?_
        have y6_15:=(Rely.Ext.trans y6_14 e15)
        have y6_16:=(Rely.Ext.trans y6_15 e16)
        have y6_17:=(Puts.ext p17 y6_16 (qT y6_15.size l38))
        have y6_18:=(Rely.Ext.trans y6_17 e18)
        have y6_19:=(Rely.Ext.trans y6_18 e19)
        have y6_20:=(Rely.Ext.trans y6_19 e20)
        refine Qar (.int .i64 (-1)) 16 #[.pointer (some ⟨gc,0,none⟩),.int .i64 oi] 111 rfl kj kj (Qli gc la nl cap _ (Qac hca.row y6_20) oi hno) fun W21 e21=>?_
        have x21:=Ext.tr x20 e21
        refine sg 5 kj ?_
        have r30_21:=(Qac r30_20 e21)
        refine Qab (.int .i64 oi) 117 rfl kj (Qag 3 _ g30 1 36 _ (.int .i64 oi) _ r30_21 rfl kj kj kj) ?_
        have y6_21:=(Rely.Ext.trans y6_20 e21)
        refine Qar (.int .i64 0) 17 #[.pointer (some ⟨gc,0,none⟩),.int .i64 oi] 118 rfl kj kj (QmL gc la nl cap _ (Qac hca.row y6_21) oi hno) fun W22 e22=>?_
        have x22:=Ext.tr x21 e22
        refine sg 5 kj ?_
        have r30_22:=(Qac r30_21 e22)
        refine Qab (.int .i64 oi) 124 rfl kj (Qag 3 _ g30 1 36 _ (.int .i64 oi) _ r30_22 rfl kj kj kj) <| sg 1 kj <| Qab (.int .i64 on) 126 rfl kj (Qag 3 _ g30 2 36 _ (.int .i64 on) _ r30_22 rfl kj kj kj) ?_
        have y6_22:=(Rely.Ext.trans y6_21 e22)
        refine Qar (.bool false) 18 #[.pointer (some ⟨gc,0,none⟩),.int .i64 oi,.int .i64 on] 127 rfl kj kj (QmG gc la nl cap _ (Qac hca.row y6_22) oi hno on) fun W23 e23=>?_
        have x23:=Ext.tr x22 e23
        refine sg 1 kj <| sgN hK40 <| cond_false kj <| wp_skip <| hK39 _ _ <| wp_exit <| hK28 _ _ <| Qaf <| Qab (.int .i64 ((r+1:Nat):Int)) 251 rfl kj (Qai (u:=.int .i64 (IntKind.i64.wrap (((r:Nat):Int)+1))) kj (congrArg (Value.int .i64) (i64n _ _ (by omega) (by omega)))) <| sg 1 kj ?_
        refine Qak ?_
        have y6_23:=(Rely.Ext.trans y6_22 e23)
        repeat (first | with_reducible refine goX1 ?_ | with_reducible refine goX2 ?_ | with_reducible refine goX3 ?_)
        exact Qa4 ((r+1),fs) ⟨kj,kj,kj,kj,kj,trivial⟩ ⟨(by omega),(ChAt.ext hca y6_23 (by omega)),(QaR hli y6_23),x23⟩ (by omega)
       rcases (show oi<0∨(¬ oi<0∧((nl:Nat):Int)≤oi) by omega) with hq | hq
       ·skip
        refine Qaf <| sg 1 kj <| Qab (.int .i64 oi) 60 rfl kj (Qag 3 _ g30 1 36 _ (.int .i64 oi) _ r30_8 rfl kj kj kj) <| Qab (.bool true) 61 rfl kj (Qai (u:=.bool (decide (oi<0))) kj (congrArg Value.bool (decide_eq_true (by omega)))) <| sg 7 kj <| Qak ?_
        rw [←QbX (M:=[(7,.pointer (some ⟨gc,0,none⟩)),(8,.slice ua nl uc),(11,.pointer (some ⟨g30,0,none⟩)),(53,.slice a_o m c_o),(54,.int .i64 ((m:Nat):Int)),(55,.int .i64 ((r:Nat):Int)),(68,.bool true)]) ⟨rfl,rfl,rfl,rfl,rfl,rfl,rfl,trivial⟩]
        exact hJ32 _
       ·skip
        refine Qaf <| sg 1 kj <| Qab (.int .i64 oi) 60 rfl kj (Qag 3 _ g30 1 36 _ (.int .i64 oi) _ r30_8 rfl kj kj kj) <| Qab (.bool false) 61 rfl kj (Qai (u:=.bool (decide (oi<0))) kj (congrArg Value.bool (decide_eq_false (by omega)))) <| sg 2 kj <| Qab (.int .i64 oi) 64 rfl kj (Qag 3 _ g30 1 36 _ (.int .i64 oi) _ r30_8 rfl kj kj kj) <| sg 2 kj <| Qab (.bool true) 67 rfl kj (Qai (u:=.bool (decide (oi≥((nl:Nat):Int)))) kj (congrArg Value.bool (decide_eq_true (by omega)))) <| sg 1 kj <| Qak ?_
        rw [←QbX (M:=[(7,.pointer (some ⟨gc,0,none⟩)),(8,.slice ua nl uc),(11,.pointer (some ⟨g30,0,none⟩)),(53,.slice a_o m c_o),(54,.int .i64 ((m:Nat):Int)),(55,.int .i64 ((r:Nat):Int)),(68,.bool true)]) ⟨rfl,rfl,rfl,rfl,rfl,rfl,rfl,trivial⟩]
        exact hJ32 _
      ·skip
       obtain ⟨i,hii⟩:∃ i:Nat,oi=((i:Nat):Int):=⟨oi.toNat,by omega⟩
       subst hii
       have hlen:=hca.len
       have hin:i<fs.length:=by omega
       obtain ⟨hla,hglr⟩:=hca.sub (by omega)
       subst hla
       obtain ⟨ul,hua⟩:=Qhr hli (by omega)
       subst hua
       obtain ⟨hulb,cu,hul⟩:=Qch hli (g:=ul) rfl
       obtain ⟨x_,hx⟩:∃ x_,x_=fs.getD i lf0:=⟨_,rfl⟩
       have hxm:x_∈fs:=by rw [hx]; exact Qcd fs lf0 i hin
       have hxo:=hca.ok.ok x_ hxm
       have hxz:=hca.ok.zl x_ hxm
       obtain ⟨hxg,hxmg⟩:=hca.ok.low x_ hxm
       have hx_32:=hxo.ch.len x_.pl
       have hpt:lp[i]? = some (.pointer (some ⟨x_.g,0,none⟩)):=by rw [hx]; exact hca.ok.ptr i hin
       have hgV:=hxo.ch.glt
       have hmV:=hxo.ch.mp.lt
       have huV:=Qay hul
       refine wp_seq_k fun K41 hK41=>?_
       skip
       ·skip
        refine Qaf <| sg 1 kj <| Qab (.int .i64 ((i:Nat):Int)) 60 rfl kj (Qag 3 _ g30 1 36 _ (.int .i64 ((i:Nat):Int)) _ r30_8 rfl kj kj kj) <| Qab (.bool false) 61 rfl kj (Qai (u:=.bool (decide (((i:Nat):Int)<0))) kj (congrArg Value.bool (decide_eq_false (by omega)))) <| sg 2 kj <| Qab (.int .i64 ((i:Nat):Int)) 64 rfl kj (Qag 3 _ g30 1 36 _ (.int .i64 ((i:Nat):Int)) _ r30_8 rfl kj kj kj) <| sg 2 kj <| Qab (.bool false) 67 rfl kj (Qai (u:=.bool (decide (((i:Nat):Int)≥((nl:Nat):Int)))) kj (congrArg Value.bool (decide_eq_false (by omega)))) <| sg 1 kj <| sgN hK41 ?_
        refine cond_false kj <| wp_skip <| hK31 _ _ <| sgC fun K42 hK42=>sg 2 kj <| Qab (.int .i64 ((i:Nat):Int)) 131 rfl kj (Qag 3 _ g30 1 36 _ (.int .i64 ((i:Nat):Int)) _ r30_8 rfl kj kj kj) <| Qab (.pointer (some ⟨ul,0+i*36,none⟩)) 132 rfl kj (Qb4 28 _ _ .i64 i ul 0 nl uc 34 36 _ rfl rfl kj kj kj kj (by omega)) ?_
        have y6_7:=(Rely.Ext.trans (Rely.Ext.refl V2) e7)
        have y6_8:=(Puts.ext p8 y6_7 l30)
        have hli1:=QaR hli y6_8
        rw [←hlen] at hli1
        refine Qab (.agg (cat [ints .u8 (x_.L x_.pl),#[.int .i64 ((x_.pl:Nat):Int)],#[.slice x_.ha x_.t0.length x_.hc],#[.slice x_.za x_.zs.length x_.zc],#[.int .i64 ((x_.lo:Nat):Int)]])) 133 rfl kj (by rw [hx]; exact Qlf 34 _ (Qh9 hca.ok) hli1 hin rfl kj kj kj) ?_
        refine Qap (cat [ints .u8 (List.replicate 32 0),#[.int .i64 0],#[.slice none 0 0],#[.slice none 0 0],#[.int .i64 0]]) 34 18 rfl kj kj fun g43 W9 l43 e9 r43_9=>?_
        have x9:=Ext.tr x8 e9
        refine Qaj g43 _ (cat [ints .u8 (x_.L x_.pl),#[.int .i64 ((x_.pl:Nat):Int)],#[.slice x_.ha x_.t0.length x_.hc],#[.slice x_.za x_.zs.length x_.zc],#[.int .i64 ((x_.lo:Nat):Int)]]) 34 r43_9 rfl kj (Qal 34 _ _ g43 34 _ _ r43_9 rfl kj kj (isz (n:=36) kj (by rw [Qaa,Qaa,Qaa,Qaa,Qaa]; simp only [qS,cat,((Qad _ _).trans (hx_32))]; rfl)) (eqsz (n:=36) (by rw [Qaa,Qaa,Qaa,Qaa,Qaa]; simp only [qS,cat,((Qad _ _).trans (List.length_replicate (n:=32)))]; rfl) (by rw [Qaa,Qaa,Qaa,Qaa,Qaa]; simp only [qS,cat,((Qad _ _).trans (hx_32))]; rfl)) (QaD _ (by intro a ha; simp only [List.mem_cons,List.not_mem_nil,or_false] at ha; rcases ha with rfl | rfl | rfl | rfl | rfl; exact (Qau _ _); exact (Qan _ rfl); exact (Qan _ rfl); exact (Qan _ rfl); exact (Qan _ rfl)))) fun W10 p10 r43_10=>?_
        have x10:=Puts.ext p10 x9 (qT x8.size l43)
        refine sgN hK42 <| sgC fun K44 hK44=>Qap (cat [#[.int .i64 0],ints .u8 (List.replicate 32 0),#[.slice none 0 0]]) 40 19 rfl kj kj fun g45 W11 l45 e11 r45_11=>?_
        have x11:=Ext.tr x10 e11
        have b45:=qT x10.size l45
        refine sgN hK44 <| sgC fun K46 hK46=>Qap (cat [#[.int .i64 0],ints .u8 (List.replicate 32 0),#[.slice none 0 0]]) 50 20 rfl kj kj fun g47 W12 l47 e12 r47_12=>?_
        have x12:=Ext.tr x11 e12
        have b47:=qT x11.size l47
        refine sgN hK46 <| sgB kj <| sgB kj <| sgC fun K50 hK50=>?_
        have r43_12:=(Qac (Qac r43_10 e11) e12)
        refine Qab (.agg (cat [ints .u8 (x_.L x_.pl),#[.int .i64 ((x_.pl:Nat):Int)],#[.slice x_.ha x_.t0.length x_.hc],#[.slice x_.za x_.zs.length x_.zc],#[.int .i64 ((x_.lo:Nat):Int)]])) 134 rfl kj (Qaq 34 _ g43 34 _ _ r43_12 rfl kj kj (isz (n:=36) kj (by rw [Qaa,Qaa,Qaa,Qaa,Qaa]; simp only [qS,cat,((Qad _ _).trans (hx_32))]; rfl))) ?_
        refine Qap (cat [ints .u8 (List.replicate 32 0),#[.int .i64 0],#[.slice none 0 0],#[.slice none 0 0],#[.int .i64 0]]) 34 23 rfl kj kj fun g51 W13 l51 e13 r51_13=>?_
        have x13:=Ext.tr x12 e13
        have b51:=qT x12.size l51
        refine Qaj g51 _ (cat [ints .u8 (x_.L x_.pl),#[.int .i64 ((x_.pl:Nat):Int)],#[.slice x_.ha x_.t0.length x_.hc],#[.slice x_.za x_.zs.length x_.zc],#[.int .i64 ((x_.lo:Nat):Int)]]) 34 r51_13 rfl kj (Qal 34 _ _ g51 34 _ _ r51_13 rfl kj kj (isz (n:=36) kj (by rw [Qaa,Qaa,Qaa,Qaa,Qaa]; simp only [qS,cat,((Qad _ _).trans (hx_32))]; rfl)) (eqsz (n:=36) (by rw [Qaa,Qaa,Qaa,Qaa,Qaa]; simp only [qS,cat,((Qad _ _).trans (List.length_replicate (n:=32)))]; rfl) (by rw [Qaa,Qaa,Qaa,Qaa,Qaa]; simp only [qS,cat,((Qad _ _).trans (hx_32))]; rfl)) (QaD _ (by intro a ha; simp only [List.mem_cons,List.not_mem_nil,or_false] at ha; rcases ha with rfl | rfl | rfl | rfl | rfl; exact (Qau _ _); exact (Qan _ rfl); exact (Qan _ rfl); exact (Qan _ rfl); exact (Qan _ rfl)))) fun W14 p14 r51_14=>?_
        have x14:=Puts.ext p14 x13 b51
        refine sgN hK50 ?_
        have hlv_g30:V2.heap.size≤g30:=(qT (qR _) l30)
        have hlv_g45:V2.heap.size≤g45:=(qT (qT (qT (qT (qT (qR _) e7.size) (qE p8.2.2.2.1.symm)) e9.size) (qE p10.2.2.2.1.symm)) l45)
        have hlv_g47:V2.heap.size≤g47:=(qT (qT (qT (qT (qT (qT (qR _) e7.size) (qE p8.2.2.2.1.symm)) e9.size) (qE p10.2.2.2.1.symm)) e11.size) l47)
        have hlv_g51:V2.heap.size≤g51:=(qT (qT (qT (qT (qT (qT (qT (qR _) e7.size) (qE p8.2.2.2.1.symm)) e9.size) (qE p10.2.2.2.1.symm)) e11.size) e12.size) l51)
        refine wp_seq_k fun K55 hK55=>?_
        have hJ55:∀ (y:Lf) (gn:Int) (kk:List Int) (xs:List Int) (gu:Value) (wu:Value) (bad:Int) (X:Env) (WJ:World),(LfOk y WJ)→(y.g=x_.g)→(y.mg=x_.mg)→(y.zs.length≤r+1)→(Qah [x_.g,x_.mg] V2 WJ)→(kk.length=32)→(Qat xs)→(GuIs V2.heap.size xs gu WJ)→(WuIs xs wu WJ)→(∀ e∈y.t0,∀ b,(Value.slice e.a e.m.length e.c).ownBlock=some b→gu.ownBlock≠some b)→(WJ.heap[g30]? = some (.cells (cat [#[.int .i64 kd],#[.int .i64 ((i:Nat):Int)],#[.int .i64 on]]) 36))→(WJ.heap[g45]? = some (.cells (cat [#[.int .i64 gn],ints .u8 (kk),#[gu]]) 40))→(WJ.heap[g47]? = some (.cells (cat [#[.int .i64 gn],ints .u8 (kk),#[wu]]) 50))→(WJ.heap[g51]? = some (.cells (cat [ints .u8 (y.L y.pl),#[.int .i64 ((y.pl:Nat):Int)],#[.slice y.ha y.t0.length y.hc],#[.slice y.za y.zs.length y.zc],#[.int .i64 ((y.lo:Nat):Int)]]) 34))→(Ext w WJ)→K55 (Qa0 [] 252 ([(7,.pointer (some ⟨gc,0,none⟩)),(8,.slice (some ⟨ul,0,none⟩) nl uc),(11,.pointer (some ⟨g30,0,none⟩)),(19,.pointer (some ⟨g45,0,none⟩)),(20,.pointer (some ⟨g47,0,none⟩)),(23,.pointer (some ⟨g51,0,none⟩)),(53,.slice a_o m c_o),(54,.int .i64 ((m:Nat):Int)),(55,.int .i64 ((r:Nat):Int)),(21,errV bad),(22,.int .i64 bad)]++X)) WJ:=by
         intro y gn kk xs gu wu bad X55 WJ hyo hyg hym hyz hkp hkl hxb hgu hwu hsep qj30 qj45 qj47 qj51 xxj
         refine hK55 _ _ ?_
         have hy32:=hyo.ch.len y.pl
         refine sgC fun K56 hK56=>sg 2 kj <| Qab (.int .i64 ((i:Nat):Int)) 209 rfl kj (Qag 3 _ g30 1 36 _ (.int .i64 ((i:Nat):Int)) _ qj30 rfl kj kj kj) <| Qab (.agg (cat [ints .u8 (y.L y.pl),#[.int .i64 ((y.pl:Nat):Int)],#[.slice y.ha y.t0.length y.hc],#[.slice y.za y.zs.length y.zc],#[.int .i64 ((y.lo:Nat):Int)]])) 210 rfl kj (Qaq 34 _ g51 34 _ _ qj51 rfl kj kj (isz (n:=36) kj (by rw [Qaa,Qaa,Qaa,Qaa,Qaa]; simp only [qS,cat,((Qad _ _).trans (hy32))]; rfl))) ?_
         refine Qab (.pointer (some ⟨ul,0+i*36,none⟩)) 211 rfl kj (Qb4 28 _ _ .i64 i ul 0 nl uc 34 36 _ rfl rfl kj kj kj kj (by omega)) ?_
         have hli2:=QkJ hxo.ch hkp hli (by decide)
         rw [←hlen] at hli2
         refine Qle 34 (.tmp 211) (.tmp 210) (Qh9 hca.ok) hli2 hin hy32 (z:=y) rfl kj kj kj rfl kj fun W16 p16 hli3=>?_
         have x16:=Puts.ext p16 xxj (qT x2.size hulb)
         obtain ⟨-,cu2,hul2⟩:=Qch hli2 (g:=ul) rfl
         have hyo2:=Ql5 hyo p16 hul2 (by decide) (by decide) (by decide) (by decide)
         have hgu2:=GuIs.rows hgu (QaA p16 hul2) (by decide)
         have hwu2:=WuIs.rows hwu (QaA p16 hul2) (by decide)
         have hkp2:Qah [x_.g,x_.mg,ul] V2 W16:=Qah.puts (QmF hkp) p16 (.inl (by simp))
         refine sgN hK56 <| wp_seq_k fun K57 hK57=>wp_seq_k fun K58 hK58=>?_
         have hyl:y.ms.length=y.t0.length∧y.t0.length≤64:=by have h9:=hyo.rf.len hyo.ch; rw [List.length_map] at h9; exact h9
         ·skip
          refine Qda kj fun W17 e17=>?_
          have x17:=Ext.tr x16 e17
          have r45_16:=(Puts.row p16 qj45 (Nat.ne_of_gt (qL huV hlv_g45)))
          have r45_17:=(Qac r45_16 e17)
          refine QaY 0 (.agg (cat [#[.int .i64 gn],ints .u8 (kk),#[gu]])) 212 rfl rfl kj kj (fun _ _ _ h=>h) (fun W hR=>(Qaq 40 _ g45 40 _ _ (Qac r45_17 hR) rfl kj kj (isz (n:=34) kj (by rw [Qaa,Qaa,Qaa]; simp only [qS,cat,((Qad _ _).trans hkl)]; rfl)))) ?_
          have r47_16:=(Puts.row p16 qj47 (Nat.ne_of_gt (qL huV hlv_g47)))
          have r47_17:=(Qac r47_16 e17)
          refine QaY 1 (.agg (cat [#[.int .i64 gn],ints .u8 (kk),#[wu]])) 213 rfl rfl kj kj (fun _ _ _ h=>h) (fun W hR=>(Qaq 50 _ g47 50 _ _ (Qac r47_17 hR) rfl kj kj (isz (n:=34) kj (by rw [Qaa,Qaa,Qaa]; simp only [qS,cat,((Qad _ _).trans hkl)]; rfl)))) ?_
          refine Qe6 2 kj <| QcL rfl (fun v W'=>v=(.bool true)∧Ext W17 W') 21 #[.agg (cat [#[.int .i64 gn],ints .u8 (kk),#[gu]]),.agg (cat [#[.int .i64 gn],ints .u8 (kk),#[wu]])] 214 rfl kj kj ((Qnq gn kk xs gu wu _ _ _ hkl hxb (GuIs.rd (GuIs.rows hgu2 (QaG 0 e17) (by decide))) (WuIs.rd (WuIs.rows hwu2 (QaG 0 e17) (by decide)))).mono fun e w' h=>⟨_,h.1,rfl,h.2⟩) (fun _ _ h=>Rely.Ext.trans (Rely.Ext.refl W17) h.2) fun vv59 W18 hh59=>?_
          obtain ⟨rfl,e18⟩:=hh59
          have x18:=Ext.tr x17 e18
          refine QaY 3 (.bool false) 215 rfl rfl kj kj (fun _ _ _ h=>h) (fun W hR=>by kernel_rfl) <| QaY 4 (.bool false) 216 rfl rfl kj kj (fun _ _ _ h=>h) (fun W hR=>by kernel_rfl) <| QaY 5 (errV bad) 217 rfl rfl kj kj (fun _ _ _ h=>h) (fun W hR=>by kernel_rfl) <| QaY 7 (.int .i64 bad) 219 rfl rfl kj kj (fun _ _ _ h=>h) (fun W hR=>by kernel_rfl) <| Qe6 6 kj ?_
          have y17_18:=(Rely.Ext.trans (Rely.Ext.refl W17) e18)
          refine QcL rfl (fun v W'=>v=(.int .i64 bad)∧Ext W18 W') 22 #[errV bad] 218 rfl kj kj (((NumV bad) _).mono fun e w' h=>⟨_,h.1,rfl,h.2⟩) (fun _ _ h=>Rely.Ext.trans y17_18 h.2) fun vv60 W19 hh60=>?_
          obtain ⟨rfl,e19⟩:=hh60
          have x19:=Ext.tr x18 e19
          refine QaY 8 (.bool false) 220 rfl rfl kj kj (fun _ _ _ h=>h) (fun W hR=>(Qai (u:=.bool ((bad != bad))) kj (congrArg Value.bool (by simp)))) <| QaY 9 (.bool false) 221 rfl rfl kj kj (fun _ _ _ h=>h) (fun W hR=>by kernel_rfl) <| QaY 10 (.bool false) 222 rfl rfl kj kj (fun _ _ _ h=>h) (fun W hR=>by kernel_rfl) <| QaY 11 (.pointer (some ⟨gc,0,none⟩)) 223 rfl rfl kj kj (fun _ _ _ h=>h) (fun W hR=>by kernel_rfl) <| QaY 12 (.pointer (some ⟨g30,1,none⟩)) 224 rfl rfl kj kj (fun _ _ _ h=>h) (fun W hR=>by kernel_rfl) ?_
          have r30_16:=(Puts.row p16 qj30 (Nat.ne_of_gt (qL huV hlv_g30)))
          have r30_17:=(Qac r30_16 e17)
          refine QaY 13 (.int .i64 ((i:Nat):Int)) 225 rfl rfl kj kj (fun _ _ _ h=>h) (fun W hR=>(Qag 3 _ g30 1 36 _ (.int .i64 ((i:Nat):Int)) _ (Qac r30_17 hR) rfl kj kj kj)) <| QaY 15 (.pointer (some ⟨g51,32,none⟩)) 227 rfl rfl kj kj (fun _ _ _ h=>h) (fun W hR=>by kernel_rfl) ?_
          have r51_16:=(Puts.row p16 qj51 (Nat.ne_of_gt (qL huV hlv_g51)))
          have r51_17:=(Qac r51_16 e17)
          refine QaY 16 (.int .i64 ((y.pl:Nat):Int)) 228 rfl rfl kj kj (fun _ _ _ h=>h) (fun W hR=>(Qag 3 _ g51 32 34 _ (.int .i64 ((y.pl:Nat):Int)) _ (Qac r51_17 hR) rfl kj (Qaw [ints .u8 (y.L y.pl)] [#[.int .i64 ((y.pl:Nat):Int)]] [#[.slice y.ha y.t0.length y.hc],#[.slice y.za y.zs.length y.zc],#[.int .i64 ((y.lo:Nat):Int)]] 32 ((Qad _ _).trans (hy32)) 0 _ rfl) kj)) <| Qe6 14 kj ?_
          have y17_19:=(Rely.Ext.trans y17_18 e19)
          refine QcL rfl (fun v W'=>v=(.int .i64 ((y.pl:Nat):Int))∧Ext W19 W') 16 #[.pointer (some ⟨gc,0,none⟩),.int .i64 ((i:Nat):Int)] 226 rfl kj kj ((Qlk gc gl nl cap lp _ (Qde hxo.ch hul (Qah.step (Qah.step (Qah.step hkp2 e17) e18) e19) hca.row (by decide) (by decide)) (Qde hxo.ch hul (Qah.step (Qah.step (Qah.step hkp2 e17) e18) e19) hglr (by decide) (by decide)) y.g i (by omega) (by rw [hyg]; exact hpt) ((Qb8 (Qb8 (Qb8 hyo2 e17) e18) e19)).ch).mono fun e w' h=>⟨_,h.1,rfl,h.2⟩) (fun _ _ h=>Rely.Ext.trans y17_19 h.2) fun vv61 W20 hh61=>?_
          obtain ⟨rfl,e20⟩:=hh61
          have x20:=Ext.tr x19 e20
          refine QaY 17 (.bool false) 229 rfl rfl kj kj (fun _ _ _ h=>h) (fun W hR=>(Qai (u:=.bool ((((y.pl:Nat):Int) != ((y.pl:Nat):Int)))) kj (congrArg Value.bool (by simp)))) <| QaY 18 (.bool false) 230 rfl rfl kj kj (fun _ _ _ h=>h) (fun W hR=>by kernel_rfl) <| QaY 19 (.bool false) 231 rfl rfl kj kj (fun _ _ _ h=>h) (fun W hR=>by kernel_rfl) <| QaY 20 (.pointer (some ⟨gc,0,none⟩)) 232 rfl rfl kj kj (fun _ _ _ h=>h) (fun W hR=>by kernel_rfl) <| QaY 21 (.pointer (some ⟨g30,1,none⟩)) 233 rfl rfl kj kj (fun _ _ _ h=>h) (fun W hR=>by kernel_rfl) <| QaY 22 (.int .i64 ((i:Nat):Int)) 234 rfl rfl kj kj (fun _ _ _ h=>h) (fun W hR=>(Qag 3 _ g30 1 36 _ (.int .i64 ((i:Nat):Int)) _ (Qac r30_17 hR) rfl kj kj kj)) <| QaY 24 (.pointer (some ⟨g51,33,none⟩)) 236 rfl rfl kj kj (fun _ _ _ h=>h) (fun W hR=>by kernel_rfl) <| QaY 25 (.slice y.ha y.t0.length y.hc) 237 rfl rfl kj kj (fun _ _ _ h=>h) (fun W hR=>(Qag 31 _ g51 33 34 _ (.slice y.ha y.t0.length y.hc) _ (Qac r51_17 hR) rfl kj (Qaw [ints .u8 (y.L y.pl),#[.int .i64 ((y.pl:Nat):Int)]] [#[.slice y.ha y.t0.length y.hc]] [#[.slice y.za y.zs.length y.zc],#[.int .i64 ((y.lo:Nat):Int)]] 33 (by rw [Qaa,Qaa]; simp only [qS,cat,((Qad _ _).trans (hy32))]; rfl) 0 _ rfl) kj)) ?_
          refine QaY 26 (.int .i64 ((y.t0.length:Nat):Int)) 238 rfl rfl kj kj (fun _ _ _ h=>h) (fun W hR=>by kernel_rfl) <| Qe6 23 kj ?_
          have y17_20:=(Rely.Ext.trans y17_19 e20)
          refine QcL rfl (fun v W'=>v=(.int .i64 ((y.ms.length:Nat):Int))∧Ext W20 W') 17 #[.pointer (some ⟨gc,0,none⟩),.int .i64 ((i:Nat):Int)] 235 rfl kj kj ((QkM gc gl nl cap lp _ (Qde hxo.ch hul (Qah.step (Qah.step (Qah.step (Qah.step hkp2 e17) e18) e19) e20) hca.row (by decide) (by decide)) (Qde hxo.ch hul (Qah.step (Qah.step (Qah.step (Qah.step hkp2 e17) e18) e19) e20) hglr (by decide) (by decide)) y.g i (by omega) (by rw [hyg]; exact hpt) ((Qb8 (Qb8 (Qb8 (Qb8 hyo2 e17) e18) e19) e20)).ch).mono fun e w' h=>⟨_,h.1,rfl,h.2⟩) (fun _ _ h=>Rely.Ext.trans y17_20 h.2) fun vv62 W21 hh62=>?_
          obtain ⟨rfl,e21⟩:=hh62
          have x21:=Ext.tr x20 e21
          refine QaY 27 (.bool false) 239 rfl rfl kj kj (fun _ _ _ h=>h) (fun W hR=>(Qai (u:=.bool ((((y.ms.length:Nat):Int) != ((y.t0.length:Nat):Int)))) kj (congrArg Value.bool (by rw [hyl.1]; simp)))) ?_
          refine QaY 28 (.bool false) 240 rfl rfl kj kj (fun _ _ _ h=>h) (fun W hR=>by kernel_rfl) <| QaY 29 (.bool false) 241 rfl rfl kj kj (fun _ _ _ h=>h) (fun W hR=>by kernel_rfl) <| QaY 30 (.pointer (some ⟨gc,0,none⟩)) 242 rfl rfl kj kj (fun _ _ _ h=>h) (fun W hR=>by kernel_rfl) <| QaY 31 (.pointer (some ⟨g30,1,none⟩)) 243 rfl rfl kj kj (fun _ _ _ h=>h) (fun W hR=>by kernel_rfl) <| QaY 32 (.int .i64 ((i:Nat):Int)) 244 rfl rfl kj kj (fun _ _ _ h=>h) (fun W hR=>(Qag 3 _ g30 1 36 _ (.int .i64 ((i:Nat):Int)) _ (Qac r30_17 hR) rfl kj kj kj)) <| Qe6 33 kj <| QcL rfl (fun v W'=>v=(.int .i64 ((y.ms.length:Nat):Int))∧Ext W21 W') 17 #[.pointer (some ⟨gc,0,none⟩),.int .i64 ((i:Nat):Int)] 245 rfl kj kj ((QkM gc gl nl cap lp _ (Qde hxo.ch hul (Qah.step (Qah.step (Qah.step (Qah.step (Qah.step hkp2 e17) e18) e19) e20) e21) hca.row (by decide) (by decide)) (Qde hxo.ch hul (Qah.step (Qah.step (Qah.step (Qah.step (Qah.step hkp2 e17) e18) e19) e20) e21) hglr (by decide) (by decide)) y.g i (by omega) (by rw [hyg]; exact hpt) ((Qb8 (Qb8 (Qb8 (Qb8 (Qb8 hyo2 e17) e18) e19) e20) e21)).ch).mono fun e w' h=>⟨_,h.1,rfl,h.2⟩) (fun _ _ h=>Rely.Ext.trans (Rely.Ext.trans y17_20 e21) h.2) fun vv63 W22 hh63=>?_
          obtain ⟨rfl,e22⟩:=hh63
          have x22:=Ext.tr x21 e22
          refine QaY 34 (.bool false) 246 rfl rfl kj kj (fun _ _ _ h=>h) (fun W hR=>(Qai (u:=.bool (decide (((y.ms.length:Nat):Int)>64))) kj (congrArg Value.bool (decide_eq_false (by omega))))) <| QaY 35 (.bool false) 247 rfl rfl kj kj (fun _ _ _ h=>h) (fun W hR=>by kernel_rfl) <| Qir kj <| hK58 _ _ <| cond_false kj <| wp_skip <| hK57 _ _ <| Qaf <| sg 1 kj ?_
          have r45_18:=(Qac r45_17 e18)
          have r45_19:=(Qac r45_18 e19)
          refine Qab (gu) 249 rfl kj (Qag 38 _ g45 33 40 _ (gu) _ (Qac (Qac (Qac r45_19 e20) e21) e22) rfl kj (Qaw [#[.int .i64 gn],ints .u8 (kk)] [#[gu]] [] 33 (by rw [Qaa,Qaa]; simp only [qS,cat,((Qad _ _).trans hkl)]; rfl) 0 _ rfl) kj) ?_
          refine Qa6 (fun v W'=>v=.tuple #[]∧Qah (obs gu) W22 W') 23 #[gu] 250 rfl kj kj ((Qny (GuIs.rows (GuIs.rows (GuIs.rows (GuIs.rows (GuIs.rows (GuIs.rows hgu2 (QaG 0 e17) (by decide)) (QaG 0 e18) (by decide)) (QaG 0 e19) (by decide)) (QaG 0 e20) (by decide)) (QaG 0 e21) (by decide)) (QaG 0 e22) (by decide))).mono fun e w' h=>⟨_,h.1,rfl,h.2⟩) fun v64 W23 h64=>?_
          obtain ⟨rfl,q23⟩:=h64
          have hgu9:=(GuIs.rows (GuIs.rows (GuIs.rows (GuIs.rows (GuIs.rows (GuIs.rows hgu2 (QaG 0 e17) (by decide)) (QaG 0 e18) (by decide)) (QaG 0 e19) (by decide)) (QaG 0 e20) (by decide)) (QaG 0 e21) (by decide)) (QaG 0 e22) (by decide))
          have hyo3:=Ql6 (Qb8 (Qb8 (Qb8 (Qb8 (Qb8 (Qb8 hyo2 e17) e18) e19) e20) e21) e22) hgu9 q23 hsep
          have hkp3:Qah [x_.g,x_.mg,ul] V2 W23:=Qah.keeps (Qah.step (Qah.step (Qah.step (Qah.step (Qah.step (Qah.step hkp2 e17) e18) e19) e20) e21) e22) q23 fun c hc=>.inr (hgu9.ge c hc).1
          have hli4:W23.ownsRow W2.heap.size 34 36 (.slice (some ⟨ul,0,none⟩) fs.length uc) fs.length ((fs.set i y).flatMap lnC):=Qcp (QaR (QaR (QaR (QaR (QaR (QaR hli3 e17) e18) e19) e20) e21) e22) fun k9 hk9=>by obtain ⟨-,cu9,r9⟩:=Qch (QaR (QaR (QaR (QaR (QaR (QaR hli3 e17) e18) e19) e20) e21) e22) hk9; exact (Qhw (V:=W23) hgu9 q23 r9 (by decide)).trans r9.symm
          have x23:=Qah.ext q23 x22 fun c hc=>qT xx2.size (hgu9.ge c hc).1
          refine Qak <| hK28 _ _ <| Qaf <| Qab (.int .i64 ((r+1:Nat):Int)) 251 rfl kj (Qai (u:=.int .i64 (IntKind.i64.wrap (((r:Nat):Int)+1))) kj (congrArg (Value.int .i64) (i64n _ _ (by omega) (by omega)))) <| sg 1 kj <| Qak ?_
          rw [hlen] at hli4
          repeat (first | with_reducible refine goX1 ?_ | with_reducible refine goX2 ?_ | with_reducible refine goX3 ?_)
          exact Qa4 ((r+1),(fs.set i y)) ⟨kj,kj,kj,kj,kj,trivial⟩ ⟨(by omega),(ChAt.turn (b1:=0) hca hin hx hul hkp3 hyo3 hyg hym hyz),hli4,x23⟩ (by omega)
        clear hK55
        refine sgC fun K65 hK65=>sg 1 kj ?_
        have r30_9:=(Qac r30_8 e9)
        have r30_10:=(Puts.row p10 r30_9 (Qae r30_8 l43))
        have r30_11:=(Qac r30_10 e11)
        have r30_12:=(Qac r30_11 e12)
        have r30_13:=(Qac r30_12 e13)
        have r30_14:=(Puts.row p14 r30_13 (Qae r30_12 l51))
        refine Qab (.int .i64 kd) 136 rfl kj (Qag 3 _ g30 0 36 _ (.int .i64 kd) _ r30_14 rfl kj kj kj) <| sgN hK65 <| wp_block <| sgB kj <| Qa3 (t:=(kd==0)) kj (fun c67=>?_) (fun c67=>?_)
        ·skip
         refine wp_seq_k fun K68 hK68=>?_
         rcases (show chkN x_.ts x_.pl (((x_.pl:Nat):Int))=0∨chkN x_.ts x_.pl (((x_.pl:Nat):Int))≠0 from Decidable.em _) with he | he
         ·skip
          refine Qaf <| sg 2 kj <| Qab (.int .i64 ((i:Nat):Int)) 157 rfl kj (Qag 3 _ g30 1 36 _ (.int .i64 ((i:Nat):Int)) _ r30_14 rfl kj kj kj) ?_
          have r1_7:=(Qac (Qac hc xx2) e7)
          have r1_8:=(Puts.row p8 r1_7 (Qae (Qac hc xx2) l30))
          have r1_9:=(Qac r1_8 e9)
          have r1_10:=(Puts.row p10 r1_9 (Qae r1_8 l43))
          have r1_11:=(Qac r1_10 e11)
          have r1_12:=(Qac r1_11 e12)
          have r1_13:=(Qac r1_12 e13)
          have r1_14:=(Puts.row p14 r1_13 (Qae r1_12 l51))
          have r2_7:=(Qac (Qac hq xx2) e7)
          have r2_8:=(Puts.row p8 r2_7 (Qae (Qac hq xx2) l30))
          have r2_9:=(Qac r2_8 e9)
          have r2_10:=(Puts.row p10 r2_9 (Qae r2_8 l43))
          have r2_11:=(Qac r2_10 e11)
          have r2_12:=(Qac r2_11 e12)
          have r2_13:=(Qac r2_12 e13)
          have r2_14:=(Puts.row p14 r2_13 (Qae r2_12 l51))
          have y6_9:=(Rely.Ext.trans y6_8 e9)
          have y6_10:=(Puts.ext p10 y6_9 (qT y6_8.size l43))
          have y6_11:=(Rely.Ext.trans y6_10 e11)
          have y6_12:=(Rely.Ext.trans y6_11 e12)
          have y6_13:=(Rely.Ext.trans y6_12 e13)
          have y6_14:=(Puts.ext p14 y6_13 (qT y6_12.size l51))
          refine Qa6 (fun v W'=>∃ u,v=.tuple #[u,.nilIface]∧Qah [x_.g,x_.mg] W14 W'∧ChLn x_.g x_.mg x_.L (x_.ts++[((x_.pl:Nat):Int)]) (max x_.pl (x_.pl+1)) (Qdd x_.ms (x_.L x_.pl) x_.pl x_.pl) W'∧Qcs W14.heap.size ((x_.pl:Nat):Int) (keyV (x_.L x_.pl)) u W') 12 #[.pointer (some ⟨gc,0,none⟩),.int .i64 ((i:Nat):Int)] 158 rfl kj kj ((Qm3 gc gl nl cap lp _ (QbG hxo.ch (Qah.puts (Qah.step (Qah.step (Qah.step (Qah.puts (Qah.step (Qah.puts (Qah.step (Qah.refl [x_.g,x_.mg] V2) e7) p8 (.inr (qT (qR _) l30))) e9) p10 (.inr (qT (qT (qT (qR _) e7.size) (qE p8.2.2.2.1.symm)) l43))) e11) e12) e13) p14 (.inr (qT (qT (qT (qT (qT (qT (qT (qR _) e7.size) (qE p8.2.2.2.1.symm)) e9.size) (qE p10.2.2.2.1.symm)) e11.size) e12.size) l51))) hca.row (by decide)) (QbG hxo.ch (Qah.puts (Qah.step (Qah.step (Qah.step (Qah.puts (Qah.step (Qah.puts (Qah.step (Qah.refl [x_.g,x_.mg] V2) e7) p8 (.inr (qT (qR _) l30))) e9) p10 (.inr (qT (qT (qT (qR _) e7.size) (qE p8.2.2.2.1.symm)) l43))) e11) e12) e13) p14 (.inr (qT (qT (qT (qT (qT (qT (qT (qR _) e7.size) (qE p8.2.2.2.1.symm)) e9.size) (qE p10.2.2.2.1.symm)) e11.size) e12.size) l51))) hglr (by decide)) x_.g i (by omega) hpt tc tq r1_14 r2_14 (hxo.ch.ext y6_14) he (Nat.ne_of_lt (qL (Qay hc) (qT x2.size hxg))) (Nat.ne_of_lt (qL (Qay hq) (qT x2.size hxg)))).mono (by rintro e w' ⟨v,rfl,q1,q2,q3⟩; exact ⟨_,rfl,_,rfl,q1,q2,q3⟩)) fun vv69 W15 hh69=>?_
          obtain ⟨uu69,rfl,q15,hch2,u69,rfl,hu69⟩:=hh69
          have x15:=Qeu x14 q15 (qT x2.size hxg) (qT x2.size hxmg)
          obtain ⟨a69_,c69_,rfl,-⟩:=id (OwnN.rd hu69)
          refine sg 3 kj ?_
          have r45_12:=(Qac r45_11 e12)
          have r45_13:=(Qac r45_12 e13)
          have r45_14:=(Puts.row p14 r45_13 (Qae r45_12 l51))
          have r45_15:=(Qah.row q15 r45_14 (Qax (Nat.ne_of_gt (qL hgV (qT (qT (qT (qT (qT (qR _) e7.size) (qE p8.2.2.2.1.symm)) e9.size) (qE p10.2.2.2.1.symm)) l45))) (Qax (Nat.ne_of_gt (qL hmV (qT (qT (qT (qT (qT (qR _) e7.size) (qE p8.2.2.2.1.symm)) e9.size) (qE p10.2.2.2.1.symm)) l45))) QaJ)))
          refine Qaj g45 _ (cat [#[.int .i64 ((x_.pl:Nat):Int)],ints .u8 ((keyV (x_.L x_.pl)).take 32),#[.slice a69_ ((keyV (x_.L x_.pl)).drop 32).length c69_]]) 40 r45_15 rfl kj (Qal 40 _ _ g45 40 _ _ r45_15 rfl kj kj (isz (n:=34) kj (by rw [Qaa,Qaa,Qaa]; simp only [qS,cat,((Qad _ _).trans (QaP (QaB _)))]; rfl)) (eqsz (n:=34) (by rw [Qaa,Qaa,Qaa]; simp only [qS,cat,((Qad _ _).trans (List.length_replicate (n:=32)))]; rfl) (by rw [Qaa,Qaa,Qaa]; simp only [qS,cat,((Qad _ _).trans (QaP (QaB _)))]; rfl)) (QaD _ (by intro a ha; simp only [List.mem_cons,List.not_mem_nil,or_false] at ha; rcases ha with rfl | rfl | rfl; exact (Qan _ rfl); exact (Qau _ _); exact (Qan _ rfl)))) fun W16 p16 r45_16=>?_
          have x16:=Puts.ext p16 x15 b45
          refine sg 1 kj <| sgN hK68 <| Qaf ?_
          have r43_13:=(Qac r43_12 e13)
          have r43_14:=(Puts.row p14 r43_13 (Qae r43_12 l51))
          have r43_15:=(Qah.row q15 r43_14 (Qax (Nat.ne_of_gt (qL hgV (qT (qT (qT (qR _) e7.size) (qE p8.2.2.2.1.symm)) l43))) (Qax (Nat.ne_of_gt (qL hmV (qT (qT (qT (qR _) e7.size) (qE p8.2.2.2.1.symm)) l43))) QaJ)))
          have r43_16:=(Puts.row p16 r43_15 (Qae r43_10 l45))
          refine Qab (.agg (cat [ints .u8 (x_.L x_.pl),#[.int .i64 ((x_.pl:Nat):Int)],#[.slice x_.ha x_.t0.length x_.hc],#[.slice x_.za x_.zs.length x_.zc],#[.int .i64 ((x_.lo:Nat):Int)]])) 162 rfl kj (Qaq 34 _ g43 34 _ _ r43_16 rfl kj kj (isz (n:=36) kj (by rw [Qaa,Qaa,Qaa,Qaa,Qaa]; simp only [qS,cat,((Qad _ _).trans (hx_32))]; rfl))) ?_
          refine sg 1 kj <| Qab (.int .i64 ((x_.pl:Nat):Int)) 164 rfl kj (Qag 3 _ g43 32 34 _ (.int .i64 ((x_.pl:Nat):Int)) _ r43_16 rfl kj (Qaw [ints .u8 (x_.L x_.pl)] [#[.int .i64 ((x_.pl:Nat):Int)]] [#[.slice x_.ha x_.t0.length x_.hc],#[.slice x_.za x_.zs.length x_.zc],#[.int .i64 ((x_.lo:Nat):Int)]] 32 ((Qad _ _).trans (hx_32)) 0 _ rfl) kj) <| Qa6 (fun v W'=>∃ (q:Hd) (y:Lf),v=.tuple #[.agg (cat (hdP q)),.agg (cat (lnP y)),.int .i64 0]∧TkR x_ x_.pl q y W16 W') 19 #[.agg (cat [ints .u8 (x_.L x_.pl),#[.int .i64 ((x_.pl:Nat):Int)],#[.slice x_.ha x_.t0.length x_.hc],#[.slice x_.za x_.zs.length x_.zc],#[.int .i64 ((x_.lo:Nat):Int)]]),.int .i64 ((x_.pl:Nat):Int)] 165 rfl kj kj (tkI x_ _ (QgR hxo.ch (Qah.puts (Qah.keeps (Qah.puts (Qah.step (Qah.step (Qah.step (Qah.puts (Qah.step (Qah.puts (Qah.step (Qah.refl [x_.g,x_.mg] V2) e7) p8 (.inr (qT (qR _) l30))) e9) p10 (.inr (qT (qT (qT (qR _) e7.size) (qE p8.2.2.2.1.symm)) l43))) e11) e12) e13) p14 (.inr (qT (qT (qT (qT (qT (qT (qT (qR _) e7.size) (qE p8.2.2.2.1.symm)) e9.size) (qE p10.2.2.2.1.symm)) e11.size) e12.size) l51))) q15 (fun c hc=>.inl hc)) p16 (.inr (qT (qT (qT (qT (qT (qR _) e7.size) (qE p8.2.2.2.1.symm)) e9.size) (qE p10.2.2.2.1.symm)) l45))) hxo.lr) (by omega) x_.pl he) fun vv70 W17 hh70=>?_
          obtain ⟨q_,y,rfl,htk⟩:=hh70
          have e17:=htk.ext
          have hq_l:=htk.qi.len
          have hy32:(y.L y.pl).length=32:=by obtain ⟨rs,ar,cr,za,zc,rfl⟩:=htk.eq; exact hxo.ch.len _
          have x17:=Ext.tr x16 e17
          refine sg 4 kj ?_
          have r47_13:=(Qac r47_12 e13)
          have r47_14:=(Puts.row p14 r47_13 (Qae r47_12 l51))
          have r47_15:=(Qah.row q15 r47_14 (Qax (Nat.ne_of_gt (qL hgV (qT (qT (qT (qT (qT (qT (qR _) e7.size) (qE p8.2.2.2.1.symm)) e9.size) (qE p10.2.2.2.1.symm)) e11.size) l47))) (Qax (Nat.ne_of_gt (qL hmV (qT (qT (qT (qT (qT (qT (qR _) e7.size) (qE p8.2.2.2.1.symm)) e9.size) (qE p10.2.2.2.1.symm)) e11.size) l47))) QaJ)))
          have r47_16:=(Puts.row p16 r47_15 (Qa8 r45_11 l47))
          have r47_17:=(Qac r47_16 e17)
          refine Qaj g47 _ (cat [#[.int .i64 ((q_.n:Nat):Int)],ints .u8 (q_.m.take 32),#[hdU q_]]) 50 r47_17 rfl kj (Qal 50 _ _ g47 50 _ _ r47_17 rfl kj kj (isz (n:=34) kj (by rw [Qaa,Qaa,Qaa]; simp only [qS,cat,((Qad _ _).trans (QaP hq_l))]; rfl)) (eqsz (n:=34) (by rw [Qaa,Qaa,Qaa]; simp only [qS,cat,((Qad _ _).trans (List.length_replicate (n:=32)))]; rfl) (by rw [Qaa,Qaa,Qaa]; simp only [qS,cat,((Qad _ _).trans (QaP hq_l))]; rfl)) (QaD _ (by intro a ha; simp only [List.mem_cons,List.not_mem_nil,or_false] at ha; rcases ha with rfl | rfl | rfl; exact (Qan _ rfl); exact (Qau _ _); exact (Qan _ rfl)))) fun W18 p18 r47_18=>?_
          have x18:=Puts.ext p18 x17 b47
          have r51_15:=(Qah.row q15 r51_14 (Qax (Nat.ne_of_gt (qL hgV (qT (qT (qT (qT (qT (qT (qT (qR _) e7.size) (qE p8.2.2.2.1.symm)) e9.size) (qE p10.2.2.2.1.symm)) e11.size) e12.size) l51))) (Qax (Nat.ne_of_gt (qL hmV (qT (qT (qT (qT (qT (qT (qT (qR _) e7.size) (qE p8.2.2.2.1.symm)) e9.size) (qE p10.2.2.2.1.symm)) e11.size) e12.size) l51))) QaJ)))
          have r51_16:=(Puts.row p16 r51_15 (Qa8 r45_12 l51))
          have r51_17:=(Qac r51_16 e17)
          have r51_18:=(Puts.row p18 r51_17 (Qa8 r47_12 l51))
          refine Qaj g51 _ (cat [ints .u8 (y.L y.pl),#[.int .i64 ((y.pl:Nat):Int)],#[.slice y.ha y.t0.length y.hc],#[.slice y.za y.zs.length y.zc],#[.int .i64 ((y.lo:Nat):Int)]]) 34 r51_18 rfl kj (Qal 34 _ _ g51 34 _ _ r51_18 rfl kj kj (isz (n:=36) kj (by rw [Qaa,Qaa,Qaa,Qaa,Qaa]; simp only [qS,cat,((Qad _ _).trans (hy32))]; rfl)) (eqsz (n:=36) (by rw [Qaa,Qaa,Qaa,Qaa,Qaa]; simp only [qS,cat,((Qad _ _).trans (hx_32))]; rfl) (by rw [Qaa,Qaa,Qaa,Qaa,Qaa]; simp only [qS,cat,((Qad _ _).trans (hy32))]; rfl)) (QaD _ (by intro a ha; simp only [List.mem_cons,List.not_mem_nil,or_false] at ha; rcases ha with rfl | rfl | rfl | rfl | rfl; exact (Qau _ _); exact (Qan _ rfl); exact (Qan _ rfl); exact (Qan _ rfl); exact (Qan _ rfl)))) fun W19 p19 r51_19=>?_
          have x19:=Puts.ext p19 x18 b51
          refine sg 1 kj <| Qak ?_
          have r47_19:=(Puts.row p19 r47_18 (Qae r47_12 l51))
          have r20j:=r47_19
          rw [htk.qn,htk.qm] at r20j
          have hye:y.g=x_.g∧y.mg=x_.mg∧y.zs.length≤r+1∧ChLn y.g y.mg y.L y.ts y.pl y.ms W19:=by
           obtain ⟨rs,ar,cr,za,zc,rfl⟩:=htk.eq
           exact ⟨rfl,rfl,by show (x_.zs++[_]).length≤_; rw [List.length_append]; exact Nat.add_le_add_right hxz 1,(ChLn.keep (ChLn.keep (ChLn.ext (ChLn.keep hch2 (p16.2.2.2.2 _ (Nat.ne_of_lt (qL hgV (qT (qT (qT (qT (qT (qR _) e7.size) (qE p8.2.2.2.1.symm)) e9.size) (qE p10.2.2.2.1.symm)) l45)))) (p16.2.2.2.2 _ (Nat.ne_of_lt (qL hmV (qT (qT (qT (qT (qT (qR _) e7.size) (qE p8.2.2.2.1.symm)) e9.size) (qE p10.2.2.2.1.symm)) l45))))) e17) (p18.2.2.2.2 _ (Nat.ne_of_lt (qL hgV (qT (qT (qT (qT (qT (qT (qR _) e7.size) (qE p8.2.2.2.1.symm)) e9.size) (qE p10.2.2.2.1.symm)) e11.size) l47)))) (p18.2.2.2.2 _ (Nat.ne_of_lt (qL hmV (qT (qT (qT (qT (qT (qT (qR _) e7.size) (qE p8.2.2.2.1.symm)) e9.size) (qE p10.2.2.2.1.symm)) e11.size) l47))))) (p19.2.2.2.2 _ (Nat.ne_of_lt (qL hgV (qT (qT (qT (qT (qT (qT (qT (qR _) e7.size) (qE p8.2.2.2.1.symm)) e9.size) (qE p10.2.2.2.1.symm)) e11.size) e12.size) l51)))) (p19.2.2.2.2 _ (Nat.ne_of_lt (qL hmV (qT (qT (qT (qT (qT (qT (qT (qR _) e7.size) (qE p8.2.2.2.1.symm)) e9.size) (qE p10.2.2.2.1.symm)) e11.size) e12.size) l51)))))⟩
          have hel9:=(QaV (QaV htk.el (QaA p18 r47_17) (by decide)) (QaA p19 r51_18) (by decide))
          have hyo1:LfOk y W19:=Qmr hxo.lr he htk hye.2.2.2 (Qex (QbV (QbV htk.hd p18 (Qay r47_16)) p19 (Qay r51_16)) (Nat.zero_le _)) (fun e he=>(hel9 e he).inn) (OwnN.base (Nat.zero_le _) (QaI (QaI htk.zo (QaA p18 r47_17) (by decide)) (QaA p19 r51_18) (by decide)))
          have r30_15:=(Qah.row q15 r30_14 (Qax (Nat.ne_of_gt (qL hgV (qT (qR _) l30))) (Qax (Nat.ne_of_gt (qL hmV (qT (qR _) l30))) QaJ)))
          have r30_16:=(Puts.row p16 r30_15 (Qae r30_10 l45))
          have r30_17:=(Qac r30_16 e17)
          have r30_18:=(Puts.row p18 r30_17 (Qae r30_11 l47))
          have r30_19:=(Puts.row p19 r30_18 (Qae r30_12 l51))
          have r45_17:=(Qac r45_16 e17)
          have r45_18:=(Puts.row p18 r45_17 (Qae r45_11 l47))
          have r45_19:=(Puts.row p19 r45_18 (Qae r45_12 l51))
          exact Qcq (K:=K55) [(7,.pointer (some ⟨gc,0,none⟩)),(8,.slice (some ⟨ul,0,none⟩) nl uc),(11,.pointer (some ⟨g30,0,none⟩)),(19,.pointer (some ⟨g45,0,none⟩)),(20,.pointer (some ⟨g47,0,none⟩)),(23,.pointer (some ⟨g51,0,none⟩)),(53,.slice a_o m c_o),(54,.int .i64 ((m:Nat):Int)),(55,.int .i64 ((r:Nat):Int)),(21,errV 0),(22,.int .i64 0)] (hJ55 y ((x_.pl:Nat):Int) ((keyV (x_.L x_.pl)).take 32) ((keyV (x_.L x_.pl)).drop 32) (.slice a69_ ((keyV (x_.L x_.pl)).drop 32).length c69_) (hdU q_) 0 _ _ hyo1 hye.1 hye.2.1 hye.2.2.1 (Qah.puts (Qah.puts (Qah.step (Qah.puts (Qah.keeps (Qah.puts (Qah.step (Qah.step (Qah.step (Qah.puts (Qah.step (Qah.puts (Qah.step (Qah.refl [x_.g,x_.mg] V2) e7) p8 (.inr (qT (qR _) l30))) e9) p10 (.inr (qT (qT (qT (qR _) e7.size) (qE p8.2.2.2.1.symm)) l43))) e11) e12) e13) p14 (.inr (qT (qT (qT (qT (qT (qT (qT (qR _) e7.size) (qE p8.2.2.2.1.symm)) e9.size) (qE p10.2.2.2.1.symm)) e11.size) e12.size) l51))) q15 (fun c hc=>.inl hc)) p16 (.inr (qT (qT (qT (qT (qT (qR _) e7.size) (qE p8.2.2.2.1.symm)) e9.size) (qE p10.2.2.2.1.symm)) l45))) e17) p18 (.inr (qT (qT (qT (qT (qT (qT (qR _) e7.size) (qE p8.2.2.2.1.symm)) e9.size) (qE p10.2.2.2.1.symm)) e11.size) l47))) p19 (.inr (qT (qT (qT (qT (qT (qT (qT (qR _) e7.size) (qE p8.2.2.2.1.symm)) e9.size) (qE p10.2.2.2.1.symm)) e11.size) e12.size) l51))) (QaP (QaB _)) (fun z hz=>QcI _ z (List.mem_of_mem_drop hz)) (.inr ⟨OwnN.base (qT (qT (qT (qT (qT (qT (qT (qT (qR _) e7.size) (qE p8.2.2.2.1.symm)) e9.size) (qE p10.2.2.2.1.symm)) e11.size) e12.size) e13.size) (qE p14.2.2.2.1.symm)) (QaI (QaI (QaI (QaI hu69 (QaA p16 r45_15) (by decide)) (QaG 0 e17) (by decide)) (QaA p18 r47_17) (by decide)) (QaA p19 r51_18) (by decide)),by rw [List.length_drop,QaB]; decide,by rw [List.length_drop,QaB]; decide⟩) (.inr ⟨q_,rfl,by rw [htk.qm],(Qcf (Qcf htk.qi (QaA p18 r47_17) (by decide)) (QaA p19 r51_18) (by decide))⟩) (fun e he b hb hn=>by
            rcases (hel9 e he).new with h9 | h9
            ·exact QiP ((hxo.el e h9).own) (qT (qT (qT (qT (qT (qT (qT (qT (qR _) e7.size) (qE p8.2.2.2.1.symm)) e9.size) (qE p10.2.2.2.1.symm)) e11.size) e12.size) e13.size) (qE p14.2.2.2.1.symm)) hb hu69 hn
            ·exact QkD h9 (qT (qR _) (qE p16.2.2.2.1.symm)) hb hu69 hn) r30_19 r45_19 r20j r51_19 x19) ⟨rfl,rfl,rfl,rfl,rfl,rfl,rfl,rfl,rfl,(Qb9 rfl).symm,rfl,trivial⟩
         ·skip
          refine Qaf <| sg 2 kj <| Qab (.int .i64 ((i:Nat):Int)) 157 rfl kj (Qag 3 _ g30 1 36 _ (.int .i64 ((i:Nat):Int)) _ r30_14 rfl kj kj kj) ?_
          have r1_7:=(Qac (Qac hc xx2) e7)
          have r1_8:=(Puts.row p8 r1_7 (Qae (Qac hc xx2) l30))
          have r1_9:=(Qac r1_8 e9)
          have r1_10:=(Puts.row p10 r1_9 (Qae r1_8 l43))
          have r1_11:=(Qac r1_10 e11)
          have r1_12:=(Qac r1_11 e12)
          have r1_13:=(Qac r1_12 e13)
          have r1_14:=(Puts.row p14 r1_13 (Qae r1_12 l51))
          have r2_7:=(Qac (Qac hq xx2) e7)
          have r2_8:=(Puts.row p8 r2_7 (Qae (Qac hq xx2) l30))
          have r2_9:=(Qac r2_8 e9)
          have r2_10:=(Puts.row p10 r2_9 (Qae r2_8 l43))
          have r2_11:=(Qac r2_10 e11)
          have r2_12:=(Qac r2_11 e12)
          have r2_13:=(Qac r2_12 e13)
          have r2_14:=(Puts.row p14 r2_13 (Qae r2_12 l51))
          have y6_9:=(Rely.Ext.trans y6_8 e9)
          have y6_10:=(Puts.ext p10 y6_9 (qT y6_8.size l43))
          have y6_11:=(Rely.Ext.trans y6_10 e11)
          have y6_12:=(Rely.Ext.trans y6_11 e12)
          have y6_13:=(Rely.Ext.trans y6_12 e13)
          have y6_14:=(Puts.ext p14 y6_13 (qT y6_12.size l51))
          refine Qar (.tuple #[.agg (cat [#[.int .i64 0],ints .u8 (List.replicate 32 0),#[.slice none 0 0]]),.iface 47 (.int .i64 (chkN x_.ts x_.pl (((x_.pl:Nat):Int))))]) 12 #[.pointer (some ⟨gc,0,none⟩),.int .i64 ((i:Nat):Int)] 158 rfl kj kj (Qlz gc gl nl cap lp _ (QbG hxo.ch (Qah.puts (Qah.step (Qah.step (Qah.step (Qah.puts (Qah.step (Qah.puts (Qah.step (Qah.refl [x_.g,x_.mg] V2) e7) p8 (.inr (qT (qR _) l30))) e9) p10 (.inr (qT (qT (qT (qR _) e7.size) (qE p8.2.2.2.1.symm)) l43))) e11) e12) e13) p14 (.inr (qT (qT (qT (qT (qT (qT (qT (qR _) e7.size) (qE p8.2.2.2.1.symm)) e9.size) (qE p10.2.2.2.1.symm)) e11.size) e12.size) l51))) hca.row (by decide)) (QbG hxo.ch (Qah.puts (Qah.step (Qah.step (Qah.step (Qah.puts (Qah.step (Qah.puts (Qah.step (Qah.refl [x_.g,x_.mg] V2) e7) p8 (.inr (qT (qR _) l30))) e9) p10 (.inr (qT (qT (qT (qR _) e7.size) (qE p8.2.2.2.1.symm)) l43))) e11) e12) e13) p14 (.inr (qT (qT (qT (qT (qT (qT (qT (qR _) e7.size) (qE p8.2.2.2.1.symm)) e9.size) (qE p10.2.2.2.1.symm)) e11.size) e12.size) l51))) hglr (by decide)) x_.g i (by omega) hpt tc tq r1_14 r2_14 (hxo.ch.ext y6_14) he) fun W15 e15=>?_
          have x15:=Ext.tr x14 e15
          refine sg 3 kj ?_
          have r45_12:=(Qac r45_11 e12)
          have r45_13:=(Qac r45_12 e13)
          have r45_14:=(Puts.row p14 r45_13 (Qae r45_12 l51))
          have r45_15:=(Qac r45_14 e15)
          refine Qaj g45 _ (cat [#[.int .i64 0],ints .u8 (List.replicate 32 0),#[.slice none 0 0]]) 40 r45_15 rfl kj (Qal 40 _ _ g45 40 _ _ r45_15 rfl kj kj (isz (n:=34) kj (by rw [Qaa,Qaa,Qaa]; simp only [qS,cat,((Qad _ _).trans (List.length_replicate (n:=32)))]; rfl)) (eqsz (n:=34) (by rw [Qaa,Qaa,Qaa]; simp only [qS,cat,((Qad _ _).trans (List.length_replicate (n:=32)))]; rfl) (by rw [Qaa,Qaa,Qaa]; simp only [qS,cat,((Qad _ _).trans (List.length_replicate (n:=32)))]; rfl)) (QaD _ (by intro a ha; simp only [List.mem_cons,List.not_mem_nil,or_false] at ha; rcases ha with rfl | rfl | rfl; exact (Qan _ rfl); exact (Qau _ _); exact (Qan _ rfl)))) fun W16 p16 r45_16=>?_
          have x16:=Puts.ext p16 x15 b45
          refine sg 1 kj <| sgN hK68 <| Qaf ?_
          have r43_13:=(Qac r43_12 e13)
          have r43_14:=(Puts.row p14 r43_13 (Qae r43_12 l51))
          have r43_15:=(Qac r43_14 e15)
          have r43_16:=(Puts.row p16 r43_15 (Qae r43_10 l45))
          refine Qab (.agg (cat [ints .u8 (x_.L x_.pl),#[.int .i64 ((x_.pl:Nat):Int)],#[.slice x_.ha x_.t0.length x_.hc],#[.slice x_.za x_.zs.length x_.zc],#[.int .i64 ((x_.lo:Nat):Int)]])) 162 rfl kj (Qaq 34 _ g43 34 _ _ r43_16 rfl kj kj (isz (n:=36) kj (by rw [Qaa,Qaa,Qaa,Qaa,Qaa]; simp only [qS,cat,((Qad _ _).trans (hx_32))]; rfl))) ?_
          refine sg 1 kj <| Qab (.int .i64 ((x_.pl:Nat):Int)) 164 rfl kj (Qag 3 _ g43 32 34 _ (.int .i64 ((x_.pl:Nat):Int)) _ r43_16 rfl kj (Qaw [ints .u8 (x_.L x_.pl)] [#[.int .i64 ((x_.pl:Nat):Int)]] [#[.slice x_.ha x_.t0.length x_.hc],#[.slice x_.za x_.zs.length x_.zc],#[.int .i64 ((x_.lo:Nat):Int)]] 32 ((Qad _ _).trans (hx_32)) 0 _ rfl) kj) <| Qar (.tuple #[.agg (cat [#[.int .i64 0],ints .u8 (List.replicate 32 0),#[.slice none 0 0]]),.agg (cat [ints .u8 (x_.L x_.pl),#[.int .i64 ((x_.pl:Nat):Int)],#[.slice x_.ha x_.t0.length x_.hc],#[.slice x_.za x_.zs.length x_.zc],#[.int .i64 ((x_.lo:Nat):Int)]]),.int .i64 (chkN x_.ts x_.pl (((x_.pl:Nat):Int)))]) 19 #[.agg (cat [ints .u8 (x_.L x_.pl),#[.int .i64 ((x_.pl:Nat):Int)],#[.slice x_.ha x_.t0.length x_.hc],#[.slice x_.za x_.zs.length x_.zc],#[.int .i64 ((x_.lo:Nat):Int)]]),.int .i64 ((x_.pl:Nat):Int)] 165 rfl kj kj (tkE x_ _ (QgR hxo.ch (Qah.puts (Qah.step (Qah.puts (Qah.step (Qah.step (Qah.step (Qah.puts (Qah.step (Qah.puts (Qah.step (Qah.refl [x_.g,x_.mg] V2) e7) p8 (.inr (qT (qR _) l30))) e9) p10 (.inr (qT (qT (qT (qR _) e7.size) (qE p8.2.2.2.1.symm)) l43))) e11) e12) e13) p14 (.inr (qT (qT (qT (qT (qT (qT (qT (qR _) e7.size) (qE p8.2.2.2.1.symm)) e9.size) (qE p10.2.2.2.1.symm)) e11.size) e12.size) l51))) e15) p16 (.inr (qT (qT (qT (qT (qT (qR _) e7.size) (qE p8.2.2.2.1.symm)) e9.size) (qE p10.2.2.2.1.symm)) l45))) hxo.lr) (by omega) (((x_.pl:Nat):Int)) he) fun W17 e17=>?_
          have x17:=Ext.tr x16 e17
          refine sg 4 kj ?_
          have r47_13:=(Qac r47_12 e13)
          have r47_14:=(Puts.row p14 r47_13 (Qae r47_12 l51))
          have r47_15:=(Qac r47_14 e15)
          have r47_16:=(Puts.row p16 r47_15 (Qa8 r45_11 l47))
          have r47_17:=(Qac r47_16 e17)
          refine Qaj g47 _ (cat [#[.int .i64 0],ints .u8 (List.replicate 32 0),#[.slice none 0 0]]) 50 r47_17 rfl kj (Qal 50 _ _ g47 50 _ _ r47_17 rfl kj kj (isz (n:=34) kj (by rw [Qaa,Qaa,Qaa]; simp only [qS,cat,((Qad _ _).trans (List.length_replicate (n:=32)))]; rfl)) (eqsz (n:=34) (by rw [Qaa,Qaa,Qaa]; simp only [qS,cat,((Qad _ _).trans (List.length_replicate (n:=32)))]; rfl) (by rw [Qaa,Qaa,Qaa]; simp only [qS,cat,((Qad _ _).trans (List.length_replicate (n:=32)))]; rfl)) (QaD _ (by intro a ha; simp only [List.mem_cons,List.not_mem_nil,or_false] at ha; rcases ha with rfl | rfl | rfl; exact (Qan _ rfl); exact (Qau _ _); exact (Qan _ rfl)))) fun W18 p18 r47_18=>?_
          have x18:=Puts.ext p18 x17 b47
          have r51_15:=(Qac r51_14 e15)
          have r51_16:=(Puts.row p16 r51_15 (Qa8 r45_12 l51))
          have r51_17:=(Qac r51_16 e17)
          have r51_18:=(Puts.row p18 r51_17 (Qa8 r47_12 l51))
          refine Qaj g51 _ (cat [ints .u8 (x_.L x_.pl),#[.int .i64 ((x_.pl:Nat):Int)],#[.slice x_.ha x_.t0.length x_.hc],#[.slice x_.za x_.zs.length x_.zc],#[.int .i64 ((x_.lo:Nat):Int)]]) 34 r51_18 rfl kj (Qal 34 _ _ g51 34 _ _ r51_18 rfl kj kj (isz (n:=36) kj (by rw [Qaa,Qaa,Qaa,Qaa,Qaa]; simp only [qS,cat,((Qad _ _).trans (hx_32))]; rfl)) (eqsz (n:=36) (by rw [Qaa,Qaa,Qaa,Qaa,Qaa]; simp only [qS,cat,((Qad _ _).trans (hx_32))]; rfl) (by rw [Qaa,Qaa,Qaa,Qaa,Qaa]; simp only [qS,cat,((Qad _ _).trans (hx_32))]; rfl)) (QaD _ (by intro a ha; simp only [List.mem_cons,List.not_mem_nil,or_false] at ha; rcases ha with rfl | rfl | rfl | rfl | rfl; exact (Qau _ _); exact (Qan _ rfl); exact (Qan _ rfl); exact (Qan _ rfl); exact (Qan _ rfl)))) fun W19 p19 r51_19=>?_
          have x19:=Puts.ext p19 x18 b51
          refine sg 1 kj <| Qak ?_
          have y6_15:=(Rely.Ext.trans y6_14 e15)
          have y6_16:=(Puts.ext p16 y6_15 (qT y6_10.size l45))
          have y6_17:=(Rely.Ext.trans y6_16 e17)
          have y6_18:=(Puts.ext p18 y6_17 (qT y6_11.size l47))
          have y6_19:=(Puts.ext p19 y6_18 (qT y6_12.size l51))
          have r30_15:=(Qac r30_14 e15)
          have r30_16:=(Puts.row p16 r30_15 (Qae r30_10 l45))
          have r30_17:=(Qac r30_16 e17)
          have r30_18:=(Puts.row p18 r30_17 (Qae r30_11 l47))
          have r30_19:=(Puts.row p19 r30_18 (Qae r30_12 l51))
          have r45_17:=(Qac r45_16 e17)
          have r45_18:=(Puts.row p18 r45_17 (Qae r45_11 l47))
          have r45_19:=(Puts.row p19 r45_18 (Qae r45_12 l51))
          have r47_19:=(Puts.row p19 r47_18 (Qae r47_12 l51))
          exact Qcq (K:=K55) [(7,.pointer (some ⟨gc,0,none⟩)),(8,.slice (some ⟨ul,0,none⟩) nl uc),(11,.pointer (some ⟨g30,0,none⟩)),(19,.pointer (some ⟨g45,0,none⟩)),(20,.pointer (some ⟨g47,0,none⟩)),(23,.pointer (some ⟨g51,0,none⟩)),(53,.slice a_o m c_o),(54,.int .i64 ((m:Nat):Int)),(55,.int .i64 ((r:Nat):Int)),(21,errV (chkN x_.ts x_.pl (((x_.pl:Nat):Int)))),(22,.int .i64 (chkN x_.ts x_.pl (((x_.pl:Nat):Int))))] (hJ55 x_ 0 (List.replicate 32 0) ([]) (.slice none 0 0) (.slice none 0 0) (chkN x_.ts x_.pl (((x_.pl:Nat):Int))) _ _ (Qb8 hxo y6_19) rfl rfl (by omega) (Qah.puts (Qah.puts (Qah.step (Qah.puts (Qah.step (Qah.puts (Qah.step (Qah.step (Qah.step (Qah.puts (Qah.step (Qah.puts (Qah.step (Qah.refl [x_.g,x_.mg] V2) e7) p8 (.inr (qT (qR _) l30))) e9) p10 (.inr (qT (qT (qT (qR _) e7.size) (qE p8.2.2.2.1.symm)) l43))) e11) e12) e13) p14 (.inr (qT (qT (qT (qT (qT (qT (qT (qR _) e7.size) (qE p8.2.2.2.1.symm)) e9.size) (qE p10.2.2.2.1.symm)) e11.size) e12.size) l51))) e15) p16 (.inr (qT (qT (qT (qT (qT (qR _) e7.size) (qE p8.2.2.2.1.symm)) e9.size) (qE p10.2.2.2.1.symm)) l45))) e17) p18 (.inr (qT (qT (qT (qT (qT (qT (qR _) e7.size) (qE p8.2.2.2.1.symm)) e9.size) (qE p10.2.2.2.1.symm)) e11.size) l47))) p19 (.inr (qT (qT (qT (qT (qT (qT (qT (qR _) e7.size) (qE p8.2.2.2.1.symm)) e9.size) (qE p10.2.2.2.1.symm)) e11.size) e12.size) l51))) (List.length_replicate (n:=32)) (fun z hz=>by cases hz) (.inl ⟨rfl,rfl⟩) (.inl ⟨rfl,rfl⟩) (fun e he b hb hn=>by cases hn) r30_19 r45_19 r47_19 r51_19 x19) ⟨rfl,rfl,rfl,rfl,rfl,rfl,rfl,rfl,rfl,(Qcj he).symm,rfl,trivial⟩
        ·skip
         refine sgB kj <| Qa3 (t:=(kd==1)) kj (fun c72=>?_) (fun c72=>?_)
         ·skip
          refine wp_seq_k fun K73 hK73=>?_
          rcases (show chkN x_.ts x_.pl (on)=0∨chkN x_.ts x_.pl (on)≠0 from Decidable.em _) with he | he
          ·skip
           obtain ⟨n,hnn⟩:∃ n:Nat,on=((n:Nat):Int):=⟨on.toNat,by have:=(Qce (Qc0 he).1).1; omega⟩
           subst hnn
           refine Qaf <| sg 2 kj <| Qab (.int .i64 ((i:Nat):Int)) 174 rfl kj (Qag 3 _ g30 1 36 _ (.int .i64 ((i:Nat):Int)) _ r30_14 rfl kj kj kj) <| sg 1 kj <| Qab (.int .i64 ((n:Nat):Int)) 176 rfl kj (Qag 3 _ g30 2 36 _ (.int .i64 ((n:Nat):Int)) _ r30_14 rfl kj kj kj) ?_
           have r1_7:=(Qac (Qac hc xx2) e7)
           have r1_8:=(Puts.row p8 r1_7 (Qae (Qac hc xx2) l30))
           have r1_9:=(Qac r1_8 e9)
           have r1_10:=(Puts.row p10 r1_9 (Qae r1_8 l43))
           have r1_11:=(Qac r1_10 e11)
           have r1_12:=(Qac r1_11 e12)
           have r1_13:=(Qac r1_12 e13)
           have r1_14:=(Puts.row p14 r1_13 (Qae r1_12 l51))
           have r2_7:=(Qac (Qac hq xx2) e7)
           have r2_8:=(Puts.row p8 r2_7 (Qae (Qac hq xx2) l30))
           have r2_9:=(Qac r2_8 e9)
           have r2_10:=(Puts.row p10 r2_9 (Qae r2_8 l43))
           have r2_11:=(Qac r2_10 e11)
           have r2_12:=(Qac r2_11 e12)
           have r2_13:=(Qac r2_12 e13)
           have r2_14:=(Puts.row p14 r2_13 (Qae r2_12 l51))
           have y6_9:=(Rely.Ext.trans y6_8 e9)
           have y6_10:=(Puts.ext p10 y6_9 (qT y6_8.size l43))
           have y6_11:=(Rely.Ext.trans y6_10 e11)
           have y6_12:=(Rely.Ext.trans y6_11 e12)
           have y6_13:=(Rely.Ext.trans y6_12 e13)
           have y6_14:=(Puts.ext p14 y6_13 (qT y6_12.size l51))
           refine Qa6 (fun v W'=>∃ u,v=.tuple #[u,.nilIface]∧Qah [x_.g,x_.mg] W14 W'∧ChLn x_.g x_.mg x_.L (x_.ts++[((n:Nat):Int)]) (max x_.pl (n+1)) (Qdd x_.ms (x_.L x_.pl) x_.pl n) W'∧Qcs W14.heap.size ((n:Nat):Int) (keyV (x_.L n)) u W') 13 #[.pointer (some ⟨gc,0,none⟩),.int .i64 ((i:Nat):Int),.int .i64 ((n:Nat):Int)] 177 rfl kj kj ((Qk4 gc gl nl cap lp _ (QbG hxo.ch (Qah.puts (Qah.step (Qah.step (Qah.step (Qah.puts (Qah.step (Qah.puts (Qah.step (Qah.refl [x_.g,x_.mg] V2) e7) p8 (.inr (qT (qR _) l30))) e9) p10 (.inr (qT (qT (qT (qR _) e7.size) (qE p8.2.2.2.1.symm)) l43))) e11) e12) e13) p14 (.inr (qT (qT (qT (qT (qT (qT (qT (qR _) e7.size) (qE p8.2.2.2.1.symm)) e9.size) (qE p10.2.2.2.1.symm)) e11.size) e12.size) l51))) hca.row (by decide)) (QbG hxo.ch (Qah.puts (Qah.step (Qah.step (Qah.step (Qah.puts (Qah.step (Qah.puts (Qah.step (Qah.refl [x_.g,x_.mg] V2) e7) p8 (.inr (qT (qR _) l30))) e9) p10 (.inr (qT (qT (qT (qR _) e7.size) (qE p8.2.2.2.1.symm)) l43))) e11) e12) e13) p14 (.inr (qT (qT (qT (qT (qT (qT (qT (qR _) e7.size) (qE p8.2.2.2.1.symm)) e9.size) (qE p10.2.2.2.1.symm)) e11.size) e12.size) l51))) hglr (by decide)) x_.g i (by omega) hpt tc tq r1_14 r2_14 (hxo.ch.ext y6_14) n he (Nat.ne_of_lt (qL (Qay hc) (qT x2.size hxg))) (Nat.ne_of_lt (qL (Qay hq) (qT x2.size hxg)))).mono (by rintro e w' ⟨v,rfl,q1,q2,q3⟩; exact ⟨_,rfl,_,rfl,q1,q2,q3⟩)) fun vv74 W15 hh74=>?_
           obtain ⟨uu74,rfl,q15,hch2,u74,rfl,hu74⟩:=hh74
           have x15:=Qeu x14 q15 (qT x2.size hxg) (qT x2.size hxmg)
           obtain ⟨a74_,c74_,rfl,-⟩:=id (OwnN.rd hu74)
           refine sg 3 kj ?_
           have r45_12:=(Qac r45_11 e12)
           have r45_13:=(Qac r45_12 e13)
           have r45_14:=(Puts.row p14 r45_13 (Qae r45_12 l51))
           have r45_15:=(Qah.row q15 r45_14 (Qax (Nat.ne_of_gt (qL hgV (qT (qT (qT (qT (qT (qR _) e7.size) (qE p8.2.2.2.1.symm)) e9.size) (qE p10.2.2.2.1.symm)) l45))) (Qax (Nat.ne_of_gt (qL hmV (qT (qT (qT (qT (qT (qR _) e7.size) (qE p8.2.2.2.1.symm)) e9.size) (qE p10.2.2.2.1.symm)) l45))) QaJ)))
           refine Qaj g45 _ (cat [#[.int .i64 ((n:Nat):Int)],ints .u8 ((keyV (x_.L n)).take 32),#[.slice a74_ ((keyV (x_.L n)).drop 32).length c74_]]) 40 r45_15 rfl kj (Qal 40 _ _ g45 40 _ _ r45_15 rfl kj kj (isz (n:=34) kj (by rw [Qaa,Qaa,Qaa]; simp only [qS,cat,((Qad _ _).trans (QaP (QaB _)))]; rfl)) (eqsz (n:=34) (by rw [Qaa,Qaa,Qaa]; simp only [qS,cat,((Qad _ _).trans (List.length_replicate (n:=32)))]; rfl) (by rw [Qaa,Qaa,Qaa]; simp only [qS,cat,((Qad _ _).trans (QaP (QaB _)))]; rfl)) (QaD _ (by intro a ha; simp only [List.mem_cons,List.not_mem_nil,or_false] at ha; rcases ha with rfl | rfl | rfl; exact (Qan _ rfl); exact (Qau _ _); exact (Qan _ rfl)))) fun W16 p16 r45_16=>?_
           have x16:=Puts.ext p16 x15 b45
           refine sg 1 kj <| sgN hK73 <| Qaf ?_
           have r43_13:=(Qac r43_12 e13)
           have r43_14:=(Puts.row p14 r43_13 (Qae r43_12 l51))
           have r43_15:=(Qah.row q15 r43_14 (Qax (Nat.ne_of_gt (qL hgV (qT (qT (qT (qR _) e7.size) (qE p8.2.2.2.1.symm)) l43))) (Qax (Nat.ne_of_gt (qL hmV (qT (qT (qT (qR _) e7.size) (qE p8.2.2.2.1.symm)) l43))) QaJ)))
           have r43_16:=(Puts.row p16 r43_15 (Qae r43_10 l45))
           refine Qab (.agg (cat [ints .u8 (x_.L x_.pl),#[.int .i64 ((x_.pl:Nat):Int)],#[.slice x_.ha x_.t0.length x_.hc],#[.slice x_.za x_.zs.length x_.zc],#[.int .i64 ((x_.lo:Nat):Int)]])) 181 rfl kj (Qaq 34 _ g43 34 _ _ r43_16 rfl kj kj (isz (n:=36) kj (by rw [Qaa,Qaa,Qaa,Qaa,Qaa]; simp only [qS,cat,((Qad _ _).trans (hx_32))]; rfl))) ?_
           refine sg 1 kj ?_
           have r30_15:=(Qah.row q15 r30_14 (Qax (Nat.ne_of_gt (qL hgV (qT (qR _) l30))) (Qax (Nat.ne_of_gt (qL hmV (qT (qR _) l30))) QaJ)))
           have r30_16:=(Puts.row p16 r30_15 (Qae r30_10 l45))
           refine Qab (.int .i64 ((n:Nat):Int)) 183 rfl kj (Qag 3 _ g30 2 36 _ (.int .i64 ((n:Nat):Int)) _ r30_16 rfl kj kj kj) <| Qa6 (fun v W'=>∃ (q:Hd) (y:Lf),v=.tuple #[.agg (cat (hdP q)),.agg (cat (lnP y)),.int .i64 0]∧TkR x_ n q y W16 W') 19 #[.agg (cat [ints .u8 (x_.L x_.pl),#[.int .i64 ((x_.pl:Nat):Int)],#[.slice x_.ha x_.t0.length x_.hc],#[.slice x_.za x_.zs.length x_.zc],#[.int .i64 ((x_.lo:Nat):Int)]]),.int .i64 ((n:Nat):Int)] 184 rfl kj kj (tkI x_ _ (QgR hxo.ch (Qah.puts (Qah.keeps (Qah.puts (Qah.step (Qah.step (Qah.step (Qah.puts (Qah.step (Qah.puts (Qah.step (Qah.refl [x_.g,x_.mg] V2) e7) p8 (.inr (qT (qR _) l30))) e9) p10 (.inr (qT (qT (qT (qR _) e7.size) (qE p8.2.2.2.1.symm)) l43))) e11) e12) e13) p14 (.inr (qT (qT (qT (qT (qT (qT (qT (qR _) e7.size) (qE p8.2.2.2.1.symm)) e9.size) (qE p10.2.2.2.1.symm)) e11.size) e12.size) l51))) q15 (fun c hc=>.inl hc)) p16 (.inr (qT (qT (qT (qT (qT (qR _) e7.size) (qE p8.2.2.2.1.symm)) e9.size) (qE p10.2.2.2.1.symm)) l45))) hxo.lr) (by omega) n he) fun vv75 W17 hh75=>?_
           obtain ⟨q_,y,rfl,htk⟩:=hh75
           have e17:=htk.ext
           have hq_l:=htk.qi.len
           have hy32:(y.L y.pl).length=32:=by obtain ⟨rs,ar,cr,za,zc,rfl⟩:=htk.eq; exact hxo.ch.len _
           have x17:=Ext.tr x16 e17
           refine sg 4 kj ?_
           have r47_13:=(Qac r47_12 e13)
           have r47_14:=(Puts.row p14 r47_13 (Qae r47_12 l51))
           have r47_15:=(Qah.row q15 r47_14 (Qax (Nat.ne_of_gt (qL hgV (qT (qT (qT (qT (qT (qT (qR _) e7.size) (qE p8.2.2.2.1.symm)) e9.size) (qE p10.2.2.2.1.symm)) e11.size) l47))) (Qax (Nat.ne_of_gt (qL hmV (qT (qT (qT (qT (qT (qT (qR _) e7.size) (qE p8.2.2.2.1.symm)) e9.size) (qE p10.2.2.2.1.symm)) e11.size) l47))) QaJ)))
           have r47_16:=(Puts.row p16 r47_15 (Qa8 r45_11 l47))
           have r47_17:=(Qac r47_16 e17)
           refine Qaj g47 _ (cat [#[.int .i64 ((q_.n:Nat):Int)],ints .u8 (q_.m.take 32),#[hdU q_]]) 50 r47_17 rfl kj (Qal 50 _ _ g47 50 _ _ r47_17 rfl kj kj (isz (n:=34) kj (by rw [Qaa,Qaa,Qaa]; simp only [qS,cat,((Qad _ _).trans (QaP hq_l))]; rfl)) (eqsz (n:=34) (by rw [Qaa,Qaa,Qaa]; simp only [qS,cat,((Qad _ _).trans (List.length_replicate (n:=32)))]; rfl) (by rw [Qaa,Qaa,Qaa]; simp only [qS,cat,((Qad _ _).trans (QaP hq_l))]; rfl)) (QaD _ (by intro a ha; simp only [List.mem_cons,List.not_mem_nil,or_false] at ha; rcases ha with rfl | rfl | rfl; exact (Qan _ rfl); exact (Qau _ _); exact (Qan _ rfl)))) fun W18 p18 r47_18=>?_
           have x18:=Puts.ext p18 x17 b47
           have r51_15:=(Qah.row q15 r51_14 (Qax (Nat.ne_of_gt (qL hgV (qT (qT (qT (qT (qT (qT (qT (qR _) e7.size) (qE p8.2.2.2.1.symm)) e9.size) (qE p10.2.2.2.1.symm)) e11.size) e12.size) l51))) (Qax (Nat.ne_of_gt (qL hmV (qT (qT (qT (qT (qT (qT (qT (qR _) e7.size) (qE p8.2.2.2.1.symm)) e9.size) (qE p10.2.2.2.1.symm)) e11.size) e12.size) l51))) QaJ)))
           have r51_16:=(Puts.row p16 r51_15 (Qa8 r45_12 l51))
           have r51_17:=(Qac r51_16 e17)
           have r51_18:=(Puts.row p18 r51_17 (Qa8 r47_12 l51))
           refine Qaj g51 _ (cat [ints .u8 (y.L y.pl),#[.int .i64 ((y.pl:Nat):Int)],#[.slice y.ha y.t0.length y.hc],#[.slice y.za y.zs.length y.zc],#[.int .i64 ((y.lo:Nat):Int)]]) 34 r51_18 rfl kj (Qal 34 _ _ g51 34 _ _ r51_18 rfl kj kj (isz (n:=36) kj (by rw [Qaa,Qaa,Qaa,Qaa,Qaa]; simp only [qS,cat,((Qad _ _).trans (hy32))]; rfl)) (eqsz (n:=36) (by rw [Qaa,Qaa,Qaa,Qaa,Qaa]; simp only [qS,cat,((Qad _ _).trans (hx_32))]; rfl) (by rw [Qaa,Qaa,Qaa,Qaa,Qaa]; simp only [qS,cat,((Qad _ _).trans (hy32))]; rfl)) (QaD _ (by intro a ha; simp only [List.mem_cons,List.not_mem_nil,or_false] at ha; rcases ha with rfl | rfl | rfl | rfl | rfl; exact (Qau _ _); exact (Qan _ rfl); exact (Qan _ rfl); exact (Qan _ rfl); exact (Qan _ rfl)))) fun W19 p19 r51_19=>?_
           have x19:=Puts.ext p19 x18 b51
           refine sg 1 kj <| Qak ?_
           have r47_19:=(Puts.row p19 r47_18 (Qae r47_12 l51))
           have r20j:=r47_19
           rw [htk.qn,htk.qm] at r20j
           have hye:y.g=x_.g∧y.mg=x_.mg∧y.zs.length≤r+1∧ChLn y.g y.mg y.L y.ts y.pl y.ms W19:=by
            obtain ⟨rs,ar,cr,za,zc,rfl⟩:=htk.eq
            exact ⟨rfl,rfl,by show (x_.zs++[_]).length≤_; rw [List.length_append]; exact Nat.add_le_add_right hxz 1,(ChLn.keep (ChLn.keep (ChLn.ext (ChLn.keep hch2 (p16.2.2.2.2 _ (Nat.ne_of_lt (qL hgV (qT (qT (qT (qT (qT (qR _) e7.size) (qE p8.2.2.2.1.symm)) e9.size) (qE p10.2.2.2.1.symm)) l45)))) (p16.2.2.2.2 _ (Nat.ne_of_lt (qL hmV (qT (qT (qT (qT (qT (qR _) e7.size) (qE p8.2.2.2.1.symm)) e9.size) (qE p10.2.2.2.1.symm)) l45))))) e17) (p18.2.2.2.2 _ (Nat.ne_of_lt (qL hgV (qT (qT (qT (qT (qT (qT (qR _) e7.size) (qE p8.2.2.2.1.symm)) e9.size) (qE p10.2.2.2.1.symm)) e11.size) l47)))) (p18.2.2.2.2 _ (Nat.ne_of_lt (qL hmV (qT (qT (qT (qT (qT (qT (qR _) e7.size) (qE p8.2.2.2.1.symm)) e9.size) (qE p10.2.2.2.1.symm)) e11.size) l47))))) (p19.2.2.2.2 _ (Nat.ne_of_lt (qL hgV (qT (qT (qT (qT (qT (qT (qT (qR _) e7.size) (qE p8.2.2.2.1.symm)) e9.size) (qE p10.2.2.2.1.symm)) e11.size) e12.size) l51)))) (p19.2.2.2.2 _ (Nat.ne_of_lt (qL hmV (qT (qT (qT (qT (qT (qT (qT (qR _) e7.size) (qE p8.2.2.2.1.symm)) e9.size) (qE p10.2.2.2.1.symm)) e11.size) e12.size) l51)))))⟩
           have hel9:=(QaV (QaV htk.el (QaA p18 r47_17) (by decide)) (QaA p19 r51_18) (by decide))
           have hyo1:LfOk y W19:=Qmr hxo.lr he htk hye.2.2.2 (Qex (QbV (QbV htk.hd p18 (Qay r47_16)) p19 (Qay r51_16)) (Nat.zero_le _)) (fun e he=>(hel9 e he).inn) (OwnN.base (Nat.zero_le _) (QaI (QaI htk.zo (QaA p18 r47_17) (by decide)) (QaA p19 r51_18) (by decide)))
           have r30_17:=(Qac r30_16 e17)
           have r30_18:=(Puts.row p18 r30_17 (Qae r30_11 l47))
           have r30_19:=(Puts.row p19 r30_18 (Qae r30_12 l51))
           have r45_17:=(Qac r45_16 e17)
           have r45_18:=(Puts.row p18 r45_17 (Qae r45_11 l47))
           have r45_19:=(Puts.row p19 r45_18 (Qae r45_12 l51))
           exact Qcq (K:=K55) [(7,.pointer (some ⟨gc,0,none⟩)),(8,.slice (some ⟨ul,0,none⟩) nl uc),(11,.pointer (some ⟨g30,0,none⟩)),(19,.pointer (some ⟨g45,0,none⟩)),(20,.pointer (some ⟨g47,0,none⟩)),(23,.pointer (some ⟨g51,0,none⟩)),(53,.slice a_o m c_o),(54,.int .i64 ((m:Nat):Int)),(55,.int .i64 ((r:Nat):Int)),(21,errV 0),(22,.int .i64 0)] (hJ55 y ((n:Nat):Int) ((keyV (x_.L n)).take 32) ((keyV (x_.L n)).drop 32) (.slice a74_ ((keyV (x_.L n)).drop 32).length c74_) (hdU q_) 0 _ _ hyo1 hye.1 hye.2.1 hye.2.2.1 (Qah.puts (Qah.puts (Qah.step (Qah.puts (Qah.keeps (Qah.puts (Qah.step (Qah.step (Qah.step (Qah.puts (Qah.step (Qah.puts (Qah.step (Qah.refl [x_.g,x_.mg] V2) e7) p8 (.inr (qT (qR _) l30))) e9) p10 (.inr (qT (qT (qT (qR _) e7.size) (qE p8.2.2.2.1.symm)) l43))) e11) e12) e13) p14 (.inr (qT (qT (qT (qT (qT (qT (qT (qR _) e7.size) (qE p8.2.2.2.1.symm)) e9.size) (qE p10.2.2.2.1.symm)) e11.size) e12.size) l51))) q15 (fun c hc=>.inl hc)) p16 (.inr (qT (qT (qT (qT (qT (qR _) e7.size) (qE p8.2.2.2.1.symm)) e9.size) (qE p10.2.2.2.1.symm)) l45))) e17) p18 (.inr (qT (qT (qT (qT (qT (qT (qR _) e7.size) (qE p8.2.2.2.1.symm)) e9.size) (qE p10.2.2.2.1.symm)) e11.size) l47))) p19 (.inr (qT (qT (qT (qT (qT (qT (qT (qR _) e7.size) (qE p8.2.2.2.1.symm)) e9.size) (qE p10.2.2.2.1.symm)) e11.size) e12.size) l51))) (QaP (QaB _)) (fun z hz=>QcI _ z (List.mem_of_mem_drop hz)) (.inr ⟨OwnN.base (qT (qT (qT (qT (qT (qT (qT (qT (qR _) e7.size) (qE p8.2.2.2.1.symm)) e9.size) (qE p10.2.2.2.1.symm)) e11.size) e12.size) e13.size) (qE p14.2.2.2.1.symm)) (QaI (QaI (QaI (QaI hu74 (QaA p16 r45_15) (by decide)) (QaG 0 e17) (by decide)) (QaA p18 r47_17) (by decide)) (QaA p19 r51_18) (by decide)),by rw [List.length_drop,QaB]; decide,by rw [List.length_drop,QaB]; decide⟩) (.inr ⟨q_,rfl,by rw [htk.qm],(Qcf (Qcf htk.qi (QaA p18 r47_17) (by decide)) (QaA p19 r51_18) (by decide))⟩) (fun e he b hb hn=>by
             rcases (hel9 e he).new with h9 | h9
             ·exact QiP ((hxo.el e h9).own) (qT (qT (qT (qT (qT (qT (qT (qT (qR _) e7.size) (qE p8.2.2.2.1.symm)) e9.size) (qE p10.2.2.2.1.symm)) e11.size) e12.size) e13.size) (qE p14.2.2.2.1.symm)) hb hu74 hn
             ·exact QkD h9 (qT (qR _) (qE p16.2.2.2.1.symm)) hb hu74 hn) r30_19 r45_19 r20j r51_19 x19) ⟨rfl,rfl,rfl,rfl,rfl,rfl,rfl,rfl,rfl,(Qb9 rfl).symm,rfl,trivial⟩
          ·skip
           refine Qaf <| sg 2 kj <| Qab (.int .i64 ((i:Nat):Int)) 174 rfl kj (Qag 3 _ g30 1 36 _ (.int .i64 ((i:Nat):Int)) _ r30_14 rfl kj kj kj) <| sg 1 kj <| Qab (.int .i64 on) 176 rfl kj (Qag 3 _ g30 2 36 _ (.int .i64 on) _ r30_14 rfl kj kj kj) ?_
           have r1_7:=(Qac (Qac hc xx2) e7)
           have r1_8:=(Puts.row p8 r1_7 (Qae (Qac hc xx2) l30))
           have r1_9:=(Qac r1_8 e9)
           have r1_10:=(Puts.row p10 r1_9 (Qae r1_8 l43))
           have r1_11:=(Qac r1_10 e11)
           have r1_12:=(Qac r1_11 e12)
           have r1_13:=(Qac r1_12 e13)
           have r1_14:=(Puts.row p14 r1_13 (Qae r1_12 l51))
           have r2_7:=(Qac (Qac hq xx2) e7)
           have r2_8:=(Puts.row p8 r2_7 (Qae (Qac hq xx2) l30))
           have r2_9:=(Qac r2_8 e9)
           have r2_10:=(Puts.row p10 r2_9 (Qae r2_8 l43))
           have r2_11:=(Qac r2_10 e11)
           have r2_12:=(Qac r2_11 e12)
           have r2_13:=(Qac r2_12 e13)
           have r2_14:=(Puts.row p14 r2_13 (Qae r2_12 l51))
           have y6_9:=(Rely.Ext.trans y6_8 e9)
           have y6_10:=(Puts.ext p10 y6_9 (qT y6_8.size l43))
           have y6_11:=(Rely.Ext.trans y6_10 e11)
           have y6_12:=(Rely.Ext.trans y6_11 e12)
           have y6_13:=(Rely.Ext.trans y6_12 e13)
           have y6_14:=(Puts.ext p14 y6_13 (qT y6_12.size l51))
           refine Qar (.tuple #[.agg (cat [#[.int .i64 0],ints .u8 (List.replicate 32 0),#[.slice none 0 0]]),.iface 47 (.int .i64 (chkN x_.ts x_.pl (on)))]) 13 #[.pointer (some ⟨gc,0,none⟩),.int .i64 ((i:Nat):Int),.int .i64 on] 177 rfl kj kj (Qix gc gl nl cap lp _ (QbG hxo.ch (Qah.puts (Qah.step (Qah.step (Qah.step (Qah.puts (Qah.step (Qah.puts (Qah.step (Qah.refl [x_.g,x_.mg] V2) e7) p8 (.inr (qT (qR _) l30))) e9) p10 (.inr (qT (qT (qT (qR _) e7.size) (qE p8.2.2.2.1.symm)) l43))) e11) e12) e13) p14 (.inr (qT (qT (qT (qT (qT (qT (qT (qR _) e7.size) (qE p8.2.2.2.1.symm)) e9.size) (qE p10.2.2.2.1.symm)) e11.size) e12.size) l51))) hca.row (by decide)) (QbG hxo.ch (Qah.puts (Qah.step (Qah.step (Qah.step (Qah.puts (Qah.step (Qah.puts (Qah.step (Qah.refl [x_.g,x_.mg] V2) e7) p8 (.inr (qT (qR _) l30))) e9) p10 (.inr (qT (qT (qT (qR _) e7.size) (qE p8.2.2.2.1.symm)) l43))) e11) e12) e13) p14 (.inr (qT (qT (qT (qT (qT (qT (qT (qR _) e7.size) (qE p8.2.2.2.1.symm)) e9.size) (qE p10.2.2.2.1.symm)) e11.size) e12.size) l51))) hglr (by decide)) x_.g i (by omega) hpt tc tq r1_14 r2_14 (hxo.ch.ext y6_14) on he) fun W15 e15=>?_
           have x15:=Ext.tr x14 e15
           refine sg 3 kj ?_
           have r45_12:=(Qac r45_11 e12)
           have r45_13:=(Qac r45_12 e13)
           have r45_14:=(Puts.row p14 r45_13 (Qae r45_12 l51))
           have r45_15:=(Qac r45_14 e15)
           refine Qaj g45 _ (cat [#[.int .i64 0],ints .u8 (List.replicate 32 0),#[.slice none 0 0]]) 40 r45_15 rfl kj (Qal 40 _ _ g45 40 _ _ r45_15 rfl kj kj (isz (n:=34) kj (by rw [Qaa,Qaa,Qaa]; simp only [qS,cat,((Qad _ _).trans (List.length_replicate (n:=32)))]; rfl)) (eqsz (n:=34) (by rw [Qaa,Qaa,Qaa]; simp only [qS,cat,((Qad _ _).trans (List.length_replicate (n:=32)))]; rfl) (by rw [Qaa,Qaa,Qaa]; simp only [qS,cat,((Qad _ _).trans (List.length_replicate (n:=32)))]; rfl)) (QaD _ (by intro a ha; simp only [List.mem_cons,List.not_mem_nil,or_false] at ha; rcases ha with rfl | rfl | rfl; exact (Qan _ rfl); exact (Qau _ _); exact (Qan _ rfl)))) fun W16 p16 r45_16=>?_
           have x16:=Puts.ext p16 x15 b45
           refine sg 1 kj <| sgN hK73 <| Qaf ?_
           have r43_13:=(Qac r43_12 e13)
           have r43_14:=(Puts.row p14 r43_13 (Qae r43_12 l51))
           have r43_15:=(Qac r43_14 e15)
           have r43_16:=(Puts.row p16 r43_15 (Qae r43_10 l45))
           refine Qab (.agg (cat [ints .u8 (x_.L x_.pl),#[.int .i64 ((x_.pl:Nat):Int)],#[.slice x_.ha x_.t0.length x_.hc],#[.slice x_.za x_.zs.length x_.zc],#[.int .i64 ((x_.lo:Nat):Int)]])) 181 rfl kj (Qaq 34 _ g43 34 _ _ r43_16 rfl kj kj (isz (n:=36) kj (by rw [Qaa,Qaa,Qaa,Qaa,Qaa]; simp only [qS,cat,((Qad _ _).trans (hx_32))]; rfl))) ?_
           refine sg 1 kj ?_
           have r30_15:=(Qac r30_14 e15)
           have r30_16:=(Puts.row p16 r30_15 (Qae r30_10 l45))
           refine Qab (.int .i64 on) 183 rfl kj (Qag 3 _ g30 2 36 _ (.int .i64 on) _ r30_16 rfl kj kj kj) <| Qar (.tuple #[.agg (cat [#[.int .i64 0],ints .u8 (List.replicate 32 0),#[.slice none 0 0]]),.agg (cat [ints .u8 (x_.L x_.pl),#[.int .i64 ((x_.pl:Nat):Int)],#[.slice x_.ha x_.t0.length x_.hc],#[.slice x_.za x_.zs.length x_.zc],#[.int .i64 ((x_.lo:Nat):Int)]]),.int .i64 (chkN x_.ts x_.pl (on))]) 19 #[.agg (cat [ints .u8 (x_.L x_.pl),#[.int .i64 ((x_.pl:Nat):Int)],#[.slice x_.ha x_.t0.length x_.hc],#[.slice x_.za x_.zs.length x_.zc],#[.int .i64 ((x_.lo:Nat):Int)]]),.int .i64 on] 184 rfl kj kj (tkE x_ _ (QgR hxo.ch (Qah.puts (Qah.step (Qah.puts (Qah.step (Qah.step (Qah.step (Qah.puts (Qah.step (Qah.puts (Qah.step (Qah.refl [x_.g,x_.mg] V2) e7) p8 (.inr (qT (qR _) l30))) e9) p10 (.inr (qT (qT (qT (qR _) e7.size) (qE p8.2.2.2.1.symm)) l43))) e11) e12) e13) p14 (.inr (qT (qT (qT (qT (qT (qT (qT (qR _) e7.size) (qE p8.2.2.2.1.symm)) e9.size) (qE p10.2.2.2.1.symm)) e11.size) e12.size) l51))) e15) p16 (.inr (qT (qT (qT (qT (qT (qR _) e7.size) (qE p8.2.2.2.1.symm)) e9.size) (qE p10.2.2.2.1.symm)) l45))) hxo.lr) (by omega) (on) he) fun W17 e17=>?_
           have x17:=Ext.tr x16 e17
           refine sg 4 kj ?_
           have r47_13:=(Qac r47_12 e13)
           have r47_14:=(Puts.row p14 r47_13 (Qae r47_12 l51))
           have r47_15:=(Qac r47_14 e15)
           have r47_16:=(Puts.row p16 r47_15 (Qa8 r45_11 l47))
           have r47_17:=(Qac r47_16 e17)
           refine Qaj g47 _ (cat [#[.int .i64 0],ints .u8 (List.replicate 32 0),#[.slice none 0 0]]) 50 r47_17 rfl kj (Qal 50 _ _ g47 50 _ _ r47_17 rfl kj kj (isz (n:=34) kj (by rw [Qaa,Qaa,Qaa]; simp only [qS,cat,((Qad _ _).trans (List.length_replicate (n:=32)))]; rfl)) (eqsz (n:=34) (by rw [Qaa,Qaa,Qaa]; simp only [qS,cat,((Qad _ _).trans (List.length_replicate (n:=32)))]; rfl) (by rw [Qaa,Qaa,Qaa]; simp only [qS,cat,((Qad _ _).trans (List.length_replicate (n:=32)))]; rfl)) (QaD _ (by intro a ha; simp only [List.mem_cons,List.not_mem_nil,or_false] at ha; rcases ha with rfl | rfl | rfl; exact (Qan _ rfl); exact (Qau _ _); exact (Qan _ rfl)))) fun W18 p18 r47_18=>?_
           have x18:=Puts.ext p18 x17 b47
           have r51_15:=(Qac r51_14 e15)
           have r51_16:=(Puts.row p16 r51_15 (Qa8 r45_12 l51))
           have r51_17:=(Qac r51_16 e17)
           have r51_18:=(Puts.row p18 r51_17 (Qa8 r47_12 l51))
           refine Qaj g51 _ (cat [ints .u8 (x_.L x_.pl),#[.int .i64 ((x_.pl:Nat):Int)],#[.slice x_.ha x_.t0.length x_.hc],#[.slice x_.za x_.zs.length x_.zc],#[.int .i64 ((x_.lo:Nat):Int)]]) 34 r51_18 rfl kj (Qal 34 _ _ g51 34 _ _ r51_18 rfl kj kj (isz (n:=36) kj (by rw [Qaa,Qaa,Qaa,Qaa,Qaa]; simp only [qS,cat,((Qad _ _).trans (hx_32))]; rfl)) (eqsz (n:=36) (by rw [Qaa,Qaa,Qaa,Qaa,Qaa]; simp only [qS,cat,((Qad _ _).trans (hx_32))]; rfl) (by rw [Qaa,Qaa,Qaa,Qaa,Qaa]; simp only [qS,cat,((Qad _ _).trans (hx_32))]; rfl)) (QaD _ (by intro a ha; simp only [List.mem_cons,List.not_mem_nil,or_false] at ha; rcases ha with rfl | rfl | rfl | rfl | rfl; exact (Qau _ _); exact (Qan _ rfl); exact (Qan _ rfl); exact (Qan _ rfl); exact (Qan _ rfl)))) fun W19 p19 r51_19=>?_
           have x19:=Puts.ext p19 x18 b51
           refine sg 1 kj <| Qak ?_
           have y6_15:=(Rely.Ext.trans y6_14 e15)
           have y6_16:=(Puts.ext p16 y6_15 (qT y6_10.size l45))
           have y6_17:=(Rely.Ext.trans y6_16 e17)
           have y6_18:=(Puts.ext p18 y6_17 (qT y6_11.size l47))
           have y6_19:=(Puts.ext p19 y6_18 (qT y6_12.size l51))
           have r30_17:=(Qac r30_16 e17)
           have r30_18:=(Puts.row p18 r30_17 (Qae r30_11 l47))
           have r30_19:=(Puts.row p19 r30_18 (Qae r30_12 l51))
           have r45_17:=(Qac r45_16 e17)
           have r45_18:=(Puts.row p18 r45_17 (Qae r45_11 l47))
           have r45_19:=(Puts.row p19 r45_18 (Qae r45_12 l51))
           have r47_19:=(Puts.row p19 r47_18 (Qae r47_12 l51))
           exact Qcq (K:=K55) [(7,.pointer (some ⟨gc,0,none⟩)),(8,.slice (some ⟨ul,0,none⟩) nl uc),(11,.pointer (some ⟨g30,0,none⟩)),(19,.pointer (some ⟨g45,0,none⟩)),(20,.pointer (some ⟨g47,0,none⟩)),(23,.pointer (some ⟨g51,0,none⟩)),(53,.slice a_o m c_o),(54,.int .i64 ((m:Nat):Int)),(55,.int .i64 ((r:Nat):Int)),(21,errV (chkN x_.ts x_.pl (on))),(22,.int .i64 (chkN x_.ts x_.pl (on)))] (hJ55 x_ 0 (List.replicate 32 0) ([]) (.slice none 0 0) (.slice none 0 0) (chkN x_.ts x_.pl (on)) _ _ (Qb8 hxo y6_19) rfl rfl (by omega) (Qah.puts (Qah.puts (Qah.step (Qah.puts (Qah.step (Qah.puts (Qah.step (Qah.step (Qah.step (Qah.puts (Qah.step (Qah.puts (Qah.step (Qah.refl [x_.g,x_.mg] V2) e7) p8 (.inr (qT (qR _) l30))) e9) p10 (.inr (qT (qT (qT (qR _) e7.size) (qE p8.2.2.2.1.symm)) l43))) e11) e12) e13) p14 (.inr (qT (qT (qT (qT (qT (qT (qT (qR _) e7.size) (qE p8.2.2.2.1.symm)) e9.size) (qE p10.2.2.2.1.symm)) e11.size) e12.size) l51))) e15) p16 (.inr (qT (qT (qT (qT (qT (qR _) e7.size) (qE p8.2.2.2.1.symm)) e9.size) (qE p10.2.2.2.1.symm)) l45))) e17) p18 (.inr (qT (qT (qT (qT (qT (qT (qR _) e7.size) (qE p8.2.2.2.1.symm)) e9.size) (qE p10.2.2.2.1.symm)) e11.size) l47))) p19 (.inr (qT (qT (qT (qT (qT (qT (qT (qR _) e7.size) (qE p8.2.2.2.1.symm)) e9.size) (qE p10.2.2.2.1.symm)) e11.size) e12.size) l51))) (List.length_replicate (n:=32)) (fun z hz=>by cases hz) (.inl ⟨rfl,rfl⟩) (.inl ⟨rfl,rfl⟩) (fun e he b hb hn=>by cases hn) r30_19 r45_19 r47_19 r51_19 x19) ⟨rfl,rfl,rfl,rfl,rfl,rfl,rfl,rfl,rfl,(Qcj he).symm,rfl,trivial⟩
         ·skip
          refine sgB kj <| Qa3 (t:=(kd==2)) kj (fun c77=>?_) (fun c77=>?_)
          ·skip
           refine wp_seq_k fun K78 hK78=>?_
           rcases (show chkN x_.ts x_.pl (on)=0∨chkN x_.ts x_.pl (on)≠0 from Decidable.em _) with he | he
           ·skip
            obtain ⟨n,hnn⟩:∃ n:Nat,on=((n:Nat):Int):=⟨on.toNat,by have:=(Qce (Qc0 he).1).1; omega⟩
            subst hnn
            refine Qaf <| sg 2 kj <| Qab (.int .i64 ((i:Nat):Int)) 193 rfl kj (Qag 3 _ g30 1 36 _ (.int .i64 ((i:Nat):Int)) _ r30_14 rfl kj kj kj) <| sg 1 kj <| Qab (.int .i64 ((n:Nat):Int)) 195 rfl kj (Qag 3 _ g30 2 36 _ (.int .i64 ((n:Nat):Int)) _ r30_14 rfl kj kj kj) ?_
            have r1_7:=(Qac (Qac hc xx2) e7)
            have r1_8:=(Puts.row p8 r1_7 (Qae (Qac hc xx2) l30))
            have r1_9:=(Qac r1_8 e9)
            have r1_10:=(Puts.row p10 r1_9 (Qae r1_8 l43))
            have r1_11:=(Qac r1_10 e11)
            have r1_12:=(Qac r1_11 e12)
            have r1_13:=(Qac r1_12 e13)
            have r1_14:=(Puts.row p14 r1_13 (Qae r1_12 l51))
            have r2_7:=(Qac (Qac hq xx2) e7)
            have r2_8:=(Puts.row p8 r2_7 (Qae (Qac hq xx2) l30))
            have r2_9:=(Qac r2_8 e9)
            have r2_10:=(Puts.row p10 r2_9 (Qae r2_8 l43))
            have r2_11:=(Qac r2_10 e11)
            have r2_12:=(Qac r2_11 e12)
            have r2_13:=(Qac r2_12 e13)
            have r2_14:=(Puts.row p14 r2_13 (Qae r2_12 l51))
            have y6_9:=(Rely.Ext.trans y6_8 e9)
            have y6_10:=(Puts.ext p10 y6_9 (qT y6_8.size l43))
            have y6_11:=(Rely.Ext.trans y6_10 e11)
            have y6_12:=(Rely.Ext.trans y6_11 e12)
            have y6_13:=(Rely.Ext.trans y6_12 e13)
            have y6_14:=(Puts.ext p14 y6_13 (qT y6_12.size l51))
            refine Qa6 (fun v W'=>(fun v W=>∃ u,v=.tuple #[u,.nilIface]∧Qcs W14.heap.size ((n:Nat):Int) (keyV (x_.L n)) u W) v W'∧Ext W14 W') 14 #[.pointer (some ⟨gc,0,none⟩),.int .i64 ((i:Nat):Int),.int .i64 ((n:Nat):Int)] 196 rfl kj kj ((Qm9 gc gl nl cap lp _ (QbG hxo.ch (Qah.puts (Qah.step (Qah.step (Qah.step (Qah.puts (Qah.step (Qah.puts (Qah.step (Qah.refl [x_.g,x_.mg] V2) e7) p8 (.inr (qT (qR _) l30))) e9) p10 (.inr (qT (qT (qT (qR _) e7.size) (qE p8.2.2.2.1.symm)) l43))) e11) e12) e13) p14 (.inr (qT (qT (qT (qT (qT (qT (qT (qR _) e7.size) (qE p8.2.2.2.1.symm)) e9.size) (qE p10.2.2.2.1.symm)) e11.size) e12.size) l51))) hca.row (by decide)) (QbG hxo.ch (Qah.puts (Qah.step (Qah.step (Qah.step (Qah.puts (Qah.step (Qah.puts (Qah.step (Qah.refl [x_.g,x_.mg] V2) e7) p8 (.inr (qT (qR _) l30))) e9) p10 (.inr (qT (qT (qT (qR _) e7.size) (qE p8.2.2.2.1.symm)) l43))) e11) e12) e13) p14 (.inr (qT (qT (qT (qT (qT (qT (qT (qR _) e7.size) (qE p8.2.2.2.1.symm)) e9.size) (qE p10.2.2.2.1.symm)) e11.size) e12.size) l51))) hglr (by decide)) x_.g i (by omega) hpt tc tq r1_14 r2_14 (hxo.ch.ext y6_14) n he).mono (by rintro e w' ⟨v,rfl,e1,hv⟩; exact ⟨v,rfl,hv,e1⟩)) fun vv79 W15 hh79=>?_
            obtain ⟨hv79,e15⟩:=hh79
            have x15:=Ext.tr x14 e15
            obtain ⟨uu80,rfl,u80,rfl,hu80⟩:=hv79
            obtain ⟨a80_,c80_,rfl,-⟩:=id (OwnN.rd hu80)
            refine sg 3 kj ?_
            have r45_12:=(Qac r45_11 e12)
            have r45_13:=(Qac r45_12 e13)
            have r45_14:=(Puts.row p14 r45_13 (Qae r45_12 l51))
            have r45_15:=(Qac r45_14 e15)
            refine Qaj g45 _ (cat [#[.int .i64 ((n:Nat):Int)],ints .u8 ((keyV (x_.L n)).take 32),#[.slice a80_ ((keyV (x_.L n)).drop 32).length c80_]]) 40 r45_15 rfl kj (Qal 40 _ _ g45 40 _ _ r45_15 rfl kj kj (isz (n:=34) kj (by rw [Qaa,Qaa,Qaa]; simp only [qS,cat,((Qad _ _).trans (QaP (QaB _)))]; rfl)) (eqsz (n:=34) (by rw [Qaa,Qaa,Qaa]; simp only [qS,cat,((Qad _ _).trans (List.length_replicate (n:=32)))]; rfl) (by rw [Qaa,Qaa,Qaa]; simp only [qS,cat,((Qad _ _).trans (QaP (QaB _)))]; rfl)) (QaD _ (by intro a ha; simp only [List.mem_cons,List.not_mem_nil,or_false] at ha; rcases ha with rfl | rfl | rfl; exact (Qan _ rfl); exact (Qau _ _); exact (Qan _ rfl)))) fun W16 p16 r45_16=>?_
            have x16:=Puts.ext p16 x15 b45
            refine sg 1 kj <| sgN hK78 <| Qaf ?_
            have r43_13:=(Qac r43_12 e13)
            have r43_14:=(Puts.row p14 r43_13 (Qae r43_12 l51))
            have r43_15:=(Qac r43_14 e15)
            have r43_16:=(Puts.row p16 r43_15 (Qae r43_10 l45))
            refine Qab (.agg (cat [ints .u8 (x_.L x_.pl),#[.int .i64 ((x_.pl:Nat):Int)],#[.slice x_.ha x_.t0.length x_.hc],#[.slice x_.za x_.zs.length x_.zc],#[.int .i64 ((x_.lo:Nat):Int)]])) 200 rfl kj (Qaq 34 _ g43 34 _ _ r43_16 rfl kj kj (isz (n:=36) kj (by rw [Qaa,Qaa,Qaa,Qaa,Qaa]; simp only [qS,cat,((Qad _ _).trans (hx_32))]; rfl))) ?_
            refine sg 1 kj ?_
            have r30_15:=(Qac r30_14 e15)
            have r30_16:=(Puts.row p16 r30_15 (Qae r30_10 l45))
            refine Qab (.int .i64 ((n:Nat):Int)) 202 rfl kj (Qag 3 _ g30 2 36 _ (.int .i64 ((n:Nat):Int)) _ r30_16 rfl kj kj kj) <| Qa6 (fun v W'=>∃ (q:Hd) (y:Lf),v=.tuple #[.agg (cat (hdP q)),.agg (cat (lnP y)),.int .i64 0]∧TkR x_ n q y W16 W') 19 #[.agg (cat [ints .u8 (x_.L x_.pl),#[.int .i64 ((x_.pl:Nat):Int)],#[.slice x_.ha x_.t0.length x_.hc],#[.slice x_.za x_.zs.length x_.zc],#[.int .i64 ((x_.lo:Nat):Int)]]),.int .i64 ((n:Nat):Int)] 203 rfl kj kj (tkI x_ _ (QgR hxo.ch (Qah.puts (Qah.step (Qah.puts (Qah.step (Qah.step (Qah.step (Qah.puts (Qah.step (Qah.puts (Qah.step (Qah.refl [x_.g,x_.mg] V2) e7) p8 (.inr (qT (qR _) l30))) e9) p10 (.inr (qT (qT (qT (qR _) e7.size) (qE p8.2.2.2.1.symm)) l43))) e11) e12) e13) p14 (.inr (qT (qT (qT (qT (qT (qT (qT (qR _) e7.size) (qE p8.2.2.2.1.symm)) e9.size) (qE p10.2.2.2.1.symm)) e11.size) e12.size) l51))) e15) p16 (.inr (qT (qT (qT (qT (qT (qR _) e7.size) (qE p8.2.2.2.1.symm)) e9.size) (qE p10.2.2.2.1.symm)) l45))) hxo.lr) (by omega) n he) fun vv81 W17 hh81=>?_
            obtain ⟨q_,y,rfl,htk⟩:=hh81
            have e17:=htk.ext
            have hq_l:=htk.qi.len
            have hy32:(y.L y.pl).length=32:=by obtain ⟨rs,ar,cr,za,zc,rfl⟩:=htk.eq; exact hxo.ch.len _
            have x17:=Ext.tr x16 e17
            refine sg 4 kj ?_
            have r47_13:=(Qac r47_12 e13)
            have r47_14:=(Puts.row p14 r47_13 (Qae r47_12 l51))
            have r47_15:=(Qac r47_14 e15)
            have r47_16:=(Puts.row p16 r47_15 (Qa8 r45_11 l47))
            have r47_17:=(Qac r47_16 e17)
            refine Qaj g47 _ (cat [#[.int .i64 ((q_.n:Nat):Int)],ints .u8 (q_.m.take 32),#[hdU q_]]) 50 r47_17 rfl kj (Qal 50 _ _ g47 50 _ _ r47_17 rfl kj kj (isz (n:=34) kj (by rw [Qaa,Qaa,Qaa]; simp only [qS,cat,((Qad _ _).trans (QaP hq_l))]; rfl)) (eqsz (n:=34) (by rw [Qaa,Qaa,Qaa]; simp only [qS,cat,((Qad _ _).trans (List.length_replicate (n:=32)))]; rfl) (by rw [Qaa,Qaa,Qaa]; simp only [qS,cat,((Qad _ _).trans (QaP hq_l))]; rfl)) (QaD _ (by intro a ha; simp only [List.mem_cons,List.not_mem_nil,or_false] at ha; rcases ha with rfl | rfl | rfl; exact (Qan _ rfl); exact (Qau _ _); exact (Qan _ rfl)))) fun W18 p18 r47_18=>?_
            have x18:=Puts.ext p18 x17 b47
            refine sg 1 kj <| Qak ?_
            have r20j:=r47_18
            rw [htk.qn,htk.qm] at r20j
            have y6_15:=(Rely.Ext.trans y6_14 e15)
            have y6_16:=(Puts.ext p16 y6_15 (qT y6_10.size l45))
            have y6_17:=(Rely.Ext.trans y6_16 e17)
            have y6_18:=(Puts.ext p18 y6_17 (qT y6_11.size l47))
            have r30_17:=(Qac r30_16 e17)
            have r30_18:=(Puts.row p18 r30_17 (Qae r30_11 l47))
            have r45_17:=(Qac r45_16 e17)
            have r45_18:=(Puts.row p18 r45_17 (Qae r45_11 l47))
            have r51_15:=(Qac r51_14 e15)
            have r51_16:=(Puts.row p16 r51_15 (Qa8 r45_12 l51))
            have r51_17:=(Qac r51_16 e17)
            have r51_18:=(Puts.row p18 r51_17 (Qa8 r47_12 l51))
            exact Qcq (K:=K55) [(7,.pointer (some ⟨gc,0,none⟩)),(8,.slice (some ⟨ul,0,none⟩) nl uc),(11,.pointer (some ⟨g30,0,none⟩)),(19,.pointer (some ⟨g45,0,none⟩)),(20,.pointer (some ⟨g47,0,none⟩)),(23,.pointer (some ⟨g51,0,none⟩)),(53,.slice a_o m c_o),(54,.int .i64 ((m:Nat):Int)),(55,.int .i64 ((r:Nat):Int)),(21,errV 0),(22,.int .i64 0)] (hJ55 x_ ((n:Nat):Int) ((keyV (x_.L n)).take 32) ((keyV (x_.L n)).drop 32) (.slice a80_ ((keyV (x_.L n)).drop 32).length c80_) (hdU q_) 0 _ _ (Qb8 hxo y6_18) rfl rfl (by omega) (Qah.puts (Qah.step (Qah.puts (Qah.step (Qah.puts (Qah.step (Qah.step (Qah.step (Qah.puts (Qah.step (Qah.puts (Qah.step (Qah.refl [x_.g,x_.mg] V2) e7) p8 (.inr (qT (qR _) l30))) e9) p10 (.inr (qT (qT (qT (qR _) e7.size) (qE p8.2.2.2.1.symm)) l43))) e11) e12) e13) p14 (.inr (qT (qT (qT (qT (qT (qT (qT (qR _) e7.size) (qE p8.2.2.2.1.symm)) e9.size) (qE p10.2.2.2.1.symm)) e11.size) e12.size) l51))) e15) p16 (.inr (qT (qT (qT (qT (qT (qR _) e7.size) (qE p8.2.2.2.1.symm)) e9.size) (qE p10.2.2.2.1.symm)) l45))) e17) p18 (.inr (qT (qT (qT (qT (qT (qT (qR _) e7.size) (qE p8.2.2.2.1.symm)) e9.size) (qE p10.2.2.2.1.symm)) e11.size) l47))) (QaP (QaB _)) (fun z hz=>QcI _ z (List.mem_of_mem_drop hz)) (.inr ⟨OwnN.base (qT (qT (qT (qT (qT (qT (qT (qT (qR _) e7.size) (qE p8.2.2.2.1.symm)) e9.size) (qE p10.2.2.2.1.symm)) e11.size) e12.size) e13.size) (qE p14.2.2.2.1.symm)) (QaI (QaI (QaI hu80 (QaA p16 r45_15) (by decide)) (QaG 0 e17) (by decide)) (QaA p18 r47_17) (by decide)),by rw [List.length_drop,QaB]; decide,by rw [List.length_drop,QaB]; decide⟩) (.inr ⟨q_,rfl,by rw [htk.qm],(Qcf htk.qi (QaA p18 r47_17) (by decide))⟩) (fun e he b hb hn=>(QiP ((hxo.el e he).own) (qT (qT (qT (qT (qT (qT (qT (qT (qR _) e7.size) (qE p8.2.2.2.1.symm)) e9.size) (qE p10.2.2.2.1.symm)) e11.size) e12.size) e13.size) (qE p14.2.2.2.1.symm)) hb hu80 hn)) r30_18 r45_18 r20j r51_18 x18) ⟨rfl,rfl,rfl,rfl,rfl,rfl,rfl,rfl,rfl,(Qb9 rfl).symm,rfl,trivial⟩
           ·skip
            refine Qaf <| sg 2 kj <| Qab (.int .i64 ((i:Nat):Int)) 193 rfl kj (Qag 3 _ g30 1 36 _ (.int .i64 ((i:Nat):Int)) _ r30_14 rfl kj kj kj) <| sg 1 kj <| Qab (.int .i64 on) 195 rfl kj (Qag 3 _ g30 2 36 _ (.int .i64 on) _ r30_14 rfl kj kj kj) ?_
            have r1_7:=(Qac (Qac hc xx2) e7)
            have r1_8:=(Puts.row p8 r1_7 (Qae (Qac hc xx2) l30))
            have r1_9:=(Qac r1_8 e9)
            have r1_10:=(Puts.row p10 r1_9 (Qae r1_8 l43))
            have r1_11:=(Qac r1_10 e11)
            have r1_12:=(Qac r1_11 e12)
            have r1_13:=(Qac r1_12 e13)
            have r1_14:=(Puts.row p14 r1_13 (Qae r1_12 l51))
            have r2_7:=(Qac (Qac hq xx2) e7)
            have r2_8:=(Puts.row p8 r2_7 (Qae (Qac hq xx2) l30))
            have r2_9:=(Qac r2_8 e9)
            have r2_10:=(Puts.row p10 r2_9 (Qae r2_8 l43))
            have r2_11:=(Qac r2_10 e11)
            have r2_12:=(Qac r2_11 e12)
            have r2_13:=(Qac r2_12 e13)
            have r2_14:=(Puts.row p14 r2_13 (Qae r2_12 l51))
            have y6_9:=(Rely.Ext.trans y6_8 e9)
            have y6_10:=(Puts.ext p10 y6_9 (qT y6_8.size l43))
            have y6_11:=(Rely.Ext.trans y6_10 e11)
            have y6_12:=(Rely.Ext.trans y6_11 e12)
            have y6_13:=(Rely.Ext.trans y6_12 e13)
            have y6_14:=(Puts.ext p14 y6_13 (qT y6_12.size l51))
            refine Qar (.tuple #[.agg (cat [#[.int .i64 0],ints .u8 (List.replicate 32 0),#[.slice none 0 0]]),.iface 47 (.int .i64 (chkN x_.ts x_.pl (on)))]) 14 #[.pointer (some ⟨gc,0,none⟩),.int .i64 ((i:Nat):Int),.int .i64 on] 196 rfl kj kj (Ql3 gc gl nl cap lp _ (QbG hxo.ch (Qah.puts (Qah.step (Qah.step (Qah.step (Qah.puts (Qah.step (Qah.puts (Qah.step (Qah.refl [x_.g,x_.mg] V2) e7) p8 (.inr (qT (qR _) l30))) e9) p10 (.inr (qT (qT (qT (qR _) e7.size) (qE p8.2.2.2.1.symm)) l43))) e11) e12) e13) p14 (.inr (qT (qT (qT (qT (qT (qT (qT (qR _) e7.size) (qE p8.2.2.2.1.symm)) e9.size) (qE p10.2.2.2.1.symm)) e11.size) e12.size) l51))) hca.row (by decide)) (QbG hxo.ch (Qah.puts (Qah.step (Qah.step (Qah.step (Qah.puts (Qah.step (Qah.puts (Qah.step (Qah.refl [x_.g,x_.mg] V2) e7) p8 (.inr (qT (qR _) l30))) e9) p10 (.inr (qT (qT (qT (qR _) e7.size) (qE p8.2.2.2.1.symm)) l43))) e11) e12) e13) p14 (.inr (qT (qT (qT (qT (qT (qT (qT (qR _) e7.size) (qE p8.2.2.2.1.symm)) e9.size) (qE p10.2.2.2.1.symm)) e11.size) e12.size) l51))) hglr (by decide)) x_.g i (by omega) hpt tc tq r1_14 r2_14 (hxo.ch.ext y6_14) on he) fun W15 e15=>?_
            have x15:=Ext.tr x14 e15
            refine sg 3 kj ?_
            have r45_12:=(Qac r45_11 e12)
            have r45_13:=(Qac r45_12 e13)
            have r45_14:=(Puts.row p14 r45_13 (Qae r45_12 l51))
            have r45_15:=(Qac r45_14 e15)
            refine Qaj g45 _ (cat [#[.int .i64 0],ints .u8 (List.replicate 32 0),#[.slice none 0 0]]) 40 r45_15 rfl kj (Qal 40 _ _ g45 40 _ _ r45_15 rfl kj kj (isz (n:=34) kj (by rw [Qaa,Qaa,Qaa]; simp only [qS,cat,((Qad _ _).trans (List.length_replicate (n:=32)))]; rfl)) (eqsz (n:=34) (by rw [Qaa,Qaa,Qaa]; simp only [qS,cat,((Qad _ _).trans (List.length_replicate (n:=32)))]; rfl) (by rw [Qaa,Qaa,Qaa]; simp only [qS,cat,((Qad _ _).trans (List.length_replicate (n:=32)))]; rfl)) (QaD _ (by intro a ha; simp only [List.mem_cons,List.not_mem_nil,or_false] at ha; rcases ha with rfl | rfl | rfl; exact (Qan _ rfl); exact (Qau _ _); exact (Qan _ rfl)))) fun W16 p16 r45_16=>?_
            have x16:=Puts.ext p16 x15 b45
            refine sg 1 kj <| sgN hK78 <| Qaf ?_
            have r43_13:=(Qac r43_12 e13)
            have r43_14:=(Puts.row p14 r43_13 (Qae r43_12 l51))
            have r43_15:=(Qac r43_14 e15)
            have r43_16:=(Puts.row p16 r43_15 (Qae r43_10 l45))
            refine Qab (.agg (cat [ints .u8 (x_.L x_.pl),#[.int .i64 ((x_.pl:Nat):Int)],#[.slice x_.ha x_.t0.length x_.hc],#[.slice x_.za x_.zs.length x_.zc],#[.int .i64 ((x_.lo:Nat):Int)]])) 200 rfl kj (Qaq 34 _ g43 34 _ _ r43_16 rfl kj kj (isz (n:=36) kj (by rw [Qaa,Qaa,Qaa,Qaa,Qaa]; simp only [qS,cat,((Qad _ _).trans (hx_32))]; rfl))) ?_
            refine sg 1 kj ?_
            have r30_15:=(Qac r30_14 e15)
            have r30_16:=(Puts.row p16 r30_15 (Qae r30_10 l45))
            refine Qab (.int .i64 on) 202 rfl kj (Qag 3 _ g30 2 36 _ (.int .i64 on) _ r30_16 rfl kj kj kj) <| Qar (.tuple #[.agg (cat [#[.int .i64 0],ints .u8 (List.replicate 32 0),#[.slice none 0 0]]),.agg (cat [ints .u8 (x_.L x_.pl),#[.int .i64 ((x_.pl:Nat):Int)],#[.slice x_.ha x_.t0.length x_.hc],#[.slice x_.za x_.zs.length x_.zc],#[.int .i64 ((x_.lo:Nat):Int)]]),.int .i64 (chkN x_.ts x_.pl (on))]) 19 #[.agg (cat [ints .u8 (x_.L x_.pl),#[.int .i64 ((x_.pl:Nat):Int)],#[.slice x_.ha x_.t0.length x_.hc],#[.slice x_.za x_.zs.length x_.zc],#[.int .i64 ((x_.lo:Nat):Int)]]),.int .i64 on] 203 rfl kj kj (tkE x_ _ (QgR hxo.ch (Qah.puts (Qah.step (Qah.puts (Qah.step (Qah.step (Qah.step (Qah.puts (Qah.step (Qah.puts (Qah.step (Qah.refl [x_.g,x_.mg] V2) e7) p8 (.inr (qT (qR _) l30))) e9) p10 (.inr (qT (qT (qT (qR _) e7.size) (qE p8.2.2.2.1.symm)) l43))) e11) e12) e13) p14 (.inr (qT (qT (qT (qT (qT (qT (qT (qR _) e7.size) (qE p8.2.2.2.1.symm)) e9.size) (qE p10.2.2.2.1.symm)) e11.size) e12.size) l51))) e15) p16 (.inr (qT (qT (qT (qT (qT (qR _) e7.size) (qE p8.2.2.2.1.symm)) e9.size) (qE p10.2.2.2.1.symm)) l45))) hxo.lr) (by omega) (on) he) fun W17 e17=>?_
            have x17:=Ext.tr x16 e17
            refine sg 4 kj ?_
            have r47_13:=(Qac r47_12 e13)
            have r47_14:=(Puts.row p14 r47_13 (Qae r47_12 l51))
            have r47_15:=(Qac r47_14 e15)
            have r47_16:=(Puts.row p16 r47_15 (Qa8 r45_11 l47))
            have r47_17:=(Qac r47_16 e17)
            refine Qaj g47 _ (cat [#[.int .i64 0],ints .u8 (List.replicate 32 0),#[.slice none 0 0]]) 50 r47_17 rfl kj (Qal 50 _ _ g47 50 _ _ r47_17 rfl kj kj (isz (n:=34) kj (by rw [Qaa,Qaa,Qaa]; simp only [qS,cat,((Qad _ _).trans (List.length_replicate (n:=32)))]; rfl)) (eqsz (n:=34) (by rw [Qaa,Qaa,Qaa]; simp only [qS,cat,((Qad _ _).trans (List.length_replicate (n:=32)))]; rfl) (by rw [Qaa,Qaa,Qaa]; simp only [qS,cat,((Qad _ _).trans (List.length_replicate (n:=32)))]; rfl)) (QaD _ (by intro a ha; simp only [List.mem_cons,List.not_mem_nil,or_false] at ha; rcases ha with rfl | rfl | rfl; exact (Qan _ rfl); exact (Qau _ _); exact (Qan _ rfl)))) fun W18 p18 r47_18=>?_
            have x18:=Puts.ext p18 x17 b47
            refine sg 1 kj <| Qak ?_
            have y6_15:=(Rely.Ext.trans y6_14 e15)
            have y6_16:=(Puts.ext p16 y6_15 (qT y6_10.size l45))
            have y6_17:=(Rely.Ext.trans y6_16 e17)
            have y6_18:=(Puts.ext p18 y6_17 (qT y6_11.size l47))
            have r30_17:=(Qac r30_16 e17)
            have r30_18:=(Puts.row p18 r30_17 (Qae r30_11 l47))
            have r45_17:=(Qac r45_16 e17)
            have r45_18:=(Puts.row p18 r45_17 (Qae r45_11 l47))
            have r51_15:=(Qac r51_14 e15)
            have r51_16:=(Puts.row p16 r51_15 (Qa8 r45_12 l51))
            have r51_17:=(Qac r51_16 e17)
            have r51_18:=(Puts.row p18 r51_17 (Qa8 r47_12 l51))
            exact Qcq (K:=K55) [(7,.pointer (some ⟨gc,0,none⟩)),(8,.slice (some ⟨ul,0,none⟩) nl uc),(11,.pointer (some ⟨g30,0,none⟩)),(19,.pointer (some ⟨g45,0,none⟩)),(20,.pointer (some ⟨g47,0,none⟩)),(23,.pointer (some ⟨g51,0,none⟩)),(53,.slice a_o m c_o),(54,.int .i64 ((m:Nat):Int)),(55,.int .i64 ((r:Nat):Int)),(21,errV (chkN x_.ts x_.pl (on))),(22,.int .i64 (chkN x_.ts x_.pl (on)))] (hJ55 x_ 0 (List.replicate 32 0) ([]) (.slice none 0 0) (.slice none 0 0) (chkN x_.ts x_.pl (on)) _ _ (Qb8 hxo y6_18) rfl rfl (by omega) (Qah.puts (Qah.step (Qah.puts (Qah.step (Qah.puts (Qah.step (Qah.step (Qah.step (Qah.puts (Qah.step (Qah.puts (Qah.step (Qah.refl [x_.g,x_.mg] V2) e7) p8 (.inr (qT (qR _) l30))) e9) p10 (.inr (qT (qT (qT (qR _) e7.size) (qE p8.2.2.2.1.symm)) l43))) e11) e12) e13) p14 (.inr (qT (qT (qT (qT (qT (qT (qT (qR _) e7.size) (qE p8.2.2.2.1.symm)) e9.size) (qE p10.2.2.2.1.symm)) e11.size) e12.size) l51))) e15) p16 (.inr (qT (qT (qT (qT (qT (qR _) e7.size) (qE p8.2.2.2.1.symm)) e9.size) (qE p10.2.2.2.1.symm)) l45))) e17) p18 (.inr (qT (qT (qT (qT (qT (qT (qR _) e7.size) (qE p8.2.2.2.1.symm)) e9.size) (qE p10.2.2.2.1.symm)) e11.size) l47))) (List.length_replicate (n:=32)) (fun z hz=>by cases hz) (.inl ⟨rfl,rfl⟩) (.inl ⟨rfl,rfl⟩) (fun e he b hb hn=>by cases hn) r30_18 r45_18 r47_18 r51_18 x18) ⟨rfl,rfl,rfl,rfl,rfl,rfl,rfl,rfl,rfl,(Qcj he).symm,rfl,trivial⟩
          ·skip
           refine sgB kj <| wp_seq_k fun K83 hK83=>?_
           rcases (show on<((x_.pl:Nat):Int)∨(((x_.pl:Nat):Int)≤on∧4294967295<on)∨(((x_.pl:Nat):Int)≤on∧on≤4294967295) by omega) with hj | hj | hj
           ·skip
            refine Qaf ?_
            have r43_13:=(Qac r43_12 e13)
            have r43_14:=(Puts.row p14 r43_13 (Qae r43_12 l51))
            refine Qab (.agg (cat [ints .u8 (x_.L x_.pl),#[.int .i64 ((x_.pl:Nat):Int)],#[.slice x_.ha x_.t0.length x_.hc],#[.slice x_.za x_.zs.length x_.zc],#[.int .i64 ((x_.lo:Nat):Int)]])) 138 rfl kj (Qaq 34 _ g43 34 _ _ r43_14 rfl kj kj (isz (n:=36) kj (by rw [Qaa,Qaa,Qaa,Qaa,Qaa]; simp only [qS,cat,((Qad _ _).trans (hx_32))]; rfl))) ?_
            refine sg 1 kj <| Qab (.int .i64 on) 140 rfl kj (Qag 3 _ g30 2 36 _ (.int .i64 on) _ r30_14 rfl kj kj kj) <| Qar (.tuple #[.agg (cat [ints .u8 (x_.L x_.pl),#[.int .i64 ((x_.pl:Nat):Int)],#[.slice x_.ha x_.t0.length x_.hc],#[.slice x_.za x_.zs.length x_.zc],#[.int .i64 ((x_.lo:Nat):Int)]]),.bool false]) 20 #[.agg (cat [ints .u8 (x_.L x_.pl),#[.int .i64 ((x_.pl:Nat):Int)],#[.slice x_.ha x_.t0.length x_.hc],#[.slice x_.za x_.zs.length x_.zc],#[.int .i64 ((x_.lo:Nat):Int)]]),.int .i64 on] 141 rfl kj kj (QlF (x_.L x_.pl) hx_32 x_.pl x_.ha x_.za x_.t0.length x_.hc x_.zs.length x_.zc ((x_.lo:Nat):Int) on _ hj) fun W15 e15=>?_
            have x15:=Ext.tr x14 e15
            refine sg 3 kj ?_
            have r51_15:=(Qac r51_14 e15)
            refine Qaj g51 _ (cat [ints .u8 (x_.L x_.pl),#[.int .i64 ((x_.pl:Nat):Int)],#[.slice x_.ha x_.t0.length x_.hc],#[.slice x_.za x_.zs.length x_.zc],#[.int .i64 ((x_.lo:Nat):Int)]]) 34 r51_15 rfl kj (Qal 34 _ _ g51 34 _ _ r51_15 rfl kj kj (isz (n:=36) kj (by rw [Qaa,Qaa,Qaa,Qaa,Qaa]; simp only [qS,cat,((Qad _ _).trans (hx_32))]; rfl)) (eqsz (n:=36) (by rw [Qaa,Qaa,Qaa,Qaa,Qaa]; simp only [qS,cat,((Qad _ _).trans (hx_32))]; rfl) (by rw [Qaa,Qaa,Qaa,Qaa,Qaa]; simp only [qS,cat,((Qad _ _).trans (hx_32))]; rfl)) (QaD _ (by intro a ha; simp only [List.mem_cons,List.not_mem_nil,or_false] at ha; rcases ha with rfl | rfl | rfl | rfl | rfl; exact (Qau _ _); exact (Qan _ rfl); exact (Qan _ rfl); exact (Qan _ rfl); exact (Qan _ rfl)))) fun W16 p16 r51_16=>?_
            have x16:=Puts.ext p16 x15 b51
            refine sg 1 kj <| sgN hK83 <| sgC fun K84 hK84=>sg 2 kj ?_
            have r30_15:=(Qac r30_14 e15)
            have r30_16:=(Puts.row p16 r30_15 (Qae r30_12 l51))
            refine Qab (.int .i64 ((i:Nat):Int)) 146 rfl kj (Qag 3 _ g30 1 36 _ (.int .i64 ((i:Nat):Int)) _ r30_16 rfl kj kj kj) <| sg 1 kj <| Qab (.int .i64 on) 148 rfl kj (Qag 3 _ g30 2 36 _ (.int .i64 on) _ r30_16 rfl kj kj kj) ?_
            have y6_9:=(Rely.Ext.trans y6_8 e9)
            have y6_10:=(Puts.ext p10 y6_9 (qT y6_8.size l43))
            have y6_11:=(Rely.Ext.trans y6_10 e11)
            have y6_12:=(Rely.Ext.trans y6_11 e12)
            have y6_13:=(Rely.Ext.trans y6_12 e13)
            have y6_14:=(Puts.ext p14 y6_13 (qT y6_12.size l51))
            have y6_15:=(Rely.Ext.trans y6_14 e15)
            have y6_16:=(Puts.ext p16 y6_15 (qT y6_12.size l51))
            refine Qar (.bool false) 18 #[.pointer (some ⟨gc,0,none⟩),.int .i64 ((i:Nat):Int),.int .i64 on] 149 rfl kj kj (Qjh gc gl nl cap lp _ (QbG hxo.ch (Qah.puts (Qah.step (Qah.puts (Qah.step (Qah.step (Qah.step (Qah.puts (Qah.step (Qah.puts (Qah.step (Qah.refl [x_.g,x_.mg] V2) e7) p8 (.inr (qT (qR _) l30))) e9) p10 (.inr (qT (qT (qT (qR _) e7.size) (qE p8.2.2.2.1.symm)) l43))) e11) e12) e13) p14 (.inr (qT (qT (qT (qT (qT (qT (qT (qR _) e7.size) (qE p8.2.2.2.1.symm)) e9.size) (qE p10.2.2.2.1.symm)) e11.size) e12.size) l51))) e15) p16 (.inr (qT (qT (qT (qT (qT (qT (qT (qR _) e7.size) (qE p8.2.2.2.1.symm)) e9.size) (qE p10.2.2.2.1.symm)) e11.size) e12.size) l51))) hca.row (by decide)) (QbG hxo.ch (Qah.puts (Qah.step (Qah.puts (Qah.step (Qah.step (Qah.step (Qah.puts (Qah.step (Qah.puts (Qah.step (Qah.refl [x_.g,x_.mg] V2) e7) p8 (.inr (qT (qR _) l30))) e9) p10 (.inr (qT (qT (qT (qR _) e7.size) (qE p8.2.2.2.1.symm)) l43))) e11) e12) e13) p14 (.inr (qT (qT (qT (qT (qT (qT (qT (qR _) e7.size) (qE p8.2.2.2.1.symm)) e9.size) (qE p10.2.2.2.1.symm)) e11.size) e12.size) l51))) e15) p16 (.inr (qT (qT (qT (qT (qT (qT (qT (qR _) e7.size) (qE p8.2.2.2.1.symm)) e9.size) (qE p10.2.2.2.1.symm)) e11.size) e12.size) l51))) hglr (by decide)) x_.g i (by omega) hpt (hxo.ch.ext y6_16) on (.inl hj)) fun W17 e17=>?_
            have x17:=Ext.tr x16 e17
            refine sg 2 kj <| sgN hK84 <| cond_false kj <| wp_skip ?_
            have y6_17:=(Rely.Ext.trans y6_16 e17)
            have r30_17:=(Qac r30_16 e17)
            have r45_12:=(Qac r45_11 e12)
            have r45_13:=(Qac r45_12 e13)
            have r45_14:=(Puts.row p14 r45_13 (Qae r45_12 l51))
            have r45_15:=(Qac r45_14 e15)
            have r45_16:=(Puts.row p16 r45_15 (Qae r45_12 l51))
            have r45_17:=(Qac r45_16 e17)
            have r47_13:=(Qac r47_12 e13)
            have r47_14:=(Puts.row p14 r47_13 (Qae r47_12 l51))
            have r47_15:=(Qac r47_14 e15)
            have r47_16:=(Puts.row p16 r47_15 (Qae r47_12 l51))
            have r47_17:=(Qac r47_16 e17)
            have r51_17:=(Qac r51_16 e17)
            exact Qcq (K:=K55) [(7,.pointer (some ⟨gc,0,none⟩)),(8,.slice (some ⟨ul,0,none⟩) nl uc),(11,.pointer (some ⟨g30,0,none⟩)),(19,.pointer (some ⟨g45,0,none⟩)),(20,.pointer (some ⟨g47,0,none⟩)),(23,.pointer (some ⟨g51,0,none⟩)),(53,.slice a_o m c_o),(54,.int .i64 ((m:Nat):Int)),(55,.int .i64 ((r:Nat):Int)),(21,errV 0),(22,.int .i64 0)] (hJ55 x_ 0 (List.replicate 32 0) ([]) (.slice none 0 0) (.slice none 0 0) 0 _ _ (Qb8 hxo y6_17) rfl rfl (by omega) (Qah.step (Qah.puts (Qah.step (Qah.puts (Qah.step (Qah.step (Qah.step (Qah.puts (Qah.step (Qah.puts (Qah.step (Qah.refl [x_.g,x_.mg] V2) e7) p8 (.inr (qT (qR _) l30))) e9) p10 (.inr (qT (qT (qT (qR _) e7.size) (qE p8.2.2.2.1.symm)) l43))) e11) e12) e13) p14 (.inr (qT (qT (qT (qT (qT (qT (qT (qR _) e7.size) (qE p8.2.2.2.1.symm)) e9.size) (qE p10.2.2.2.1.symm)) e11.size) e12.size) l51))) e15) p16 (.inr (qT (qT (qT (qT (qT (qT (qT (qR _) e7.size) (qE p8.2.2.2.1.symm)) e9.size) (qE p10.2.2.2.1.symm)) e11.size) e12.size) l51))) e17) (List.length_replicate (n:=32)) (fun z hz=>by cases hz) (.inl ⟨rfl,rfl⟩) (.inl ⟨rfl,rfl⟩) (fun e he b hb hn=>by cases hn) r30_17 r45_17 r47_17 r51_17 x17) ⟨rfl,rfl,rfl,rfl,rfl,rfl,rfl,rfl,rfl,(Qb9 rfl).symm,rfl,trivial⟩
           ·skip
            refine Qaf ?_
            have r43_13:=(Qac r43_12 e13)
            have r43_14:=(Puts.row p14 r43_13 (Qae r43_12 l51))
            refine Qab (.agg (cat [ints .u8 (x_.L x_.pl),#[.int .i64 ((x_.pl:Nat):Int)],#[.slice x_.ha x_.t0.length x_.hc],#[.slice x_.za x_.zs.length x_.zc],#[.int .i64 ((x_.lo:Nat):Int)]])) 138 rfl kj (Qaq 34 _ g43 34 _ _ r43_14 rfl kj kj (isz (n:=36) kj (by rw [Qaa,Qaa,Qaa,Qaa,Qaa]; simp only [qS,cat,((Qad _ _).trans (hx_32))]; rfl))) ?_
            refine sg 1 kj <| Qab (.int .i64 on) 140 rfl kj (Qag 3 _ g30 2 36 _ (.int .i64 on) _ r30_14 rfl kj kj kj) <| Qar (.tuple #[.agg (cat [ints .u8 (x_.L x_.pl),#[.int .i64 ((x_.pl:Nat):Int)],#[.slice x_.ha x_.t0.length x_.hc],#[.slice x_.za x_.zs.length x_.zc],#[.int .i64 ((x_.lo:Nat):Int)]]),.bool false]) 20 #[.agg (cat [ints .u8 (x_.L x_.pl),#[.int .i64 ((x_.pl:Nat):Int)],#[.slice x_.ha x_.t0.length x_.hc],#[.slice x_.za x_.zs.length x_.zc],#[.int .i64 ((x_.lo:Nat):Int)]]),.int .i64 on] 141 rfl kj kj (QlE (x_.L x_.pl) hx_32 x_.pl x_.ha x_.za x_.t0.length x_.hc x_.zs.length x_.zc ((x_.lo:Nat):Int) on _ hj.1 hj.2) fun W15 e15=>?_
            have x15:=Ext.tr x14 e15
            refine sg 3 kj ?_
            have r51_15:=(Qac r51_14 e15)
            refine Qaj g51 _ (cat [ints .u8 (x_.L x_.pl),#[.int .i64 ((x_.pl:Nat):Int)],#[.slice x_.ha x_.t0.length x_.hc],#[.slice x_.za x_.zs.length x_.zc],#[.int .i64 ((x_.lo:Nat):Int)]]) 34 r51_15 rfl kj (Qal 34 _ _ g51 34 _ _ r51_15 rfl kj kj (isz (n:=36) kj (by rw [Qaa,Qaa,Qaa,Qaa,Qaa]; simp only [qS,cat,((Qad _ _).trans (hx_32))]; rfl)) (eqsz (n:=36) (by rw [Qaa,Qaa,Qaa,Qaa,Qaa]; simp only [qS,cat,((Qad _ _).trans (hx_32))]; rfl) (by rw [Qaa,Qaa,Qaa,Qaa,Qaa]; simp only [qS,cat,((Qad _ _).trans (hx_32))]; rfl)) (QaD _ (by intro a ha; simp only [List.mem_cons,List.not_mem_nil,or_false] at ha; rcases ha with rfl | rfl | rfl | rfl | rfl; exact (Qau _ _); exact (Qan _ rfl); exact (Qan _ rfl); exact (Qan _ rfl); exact (Qan _ rfl)))) fun W16 p16 r51_16=>?_
            have x16:=Puts.ext p16 x15 b51
            refine sg 1 kj <| sgN hK83 <| sgC fun K85 hK85=>sg 2 kj ?_
            have r30_15:=(Qac r30_14 e15)
            have r30_16:=(Puts.row p16 r30_15 (Qae r30_12 l51))
            refine Qab (.int .i64 ((i:Nat):Int)) 146 rfl kj (Qag 3 _ g30 1 36 _ (.int .i64 ((i:Nat):Int)) _ r30_16 rfl kj kj kj) <| sg 1 kj <| Qab (.int .i64 on) 148 rfl kj (Qag 3 _ g30 2 36 _ (.int .i64 on) _ r30_16 rfl kj kj kj) ?_
            have y6_9:=(Rely.Ext.trans y6_8 e9)
            have y6_10:=(Puts.ext p10 y6_9 (qT y6_8.size l43))
            have y6_11:=(Rely.Ext.trans y6_10 e11)
            have y6_12:=(Rely.Ext.trans y6_11 e12)
            have y6_13:=(Rely.Ext.trans y6_12 e13)
            have y6_14:=(Puts.ext p14 y6_13 (qT y6_12.size l51))
            have y6_15:=(Rely.Ext.trans y6_14 e15)
            have y6_16:=(Puts.ext p16 y6_15 (qT y6_12.size l51))
            refine Qar (.bool false) 18 #[.pointer (some ⟨gc,0,none⟩),.int .i64 ((i:Nat):Int),.int .i64 on] 149 rfl kj kj (Qjh gc gl nl cap lp _ (QbG hxo.ch (Qah.puts (Qah.step (Qah.puts (Qah.step (Qah.step (Qah.step (Qah.puts (Qah.step (Qah.puts (Qah.step (Qah.refl [x_.g,x_.mg] V2) e7) p8 (.inr (qT (qR _) l30))) e9) p10 (.inr (qT (qT (qT (qR _) e7.size) (qE p8.2.2.2.1.symm)) l43))) e11) e12) e13) p14 (.inr (qT (qT (qT (qT (qT (qT (qT (qR _) e7.size) (qE p8.2.2.2.1.symm)) e9.size) (qE p10.2.2.2.1.symm)) e11.size) e12.size) l51))) e15) p16 (.inr (qT (qT (qT (qT (qT (qT (qT (qR _) e7.size) (qE p8.2.2.2.1.symm)) e9.size) (qE p10.2.2.2.1.symm)) e11.size) e12.size) l51))) hca.row (by decide)) (QbG hxo.ch (Qah.puts (Qah.step (Qah.puts (Qah.step (Qah.step (Qah.step (Qah.puts (Qah.step (Qah.puts (Qah.step (Qah.refl [x_.g,x_.mg] V2) e7) p8 (.inr (qT (qR _) l30))) e9) p10 (.inr (qT (qT (qT (qR _) e7.size) (qE p8.2.2.2.1.symm)) l43))) e11) e12) e13) p14 (.inr (qT (qT (qT (qT (qT (qT (qT (qR _) e7.size) (qE p8.2.2.2.1.symm)) e9.size) (qE p10.2.2.2.1.symm)) e11.size) e12.size) l51))) e15) p16 (.inr (qT (qT (qT (qT (qT (qT (qT (qR _) e7.size) (qE p8.2.2.2.1.symm)) e9.size) (qE p10.2.2.2.1.symm)) e11.size) e12.size) l51))) hglr (by decide)) x_.g i (by omega) hpt (hxo.ch.ext y6_16) on (.inr hj.2)) fun W17 e17=>?_
            have x17:=Ext.tr x16 e17
            refine sg 2 kj <| sgN hK85 <| cond_false kj <| wp_skip ?_
            have y6_17:=(Rely.Ext.trans y6_16 e17)
            have r30_17:=(Qac r30_16 e17)
            have r45_12:=(Qac r45_11 e12)
            have r45_13:=(Qac r45_12 e13)
            have r45_14:=(Puts.row p14 r45_13 (Qae r45_12 l51))
            have r45_15:=(Qac r45_14 e15)
            have r45_16:=(Puts.row p16 r45_15 (Qae r45_12 l51))
            have r45_17:=(Qac r45_16 e17)
            have r47_13:=(Qac r47_12 e13)
            have r47_14:=(Puts.row p14 r47_13 (Qae r47_12 l51))
            have r47_15:=(Qac r47_14 e15)
            have r47_16:=(Puts.row p16 r47_15 (Qae r47_12 l51))
            have r47_17:=(Qac r47_16 e17)
            have r51_17:=(Qac r51_16 e17)
            exact Qcq (K:=K55) [(7,.pointer (some ⟨gc,0,none⟩)),(8,.slice (some ⟨ul,0,none⟩) nl uc),(11,.pointer (some ⟨g30,0,none⟩)),(19,.pointer (some ⟨g45,0,none⟩)),(20,.pointer (some ⟨g47,0,none⟩)),(23,.pointer (some ⟨g51,0,none⟩)),(53,.slice a_o m c_o),(54,.int .i64 ((m:Nat):Int)),(55,.int .i64 ((r:Nat):Int)),(21,errV 0),(22,.int .i64 0)] (hJ55 x_ 0 (List.replicate 32 0) ([]) (.slice none 0 0) (.slice none 0 0) 0 _ _ (Qb8 hxo y6_17) rfl rfl (by omega) (Qah.step (Qah.puts (Qah.step (Qah.puts (Qah.step (Qah.step (Qah.step (Qah.puts (Qah.step (Qah.puts (Qah.step (Qah.refl [x_.g,x_.mg] V2) e7) p8 (.inr (qT (qR _) l30))) e9) p10 (.inr (qT (qT (qT (qR _) e7.size) (qE p8.2.2.2.1.symm)) l43))) e11) e12) e13) p14 (.inr (qT (qT (qT (qT (qT (qT (qT (qR _) e7.size) (qE p8.2.2.2.1.symm)) e9.size) (qE p10.2.2.2.1.symm)) e11.size) e12.size) l51))) e15) p16 (.inr (qT (qT (qT (qT (qT (qT (qT (qR _) e7.size) (qE p8.2.2.2.1.symm)) e9.size) (qE p10.2.2.2.1.symm)) e11.size) e12.size) l51))) e17) (List.length_replicate (n:=32)) (fun z hz=>by cases hz) (.inl ⟨rfl,rfl⟩) (.inl ⟨rfl,rfl⟩) (fun e he b hb hn=>by cases hn) r30_17 r45_17 r47_17 r51_17 x17) ⟨rfl,rfl,rfl,rfl,rfl,rfl,rfl,rfl,rfl,(Qb9 rfl).symm,rfl,trivial⟩
           ·skip
            obtain ⟨n,hnn⟩:∃ n:Nat,on=((n:Nat):Int):=⟨on.toNat,by omega⟩
            subst hnn
            refine Qaf ?_
            have r43_13:=(Qac r43_12 e13)
            have r43_14:=(Puts.row p14 r43_13 (Qae r43_12 l51))
            refine Qab (.agg (cat [ints .u8 (x_.L x_.pl),#[.int .i64 ((x_.pl:Nat):Int)],#[.slice x_.ha x_.t0.length x_.hc],#[.slice x_.za x_.zs.length x_.zc],#[.int .i64 ((x_.lo:Nat):Int)]])) 138 rfl kj (Qaq 34 _ g43 34 _ _ r43_14 rfl kj kj (isz (n:=36) kj (by rw [Qaa,Qaa,Qaa,Qaa,Qaa]; simp only [qS,cat,((Qad _ _).trans (hx_32))]; rfl))) ?_
            refine sg 1 kj <| Qab (.int .i64 ((n:Nat):Int)) 140 rfl kj (Qag 3 _ g30 2 36 _ (.int .i64 ((n:Nat):Int)) _ r30_14 rfl kj kj kj) <| Qar (.tuple #[.agg (cat [ints .u8 (x_.L x_.pl),#[.int .i64 ((n:Nat):Int)],#[.slice none 0 0],#[.slice x_.za x_.zs.length x_.zc],#[.int .i64 ((n:Nat):Int)]]),.bool true]) 20 #[.agg (cat [ints .u8 (x_.L x_.pl),#[.int .i64 ((x_.pl:Nat):Int)],#[.slice x_.ha x_.t0.length x_.hc],#[.slice x_.za x_.zs.length x_.zc],#[.int .i64 ((x_.lo:Nat):Int)]]),.int .i64 ((n:Nat):Int)] 141 rfl kj kj (QlD (x_.L x_.pl) hx_32 x_.pl x_.ha x_.za x_.t0.length x_.hc x_.zs.length x_.zc ((x_.lo:Nat):Int) ((n:Nat):Int) _ hj.1 hj.2) fun W15 e15=>?_
            have x15:=Ext.tr x14 e15
            refine sg 3 kj ?_
            have r51_15:=(Qac r51_14 e15)
            refine Qaj g51 _ (cat [ints .u8 (x_.L x_.pl),#[.int .i64 ((n:Nat):Int)],#[.slice none 0 0],#[.slice x_.za x_.zs.length x_.zc],#[.int .i64 ((n:Nat):Int)]]) 34 r51_15 rfl kj (Qal 34 _ _ g51 34 _ _ r51_15 rfl kj kj (isz (n:=36) kj (by rw [Qaa,Qaa,Qaa,Qaa,Qaa]; simp only [qS,cat,((Qad _ _).trans (hx_32))]; rfl)) (eqsz (n:=36) (by rw [Qaa,Qaa,Qaa,Qaa,Qaa]; simp only [qS,cat,((Qad _ _).trans (hx_32))]; rfl) (by rw [Qaa,Qaa,Qaa,Qaa,Qaa]; simp only [qS,cat,((Qad _ _).trans (hx_32))]; rfl)) (QaD _ (by intro a ha; simp only [List.mem_cons,List.not_mem_nil,or_false] at ha; rcases ha with rfl | rfl | rfl | rfl | rfl; exact (Qau _ _); exact (Qan _ rfl); exact (Qan _ rfl); exact (Qan _ rfl); exact (Qan _ rfl)))) fun W16 p16 r51_16=>?_
            have x16:=Puts.ext p16 x15 b51
            refine sg 1 kj <| sgN hK83 <| sgC fun K86 hK86=>sg 2 kj ?_
            have r30_15:=(Qac r30_14 e15)
            have r30_16:=(Puts.row p16 r30_15 (Qae r30_12 l51))
            refine Qab (.int .i64 ((i:Nat):Int)) 146 rfl kj (Qag 3 _ g30 1 36 _ (.int .i64 ((i:Nat):Int)) _ r30_16 rfl kj kj kj) <| sg 1 kj <| Qab (.int .i64 ((n:Nat):Int)) 148 rfl kj (Qag 3 _ g30 2 36 _ (.int .i64 ((n:Nat):Int)) _ r30_16 rfl kj kj kj) ?_
            have y6_9:=(Rely.Ext.trans y6_8 e9)
            have y6_10:=(Puts.ext p10 y6_9 (qT y6_8.size l43))
            have y6_11:=(Rely.Ext.trans y6_10 e11)
            have y6_12:=(Rely.Ext.trans y6_11 e12)
            have y6_13:=(Rely.Ext.trans y6_12 e13)
            have y6_14:=(Puts.ext p14 y6_13 (qT y6_12.size l51))
            have y6_15:=(Rely.Ext.trans y6_14 e15)
            have y6_16:=(Puts.ext p16 y6_15 (qT y6_12.size l51))
            refine Qa6 (fun v W'=>v=.bool true∧Qah [x_.g,x_.mg] W16 W'∧∃ k,n-65+k=n∧ChLn x_.g x_.mg (lkJ x_.L x_.pl n) (jmpT x_.ts (n-65) k) n [] W') 18 #[.pointer (some ⟨gc,0,none⟩),.int .i64 ((i:Nat):Int),.int .i64 ((n:Nat):Int)] 149 rfl kj kj ((QlC gc gl nl cap lp _ (QbG hxo.ch (Qah.puts (Qah.step (Qah.puts (Qah.step (Qah.step (Qah.step (Qah.puts (Qah.step (Qah.puts (Qah.step (Qah.refl [x_.g,x_.mg] V2) e7) p8 (.inr (qT (qR _) l30))) e9) p10 (.inr (qT (qT (qT (qR _) e7.size) (qE p8.2.2.2.1.symm)) l43))) e11) e12) e13) p14 (.inr (qT (qT (qT (qT (qT (qT (qT (qR _) e7.size) (qE p8.2.2.2.1.symm)) e9.size) (qE p10.2.2.2.1.symm)) e11.size) e12.size) l51))) e15) p16 (.inr (qT (qT (qT (qT (qT (qT (qT (qR _) e7.size) (qE p8.2.2.2.1.symm)) e9.size) (qE p10.2.2.2.1.symm)) e11.size) e12.size) l51))) hca.row (by decide)) (QbG hxo.ch (Qah.puts (Qah.step (Qah.puts (Qah.step (Qah.step (Qah.step (Qah.puts (Qah.step (Qah.puts (Qah.step (Qah.refl [x_.g,x_.mg] V2) e7) p8 (.inr (qT (qR _) l30))) e9) p10 (.inr (qT (qT (qT (qR _) e7.size) (qE p8.2.2.2.1.symm)) l43))) e11) e12) e13) p14 (.inr (qT (qT (qT (qT (qT (qT (qT (qR _) e7.size) (qE p8.2.2.2.1.symm)) e9.size) (qE p10.2.2.2.1.symm)) e11.size) e12.size) l51))) e15) p16 (.inr (qT (qT (qT (qT (qT (qT (qT (qR _) e7.size) (qE p8.2.2.2.1.symm)) e9.size) (qE p10.2.2.2.1.symm)) e11.size) e12.size) l51))) hglr (by decide)) x_.g i (by omega) hpt (hxo.ch.ext y6_16) n (by omega) (by omega)).mono (by rintro e w' ⟨rfl,q⟩; exact ⟨_,rfl,rfl,q⟩)) fun vv87 W17 hh87=>?_
            obtain ⟨rfl,q17,kq_,hkq,hch2⟩:=hh87
            have x17:=Qeu x16 q17 (qT x2.size hxg) (qT x2.size hxmg)
            refine sg 2 kj <| sgN hK86 <| cond_false kj <| wp_skip ?_
            have hyo1:LfOk (lfJ x_ n kq_) W17:=QmD (QgR hxo.ch (Qah.keeps (Qah.puts (Qah.step (Qah.puts (Qah.step (Qah.step (Qah.step (Qah.puts (Qah.step (Qah.puts (Qah.step (Qah.refl [x_.g,x_.mg] V2) e7) p8 (.inr (qT (qR _) l30))) e9) p10 (.inr (qT (qT (qT (qR _) e7.size) (qE p8.2.2.2.1.symm)) l43))) e11) e12) e13) p14 (.inr (qT (qT (qT (qT (qT (qT (qT (qR _) e7.size) (qE p8.2.2.2.1.symm)) e9.size) (qE p10.2.2.2.1.symm)) e11.size) e12.size) l51))) e15) p16 (.inr (qT (qT (qT (qT (qT (qT (qT (qR _) e7.size) (qE p8.2.2.2.1.symm)) e9.size) (qE p10.2.2.2.1.symm)) e11.size) e12.size) l51))) q17 (fun c hc=>.inl hc)) hxo.lr) (by omega) (by omega) hkq hch2
            have r51_17:=(Qah.row q17 r51_16 (Qax (Nat.ne_of_gt (qL hgV (qT (qT (qT (qT (qT (qT (qT (qR _) e7.size) (qE p8.2.2.2.1.symm)) e9.size) (qE p10.2.2.2.1.symm)) e11.size) e12.size) l51))) (Qax (Nat.ne_of_gt (qL hmV (qT (qT (qT (qT (qT (qT (qT (qR _) e7.size) (qE p8.2.2.2.1.symm)) e9.size) (qE p10.2.2.2.1.symm)) e11.size) e12.size) l51))) QaJ)))
            have r23j:=r51_17
            rw [←Qn4 x_.L x_.pl n] at r23j
            have r30_17:=(Qah.row q17 r30_16 (Qax (Nat.ne_of_gt (qL hgV (qT (qR _) l30))) (Qax (Nat.ne_of_gt (qL hmV (qT (qR _) l30))) QaJ)))
            have r45_12:=(Qac r45_11 e12)
            have r45_13:=(Qac r45_12 e13)
            have r45_14:=(Puts.row p14 r45_13 (Qae r45_12 l51))
            have r45_15:=(Qac r45_14 e15)
            have r45_16:=(Puts.row p16 r45_15 (Qae r45_12 l51))
            have r45_17:=(Qah.row q17 r45_16 (Qax (Nat.ne_of_gt (qL hgV (qT (qT (qT (qT (qT (qR _) e7.size) (qE p8.2.2.2.1.symm)) e9.size) (qE p10.2.2.2.1.symm)) l45))) (Qax (Nat.ne_of_gt (qL hmV (qT (qT (qT (qT (qT (qR _) e7.size) (qE p8.2.2.2.1.symm)) e9.size) (qE p10.2.2.2.1.symm)) l45))) QaJ)))
            have r47_13:=(Qac r47_12 e13)
            have r47_14:=(Puts.row p14 r47_13 (Qae r47_12 l51))
            have r47_15:=(Qac r47_14 e15)
            have r47_16:=(Puts.row p16 r47_15 (Qae r47_12 l51))
            have r47_17:=(Qah.row q17 r47_16 (Qax (Nat.ne_of_gt (qL hgV (qT (qT (qT (qT (qT (qT (qR _) e7.size) (qE p8.2.2.2.1.symm)) e9.size) (qE p10.2.2.2.1.symm)) e11.size) l47))) (Qax (Nat.ne_of_gt (qL hmV (qT (qT (qT (qT (qT (qT (qR _) e7.size) (qE p8.2.2.2.1.symm)) e9.size) (qE p10.2.2.2.1.symm)) e11.size) l47))) QaJ)))
            exact Qcq (K:=K55) [(7,.pointer (some ⟨gc,0,none⟩)),(8,.slice (some ⟨ul,0,none⟩) nl uc),(11,.pointer (some ⟨g30,0,none⟩)),(19,.pointer (some ⟨g45,0,none⟩)),(20,.pointer (some ⟨g47,0,none⟩)),(23,.pointer (some ⟨g51,0,none⟩)),(53,.slice a_o m c_o),(54,.int .i64 ((m:Nat):Int)),(55,.int .i64 ((r:Nat):Int)),(21,errV 0),(22,.int .i64 0)] (hJ55 (lfJ x_ n kq_) 0 (List.replicate 32 0) ([]) (.slice none 0 0) (.slice none 0 0) 0 _ _ hyo1 rfl rfl (show x_.zs.length≤r+1 by omega) (Qah.keeps (Qah.puts (Qah.step (Qah.puts (Qah.step (Qah.step (Qah.step (Qah.puts (Qah.step (Qah.puts (Qah.step (Qah.refl [x_.g,x_.mg] V2) e7) p8 (.inr (qT (qR _) l30))) e9) p10 (.inr (qT (qT (qT (qR _) e7.size) (qE p8.2.2.2.1.symm)) l43))) e11) e12) e13) p14 (.inr (qT (qT (qT (qT (qT (qT (qT (qR _) e7.size) (qE p8.2.2.2.1.symm)) e9.size) (qE p10.2.2.2.1.symm)) e11.size) e12.size) l51))) e15) p16 (.inr (qT (qT (qT (qT (qT (qT (qT (qR _) e7.size) (qE p8.2.2.2.1.symm)) e9.size) (qE p10.2.2.2.1.symm)) e11.size) e12.size) l51))) q17 (fun c hc=>.inl hc)) (List.length_replicate (n:=32)) (fun z hz=>by cases hz) (.inl ⟨rfl,rfl⟩) (.inl ⟨rfl,rfl⟩) (fun e he b hb hn=>by cases hn) r30_17 r45_17 r47_17 r23j x17) ⟨rfl,rfl,rfl,rfl,rfl,rfl,rfl,rfl,rfl,(Qb9 rfl).symm,rfl,trivial⟩
     ·skip
      have heq56:r=m:=by have:=of_decide_eq_false c27; omega
      refine wp_exit <| hK23 _ _ <| sgB kj <| wp_ret ?_
      repeat (first | with_reducible refine goR1 ?_ | with_reducible refine goR2 ?_)
      exact (show bodyPost _ _ _ .ret _ _ from ret1 (.bool true) rfl (Qa2 kj) ⟨rfl,xx2⟩)
   rcases (show (((i:Nat):Int)<x∧Seat.isTree x=false)∨¬ ((i:Nat):Int)<x by
    rcases hcs with ⟨h9,-⟩ | ⟨-,z,-,h9,h8,-⟩
    ·by_cases h7:((i:Nat):Int)<x
     ·exact .inl ⟨h7,h9⟩
     ·exact .inr h7
    ·exact .inr (by omega)) with hq | hq
   ·skip
    refine Qaf <| sg 2 kj <| Qab (.bool true) 38 rfl kj (Qai (u:=.bool (decide (((i:Nat):Int)<x))) kj (congrArg Value.bool (decide_eq_true hq.1))) <| sg 2 kj <| Qa6 (fun v W'=>v=.bool false∧V1=W') 10 #[.int .i64 x] 41 rfl kj kj ((Qk7 hq.2 _).mono fun e w' h=>⟨_,h.1,rfl,h.2⟩) fun v89 W89 h89=>?_
    obtain ⟨rfl,rfl⟩:=h89
    refine sg 1 kj <| Qak ?_
    rw [←QbX (M:=[(2,.slice a_o m c_o),(7,.pointer (some ⟨gc,0,none⟩)),(8,u),(42,.bool false)]) ⟨rfl,rfl,rfl,rfl,trivial⟩]
    exact hJ22 _
   ·skip
    refine Qaf <| sg 2 kj <| Qab (.bool false) 38 rfl kj (Qai (u:=.bool (decide (((i:Nat):Int)<x))) kj (congrArg Value.bool (decide_eq_false hq))) <| sg 4 kj <| Qak ?_
    rw [←QbX (M:=[(2,.slice a_o m c_o),(7,.pointer (some ⟨gc,0,none⟩)),(8,u),(42,.bool false)]) ⟨rfl,rfl,rfl,rfl,trivial⟩]
    exact hJ22 _
end Go.Proofs.YtibegnjaphohaaaDoor.Cn
end
section
namespace Go.Proofs.YtibegnjaphohaaaDoor.Auto
open Go Go.RowKit Go.WideShapes
open Rely
section
variable {H : Type} {enc : TypeId × Value → H} {P : Program} {W w : World} {r : Reach} {base b0 : Nat} {sp : Nat → Bool} {held : Bool}
end
end Go.Proofs.YtibegnjaphohaaaDoor.Auto
end
section
namespace Go.Proofs.YtibegnjaphohaaaDoor.Auto
open Go Go.RowKit
open Rely
theorem QeK {P : Program} {w:World}:∀ (laid:List (String×DataW Unit)) (ps:List MemPlace) (n:String) (d:DataW Unit),DataW.LaidVars P w laid ps→(n,d)∈laid →
    ∃ g t cs fuel p,P.globalNamed n=some g∧(P.globals[g]?).map (·.type)=some t∧w.var? P n=some cs∧DataW.trod (fun _=>()) P w 0 (fun _=>true) false fuel t cs.toList=some (d,p)∧∀ x∈MemPlace.row ⟨g,0,none⟩ cs.size,x∈ps
  | [],_,_,_,_,h=>by cases h
  | (n0,d0)::r,ps,n,d,⟨g,t,cs,fuel,p,q,h1,h2,h3,h4,h5,h6⟩,h=>by
    subst h6
    rcases List.mem_cons.1 h with h | h
    · cases h
      exact ⟨g,t,cs,fuel,p,h1,h2,h3,h4,fun x hx=>List.mem_append_left _ (List.mem_append_left _ hx)⟩
    · obtain ⟨g',t',cs',fuel',p',a,b,c,e,f⟩:=QeK r q n d h5 h
      exact ⟨g',t',cs',fuel',p',a,b,c,e,fun x hx=>List.mem_append_right _ (f x hx)⟩
theorem QfL {P : Program} {w:World} {laid:List (String×DataW Unit)} {n:String} {k:IntKind} {zs:List Int} {g:Nat} {t e:TypeId} {m:Nat} (h:laidMet P laid w) (hm:(n,Lib.tabData k zs)∈laid)
    (hg:P.globalNamed n=some g) (hty:(P.globals[g]?).map (·.type)=some t) (ht:P.underlying t=some (.array m e)) (he:P.underlying e=some (.int k)) (hce:P.cellsOf e=1) (hct:P.cellsOf t=m) (h0:0<zs.length) :
    ∃ t,w.heap[g]? = some (.cells (ints k zs) t):=by
  obtain ⟨ps,hL,-,hC⟩:=h
  obtain ⟨g',t',cs,fuel,p,hg',ht',hvar,hd,hin⟩:=QeK _ _ _ _ hL hm
  obtain rfl:=Option.some.inj (hg.symm.trans hg')
  obtain rfl:=Option.some.inj (hty.symm.trans ht')
  have hcs:=Lib.cells_of_tab ht he hce hct hd
  have hsz:0<cs.size:=by rw [←Array.length_toList,hcs,List.length_map]; exact h0
  obtain ⟨⟨c,t2,hc⟩,-⟩:=hC g 0 (hin _ (List.mem_map.2 ⟨0,List.mem_range.2 hsz,rfl⟩))
  unfold World.var? at hvar
  rw [hg] at hvar
  simp only [Option.bind_some,hc,Option.some.injEq] at hvar
  subst hvar
  refine ⟨t2,hc.trans ?_⟩
  rw [show c=ints k zs from by rw [ints,←hcs]]
end Go.Proofs.YtibegnjaphohaaaDoor.Auto
end
section
namespace Go.Proofs.YtibegnjaphohaaaDoor.Cn
open Go Go.RowKit Go.WideShapes Go.ChangeShapes Go.ChangeAt
open Rely Auto Go.Deep
section
variable {H : Type} {enc : TypeId × Value → H} {P : Program} {w : World} {b0 : Nat} {held : Bool}
theorem Qmh (x : Addr) (i j:Nat):(x.add i).add j=x.add (i+j):=by
  by_cases hi:i=0 <;> by_cases hj:j=0 <;> simp [Addr.add,hi,hj,Nat.add_assoc]
theorem open_ops3 {t s:TypeId} {f0 f1 f2:Field} {ad:Option Addr} {len cap:Nat} {d:DataW H} {p:List MemPlace} (hs:P.underlying t=some (.slice s)) (hss:P.underlying s=some (.struct #[f0,f1,f2])) (ho:f0.offset=0∧f1.offset=1∧f2.offset=2)
    (h0:P.underlying f0.type=some (.int .i64)) (h1:P.underlying f1.type=some (.int .i64)) (h2:P.underlying f2.type=some (.int .i64)) (hc:P.cellsOf f0.type=1∧P.cellsOf f1.type=1∧P.cellsOf f2.type=1) (hcs:P.cellsOf s=3)
    (h:DataW.Trod enc P w b0 (fun _=>true) held t (.slice ad len cap) d p):∃ os:List Int,QmZ os len ad w:=by
  obtain ⟨fuel,hf⟩:=h
  rcases DataW.trod_slice hs hf with ⟨hcs',-⟩ | ⟨x,l,c,elems,rest,n,-,hcs',-,hb,hl,hmx,hlen,hel,-,-⟩
  · simp [Value.cells] at hcs'
    obtain ⟨rfl,rfl,rfl⟩:=hcs'
    exact ⟨[],0,0,fun h=>absurd h (by omega),fun i hi=>absurd hi (by omega)⟩
  · simp [Value.cells] at hcs'
    obtain ⟨rfl,rfl,rfl⟩:=hcs'
    have key:∀ i,i<len→∃ z:Nat→Int,∀ j,j<3→w.cell? (x.add (i*3+j))=some (.int .i64 (z j)):=fun i hi=>by
      have h4:=hel i hi
      rw [hcs,List.getElem?_eq_getElem (by omega)] at h4
      obtain ⟨cs,hc1,hc2⟩:=Option.bind_eq_some_iff.1 h4
      obtain ⟨hn,q1,q2⟩:=World.cells?_some hc1
      obtain ⟨y0,y1,y2,m,-,hl3,t0,t1,t2⟩:=trod_struct3 hss hc2
      rw [ho.1,hc.1] at t0
      rw [ho.2.1,hc.2.1] at t1
      rw [ho.2.2,hc.2.2] at t2
      rw [hcs] at hl3
      have p0:=q2 0 (by omega)
      have p1:=q2 1 (by omega)
      have p2:=q2 2 (by omega)
      rw [Qmh] at p0 p1 p2
      obtain ⟨z0,e0,-,-⟩:=DataW.trod_int h0 t0
      obtain ⟨z1,e1,-,-⟩:=DataW.trod_int h1 t1
      obtain ⟨z2,e2,-,-⟩:=DataW.trod_int h2 t2
      match cs,hl3 with
      | [c0,c1,c2],_ =>
        simp only [List.drop_zero,List.drop_succ_cons,List.take_succ_cons,List.take_zero,List.cons.injEq,and_true] at e0 e1 e2
        subst e0; subst e1; subst e2
        refine ⟨fun j=>if j=0 then z0 else if j=1 then z1 else z2,fun j hj=>?_⟩
        rcases (show j=0∨j=1∨j=2 by omega) with rfl | rfl | rfl
        · exact p0
        · exact p1
        · exact p2
    rcases Nat.eq_zero_or_pos len with h0' | h0'
    · exact ⟨[],0,0,fun h=>absurd h (by omega),fun i hi=>absurd hi (by omega)⟩
    obtain ⟨b,off,spot⟩:=x
    have hspot:spot=none:=by
      obtain ⟨z,hq⟩:=key 0 h0'
      simpa [Addr.add] using World.cell?_spot (hq 0 (by decide))
    subst hspot
    have hlt:b<w.heap.size:=by
      obtain ⟨z,hq⟩:=key 0 h0'
      have hq0:=hq 0 (by decide)
      rw [WideShapes.add_plain] at hq0
      exact Qid hq0
    obtain ⟨F,hF⟩:∃ F:Nat→Nat→Int,∀ i,i<len→∀ j,j<3→w.cell? ((⟨b,off,none⟩:Addr).add (i*3+j))=some (.int .i64 (F i j)) :=
      ⟨fun i=>if h:i<len then Classical.choose (key i h) else fun _=>0,fun i hi=>by simp only [dif_pos hi]; exact Classical.choose_spec (key i hi)⟩
    refine ⟨(List.range (len*3)).map fun q=>F (q/3) (q%3),b,off,fun _=>⟨rfl,hlt⟩,fun i hi j hj=>?_⟩
    have hq:=hF i hi j hj
    rw [WideShapes.add_plain] at hq
    have e3:nth ((List.range (len*3)).map fun q=>F (q/3) (q%3)) (i*3+j)=F i j:=by
      unfold nth
      rw [List.getD_eq_getElem?_getD,List.getElem?_map,List.getElem?_range (by omega)]
      show F ((i*3+j)/3) ((i*3+j)%3)=_
      rw [show (i*3+j)/3=i by omega,show (i*3+j)%3=j by omega]
    rw [e3,Nat.add_assoc]
    exact hq
end
end Go.Proofs.YtibegnjaphohaaaDoor.Cn
end
