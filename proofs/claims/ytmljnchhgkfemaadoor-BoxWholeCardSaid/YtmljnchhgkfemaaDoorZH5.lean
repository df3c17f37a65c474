/- Texts of this claim, joined (H5). -/
import Derived.Test.YtmljnchhgkfemaaDoorZH4
import Derived.Lib.SmallJoins
import Derived.Lib.LaidTab

set_option linter.unusedVariables false
set_option linter.unusedSimpArgs false
set_option maxHeartbeats 4000000
section
namespace Go.Proofs.YtmljnchhgkfemaaDoor.Bx
open Go Go.RowKit
open Rely Auto Own Sha
open Cha
open Ae hiding run_storeQ run_sap
open Field (Qay pubL agN Qa2 Qds QaR)
theorem Qli {k : IntKind} {B n c l:Nat} {ys tk:List Int} {a:Option Addr} {W:World} (et:ys.take l=tk) (h:RdK k B ys (.slice a n c) W) (hl:l≤ys.length):RdK k B tk (.slice a l c) W:=et▸Qpx h hl
theorem QhS {k : IntKind} {B n c l:Nat} {ys tk:List Int} {a:Option Addr} {W:World} (et:ys.drop l=tk) (h:RdK k B ys (.slice a n c) W) (hl:l≤ys.length):RdK k B tk (.slice (restA a l c) (n-l) (c-l)) W:=et▸Qlk h hl
set_option maxRecDepth 100000 in
theorem QpB (sk pk dr info sl:List Int) (hsk:sk.length=32) (hskb:Qag sk) (hp:pk.length=32) (hpb:Qag pk) (h0:(agN sk (pubL dr)==0)=false) (tc tq th tr:TypeId) (w:World) (hT:Tabs tc tq th tr w) (a_i:Option Addr) (c_i B:Nat) (hil:info.length≤65536) (hib:Qag info) (hi:RdK .u8 B info (.slice a_i info.length c_i) w) (hsb:Qag sl) (h16:16≤sl.length) (hsl:sl.length≤65552) (bx:List Int) (ebx:bx=pubL dr++sl) (a_b:Option Addr) (c_b B2:Nat) (hb:RdK .u8 B2 bx (.slice a_b bx.length c_b) w) (text:List Int) (htb:Qag text) (htl:text.length≤65536) (esl:sl=QdU (keyV (Qay (agN sk (pubL dr))) (pubL dr) pk info) non0 info text) :
  Calls Tryd.prog 8 #[.agg (cat [ints .u8 sk,ints .u8 pk]),.slice a_i info.length c_i,.slice a_b bx.length c_b] w (fun e W=>∃ u,e=.returned (.tuple #[u,.nilIface])∧OwnN .u8 5 w.heap.size text u W∧Ext w W):=by
 have hh:=hT.h
 have hq:=hT.r
 have lbx:bx.length=sl.length+32:=by rw [ebx,List.length_append,Qa2]; omega
 have h32:32≤bx.length:=by omega
 have cbk:=Qll hb
 have et4:bx.take 32=pubL dr:=by rw [ebx]; exact List.take_left' (Qa2 _)
 have et5:bx.drop 32=sl:=by rw [ebx]; exact List.drop_left' (Qa2 _)
 refine enter 60 [(0,.agg (cat [ints .u8 (sk),ints .u8 (pk)])),(1,.slice a_i info.length c_i),(2,.slice a_b bx.length c_b)] Tryd.func8 rfl rfl kj rfl <| sgC fun K3 hK3=>Qaj (cat [ints .u8 (sk),ints .u8 (pk)]) 31 3 rfl kj kj fun g4 W1 l4 e1 r4_1=>?_
 have x1:=Ext.tr (Rely.Ext.refl w) e1
 have b4:=qT (Rely.Ext.refl w).size l4
 refine sg 2 kj <| sgN hK3 <| wp_seq_k fun K5 hK5=>sgC fun K6 hK6=>sg 2 kj <| Qad (.bool false) 14 rfl kj (Qal (u:=.bool (decide (((info.length:Nat):Int)>65536))) kj (congrArg Value.bool (decide_eq_false (by omega)))) <| sg 3 kj <| Qad (.bool false) 18 rfl kj (Qal (u:=.bool (decide (((bx.length:Nat):Int)<48))) kj (congrArg Value.bool (decide_eq_false (by omega)))) <| sg 4 kj <| Qad (.bool false) 23 rfl kj (Qal (u:=.bool (decide (((bx.length:Nat):Int)>65584))) kj (congrArg Value.bool (decide_eq_false (by omega)))) ?_
 refine sg 1 kj <| sgN hK6 <| cond_false kj <| wp_skip <| hK5 _ _ <| sgC fun K7 hK7=>sg 1 kj <| Qad (.slice a_b 32 c_b) 27 rfl kj (QnL 24 _ _ 32 bx.length c_b a_b 5 rfl kj kj kj .i64 kj (qT h32 cbk) _) ?_
 obtain ⟨gb,ob,hab,-,-,hcb⟩:=Qfr (Qli et4 (RdK.ext hb x1) h32) (by rw [Qa2]; decide)
 refine Qad (.pointer (some ⟨gb,ob,none⟩)) 28 rfl kj (by rw [←hab]; exact Ae.run_sap 23 _ 32 5 (a:=a_b) (len:=32) (cap:=c_b) rfl kj kj (qR _)) ?_
 refine Qad (.agg (ints .u8 (pubL dr))) 29 rfl kj (QgC 23 _ gb ob 32 (pubL dr) (Qa2 dr) (by decide) (fun j hj=>hcb j (by rw [Qa2]; exact hj)) rfl kj kj kj) ?_
 refine Qaj (ints .u8 (List.replicate 32 0)) 23 8 rfl kj kj fun g8 W2 l8 e2 r8_2=>Qah g8 _ (ints .u8 (pubL dr)) 23 r8_2 rfl kj (Qaf 23 _ _ g8 23 _ _ r8_2 rfl kj kj (isz (n:=32) kj ((Qac _ _).trans (Qa2 dr))) (eqsz (n:=32) ((Qac _ _).trans (qZ (n:=32))) ((Qac _ _).trans (Qa2 dr))) (ints_one _ _)) fun W3 p3 r8_3=>sgN hK7 <| sgC fun K9 hK9=>sg 1 kj ?_
 have r4_3:=(Puts.row p3 (Qaa r4_1 e2) (Qab r4_1 l8))
 refine Qad (.agg (ints .u8 (sk))) 32 rfl kj (Qat 23 _ g4 0 31 _ _ _ r4_3 rfl kj (Qa8 [] [ints .u8 (sk)] [ints .u8 (pk)] 0 kj) kj (isz (n:=32) kj ((Qac _ _).trans hsk))) <| Qad (.agg (ints .u8 (pubL dr))) 33 rfl kj (Qae 23 _ g8 23 _ _ r8_3 rfl kj kj (isz (n:=32) kj ((Qac _ _).trans (Qa2 dr)))) <| Qao (.tuple #[.agg (ints .u8 (Qay (agN sk (pubL dr)))),.nilIface]) 13 #[.agg (ints .u8 (sk)),.agg (ints .u8 (pubL dr))] 34 rfl kj kj (Field.agree_0 sk (pubL dr) hsk hskb (Qa2 _) (Qc1 _) h0 _) fun W4 e4=>?_
 have x4:=Ext.tr (Puts.ext p3 (Ext.tr x1 e2) (qT x1.size l8)) e4
 refine sg 3 kj <| Qaj (ints .u8 (List.replicate 32 0)) 23 9 rfl kj kj fun g10 W5 l10 e5 r10_5=>Qah g10 _ (ints .u8 (Qay (agN sk (pubL dr)))) 23 r10_5 rfl kj (Qaf 23 _ _ g10 23 _ _ r10_5 rfl kj kj (isz (n:=32) kj ((Qac _ _).trans (QaR _))) (eqsz (n:=32) ((Qac _ _).trans (qZ (n:=32))) ((Qac _ _).trans (QaR _))) (ints_one _ _)) fun W6 p6 r10_6=>?_
 have x6:=Puts.ext p6 (Ext.tr x4 e5) (qT x4.size l10)
 refine sg 1 kj <| sgN hK9 <| wp_seq_k fun K11 hK11=>sgB kj <| cond_false kj <| wp_skip <| hK11 _ _ <| sgC fun K13 hK13=>Qad (.agg (ints .u8 (Qay (agN sk (pubL dr))))) 41 rfl kj (Qae 23 _ g10 23 _ _ r10_6 rfl kj kj (isz (n:=32) kj ((Qac _ _).trans (QaR _)))) ?_
 have r8_4:=(Qaa r8_3 e4)
 refine Qad (.agg (ints .u8 (pubL dr))) 42 rfl kj (Qae 23 _ g8 23 _ _ (Puts.row p6 (Qaa r8_4 e5) (Qab r8_4 l10)) rfl kj kj (isz (n:=32) kj ((Qac _ _).trans (Qa2 dr)))) <| sg 1 kj ?_
 have r4_4:=(Qaa r4_3 e4)
 refine Qad (.agg (ints .u8 (pk))) 44 rfl kj (Qat 23 _ g4 32 31 _ _ _ (Puts.row p6 (Qaa r4_4 e5) (Qab r4_4 l10)) rfl kj (Qa8 [ints .u8 (sk)] [ints .u8 (pk)] [] 32 ((Qac _ _).trans hsk)) kj (isz (n:=32) kj ((Qac _ _).trans hp))) <| sg 1 kj <| Qao (.tuple #[.agg (ints .u8 (keyV (Qay (agN sk (pubL dr))) (pubL dr) pk info)),.nilIface]) 14 #[.agg (ints .u8 (Qay (agN sk (pubL dr)))),.agg (ints .u8 (pubL dr)),.agg (ints .u8 (pk)),.slice a_i info.length c_i] 46 rfl kj kj (QlG _ _ _ info a_i c_i _ (QaR _) (Field.bytesOf_areBytes _) (Qa2 _) (Qc1 _) hp hpb hil hib tc tq th tr _ (hT.ext x6) (RdK.ext hi x6)) fun W7 e7=>?_
 have x7:=Ext.tr x6 e7
 refine sg 3 kj <| Qaj (ints .u8 (List.replicate 32 0)) 23 11 rfl kj kj fun g14 W8 l14 e8 r14_8=>Qah g14 _ (ints .u8 (keyV (Qay (agN sk (pubL dr))) (pubL dr) pk info)) 23 r14_8 rfl kj (Qaf 23 _ _ g14 23 _ _ r14_8 rfl kj kj (isz (n:=32) kj ((Qac _ _).trans (Qcm _ _ _ _))) (eqsz (n:=32) ((Qac _ _).trans (qZ (n:=32))) ((Qac _ _).trans (Qcm _ _ _ _))) (ints_one _ _)) fun W9 p9 r14_9=>?_
 have x9:=Puts.ext p9 (Ext.tr x7 e8) (qT x7.size l14)
 refine sg 1 kj <| sgN hK13 <| wp_seq_k fun K15 hK15=>sgB kj <| cond_false kj <| wp_skip <| hK15 _ _ <| wp_seq_k fun K17 hK17=>Qbf 8 [⟨none,[(11,none)]⟩,⟨none,[]⟩,⟨none,[(1,none)]⟩,⟨none,[(2,none)]⟩,⟨none,[(55,some 3)]⟩,⟨none,[(52,some 0),(53,some 1),(54,some 2),(56,some 4)]⟩,⟨none,[(57,some 5)]⟩,⟨none,[(57,some 5)]⟩] kj kj fun F hF=>Qc8 (Qaq _) (.agg (ints .u8 (keyV (Qay (agN sk (pubL dr))) (pubL dr) pk info))) kj kj (fun W hR=>(Qae 23 _ g14 23 _ _ (Qaa (Qaa r14_9 (Qai _)) hR) rfl kj kj (isz (n:=32) kj ((Qac _ _).trans (Qcm _ _ _ _))))) ?_
 refine Qfi (Qaq _) (OwnN .u8 5 W9.heap.size non0) (OwnN.stable _ _ _ _) 16 #[.int .i64 0] kj kj (fun W=>by kernel_rfl) (fun W hR=>(Ql2 W9.heap.size _ (Rely.Ext.trans (Qai _) hR).size)) <| QaL (Qaq _) (.slice a_i info.length c_i) kj kj (fun W=>by kernel_rfl) <| QaL (Qaq _) (.slice a_b bx.length c_b) kj kj (fun W=>by kernel_rfl) <| QaL (Qaq _) (.slice (restA a_b 32 c_b) (bx.length-32) (c_b-32)) kj kj (fun W=>(Qju 24 _ _ 32 bx.length c_b a_b 5 rfl kj kj kj .i64 kj h32 cbk _)) ?_
 have r2_1:=(Qaa hh e1)
 have r2_4:=(Qaa (Puts.row p3 (Qaa r2_1 e2) (Qab r2_1 l8)) e4)
 have r2_7:=(Qaa (Puts.row p6 (Qaa r2_4 e5) (Qab r2_4 l10)) e7)
 have r1_1:=(Qaa hq e1)
 have r1_4:=(Qaa (Puts.row p3 (Qaa r1_1 e2) (Qab r1_1 l8)) e4)
 have r1_7:=(Qaa (Puts.row p6 (Qaa r1_4 e5) (Qab r1_4 l10)) e7)
 refine Qh2 (Qaq _) (MixR W9.heap.size text) (Qe6 _ _) 17 (fun ρ W hR hX=>?_) ?_
 ·skip
  have e52_:ρ 52=.agg (ints .u8 (keyV (Qay (agN sk (pubL dr))) (pubL dr) pk info)):=hX.1
  have q53_:(OwnN .u8 5 W9.heap.size non0) (ρ 53) W:=hX.2.1
  obtain ⟨ar53,cr53,e53_,-⟩:=id (OwnN.rd q53_)
  have rd53_:=OwnN.rd q53_
  rw [e53_] at rd53_
  have e54_:ρ 54=.slice a_i info.length c_i:=hX.2.2.1
  have e56_:ρ 56=.slice (restA a_b 32 c_b) (bx.length-32) (c_b-32):=hX.2.2.2.1
  refine ⟨#[.agg (ints .u8 (keyV (Qay (agN sk (pubL dr))) (pubL dr) pk info)),.slice ar53 non0.length cr53,.slice a_i info.length c_i,.slice (restA a_b 32 c_b) (bx.length-32) (c_b-32)],Eq.trans (b:=Result.ok (Next.enter 17 #[ρ 52,ρ 53,ρ 54,ρ 56]) W) kj (by rw [e52_,e53_,e54_,e56_]),?_⟩
  exact ((Qmz (keyV (Qay (agN sk (pubL dr))) (pubL dr) pk info) non0 info text _ _ _ _ _ _ th tr W (Qaa (Qaa (Puts.row p9 (Qaa r2_7 e8) (Qab r2_7 l14)) (Qai _)) hR) (Qaa (Qaa (Puts.row p9 (Qaa r1_7 e8) (Qab r1_7 l14)) (Qai _)) hR) (Qcm _ _ _ _) rd53_ (RdK.ext (RdK.ext hi x9) (Rely.Ext.trans (Qai _) hR)) (esl▸(RdK.ext (QhS et5 (RdK.ext hb x9) h32) (Rely.Ext.trans (Qai _) hR))) hib htb Qhp (by omega) (by omega)).mono fun e W2 hg=>by obtain ⟨v2,e1,e2,u,e3,e4⟩:=hg; exact ⟨v2,e1,e2,u,e3,e4.base (Rely.Ext.trans (Qai _) hR).size⟩)
 refine QeP (Qaq _) (OwnN .u8 5 W9.heap.size text) (OwnN.stable _ _ _ _) (fun ρ W hR hh=>?_) ?_
 ·obtain ⟨u,e,h⟩:=(show (MixR W9.heap.size text) (ρ 57) W from hh.1)
  exact ⟨_,W,Qcx (.tmp 57) 0 #[u,.nilIface] _ rfl e rfl,Rely.Ext.refl _,h⟩
 refine QeP (Qaq _) (fun v W=>v=.nilIface) (fun _ _ _ _ h=>h) (fun ρ W hR hh=>?_) ?_
 ·obtain ⟨u,e,h⟩:=(show (MixR W9.heap.size text) (ρ 57) W from hh.1)
  exact ⟨_,W,Qcx (.tmp 57) 1 #[u,.nilIface] _ rfl e rfl,Rely.Ext.refl _,rfl⟩
 refine QdN (hF _ fun W10 e10=>?_)
 simp only [List.nil_append,List.cons_append,List.take_succ_cons,List.take_zero,List.drop_succ_cons,List.drop_zero,finE,up]
 intro vv18 hv18 vv19 hv19 vv20 hv20 vv21 hv21
 clear hF
 obtain ⟨a22_,c22_,rfl,-⟩:=id (OwnN.rd hv18)
 obtain ⟨a23_,c23_,rfl,-⟩:=id (OwnN.rd hv20)
 subst hv21
 refine sg 2 kj <| sgN hK17 <| wp_ret ?_
 repeat (first | with_reducible refine goR1 ?_ | with_reducible refine goR2 ?_)
 exact (show bodyPost _ _ _ .ret _ _ from ret2 (.slice a23_ ((text).length) c23_) (.nilIface) rfl (QaM kj) (QaM kj) ⟨_,rfl,OwnN.base x9.size hv20,(Ext.tr x9 e10)⟩)
set_option maxRecDepth 100000 in
theorem QpA (sk pk dr info sl:List Int) (hsk:sk.length=32) (hskb:Qag sk) (hp:pk.length=32) (hpb:Qag pk) (h0:(agN sk (pubL dr)==0)=false) (tc tq th tr:TypeId) (w:World) (hT:Tabs tc tq th tr w) (a_i:Option Addr) (c_i B:Nat) (hil:info.length≤65536) (hib:Qag info) (hi:RdK .u8 B info (.slice a_i info.length c_i) w) (hsb:Qag sl) (h16:16≤sl.length) (hsl:sl.length≤65552) (bx:List Int) (ebx:bx=pubL dr++sl) (a_b:Option Addr) (c_b B2:Nat) (hb:RdK .u8 B2 bx (.slice a_b bx.length c_b) w) (hne:QcV (keyV (Qay (agN sk (pubL dr))) (pubL dr) pk info) non0 info (sl.take (sl.length-16))≠sl.drop (sl.length-16)) :
  Calls Tryd.prog 8 #[.agg (cat [ints .u8 sk,ints .u8 pk]),.slice a_i info.length c_i,.slice a_b bx.length c_b] w (Ret w (.tuple #[.slice none 0 0,.iface 40 (.int .i64 2)])):=by
 have hh:=hT.h
 have hq:=hT.r
 have lbx:bx.length=sl.length+32:=by rw [ebx,List.length_append,Qa2]; omega
 have h32:32≤bx.length:=by omega
 have cbk:=Qll hb
 have et4:bx.take 32=pubL dr:=by rw [ebx]; exact List.take_left' (Qa2 _)
 have et5:bx.drop 32=sl:=by rw [ebx]; exact List.drop_left' (Qa2 _)
 refine enter 60 [(0,.agg (cat [ints .u8 (sk),ints .u8 (pk)])),(1,.slice a_i info.length c_i),(2,.slice a_b bx.length c_b)] Tryd.func8 rfl rfl kj rfl <| sgC fun K3 hK3=>Qaj (cat [ints .u8 (sk),ints .u8 (pk)]) 31 3 rfl kj kj fun g4 W1 l4 e1 r4_1=>?_
 have x1:=Ext.tr (Rely.Ext.refl w) e1
 have b4:=qT (Rely.Ext.refl w).size l4
 refine sg 2 kj <| sgN hK3 <| wp_seq_k fun K5 hK5=>sgC fun K6 hK6=>sg 2 kj <| Qad (.bool false) 14 rfl kj (Qal (u:=.bool (decide (((info.length:Nat):Int)>65536))) kj (congrArg Value.bool (decide_eq_false (by omega)))) <| sg 3 kj <| Qad (.bool false) 18 rfl kj (Qal (u:=.bool (decide (((bx.length:Nat):Int)<48))) kj (congrArg Value.bool (decide_eq_false (by omega)))) <| sg 4 kj <| Qad (.bool false) 23 rfl kj (Qal (u:=.bool (decide (((bx.length:Nat):Int)>65584))) kj (congrArg Value.bool (decide_eq_false (by omega)))) ?_
 refine sg 1 kj <| sgN hK6 <| cond_false kj <| wp_skip <| hK5 _ _ <| sgC fun K7 hK7=>sg 1 kj <| Qad (.slice a_b 32 c_b) 27 rfl kj (QnL 24 _ _ 32 bx.length c_b a_b 5 rfl kj kj kj .i64 kj (qT h32 cbk) _) ?_
 obtain ⟨gb,ob,hab,-,-,hcb⟩:=Qfr (Qli et4 (RdK.ext hb x1) h32) (by rw [Qa2]; decide)
 refine Qad (.pointer (some ⟨gb,ob,none⟩)) 28 rfl kj (by rw [←hab]; exact Ae.run_sap 23 _ 32 5 (a:=a_b) (len:=32) (cap:=c_b) rfl kj kj (qR _)) ?_
 refine Qad (.agg (ints .u8 (pubL dr))) 29 rfl kj (QgC 23 _ gb ob 32 (pubL dr) (Qa2 dr) (by decide) (fun j hj=>hcb j (by rw [Qa2]; exact hj)) rfl kj kj kj) ?_
 refine Qaj (ints .u8 (List.replicate 32 0)) 23 8 rfl kj kj fun g8 W2 l8 e2 r8_2=>Qah g8 _ (ints .u8 (pubL dr)) 23 r8_2 rfl kj (Qaf 23 _ _ g8 23 _ _ r8_2 rfl kj kj (isz (n:=32) kj ((Qac _ _).trans (Qa2 dr))) (eqsz (n:=32) ((Qac _ _).trans (qZ (n:=32))) ((Qac _ _).trans (Qa2 dr))) (ints_one _ _)) fun W3 p3 r8_3=>sgN hK7 <| sgC fun K9 hK9=>sg 1 kj ?_
 have r4_3:=(Puts.row p3 (Qaa r4_1 e2) (Qab r4_1 l8))
 refine Qad (.agg (ints .u8 (sk))) 32 rfl kj (Qat 23 _ g4 0 31 _ _ _ r4_3 rfl kj (Qa8 [] [ints .u8 (sk)] [ints .u8 (pk)] 0 kj) kj (isz (n:=32) kj ((Qac _ _).trans hsk))) <| Qad (.agg (ints .u8 (pubL dr))) 33 rfl kj (Qae 23 _ g8 23 _ _ r8_3 rfl kj kj (isz (n:=32) kj ((Qac _ _).trans (Qa2 dr)))) <| Qao (.tuple #[.agg (ints .u8 (Qay (agN sk (pubL dr)))),.nilIface]) 13 #[.agg (ints .u8 (sk)),.agg (ints .u8 (pubL dr))] 34 rfl kj kj (Field.agree_0 sk (pubL dr) hsk hskb (Qa2 _) (Qc1 _) h0 _) fun W4 e4=>?_
 have x4:=Ext.tr (Puts.ext p3 (Ext.tr x1 e2) (qT x1.size l8)) e4
 refine sg 3 kj <| Qaj (ints .u8 (List.replicate 32 0)) 23 9 rfl kj kj fun g10 W5 l10 e5 r10_5=>Qah g10 _ (ints .u8 (Qay (agN sk (pubL dr)))) 23 r10_5 rfl kj (Qaf 23 _ _ g10 23 _ _ r10_5 rfl kj kj (isz (n:=32) kj ((Qac _ _).trans (QaR _))) (eqsz (n:=32) ((Qac _ _).trans (qZ (n:=32))) ((Qac _ _).trans (QaR _))) (ints_one _ _)) fun W6 p6 r10_6=>?_
 have x6:=Puts.ext p6 (Ext.tr x4 e5) (qT x4.size l10)
 refine sg 1 kj <| sgN hK9 <| wp_seq_k fun K11 hK11=>sgB kj <| cond_false kj <| wp_skip <| hK11 _ _ <| sgC fun K13 hK13=>Qad (.agg (ints .u8 (Qay (agN sk (pubL dr))))) 41 rfl kj (Qae 23 _ g10 23 _ _ r10_6 rfl kj kj (isz (n:=32) kj ((Qac _ _).trans (QaR _)))) ?_
 have r8_4:=(Qaa r8_3 e4)
 refine Qad (.agg (ints .u8 (pubL dr))) 42 rfl kj (Qae 23 _ g8 23 _ _ (Puts.row p6 (Qaa r8_4 e5) (Qab r8_4 l10)) rfl kj kj (isz (n:=32) kj ((Qac _ _).trans (Qa2 dr)))) <| sg 1 kj ?_
 have r4_4:=(Qaa r4_3 e4)
 refine Qad (.agg (ints .u8 (pk))) 44 rfl kj (Qat 23 _ g4 32 31 _ _ _ (Puts.row p6 (Qaa r4_4 e5) (Qab r4_4 l10)) rfl kj (Qa8 [ints .u8 (sk)] [ints .u8 (pk)] [] 32 ((Qac _ _).trans hsk)) kj (isz (n:=32) kj ((Qac _ _).trans hp))) <| sg 1 kj <| Qao (.tuple #[.agg (ints .u8 (keyV (Qay (agN sk (pubL dr))) (pubL dr) pk info)),.nilIface]) 14 #[.agg (ints .u8 (Qay (agN sk (pubL dr)))),.agg (ints .u8 (pubL dr)),.agg (ints .u8 (pk)),.slice a_i info.length c_i] 46 rfl kj kj (QlG _ _ _ info a_i c_i _ (QaR _) (Field.bytesOf_areBytes _) (Qa2 _) (Qc1 _) hp hpb hil hib tc tq th tr _ (hT.ext x6) (RdK.ext hi x6)) fun W7 e7=>?_
 have x7:=Ext.tr x6 e7
 refine sg 3 kj <| Qaj (ints .u8 (List.replicate 32 0)) 23 11 rfl kj kj fun g14 W8 l14 e8 r14_8=>Qah g14 _ (ints .u8 (keyV (Qay (agN sk (pubL dr))) (pubL dr) pk info)) 23 r14_8 rfl kj (Qaf 23 _ _ g14 23 _ _ r14_8 rfl kj kj (isz (n:=32) kj ((Qac _ _).trans (Qcm _ _ _ _))) (eqsz (n:=32) ((Qac _ _).trans (qZ (n:=32))) ((Qac _ _).trans (Qcm _ _ _ _))) (ints_one _ _)) fun W9 p9 r14_9=>?_
 have x9:=Puts.ext p9 (Ext.tr x7 e8) (qT x7.size l14)
 refine sg 1 kj <| sgN hK13 <| wp_seq_k fun K15 hK15=>sgB kj <| cond_false kj <| wp_skip <| hK15 _ _ <| wp_seq_k fun K17 hK17=>Qbf 8 [⟨none,[(11,none)]⟩,⟨none,[]⟩,⟨none,[(1,none)]⟩,⟨none,[(2,none)]⟩,⟨none,[(55,some 3)]⟩,⟨none,[(52,some 0),(53,some 1),(54,some 2),(56,some 4)]⟩,⟨none,[(57,some 5)]⟩,⟨none,[(57,some 5)]⟩] kj kj fun F hF=>Qc8 (Qaq _) (.agg (ints .u8 (keyV (Qay (agN sk (pubL dr))) (pubL dr) pk info))) kj kj (fun W hR=>(Qae 23 _ g14 23 _ _ (Qaa (Qaa r14_9 (Qai _)) hR) rfl kj kj (isz (n:=32) kj ((Qac _ _).trans (Qcm _ _ _ _))))) ?_
 refine Qfi (Qaq _) (OwnN .u8 5 W9.heap.size non0) (OwnN.stable _ _ _ _) 16 #[.int .i64 0] kj kj (fun W=>by kernel_rfl) (fun W hR=>(Ql2 W9.heap.size _ (Rely.Ext.trans (Qai _) hR).size)) <| QaL (Qaq _) (.slice a_i info.length c_i) kj kj (fun W=>by kernel_rfl) <| QaL (Qaq _) (.slice a_b bx.length c_b) kj kj (fun W=>by kernel_rfl) <| QaL (Qaq _) (.slice (restA a_b 32 c_b) (bx.length-32) (c_b-32)) kj kj (fun W=>(Qju 24 _ _ 32 bx.length c_b a_b 5 rfl kj kj kj .i64 kj h32 cbk _)) ?_
 have r2_1:=(Qaa hh e1)
 have r2_4:=(Qaa (Puts.row p3 (Qaa r2_1 e2) (Qab r2_1 l8)) e4)
 have r2_7:=(Qaa (Puts.row p6 (Qaa r2_4 e5) (Qab r2_4 l10)) e7)
 have r1_1:=(Qaa hq e1)
 have r1_4:=(Qaa (Puts.row p3 (Qaa r1_1 e2) (Qab r1_1 l8)) e4)
 have r1_7:=(Qaa (Puts.row p6 (Qaa r1_4 e5) (Qab r1_4 l10)) e7)
 refine Qh2 (Qaq _) (fun v W=>∃ u,v=.tuple #[u,.iface 40 (.int .i64 2)]∧(fun v (W:World)=>v=Value.slice none 0 0) u W) (fun _ _ _ _ h=>h) 17 (fun ρ W hR hX=>?_) ?_
 ·skip
  have e52_:ρ 52=.agg (ints .u8 (keyV (Qay (agN sk (pubL dr))) (pubL dr) pk info)):=hX.1
  have q53_:(OwnN .u8 5 W9.heap.size non0) (ρ 53) W:=hX.2.1
  obtain ⟨ar53,cr53,e53_,-⟩:=id (OwnN.rd q53_)
  have rd53_:=OwnN.rd q53_
  rw [e53_] at rd53_
  have e54_:ρ 54=.slice a_i info.length c_i:=hX.2.2.1
  have e56_:ρ 56=.slice (restA a_b 32 c_b) (bx.length-32) (c_b-32):=hX.2.2.2.1
  refine ⟨#[.agg (ints .u8 (keyV (Qay (agN sk (pubL dr))) (pubL dr) pk info)),.slice ar53 non0.length cr53,.slice a_i info.length c_i,.slice (restA a_b 32 c_b) (bx.length-32) (c_b-32)],Eq.trans (b:=Result.ok (Next.enter 17 #[ρ 52,ρ 53,ρ 54,ρ 56]) W) kj (by rw [e52_,e53_,e54_,e56_]),?_⟩
  exact ((Qqh (keyV (Qay (agN sk (pubL dr))) (pubL dr) pk info) non0 info sl _ _ _ _ _ _ th tr W (Qaa (Qaa (Puts.row p9 (Qaa r2_7 e8) (Qab r2_7 l14)) (Qai _)) hR) (Qaa (Qaa (Puts.row p9 (Qaa r1_7 e8) (Qab r1_7 l14)) (Qai _)) hR) (Qcm _ _ _ _) rd53_ (RdK.ext (RdK.ext hi x9) (Rely.Ext.trans (Qai _) hR)) (RdK.ext (QhS et5 (RdK.ext hb x9) h32) (Rely.Ext.trans (Qai _) hR)) hib hsb Qhp (by omega) (by omega) (by omega) hne).mono fun e W2 hg=>by obtain ⟨rfl,e2⟩:=hg; exact ⟨_,rfl,e2,_,rfl,rfl⟩)
 refine QeP (Qaq _) (fun v W=>v=.slice none 0 0) (fun _ _ _ _ h=>h) (fun ρ W hR hh=>?_) ?_
 ·obtain ⟨u,e,h⟩:=(show (fun v W=>∃ u,v=.tuple #[u,.iface 40 (.int .i64 2)]∧(fun v (W:World)=>v=Value.slice none 0 0) u W) (ρ 57) W from hh.1)
  exact ⟨_,W,Qcx (.tmp 57) 0 #[u,.iface 40 (.int .i64 2)] _ rfl e rfl,Rely.Ext.refl _,h⟩
 refine QeP (Qaq _) (fun v W=>v=.iface 40 (.int .i64 2)) (fun _ _ _ _ h=>h) (fun ρ W hR hh=>?_) ?_
 ·obtain ⟨u,e,h⟩:=(show (fun v W=>∃ u,v=.tuple #[u,.iface 40 (.int .i64 2)]∧(fun v (W:World)=>v=Value.slice none 0 0) u W) (ρ 57) W from hh.1)
  exact ⟨_,W,Qcx (.tmp 57) 1 #[u,.iface 40 (.int .i64 2)] _ rfl e rfl,Rely.Ext.refl _,rfl⟩
 refine QdN (hF _ fun W10 e10=>?_)
 simp only [List.nil_append,List.cons_append,List.take_succ_cons,List.take_zero,List.drop_succ_cons,List.drop_zero,finE,up]
 intro vv18 hv18 vv19 hv19 vv20 hv20 vv21 hv21
 clear hF
 obtain ⟨a22_,c22_,rfl,-⟩:=id (OwnN.rd hv18)
 subst hv20
 subst hv21
 refine sg 2 kj <| sgN hK17 <| wp_ret ?_
 repeat (first | with_reducible refine goR1 ?_ | with_reducible refine goR2 ?_)
 exact (show bodyPost _ _ _ .ret _ _ from ret2 (.slice none 0 0) (.iface 40 (.int .i64 2)) rfl (QaM kj) (QaM kj) ⟨rfl,(Ext.tr x9 e10)⟩)
end Go.Proofs.YtmljnchhgkfemaaDoor.Bx
end
section
namespace Go.Proofs.YtmljnchhgkfemaaDoor.Bx
open Go Go.RowKit
open Rely Auto Own Sha
open Cha
open Ae hiding run_storeQ run_sap
open Field (Qay pubL agN Qa2 Qds QaR Qd4)
theorem Qp2 (sk : List Int) (hsk:sk.length=32) (hskb:Qag sk) (w:World):Calls Tryd.prog 6 #[.agg (ints .u8 sk)] w (Ret w (.agg (cat [ints .u8 sk,ints .u8 (pubL sk)]))):=by
  refine enter 7 [(0,.agg (ints .u8 (sk)))] Tryd.func6 rfl rfl kj rfl <| sgC fun K1 hK1=>Qaj (ints .u8 (sk)) 23 1 rfl kj kj fun g2 W1 l2 e1 r2_1=>?_
  have x1:=Ext.tr (Rely.Ext.refl w) e1
  have b2:=qT (Rely.Ext.refl w).size l2
  refine Qaj (cat [ints .u8 (List.replicate 32 0),ints .u8 (List.replicate 32 0)]) 31 2 rfl kj kj fun g3 W2 l3 e2 r3_2=>sgN hK1 <| wp_seq_k fun K4 hK4=>QaY 4 [⟨none,[(1,none)]⟩,⟨none,[(1,none)]⟩,⟨none,[(4,some 1)]⟩,⟨none,[(3,some 0),(5,some 2)]⟩] kj kj fun F hF=>?_
  have r2_2:=(Qaa r2_1 e2)
  refine Qax (.agg (ints .u8 (sk))) kj kj (fun W hR=>(Qae 23 _ g2 23 _ _ (Qaa (Qaa r2_2 (Qai _)) hR) rfl kj kj (isz (n:=32) kj ((Qac _ _).trans hsk)))) <| Qax (.agg (ints .u8 (sk))) kj kj (fun W hR=>(Qae 23 _ g2 23 _ _ (Qaa (Qaa r2_2 (Qai _)) hR) rfl kj kj (isz (n:=32) kj ((Qac _ _).trans hsk)))) <| QaD (.agg (ints .u8 (pubL sk))) 11 #[.agg (ints .u8 (sk))] kj kj (fun W=>by kernel_rfl) (fun W hR=>(Field.refPublic sk hsk hskb) W) <| Qas (.agg (cat [ints .u8 (sk),ints .u8 (pubL sk)])) kj kj (fun W=>(Qd4 31 _ (.agg (cat [ints .u8 (List.replicate 32 0),ints .u8 (List.replicate 32 0)])) #[(0,32),(32,32)] [(0,32,.agg (ints .u8 (sk)),ints .u8 (sk)),(1,32,.agg (ints .u8 (pubL sk)),ints .u8 (pubL sk))] rfl kj ⟨kj,rfl,((Qac _ _).trans hsk),kj,rfl,((Qac _ _).trans (Qa2 sk)),trivial⟩ kj kj kj kj)) <| QaT (hF _ kj fun W3 e3=>?_)
  simp only [ups,up,Kn.val,List.take_succ_cons,List.take_zero,List.drop_succ_cons,List.drop_zero,List.nil_append,List.cons_append]
  clear hF
  have r3_3:=(Qaa r3_2 e3)
  refine Qah g3 _ (cat [ints .u8 (sk),ints .u8 (pubL sk)]) 31 r3_3 rfl kj (Qaf 31 _ _ g3 31 _ _ r3_3 rfl kj kj (isz (n:=64) kj (by rw [Qam,Qam]; simp only [qS,cat,((Qac _ _).trans (Qa2 sk)),((Qac _ _).trans hsk)]; rfl)) (eqsz (n:=64) (by rw [Qam,Qam]; simp only [qS,cat,((Qac _ _).trans (qZ (n:=32)))]; rfl) (by rw [Qam,Qam]; simp only [qS,cat,((Qac _ _).trans (Qa2 sk)),((Qac _ _).trans hsk)]; rfl)) (Qe8 _ (by intro a ha; simp only [List.mem_cons,List.not_mem_nil,or_false] at ha; rcases ha with rfl | rfl; exact (ints_one _ _); exact (ints_one _ _)))) fun W4 p4 r3_4=>?_
  refine sgN hK4 <| wp_ret ?_
  repeat (first | with_reducible refine goR1 ?_ | with_reducible refine goR2 ?_)
  exact (show bodyPost _ _ _ .ret _ _ from ret1 (.agg (cat [ints .u8 (sk),ints .u8 (pubL sk)])) rfl (QaZ g3 31 _ r3_4 kj kj (isz (n:=64) kj (by rw [Qam,Qam]; simp only [qS,cat,((Qac _ _).trans (Qa2 sk)),((Qac _ _).trans hsk)]; rfl))) ⟨rfl,(Puts.ext p4 (Ext.tr (Ext.tr x1 e2) e3) (qT x1.size l3))⟩)
theorem Qeg (l : List Int) (h:(l.all fun x=>decide (0≤x)&&decide (x≤255))=true):Qag l:=fun x hx=>by
  have:=List.all_eq_true.1 h x hx
  simpa using this
theorem Qfn (dr pk info text:List Int):Qag (Qd3 dr pk info text):=by unfold Qd3; exact QfQ _ _ _ _
theorem Qkh {sec dr:List Int} (hs:sec.length=32) (hsb:Qag sec) (hd:dr.length=32) (hdb:Qag dr) (info text:List Int):Qd3 dr (pubL sec) info text=QdU (keyV (Qay (agN sec (pubL dr))) (pubL dr) (pubL sec) info) non0 info text:=by
  unfold Qd3
  rw [(Qds hd hdb hs hsb).1]
theorem Qpt (sec dr info text:List Int) (hs:sec.length=32) (hsb:Qag sec) (hd:dr.length=32) (hdb:Qag dr) (tc tq th tr:TypeId) (w:World) (hT:Tabs tc tq th tr w) (a_i:Option Addr) (c_i B:Nat) (hil:info.length≤65536) (hib:Qag info) (hi:RdK .u8 B info (.slice a_i info.length c_i) w) (a_t:Option Addr) (c_t B2:Nat) (htl:text.length≤65536) (ht:RdK .u8 B2 text (.slice a_t text.length c_t) w) (bx:List Int) (ebx:bx=boxV dr (pubL sec) info text) :
    Calls Tryd.prog 7 #[.agg (ints .u8 (pubL sec)),.agg (ints .u8 dr),.slice a_i info.length c_i,.slice a_t text.length c_t] w (QcB w (MixR w.heap.size bx)) :=
  (Qqz (pubL sec) dr info text (Qa2 _) (Qc1 _) hd hdb (Qds hd hdb hs hsb).2 tc tq th tr w hT a_i c_i B hil hib hi a_t c_t B2 htl ht).mono fun e W h=>by
    obtain ⟨u,h1,h2,h3⟩:=h
    exact ⟨_,h1,h3,u,rfl,ebx▸h2⟩
theorem QpC (sec dr info text:List Int) (hs:sec.length=32) (hsb:Qag sec) (hd:dr.length=32) (hdb:Qag dr) (tc tq th tr:TypeId) (w:World) (hT:Tabs tc tq th tr w) (a_i:Option Addr) (c_i B:Nat) (hil:info.length≤65536) (hib:Qag info) (hi:RdK .u8 B info (.slice a_i info.length c_i) w) (htb:Qag text) (htl:text.length≤65536) (bx:List Int) (ebx:bx=boxV dr (pubL sec) info text) (a_b:Option Addr) (c_b B2:Nat) (hb:RdK .u8 B2 bx (.slice a_b bx.length c_b) w) :
    Calls Tryd.prog 8 #[.agg (cat [ints .u8 sec,ints .u8 (pubL sec)]),.slice a_i info.length c_i,.slice a_b bx.length c_b] w (QcB w (MixR w.heap.size text)) :=
  (QpB sec (pubL sec) dr info (Qd3 dr (pubL sec) info text) hs hsb (Qa2 _) (Qc1 _) (Qds hs hsb hd hdb).2 tc tq th tr w hT a_i c_i B hil hib hi (Qfn _ _ _ _) (by rw [Qd2]; omega) (by rw [Qd2]; omega) bx ebx a_b c_b B2 hb text htb htl (Qkh hs hsb hd hdb info text)).mono fun e W h=>by
    obtain ⟨u,h1,h2,h3⟩:=h
    exact ⟨_,h1,h3,u,rfl,h2⟩
end Go.Proofs.YtmljnchhgkfemaaDoor.Bx
end
section
namespace Go.Proofs.YtmljnchhgkfemaaDoor.Field
open Ladder
theorem out_lad (u e v:Nat) (xs:List Int) (hu:u<PN) (hb:((Qbt (clamp xs)).drop 1).take (255-0)=Qc9 e 255) (hl:ladN u e 255 1 0 u 1=v):outN (u:Int) (crungs (u:Int) (clamp xs) 0)=(v:Int):=by
  unfold crungs rungs
  rw [hb]
  have:=Qhy u e 255 1 0 u 1 (by decide) (by decide) hu (by decide)
  rw [hl] at this
  exact this.symm
end Go.Proofs.YtmljnchhgkfemaaDoor.Field
namespace Go.Proofs.YtmljnchhgkfemaaDoor.Bx
open Go Go.RowKit
open Rely Auto Own Sha
open Cha
open Ae hiding run_storeQ run_sap
open Field (Qay pubL agN Qa2 Qds QaR Qd4)
def kA_ : List Int:=[8,0,0,0,0,0,0,0,0,9,0,0,0,0,0,0,0,0,0,0,0,0,0,0,0,0,0,0,0,0,0,0]
def kD_ : List Int:=[16,0,0,0,4,0,0,0,0,0,0,0,0,0,0,0,0,0,0,0,0,0,0,0,0,0,0,0,0,0,0,0]
theorem kA_b : Qag kA_:=Qeg _ (by decide)
theorem kD_b : Qag kD_:=Qeg _ (by decide)
theorem pubA : pubL kA_=Qay 14410954960534207126979758985119326193187869881542984947442063330490464172283:=by unfold pubL; exact congrArg Qay (Field.out_lad 9 28948022309329048855892746252171976963317496166410141052365694347805089333256 14410954960534207126979758985119326193187869881542984947442063330490464172283 kA_ (by decide) (by decide +kernel) (by decide +kernel))
theorem pubD : pubL kD_=Qay 10382487467480081885744424633546477483207735347859257114390096405750850824011:=by unfold pubL; exact congrArg Qay (Field.out_lad 9 28948022309329048855892746252171976963317496166410141009864396001995462279184 10382487467480081885744424633546477483207735347859257114390096405750850824011 kD_ (by decide) (by decide +kernel) (by decide +kernel))
theorem agD : agN kD_ (pubL kA_)=30334489758296282038559521297972431496129065877576633084063526839167670646814:=by unfold agN; rw [pubA,Field.keyNum_bytes (show Field.isN _ from ⟨by decide,by decide⟩)]; exact Field.out_lad 14410954960534207126979758985119326193187869881542984947442063330490464172283 28948022309329048855892746252171976963317496166410141009864396001995462279184 30334489758296282038559521297972431496129065877576633084063526839167670646814 kD_ (by decide) (by decide +kernel) (by decide +kernel)
theorem agA : agN kA_ (pubL kD_)=30334489758296282038559521297972431496129065877576633084063526839167670646814:=by rw [(Qds (xs:=kA_) (ys:=kD_) rfl kA_b rfl kD_b).1]; exact agD
theorem QkG : QcV (keyV (Qay 30334489758296282038559521297972431496129065877576633084063526839167670646814) (Qay 10382487467480081885744424633546477483207735347859257114390096405750850824011) (Qay 14410954960534207126979758985119326193187869881542984947442063330490464172283) [106]) non0 [106] (mixV (Qbb (keyV (Qay 30334489758296282038559521297972431496129065877576633084063526839167670646814) (Qay 10382487467480081885744424633546477483207735347859257114390096405750850824011) (Qay 14410954960534207126979758985119326193187869881542984947442063330490464172283) [105]) non0) 1 [116,101,120,116])≠QcV (keyV (Qay 30334489758296282038559521297972431496129065877576633084063526839167670646814) (Qay 10382487467480081885744424633546477483207735347859257114390096405750850824011) (Qay 14410954960534207126979758985119326193187869881542984947442063330490464172283) [105]) non0 [105] (mixV (Qbb (keyV (Qay 30334489758296282038559521297972431496129065877576633084063526839167670646814) (Qay 10382487467480081885744424633546477483207735347859257114390096405750850824011) (Qay 14410954960534207126979758985119326193187869881542984947442063330490464172283) [105]) non0) 1 [116,101,120,116]):=by decide +kernel
theorem QkF (sl : List Int) (esl:sl=Qd3 kD_ (pubL kA_) [105] [116,101,120,116]):QcV (keyV (Qay (agN kA_ (pubL kD_))) (pubL kD_) (pubL kA_) [106]) non0 [106] (sl.take (sl.length-16))≠sl.drop (sl.length-16):=by
  rw [esl]
  unfold Qd3
  rw [agA,agD,pubA,pubD,QfP,QhN]
  exact QkG
set_option maxRecDepth 100000 in
theorem Qjo (tc tq th tr:TypeId) (w:World) (hT:Tabs tc tq th tr w):Calls Tryd.prog 5 #[] w (Ret w (.bool true)):=by
  have htb:Qag [116,101,120,116]:=Qeg _ (by decide)
  have hib5:Qag [105]:=Qeg _ (by decide)
  have hib6:Qag [106]:=Qeg _ (by decide)
  obtain ⟨sl,esl⟩:∃ z,z=Qd3 kD_ (pubL kA_) [105] [116,101,120,116]:=⟨_,rfl⟩
  have lsl:sl.length=20:=by rw [esl,Qd2]; rfl
  have hslb:Qag sl:=by rw [esl]; exact Qfn _ _ _ _
  obtain ⟨bx,ebx⟩:∃ z,z=boxV kD_ (pubL kA_) [105] [116,101,120,116]:=⟨_,rfl⟩
  have lbx:bx.length=52:=by rw [ebx,QfF]; rfl
  have ebs:bx=pubL kD_++sl:=by rw [ebx,esl]; rfl
  refine enter 54 [] Tryd.func5 rfl rfl kj rfl <| sgB kj <| sgC fun K2 hK2=>sg 1 kj <| Qao (.agg (cat [ints .u8 (kA_),ints .u8 (pubL kA_)])) 6 #[.agg (ints .u8 ([8,0,0,0,0,0,0,0,0,9,0,0,0,0,0,0,0,0,0,0,0,0,0,0,0,0,0,0,0,0,0,0]))] 8 rfl kj kj ((Qp2 kA_ rfl kA_b) _) fun W1 e1=>?_
  have x1:=Ext.tr (Rely.Ext.refl w) e1
  refine Qaj (cat [ints .u8 (List.replicate 32 0),ints .u8 (List.replicate 32 0)]) 31 1 rfl kj kj fun g3 W2 l3 e2 r3_2=>Qah g3 _ (cat [ints .u8 (kA_),ints .u8 (pubL kA_)]) 31 r3_2 rfl kj (Qaf 31 _ _ g3 31 _ _ r3_2 rfl kj kj (isz (n:=64) kj (by rw [Qam,Qam]; simp only [qS,cat,((Qac _ _).trans (Qa2 kA_)),((Qac _ _).trans rfl)]; rfl)) (eqsz (n:=64) (by rw [Qam,Qam]; simp only [qS,cat,((Qac _ _).trans (qZ (n:=32)))]; rfl) (by rw [Qam,Qam]; simp only [qS,cat,((Qac _ _).trans (Qa2 kA_)),((Qac _ _).trans rfl)]; rfl)) (Qe8 _ (by intro a ha; simp only [List.mem_cons,List.not_mem_nil,or_false] at ha; rcases ha with rfl | rfl; exact (ints_one _ _); exact (ints_one _ _)))) fun W3 p3 r3_3=>?_
  have x3:=Puts.ext p3 (Ext.tr x1 e2) (qT x1.size l3)
  refine sgN hK2 <| sgC fun K4 hK4=>sg 1 kj <| Qad (.agg (ints .u8 (pubL kA_))) 11 rfl kj (Qat 23 _ g3 32 31 _ _ _ r3_3 rfl kj (Qa8 [ints .u8 (kA_)] [ints .u8 (pubL kA_)] [] 32 ((Qac _ _).trans rfl)) kj (isz (n:=32) kj ((Qac _ _).trans (Qa2 kA_)))) <| sg 1 kj <| Qbw (ints .u8 ([105])) 5 1 13 rfl kj kj fun g5 W4 l5 e4 r5_4=>QeE (xs:=[105]) 24 5 (.tmp 13) 14 rfl rfl kj kj kj kj rfl (show 1≤maxLen by decide) r5_4 fun W5 p5 r5_5 rd6=>?_
  have x5:=Puts.ext p5 (Ext.tr x3 e4) (qT x3.size l5)
  refine Qbw (ints .u8 ([116,101,120,116])) 5 4 15 rfl kj kj fun g7 W6 l7 e6 r7_6=>QeE (xs:=[116,101,120,116]) 24 5 (.tmp 15) 16 rfl rfl kj kj kj kj rfl (show 4≤maxLen by decide) r7_6 fun W7 p7 r7_7 rd8=>?_
  have x7:=Puts.ext p7 (Ext.tr x5 e6) (qT x5.size l7)
  refine QaA (fun v W'=>(fun v W=>∃ u,v=.tuple #[u,.nilIface]∧OwnN .u8 5 W7.heap.size (bx) u W) v W'∧Ext W7 W') 7 #[.agg (ints .u8 (pubL kA_)),.agg (ints .u8 ([16,0,0,0,4,0,0,0,0,0,0,0,0,0,0,0,0,0,0,0,0,0,0,0,0,0,0,0,0,0,0,0])),.slice (some ⟨g5,0,none⟩) 1 1,.slice (some ⟨g7,0,none⟩) 4 4] 17 rfl kj kj ((Qpt kA_ kD_ [105] [116,101,120,116] rfl kA_b rfl kD_b tc tq th tr _ (hT.ext x7) _ _ _ (by decide) hib5 (RdK.putsP (rd6.ext e6) p7 (.inr (fun e=>(Qab r5_5 l7) (Option.some.inj e)))) _ _ _ (by decide) rd8 bx ebx).mono (by rintro e w' ⟨v,rfl,e1,hv⟩; exact ⟨v,rfl,hv,e1⟩)) fun vv11 W8 hh11=>?_
  obtain ⟨hv11,e8⟩:=hh11
  have x8:=Ext.tr x7 e8
  obtain ⟨uu12,rfl,huu12⟩:=hv11
  obtain ⟨au12,cu12,rfl,-⟩:=id (OwnN.rd huu12)
  refine sg 5 kj <| sgN hK4 <| wp_seq_k fun K13 hK13=>sgC fun K14 hK14=>sg 5 kj <| Qad (.bool false) 25 rfl kj (Qal (u:=.bool (((((bx).length:Nat):Int) != 52))) kj (congrArg Value.bool (bne_eq_false_iff_eq.2 (by rw [lbx]; rfl)))) ?_
  refine sg 1 kj <| sgN hK14 <| cond_false kj <| wp_skip <| hK13 _ _ <| sgC fun K15 hK15=>?_
  have r3_5:=(Puts.row p5 (Qaa r3_3 e4) (Qab r3_3 l5))
  have r3_8:=(Qaa (Puts.row p7 (Qaa r3_5 e6) (Qab r3_5 l7)) e8)
  refine Qad (.agg (cat [ints .u8 (kA_),ints .u8 (pubL kA_)])) 28 rfl kj (Qae 31 _ g3 31 _ _ r3_8 rfl kj kj (isz (n:=64) kj (by rw [Qam,Qam]; simp only [qS,cat,((Qac _ _).trans (Qa2 kA_)),((Qac _ _).trans rfl)]; rfl))) ?_
  refine Qbw (ints .u8 ([105])) 5 1 29 rfl kj kj fun g16 W9 l16 e9 r16_9=>QeE (xs:=[105]) 24 5 (.tmp 29) 30 rfl rfl kj kj kj kj rfl (show 1≤maxLen by decide) r16_9 fun W10 p10 r16_10 rd17=>?_
  have x10:=Puts.ext p10 (Ext.tr x8 e9) (qT x8.size l16)
  refine sg 1 kj ?_
  have y8_10:=(Puts.ext p10 (Rely.Ext.trans (Rely.Ext.refl W8) e9) l16)
  refine QaA (fun v W'=>(fun v W=>∃ u,v=.tuple #[u,.nilIface]∧OwnN .u8 5 W10.heap.size ([116,101,120,116]) u W) v W'∧Ext W10 W') 8 #[.agg (cat [ints .u8 (kA_),ints .u8 (pubL kA_)]),.slice (some ⟨g16,0,none⟩) 1 1,.slice au12 ((bx).length) cu12] 32 rfl kj kj ((QpC kA_ kD_ [105] [116,101,120,116] rfl kA_b rfl kD_b tc tq th tr _ (hT.ext x10) _ _ _ (by decide) hib5 rd17 htb (by decide) bx ebx _ _ _ (OwnN.rd (OwnN.ext huu12 y8_10))).mono (by rintro e w' ⟨v,rfl,e1,hv⟩; exact ⟨v,rfl,hv,e1⟩)) fun vv18 W11 hh18=>?_
  obtain ⟨hv18,e11⟩:=hh18
  have x11:=Ext.tr x10 e11
  obtain ⟨uu19,rfl,huu19⟩:=hv18
  obtain ⟨au19,cu19,rfl,-⟩:=id (OwnN.rd huu19)
  refine sg 5 kj <| sgN hK15 <| sgC fun K20 hK20=>Qad (.agg (cat [ints .u8 (kA_),ints .u8 (pubL kA_)])) 36 rfl kj (Qae 31 _ g3 31 _ _ (Qaa (Puts.row p10 (Qaa r3_8 e9) (Qab r3_8 l16)) e11) rfl kj kj (isz (n:=64) kj (by rw [Qam,Qam]; simp only [qS,cat,((Qac _ _).trans (Qa2 kA_)),((Qac _ _).trans rfl)]; rfl))) ?_
  refine Qbw (ints .u8 ([106])) 5 1 37 rfl kj kj fun g21 W12 l21 e12 r21_12=>QeE (xs:=[106]) 24 5 (.tmp 37) 38 rfl rfl kj kj kj kj rfl (show 1≤maxLen by decide) r21_12 fun W13 p13 r21_13 rd22=>?_
  have x13:=Puts.ext p13 (Ext.tr x11 e12) (qT x11.size l21)
  refine sg 1 kj ?_
  have y8_11:=(Rely.Ext.trans y8_10 e11)
  refine Qao (.tuple #[.slice none 0 0,.iface 40 (.int .i64 2)]) 8 #[.agg (cat [ints .u8 (kA_),ints .u8 (pubL kA_)]),.slice (some ⟨g21,0,none⟩) 1 1,.slice au12 ((bx).length) cu12] 40 rfl kj kj (QpA kA_ (pubL kA_) kD_ [106] sl rfl kA_b (Qa2 _) (Qc1 _) (Qds (xs:=kA_) (ys:=kD_) rfl kA_b rfl kD_b).2 tc tq th tr _ (hT.ext x13) _ _ _ (by decide) hib6 rd22 hslb (by rw [lsl]; decide) (by rw [lsl]; decide) bx ebs _ _ _ (OwnN.rd (OwnN.ext huu12 (Puts.ext p13 (Rely.Ext.trans y8_11 e12) (qT y8_11.size l21)))) (QkF sl esl)) fun W14 e14=>?_
  refine sg 5 kj <| sgN hK20 <| sgC fun K23 hK23=>sg 4 kj <| Qad (.string (Qe2 [116,101,120,116])) 47 rfl kj (QfR (.tmp 46) (.slice au19 (([116,101,120,116]).length) cu19) rfl rfl [116,101,120,116] (RdK.bytes (OwnN.rd (OwnN.ext huu19 (Rely.Ext.trans (Puts.ext p13 (Rely.Ext.trans (Rely.Ext.refl W11) e12) l21) e14))) htb)) <| sg 4 kj <| Qao (.bool true) 10 #[.iface 40 (.int .i64 2),.int .i64 2] 52 rfl kj kj ((is2) _) fun W15 e15=>sg 2 kj <| sgN hK23 <| wp_ret ?_
  repeat (first | with_reducible refine goR1 ?_ | with_reducible refine goR2 ?_)
  exact (show bodyPost _ _ _ .ret _ _ from ret1 (.bool true) rfl (QaM kj) ⟨rfl,(Ext.tr (Ext.tr x13 e14) e15)⟩)
end Go.Proofs.YtmljnchhgkfemaaDoor.Bx
end
section
namespace Go.Proofs.YtmljnchhgkfemaaDoor.Bx
open Go Go.RowKit
open Rely Auto Own Sha
open Cha
open Ae hiding run_storeQ run_sap
open Field (Qay pubL agN Qa2 Qds QaR Qd4)
set_option maxRecDepth 100000 in
theorem QpX (sk dr info text:List Int) (hsk:sk.length=32) (hskb:Qag sk) (hd:dr.length=32) (hdb:Qag dr) (tc tq th tr:TypeId) (w:World) (hT:Tabs tc tq th tr w) (a_i:Option Addr) (c_i B:Nat) (hib:Qag info) (hi:RdK .u8 B info (.slice a_i info.length c_i) w) (a_t:Option Addr) (c_t B2:Nat) (htb:Qag text) (ht:RdK .u8 B2 text (.slice a_t text.length c_t) w) (hl:1000<info.length) :
    Calls Tryd.prog 4 #[.agg (ints .u8 sk),.agg (ints .u8 dr),.slice a_i info.length c_i,.slice a_t text.length c_t] w (Ret w (.bool true)):=by
  obtain ⟨bx,ebx⟩:∃ z,z=boxV dr (pubL sk) info text:=⟨_,rfl⟩
  have lbx:bx.length=text.length+48:=by rw [ebx,QfF]
  refine enter 58 [(0,.agg (ints .u8 (sk))),(1,.agg (ints .u8 (dr))),(2,.slice a_i info.length c_i),(3,.slice a_t text.length c_t)] Tryd.func4 rfl rfl kj rfl <| sgC fun K1 hK1=>Qaj (ints .u8 (sk)) 23 4 rfl kj kj fun g2 W1 l2 e1 r2_1=>?_
  have x1:=Ext.tr (Rely.Ext.refl w) e1
  have b2:=qT (Rely.Ext.refl w).size l2
  refine Qaj (ints .u8 (dr)) 23 5 rfl kj kj fun g3 W2 l3 e2 r3_2=>?_
  have x2:=Ext.tr x1 e2
  have b3:=qT x1.size l3
  refine sg 1 kj <| sgN hK1 <| wp_seq_k fun K4 hK4=>sgC fun K5 hK5=>Qao (.bool true) 5 #[] 13 rfl kj kj (Qjo tc tq th tr _ (hT.ext x2)) fun W3 e3=>sg 1 kj <| sgN hK5 <| cond_false kj <| wp_skip <| hK4 _ _ ?_
  refine wp_seq_k fun K6 hK6=>sgC fun K7 hK7=>sg 2 kj <| Qad (.bool true) 17 rfl kj (Qal (u:=.bool (decide (((info.length:Nat):Int)>1000))) kj (congrArg Value.bool (decide_eq_true (by omega)))) <| sg 5 kj <| sgN hK7 <| cond_true kj <| sgB kj <| wp_ret ?_
  repeat (first | with_reducible refine goR1 ?_ | with_reducible refine goR2 ?_)
  exact (show bodyPost _ _ _ .ret _ _ from ret1 (.bool true) rfl (QaM kj) ⟨rfl,(Ext.tr x2 e3)⟩)
set_option maxRecDepth 100000 in
theorem QpW (sk dr info text:List Int) (hsk:sk.length=32) (hskb:Qag sk) (hd:dr.length=32) (hdb:Qag dr) (tc tq th tr:TypeId) (w:World) (hT:Tabs tc tq th tr w) (a_i:Option Addr) (c_i B:Nat) (hib:Qag info) (hi:RdK .u8 B info (.slice a_i info.length c_i) w) (a_t:Option Addr) (c_t B2:Nat) (htb:Qag text) (ht:RdK .u8 B2 text (.slice a_t text.length c_t) w) (hl:info.length≤1000) (hl2:1000<text.length) :
    Calls Tryd.prog 4 #[.agg (ints .u8 sk),.agg (ints .u8 dr),.slice a_i info.length c_i,.slice a_t text.length c_t] w (Ret w (.bool true)):=by
  obtain ⟨bx,ebx⟩:∃ z,z=boxV dr (pubL sk) info text:=⟨_,rfl⟩
  have lbx:bx.length=text.length+48:=by rw [ebx,QfF]
  refine enter 58 [(0,.agg (ints .u8 (sk))),(1,.agg (ints .u8 (dr))),(2,.slice a_i info.length c_i),(3,.slice a_t text.length c_t)] Tryd.func4 rfl rfl kj rfl <| sgC fun K1 hK1=>Qaj (ints .u8 (sk)) 23 4 rfl kj kj fun g2 W1 l2 e1 r2_1=>?_
  have x1:=Ext.tr (Rely.Ext.refl w) e1
  have b2:=qT (Rely.Ext.refl w).size l2
  refine Qaj (ints .u8 (dr)) 23 5 rfl kj kj fun g3 W2 l3 e2 r3_2=>?_
  have x2:=Ext.tr x1 e2
  have b3:=qT x1.size l3
  refine sg 1 kj <| sgN hK1 <| wp_seq_k fun K4 hK4=>sgC fun K5 hK5=>Qao (.bool true) 5 #[] 13 rfl kj kj (Qjo tc tq th tr _ (hT.ext x2)) fun W3 e3=>sg 1 kj <| sgN hK5 <| cond_false kj <| wp_skip <| hK4 _ _ ?_
  refine wp_seq_k fun K6 hK6=>sgC fun K7 hK7=>sg 2 kj <| Qad (.bool false) 17 rfl kj (Qal (u:=.bool (decide (((info.length:Nat):Int)>1000))) kj (congrArg Value.bool (decide_eq_false (by omega)))) <| sg 3 kj <| Qad (.bool true) 21 rfl kj (Qal (u:=.bool (decide (((text.length:Nat):Int)>1000))) kj (congrArg Value.bool (decide_eq_true (by omega)))) <| sg 1 kj <| sgN hK7 <| cond_true kj <| sgB kj ?_
  refine wp_ret ?_
  repeat (first | with_reducible refine goR1 ?_ | with_reducible refine goR2 ?_)
  exact (show bodyPost _ _ _ .ret _ _ from ret1 (.bool true) rfl (QaM kj) ⟨rfl,(Ext.tr x2 e3)⟩)
set_option maxRecDepth 100000 in
theorem QpV (sk dr info text:List Int) (hsk:sk.length=32) (hskb:Qag sk) (hd:dr.length=32) (hdb:Qag dr) (tc tq th tr:TypeId) (w:World) (hT:Tabs tc tq th tr w) (a_i:Option Addr) (c_i B:Nat) (hib:Qag info) (hi:RdK .u8 B info (.slice a_i info.length c_i) w) (a_t:Option Addr) (c_t B2:Nat) (htb:Qag text) (ht:RdK .u8 B2 text (.slice a_t text.length c_t) w) (hl:info.length≤1000) (hl2:text.length≤1000) :
    Calls Tryd.prog 4 #[.agg (ints .u8 sk),.agg (ints .u8 dr),.slice a_i info.length c_i,.slice a_t text.length c_t] w (Ret w (.bool true)):=by
  obtain ⟨bx,ebx⟩:∃ z,z=boxV dr (pubL sk) info text:=⟨_,rfl⟩
  have lbx:bx.length=text.length+48:=by rw [ebx,QfF]
  refine enter 58 [(0,.agg (ints .u8 (sk))),(1,.agg (ints .u8 (dr))),(2,.slice a_i info.length c_i),(3,.slice a_t text.length c_t)] Tryd.func4 rfl rfl kj rfl <| sgC fun K1 hK1=>Qaj (ints .u8 (sk)) 23 4 rfl kj kj fun g2 W1 l2 e1 r2_1=>?_
  have x1:=Ext.tr (Rely.Ext.refl w) e1
  have b2:=qT (Rely.Ext.refl w).size l2
  refine Qaj (ints .u8 (dr)) 23 5 rfl kj kj fun g3 W2 l3 e2 r3_2=>?_
  have x2:=Ext.tr x1 e2
  have b3:=qT x1.size l3
  refine sg 1 kj <| sgN hK1 <| wp_seq_k fun K4 hK4=>sgC fun K5 hK5=>Qao (.bool true) 5 #[] 13 rfl kj kj (Qjo tc tq th tr _ (hT.ext x2)) fun W3 e3=>sg 1 kj <| sgN hK5 <| cond_false kj <| wp_skip <| hK4 _ _ ?_
  refine wp_seq_k fun K6 hK6=>sgC fun K7 hK7=>sg 2 kj <| Qad (.bool false) 17 rfl kj (Qal (u:=.bool (decide (((info.length:Nat):Int)>1000))) kj (congrArg Value.bool (decide_eq_false (by omega)))) <| sg 3 kj <| Qad (.bool false) 21 rfl kj (Qal (u:=.bool (decide (((text.length:Nat):Int)>1000))) kj (congrArg Value.bool (decide_eq_false (by omega)))) <| sg 1 kj <| sgN hK7 <| cond_false kj <| wp_skip ?_
  refine hK6 _ _ <| sgC fun K8 hK8=>Qad (.agg (ints .u8 (sk))) 23 rfl kj (Qae 23 _ g2 23 _ _ (Qaa (Qaa r2_1 e2) e3) rfl kj kj (isz (n:=32) kj ((Qac _ _).trans hsk))) <| Qao (.agg (cat [ints .u8 (sk),ints .u8 (pubL sk)])) 6 #[.agg (ints .u8 (sk))] 24 rfl kj kj ((Qp2 sk hsk hskb) _) fun W4 e4=>?_
  have x4:=Ext.tr (Ext.tr x2 e3) e4
  refine Qaj (cat [ints .u8 (List.replicate 32 0),ints .u8 (List.replicate 32 0)]) 31 9 rfl kj kj fun g9 W5 l9 e5 r9_5=>Qah g9 _ (cat [ints .u8 (sk),ints .u8 (pubL sk)]) 31 r9_5 rfl kj (Qaf 31 _ _ g9 31 _ _ r9_5 rfl kj kj (isz (n:=64) kj (by rw [Qam,Qam]; simp only [qS,cat,((Qac _ _).trans (Qa2 sk)),((Qac _ _).trans hsk)]; rfl)) (eqsz (n:=64) (by rw [Qam,Qam]; simp only [qS,cat,((Qac _ _).trans (qZ (n:=32)))]; rfl) (by rw [Qam,Qam]; simp only [qS,cat,((Qac _ _).trans (Qa2 sk)),((Qac _ _).trans hsk)]; rfl)) (Qe8 _ (by intro a ha; simp only [List.mem_cons,List.not_mem_nil,or_false] at ha; rcases ha with rfl | rfl; exact (ints_one _ _); exact (ints_one _ _)))) fun W6 p6 r9_6=>?_
  have x6:=Puts.ext p6 (Ext.tr x4 e5) (qT x4.size l9)
  refine sgN hK8 <| sgC fun K10 hK10=>sg 1 kj <| Qad (.agg (ints .u8 (pubL sk))) 27 rfl kj (Qat 23 _ g9 32 31 _ _ _ r9_6 rfl kj (Qa8 [ints .u8 (sk)] [ints .u8 (pubL sk)] [] 32 ((Qac _ _).trans hsk)) kj (isz (n:=32) kj ((Qac _ _).trans (Qa2 sk)))) ?_
  have r3_4:=(Qaa (Qaa r3_2 e3) e4)
  refine Qad (.agg (ints .u8 (dr))) 28 rfl kj (Qae 23 _ g3 23 _ _ (Puts.row p6 (Qaa r3_4 e5) (Qab r3_4 l9)) rfl kj kj (isz (n:=32) kj ((Qac _ _).trans hd))) <| sg 2 kj <| QaA (fun v W'=>(fun v W=>∃ u,v=.tuple #[u,.nilIface]∧OwnN .u8 5 W6.heap.size (bx) u W) v W'∧Ext W6 W') 7 #[.agg (ints .u8 (pubL sk)),.agg (ints .u8 (dr)),.slice a_i info.length c_i,.slice a_t text.length c_t] 31 rfl kj kj ((Qpt sk dr info text hsk hskb hd hdb tc tq th tr _ (hT.ext x6) _ _ _ (by omega) hib (RdK.ext hi x6) _ _ _ (by omega) (RdK.ext ht x6) bx ebx).mono (by rintro e w' ⟨v,rfl,e1,hv⟩; exact ⟨v,rfl,hv,e1⟩)) fun vv11 W7 hh11=>?_
  obtain ⟨hv11,e7⟩:=hh11
  have x7:=Ext.tr x6 e7
  obtain ⟨uu12,rfl,huu12⟩:=hv11
  obtain ⟨au12,cu12,rfl,-⟩:=id (OwnN.rd huu12)
  refine sg 5 kj <| sgN hK10 <| wp_seq_k fun K13 hK13=>sgB kj <| cond_false kj <| wp_skip <| hK13 _ _ <| sgC fun K15 hK15=>Qad (.agg (cat [ints .u8 (sk),ints .u8 (pubL sk)])) 37 rfl kj (Qae 31 _ g9 31 _ _ (Qaa r9_6 e7) rfl kj kj (isz (n:=64) kj (by rw [Qam,Qam]; simp only [qS,cat,((Qac _ _).trans (Qa2 sk)),((Qac _ _).trans hsk)]; rfl))) ?_
  refine sg 2 kj <| QaA (fun v W'=>(fun v W=>∃ u,v=.tuple #[u,.nilIface]∧OwnN .u8 5 W7.heap.size (text) u W) v W'∧Ext W7 W') 8 #[.agg (cat [ints .u8 (sk),ints .u8 (pubL sk)]),.slice a_i info.length c_i,.slice au12 ((bx).length) cu12] 40 rfl kj kj ((QpC sk dr info text hsk hskb hd hdb tc tq th tr _ (hT.ext x7) _ _ _ (by omega) hib (RdK.ext hi x7) htb (by omega) bx ebx _ _ _ (OwnN.rd (OwnN.ext huu12 (Rely.Ext.refl W7)))).mono (by rintro e w' ⟨v,rfl,e1,hv⟩; exact ⟨v,rfl,hv,e1⟩)) fun vv16 W8 hh16=>?_
  obtain ⟨hv16,e8⟩:=hh16
  have x8:=Ext.tr x7 e8
  obtain ⟨uu17,rfl,huu17⟩:=hv16
  obtain ⟨au17,cu17,rfl,-⟩:=id (OwnN.rd huu17)
  refine sg 5 kj <| sgN hK15 <| sgC fun K18 hK18=>sg 7 kj <| Qad (.int .i64 ((text.length+48:Nat):Int)) 50 rfl kj (Qal (u:=.int .i64 (IntKind.i64.wrap (((text.length:Nat):Int)+48))) kj (congrArg (Value.int .i64) (i64n _ _ (by omega) (by omega)))) <| Qad (.bool true) 51 rfl kj (Qal (u:=.bool (((((bx).length:Nat):Int)==((text.length+48:Nat):Int)))) kj (congrArg Value.bool (decide_eq_true (by rw [lbx])))) <| sg 4 kj <| Qao (.bool true) 9 #[.slice au17 ((text).length) cu17,.slice a_t text.length c_t] 56 rfl kj kj ((Qq0 _ _ _ _ _ rfl (RdK.bytes (OwnN.rd (OwnN.ext huu17 (Rely.Ext.refl W8))) htb) (RdK.bytes (RdK.ext ht x8) htb))) fun W9 e9=>sg 2 kj <| sgN hK18 ?_
  refine wp_ret ?_
  repeat (first | with_reducible refine goR1 ?_ | with_reducible refine goR2 ?_)
  exact (show bodyPost _ _ _ .ret _ _ from ret1 (.bool true) rfl (QaM kj) ⟨rfl,(Ext.tr x8 e9)⟩)
theorem QqJ (sk dr info text:List Int) (hsk:sk.length=32) (hskb:Qag sk) (hd:dr.length=32) (hdb:Qag dr) (tc tq th tr:TypeId) (w:World) (hT:Tabs tc tq th tr w) (a_i:Option Addr) (c_i B:Nat) (hib:Qag info) (hi:RdK .u8 B info (.slice a_i info.length c_i) w) (a_t:Option Addr) (c_t B2:Nat) (htb:Qag text) (ht:RdK .u8 B2 text (.slice a_t text.length c_t) w):Calls Tryd.prog 4 #[.agg (ints .u8 sk),.agg (ints .u8 dr),.slice a_i info.length c_i,.slice a_t text.length c_t] w (Ret w (.bool true)):=by
  by_cases hl:info.length≤1000
  · by_cases hl2:text.length≤1000
    · exact QpV sk dr info text hsk hskb hd hdb tc tq th tr w hT a_i c_i B hib hi a_t c_t B2 htb ht hl hl2
    · exact QpW sk dr info text hsk hskb hd hdb tc tq th tr w hT a_i c_i B hib hi a_t c_t B2 htb ht hl (by omega)
  · exact QpX sk dr info text hsk hskb hd hdb tc tq th tr w hT a_i c_i B hib hi a_t c_t B2 htb ht (by omega)
theorem wholeC (sk dr info text:List Int) (hsk:sk.length=32) (hskb:Qag sk) (hd:dr.length=32) (hdb:Qag dr) (tc tq th tr:TypeId) (w:World) (hT:Tabs tc tq th tr w) (a_i:Option Addr) (c_i B:Nat) (hib:Qag info) (hi:RdK .u8 B info (.slice a_i info.length c_i) w) (a_t:Option Addr) (c_t B2:Nat) (htb:Qag text) (ht:RdK .u8 B2 text (.slice a_t text.length c_t) w):Calls Tryd.prog 3 #[.agg (cat [ints .u8 sk,ints .u8 dr,#[.slice a_i info.length c_i],#[.slice a_t text.length c_t]])] w (Ret w (.bool true)):=by
  refine enter 12 [(0,.agg (cat [ints .u8 (sk),ints .u8 (dr),#[.slice a_i info.length c_i],#[.slice a_t text.length c_t]]))] Tryd.func3 rfl rfl kj rfl <| sgC fun K1 hK1=>Qaj (cat [ints .u8 (sk),ints .u8 (dr),#[.slice a_i info.length c_i],#[.slice a_t text.length c_t]]) 26 1 rfl kj kj fun g2 W1 l2 e1 r2_1=>?_
  have x1:=Ext.tr (Rely.Ext.refl w) e1
  have b2:=qT (Rely.Ext.refl w).size l2
  refine sg 1 kj <| sgN hK1 <| sgC fun K3 hK3=>sg 1 kj <| Qad (.agg (ints .u8 (sk))) 4 rfl kj (Qat 23 _ g2 0 26 _ _ _ r2_1 rfl kj (Qa8 [] [ints .u8 (sk)] [ints .u8 (dr),#[.slice a_i info.length c_i],#[.slice a_t text.length c_t]] 0 kj) kj (isz (n:=32) kj ((Qac _ _).trans hsk))) <| sg 1 kj <| Qad (.agg (ints .u8 (dr))) 6 rfl kj (Qat 23 _ g2 32 26 _ _ _ r2_1 rfl kj (Qa8 [ints .u8 (sk)] [ints .u8 (dr)] [#[.slice a_i info.length c_i],#[.slice a_t text.length c_t]] 32 ((Qac _ _).trans hsk)) kj (isz (n:=32) kj ((Qac _ _).trans hd))) <| sg 1 kj <| Qad (.slice a_i info.length c_i) 8 rfl kj (Qak 24 _ g2 64 26 _ (.slice a_i info.length c_i) _ r2_1 rfl kj (Qa8 [ints .u8 (sk),ints .u8 (dr)] [#[.slice a_i info.length c_i]] [#[.slice a_t text.length c_t]] 64 (by rw [Qam,Qam]; simp only [qS,cat,((Qac _ _).trans hd),((Qac _ _).trans hsk)]; rfl) 0 _ rfl) kj) ?_
  refine sg 1 kj <| Qad (.slice a_t text.length c_t) 10 rfl kj (Qak 24 _ g2 65 26 _ (.slice a_t text.length c_t) _ r2_1 rfl kj (Qa8 [ints .u8 (sk),ints .u8 (dr),#[.slice a_i info.length c_i]] [#[.slice a_t text.length c_t]] [] 65 (by rw [Qam,Qam,Qam]; simp only [qS,cat,((Qac _ _).trans hd),((Qac _ _).trans hsk)]; rfl) 0 _ rfl) kj) ?_
  refine Qao (.bool true) 4 #[.agg (ints .u8 (sk)),.agg (ints .u8 (dr)),.slice a_i info.length c_i,.slice a_t text.length c_t] 11 rfl kj kj (QqJ sk dr info text hsk hskb hd hdb tc tq th tr _ (hT.ext x1) a_i c_i _ hib (RdK.ext hi x1) a_t c_t _ htb (RdK.ext ht x1)) fun W2 e2=>sg 1 kj <| sgN hK3 <| wp_ret ?_
  repeat (first | with_reducible refine goR1 ?_ | with_reducible refine goR2 ?_)
  exact (show bodyPost _ _ _ .ret _ _ from ret1 (.bool true) rfl (QaM kj) ⟨rfl,(Ext.tr x1 e2)⟩)
end Go.Proofs.YtmljnchhgkfemaaDoor.Bx
end
section
namespace Go.Proofs.YtmljnchhgkfemaaDoor.Auto
open Go Go.RowKit Go.WideShapes
open Rely
section
variable {H : Type} {enc : TypeId × Value → H} {P : Program} {W w : World} {r : Reach} {base b0 : Nat} {sp : Nat → Bool} {held : Bool}
theorem open_raw {n : Nat} {t e:TypeId} {cs:List Value} {fuel:Nat} {x:DataW H×List MemPlace} (ht:P.underlying t=some (.array n e)) (he:P.underlying e=some (.int .u8)) (hce:P.cellsOf e=1) (hct:P.cellsOf t=n)
    (hf:DataW.trod enc P w b0 sp held fuel t cs=some x):∃ xs:List Int,cs=xs.map (Value.int .u8)∧xs.length=n∧Qag xs:=by
  obtain ⟨xs,m,-,-,hl,hn,hx⟩:=DataW.trod_array ht hf
  have hcs:cs.length=n:=by simpa [hct] using hl
  have each:∀ i,i<n→∃ z:Int,cs[i]? = some (.int .u8 z)∧(0≤z∧z≤255):=by
    intro i hi
    have h1:=hx i hi
    rw [hce,Nat.mul_one] at h1
    have hlt:i<cs.length:=by omega
    have h2:cs.drop i=cs[i]::cs.drop (i+1):=List.drop_eq_getElem_cons hlt
    have h1:DataW.trod enc P w b0 sp held m e ((cs.drop i).take 1)=xs[i]?:=h1
    rw [h2] at h1
    simp only [List.take_succ_cons,List.take_zero] at h1
    obtain ⟨y,hy⟩:∃ y,xs[i]? = some y:=⟨xs[i],by simp [hn,hi]⟩
    rw [hy] at h1
    obtain ⟨z,hc,-,hw⟩:=DataW.trod_int he h1
    refine ⟨z,?_,?_⟩
    · rw [List.getElem?_eq_getElem hlt]
      simp only [List.cons.injEq] at hc
      rw [hc.1]
    · simpa [Lit.wf,IntKind.min,IntKind.max,IntKind.signed,IntKind.bits] using hw
  have all:∀ (l:List Value),(∀ i,i<l.length→∃ z:Int,l[i]? = some (.int .u8 z)∧(0≤z∧z≤255))→∃ zs:List Int,l=zs.map (Value.int .u8)∧Qag zs:=by
    intro l
    induction l with
    | nil=>exact fun _=>⟨[],rfl,fun x hx=>by simp at hx⟩
    | cons a l ih =>
      intro h
      obtain ⟨zs,h1,h2⟩:=ih fun i hi=>by simpa using h (i+1) (by simp; omega)
      obtain ⟨z,h3,h4⟩:=h 0 (by simp)
      simp only [List.getElem?_cons_zero,Option.some.injEq] at h3
      refine ⟨z::zs,by rw [h3,h1]; rfl,fun x hx=>?_⟩
      rcases List.mem_cons.1 hx with e | e
      · rw [e]; exact h4
      · exact h2 x e
  obtain ⟨zs,h1,h2⟩:=all cs fun i hi=>each i (by omega)
  exact ⟨zs,h1,by rw [←hcs,h1,List.length_map],h2⟩
theorem open_st4 {t : TypeId} {f0 f1 f2 f3:Field} {v:Value} {d:DataW H} {p:List MemPlace} {n0 n1 n2 n3:Nat} (hs:P.underlying t=some (.struct #[f0,f1,f2,f3]))
    (ho:f0.offset=0∧f1.offset=n0∧f2.offset=n0+n1∧f3.offset=n0+n1+n2) (hc:P.cellsOf f0.type=n0∧P.cellsOf f1.type=n1∧P.cellsOf f2.type=n2∧P.cellsOf f3.type=n3) (hC:P.cellsOf t=n0+n1+n2+n3)
    (hv:Value.okWide P W r base t v) (h:DataW.Trod enc P w b0 sp held t v d p) :
    ∃ (A B C D:List Value) (y0 y1 y2 y3:DataW H×List MemPlace) (n:Nat),v=.agg (A++B++C++D).toArray ∧
      DataW.trod enc P w b0 sp held n f0.type A=some y0∧DataW.trod enc P w b0 sp held n f1.type B=some y1∧DataW.trod enc P w b0 sp held n f2.type C=some y2∧DataW.trod enc P w b0 sp held n f3.type D=some y3:=by
  obtain ⟨cs,rfl,hsz⟩:=okWide_struct hs hv
  obtain ⟨fuel,hf⟩:=h
  obtain ⟨y0,y1,y2,y3,n,-,hlen,h0,h1,h2,h3⟩:=Joins.trod_struct4 hs hf
  obtain ⟨o0,o1,o2,o3⟩:=ho
  obtain ⟨c0,c1,c2,c3⟩:=hc
  rw [o0,c0] at h0
  rw [o1,c1] at h1
  rw [o2,c2] at h2
  rw [o3,c3] at h3
  refine ⟨_,_,_,_,y0,y1,y2,y3,n,?_,h0,h1,h2,h3⟩
  congr 1
  have hl:cs.toList.length=n0+n1+n2+n3:=by rw [Array.length_toList,hsz,hC]
  apply Array.ext'
  show cs.toList=_
  simp only [Value.cells,List.drop_zero]
  generalize cs.toList=l at hl
  have e1:l.take n0++(l.drop n0).take n1=l.take (n0+n1):=by rw [List.take_add]
  have e2:l.take (n0+n1)++(l.drop (n0+n1)).take n2=l.take (n0+n1+n2):=by rw [List.take_add (i:=n0+n1)]
  have e3:l.take (n0+n1+n2)++(l.drop (n0+n1+n2)).take n3=l.take (n0+n1+n2+n3):=by rw [List.take_add (i:=n0+n1+n2)]
  rw [e1,e2,e3,List.take_of_length_le (by omega)]
end
end Go.Proofs.YtmljnchhgkfemaaDoor.Auto
end
section
namespace Go.Proofs.YtmljnchhgkfemaaDoor.Auto
open Go Go.RowKit
open Rely
theorem Qe7 {P : Program} {w:World}:∀ (laid:List (String×DataW Unit)) (ps:List MemPlace) (n:String) (d:DataW Unit),DataW.LaidVars P w laid ps→(n,d)∈laid →
    ∃ g t cs fuel p,P.globalNamed n=some g∧(P.globals[g]?).map (·.type)=some t∧w.var? P n=some cs∧DataW.trod (fun _=>()) P w 0 (fun _=>true) false fuel t cs.toList=some (d,p)∧∀ x∈MemPlace.row ⟨g,0,none⟩ cs.size,x∈ps
  | [],_,_,_,_,h=>by cases h
  | (n0,d0)::r,ps,n,d,⟨g,t,cs,fuel,p,q,h1,h2,h3,h4,h5,h6⟩,h=>by
    subst h6
    rcases List.mem_cons.1 h with h | h
    · cases h
      exact ⟨g,t,cs,fuel,p,h1,h2,h3,h4,fun x hx=>List.mem_append_left _ (List.mem_append_left _ hx)⟩
    · obtain ⟨g',t',cs',fuel',p',a,b,c,e,f⟩:=Qe7 r q n d h5 h
      exact ⟨g',t',cs',fuel',p',a,b,c,e,fun x hx=>List.mem_append_right _ (f x hx)⟩
theorem Qhx {P : Program} {w:World} {laid:List (String×DataW Unit)} {n:String} {k:IntKind} {zs:List Int} {g:Nat} {t e:TypeId} {m:Nat} (h:laidMet P laid w) (hm:(n,Lib.tabData k zs)∈laid)
    (hg:P.globalNamed n=some g) (hty:(P.globals[g]?).map (·.type)=some t) (ht:P.underlying t=some (.array m e)) (he:P.underlying e=some (.int k)) (hce:P.cellsOf e=1) (hct:P.cellsOf t=m) (h0:0<zs.length) :
    ∃ t,w.heap[g]? = some (.cells (ints k zs) t):=by
  obtain ⟨ps,hL,-,hC⟩:=h
  obtain ⟨g',t',cs,fuel,p,hg',ht',hvar,hd,hin⟩:=Qe7 _ _ _ _ hL hm
  obtain rfl:=Option.some.inj (hg.symm.trans hg')
  obtain rfl:=Option.some.inj (hty.symm.trans ht')
  have hcs:=Lib.cells_of_tab ht he hce hct hd
  have hsz:0<cs.size:=by rw [←Array.length_toList,hcs,List.length_map]; exact h0
  obtain ⟨⟨c,t2,hc⟩,-⟩:=hC g 0 (hin _ (List.mem_map.2 ⟨0,List.mem_range.2 hsz,rfl⟩))
  unfold World.var? at hvar
  rw [hg] at hvar
  simp only [Option.bind_some,hc,Option.some.injEq] at hvar
  subst hvar
  refine ⟨t2,hc.trans ?_⟩
  rw [show c=ints k zs from by rw [ints,←hcs]]
theorem bytes_wf {bs : List Int} (h:∀ n∈bs,(Lit.int .u8 n).wf=true):Qag bs:=fun n hn=>by
  have:=h n hn
  simpa [Lit.wf,IntKind.min,IntKind.max,IntKind.signed,IntKind.bits] using this
end Go.Proofs.YtmljnchhgkfemaaDoor.Auto
end
section
namespace Go.Proofs.YtmljnchhgkfemaaDoor.Auto
open Go Go.RowKit
open Rely
theorem chunks {α : Type} (m:Nat):∀ (n:Nat) (cs:List α),cs.length=n*m→((List.range n).map fun i=>(cs.drop (i*m)).take m).flatten=cs
  | 0,cs,h=>by
    have:cs=[]:=List.length_eq_zero_iff.1 (by simpa using h)
    subst this; rfl
  | n+1,cs,h=>by
    have hm:(n+1)*m=n*m+m:=Nat.succ_mul n m
    rw [List.range_succ,List.map_append,List.flatten_append]
    have ih:=chunks m n (cs.take (n*m)) (by rw [List.length_take]; omega)
    have e1:((List.range n).map fun i=>(cs.drop (i*m)).take m)=((List.range n).map fun i=>((cs.take (n*m)).drop (i*m)).take m):=by
      refine List.map_congr_left fun i hi=>?_
      rw [List.mem_range] at hi
      have h1:(i+1)*m≤n*m:=Nat.mul_le_mul_right m hi
      rw [Nat.succ_mul] at h1
      rw [List.drop_take,List.take_take,Nat.min_eq_left (by omega)]
    rw [e1,ih]
    simp only [List.map_cons,List.map_nil,List.flatten_cons,List.flatten_nil,List.append_nil]
    have e2:(cs.drop (n*m)).take m=cs.drop (n*m):=List.take_of_length_le (by rw [List.length_drop]; omega)
    rw [e2,List.take_append_drop]
theorem Qh4 {H : Type} {enc:TypeId×Value→H} {P:Program} {w:World} {base:Nat} {sp:Nat→Bool} {held:Bool} {fuel:Nat} {t e i:TypeId} {n m:Nat} {k:IntKind} {cs:List Value} {zss:List (List Int)} {p:List MemPlace}
    (ht:P.underlying t=some (.array n e)) (he:P.underlying e=some (.array m i)) (hi:P.underlying i=some (.int k)) (hci:P.cellsOf i=1) (hce:P.cellsOf e=m) (hct:P.cellsOf t=n*m)
    (h:DataW.trod enc P w base sp held fuel t cs=some (.agg (zss.map (Lib.tabData k)),p)):cs=zss.flatten.map fun z=>Value.int k z:=by
  cases fuel with
  | zero=>simp [DataW.trod] at h
  | succ fuel =>
    simp only [DataW.trod,ht,hce,hct] at h
    split at h
    · rename_i hl
      obtain ⟨xs,hm,hx⟩:=Option.map_eq_some_iff.1 h
      have hxs:xs.map (·.1)=zss.map fun z=>(Lib.tabData k z:DataW H):=by
        have:=congrArg Prod.fst hx
        simpa using this
      have hxl:xs.length=n:=by simpa using Lib.mapM_length hm
      have hzl:zss.length=n:=by
        have:=congrArg List.length hxs
        simp at this
        omega
      rw [←chunks m n cs (by simpa using hl),List.map_flatten]
      congr 1
      apply List.ext_getElem?
      intro j
      by_cases hj:j<n
      · obtain ⟨b,hb,hf⟩:=Lib.mapM_at hm j j (by simp [hj])
        have h2:(xs.map (·.1))[j]? = some b.1:=by simp [hb]
        rw [hxs,List.getElem?_map,List.getElem?_eq_getElem (by omega),Option.map_some,Option.some.injEq] at h2
        have h3:=Lib.cells_of_tab he hi hci hce (zs:=zss[j]'(by omega)) (p:=b.2) (by rw [h2]; exact hf)
        rw [List.getElem?_map,List.getElem?_map,List.getElem?_range hj,List.getElem?_eq_getElem (by omega),Option.map_some,Option.map_some,h3]
      · rw [List.getElem?_eq_none (by simp; omega),List.getElem?_eq_none (by simp; omega)]
    · cases h
theorem QlF {P : Program} {w:World} {laid:List (String×DataW Unit)} {n:String} {k:IntKind} {zss:List (List Int)} {g:Nat} {t e i:TypeId} {m1 m:Nat} (h:laidMet P laid w) (hm:(n,DataW.agg (zss.map (Lib.tabData k)))∈laid)
    (hg:P.globalNamed n=some g) (hty:(P.globals[g]?).map (·.type)=some t) (ht:P.underlying t=some (.array m1 e)) (he:P.underlying e=some (.array m i)) (hi:P.underlying i=some (.int k)) (hci:P.cellsOf i=1) (hce:P.cellsOf e=m) (hct:P.cellsOf t=m1*m) (h0:0<zss.flatten.length) :
    ∃ t,w.heap[g]? = some (.cells (ints k zss.flatten) t):=by
  obtain ⟨ps,hL,-,hC⟩:=h
  obtain ⟨g',t',cs,fuel,p,hg',ht',hvar,hd,hin⟩:=Qe7 _ _ _ _ hL hm
  obtain rfl:=Option.some.inj (hg.symm.trans hg')
  obtain rfl:=Option.some.inj (hty.symm.trans ht')
  have hcs:=Qh4 ht he hi hci hce hct hd
  have hsz:0<cs.size:=by rw [←Array.length_toList,hcs,List.length_map]; exact h0
  obtain ⟨⟨c,t2,hc⟩,-⟩:=hC g 0 (hin _ (List.mem_map.2 ⟨0,List.mem_range.2 hsz,rfl⟩))
  unfold World.var? at hvar
  rw [hg] at hvar
  simp only [Option.bind_some,hc,Option.some.injEq] at hvar
  subst hvar
  refine ⟨t2,hc.trans ?_⟩
  rw [show c=ints k zss.flatten from by rw [ints,←hcs]]
end Go.Proofs.YtmljnchhgkfemaaDoor.Auto
end
