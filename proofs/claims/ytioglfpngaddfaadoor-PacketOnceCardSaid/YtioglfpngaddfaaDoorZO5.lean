/- Texts of this claim, joined (O5). -/
import Derived.Test.YtioglfpngaddfaaDoorZO4
import Derived.Lib.SmallJoins
import Derived.Lib.LaidTab

set_option linter.unusedVariables false
set_option linter.unusedSimpArgs false
set_option maxHeartbeats 4000000
open List renaming append_assoc → zaa, mem_append → zab, length_drop → zac, replicate → zad, mem_cons → zaf, not_mem_nil → zag, nil_append → zak, cons_append → zal, take_succ_cons → zam, take_zero → zan, drop_succ_cons → zao, drop_zero → zap, take_append_of_le_length → zas, take_of_length_le → zat, drop_append_of_le_length → zau, getElem?_eq_some_iff → zav, range → zay, length_map → zaz, getElem?_map → za0, getElem?_range → za1, mem_map → za2, mem_range → za3, range_succ → za4, map_append → za5, map_congr_left → za6, map_cons → za7, all_eq_true → za8, length_nil → za9, take_append_drop → zaB, length_take → zaC, length_eq_zero_iff → zaD, length_append → zaI, mem_singleton → zaJ, length_singleton → zaL, getD_eq_getElem?_getD → zaM, getElem?_eq_getElem → zba, mem_of_getElem? → zbc, mem_append_left → zbd, getElem?_eq_none → zbf
open Go.Value renaming bool → zae, pointer → zax, int → zaV
open Nat renaming ne_of_gt → zah, ne_of_lt → zaj, le_of_lt → zaw, zero_le → zaE, mul_le_mul → zaH, lt_or_ge → zaK, mod_lt → zaN, div_add_mod → zaO, not_lt_zero → zaU, mul_comm → zaX, succ_mul → zaY, lt_of_lt_of_eq → zaZ, div_lt_of_lt_mul → zbb
open Go.Result renaming ok → zai
open Int renaming fdiv_eq_ediv_of_nonneg → zaq, ediv_eq_zero_of_lt → zar, emod_nonneg → zaQ, tmod → zaR, emod_eq_of_lt → zaS
open Array renaming length_toList → zaA
open Option renaming map_some → zaF, map_eq_some_iff → zaG, bind_some → zbe
open Go.IntKind renaming u64 → zaP, u8 → zaT, i64 → zaW
namespace Go.Proofs.YtioglfpngaddfaaDoor
open Rely.Ext renaming refl → zbg, trans → zbh
open Auto.Puts renaming row → zbi, ext → zbj
open Auto.Ext renaming tr → zbk
open Own.ExtB renaming row → zbl
open Auto.OwnN renaming ext → zbm, base → zbn, rd → zbo
open Auto.Qaf renaming refl → zbp, row → zbq, step → zbr, keeps → zbs
open Auto.RdK renaming here → zbt
section
namespace Pk
open Go Go.RowKit
open Rely Auto Own Sha
open Cha
open Ae hiding run_storeQ
open Cn hiding nb_new run_extractT
open Wk
set_option maxRecDepth 100000 in
theorem QnA (ep nu:Nat) (hep:ep<4294967296) (hnu:nu<4294967296) (gb ge ce gc n o:Nat) (P tl:Array Value) (grp:List Int) (hgl:grp.length=32) (w:World) (hgb:w.heap[gb]? = some (.cells (cat [#[.slice (some ⟨ge,0,none⟩) n ce],#[.bool false]]) 49)) (hn:1≤n∧n≤4) (ho:o+35=35*n) (hP:P.size=o) (hge:w.heap[ge]? = some (.cells (cat [P,#[.pointer (some ⟨gc,0,none⟩)],ints .u8 grp,#[.int .i64 ((ep:Nat):Int)],#[.int .i64 0],tl]) 55)) (gl len cap:Nat) (lp:Array Value) (hgc:w.heap[gc]? = some (.cells #[.slice (some ⟨gl,0,none⟩) len cap] 71)) (hgl_:w.heap[gl]? = some (.cells lp 73)) (cg cm:Nat) (hi:0<len) (hli:lp[0]? = some (.pointer (some ⟨cg,0,none⟩))) (s0 ts:List Int) (ms:List (Int×List Int)) (hch:ChSt cg cm s0 ts nu ms w) (he:chkN ts nu ((nu:Nat):Int)=0) (tc tq th tr:TypeId) (hc:w.heap[4]? = some (.cells (ints .u64 QaR) tc)) (hq:w.heap[3]? = some (.cells (ints .u64 Qa9) tq)) (hr4:w.heap[1]? = some (.cells (ints .i64 qQ) tr)) (hh4:w.heap[0]? = some (.cells (ints .u32 qH) th)) (hNc:4∉[cg,cm]) (hNq:3∉[cg,cm]) (hNr:1∉[cg,cm]) (hNh:0∉[cg,cm]) (text fs:List Int) (htl:text.length≤1024) (es:QcS ((keyV (itV s0 nu)).take 32) ((keyV (itV s0 nu)).drop 32) (grp++hdV ep++[0]++hdV nu) text=fs) (hgrb:Qai grp) (v:Value) (hst:∀ W,Qaf [cg,cm] w W→RdK .u8 W.heap.size text v W) :
  Calls Tryd.prog 8 #[.pointer (some ⟨gb,0,none⟩),v] w (fun x W=>∃ u,x=.returned (.tuple #[.agg (cat [ints .u8 grp,#[.int .i64 ((ep:Nat):Int)],#[.int .i64 0],#[.int .i64 ((nu:Nat):Int)],#[u]]),.nilIface])∧Qaf [cg,cm] w W∧ChSt cg cm s0 (ts++[((nu:Nat):Int)]) (max nu (nu+1)) (QcG ms s0 nu nu) W∧OwnN .u8 5 w.heap.size fs u W):=by
 obtain ⟨a_t,c_t,rfl,-⟩:=id (hst _ (zbp _ _))
 have hctxb:Qai (grp++hdV ep++[0]++hdV nu):=fun x hx=>by
  simp only [zaa,zab] at hx
  rcases hx with h | h | h | h
  ·exact hgrb x h
  ·exact QdY ep x h
  ·obtain rfl:x=0:=by simpa using h
   exact ⟨by decide,by decide⟩
  ·exact QdY nu x h
 have hnl:((keyV (itV s0 nu)).drop 32).length=12:=by rw [zac,QaI]
 refine enter 69 [(0,.pointer (some ⟨gb,0,none⟩)),(1,.slice a_t text.length c_t)] Tryd.func8 rfl rfl kj rfl <| sgC fun K9 hK9=>Qar (cat [ints .u8 (zad 32 0),#[.int .i64 0],#[.int .i64 0],#[.int .i64 0],#[.slice none 0 0]]) 35 4 rfl kj kj fun g10 W1 l10 e1 r10_1=>?_
 have b10:=qT (zbg w).size l10
 refine sg 1 kj <| sgN hK9 <| sgC fun K11 hK11=>sg 1 kj ?_
 have r1_1:=(Qaa hgb e1)
 refine Qau (.pointer (some ⟨ge,o,none⟩)) 16 #[.pointer (some ⟨gb,0,none⟩)] 11 rfl kj kj (QcX gb ge ce n o _ r1_1 hn ho) fun W2 e2=>?_
 have x2:=zbk (zbk (zbg w) e1) e2
 refine sg 1 kj <| sgN hK11 <| wp_seq_k fun K12 hK12=>sgB kj <| cond_false kj <| wp_skip <| hK12 _ _ <| wp_seq_k fun K14 hK14=>sgC fun K15 hK15=>sg 2 kj ?_
 refine Qab (.bool false) 18 rfl kj (Qah (u:=.bool (decide (((text.length:Nat):Int)>1024))) kj (congrArg zae (decide_eq_false (by omega)))) <| sgN hK15 <| cond_false kj <| wp_skip <| hK14 _ _ <| wp_seq_k fun K16 hK16=>?_
 have r1_2:=(Qaa r1_1 e2)
 have r2_2:=(Qaa (Qaa hge e1) e2)
 have r3_2:=(Qaa (Qaa hgc e1) e2)
 have r4_2:=(Qaa (Qaa hgl_ e1) e2)
 have r5_2:=(Qaa (Qaa hc e1) e2)
 have r6_2:=(Qaa (Qaa hq e1) e2)
 have r7_2:=(Qaa (Qaa hr4 e1) e2)
 have r8_2:=(Qaa (Qaa hh4 e1) e2)
 have r10_2:=(Qaa r10_1 e2)
 have hch0:ChSt cg cm s0 ts nu ms W2:=hch.ext x2
 have hcg0:=hch0.glt
 have hcm0:=hch0.mp.lt
 refine QbO (fun W=>Qaf [cg,cm] W2 W) kj fun Ws eWs=>⟨zbr (zbp _ _) eWs,?_⟩
 refine QaA 0 (.pointer (some ⟨ge,o,none⟩)) 22 rfl rfl kj kj (fun _ _ _ h=>h) (fun W hR=>by kernel_rfl) <| QaA 1 (.pointer (some ⟨ge,o,none⟩)) 23 rfl rfl kj kj (fun _ _ _ h=>h) (fun W hR=>by kernel_rfl) <| QaA 2 (.pointer (some ⟨ge,o,none⟩)) 24 rfl rfl kj kj (fun _ _ _ h=>h) (fun W hR=>by kernel_rfl) <| QaA 3 (.pointer (some ⟨gc,0,none⟩)) 25 rfl rfl kj kj (fun _ _ _ h=>h) (fun W hR=>(Qad 53 _ ge o 55 _ (.pointer (some ⟨gc,0,none⟩)) _ (zbq hR r2_2 (nin r2_2 hch0 (by decide))) rfl kj (Qam [P] [#[.pointer (some ⟨gc,0,none⟩)]] [ints .u8 (grp),#[.int .i64 ((ep:Nat):Int)],#[.int .i64 0],tl] o hP 0 _ rfl) kj)) <| QaA 4 (.pointer (some ⟨ge,o,none⟩)) 26 rfl rfl kj kj (fun _ _ _ h=>h) (fun W hR=>by kernel_rfl) <| QaA 5 (.pointer (some ⟨ge,o,none⟩)) 27 rfl rfl kj kj (fun _ _ _ h=>h) (fun W hR=>by kernel_rfl) <| QaA 6 (.pointer (some ⟨ge,(o+34),none⟩)) 28 rfl rfl kj kj (fun _ _ _ h=>h) (fun W hR=>by kernel_rfl) <| QaA 7 (.int .i64 0) 29 rfl rfl kj kj (fun _ _ _ h=>h) (fun W hR=>(Qad 3 _ ge (o+34) 55 _ (.int .i64 0) _ (zbq hR r2_2 (nin r2_2 hch0 (by decide))) rfl kj (Qam [P,#[.pointer (some ⟨gc,0,none⟩)],ints .u8 (grp),#[.int .i64 ((ep:Nat):Int)]] [#[.int .i64 0]] [tl] (o+34) (by rw [Qac,Qac,Qac,Qac]; simp only [qS,cat,(izT hgl),hP]; rfl) 0 _ rfl) kj)) ?_
 refine Qft 8 12 3 rfl rfl kj kj kj 30 7 rfl rfl kj (fun _=>kj) (fun W=>ChSt cg cm s0 ts nu ms W) (Qaf [cg,cm]) (fun u W=>ChSt cg cm s0 (ts++[((nu:Nat):Int)]) (max nu (nu+1)) (QcG ms s0 nu nu) W∧QbA W2.heap.size ((nu:Nat):Int) (keyV (itV s0 nu)) u W) (fun v W=>∃ g,v=.pointer (some ⟨g,0,none⟩)∧W2.heap.size≤g∧W.heap[g]? = some (.cells (cat [#[.int .i64 0],ints .u8 (zad 32 0),#[.slice none 0 0]]) 60)) (fun u=>[(32,.nilIface),(31,u),(21,.tuple #[u,.nilIface])]) _ _ _ rfl kj (fun u x hx=>by simp only [zaf,zag,or_false] at hx; rcases hx with rfl | rfl | rfl; exact (by decide:(32:Nat)≠7); exact (by decide:(31:Nat)≠7); exact (by decide:(21:Nat)≠7)) (by decide) (fun _ _ e h=>h.ext e) (fun _ _ h e=>zbr h e) (fun _ _ _ e h=>⟨h.1.ext e,QbA.ext h.2 e⟩) (fun _ _ _ _ hK h=>by obtain ⟨g,a1,a2,a3⟩:=h; exact ⟨g,a1,a2,zbq hK a3 (Qax (zah (qL hcg0 a2)) (Qax (zah (qL hcm0 a2)) QaE))⟩) (fun W hR hP=>⟨19,#[.pointer (some ⟨gc,0,none⟩),.int .i64 0],by kernel_rfl,(show Calls Tryd.prog 19 #[.pointer (some ⟨gc,0,none⟩),.int .i64 0] W _ from Qma gc gl len cap lp W (zbq hR r3_2 (nin r3_2 hch0 (by decide))) (zbq hR r4_2 (nin r4_2 hch0 (by decide))) cg 0 hi hli tc tq (zbq hR r5_2 hNc) (zbq hR r6_2 hNq) hP (by exact he) (fun e=>hNc (by simp [←e])) (fun e=>hNq (by simp [←e]))).mono (by rintro e W' ⟨u,rfl,k1,k2,k3⟩; exact ⟨u,rfl,zbs hR k1 (fun c hc=>.inl hc),k1,k2,QbA.base (Qaf.size hR) k3⟩)⟩) (fun L' W hR=>⟨_,_,(by kernel_rfl:_=zai (Next.value (.pointer (some ⟨W.heap.size,0,none⟩))) (W.alloc (.cells (cat [#[.int .i64 0],ints .u8 (zad 32 0),#[.slice none 0 0]]) 60))),Qbb _ _,_,rfl,Qaf.size hR,heap_alloc_new _ _⟩) (hch0.ext eWs) (fun u W hR kk=>by refine QaA 9 (.tuple #[u,.nilIface]) 21 rfl rfl kj kj (fun _ _ _ h=>h) (fun W hR=>by kernel_rfl) ?_; refine QaA 10 (u) 31 rfl rfl kj kj (fun _ _ _ h=>h) (fun W hR=>by kernel_rfl) ?_; refine QaA 11 (.nilIface) 32 rfl rfl kj kj (fun _ _ _ h=>h) (fun W hR=>by kernel_rfl) ?_; exact QcP 12 kj kk) (fun u v2 W hR kk=>by refine QaA 9 (.tuple #[u,.nilIface]) 21 rfl rfl kj kj (fun _ _ _ h=>h) (fun W hR=>by kernel_rfl) ?_; refine QaA 10 (u) 31 rfl rfl kj kj (fun _ _ _ h=>h) (fun W hR=>by kernel_rfl) ?_; refine QaA 11 (.nilIface) 32 rfl rfl kj kj (fun _ _ _ h=>h) (fun W hR=>by kernel_rfl) ?_; exact kk) fun u1 v2 W3 q1 q2 q3=>?_
 obtain ⟨hch2,uo,rfl,hu⟩:=q1
 obtain ⟨g7,rfl,l7,r7_3⟩:=q2
 obtain ⟨a_n,c_n,rfl,-⟩:=id (zbo hu)
 have nb7:=QiT hu r7_3 (by decide)
 refine QcP 13 kj (Qd3 g7 _ (cat [#[.int .i64 ((nu:Nat):Int)],ints .u8 ((keyV (itV s0 nu)).take 32),#[.slice a_n (((keyV (itV s0 nu)).drop 32).length) c_n]]) 60 r7_3 rfl rfl kj (Qao 60 _ _ g7 60 _ _ r7_3 rfl kj kj (isz (n:=34) kj (by rw [Qac,Qac,Qac]; simp only [qS,cat,(izT (QaX (QaI _)))]; rfl)) (eqsz (n:=34) (by rw [Qac,Qac,Qac]; simp only [qS,cat,(izT (qZ (n:=32)))]; rfl) (by rw [Qac,Qac,Qac]; simp only [qS,cat,(izT (QaX (QaI _)))]; rfl)) (Qbn _ (by intro a ha; simp only [zaf,zag,or_false] at ha; rcases ha with rfl | rfl | rfl; exact (Qa6 _ rfl); exact (Qay _ _); exact (Qa6 _ rfl)))) (fun W' p=>Qaf.puts q3 p (.inr l7)) fun W4 p4 r7_4=>?_)
 have hu2:=Qd8 hu p4 nb7
 have hch3:=hch2.keep (p4.2.2.2.2 cg (zaj (qL hcg0 l7))) (p4.2.2.2.2 cm (zaj (qL hcm0 l7)))
 have hK:Qaf [cg,cm] W2 W4:=Qaf.puts q3 p4 (.inr l7)
 have hKw:Qaf [cg,cm] w W4:=zbs (zbr (zbp _ _) x2) hK (fun c hc=>.inl hc)
 have rk1:=zbi p4 (zbq q3 r1_2 (nin r1_2 hch0 (by decide))) (zaj (qL (Qaq r1_2) l7))
 have rk2:=zbi p4 (zbq q3 r2_2 (nin r2_2 hch0 (by decide))) (zaj (qL (Qaq r2_2) l7))
 have rk3:=zbi p4 (zbq q3 r3_2 (nin r3_2 hch0 (by decide))) (zaj (qL (Qaq r3_2) l7))
 have rk4:=zbi p4 (zbq q3 r4_2 (nin r4_2 hch0 (by decide))) (zaj (qL (Qaq r4_2) l7))
 have rk5:=zbi p4 (zbq q3 r5_2 hNc) (zaj (qL (Qaq r5_2) l7))
 have rk6:=zbi p4 (zbq q3 r6_2 hNq) (zaj (qL (Qaq r6_2) l7))
 have rk7:=zbi p4 (zbq q3 r7_2 hNr) (zaj (qL (Qaq r7_2) l7))
 have rk8:=zbi p4 (zbq q3 r8_2 hNh) (zaj (qL (Qaq r8_2) l7))
 have rk10:=zbi p4 (zbq q3 r10_2 (nin r10_2 hch0 (by decide))) (zaj (qL (Qaq r10_2) l7))
 refine QaA 14 (.nilIface) 8 rfl rfl kj kj (fun _ _ _ h=>h) (fun W hR=>by kernel_rfl) <| QeT kj ?_
 have nb4:(Value.slice a_n ((keyV (itV s0 nu)).drop 32).length c_n).ownBlock≠some g10:=QbP hu (Qaq r10_2)
 refine hK16 _ _ <| wp_seq_k fun K18 hK18=>sgB kj <| cond_false kj <| wp_skip <| hK18 _ _ <| wp_seq_k fun K20 hK20=>Qbg 16 [⟨none,[(6,none)]⟩,⟨none,[(37,some 0)]⟩,⟨none,[(38,some 1)]⟩,⟨none,[(39,some 2)]⟩,⟨none,[(6,none)]⟩,⟨none,[(41,some 4)]⟩,⟨none,[(42,some 5)]⟩,⟨none,[(43,some 6)]⟩,⟨none,[(6,none)]⟩,⟨none,[(45,some 8)]⟩,⟨none,[(46,some 9)]⟩,⟨none,[(47,some 10)]⟩,⟨none,[(7,none)]⟩,⟨none,[(49,some 12)]⟩,⟨none,[(40,some 3),(44,some 7),(48,some 11),(50,some 13)]⟩,⟨none,[]⟩] kj kj fun F hF=>Qa8 (Qas _) (.pointer (some ⟨ge,o,none⟩)) kj kj (fun _=>kj) <| Qa8 (Qas _) (.pointer (some ⟨ge,o,none⟩)) kj kj (fun _=>kj) ?_
 refine Qa8 (Qas _) (.pointer (some ⟨ge,(o+1),none⟩)) kj kj (fun _=>kj) <| Qbc (Qas _) (.agg (ints .u8 (grp))) kj kj (fun W hR=>(Qa0 29 _ ge (o+1) 55 _ _ _ (Qaa (Qaa rk2 (Qaj _)) hR) rfl kj (Qam [P,#[.pointer (some ⟨gc,0,none⟩)]] [ints .u8 (grp)] [#[.int .i64 ((ep:Nat):Int)],#[.int .i64 0],tl] (o+1) (by rw [Qac,Qac]; simp only [qS,cat,hP]; rfl)) kj (isz (n:=32) kj (izT hgl)))) ?_
 refine Qa8 (Qas _) (.pointer (some ⟨ge,o,none⟩)) kj kj (fun _=>kj) <| Qa8 (Qas _) (.pointer (some ⟨ge,o,none⟩)) kj kj (fun _=>kj) <| Qa8 (Qas _) (.pointer (some ⟨ge,(o+33),none⟩)) kj kj (fun _=>kj) <| Qbc (Qas _) (.int .i64 ((ep:Nat):Int)) kj kj (fun W hR=>(Qad 3 _ ge (o+33) 55 _ (.int .i64 ((ep:Nat):Int)) _ (Qaa (Qaa rk2 (Qaj _)) hR) rfl kj (Qam [P,#[.pointer (some ⟨gc,0,none⟩)],ints .u8 (grp)] [#[.int .i64 ((ep:Nat):Int)]] [#[.int .i64 0],tl] (o+33) (by rw [Qac,Qac,Qac]; simp only [qS,cat,(izT hgl),hP]; rfl) 0 _ rfl) kj)) ?_
 refine Qa8 (Qas _) (.pointer (some ⟨ge,o,none⟩)) kj kj (fun _=>kj) <| Qa8 (Qas _) (.pointer (some ⟨ge,o,none⟩)) kj kj (fun _=>kj) <| Qa8 (Qas _) (.pointer (some ⟨ge,(o+34),none⟩)) kj kj (fun _=>kj) <| Qbc (Qas _) (.int .i64 0) kj kj (fun W hR=>(Qad 3 _ ge (o+34) 55 _ (.int .i64 0) _ (Qaa (Qaa rk2 (Qaj _)) hR) rfl kj (Qam [P,#[.pointer (some ⟨gc,0,none⟩)],ints .u8 (grp),#[.int .i64 ((ep:Nat):Int)]] [#[.int .i64 0]] [tl] (o+34) (by rw [Qac,Qac,Qac,Qac]; simp only [qS,cat,(izT hgl),hP]; rfl) 0 _ rfl) kj)) ?_
 refine Qa8 (Qas _) (.pointer (some ⟨g7,0,none⟩)) kj kj (fun _=>kj) <| Qbc (Qas _) (.int .i64 ((nu:Nat):Int)) kj kj (fun W hR=>(Qad 3 _ g7 0 60 _ (.int .i64 ((nu:Nat):Int)) _ (Qaa (Qaa r7_4 (Qaj _)) hR) rfl kj (Qam [] [#[.int .i64 ((nu:Nat):Int)]] [ints .u8 ((keyV (itV s0 nu)).take 32),#[.slice a_n (((keyV (itV s0 nu)).drop 32).length) c_n]] 0 kj 0 _ rfl) kj)) <| Qa8 (Qas _) (.agg (cat [ints .u8 (grp),#[.int .i64 ((ep:Nat):Int)],#[.int .i64 0],#[.int .i64 ((nu:Nat):Int)],#[.slice none 0 0]])) kj kj (fun W=>(Qfy 35 _ (.agg (cat [ints .u8 (zad 32 0),#[.int .i64 0],#[.int .i64 0],#[.int .i64 0],#[.slice none 0 0]])) #[(0,32),(32,1),(33,1),(34,1),(35,1)] 0 [] (cat [ints .u8 (zad 32 0),#[.int .i64 0],#[.int .i64 0],#[.int .i64 0],#[.slice none 0 0]]) [(0,32,.agg (ints .u8 (grp)),ints .u8 (grp)),(1,1,.int .i64 ((ep:Nat):Int),#[.int .i64 ((ep:Nat):Int)]),(2,1,.int .i64 0,#[.int .i64 0]),(3,1,.int .i64 ((nu:Nat):Int),#[.int .i64 ((nu:Nat):Int)])] [#[.slice none 0 0]] rfl kj rfl ⟨kj,rfl,(izT hgl),kj,rfl,kj,kj,rfl,kj,kj,rfl,kj,trivial⟩ kj (Nat.le_of_ble_eq_true kj) kj kj kj kj)) <| Qmk (Qas _) (cat [ints .u8 (zad 32 0),#[.int .i64 0],#[.int .i64 0],#[.int .i64 0],#[.slice none 0 0]]) 35 (NewP.stable _ _ _) kj kj (fun _=>kj) <| QcO (hF _ fun W5 e5=>?_)
 simp only [zak,zal,zam,zan,zao,zap,finE,up]
 intro vv21 hv21
 clear hF
 obtain ⟨g21,rfl,l21,r21_5⟩:=hv21
 have b21:=qT (ExtB.refl g10 W4).2.2.2.1 l21
 refine Qan g21 _ (cat [ints .u8 (grp),#[.int .i64 ((ep:Nat):Int)],#[.int .i64 0],#[.int .i64 ((nu:Nat):Int)],#[.slice none 0 0]]) 35 r21_5 rfl kj (Qao 35 _ _ g21 35 _ _ r21_5 rfl kj kj (isz (n:=36) kj (by rw [Qac,Qac,Qac,Qac,Qac]; simp only [qS,cat,(izT hgl)]; rfl)) (eqsz (n:=36) (by rw [Qac,Qac,Qac,Qac,Qac]; simp only [qS,cat,(izT (qZ (n:=32)))]; rfl) (by rw [Qac,Qac,Qac,Qac,Qac]; simp only [qS,cat,(izT hgl)]; rfl)) (Qbn _ (by intro a ha; simp only [zaf,zag,or_false] at ha; rcases ha with rfl | rfl | rfl | rfl | rfl; exact (Qay _ _); exact (Qa6 _ rfl); exact (Qa6 _ rfl); exact (Qa6 _ rfl); exact (Qa6 _ rfl)))) fun W6 p6 r21_6=>?_
 have x6:=ExtB.putsN (ExtB.ext (ExtB.refl g10 W4) e5) p6 b21
 refine sgN hK20 <| wp_seq_k fun K22 hK22=>Wk.any_regionEZ 8 [⟨none,[(7,none)]⟩,⟨none,[(53,some 0)]⟩,⟨none,[(7,none)]⟩,⟨none,[(55,some 2)]⟩,⟨none,[(9,none)]⟩,⟨none,[(57,some 4)]⟩,⟨none,[(1,none)]⟩,⟨none,[(54,some 1),(56,some 3),(58,some 5),(59,some 6)]⟩] kj kj fun F hF=>Qa8 (Qas _) (.pointer (some ⟨g7,1,none⟩)) kj kj (fun _=>kj) ?_
 have r17_6:=(rpn p6 r7_4 e5 l21)
 refine Qbc (Qas _) (.agg (ints .u8 ((keyV (itV s0 nu)).take 32))) kj kj (fun W hR=>(Qa0 58 _ g7 1 60 _ _ _ (Qaa (Qaa r17_6 (Qaj _)) hR) rfl kj (Qam [#[.int .i64 ((nu:Nat):Int)]] [ints .u8 ((keyV (itV s0 nu)).take 32)] [#[.slice a_n (((keyV (itV s0 nu)).drop 32).length) c_n]] 1 kj) kj (isz (n:=32) kj (izT (QaX (QaI _)))))) <| Qa8 (Qas _) (.pointer (some ⟨g7,33,none⟩)) kj kj (fun _=>kj) <| Qbc (Qas _) (.slice a_n (((keyV (itV s0 nu)).drop 32).length) c_n) kj kj (fun W hR=>(Qad 33 _ g7 33 60 _ (.slice a_n (((keyV (itV s0 nu)).drop 32).length) c_n) _ (Qaa (Qaa r17_6 (Qaj _)) hR) rfl kj (Qam [#[.int .i64 ((nu:Nat):Int)],ints .u8 ((keyV (itV s0 nu)).take 32)] [#[.slice a_n (((keyV (itV s0 nu)).drop 32).length) c_n]] [] 33 (by rw [Qac,Qac]; simp only [qS,cat,(izT (QaX (QaI _)))]; rfl) 0 _ rfl) kj)) ?_
 refine Qbc (Qas _) (.agg (cat [ints .u8 (grp),#[.int .i64 ((ep:Nat):Int)],#[.int .i64 0],#[.int .i64 ((nu:Nat):Int)],#[.slice none 0 0]])) kj kj (fun W hR=>(Qap 35 _ g21 35 _ _ (Qaa (Qaa r21_6 (Qaj _)) hR) rfl kj kj (isz (n:=36) kj (by rw [Qac,Qac,Qac,Qac,Qac]; simp only [qS,cat,(izT hgl)]; rfl)))) ?_
 refine QdP (Qas _) (OwnN .u8 5 W6.heap.size (grp++hdV ep++[0]++hdV nu)) (OwnN.stable _ _ _ _) 21 #[.agg (cat [ints .u8 (grp),#[.int .i64 ((ep:Nat):Int)],#[.int .i64 0],#[.int .i64 ((nu:Nat):Int)],#[.slice none 0 0]])] kj kj (fun _=>kj) (fun W hR=>((QgR grp hgl ep nu hep hnu _ _ _ _).mono fun e W2 hg=>by obtain ⟨v2,e1,e2,e3⟩:=hg; exact ⟨v2,e1,e2,zbn (zbh (Qaj _) hR).size e3⟩)) ?_
 refine Qa8 (Qas _) (.slice a_t text.length c_t) kj kj (fun _=>kj) <| QeO (Qas _) (MixR W6.heap.size fs) (Qdf _ _) 20 (fun ρ W hR hX=>?_) ?_
 ·skip
  have e54_:ρ 54=.agg (ints .u8 ((keyV (itV s0 nu)).take 32)):=hX.1
  have e56_:ρ 56=.slice a_n (((keyV (itV s0 nu)).drop 32).length) c_n:=hX.2.1
  have q58_:(OwnN .u8 5 W6.heap.size (grp++hdV ep++[0]++hdV nu)) (ρ 58) W:=hX.2.2.1
  obtain ⟨ar58,cr58,e58_,-⟩:=id (zbo q58_)
  have rd58_:=zbo q58_
  rw [e58_] at rd58_
  have e59_:ρ 59=.slice a_t text.length c_t:=hX.2.2.2.1
  refine ⟨#[.agg (ints .u8 ((keyV (itV s0 nu)).take 32)),.slice a_n (((keyV (itV s0 nu)).drop 32).length) c_n,.slice ar58 ((grp++hdV ep++[0]++hdV nu).length) cr58,.slice a_t text.length c_t],Eq.trans (b:=zai (Next.enter 20 #[ρ 54,ρ 56,ρ 58,ρ 59]) W) kj (by rw [e54_,e56_,e58_,e59_]),?_⟩
  exact ((Qmo ((keyV (itV s0 nu)).take 32) ((keyV (itV s0 nu)).drop 32) (grp++hdV ep++[0]++hdV nu) text _ _ _ _ _ _ th tr W (Qaa (Qaa (rpn p6 rk8 e5 l21) (Qaj _)) hR) (Qaa (Qaa (rpn p6 rk7 e5 l21) (Qaj _)) hR) (QaX (QaI _)) (RdK.ext (zbo ((hu2.ext e5).puts p6 (nb_new hu2 l21))) (zbh (Qaj _) hR)) rd58_ (RdK.ext (hst _ (Qaf.but hKw x6 (.inr b10))) (zbh (Qaj _) hR)) hctxb hnl (by simp [hgl,Qkn]) (by omega)).mono fun e W2 hg=>by obtain ⟨v2,e1,e2,u,e3,e4⟩:=hg; rw [es] at e4; exact ⟨v2,e1,e2,u,e3,e4.base (zbh (Qaj _) hR).size⟩)
 refine QcO (hF _ fun W7 e7=>?_)
 simp only [zak,zal,zam,zan,zao,zap,finE,up]
 intro vv23 hv23 vv26 hv26
 clear hF
 obtain ⟨a27_,c27_,rfl,-⟩:=id (zbo hv23)
 obtain ⟨uu28,rfl,huu28⟩:=hv26
 obtain ⟨au28,cu28,rfl,-⟩:=id (zbo huu28)
 refine (show Wk.WZ _ _ _ 6 #[true,true,true,true,true,true,true,true,false,false,false,false,false,false] _ _ from ?_)
 refine Wk.wz_val 8 (.tuple #[.slice au28 ((fs).length) cu28,.nilIface]) 52 rfl rfl kj kj (fun _ _ _ h=>h) (fun _=>kj) <| Wk.wz_val 9 (.slice au28 ((fs).length) cu28) 61 rfl rfl kj kj (fun _ _ _ h=>h) (fun _=>kj) <| Wk.wz_val 10 (.nilIface) 62 rfl rfl kj kj (fun _ _ _ h=>h) (fun _=>kj) <| Wk.wz_val 11 (.pointer (some ⟨g21,35,none⟩)) 63 rfl rfl kj kj (fun _ _ _ h=>h) (fun _=>kj) ?_
 have r21_7:=(Qaa r21_6 e7)
 refine Wk.wz_store 12 g21 _ (cat [ints .u8 (grp),#[.int .i64 ((ep:Nat):Int)],#[.int .i64 0],#[.int .i64 ((nu:Nat):Int)],#[.slice au28 ((fs).length) cu28]]) 35 r21_7 kj rfl rfl kj (run_storeQ 33 _ _ g21 35 35 [ints .u8 (grp),#[.int .i64 ((ep:Nat):Int)],#[.int .i64 0],#[.int .i64 ((nu:Nat):Int)]] [] _ (.slice au28 ((fs).length) cu28) r21_7 rfl kj kj kj (by rw [Qac,Qac,Qac,Qac]; simp only [qS,cat,(izT hgl)]; rfl) rfl rfl) fun W8 p8 r21_8=>?_
 refine Wk.wz_val 13 (.nilIface) 8 rfl rfl kj kj (fun _ _ _ h=>h) (fun _=>kj) <| Wk.wz_nil kj <| hK22 _ _ <| wp_seq_k fun K29 hK29=>sgB kj <| cond_false kj <| wp_skip <| hK29 _ _ <| sgC fun K31 hK31=>Qab (.agg (cat [ints .u8 (grp),#[.int .i64 ((ep:Nat):Int)],#[.int .i64 0],#[.int .i64 ((nu:Nat):Int)],#[.slice au28 ((fs).length) cu28]])) 68 rfl kj (Qap 35 _ g21 35 _ _ r21_8 rfl kj kj (isz (n:=36) kj (by rw [Qac,Qac,Qac,Qac,Qac]; simp only [qS,cat,(izT hgl)]; rfl))) ?_
 have r10_6:=(rpn p6 rk10 e5 l21)
 have r10_8:=(zbi p8 (Qaa r10_6 e7) (Qag rk10 l21))
 refine Qan g10 _ (cat [ints .u8 (grp),#[.int .i64 ((ep:Nat):Int)],#[.int .i64 0],#[.int .i64 ((nu:Nat):Int)],#[.slice au28 ((fs).length) cu28]]) 35 r10_8 rfl kj (Qao 35 _ _ g10 35 _ _ r10_8 rfl kj kj (isz (n:=36) kj (by rw [Qac,Qac,Qac,Qac,Qac]; simp only [qS,cat,(izT hgl)]; rfl)) (eqsz (n:=36) (by rw [Qac,Qac,Qac,Qac,Qac]; simp only [qS,cat,(izT (qZ (n:=32)))]; rfl) (by rw [Qac,Qac,Qac,Qac,Qac]; simp only [qS,cat,(izT hgl)]; rfl)) (Qbn _ (by intro a ha; simp only [zaf,zag,or_false] at ha; rcases ha with rfl | rfl | rfl | rfl | rfl; exact (Qay _ _); exact (Qa6 _ rfl); exact (Qa6 _ rfl); exact (Qa6 _ rfl); exact (Qa6 _ rfl)))) fun W9 p9 r10_9=>?_
 have x9:=ExtB.puts (ExtB.putsN (ExtB.ext x6 e7) p8 b21) p9
 refine sg 1 kj <| sgN hK31 <| wp_ret ?_
 exact (show bodyPost _ _ _ .ret _ _ from ret2 (.agg (cat [ints .u8 (grp),#[.int .i64 ((ep:Nat):Int)],#[.int .i64 0],#[.int .i64 ((nu:Nat):Int)],#[.slice au28 ((fs).length) cu28]])) (.nilIface) rfl (QaP g10 35 _ r10_9 kj kj (isz (n:=36) kj (by rw [Qac,Qac,Qac,Qac,Qac]; simp only [qS,cat,(izT hgl)]; rfl))) (Qaz kj) ⟨_,rfl,Qaf.but hKw x9 (.inr b10),hch3.keep (x9.2.2.2.2 cg hch3.glt (zaj (qL hch.glt b10))) (x9.2.2.2.2 cm hch3.mp.lt (zaj (qL hch.mp.lt b10))),zbn (qT hKw.size x6.2.2.2.1) ((huu28.puts p8 (QbP huu28 (Qaq r21_6))).puts p9 (QbP huu28 (Qaq r10_6)))⟩)
end Pk
end
section
namespace Pk
open Go Go.RowKit
open Rely Auto Own Sha
open Cha
open Ae hiding run_storeQ
open Cn hiding nb_new run_extractT
theorem of_1 (gb ge ce gc:Nat) (tl:Array Value) (grp:List Int) (hgl:grp.length=32) (w:World) (hgb:w.heap[gb]? = some (.cells (cat [#[.slice (some ⟨ge,0,none⟩) 1 ce],#[.bool false]]) 49)) (hge:w.heap[ge]? = some (.cells (cat [#[.pointer (some ⟨gc,0,none⟩)],ints .u8 grp,#[.int .i64 0],#[.int .i64 1],tl]) 55)) (a_s:Option Addr) (n_s c_s:Nat):Calls Tryd.prog 23 #[.pointer (some ⟨gb,0,none⟩),.agg (cat [ints .u8 grp,#[.int .i64 0],#[.int .i64 0],#[.int .i64 0],#[.slice a_s n_s c_s]])] w (Ret w (.pointer (some ⟨ge,0,none⟩))):=by
  refine enter 39 [(0,.pointer (some ⟨gb,0,none⟩)),(1,.agg (cat [ints .u8 (grp),#[.int .i64 0],#[.int .i64 0],#[.int .i64 0],#[.slice a_s n_s c_s]]))] Tryd.func23 rfl rfl kj rfl ?_
  refine wp_seq_k fun K3 hK3=>?_
  refine Qae ?_
  refine Qar (cat [ints .u8 (grp),#[.int .i64 0],#[.int .i64 0],#[.int .i64 0],#[.slice a_s n_s c_s]]) 35 3 rfl kj kj fun g4 W1 l4 e1 r4_1=>?_
  have x1:Ext w W1:=zbk (zbg w) e1
  have b4:w.heap.size≤g4:=qT (zbg w).size l4
  refine Qab (.pointer none) 4 rfl kj kj ?_
  refine Qal ?_
  refine hK3 _ _ ?_
  refine wp_seq_k fun K5 hK5=>?_
  refine wp_seq_k fun K6 hK6=>?_
  refine Qae ?_
  refine Qab (.pointer (some ⟨gb,0,none⟩)) 7 rfl kj kj ?_
  refine Qab (.pointer (some ⟨gb,0,none⟩)) 8 rfl kj kj ?_
  refine Qab (.pointer (some ⟨gb,0,none⟩)) 9 rfl kj kj ?_
  have r1_1:=(Qaa hgb e1)
  refine Qab (.slice (some ⟨ge,0,none⟩) 1 ce) 10 rfl kj (Qad 47 _ gb 0 49 _ (.slice (some ⟨ge,0,none⟩) 1 ce) _ r1_1 rfl kj kj kj) ?_
  refine Qab (.int .i64 1) 11 rfl kj kj ?_
  refine Qab (.int .i64 0) 12 rfl kj kj ?_
  refine Qal ?_
  refine hK6 _ _ ?_
  refine wp_block ?_
  refine wp_loop_rounds 1 ?_
  show Code.wp _ _ (Exit.then (Code.rounds _ _ _ 0) _) _ _
  refine wp_seq_k fun K7 hK7=>?_
  refine Qae ?_
  refine Qab (.bool true) 13 rfl kj kj ?_
  refine Qal ?_
  refine hK7 _ _ ?_
  refine wp_seq_k fun K8 hK8=>?_
  refine cond_true kj ?_
  refine wp_skip ?_
  refine hK8 _ _ ?_
  refine wp_seq_k fun K9 hK9=>?_
  refine wp_block ?_
  refine wp_seq_k fun K10 hK10=>?_
  refine Qae ?_
  refine Qab (.int .i64 0) 14 rfl kj kj ?_
  refine Qab (.int .i64 0) 5 rfl kj kj ?_
  refine Qal ?_
  refine hK10 _ _ ?_
  refine wp_seq_k fun K11 hK11=>?_
  refine Qae ?_
  refine Qab (.pointer (some ⟨gb,0,none⟩)) 15 rfl kj kj ?_
  refine Qab (.pointer (some ⟨gb,0,none⟩)) 16 rfl kj kj ?_
  refine Qab (.pointer (some ⟨gb,0,none⟩)) 17 rfl kj kj ?_
  refine Qab (.slice (some ⟨ge,0,none⟩) 1 ce) 18 rfl kj (Qad 47 _ gb 0 49 _ (.slice (some ⟨ge,0,none⟩) 1 ce) _ r1_1 rfl kj kj kj) ?_
  refine Qab (.int .i64 0) 19 rfl kj kj ?_
  refine Qab (.pointer (some ⟨ge,0,none⟩)) 20 rfl kj kj ?_
  refine Qab (.pointer (some ⟨ge,0,none⟩)) 6 rfl kj kj ?_
  refine Qal ?_
  refine hK11 _ _ ?_
  refine wp_seq_k fun K12 hK12=>?_
  refine QaL 16 [⟨none,[(6,none)]⟩,⟨none,[(21,some 0)]⟩,⟨none,[(22,some 1)]⟩,⟨none,[(23,some 2)]⟩,⟨none,[(3,none)]⟩,⟨none,[(25,some 4)]⟩,⟨none,[(24,some 3),(26,some 5)]⟩,⟨none,[(27,some 6)]⟩,⟨some (28,true),[(6,none),(28,some 7)]⟩,⟨some (28,true),[(29,some 8),(28,some 7)]⟩,⟨some (28,true),[(30,some 9),(28,some 7)]⟩,⟨some (28,true),[(31,some 10),(28,some 7)]⟩,⟨some (28,true),[(3,none),(28,some 7)]⟩,⟨some (28,true),[(33,some 12),(28,some 7)]⟩,⟨some (28,true),[(32,some 11),(34,some 13),(28,some 7)]⟩,⟨none,[(28,some 7),(35,some 14)]⟩] kj kj fun F hF=>?_
  refine Qak (.pointer (some ⟨ge,0,none⟩)) kj kj (fun W=>by kernel_rfl) ?_
  refine Qak (.pointer (some ⟨ge,0,none⟩)) kj kj (fun W=>by kernel_rfl) ?_
  refine Qak (.pointer (some ⟨ge,33,none⟩)) kj kj (fun W=>by kernel_rfl) ?_
  have r2_1:=(Qaa hge e1)
  refine Qa7 (.int .i64 0) kj kj (fun W hR=>(Qad 3 _ ge 33 55 _ (.int .i64 0) _ (Qaa (Qaa r2_1 (Qaj _)) hR) rfl kj (Qam [#[.pointer (some ⟨gc,0,none⟩)],ints .u8 (grp)] [#[.int .i64 0]] [#[.int .i64 1],tl] 33 (by rw [Qac,Qac]; simp only [qS,cat,((Qat _ _).trans hgl)]; rfl) 0 _ rfl) kj)) ?_
  refine Qak (.pointer (some ⟨g4,32,none⟩)) kj kj (fun W=>by kernel_rfl) ?_
  refine Qa7 (.int .i64 0) kj kj (fun W hR=>(Qad 3 _ g4 32 35 _ (.int .i64 0) _ (Qaa (Qaa r4_1 (Qaj _)) hR) rfl kj (Qam [ints .u8 (grp)] [#[.int .i64 0]] [#[.int .i64 0],#[.int .i64 0],#[.slice a_s n_s c_s]] 32 ((Qat _ _).trans hgl) 0 _ rfl) kj)) ?_
  refine Qak (.bool true) kj kj (fun W=>by kernel_rfl) ?_
  refine Qak (.bool true) kj kj (fun W=>by kernel_rfl) ?_
  refine Qak (.pointer (some ⟨ge,0,none⟩)) kj kj (fun W=>by kernel_rfl) ?_
  refine Qak (.pointer (some ⟨ge,0,none⟩)) kj kj (fun W=>by kernel_rfl) ?_
  refine Qak (.pointer (some ⟨ge,1,none⟩)) kj kj (fun W=>by kernel_rfl) ?_
  refine Qa7 (.agg (ints .u8 (grp))) kj kj (fun W hR=>(Qa0 29 _ ge 1 55 _ _ _ (Qaa (Qaa r2_1 (Qaj _)) hR) rfl kj (Qam [#[.pointer (some ⟨gc,0,none⟩)]] [ints .u8 (grp)] [#[.int .i64 0],#[.int .i64 1],tl] 1 kj) kj (isz (n:=32) kj ((Qat _ _).trans hgl)))) ?_
  refine Qak (.pointer (some ⟨g4,0,none⟩)) kj kj (fun W=>by kernel_rfl) ?_
  refine Qa7 (.agg (ints .u8 (grp))) kj kj (fun W hR=>(Qa0 29 _ g4 0 35 _ _ _ (Qaa (Qaa r4_1 (Qaj _)) hR) rfl kj (Qam [] [ints .u8 (grp)] [#[.int .i64 0],#[.int .i64 0],#[.int .i64 0],#[.slice a_s n_s c_s]] 0 kj) kj (isz (n:=32) kj ((Qat _ _).trans hgl)))) ?_
  refine Qak (.bool true) kj kj (fun W=>(QeX 29 _ _ _ _ _ (.bool true) rfl kj kj kj (QgP 29 (e:=5) (k:=.u8) (grp) (grp) (decide_eq_true rfl) hgl hgl kj kj kj _))) ?_
  refine Qak (.bool true) kj kj (fun W=>by kernel_rfl) ?_
  refine QaQ (hF _ kj fun W2 e2=>?_)
  simp only [ups,up,Kn.val,zam,zan,zao,zap,zak,zal]
  clear hF
  have x2:Ext w W2:=zbk x1 e2
  refine Qal ?_
  refine hK12 _ _ ?_
  refine cond_true kj ?_
  refine wp_seq_k fun K13 hK13=>?_
  refine Qae ?_
  refine Qab (.pointer (some ⟨ge,0,none⟩)) 37 rfl kj kj ?_
  refine Qab (.pointer (some ⟨ge,0,none⟩)) 4 rfl kj kj ?_
  refine Qal ?_
  refine hK13 _ _ ?_
  refine wp_ret ?_
  exact (show bodyPost _ _ _ .ret _ _ from ret1 (.pointer (some ⟨ge,0,none⟩)) rfl (Qaz kj) ⟨rfl,x2⟩)
theorem Qdt {xs ys:List Int} (h:xs.length+ys.length≤65536):Wr.rawS (some xs) ys=some (xs++ys):=by
  unfold Wr.rawS
  simp [h]
theorem Qg7 (n : Int):∀ (k:Nat) (xs:List Int),xs.length+k≤65536→∃ ys,ys.length=xs.length+k∧Wr.numR n k (some xs)=some ys
  | 0,xs,_=>⟨xs,rfl,rfl⟩
  | k+1,xs,h=>by
    obtain ⟨ys,h1,h2⟩:=Qg7 n k (xs++[Wr.byV n k]) (by simp; omega)
    refine ⟨ys,by rw [h1]; simp; omega,?_⟩
    show Wr.numR n k (Wr.rawS (some xs) [Wr.byV n k])=_
    rw [Qdt (by simp; omega)]; exact h2
theorem Qcy {n : Int} {k:Nat} {xs:List Int} (ho:Wr.okN n k=true) (h:xs.length+k≤65536):∃ ys,ys.length=xs.length+k∧Wr.numS (some xs) n k=some ys:=by
  unfold Wr.numS Wr.mustS
  rw [ho]
  exact Qg7 n k xs h
theorem QjL {n : Nat} (h:n≤1040):Wr.okN ((n:Nat):Int) 2=true:=by
  unfold Wr.okN
  have h1:((n:Nat):Int).fdiv (2^(8*2))=0:=by
    rw [zaq _ (by decide)]
    exact zar (by omega) (by show ((n:Nat):Int)<65536; omega)
  rw [h1]
  simp
theorem Qf5 (grp fs:List Int) (hg:grp.length=32) (hf:fs.length≤1040):∃ xs,Wr.packS (some []) grp 0 0 0 fs=some xs:=by
  unfold Wr.packS Wr.leafS Wr.bytS
  rw [Qdt (by simp [hg])]
  obtain ⟨y1,l1,e1⟩:=Qcy (n:=0) (k:=4) (xs:=[]++grp) (by decide) (by simp [hg])
  rw [e1]
  obtain ⟨y2,l2,e2⟩:=Qcy (n:=0) (k:=1) (xs:=y1) (by decide) (by rw [l1]; simp [hg])
  rw [show Wr.mustS (some y1) (decide ((0:Int)<32))=some y1 from rfl,e2]
  obtain ⟨y3,l3,e3⟩:=Qcy (n:=0) (k:=4) (xs:=y2) (by decide) (by rw [l2,l1]; simp [hg])
  rw [e3]
  obtain ⟨y4,l4,e4⟩:=Qcy (n:=((fs.length:Nat):Int)) (k:=2) (xs:=y3) (QjL hf) (by rw [l3,l2,l1]; simp [hg])
  rw [e4]
  exact ⟨_,Qdt (by rw [l4,l3,l2,l1]; simp [hg]; omega)⟩
end Pk
end
section
namespace Pk
open Go Go.RowKit
open Rely Auto Own Sha
open Cha
open Ae hiding run_storeQ
open Cn hiding nb_new run_extractT
open Wk
open Ae in
theorem Qgs (key nonce ctx text:List Int):(QcS key nonce ctx text).take ((QcS key nonce ctx text).length-16)=mixV (QaZ key nonce) 1 text:=by
  rw [Qcx]; unfold QcS
  rw [zas (by rw [QbV]; omega),zat (by rw [QbV]; omega)]
theorem Qjy (key nonce ctx text:List Int):(QcS key nonce ctx text).drop ((QcS key nonce ctx text).length-16)=Qd0 key nonce ctx (mixV (QaZ key nonce) 1 text):=by
  rw [Qcx]; unfold QcS
  rw [zau (by rw [QbV]; omega),List.drop_of_length_le (by rw [QbV]; omega),zak]
theorem QkD (key nonce ctx text:List Int) (v v2 v3:Value) (B B2 B3:Nat) (th tq:TypeId) (w:World) (hh:w.heap[0]? = some (.cells (ints .u32 qH) th)) (hq:w.heap[1]? = some (.cells (ints .i64 qQ) tq)) (hkl:key.length=32) (hn:RdK .u8 B nonce v w) (hc:RdK .u8 B2 ctx v2 w) (ht:RdK .u8 B3 (QcS key nonce ctx text) v3 w) (hcb:Qai ctx) (htb:Qai text) (h:nonce.length=12) (hcl:ctx.length≤1048576) (hxl:text.length≤1048576) :
    Calls Tryd.prog 25 #[.agg (ints .u8 key),v,v2,v3] w (QbF w (MixR w.heap.size text)):=by
  have h1:=Qop key nonce ctx (QcS key nonce ctx text) v v2 v3 B B2 B3 th tq w hh hq hkl hn hc ht hcb (Qc7 _ _ _ _) h (by omega) (by rw [Qcx]; omega) (by rw [Qcx]; omega) (by rw [Qgs,Qjy])
  rw [Qgs,QmJ _ _ _ htb] at h1
  exact h1
theorem QlY (key nonce ctx text fs:List Int) (es:QcS key nonce ctx text=fs) (v v2 v3:Value) (B B2 B3:Nat) (th tq:TypeId) (w:World) (hh:w.heap[0]? = some (.cells (ints .u32 qH) th)) (hq:w.heap[1]? = some (.cells (ints .i64 qQ) tq)) (hkl:key.length=32) (hn:RdK .u8 B nonce v w) (hc:RdK .u8 B2 ctx v2 w) (ht:RdK .u8 B3 fs v3 w) (hcb:Qai ctx) (htb:Qai text) (h:nonce.length=12) (hcl:ctx.length≤1048576) (hxl:text.length≤1048576) :
    Calls Tryd.prog 25 #[.agg (ints .u8 key),v,v2,v3] w (QbF w (MixR w.heap.size text)):=by
  subst es
  exact QkD key nonce ctx text v v2 v3 B B2 B3 th tq w hh hq hkl hn hc ht hcb htb h hcl hxl
theorem Qhn {k : IntKind} {T:TypeId} {b cg cm:Nat} {xs:List Int} {v:Value} {W W':World} (h:OwnN k T b xs v W) (q:Qaf [cg,cm] W W') (h1:v.ownBlock≠some cg) (h2:v.ownBlock≠some cm):OwnN k T b xs v W' :=
  h.keep fun g hg=>q.block g (h.lt hg) (Qax (fun e=>h1 (by rw [hg,e])) (Qax (fun e=>h2 (by rw [hg,e])) QaE))
set_option maxRecDepth 100000 in
theorem QnQ (gb ge ce gc:Nat) (tl:Array Value) (grp:List Int) (hgl:grp.length=32) (w:World) (hgb:w.heap[gb]? = some (.cells (cat [#[.slice (some ⟨ge,0,none⟩) 1 ce],#[.bool false]]) 49)) (hge:w.heap[ge]? = some (.cells (cat [#[.pointer (some ⟨gc,0,none⟩)],ints .u8 grp,#[.int .i64 0],#[.int .i64 1],tl]) 55)) (gl len cap:Nat) (lp:Array Value) (hgc:w.heap[gc]? = some (.cells #[.slice (some ⟨gl,0,none⟩) len cap] 71)) (hgl_:w.heap[gl]? = some (.cells lp 73)) (cg cm:Nat) (hi:0<len) (hli:lp[0]? = some (.pointer (some ⟨cg,0,none⟩))) (s0:List Int) (hch:ChSt cg cm s0 [] 0 [] w) (tc tq th tr:TypeId) (hc:w.heap[4]? = some (.cells (ints .u64 QaR) tc)) (hq:w.heap[3]? = some (.cells (ints .u64 Qa9) tq)) (hr4:w.heap[1]? = some (.cells (ints .i64 qQ) tr)) (hh4:w.heap[0]? = some (.cells (ints .u32 qH) th)) (hNc:4∉[cg,cm]) (hNq:3∉[cg,cm]) (hNr:1∉[cg,cm]) (hNh:0∉[cg,cm]) (text fs:List Int) (htl:text.length≤1024) (htb:Qai text) (es:QcS ((keyV (itV s0 0)).take 32) ((keyV (itV s0 0)).drop 32) (grp++[0,0,0,0]++[0]++[0,0,0,0]) text=fs) (hgrb:Qai grp) (v:Value) (hst:∀ W,Ext w W→RdK .u8 W.heap.size fs v W) :
  Calls Tryd.prog 9 #[.pointer (some ⟨gb,0,none⟩),.agg (cat [ints .u8 grp,#[.int .i64 0],#[.int .i64 0],#[.int .i64 0],#[v]])] w (fun x W=>∃ u,x=.returned (.tuple #[u,.nilIface])∧Qaf [cg,cm] w W∧ChSt cg cm s0 [0] 1 (QcG [] s0 0 0) W∧OwnN .u8 5 w.heap.size text u W):=by
 obtain ⟨a_s,c_s,rfl,-⟩:=id (hst _ (zbg _))
 have hctxb:Qai (grp++[0,0,0,0]++[0]++[0,0,0,0]):=fun x hx=>by
  simp only [zaa,zab] at hx
  rcases hx with h | h
  ·exact hgrb x h
  ·have:x=0:=by simpa using h
   subst this; exact ⟨by decide,by decide⟩
 have hnl:((keyV (itV s0 0)).drop 32).length=12:=by rw [zac,QaI]
 have hfl:fs.length=text.length+16:=by rw [←es]; exact Qcx _ _ _ _
 have hfb:Qai fs:=es▸Qc7 _ _ _ _
 obtain ⟨xs,hxs⟩:=Qf5 grp fs hgl (by omega)
 refine enter 91 [(0,.pointer (some ⟨gb,0,none⟩)),(1,.agg (cat [ints .u8 (grp),#[.int .i64 0],#[.int .i64 0],#[.int .i64 0],#[.slice a_s fs.length c_s]]))] Tryd.func9 rfl rfl kj rfl ?_
 refine wp_seq_k fun K9 hK9=>?_
 refine Qae ?_
 refine Qar (cat [ints .u8 (grp),#[.int .i64 0],#[.int .i64 0],#[.int .i64 0],#[.slice a_s fs.length c_s]]) 35 3 rfl kj kj fun g10 W1 l10 e1 r10_1=>?_
 have x1:Ext w W1:=zbk (zbg w) e1
 have b10:w.heap.size≤g10:=qT (zbg w).size l10
 refine Qab (.slice none 0 0) 4 rfl kj kj ?_
 refine Qab (.nilIface) 5 rfl kj kj ?_
 refine Qal ?_
 refine hK9 _ _ ?_
 refine wp_seq_k fun K11 hK11=>?_
 refine wp_seq_k fun K12 hK12=>?_
 refine Qae ?_
 refine Qab (.pointer (some ⟨gb,0,none⟩)) 14 rfl kj kj ?_
 have r1_1:=(Qaa hgb e1)
 refine Qau (.pointer (some ⟨ge,0,none⟩)) 16 #[.pointer (some ⟨gb,0,none⟩)] 15 rfl kj kj (Qfl gb ge ce gc tl grp hgl _ r1_1) fun W2 e2=>?_
 have x2:Ext w W2:=zbk x1 e2
 refine Qab (.bool false) 16 rfl kj kj ?_
 refine Qal ?_
 refine hK12 _ _ ?_
 refine cond_false kj ?_
 refine wp_skip ?_
 refine hK11 _ _ ?_
 refine wp_seq_k fun K13 hK13=>?_
 refine wp_seq_k fun K14 hK14=>?_
 refine Qae ?_
 have r10_2:=(Qaa r10_1 e2)
 refine Qab (.agg (cat [ints .u8 (grp),#[.int .i64 0],#[.int .i64 0],#[.int .i64 0],#[.slice a_s fs.length c_s]])) 19 rfl kj (Qap 35 _ g10 35 _ _ r10_2 rfl kj kj (isz (n:=36) kj (by rw [Qac,Qac,Qac,Qac,Qac]; simp only [qS,cat,((Qat _ _).trans hgl)]; rfl))) ?_
 refine Qav (fun v W'=>(Wr.PutR W2.heap.size (some xs)) v W'∧Ext W2 W') 22 #[.agg (cat [ints .u8 (grp),#[.int .i64 0],#[.int .i64 0],#[.int .i64 0],#[.slice a_s fs.length c_s]])] 20 rfl kj kj ((Wr.PutPacket_S grp 0 0 0 fs a_s c_s _ hgl hgrb (by omega) hfb (hst _ x2) xs hxs).mono (by rintro e w' ⟨v,rfl,e1,hv⟩; exact ⟨v,rfl,hv,e1⟩)) fun vv16 W3 hh16=>?_
 obtain ⟨hv16,e3⟩:=hh16
 have x3:Ext w W3:=zbk x2 e3
 obtain ⟨pu15,rfl,hpu15⟩:=hv16
 refine Qab (.tuple #[pu15,.nilIface]) 18 rfl kj kj ?_
 refine Qab (pu15) 21 rfl kj kj ?_
 refine Qab (.nilIface) 22 rfl kj kj ?_
 refine Qab (pu15) 6 rfl kj kj ?_
 refine Qab (.nilIface) 7 rfl kj kj ?_
 refine Qal ?_
 refine hK14 _ _ ?_
 refine wp_seq_k fun K17 hK17=>?_
 refine Qae ?_
 refine Qab (.nilIface) 23 rfl kj kj ?_
 refine Qab (.bool false) 24 rfl kj kj ?_
 refine Qal ?_
 refine hK17 _ _ ?_
 refine cond_false kj ?_
 refine wp_skip ?_
 refine hK13 _ _ ?_
 refine wp_seq_k fun K18 hK18=>?_
 refine wp_seq_k fun K19 hK19=>?_
 refine Qae ?_
 refine Qab (.pointer (some ⟨g10,35,none⟩)) 26 rfl kj kj ?_
 have r10_3:=(Qaa r10_2 e3)
 refine Qab (.slice a_s fs.length c_s) 27 rfl kj (Qad 33 _ g10 35 35 _ (.slice a_s fs.length c_s) _ r10_3 rfl kj (Qam [ints .u8 (grp),#[.int .i64 0],#[.int .i64 0],#[.int .i64 0]] [#[.slice a_s fs.length c_s]] [] 35 (by rw [Qac,Qac,Qac,Qac]; simp only [qS,cat,((Qat _ _).trans hgl)]; rfl) 0 _ rfl) kj) ?_
 refine Qab (.int .i64 ((fs.length:Nat):Int)) 28 rfl kj kj ?_
 refine Qab (.bool false) 29 rfl kj (Qah (u:=.bool (decide (((fs.length:Nat):Int)>1040))) kj (congrArg zae (decide_eq_false (by omega)))) ?_
 refine Qal ?_
 refine hK19 _ _ ?_
 refine cond_false kj ?_
 refine wp_skip ?_
 refine hK18 _ _ ?_
 refine wp_seq_k fun K20 hK20=>?_
 refine Qae ?_
 refine Qab (.pointer (some ⟨gb,0,none⟩)) 31 rfl kj kj ?_
 refine Qab (.agg (cat [ints .u8 (grp),#[.int .i64 0],#[.int .i64 0],#[.int .i64 0],#[.slice a_s fs.length c_s]])) 32 rfl kj (Qap 35 _ g10 35 _ _ r10_3 rfl kj kj (isz (n:=36) kj (by rw [Qac,Qac,Qac,Qac,Qac]; simp only [qS,cat,((Qat _ _).trans hgl)]; rfl))) ?_
 have r1_2:=(Qaa r1_1 e2)
 have r1_3:=(Qaa r1_2 e3)
 have r2_1:=(Qaa hge e1)
 have r2_2:=(Qaa r2_1 e2)
 have r2_3:=(Qaa r2_2 e3)
 refine Qau (.pointer (some ⟨ge,0,none⟩)) 23 #[.pointer (some ⟨gb,0,none⟩),.agg (cat [ints .u8 (grp),#[.int .i64 0],#[.int .i64 0],#[.int .i64 0],#[.slice a_s fs.length c_s]])] 33 rfl kj kj (of_1 gb ge ce gc tl grp hgl _ r1_3 r2_3 a_s _ c_s) fun W4 e4=>?_
 have x4:Ext w W4:=zbk x3 e4
 refine Qab (.pointer (some ⟨ge,0,none⟩)) 8 rfl kj kj ?_
 refine Qal ?_
 refine hK20 _ _ ?_
 refine wp_seq_k fun K21 hK21=>?_
 refine wp_seq_k fun K22 hK22=>?_
 refine Qae ?_
 refine Qab (.pointer (some ⟨ge,0,none⟩)) 34 rfl kj kj ?_
 refine Qab (.bool false) 35 rfl kj kj ?_
 refine Qal ?_
 refine hK22 _ _ ?_
 refine cond_false kj ?_
 refine wp_skip ?_
 refine hK21 _ _ ?_
 refine wp_seq_k fun K23 hK23=>?_
 refine wp_seq_k fun K24 hK24=>?_
 refine QaL 7 [⟨none,[(3,none)]⟩,⟨none,[(37,some 0)]⟩,⟨none,[(8,none)]⟩,⟨none,[(39,some 2)]⟩,⟨none,[(40,some 3)]⟩,⟨none,[(41,some 4)]⟩,⟨none,[(38,some 1),(42,some 5)]⟩] kj kj fun F hF=>?_
 refine Qak (.pointer (some ⟨g10,33,none⟩)) kj kj (fun W=>by kernel_rfl) ?_
 have r10_4:=(Qaa r10_3 e4)
 refine Qa7 (.int .i64 0) kj kj (fun W hR=>(Qad 3 _ g10 33 35 _ (.int .i64 0) _ (Qaa (Qaa r10_4 (Qaj _)) hR) rfl kj (Qam [ints .u8 (grp),#[.int .i64 0]] [#[.int .i64 0]] [#[.int .i64 0],#[.slice a_s fs.length c_s]] 33 (by rw [Qac,Qac]; simp only [qS,cat,((Qat _ _).trans hgl)]; rfl) 0 _ rfl) kj)) ?_
 refine Qak (.pointer (some ⟨ge,0,none⟩)) kj kj (fun W=>by kernel_rfl) ?_
 refine Qak (.pointer (some ⟨ge,0,none⟩)) kj kj (fun W=>by kernel_rfl) ?_
 refine Qak (.pointer (some ⟨ge,34,none⟩)) kj kj (fun W=>by kernel_rfl) ?_
 have r2_4:=(Qaa r2_3 e4)
 refine Qa7 (.int .i64 1) kj kj (fun W hR=>(Qad 3 _ ge 34 55 _ (.int .i64 1) _ (Qaa (Qaa r2_4 (Qaj _)) hR) rfl kj (Qam [#[.pointer (some ⟨gc,0,none⟩)],ints .u8 (grp),#[.int .i64 0]] [#[.int .i64 1]] [tl] 34 (by rw [Qac,Qac,Qac]; simp only [qS,cat,((Qat _ _).trans hgl)]; rfl) 0 _ rfl) kj)) ?_
 refine Qak (.bool false) kj kj (fun W=>by kernel_rfl) ?_
 refine QaQ (hF _ kj fun W5 e5=>?_)
 simp only [ups,up,Kn.val,zam,zan,zao,zap,zak,zal]
 clear hF
 have x5:Ext w W5:=zbk x4 e5
 refine Qal ?_
 refine hK24 _ _ ?_
 refine cond_false kj ?_
 refine wp_skip ?_
 refine hK23 _ _ ?_
 refine wp_seq_k fun K25 hK25=>?_
 have r1_4:=(Qaa r1_3 e4)
 have r1_5:=(Qaa r1_4 e5)
 have r2_5:=(Qaa r2_4 e5)
 have r3_1:=(Qaa hgc e1)
 have r3_2:=(Qaa r3_1 e2)
 have r3_3:=(Qaa r3_2 e3)
 have r3_4:=(Qaa r3_3 e4)
 have r3_5:=(Qaa r3_4 e5)
 have r4_1:=(Qaa hgl_ e1)
 have r4_2:=(Qaa r4_1 e2)
 have r4_3:=(Qaa r4_2 e3)
 have r4_4:=(Qaa r4_3 e4)
 have r4_5:=(Qaa r4_4 e5)
 have r5_1:=(Qaa hc e1)
 have r5_2:=(Qaa r5_1 e2)
 have r5_3:=(Qaa r5_2 e3)
 have r5_4:=(Qaa r5_3 e4)
 have r5_5:=(Qaa r5_4 e5)
 have r6_1:=(Qaa hq e1)
 have r6_2:=(Qaa r6_1 e2)
 have r6_3:=(Qaa r6_2 e3)
 have r6_4:=(Qaa r6_3 e4)
 have r6_5:=(Qaa r6_4 e5)
 have r7_1:=(Qaa hr4 e1)
 have r7_2:=(Qaa r7_1 e2)
 have r7_3:=(Qaa r7_2 e3)
 have r7_4:=(Qaa r7_3 e4)
 have r7_5:=(Qaa r7_4 e5)
 have r8_1:=(Qaa hh4 e1)
 have r8_2:=(Qaa r8_1 e2)
 have r8_3:=(Qaa r8_2 e3)
 have r8_4:=(Qaa r8_3 e4)
 have r8_5:=(Qaa r8_4 e5)
 have r10_5:=(Qaa r10_4 e5)
 have hch0a:ChSt cg cm s0 [] 0 [] W5:=hch.ext x5
 have hcg0a:=hch0a.glt
 have hcm0a:=hch0a.mp.lt
 refine QbO (fun W=>Ext W5 W) kj fun Wsa eWsa=>⟨eWsa,?_⟩
 refine QaA 0 (.pointer (some ⟨ge,0,none⟩)) 46 rfl rfl kj kj (fun _ _ _ h=>h) (fun W hR=>by kernel_rfl) ?_
 refine QaA 1 (.pointer (some ⟨ge,0,none⟩)) 47 rfl rfl kj kj (fun _ _ _ h=>h) (fun W hR=>by kernel_rfl) ?_
 refine QaA 2 (.pointer (some ⟨ge,0,none⟩)) 48 rfl rfl kj kj (fun _ _ _ h=>h) (fun W hR=>by kernel_rfl) ?_
 refine QaA 3 (.pointer (some ⟨gc,0,none⟩)) 49 rfl rfl kj kj (fun _ _ _ h=>h) (fun W hR=>(Qad 53 _ ge 0 55 _ (.pointer (some ⟨gc,0,none⟩)) _ (Qaa r2_5 hR) rfl kj (Qam [] [#[.pointer (some ⟨gc,0,none⟩)]] [ints .u8 (grp),#[.int .i64 0],#[.int .i64 1],tl] 0 kj 0 _ rfl) kj)) ?_
 refine QaA 4 (.pointer (some ⟨g10,33,none⟩)) 50 rfl rfl kj kj (fun _ _ _ h=>h) (fun W hR=>by kernel_rfl) ?_
 refine QaA 5 (.int .i64 0) 51 rfl rfl kj kj (fun _ _ _ h=>h) (fun W hR=>(Qad 3 _ g10 33 35 _ (.int .i64 0) _ (Qaa r10_5 hR) rfl kj (Qam [ints .u8 (grp),#[.int .i64 0]] [#[.int .i64 0]] [#[.int .i64 0],#[.slice a_s fs.length c_s]] 33 (by rw [Qac,Qac]; simp only [qS,cat,((Qat _ _).trans hgl)]; rfl) 0 _ rfl) kj)) ?_
 refine QaA 6 (.pointer (some ⟨g10,34,none⟩)) 52 rfl rfl kj kj (fun _ _ _ h=>h) (fun W hR=>by kernel_rfl) ?_
 refine QaA 7 (.int .i64 0) 53 rfl rfl kj kj (fun _ _ _ h=>h) (fun W hR=>(Qad 3 _ g10 34 35 _ (.int .i64 0) _ (Qaa r10_5 hR) rfl kj (Qam [ints .u8 (grp),#[.int .i64 0],#[.int .i64 0]] [#[.int .i64 0]] [#[.slice a_s fs.length c_s]] 34 (by rw [Qac,Qac,Qac]; simp only [qS,cat,((Qat _ _).trans hgl)]; rfl) 0 _ rfl) kj)) ?_
 refine Qft 8 12 3 rfl rfl kj kj kj 54 9 rfl rfl kj (fun _=>kj) (fun W=>ChSt cg cm s0 [] 0 [] W) Ext (fun u W=>ChSt cg cm s0 [] 0 [] W∧QbA W5.heap.size 0 (keyV (itV s0 0)) u W) (fun v W=>∃ g,v=.pointer (some ⟨g,0,none⟩)∧W5.heap.size≤g∧W.heap[g]? = some (.cells (cat [#[.int .i64 0],ints .u8 (zad 32 0),#[.slice none 0 0]]) 60)) (fun u=>[(56,.nilIface),(55,u),(45,.tuple #[u,.nilIface])]) _ _ _ rfl kj (fun u x hx=>by simp only [zaf,zag,or_false] at hx; rcases hx with rfl | rfl | rfl; exact (by decide:(56:Nat)≠9); exact (by decide:(55:Nat)≠9); exact (by decide:(45:Nat)≠9)) (by decide) (fun _ _ e h=>h.ext e) (fun _ _ h e=>zbk h e) (fun _ _ _ e h=>⟨h.1.ext e,QbA.ext h.2 e⟩) (fun _ _ _ _ hK h=>by obtain ⟨g,a1,a2,a3⟩:=h; exact ⟨g,a1,a2,Qaa a3 hK⟩) (fun W hR hP=>⟨24,#[.pointer (some ⟨gc,0,none⟩),.int .i64 0,.int .i64 0],by kernel_rfl,(show Calls Tryd.prog 24 #[.pointer (some ⟨gc,0,none⟩),.int .i64 0,.int .i64 0] W _ from Qmd gc gl len cap lp W (Qaa r3_5 hR) (Qaa r4_5 hR) cg 0 hi hli tc tq (Qaa r5_5 hR) (Qaa r6_5 hR) hP 0 (by decide)).mono (by rintro e W' ⟨v,rfl,k1,u,rfl,k3⟩; exact ⟨u,rfl,zbk hR k1,k1,hP.ext k1,QbA.base hR.size k3⟩)⟩) (fun L' W hR=>⟨_,_,(by kernel_rfl:_=zai (Next.value (.pointer (some ⟨W.heap.size,0,none⟩))) (W.alloc (.cells (cat [#[.int .i64 0],ints .u8 (zad 32 0),#[.slice none 0 0]]) 60))),Qbb _ _,_,rfl,hR.size,heap_alloc_new _ _⟩) (hch0a.ext eWsa) (fun u W hR kk=>by refine QaA 9 (.tuple #[u,.nilIface]) 45 rfl rfl kj kj (fun _ _ _ h=>h) (fun W hR=>by kernel_rfl) ?_; refine QaA 10 (u) 55 rfl rfl kj kj (fun _ _ _ h=>h) (fun W hR=>by kernel_rfl) ?_; refine QaA 11 (.nilIface) 56 rfl rfl kj kj (fun _ _ _ h=>h) (fun W hR=>by kernel_rfl) ?_; exact QcP 12 kj kk) (fun u v2 W hR kk=>by refine QaA 9 (.tuple #[u,.nilIface]) 45 rfl rfl kj kj (fun _ _ _ h=>h) (fun W hR=>by kernel_rfl) ?_; refine QaA 10 (u) 55 rfl rfl kj kj (fun _ _ _ h=>h) (fun W hR=>by kernel_rfl) ?_; refine QaA 11 (.nilIface) 56 rfl rfl kj kj (fun _ _ _ h=>h) (fun W hR=>by kernel_rfl) ?_; exact kk) fun u1 v2 W6 q1 q2 e6=>?_
 obtain ⟨hch2a,uo,rfl,hua⟩:=q1
 obtain ⟨g7a,rfl,l7a,r7a_6⟩:=q2
 obtain ⟨a_na,c_na,rfl,-⟩:=id (zbo hua)
 have nb7a:=QiT hua r7a_6 (by decide)
 have x6:Ext w W6:=zbk x5 e6
 have b7a:w.heap.size≤g7a:=qT x5.size l7a
 refine QcP 13 kj (Qd3 g7a _ (cat [#[.int .i64 0],ints .u8 ((keyV (itV s0 0)).take 32),#[.slice a_na (((keyV (itV s0 0)).drop 32).length) c_na]]) 60 r7a_6 rfl rfl kj (Qao 60 _ _ g7a 60 _ _ r7a_6 rfl kj kj (isz (n:=34) kj (by rw [Qac,Qac,Qac]; simp only [qS,cat,((Qat _ _).trans (QaX (QaI _)))]; rfl)) (eqsz (n:=34) (by rw [Qac,Qac,Qac]; simp only [qS,cat,((Qat _ _).trans (qZ (n:=32)))]; rfl) (by rw [Qac,Qac,Qac]; simp only [qS,cat,((Qat _ _).trans (QaX (QaI _)))]; rfl)) (Qbn _ (by intro a ha; simp only [zaf,zag,or_false] at ha; rcases ha with rfl | rfl | rfl; exact (Qa6 _ rfl); exact (Qay _ _); exact (Qa6 _ rfl)))) (fun W' p=>zbj p e6 l7a) fun W7 p7 r7a_7=>?_)
 have hu2a:=Qd8 hua p7 nb7a
 have hch3a:=hch2a.keep (p7.2.2.2.2 cg (zaj (qL hcg0a l7a))) (p7.2.2.2.2 cm (zaj (qL hcm0a l7a)))
 have x7:Ext w W7:=zbj p7 x6 b7a
 refine QaA 14 (.nilIface) 10 rfl rfl kj kj (fun _ _ _ h=>h) (fun W hR=>by kernel_rfl) ?_
 refine QeT kj ?_
 refine hK25 _ _ ?_
 refine wp_seq_k fun K27 hK27=>?_
 refine wp_seq_k fun K28 hK28=>?_
 refine Qae ?_
 refine Qab (.nilIface) 57 rfl kj kj ?_
 refine Qab (.bool false) 58 rfl kj kj ?_
 refine Qal ?_
 refine hK28 _ _ ?_
 refine cond_false kj ?_
 refine wp_skip ?_
 refine hK27 _ _ ?_
 refine wp_seq_k fun K29 hK29=>?_
 refine Wk.any_regionEZ 9 [⟨none,[(9,none)]⟩,⟨none,[(61,some 0)]⟩,⟨none,[(9,none)]⟩,⟨none,[(63,some 2)]⟩,⟨none,[(3,none)]⟩,⟨none,[(65,some 4)]⟩,⟨none,[(3,none)]⟩,⟨none,[(67,some 6)]⟩,⟨none,[(62,some 1),(64,some 3),(66,some 5),(68,some 7)]⟩] kj kj fun F hF=>?_
 refine Qa8 (Qas _) (.pointer (some ⟨g7a,1,none⟩)) kj kj (fun W=>by kernel_rfl) ?_
 refine Qbc (Qas _) (.agg (ints .u8 ((keyV (itV s0 0)).take 32))) kj kj (fun W hR=>(Qa0 58 _ g7a 1 60 _ _ _ (Qaa (Qaa r7a_7 (Qaj _)) hR) rfl kj (Qam [#[.int .i64 0]] [ints .u8 ((keyV (itV s0 0)).take 32)] [#[.slice a_na (((keyV (itV s0 0)).drop 32).length) c_na]] 1 kj) kj (isz (n:=32) kj ((Qat _ _).trans (QaX (QaI _)))))) ?_
 refine Qa8 (Qas _) (.pointer (some ⟨g7a,33,none⟩)) kj kj (fun W=>by kernel_rfl) ?_
 refine Qbc (Qas _) (.slice a_na (((keyV (itV s0 0)).drop 32).length) c_na) kj kj (fun W hR=>(Qad 33 _ g7a 33 60 _ (.slice a_na (((keyV (itV s0 0)).drop 32).length) c_na) _ (Qaa (Qaa r7a_7 (Qaj _)) hR) rfl kj (Qam [#[.int .i64 0],ints .u8 ((keyV (itV s0 0)).take 32)] [#[.slice a_na (((keyV (itV s0 0)).drop 32).length) c_na]] [] 33 (by rw [Qac,Qac]; simp only [qS,cat,((Qat _ _).trans (QaX (QaI _)))]; rfl) 0 _ rfl) kj)) ?_
 have r10_6:=(Qaa r10_5 e6)
 have r10_7:=(zbi p7 r10_6 (zaj (qL (Qaq r10_5) l7a)))
 refine Qbc (Qas _) (.agg (cat [ints .u8 (grp),#[.int .i64 0],#[.int .i64 0],#[.int .i64 0],#[.slice a_s fs.length c_s]])) kj kj (fun W hR=>(Qap 35 _ g10 35 _ _ (Qaa (Qaa r10_7 (Qaj _)) hR) rfl kj kj (isz (n:=36) kj (by rw [Qac,Qac,Qac,Qac,Qac]; simp only [qS,cat,((Qat _ _).trans hgl)]; rfl)))) ?_
 refine QdP (Qas _) (OwnN .u8 5 W7.heap.size (grp++[0,0,0,0]++[0]++[0,0,0,0])) (OwnN.stable _ _ _ _) 21 #[.agg (cat [ints .u8 (grp),#[.int .i64 0],#[.int .i64 0],#[.int .i64 0],#[.slice a_s fs.length c_s]])] kj kj (fun W=>by kernel_rfl) (fun W hR=>((QgS grp hgl _ _ _ _).mono fun e W2 hg=>by obtain ⟨v2,e1,e2,e3⟩:=hg; exact ⟨v2,e1,e2,zbn (zbh (Qaj _) hR).size e3⟩)) ?_
 refine Qa8 (Qas _) (.pointer (some ⟨g10,35,none⟩)) kj kj (fun W=>by kernel_rfl) ?_
 refine Qbc (Qas _) (.slice a_s fs.length c_s) kj kj (fun W hR=>(Qad 33 _ g10 35 35 _ (.slice a_s fs.length c_s) _ (Qaa (Qaa r10_7 (Qaj _)) hR) rfl kj (Qam [ints .u8 (grp),#[.int .i64 0],#[.int .i64 0],#[.int .i64 0]] [#[.slice a_s fs.length c_s]] [] 35 (by rw [Qac,Qac,Qac,Qac]; simp only [qS,cat,((Qat _ _).trans hgl)]; rfl) 0 _ rfl) kj)) ?_
 have r8_6:=(Qaa r8_5 e6)
 have r8_7:=(zbi p7 r8_6 (zaj (qL (Qaq r8_5) l7a)))
 have r7_6:=(Qaa r7_5 e6)
 have r7_7:=(zbi p7 r7_6 (zaj (qL (Qaq r7_5) l7a)))
 refine QeO (Qas _) (MixR W7.heap.size text) (Qdf _ _) 25 (fun ρ W hR hX=>?_) ?_
 ·skip
  have e62_:ρ 62=.agg (ints .u8 ((keyV (itV s0 0)).take 32)):=hX.1
  have e64_:ρ 64=.slice a_na (((keyV (itV s0 0)).drop 32).length) c_na:=hX.2.1
  have q66_:(OwnN .u8 5 W7.heap.size (grp++[0,0,0,0]++[0]++[0,0,0,0])) (ρ 66) W:=hX.2.2.1
  obtain ⟨ar66,cr66,e66_,-⟩:=id (zbo q66_)
  have rd66_:=zbo q66_
  rw [e66_] at rd66_
  have e68_:ρ 68=.slice a_s fs.length c_s:=hX.2.2.2.1
  refine ⟨#[.agg (ints .u8 ((keyV (itV s0 0)).take 32)),.slice a_na (((keyV (itV s0 0)).drop 32).length) c_na,.slice ar66 ((grp++[0,0,0,0]++[0]++[0,0,0,0]).length) cr66,.slice a_s fs.length c_s],Eq.trans (b:=zai (Next.enter 25 #[ρ 62,ρ 64,ρ 66,ρ 68]) W) kj (by rw [e62_,e64_,e66_,e68_]),?_⟩
  exact ((QlY ((keyV (itV s0 0)).take 32) ((keyV (itV s0 0)).drop 32) (grp++[0,0,0,0]++[0]++[0,0,0,0]) text fs es _ _ _ _ _ _ th tr W (Qaa (Qaa r8_7 (Qaj _)) hR) (Qaa (Qaa r7_7 (Qaj _)) hR) (QaX (QaI _)) (RdK.ext (zbo hu2a) (zbh (Qaj _) hR)) rd66_ (RdK.ext (hst _ x7) (zbh (Qaj _) hR)) hctxb htb hnl (by simp [hgl]) (by omega)).mono fun e W2 hg=>by obtain ⟨v2,e1,e2,u,e3,e4⟩:=hg; exact ⟨v2,e1,e2,u,e3,e4.base (zbh (Qaj _) hR).size⟩)
 refine QcO (hF _ fun W8 e8=>?_)
 simp only [zak,zal,zam,zan,zao,zap,finE,up]
 intro vv30 hv30 vv31 hv31
 clear hF
 have x8:Ext w W8:=zbk x7 e8
 obtain ⟨a32_,c32_,rfl,-⟩:=id (zbo hv30)
 obtain ⟨uu33,rfl,huu33⟩:=hv31
 obtain ⟨au33,cu33,rfl,-⟩:=id (zbo huu33)
 refine (show Wk.WZ _ _ _ 5 #[true,true,true,true,true,true,true,true,true,false,false,false,false,false] _ _ from ?_)
 refine Wk.wz_val 9 (.tuple #[.slice au33 ((text).length) cu33,.nilIface]) 60 rfl rfl kj kj (fun _ _ _ h=>h) (fun W=>by kernel_rfl) ?_
 refine Wk.wz_val 10 (.slice au33 ((text).length) cu33) 70 rfl rfl kj kj (fun _ _ _ h=>h) (fun W=>by kernel_rfl) ?_
 refine Wk.wz_val 11 (.nilIface) 71 rfl rfl kj kj (fun _ _ _ h=>h) (fun W=>by kernel_rfl) ?_
 refine Wk.wz_val 12 (.slice au33 ((text).length) cu33) 11 rfl rfl kj kj (fun _ _ _ h=>h) (fun W=>by kernel_rfl) ?_
 refine Wk.wz_val 13 (.nilIface) 10 rfl rfl kj kj (fun _ _ _ h=>h) (fun W=>by kernel_rfl) ?_
 refine Wk.wz_nil kj ?_
 refine hK29 _ _ ?_
 refine wp_seq_k fun K34 hK34=>?_
 refine wp_seq_k fun K35 hK35=>?_
 refine Qae ?_
 refine Qab (.nilIface) 72 rfl kj kj ?_
 refine Qab (.bool false) 73 rfl kj kj ?_
 refine Qal ?_
 refine hK35 _ _ ?_
 refine cond_false kj ?_
 refine wp_skip ?_
 refine hK34 _ _ ?_
 refine wp_seq_k fun K36 hK36=>?_
 refine wp_seq_k fun K37 hK37=>?_
 have r1_6:=(Qaa r1_5 e6)
 have r1_7:=(zbi p7 r1_6 (zaj (qL (Qaq r1_5) l7a)))
 have r1_8:=(Qaa r1_7 e8)
 have r2_6:=(Qaa r2_5 e6)
 have r2_7:=(zbi p7 r2_6 (zaj (qL (Qaq r2_5) l7a)))
 have r2_8:=(Qaa r2_7 e8)
 have r3_6:=(Qaa r3_5 e6)
 have r3_7:=(zbi p7 r3_6 (zaj (qL (Qaq r3_5) l7a)))
 have r3_8:=(Qaa r3_7 e8)
 have r4_6:=(Qaa r4_5 e6)
 have r4_7:=(zbi p7 r4_6 (zaj (qL (Qaq r4_5) l7a)))
 have r4_8:=(Qaa r4_7 e8)
 have r5_6:=(Qaa r5_5 e6)
 have r5_7:=(zbi p7 r5_6 (zaj (qL (Qaq r5_5) l7a)))
 have r5_8:=(Qaa r5_7 e8)
 have r6_6:=(Qaa r6_5 e6)
 have r6_7:=(zbi p7 r6_6 (zaj (qL (Qaq r6_5) l7a)))
 have r6_8:=(Qaa r6_7 e8)
 have r7_8:=(Qaa r7_7 e8)
 have r8_8:=(Qaa r8_7 e8)
 have r10_8:=(Qaa r10_7 e8)
 have y7_8:Ext W7 W8:=(zbh (zbg W7) e8)
 have hch0b:ChSt cg cm s0 [] 0 [] W8:=hch3a.ext y7_8
 have hcg0b:=hch0b.glt
 have hcm0b:=hch0b.mp.lt
 refine QbO (fun W=>Qaf [cg,cm] W8 W) kj fun Wsb eWsb=>⟨zbr (zbp _ _) eWsb,?_⟩
 refine QaA 0 (.pointer (some ⟨ge,0,none⟩)) 76 rfl rfl kj kj (fun _ _ _ h=>h) (fun W hR=>by kernel_rfl) ?_
 refine QaA 1 (.pointer (some ⟨ge,0,none⟩)) 77 rfl rfl kj kj (fun _ _ _ h=>h) (fun W hR=>by kernel_rfl) ?_
 refine QaA 2 (.pointer (some ⟨ge,0,none⟩)) 78 rfl rfl kj kj (fun _ _ _ h=>h) (fun W hR=>by kernel_rfl) ?_
 refine QaA 3 (.pointer (some ⟨gc,0,none⟩)) 79 rfl rfl kj kj (fun _ _ _ h=>h) (fun W hR=>(Qad 53 _ ge 0 55 _ (.pointer (some ⟨gc,0,none⟩)) _ (zbq hR r2_8 (nin r2_8 hch0b (by decide))) rfl kj (Qam [] [#[.pointer (some ⟨gc,0,none⟩)]] [ints .u8 (grp),#[.int .i64 0],#[.int .i64 1],tl] 0 kj 0 _ rfl) kj)) ?_
 refine QaA 4 (.pointer (some ⟨g10,33,none⟩)) 80 rfl rfl kj kj (fun _ _ _ h=>h) (fun W hR=>by kernel_rfl) ?_
 refine QaA 5 (.int .i64 0) 81 rfl rfl kj kj (fun _ _ _ h=>h) (fun W hR=>(Qad 3 _ g10 33 35 _ (.int .i64 0) _ (zbq hR r10_8 (nin r10_8 hch0b (by decide))) rfl kj (Qam [ints .u8 (grp),#[.int .i64 0]] [#[.int .i64 0]] [#[.int .i64 0],#[.slice a_s fs.length c_s]] 33 (by rw [Qac,Qac]; simp only [qS,cat,((Qat _ _).trans hgl)]; rfl) 0 _ rfl) kj)) ?_
 refine QaA 6 (.pointer (some ⟨g10,34,none⟩)) 82 rfl rfl kj kj (fun _ _ _ h=>h) (fun W hR=>by kernel_rfl) ?_
 refine QaA 7 (.int .i64 0) 83 rfl rfl kj kj (fun _ _ _ h=>h) (fun W hR=>(Qad 3 _ g10 34 35 _ (.int .i64 0) _ (zbq hR r10_8 (nin r10_8 hch0b (by decide))) rfl kj (Qam [ints .u8 (grp),#[.int .i64 0],#[.int .i64 0]] [#[.int .i64 0]] [#[.slice a_s fs.length c_s]] 34 (by rw [Qac,Qac,Qac]; simp only [qS,cat,((Qat _ _).trans hgl)]; rfl) 0 _ rfl) kj)) ?_
 refine Qft 8 12 3 rfl rfl kj kj kj 84 12 rfl rfl kj (fun _=>kj) (fun W=>ChSt cg cm s0 [] 0 [] W) (Qaf [cg,cm]) (fun u W=>ChSt cg cm s0 [0] 1 (QcG [] s0 0 0) W∧QbA W8.heap.size 0 (keyV (itV s0 0)) u W) (fun v W=>∃ g,v=.pointer (some ⟨g,0,none⟩)∧W8.heap.size≤g∧W.heap[g]? = some (.cells (cat [#[.int .i64 0],ints .u8 (zad 32 0),#[.slice none 0 0]]) 60)) (fun u=>[(86,.nilIface),(85,u),(75,.tuple #[u,.nilIface])]) _ _ _ rfl kj (fun u x hx=>by simp only [zaf,zag,or_false] at hx; rcases hx with rfl | rfl | rfl; exact (by decide:(86:Nat)≠12); exact (by decide:(85:Nat)≠12); exact (by decide:(75:Nat)≠12)) (by decide) (fun _ _ e h=>h.ext e) (fun _ _ h e=>zbr h e) (fun _ _ _ e h=>⟨h.1.ext e,QbA.ext h.2 e⟩) (fun _ _ _ _ hK h=>by obtain ⟨g,a1,a2,a3⟩:=h; exact ⟨g,a1,a2,zbq hK a3 (Qax (zah (qL hcg0b a2)) (Qax (zah (qL hcm0b a2)) QaE))⟩) (fun W hR hP=>⟨26,#[.pointer (some ⟨gc,0,none⟩),.int .i64 0,.int .i64 0],by kernel_rfl,(show Calls Tryd.prog 26 #[.pointer (some ⟨gc,0,none⟩),.int .i64 0,.int .i64 0] W _ from Qjr gc gl len cap lp W (zbq hR r3_8 (nin r3_8 hch0b (by decide))) (zbq hR r4_8 (nin r4_8 hch0b (by decide))) cg 0 hi hli tc tq (zbq hR r5_8 hNc) (zbq hR r6_8 hNq) hP 0 (by decide) (fun e=>hNc (by simp [←e])) (fun e=>hNq (by simp [←e]))).mono (by rintro e W' ⟨u,rfl,k1,k2,k3⟩; exact ⟨u,rfl,zbs hR k1 (fun c hc=>.inl hc),k1,k2,QbA.base (Qaf.size hR) k3⟩)⟩) (fun L' W hR=>⟨_,_,(by kernel_rfl:_=zai (Next.value (.pointer (some ⟨W.heap.size,0,none⟩))) (W.alloc (.cells (cat [#[.int .i64 0],ints .u8 (zad 32 0),#[.slice none 0 0]]) 60))),Qbb _ _,_,rfl,Qaf.size hR,heap_alloc_new _ _⟩) (hch0b.ext eWsb) (fun u W hR kk=>by refine QaA 9 (.tuple #[u,.nilIface]) 75 rfl rfl kj kj (fun _ _ _ h=>h) (fun W hR=>by kernel_rfl) ?_; refine QaA 10 (u) 85 rfl rfl kj kj (fun _ _ _ h=>h) (fun W hR=>by kernel_rfl) ?_; refine QaA 11 (.nilIface) 86 rfl rfl kj kj (fun _ _ _ h=>h) (fun W hR=>by kernel_rfl) ?_; exact QcP 12 kj kk) (fun u v2 W hR kk=>by refine QaA 9 (.tuple #[u,.nilIface]) 75 rfl rfl kj kj (fun _ _ _ h=>h) (fun W hR=>by kernel_rfl) ?_; refine QaA 10 (u) 85 rfl rfl kj kj (fun _ _ _ h=>h) (fun W hR=>by kernel_rfl) ?_; refine QaA 11 (.nilIface) 86 rfl rfl kj kj (fun _ _ _ h=>h) (fun W hR=>by kernel_rfl) ?_; exact kk) fun u1 v2 W9 q1 q2 q9=>?_
 obtain ⟨hch2b,uo,rfl,hub⟩:=q1
 obtain ⟨g7b,rfl,l7b,r7b_9⟩:=q2
 obtain ⟨a_nb,c_nb,rfl,-⟩:=id (zbo hub)
 have nb7b:=QiT hub r7b_9 (by decide)
 refine QcP 13 kj (Qd3 g7b _ (cat [#[.int .i64 0],ints .u8 ((keyV (itV s0 0)).take 32),#[.slice a_nb (((keyV (itV s0 0)).drop 32).length) c_nb]]) 60 r7b_9 rfl rfl kj (Qao 60 _ _ g7b 60 _ _ r7b_9 rfl kj kj (isz (n:=34) kj (by rw [Qac,Qac,Qac]; simp only [qS,cat,((Qat _ _).trans (QaX (QaI _)))]; rfl)) (eqsz (n:=34) (by rw [Qac,Qac,Qac]; simp only [qS,cat,((Qat _ _).trans (qZ (n:=32)))]; rfl) (by rw [Qac,Qac,Qac]; simp only [qS,cat,((Qat _ _).trans (QaX (QaI _)))]; rfl)) (Qbn _ (by intro a ha; simp only [zaf,zag,or_false] at ha; rcases ha with rfl | rfl | rfl; exact (Qa6 _ rfl); exact (Qay _ _); exact (Qa6 _ rfl)))) (fun W' p=>Qaf.puts q9 p (.inr l7b)) fun W10 p10 r7b_10=>?_)
 have hu2b:=Qd8 hub p10 nb7b
 have hch3b:=hch2b.keep (p10.2.2.2.2 cg (zaj (qL hcg0b l7b))) (p10.2.2.2.2 cm (zaj (qL hcm0b l7b)))
 have hKb:Qaf [cg,cm] W8 W10:=Qaf.puts q9 p10 (.inr l7b)
 have hKwb:Qaf [cg,cm] w W10:=zbs (zbr (zbp _ _) x8) hKb (fun c hc=>.inl hc)
 have rkb1:=zbi p10 (zbq q9 r1_8 (nin r1_8 hch0b (by decide))) (zaj (qL (Qaq r1_8) l7b))
 have rkb2:=zbi p10 (zbq q9 r2_8 (nin r2_8 hch0b (by decide))) (zaj (qL (Qaq r2_8) l7b))
 have rkb3:=zbi p10 (zbq q9 r3_8 (nin r3_8 hch0b (by decide))) (zaj (qL (Qaq r3_8) l7b))
 have rkb4:=zbi p10 (zbq q9 r4_8 (nin r4_8 hch0b (by decide))) (zaj (qL (Qaq r4_8) l7b))
 have rkb5:=zbi p10 (zbq q9 r5_8 hNc) (zaj (qL (Qaq r5_8) l7b))
 have rkb6:=zbi p10 (zbq q9 r6_8 hNq) (zaj (qL (Qaq r6_8) l7b))
 have rkb7:=zbi p10 (zbq q9 r7_8 hNr) (zaj (qL (Qaq r7_8) l7b))
 have rkb8:=zbi p10 (zbq q9 r8_8 hNh) (zaj (qL (Qaq r8_8) l7b))
 have rkb10:=zbi p10 (zbq q9 r10_8 (nin r10_8 hch0b (by decide))) (zaj (qL (Qaq r10_8) l7b))
 refine QaA 14 (.nilIface) 13 rfl rfl kj kj (fun _ _ _ h=>h) (fun W hR=>by kernel_rfl) ?_
 refine QeT kj ?_
 refine hK37 _ _ ?_
 refine wp_seq_k fun K39 hK39=>?_
 refine Qae ?_
 refine Qab (.nilIface) 87 rfl kj kj ?_
 refine Qab (.bool false) 88 rfl kj kj ?_
 refine Qal ?_
 refine hK39 _ _ ?_
 refine cond_false kj ?_
 refine wp_skip ?_
 refine hK36 _ _ ?_
 refine wp_seq_k fun K40 hK40=>?_
 refine Qae ?_
 refine Qab (.slice au33 ((text).length) cu33) 90 rfl kj kj ?_
 refine Qab (.slice au33 ((text).length) cu33) 4 rfl kj kj ?_
 refine Qab (.nilIface) 5 rfl kj kj ?_
 refine Qal ?_
 refine hK40 _ _ ?_
 refine wp_ret ?_
 exact (show bodyPost _ _ _ .ret _ _ from ret2 (.slice au33 ((text).length) cu33) (.nilIface) rfl (Qaz kj) (Qaz kj) ⟨_,rfl,hKwb,hch3b,zbn x7.size (Qhn huu33 hKb (QbP huu33 (qL hch.glt x7.size)) (QbP huu33 (qL hch.mp.lt x7.size)))⟩)
end Pk
end
section
namespace Pk
open Go Go.RowKit
open Rely Auto Own Sha
open Cha
open Ae hiding run_storeQ
open Cn hiding nb_new run_extractT
open Wk
theorem QnS {n : Nat} (h:n<4294967296):Wr.okN ((n:Nat):Int) 4=true:=by
  unfold Wr.okN
  have h1:((n:Nat):Int).fdiv (2^(8*4))=0:=by
    rw [zaq _ (by decide)]
    exact zar (by omega) (by show ((n:Nat):Int)<4294967296; omega)
  rw [h1]
  simp
theorem Qd6 (grp fs:List Int) (ep nu:Nat) (hep:ep<4294967296) (hnu:nu<4294967296) (hg:grp.length=32) (hf:fs.length≤1040):∃ xs,Wr.packS (some []) grp ((ep:Nat):Int) 0 ((nu:Nat):Int) fs=some xs:=by
  unfold Wr.packS Wr.leafS Wr.bytS
  rw [Qdt (by simp [hg])]
  obtain ⟨y1,l1,e1⟩:=Qcy (n:=((ep:Nat):Int)) (k:=4) (xs:=[]++grp) (QnS hep) (by simp [hg])
  rw [e1]
  obtain ⟨y2,l2,e2⟩:=Qcy (n:=0) (k:=1) (xs:=y1) (by decide) (by rw [l1]; simp [hg])
  rw [show Wr.mustS (some y1) (decide ((0:Int)<32))=some y1 from rfl,e2]
  obtain ⟨y3,l3,e3⟩:=Qcy (n:=((nu:Nat):Int)) (k:=4) (xs:=y2) (QnS hnu) (by rw [l2,l1]; simp [hg])
  rw [e3]
  obtain ⟨y4,l4,e4⟩:=Qcy (n:=((fs.length:Nat):Int)) (k:=2) (xs:=y3) (QjL hf) (by rw [l3,l2,l1]; simp [hg])
  rw [e4]
  exact ⟨_,Qdt (by rw [l4,l3,l2,l1]; simp [hg]; omega)⟩
set_option maxRecDepth 100000 in
theorem QnL (ep nu:Nat) (hep:ep<4294967296) (hnu:nu<4294967296) (gb ge ce gc n:Nat) (grp:List Int) (hgl:grp.length=32) (w:World) (hgb:w.heap[gb]? = some (.cells (cat [#[.slice (some ⟨ge,0,none⟩) n ce],#[.bool false]]) 49)) (hn:1≤n∧n≤4) (es:List Ep) (hel:es.length=n) (cur:Array Value) (hge:w.heap[ge]? = some (.cells cur 55)) (hpt:AtE cur es) (hgr:∀ e∈es,e.grp=grp) (j o:Nat) (ho:o=35*j) (lf:Int) (hej:es[j]? = some ⟨gc,grp,((ep:Nat):Int),lf⟩) (hlt:∀ (i:Nat) (e:Ep),i<j→es[i]? = some e→e.num≠((ep:Nat):Int)) (hlf:lf≠0) (gl len cap:Nat) (lp:Array Value) (hgc:w.heap[gc]? = some (.cells #[.slice (some ⟨gl,0,none⟩) len cap] 71)) (hgl_:w.heap[gl]? = some (.cells lp 73)) (cg cm:Nat) (hi:0<len) (hli:lp[0]? = some (.pointer (some ⟨cg,0,none⟩))) (pl:Nat) (s0 ts:List Int) (ms:List (Int×List Int)) (hch:ChSt cg cm s0 ts pl ms w) (he:chkN ts pl ((nu:Nat):Int)=0) (tc tq th tr:TypeId) (hc:w.heap[4]? = some (.cells (ints .u64 QaR) tc)) (hq:w.heap[3]? = some (.cells (ints .u64 Qa9) tq)) (hr4:w.heap[1]? = some (.cells (ints .i64 qQ) tr)) (hh4:w.heap[0]? = some (.cells (ints .u32 qH) th)) (hNc:4∉[cg,cm]) (hNq:3∉[cg,cm]) (hNr:1∉[cg,cm]) (hNh:0∉[cg,cm]) (text fs:List Int) (htl:text.length≤1024) (htb:Qai text) (es_:QcS ((keyV (itV s0 nu)).take 32) ((keyV (itV s0 nu)).drop 32) (grp++hdV ep++[0]++hdV nu) text=fs) (hgrb:Qai grp) (v:Value) (hst:∀ W,Ext w W→RdK .u8 W.heap.size fs v W) :
  Calls Tryd.prog 9 #[.pointer (some ⟨gb,0,none⟩),.agg (cat [ints .u8 grp,#[.int .i64 ((ep:Nat):Int)],#[.int .i64 0],#[.int .i64 ((nu:Nat):Int)],#[v]])] w (fun x W=>∃ u,x=.returned (.tuple #[u,.nilIface])∧Qaf [cg,cm] w W∧ChSt cg cm s0 (ts++[((nu:Nat):Int)]) (max pl (nu+1)) (QcG ms s0 pl nu) W∧OwnN .u8 5 w.heap.size text u W):=by
 obtain ⟨o9,ho9⟩:∃ o9,o9+35=35*n:=⟨35*n-35,by omega⟩
 have hjn:j<n:=by have:=(zav.1 hej).1; omega
 obtain ⟨P,tl,hP,rfl⟩:=hpt j _ hej
 rw [←ho] at hP
 have hfl:fs.length=text.length+16:=by rw [←es_]; exact Qcx _ _ _ _
 have hfb:Qai fs:=es_▸Qc7 _ _ _ _
 have hctxb:Qai (grp++hdV ep++[0]++hdV nu):=fun x hx=>by
  simp only [zaa,zab] at hx
  rcases hx with h | h | h | h
  ·exact hgrb x h
  ·exact QdY ep x h
  ·obtain rfl:x=0:=by simpa using h
   exact ⟨by decide,by decide⟩
  ·exact QdY nu x h
 have hnl:((keyV (itV s0 nu)).drop 32).length=12:=by rw [zac,QaI]
 obtain ⟨a_s,c_s,rfl,-⟩:=id (hst _ (zbg _))
 obtain ⟨xs,hxs⟩:=Qd6 grp fs ep nu hep hnu hgl (by omega)
 refine enter 91 [(0,.pointer (some ⟨gb,0,none⟩)),(1,.agg (cat [ints .u8 (grp),#[.int .i64 ((ep:Nat):Int)],#[.int .i64 0],#[.int .i64 ((nu:Nat):Int)],#[.slice a_s fs.length c_s]]))] Tryd.func9 rfl rfl kj rfl <| sgC fun K9 hK9=>Qar (cat [ints .u8 (grp),#[.int .i64 ((ep:Nat):Int)],#[.int .i64 0],#[.int .i64 ((nu:Nat):Int)],#[.slice a_s fs.length c_s]]) 35 3 rfl kj kj fun g10 W1 l10 e1 r10_1=>?_
 have b10:=qT (zbg w).size l10
 refine sg 2 kj <| sgN hK9 <| wp_seq_k fun K11 hK11=>sgC fun K12 hK12=>sg 1 kj ?_
 have r1_1:=(Qaa hgb e1)
 refine Qau (.pointer (some ⟨ge,o9,none⟩)) 16 #[.pointer (some ⟨gb,0,none⟩)] 15 rfl kj kj (QcX gb ge ce n o9 _ r1_1 hn ho9) fun W2 e2=>?_
 have x2:=zbk (zbk (zbg w) e1) e2
 refine sg 1 kj <| sgN hK12 <| cond_false kj <| wp_skip <| hK11 _ _ <| wp_seq_k fun K13 hK13=>sgC fun K14 hK14=>?_
 have r10_2:=(Qaa r10_1 e2)
 refine Qab (.agg (cat [ints .u8 (grp),#[.int .i64 ((ep:Nat):Int)],#[.int .i64 0],#[.int .i64 ((nu:Nat):Int)],#[.slice a_s fs.length c_s]])) 19 rfl kj (Qap 35 _ g10 35 _ _ r10_2 rfl kj kj (isz (n:=36) kj (by rw [Qac,Qac,Qac,Qac,Qac]; simp only [qS,cat,(izT hgl)]; rfl))) ?_
 refine Qav (fun v W'=>(Wr.PutR W2.heap.size (some xs)) v W'∧Ext W2 W') 22 #[.agg (cat [ints .u8 (grp),#[.int .i64 ((ep:Nat):Int)],#[.int .i64 0],#[.int .i64 ((nu:Nat):Int)],#[.slice a_s fs.length c_s]])] 20 rfl kj kj ((Wr.PutPacket_S grp ((ep:Nat):Int) 0 ((nu:Nat):Int) fs a_s c_s _ hgl hgrb (by omega) hfb (hst _ x2) xs hxs).mono (by rintro e w' ⟨v,rfl,e1,hv⟩; exact ⟨v,rfl,hv,e1⟩)) fun vv16 W3 hh16=>?_
 obtain ⟨hv16,e3⟩:=hh16
 obtain ⟨pu15,rfl,hpu15⟩:=hv16
 refine sg 5 kj <| sgN hK14 <| sgB kj <| cond_false kj <| wp_skip <| hK13 _ _ <| wp_seq_k fun K18 hK18=>sgC fun K19 hK19=>sg 1 kj ?_
 have r10_3:=(Qaa r10_2 e3)
 refine Qab (.slice a_s fs.length c_s) 27 rfl kj (Qad 33 _ g10 35 35 _ (.slice a_s fs.length c_s) _ r10_3 rfl kj (Qam [ints .u8 (grp),#[.int .i64 ((ep:Nat):Int)],#[.int .i64 0],#[.int .i64 ((nu:Nat):Int)]] [#[.slice a_s fs.length c_s]] [] 35 (by rw [Qac,Qac,Qac,Qac]; simp only [qS,cat,(izT hgl)]; rfl) 0 _ rfl) kj) ?_
 refine sg 1 kj <| Qab (.bool false) 29 rfl kj (Qah (u:=.bool (decide (((fs.length:Nat):Int)>1040))) kj (congrArg zae (decide_eq_false (by omega)))) <| sgN hK19 <| cond_false kj <| wp_skip <| hK18 _ _ <| sgC fun K20 hK20=>sg 1 kj <| Qab (.agg (cat [ints .u8 (grp),#[.int .i64 ((ep:Nat):Int)],#[.int .i64 0],#[.int .i64 ((nu:Nat):Int)],#[.slice a_s fs.length c_s]])) 32 rfl kj (Qap 35 _ g10 35 _ _ r10_3 rfl kj kj (isz (n:=36) kj (by rw [Qac,Qac,Qac,Qac,Qac]; simp only [qS,cat,(izT hgl)]; rfl))) ?_
 have r1_3:=(Qaa (Qaa r1_1 e2) e3)
 have r2_3:=(Qaa (Qaa (Qaa hge e1) e2) e3)
 refine Qau (.pointer (some ⟨ge,o,none⟩)) 23 #[.pointer (some ⟨gb,0,none⟩),.agg (cat [ints .u8 (grp),#[.int .i64 ((ep:Nat):Int)],#[.int .i64 0],#[.int .i64 ((nu:Nat):Int)],#[.slice a_s fs.length c_s]])] 33 rfl kj kj (of_n gb ge ce n _ r1_3 grp hgl es hel hn.2 (cat [P,#[.pointer (some ⟨gc,0,none⟩)],ints .u8 (grp),#[.int .i64 ((ep:Nat):Int)],#[.int .i64 lf],tl]) r2_3 hpt hgr ep nu a_s _ c_s j (zaw hjn) hlt _ (.inr ⟨_,o,hej,rfl,ho,rfl⟩)) fun W4 e4=>sg 1 kj <| sgN hK20 <| wp_seq_k fun K21 hK21=>sgB kj <| cond_false kj <| wp_skip <| hK21 _ _ <| wp_seq_k fun K23 hK23=>wp_seq_k fun K24 hK24=>?_
 refine QaL 7 [⟨none,[(3,none)]⟩,⟨none,[(37,some 0)]⟩,⟨none,[(8,none)]⟩,⟨none,[(39,some 2)]⟩,⟨none,[(40,some 3)]⟩,⟨none,[(41,some 4)]⟩,⟨none,[(38,some 1),(42,some 5)]⟩] kj kj fun F hF=>Qak (.pointer (some ⟨g10,33,none⟩)) kj kj (fun _=>kj) ?_
 have r10_4:=(Qaa r10_3 e4)
 refine Qa7 (.int .i64 0) kj kj (fun W hR=>(Qad 3 _ g10 33 35 _ (.int .i64 0) _ (Qaa (Qaa r10_4 (Qaj _)) hR) rfl kj (Qam [ints .u8 (grp),#[.int .i64 ((ep:Nat):Int)]] [#[.int .i64 0]] [#[.int .i64 ((nu:Nat):Int)],#[.slice a_s fs.length c_s]] 33 (by rw [Qac,Qac]; simp only [qS,cat,(izT hgl)]; rfl) 0 _ rfl) kj)) ?_
 refine Qak (.pointer (some ⟨ge,o,none⟩)) kj kj (fun _=>kj) <| Qak (.pointer (some ⟨ge,o,none⟩)) kj kj (fun _=>kj) <| Qak (.pointer (some ⟨ge,(o+34),none⟩)) kj kj (fun _=>kj) ?_
 have r2_4:=(Qaa r2_3 e4)
 refine Qa7 (.int .i64 lf) kj kj (fun W hR=>(Qad 3 _ ge (o+34) 55 _ (.int .i64 lf) _ (Qaa (Qaa r2_4 (Qaj _)) hR) rfl kj (Qam [P,#[.pointer (some ⟨gc,0,none⟩)],ints .u8 (grp),#[.int .i64 ((ep:Nat):Int)]] [#[.int .i64 lf]] [tl] (o+34) (by rw [Qac,Qac,Qac,Qac]; simp only [qS,cat,(izT hgl),hP]; rfl) 0 _ rfl) kj)) ?_
 refine Qak (.bool false) kj kj (fun W=>(Qah (u:=.bool ((0==lf))) kj (congrArg zae (decide_eq_false (by omega))))) <| QaQ (hF _ kj fun W5 e5=>?_)
 simp only [ups,up,Kn.val,zam,zan,zao,zap,zak,zal]
 clear hF
 have x5:=zbk (zbk (zbk x2 e3) e4) e5
 refine sgN hK24 <| cond_false kj <| wp_skip <| hK23 _ _ <| wp_seq_k fun K25 hK25=>?_
 have r1_5:=(Qaa (Qaa r1_3 e4) e5)
 have r2_5:=(Qaa r2_4 e5)
 have r3_5:=(Qaa (Qaa (Qaa (Qaa (Qaa hgc e1) e2) e3) e4) e5)
 have r4_5:=(Qaa (Qaa (Qaa (Qaa (Qaa hgl_ e1) e2) e3) e4) e5)
 have r5_5:=(Qaa (Qaa (Qaa (Qaa (Qaa hc e1) e2) e3) e4) e5)
 have r6_5:=(Qaa (Qaa (Qaa (Qaa (Qaa hq e1) e2) e3) e4) e5)
 have r7_5:=(Qaa (Qaa (Qaa (Qaa (Qaa hr4 e1) e2) e3) e4) e5)
 have r8_5:=(Qaa (Qaa (Qaa (Qaa (Qaa hh4 e1) e2) e3) e4) e5)
 have r10_5:=(Qaa r10_4 e5)
 have hch0a:ChSt cg cm s0 ts pl ms W5:=hch.ext x5
 have hcg0a:=hch0a.glt
 have hcm0a:=hch0a.mp.lt
 refine QbO (fun W=>Ext W5 W) kj fun Wsa eWsa=>⟨eWsa,?_⟩
 refine QaA 0 (.pointer (some ⟨ge,o,none⟩)) 46 rfl rfl kj kj (fun _ _ _ h=>h) (fun W hR=>by kernel_rfl) <| QaA 1 (.pointer (some ⟨ge,o,none⟩)) 47 rfl rfl kj kj (fun _ _ _ h=>h) (fun W hR=>by kernel_rfl) <| QaA 2 (.pointer (some ⟨ge,o,none⟩)) 48 rfl rfl kj kj (fun _ _ _ h=>h) (fun W hR=>by kernel_rfl) <| QaA 3 (.pointer (some ⟨gc,0,none⟩)) 49 rfl rfl kj kj (fun _ _ _ h=>h) (fun W hR=>(Qad 53 _ ge o 55 _ (.pointer (some ⟨gc,0,none⟩)) _ (Qaa r2_5 hR) rfl kj (Qam [P] [#[.pointer (some ⟨gc,0,none⟩)]] [ints .u8 (grp),#[.int .i64 ((ep:Nat):Int)],#[.int .i64 lf],tl] o hP 0 _ rfl) kj)) <| QaA 4 (.pointer (some ⟨g10,33,none⟩)) 50 rfl rfl kj kj (fun _ _ _ h=>h) (fun W hR=>by kernel_rfl) <| QaA 5 (.int .i64 0) 51 rfl rfl kj kj (fun _ _ _ h=>h) (fun W hR=>(Qad 3 _ g10 33 35 _ (.int .i64 0) _ (Qaa r10_5 hR) rfl kj (Qam [ints .u8 (grp),#[.int .i64 ((ep:Nat):Int)]] [#[.int .i64 0]] [#[.int .i64 ((nu:Nat):Int)],#[.slice a_s fs.length c_s]] 33 (by rw [Qac,Qac]; simp only [qS,cat,(izT hgl)]; rfl) 0 _ rfl) kj)) ?_
 refine QaA 6 (.pointer (some ⟨g10,34,none⟩)) 52 rfl rfl kj kj (fun _ _ _ h=>h) (fun W hR=>by kernel_rfl) <| QaA 7 (.int .i64 ((nu:Nat):Int)) 53 rfl rfl kj kj (fun _ _ _ h=>h) (fun W hR=>(Qad 3 _ g10 34 35 _ (.int .i64 ((nu:Nat):Int)) _ (Qaa r10_5 hR) rfl kj (Qam [ints .u8 (grp),#[.int .i64 ((ep:Nat):Int)],#[.int .i64 0]] [#[.int .i64 ((nu:Nat):Int)]] [#[.slice a_s fs.length c_s]] 34 (by rw [Qac,Qac,Qac]; simp only [qS,cat,(izT hgl)]; rfl) 0 _ rfl) kj)) ?_
 refine Qft 8 12 3 rfl rfl kj kj kj 54 9 rfl rfl kj (fun _=>kj) (fun W=>ChSt cg cm s0 ts pl ms W) Ext (fun u W=>ChSt cg cm s0 ts pl ms W∧QbA W5.heap.size ((nu:Nat):Int) (keyV (itV s0 nu)) u W) (fun v W=>∃ g,v=.pointer (some ⟨g,0,none⟩)∧W5.heap.size≤g∧W.heap[g]? = some (.cells (cat [#[.int .i64 0],ints .u8 (zad 32 0),#[.slice none 0 0]]) 60)) (fun u=>[(56,.nilIface),(55,u),(45,.tuple #[u,.nilIface])]) _ _ _ rfl kj (fun u x hx=>by simp only [zaf,zag,or_false] at hx; rcases hx with rfl | rfl | rfl; exact (by decide:(56:Nat)≠9); exact (by decide:(55:Nat)≠9); exact (by decide:(45:Nat)≠9)) (by decide) (fun _ _ e h=>h.ext e) (fun _ _ h e=>zbk h e) (fun _ _ _ e h=>⟨h.1.ext e,QbA.ext h.2 e⟩) (fun _ _ _ _ hK h=>by obtain ⟨g,a1,a2,a3⟩:=h; exact ⟨g,a1,a2,Qaa a3 hK⟩) (fun W hR hP=>⟨24,#[.pointer (some ⟨gc,0,none⟩),.int .i64 0,.int .i64 ((nu:Nat):Int)],by kernel_rfl,(show Calls Tryd.prog 24 #[.pointer (some ⟨gc,0,none⟩),.int .i64 0,.int .i64 ((nu:Nat):Int)] W _ from Qmd gc gl len cap lp W (Qaa r3_5 hR) (Qaa r4_5 hR) cg 0 hi hli tc tq (Qaa r5_5 hR) (Qaa r6_5 hR) hP nu he).mono (by rintro e W' ⟨v,rfl,k1,u,rfl,k3⟩; exact ⟨u,rfl,zbk hR k1,k1,hP.ext k1,QbA.base hR.size k3⟩)⟩) (fun L' W hR=>⟨_,_,(by kernel_rfl:_=zai (Next.value (.pointer (some ⟨W.heap.size,0,none⟩))) (W.alloc (.cells (cat [#[.int .i64 0],ints .u8 (zad 32 0),#[.slice none 0 0]]) 60))),Qbb _ _,_,rfl,hR.size,heap_alloc_new _ _⟩) (hch0a.ext eWsa) (fun u W hR kk=>by refine QaA 9 (.tuple #[u,.nilIface]) 45 rfl rfl kj kj (fun _ _ _ h=>h) (fun W hR=>by kernel_rfl) ?_; refine QaA 10 (u) 55 rfl rfl kj kj (fun _ _ _ h=>h) (fun W hR=>by kernel_rfl) ?_; refine QaA 11 (.nilIface) 56 rfl rfl kj kj (fun _ _ _ h=>h) (fun W hR=>by kernel_rfl) ?_; exact QcP 12 kj kk) (fun u v2 W hR kk=>by refine QaA 9 (.tuple #[u,.nilIface]) 45 rfl rfl kj kj (fun _ _ _ h=>h) (fun W hR=>by kernel_rfl) ?_; refine QaA 10 (u) 55 rfl rfl kj kj (fun _ _ _ h=>h) (fun W hR=>by kernel_rfl) ?_; refine QaA 11 (.nilIface) 56 rfl rfl kj kj (fun _ _ _ h=>h) (fun W hR=>by kernel_rfl) ?_; exact kk) fun u1 v2 W6 q1 q2 e6=>?_
 obtain ⟨hch2a,uo,rfl,hua⟩:=q1
 obtain ⟨g7a,rfl,l7a,r7a_6⟩:=q2
 obtain ⟨a_na,c_na,rfl,-⟩:=id (zbo hua)
 have nb7a:=QiT hua r7a_6 (by decide)
 refine QcP 13 kj (Qd3 g7a _ (cat [#[.int .i64 ((nu:Nat):Int)],ints .u8 ((keyV (itV s0 nu)).take 32),#[.slice a_na (((keyV (itV s0 nu)).drop 32).length) c_na]]) 60 r7a_6 rfl rfl kj (Qao 60 _ _ g7a 60 _ _ r7a_6 rfl kj kj (isz (n:=34) kj (by rw [Qac,Qac,Qac]; simp only [qS,cat,(izT (QaX (QaI _)))]; rfl)) (eqsz (n:=34) (by rw [Qac,Qac,Qac]; simp only [qS,cat,(izT (qZ (n:=32)))]; rfl) (by rw [Qac,Qac,Qac]; simp only [qS,cat,(izT (QaX (QaI _)))]; rfl)) (Qbn _ (by intro a ha; simp only [zaf,zag,or_false] at ha; rcases ha with rfl | rfl | rfl; exact (Qa6 _ rfl); exact (Qay _ _); exact (Qa6 _ rfl)))) (fun W' p=>zbj p e6 l7a) fun W7 p7 r7a_7=>?_)
 have hu2a:=Qd8 hua p7 nb7a
 have hch3a:=hch2a.keep (p7.2.2.2.2 cg (zaj (qL hcg0a l7a))) (p7.2.2.2.2 cm (zaj (qL hcm0a l7a)))
 have x7:=zbj p7 (zbk x5 e6) (qT x5.size l7a)
 refine QaA 14 (.nilIface) 10 rfl rfl kj kj (fun _ _ _ h=>h) (fun W hR=>by kernel_rfl) <| QeT kj <| hK25 _ _ <| wp_seq_k fun K27 hK27=>sgB kj <| cond_false kj <| wp_skip <| hK27 _ _ <| wp_seq_k fun K29 hK29=>Wk.any_regionEZ 9 [⟨none,[(9,none)]⟩,⟨none,[(61,some 0)]⟩,⟨none,[(9,none)]⟩,⟨none,[(63,some 2)]⟩,⟨none,[(3,none)]⟩,⟨none,[(65,some 4)]⟩,⟨none,[(3,none)]⟩,⟨none,[(67,some 6)]⟩,⟨none,[(62,some 1),(64,some 3),(66,some 5),(68,some 7)]⟩] kj kj fun F hF=>?_
 refine Qa8 (Qas _) (.pointer (some ⟨g7a,1,none⟩)) kj kj (fun _=>kj) <| Qbc (Qas _) (.agg (ints .u8 ((keyV (itV s0 nu)).take 32))) kj kj (fun W hR=>(Qa0 58 _ g7a 1 60 _ _ _ (Qaa (Qaa r7a_7 (Qaj _)) hR) rfl kj (Qam [#[.int .i64 ((nu:Nat):Int)]] [ints .u8 ((keyV (itV s0 nu)).take 32)] [#[.slice a_na (((keyV (itV s0 nu)).drop 32).length) c_na]] 1 kj) kj (isz (n:=32) kj (izT (QaX (QaI _)))))) <| Qa8 (Qas _) (.pointer (some ⟨g7a,33,none⟩)) kj kj (fun _=>kj) <| Qbc (Qas _) (.slice a_na (((keyV (itV s0 nu)).drop 32).length) c_na) kj kj (fun W hR=>(Qad 33 _ g7a 33 60 _ (.slice a_na (((keyV (itV s0 nu)).drop 32).length) c_na) _ (Qaa (Qaa r7a_7 (Qaj _)) hR) rfl kj (Qam [#[.int .i64 ((nu:Nat):Int)],ints .u8 ((keyV (itV s0 nu)).take 32)] [#[.slice a_na (((keyV (itV s0 nu)).drop 32).length) c_na]] [] 33 (by rw [Qac,Qac]; simp only [qS,cat,(izT (QaX (QaI _)))]; rfl) 0 _ rfl) kj)) ?_
 have r10_7:=(zbi p7 (Qaa r10_5 e6) (zaj (qL (Qaq r10_5) l7a)))
 refine Qbc (Qas _) (.agg (cat [ints .u8 (grp),#[.int .i64 ((ep:Nat):Int)],#[.int .i64 0],#[.int .i64 ((nu:Nat):Int)],#[.slice a_s fs.length c_s]])) kj kj (fun W hR=>(Qap 35 _ g10 35 _ _ (Qaa (Qaa r10_7 (Qaj _)) hR) rfl kj kj (isz (n:=36) kj (by rw [Qac,Qac,Qac,Qac,Qac]; simp only [qS,cat,(izT hgl)]; rfl)))) ?_
 refine QdP (Qas _) (OwnN .u8 5 W7.heap.size (grp++hdV ep++[0]++hdV nu)) (OwnN.stable _ _ _ _) 21 #[.agg (cat [ints .u8 (grp),#[.int .i64 ((ep:Nat):Int)],#[.int .i64 0],#[.int .i64 ((nu:Nat):Int)],#[.slice a_s fs.length c_s]])] kj kj (fun _=>kj) (fun W hR=>((QgR grp hgl ep nu hep hnu _ _ _ _).mono fun e W2 hg=>by obtain ⟨v2,e1,e2,e3⟩:=hg; exact ⟨v2,e1,e2,zbn (zbh (Qaj _) hR).size e3⟩)) ?_
 refine Qa8 (Qas _) (.pointer (some ⟨g10,35,none⟩)) kj kj (fun _=>kj) <| Qbc (Qas _) (.slice a_s fs.length c_s) kj kj (fun W hR=>(Qad 33 _ g10 35 35 _ (.slice a_s fs.length c_s) _ (Qaa (Qaa r10_7 (Qaj _)) hR) rfl kj (Qam [ints .u8 (grp),#[.int .i64 ((ep:Nat):Int)],#[.int .i64 0],#[.int .i64 ((nu:Nat):Int)]] [#[.slice a_s fs.length c_s]] [] 35 (by rw [Qac,Qac,Qac,Qac]; simp only [qS,cat,(izT hgl)]; rfl) 0 _ rfl) kj)) ?_
 have r8_7:=(zbi p7 (Qaa r8_5 e6) (zaj (qL (Qaq r8_5) l7a)))
 have r7_7:=(zbi p7 (Qaa r7_5 e6) (zaj (qL (Qaq r7_5) l7a)))
 refine QeO (Qas _) (MixR W7.heap.size text) (Qdf _ _) 25 (fun ρ W hR hX=>?_) ?_
 ·skip
  have e62_:ρ 62=.agg (ints .u8 ((keyV (itV s0 nu)).take 32)):=hX.1
  have e64_:ρ 64=.slice a_na (((keyV (itV s0 nu)).drop 32).length) c_na:=hX.2.1
  have q66_:(OwnN .u8 5 W7.heap.size (grp++hdV ep++[0]++hdV nu)) (ρ 66) W:=hX.2.2.1
  obtain ⟨ar66,cr66,e66_,-⟩:=id (zbo q66_)
  have rd66_:=zbo q66_
  rw [e66_] at rd66_
  have e68_:ρ 68=.slice a_s fs.length c_s:=hX.2.2.2.1
  refine ⟨#[.agg (ints .u8 ((keyV (itV s0 nu)).take 32)),.slice a_na (((keyV (itV s0 nu)).drop 32).length) c_na,.slice ar66 ((grp++hdV ep++[0]++hdV nu).length) cr66,.slice a_s fs.length c_s],Eq.trans (b:=zai (Next.enter 25 #[ρ 62,ρ 64,ρ 66,ρ 68]) W) kj (by rw [e62_,e64_,e66_,e68_]),?_⟩
  exact ((QlY ((keyV (itV s0 nu)).take 32) ((keyV (itV s0 nu)).drop 32) (grp++hdV ep++[0]++hdV nu) text fs es_ _ _ _ _ _ _ th tr W (Qaa (Qaa r8_7 (Qaj _)) hR) (Qaa (Qaa r7_7 (Qaj _)) hR) (QaX (QaI _)) (RdK.ext (zbo hu2a) (zbh (Qaj _) hR)) rd66_ (RdK.ext (hst _ x7) (zbh (Qaj _) hR)) hctxb htb hnl (by simp [hgl,Qkn]) (by omega)).mono fun e W2 hg=>by obtain ⟨v2,e1,e2,u,e3,e4⟩:=hg; exact ⟨v2,e1,e2,u,e3,e4.base (zbh (Qaj _) hR).size⟩)
 refine QcO (hF _ fun W8 e8=>?_)
 simp only [zak,zal,zam,zan,zao,zap,finE,up]
 intro vv30 hv30 vv31 hv31
 clear hF
 obtain ⟨a32_,c32_,rfl,-⟩:=id (zbo hv30)
 obtain ⟨uu33,rfl,huu33⟩:=hv31
 obtain ⟨au33,cu33,rfl,-⟩:=id (zbo huu33)
 refine (show Wk.WZ _ _ _ 5 #[true,true,true,true,true,true,true,true,true,false,false,false,false,false] _ _ from ?_)
 refine Wk.wz_val 9 (.tuple #[.slice au33 ((text).length) cu33,.nilIface]) 60 rfl rfl kj kj (fun _ _ _ h=>h) (fun _=>kj) <| Wk.wz_val 10 (.slice au33 ((text).length) cu33) 70 rfl rfl kj kj (fun _ _ _ h=>h) (fun _=>kj) <| Wk.wz_val 11 (.nilIface) 71 rfl rfl kj kj (fun _ _ _ h=>h) (fun _=>kj) <| Wk.wz_val 12 (.slice au33 ((text).length) cu33) 11 rfl rfl kj kj (fun _ _ _ h=>h) (fun _=>kj) <| Wk.wz_val 13 (.nilIface) 10 rfl rfl kj kj (fun _ _ _ h=>h) (fun _=>kj) <| Wk.wz_nil kj <| hK29 _ _ <| wp_seq_k fun K34 hK34=>sgB kj <| cond_false kj ?_
 refine wp_skip <| hK34 _ _ <| wp_seq_k fun K36 hK36=>wp_seq_k fun K37 hK37=>?_
 have r1_8:=(Qaa (zbi p7 (Qaa r1_5 e6) (zaj (qL (Qaq r1_5) l7a))) e8)
 have r2_8:=(Qaa (zbi p7 (Qaa r2_5 e6) (zaj (qL (Qaq r2_5) l7a))) e8)
 have r3_8:=(Qaa (zbi p7 (Qaa r3_5 e6) (zaj (qL (Qaq r3_5) l7a))) e8)
 have r4_8:=(Qaa (zbi p7 (Qaa r4_5 e6) (zaj (qL (Qaq r4_5) l7a))) e8)
 have r5_8:=(Qaa (zbi p7 (Qaa r5_5 e6) (zaj (qL (Qaq r5_5) l7a))) e8)
 have r6_8:=(Qaa (zbi p7 (Qaa r6_5 e6) (zaj (qL (Qaq r6_5) l7a))) e8)
 have r7_8:=(Qaa r7_7 e8)
 have r8_8:=(Qaa r8_7 e8)
 have r10_8:=(Qaa r10_7 e8)
 have hch0b:ChSt cg cm s0 ts pl ms W8:=hch3a.ext (zbh (zbg W7) e8)
 have hcg0b:=hch0b.glt
 have hcm0b:=hch0b.mp.lt
 refine QbO (fun W=>Qaf [cg,cm] W8 W) kj fun Wsb eWsb=>⟨zbr (zbp _ _) eWsb,?_⟩
 refine QaA 0 (.pointer (some ⟨ge,o,none⟩)) 76 rfl rfl kj kj (fun _ _ _ h=>h) (fun W hR=>by kernel_rfl) <| QaA 1 (.pointer (some ⟨ge,o,none⟩)) 77 rfl rfl kj kj (fun _ _ _ h=>h) (fun W hR=>by kernel_rfl) <| QaA 2 (.pointer (some ⟨ge,o,none⟩)) 78 rfl rfl kj kj (fun _ _ _ h=>h) (fun W hR=>by kernel_rfl) <| QaA 3 (.pointer (some ⟨gc,0,none⟩)) 79 rfl rfl kj kj (fun _ _ _ h=>h) (fun W hR=>(Qad 53 _ ge o 55 _ (.pointer (some ⟨gc,0,none⟩)) _ (zbq hR r2_8 (nin r2_8 hch0b (by decide))) rfl kj (Qam [P] [#[.pointer (some ⟨gc,0,none⟩)]] [ints .u8 (grp),#[.int .i64 ((ep:Nat):Int)],#[.int .i64 lf],tl] o hP 0 _ rfl) kj)) <| QaA 4 (.pointer (some ⟨g10,33,none⟩)) 80 rfl rfl kj kj (fun _ _ _ h=>h) (fun W hR=>by kernel_rfl) <| QaA 5 (.int .i64 0) 81 rfl rfl kj kj (fun _ _ _ h=>h) (fun W hR=>(Qad 3 _ g10 33 35 _ (.int .i64 0) _ (zbq hR r10_8 (nin r10_8 hch0b (by decide))) rfl kj (Qam [ints .u8 (grp),#[.int .i64 ((ep:Nat):Int)]] [#[.int .i64 0]] [#[.int .i64 ((nu:Nat):Int)],#[.slice a_s fs.length c_s]] 33 (by rw [Qac,Qac]; simp only [qS,cat,(izT hgl)]; rfl) 0 _ rfl) kj)) ?_
 refine QaA 6 (.pointer (some ⟨g10,34,none⟩)) 82 rfl rfl kj kj (fun _ _ _ h=>h) (fun W hR=>by kernel_rfl) <| QaA 7 (.int .i64 ((nu:Nat):Int)) 83 rfl rfl kj kj (fun _ _ _ h=>h) (fun W hR=>(Qad 3 _ g10 34 35 _ (.int .i64 ((nu:Nat):Int)) _ (zbq hR r10_8 (nin r10_8 hch0b (by decide))) rfl kj (Qam [ints .u8 (grp),#[.int .i64 ((ep:Nat):Int)],#[.int .i64 0]] [#[.int .i64 ((nu:Nat):Int)]] [#[.slice a_s fs.length c_s]] 34 (by rw [Qac,Qac,Qac]; simp only [qS,cat,(izT hgl)]; rfl) 0 _ rfl) kj)) ?_
 refine Qft 8 12 3 rfl rfl kj kj kj 84 12 rfl rfl kj (fun _=>kj) (fun W=>ChSt cg cm s0 ts pl ms W) (Qaf [cg,cm]) (fun u W=>ChSt cg cm s0 (ts++[((nu:Nat):Int)]) (max pl (nu+1)) (QcG ms s0 pl nu) W∧QbA W8.heap.size ((nu:Nat):Int) (keyV (itV s0 nu)) u W) (fun v W=>∃ g,v=.pointer (some ⟨g,0,none⟩)∧W8.heap.size≤g∧W.heap[g]? = some (.cells (cat [#[.int .i64 0],ints .u8 (zad 32 0),#[.slice none 0 0]]) 60)) (fun u=>[(86,.nilIface),(85,u),(75,.tuple #[u,.nilIface])]) _ _ _ rfl kj (fun u x hx=>by simp only [zaf,zag,or_false] at hx; rcases hx with rfl | rfl | rfl; exact (by decide:(86:Nat)≠12); exact (by decide:(85:Nat)≠12); exact (by decide:(75:Nat)≠12)) (by decide) (fun _ _ e h=>h.ext e) (fun _ _ h e=>zbr h e) (fun _ _ _ e h=>⟨h.1.ext e,QbA.ext h.2 e⟩) (fun _ _ _ _ hK h=>by obtain ⟨g,a1,a2,a3⟩:=h; exact ⟨g,a1,a2,zbq hK a3 (Qax (zah (qL hcg0b a2)) (Qax (zah (qL hcm0b a2)) QaE))⟩) (fun W hR hP=>⟨26,#[.pointer (some ⟨gc,0,none⟩),.int .i64 0,.int .i64 ((nu:Nat):Int)],by kernel_rfl,(show Calls Tryd.prog 26 #[.pointer (some ⟨gc,0,none⟩),.int .i64 0,.int .i64 ((nu:Nat):Int)] W _ from Qjr gc gl len cap lp W (zbq hR r3_8 (nin r3_8 hch0b (by decide))) (zbq hR r4_8 (nin r4_8 hch0b (by decide))) cg 0 hi hli tc tq (zbq hR r5_8 hNc) (zbq hR r6_8 hNq) hP nu he (fun e=>hNc (by simp [←e])) (fun e=>hNq (by simp [←e]))).mono (by rintro e W' ⟨u,rfl,k1,k2,k3⟩; exact ⟨u,rfl,zbs hR k1 (fun c hc=>.inl hc),k1,k2,QbA.base (Qaf.size hR) k3⟩)⟩) (fun L' W hR=>⟨_,_,(by kernel_rfl:_=zai (Next.value (.pointer (some ⟨W.heap.size,0,none⟩))) (W.alloc (.cells (cat [#[.int .i64 0],ints .u8 (zad 32 0),#[.slice none 0 0]]) 60))),Qbb _ _,_,rfl,Qaf.size hR,heap_alloc_new _ _⟩) (hch0b.ext eWsb) (fun u W hR kk=>by refine QaA 9 (.tuple #[u,.nilIface]) 75 rfl rfl kj kj (fun _ _ _ h=>h) (fun W hR=>by kernel_rfl) ?_; refine QaA 10 (u) 85 rfl rfl kj kj (fun _ _ _ h=>h) (fun W hR=>by kernel_rfl) ?_; refine QaA 11 (.nilIface) 86 rfl rfl kj kj (fun _ _ _ h=>h) (fun W hR=>by kernel_rfl) ?_; exact QcP 12 kj kk) (fun u v2 W hR kk=>by refine QaA 9 (.tuple #[u,.nilIface]) 75 rfl rfl kj kj (fun _ _ _ h=>h) (fun W hR=>by kernel_rfl) ?_; refine QaA 10 (u) 85 rfl rfl kj kj (fun _ _ _ h=>h) (fun W hR=>by kernel_rfl) ?_; refine QaA 11 (.nilIface) 86 rfl rfl kj kj (fun _ _ _ h=>h) (fun W hR=>by kernel_rfl) ?_; exact kk) fun u1 v2 W9 q1 q2 q9=>?_
 obtain ⟨hch2b,uo,rfl,hub⟩:=q1
 obtain ⟨g7b,rfl,l7b,r7b_9⟩:=q2
 obtain ⟨a_nb,c_nb,rfl,-⟩:=id (zbo hub)
 have nb7b:=QiT hub r7b_9 (by decide)
 refine QcP 13 kj (Qd3 g7b _ (cat [#[.int .i64 ((nu:Nat):Int)],ints .u8 ((keyV (itV s0 nu)).take 32),#[.slice a_nb (((keyV (itV s0 nu)).drop 32).length) c_nb]]) 60 r7b_9 rfl rfl kj (Qao 60 _ _ g7b 60 _ _ r7b_9 rfl kj kj (isz (n:=34) kj (by rw [Qac,Qac,Qac]; simp only [qS,cat,(izT (QaX (QaI _)))]; rfl)) (eqsz (n:=34) (by rw [Qac,Qac,Qac]; simp only [qS,cat,(izT (qZ (n:=32)))]; rfl) (by rw [Qac,Qac,Qac]; simp only [qS,cat,(izT (QaX (QaI _)))]; rfl)) (Qbn _ (by intro a ha; simp only [zaf,zag,or_false] at ha; rcases ha with rfl | rfl | rfl; exact (Qa6 _ rfl); exact (Qay _ _); exact (Qa6 _ rfl)))) (fun W' p=>Qaf.puts q9 p (.inr l7b)) fun W10 p10 r7b_10=>?_)
 have hu2b:=Qd8 hub p10 nb7b
 have hch3b:=hch2b.keep (p10.2.2.2.2 cg (zaj (qL hcg0b l7b))) (p10.2.2.2.2 cm (zaj (qL hcm0b l7b)))
 have hKb:Qaf [cg,cm] W8 W10:=Qaf.puts q9 p10 (.inr l7b)
 have hKwb:Qaf [cg,cm] w W10:=zbs (zbr (zbp _ _) (zbk x7 e8)) hKb (fun c hc=>.inl hc)
 have rkb1:=zbi p10 (zbq q9 r1_8 (nin r1_8 hch0b (by decide))) (zaj (qL (Qaq r1_8) l7b))
 have rkb2:=zbi p10 (zbq q9 r2_8 (nin r2_8 hch0b (by decide))) (zaj (qL (Qaq r2_8) l7b))
 have rkb3:=zbi p10 (zbq q9 r3_8 (nin r3_8 hch0b (by decide))) (zaj (qL (Qaq r3_8) l7b))
 have rkb4:=zbi p10 (zbq q9 r4_8 (nin r4_8 hch0b (by decide))) (zaj (qL (Qaq r4_8) l7b))
 have rkb5:=zbi p10 (zbq q9 r5_8 hNc) (zaj (qL (Qaq r5_8) l7b))
 have rkb6:=zbi p10 (zbq q9 r6_8 hNq) (zaj (qL (Qaq r6_8) l7b))
 have rkb7:=zbi p10 (zbq q9 r7_8 hNr) (zaj (qL (Qaq r7_8) l7b))
 have rkb8:=zbi p10 (zbq q9 r8_8 hNh) (zaj (qL (Qaq r8_8) l7b))
 have rkb10:=zbi p10 (zbq q9 r10_8 (nin r10_8 hch0b (by decide))) (zaj (qL (Qaq r10_8) l7b))
 refine QaA 14 (.nilIface) 13 rfl rfl kj kj (fun _ _ _ h=>h) (fun W hR=>by kernel_rfl) <| QeT kj <| hK37 _ _ <| sgB kj <| cond_false kj <| wp_skip <| hK36 _ _ <| sgB kj <| wp_ret ?_
 exact (show bodyPost _ _ _ .ret _ _ from ret2 (.slice au33 ((text).length) cu33) (.nilIface) rfl (Qaz kj) (Qaz kj) ⟨_,rfl,hKwb,hch3b,zbn x7.size (Qhn huu33 hKb (QbP huu33 (qL hch.glt x7.size)) (QbP huu33 (qL hch.mp.lt x7.size)))⟩)
end Pk
end
section
namespace Pk
open Go Go.RowKit
open Rely Auto Own Sha
open Cha
open Ae hiding run_storeQ
open Cn hiding nb_new run_extractT
theorem QoL (gc gl len cap:Nat) (lp:Array Value) (w:World) (hgc:w.heap[gc]? = some (.cells #[.slice (some ⟨gl,0,none⟩) len cap] 71)) (hgl_:w.heap[gl]? = some (.cells lp 73)) (cg:Nat) (hi:0<len) (hli:lp[0]? = some (.pointer (some ⟨cg,0,none⟩))) (tc tq:TypeId) (hc:w.heap[4]? = some (.cells (ints .u64 QaR) tc)) (hq:w.heap[3]? = some (.cells (ints .u64 Qa9) tq)) {cm:Nat} (s0 ts:List Int) (pl nu:Nat) (ms:List (Int×List Int)) (he:chkN ts pl ((nu:Nat):Int)=7) (hch:ChSt cg cm s0 ts pl ms w) :
    Calls Tryd.prog 24 #[.pointer (some ⟨gc,0,none⟩),.int .i64 0,.int .i64 ((nu:Nat):Int)] w (Ret w (.tuple #[.agg (cat [#[.int .i64 0],ints .u8 (zad 32 0),#[.slice none 0 0]]),.iface 41 (.int .i64 7)])):=by
  have h:=Qme gc gl len cap lp w hgc hgl_ cg 0 hi hli tc tq hc hq hch ((nu:Nat):Int) (by rw [he]; decide)
  rw [he] at h
  exact h
set_option maxRecDepth 100000 in
theorem QjJ (ep nu:Nat) (hep:ep<4294967296) (hnu:nu<4294967296) (gb ge ce gc n:Nat) (grp:List Int) (hgl:grp.length=32) (w:World) (hgb:w.heap[gb]? = some (.cells (cat [#[.slice (some ⟨ge,0,none⟩) n ce],#[.bool false]]) 49)) (hn:1≤n∧n≤4) (es:List Ep) (hel:es.length=n) (cur:Array Value) (hge:w.heap[ge]? = some (.cells cur 55)) (hpt:AtE cur es) (hgr:∀ e∈es,e.grp=grp) (hlt:∀ (i:Nat) (e:Ep),i<n→es[i]? = some e→e.num≠((ep:Nat):Int)) (fs:List Int) (hfl:fs.length≤1040) (hfb:Qai fs) (hgrb:Qai grp) (v:Value) (hst:∀ W,Ext w W→RdK .u8 W.heap.size fs v W) :
    Calls Tryd.prog 9 #[.pointer (some ⟨gb,0,none⟩),.agg (cat [ints .u8 grp,#[.int .i64 ((ep:Nat):Int)],#[.int .i64 0],#[.int .i64 ((nu:Nat):Int)],#[v]])] w (Ret w (.tuple #[.slice none 0 0,.iface 41 (.int .i64 6)])):=by
  obtain ⟨o9,ho9⟩:∃ o9,o9+35=35*n:=⟨35*n-35,by omega⟩
  obtain ⟨a_s,c_s,rfl,-⟩:=id (hst _ (zbg _))
  obtain ⟨xs,hxs⟩:=Qd6 grp fs ep nu hep hnu hgl hfl
  refine enter 91 [(0,.pointer (some ⟨gb,0,none⟩)),(1,.agg (cat [ints .u8 (grp),#[.int .i64 ((ep:Nat):Int)],#[.int .i64 0],#[.int .i64 ((nu:Nat):Int)],#[.slice a_s fs.length c_s]]))] Tryd.func9 rfl rfl kj rfl <| sgC fun K3 hK3=>Qar (cat [ints .u8 (grp),#[.int .i64 ((ep:Nat):Int)],#[.int .i64 0],#[.int .i64 ((nu:Nat):Int)],#[.slice a_s fs.length c_s]]) 35 3 rfl kj kj fun g4 W1 l4 e1 r4_1=>?_
  have b4:=qT (zbg w).size l4
  refine sg 2 kj <| sgN hK3 <| wp_seq_k fun K5 hK5=>sgC fun K6 hK6=>sg 1 kj ?_
  have r1_1:=(Qaa hgb e1)
  refine Qau (.pointer (some ⟨ge,o9,none⟩)) 16 #[.pointer (some ⟨gb,0,none⟩)] 15 rfl kj kj (QcX gb ge ce n o9 _ r1_1 hn ho9) fun W2 e2=>?_
  have x2:=zbk (zbk (zbg w) e1) e2
  refine sg 1 kj <| sgN hK6 <| cond_false kj <| wp_skip <| hK5 _ _ <| wp_seq_k fun K7 hK7=>sgC fun K8 hK8=>?_
  have r4_2:=(Qaa r4_1 e2)
  refine Qab (.agg (cat [ints .u8 (grp),#[.int .i64 ((ep:Nat):Int)],#[.int .i64 0],#[.int .i64 ((nu:Nat):Int)],#[.slice a_s fs.length c_s]])) 19 rfl kj (Qap 35 _ g4 35 _ _ r4_2 rfl kj kj (isz (n:=36) kj (by rw [Qac,Qac,Qac,Qac,Qac]; simp only [qS,cat,(izT hgl)]; rfl))) ?_
  refine Qav (fun v W'=>(Wr.PutR W2.heap.size (some xs)) v W'∧Ext W2 W') 22 #[.agg (cat [ints .u8 (grp),#[.int .i64 ((ep:Nat):Int)],#[.int .i64 0],#[.int .i64 ((nu:Nat):Int)],#[.slice a_s fs.length c_s]])] 20 rfl kj kj ((Wr.PutPacket_S grp ((ep:Nat):Int) 0 ((nu:Nat):Int) fs a_s c_s _ hgl hgrb (by omega) hfb (hst _ x2) xs hxs).mono (by rintro e w' ⟨v,rfl,e1,hv⟩; exact ⟨v,rfl,hv,e1⟩)) fun vv10 W3 hh10=>?_
  obtain ⟨hv10,e3⟩:=hh10
  obtain ⟨pu9,rfl,hpu9⟩:=hv10
  refine sg 5 kj <| sgN hK8 <| sgB kj <| cond_false kj <| wp_skip <| hK7 _ _ <| wp_seq_k fun K12 hK12=>sgC fun K13 hK13=>sg 1 kj ?_
  have r4_3:=(Qaa r4_2 e3)
  refine Qab (.slice a_s fs.length c_s) 27 rfl kj (Qad 33 _ g4 35 35 _ (.slice a_s fs.length c_s) _ r4_3 rfl kj (Qam [ints .u8 (grp),#[.int .i64 ((ep:Nat):Int)],#[.int .i64 0],#[.int .i64 ((nu:Nat):Int)]] [#[.slice a_s fs.length c_s]] [] 35 (by rw [Qac,Qac,Qac,Qac]; simp only [qS,cat,(izT hgl)]; rfl) 0 _ rfl) kj) ?_
  refine sg 1 kj <| Qab (.bool false) 29 rfl kj (Qah (u:=.bool (decide (((fs.length:Nat):Int)>1040))) kj (congrArg zae (decide_eq_false (by omega)))) <| sgN hK13 <| cond_false kj <| wp_skip <| hK12 _ _ <| sgC fun K14 hK14=>sg 1 kj <| Qab (.agg (cat [ints .u8 (grp),#[.int .i64 ((ep:Nat):Int)],#[.int .i64 0],#[.int .i64 ((nu:Nat):Int)],#[.slice a_s fs.length c_s]])) 32 rfl kj (Qap 35 _ g4 35 _ _ r4_3 rfl kj kj (isz (n:=36) kj (by rw [Qac,Qac,Qac,Qac,Qac]; simp only [qS,cat,(izT hgl)]; rfl))) ?_
  refine Qau (.pointer none) 23 #[.pointer (some ⟨gb,0,none⟩),.agg (cat [ints .u8 (grp),#[.int .i64 ((ep:Nat):Int)],#[.int .i64 0],#[.int .i64 ((nu:Nat):Int)],#[.slice a_s fs.length c_s]])] 33 rfl kj kj (of_n gb ge ce n _ (Qaa (Qaa r1_1 e2) e3) grp hgl es hel hn.2 cur (Qaa (Qaa (Qaa hge e1) e2) e3) hpt hgr ep nu a_s _ c_s n (qR _) hlt _ (.inl ⟨rfl,rfl⟩)) fun W4 e4=>sg 1 kj <| sgN hK14 <| wp_seq_k fun K15 hK15=>sgB kj <| cond_true kj <| sgB kj <| wp_ret ?_
  exact (show bodyPost _ _ _ .ret _ _ from ret2 (.slice none 0 0) (.iface 41 (.int .i64 6)) rfl (Qaz kj) (Qaz kj) ⟨rfl,(zbk (zbk x2 e3) e4)⟩)
set_option maxRecDepth 100000 in
theorem Qll (ep nu:Nat) (hep:ep<4294967296) (hnu:nu<4294967296) (gb ge ce gc n:Nat) (grp:List Int) (hgl:grp.length=32) (w:World) (hgb:w.heap[gb]? = some (.cells (cat [#[.slice (some ⟨ge,0,none⟩) n ce],#[.bool false]]) 49)) (hn:1≤n∧n≤4) (es:List Ep) (hel:es.length=n) (cur:Array Value) (hge:w.heap[ge]? = some (.cells cur 55)) (hpt:AtE cur es) (hgr:∀ e∈es,e.grp=grp) (j o:Nat) (ho:o=35*j) (hej:es[j]? = some ⟨gc,grp,((ep:Nat):Int),0⟩) (hlt:∀ (i:Nat) (e:Ep),i<j→es[i]? = some e→e.num≠((ep:Nat):Int)) (fs:List Int) (hfl:fs.length≤1040) (hfb:Qai fs) (hgrb:Qai grp) (v:Value) (hst:∀ W,Ext w W→RdK .u8 W.heap.size fs v W) :
    Calls Tryd.prog 9 #[.pointer (some ⟨gb,0,none⟩),.agg (cat [ints .u8 grp,#[.int .i64 ((ep:Nat):Int)],#[.int .i64 0],#[.int .i64 ((nu:Nat):Int)],#[v]])] w (Ret w (.tuple #[.slice none 0 0,.iface 41 (.int .i64 9)])):=by
  obtain ⟨o9,ho9⟩:∃ o9,o9+35=35*n:=⟨35*n-35,by omega⟩
  have hjn:j<n:=by have:=(zav.1 hej).1; omega
  obtain ⟨P,tl,hP,rfl⟩:=hpt j _ hej
  rw [←ho] at hP
  obtain ⟨a_s,c_s,rfl,-⟩:=id (hst _ (zbg _))
  obtain ⟨xs,hxs⟩:=Qd6 grp fs ep nu hep hnu hgl hfl
  refine enter 91 [(0,.pointer (some ⟨gb,0,none⟩)),(1,.agg (cat [ints .u8 (grp),#[.int .i64 ((ep:Nat):Int)],#[.int .i64 0],#[.int .i64 ((nu:Nat):Int)],#[.slice a_s fs.length c_s]]))] Tryd.func9 rfl rfl kj rfl <| sgC fun K3 hK3=>Qar (cat [ints .u8 (grp),#[.int .i64 ((ep:Nat):Int)],#[.int .i64 0],#[.int .i64 ((nu:Nat):Int)],#[.slice a_s fs.length c_s]]) 35 3 rfl kj kj fun g4 W1 l4 e1 r4_1=>?_
  have b4:=qT (zbg w).size l4
  refine sg 2 kj <| sgN hK3 <| wp_seq_k fun K5 hK5=>sgC fun K6 hK6=>sg 1 kj ?_
  have r1_1:=(Qaa hgb e1)
  refine Qau (.pointer (some ⟨ge,o9,none⟩)) 16 #[.pointer (some ⟨gb,0,none⟩)] 15 rfl kj kj (QcX gb ge ce n o9 _ r1_1 hn ho9) fun W2 e2=>?_
  have x2:=zbk (zbk (zbg w) e1) e2
  refine sg 1 kj <| sgN hK6 <| cond_false kj <| wp_skip <| hK5 _ _ <| wp_seq_k fun K7 hK7=>sgC fun K8 hK8=>?_
  have r4_2:=(Qaa r4_1 e2)
  refine Qab (.agg (cat [ints .u8 (grp),#[.int .i64 ((ep:Nat):Int)],#[.int .i64 0],#[.int .i64 ((nu:Nat):Int)],#[.slice a_s fs.length c_s]])) 19 rfl kj (Qap 35 _ g4 35 _ _ r4_2 rfl kj kj (isz (n:=36) kj (by rw [Qac,Qac,Qac,Qac,Qac]; simp only [qS,cat,(izT hgl)]; rfl))) ?_
  refine Qav (fun v W'=>(Wr.PutR W2.heap.size (some xs)) v W'∧Ext W2 W') 22 #[.agg (cat [ints .u8 (grp),#[.int .i64 ((ep:Nat):Int)],#[.int .i64 0],#[.int .i64 ((nu:Nat):Int)],#[.slice a_s fs.length c_s]])] 20 rfl kj kj ((Wr.PutPacket_S grp ((ep:Nat):Int) 0 ((nu:Nat):Int) fs a_s c_s _ hgl hgrb (by omega) hfb (hst _ x2) xs hxs).mono (by rintro e w' ⟨v,rfl,e1,hv⟩; exact ⟨v,rfl,hv,e1⟩)) fun vv10 W3 hh10=>?_
  obtain ⟨hv10,e3⟩:=hh10
  obtain ⟨pu9,rfl,hpu9⟩:=hv10
  refine sg 5 kj <| sgN hK8 <| sgB kj <| cond_false kj <| wp_skip <| hK7 _ _ <| wp_seq_k fun K12 hK12=>sgC fun K13 hK13=>sg 1 kj ?_
  have r4_3:=(Qaa r4_2 e3)
  refine Qab (.slice a_s fs.length c_s) 27 rfl kj (Qad 33 _ g4 35 35 _ (.slice a_s fs.length c_s) _ r4_3 rfl kj (Qam [ints .u8 (grp),#[.int .i64 ((ep:Nat):Int)],#[.int .i64 0],#[.int .i64 ((nu:Nat):Int)]] [#[.slice a_s fs.length c_s]] [] 35 (by rw [Qac,Qac,Qac,Qac]; simp only [qS,cat,(izT hgl)]; rfl) 0 _ rfl) kj) ?_
  refine sg 1 kj <| Qab (.bool false) 29 rfl kj (Qah (u:=.bool (decide (((fs.length:Nat):Int)>1040))) kj (congrArg zae (decide_eq_false (by omega)))) <| sgN hK13 <| cond_false kj <| wp_skip <| hK12 _ _ <| sgC fun K14 hK14=>sg 1 kj <| Qab (.agg (cat [ints .u8 (grp),#[.int .i64 ((ep:Nat):Int)],#[.int .i64 0],#[.int .i64 ((nu:Nat):Int)],#[.slice a_s fs.length c_s]])) 32 rfl kj (Qap 35 _ g4 35 _ _ r4_3 rfl kj kj (isz (n:=36) kj (by rw [Qac,Qac,Qac,Qac,Qac]; simp only [qS,cat,(izT hgl)]; rfl))) ?_
  have r2_3:=(Qaa (Qaa (Qaa hge e1) e2) e3)
  refine Qau (.pointer (some ⟨ge,o,none⟩)) 23 #[.pointer (some ⟨gb,0,none⟩),.agg (cat [ints .u8 (grp),#[.int .i64 ((ep:Nat):Int)],#[.int .i64 0],#[.int .i64 ((nu:Nat):Int)],#[.slice a_s fs.length c_s]])] 33 rfl kj kj (of_n gb ge ce n _ (Qaa (Qaa r1_1 e2) e3) grp hgl es hel hn.2 (cat [P,#[.pointer (some ⟨gc,0,none⟩)],ints .u8 (grp),#[.int .i64 ((ep:Nat):Int)],#[.int .i64 0],tl]) r2_3 hpt hgr ep nu a_s _ c_s j (zaw hjn) hlt _ (.inr ⟨_,o,hej,rfl,ho,rfl⟩)) fun W4 e4=>sg 1 kj <| sgN hK14 <| wp_seq_k fun K15 hK15=>sgB kj <| cond_false kj <| wp_skip <| hK15 _ _ <| wp_seq_k fun K17 hK17=>wp_seq_k fun K18 hK18=>?_
  refine QaL 7 [⟨none,[(3,none)]⟩,⟨none,[(37,some 0)]⟩,⟨none,[(8,none)]⟩,⟨none,[(39,some 2)]⟩,⟨none,[(40,some 3)]⟩,⟨none,[(41,some 4)]⟩,⟨none,[(38,some 1),(42,some 5)]⟩] kj kj fun F hF=>Qak (.pointer (some ⟨g4,33,none⟩)) kj kj (fun _=>kj) <| Qa7 (.int .i64 0) kj kj (fun W hR=>(Qad 3 _ g4 33 35 _ (.int .i64 0) _ (Qaa (Qaa (Qaa r4_3 e4) (Qaj _)) hR) rfl kj (Qam [ints .u8 (grp),#[.int .i64 ((ep:Nat):Int)]] [#[.int .i64 0]] [#[.int .i64 ((nu:Nat):Int)],#[.slice a_s fs.length c_s]] 33 (by rw [Qac,Qac]; simp only [qS,cat,(izT hgl)]; rfl) 0 _ rfl) kj)) ?_
  refine Qak (.pointer (some ⟨ge,o,none⟩)) kj kj (fun _=>kj) <| Qak (.pointer (some ⟨ge,o,none⟩)) kj kj (fun _=>kj) <| Qak (.pointer (some ⟨ge,(o+34),none⟩)) kj kj (fun _=>kj) <| Qa7 (.int .i64 0) kj kj (fun W hR=>(Qad 3 _ ge (o+34) 55 _ (.int .i64 0) _ (Qaa (Qaa (Qaa r2_3 e4) (Qaj _)) hR) rfl kj (Qam [P,#[.pointer (some ⟨gc,0,none⟩)],ints .u8 (grp),#[.int .i64 ((ep:Nat):Int)]] [#[.int .i64 0]] [tl] (o+34) (by rw [Qac,Qac,Qac,Qac]; simp only [qS,cat,(izT hgl),hP]; rfl) 0 _ rfl) kj)) ?_
  refine Qak (.bool true) kj kj (fun _=>kj) <| QaQ (hF _ kj fun W5 e5=>?_)
  simp only [ups,up,Kn.val,zam,zan,zao,zap,zak,zal]
  clear hF
  refine sgN hK18 <| cond_true kj <| sgB kj <| wp_ret ?_
  exact (show bodyPost _ _ _ .ret _ _ from ret2 (.slice none 0 0) (.iface 41 (.int .i64 9)) rfl (Qaz kj) (Qaz kj) ⟨rfl,(zbk (zbk (zbk x2 e3) e4) e5)⟩)
set_option maxRecDepth 100000 in
theorem Qho (ep nu:Nat) (hep:ep<4294967296) (hnu:nu<4294967296) (gb ge ce gc n:Nat) (grp:List Int) (hgl:grp.length=32) (w:World) (hgb:w.heap[gb]? = some (.cells (cat [#[.slice (some ⟨ge,0,none⟩) n ce],#[.bool false]]) 49)) (hn:1≤n∧n≤4) (es:List Ep) (hel:es.length=n) (cur:Array Value) (hge:w.heap[ge]? = some (.cells cur 55)) (hpt:AtE cur es) (hgr:∀ e∈es,e.grp=grp) (j o:Nat) (ho:o=35*j) (lf:Int) (hej:es[j]? = some ⟨gc,grp,((ep:Nat):Int),lf⟩) (hlt:∀ (i:Nat) (e:Ep),i<j→es[i]? = some e→e.num≠((ep:Nat):Int)) (hlf:lf≠0) (gl len cap:Nat) (lp:Array Value) (hgc:w.heap[gc]? = some (.cells #[.slice (some ⟨gl,0,none⟩) len cap] 71)) (hgl_:w.heap[gl]? = some (.cells lp 73)) (cg cm:Nat) (hi:0<len) (hli:lp[0]? = some (.pointer (some ⟨cg,0,none⟩))) (pl:Nat) (s0 ts:List Int) (ms:List (Int×List Int)) (hch:ChSt cg cm s0 ts pl ms w) (he:chkN ts pl ((nu:Nat):Int)=7) (tc tq:TypeId) (hc:w.heap[4]? = some (.cells (ints .u64 QaR) tc)) (hq:w.heap[3]? = some (.cells (ints .u64 Qa9) tq)) (fs:List Int) (hfl:fs.length≤1040) (hfb:Qai fs) (hgrb:Qai grp) (v:Value) (hst:∀ W,Ext w W→RdK .u8 W.heap.size fs v W) :
    Calls Tryd.prog 9 #[.pointer (some ⟨gb,0,none⟩),.agg (cat [ints .u8 grp,#[.int .i64 ((ep:Nat):Int)],#[.int .i64 0],#[.int .i64 ((nu:Nat):Int)],#[v]])] w (Ret w (.tuple #[.slice none 0 0,.iface 41 (.int .i64 7)])):=by
  obtain ⟨o9,ho9⟩:∃ o9,o9+35=35*n:=⟨35*n-35,by omega⟩
  have hjn:j<n:=by have:=(zav.1 hej).1; omega
  obtain ⟨P,tl,hP,rfl⟩:=hpt j _ hej
  rw [←ho] at hP
  obtain ⟨a_s,c_s,rfl,-⟩:=id (hst _ (zbg _))
  obtain ⟨xs,hxs⟩:=Qd6 grp fs ep nu hep hnu hgl hfl
  refine enter 91 [(0,.pointer (some ⟨gb,0,none⟩)),(1,.agg (cat [ints .u8 (grp),#[.int .i64 ((ep:Nat):Int)],#[.int .i64 0],#[.int .i64 ((nu:Nat):Int)],#[.slice a_s fs.length c_s]]))] Tryd.func9 rfl rfl kj rfl <| sgC fun K7 hK7=>Qar (cat [ints .u8 (grp),#[.int .i64 ((ep:Nat):Int)],#[.int .i64 0],#[.int .i64 ((nu:Nat):Int)],#[.slice a_s fs.length c_s]]) 35 3 rfl kj kj fun g8 W1 l8 e1 r8_1=>?_
  have b8:=qT (zbg w).size l8
  refine sg 2 kj <| sgN hK7 <| wp_seq_k fun K9 hK9=>sgC fun K10 hK10=>sg 1 kj ?_
  have r1_1:=(Qaa hgb e1)
  refine Qau (.pointer (some ⟨ge,o9,none⟩)) 16 #[.pointer (some ⟨gb,0,none⟩)] 15 rfl kj kj (QcX gb ge ce n o9 _ r1_1 hn ho9) fun W2 e2=>?_
  have x2:=zbk (zbk (zbg w) e1) e2
  refine sg 1 kj <| sgN hK10 <| cond_false kj <| wp_skip <| hK9 _ _ <| wp_seq_k fun K11 hK11=>sgC fun K12 hK12=>?_
  have r8_2:=(Qaa r8_1 e2)
  refine Qab (.agg (cat [ints .u8 (grp),#[.int .i64 ((ep:Nat):Int)],#[.int .i64 0],#[.int .i64 ((nu:Nat):Int)],#[.slice a_s fs.length c_s]])) 19 rfl kj (Qap 35 _ g8 35 _ _ r8_2 rfl kj kj (isz (n:=36) kj (by rw [Qac,Qac,Qac,Qac,Qac]; simp only [qS,cat,(izT hgl)]; rfl))) ?_
  refine Qav (fun v W'=>(Wr.PutR W2.heap.size (some xs)) v W'∧Ext W2 W') 22 #[.agg (cat [ints .u8 (grp),#[.int .i64 ((ep:Nat):Int)],#[.int .i64 0],#[.int .i64 ((nu:Nat):Int)],#[.slice a_s fs.length c_s]])] 20 rfl kj kj ((Wr.PutPacket_S grp ((ep:Nat):Int) 0 ((nu:Nat):Int) fs a_s c_s _ hgl hgrb (by omega) hfb (hst _ x2) xs hxs).mono (by rintro e w' ⟨v,rfl,e1,hv⟩; exact ⟨v,rfl,hv,e1⟩)) fun vv14 W3 hh14=>?_
  obtain ⟨hv14,e3⟩:=hh14
  obtain ⟨pu13,rfl,hpu13⟩:=hv14
  refine sg 5 kj <| sgN hK12 <| sgB kj <| cond_false kj <| wp_skip <| hK11 _ _ <| wp_seq_k fun K16 hK16=>sgC fun K17 hK17=>sg 1 kj ?_
  have r8_3:=(Qaa r8_2 e3)
  refine Qab (.slice a_s fs.length c_s) 27 rfl kj (Qad 33 _ g8 35 35 _ (.slice a_s fs.length c_s) _ r8_3 rfl kj (Qam [ints .u8 (grp),#[.int .i64 ((ep:Nat):Int)],#[.int .i64 0],#[.int .i64 ((nu:Nat):Int)]] [#[.slice a_s fs.length c_s]] [] 35 (by rw [Qac,Qac,Qac,Qac]; simp only [qS,cat,(izT hgl)]; rfl) 0 _ rfl) kj) ?_
  refine sg 1 kj <| Qab (.bool false) 29 rfl kj (Qah (u:=.bool (decide (((fs.length:Nat):Int)>1040))) kj (congrArg zae (decide_eq_false (by omega)))) <| sgN hK17 <| cond_false kj <| wp_skip <| hK16 _ _ <| sgC fun K18 hK18=>sg 1 kj <| Qab (.agg (cat [ints .u8 (grp),#[.int .i64 ((ep:Nat):Int)],#[.int .i64 0],#[.int .i64 ((nu:Nat):Int)],#[.slice a_s fs.length c_s]])) 32 rfl kj (Qap 35 _ g8 35 _ _ r8_3 rfl kj kj (isz (n:=36) kj (by rw [Qac,Qac,Qac,Qac,Qac]; simp only [qS,cat,(izT hgl)]; rfl))) ?_
  have r2_3:=(Qaa (Qaa (Qaa hge e1) e2) e3)
  refine Qau (.pointer (some ⟨ge,o,none⟩)) 23 #[.pointer (some ⟨gb,0,none⟩),.agg (cat [ints .u8 (grp),#[.int .i64 ((ep:Nat):Int)],#[.int .i64 0],#[.int .i64 ((nu:Nat):Int)],#[.slice a_s fs.length c_s]])] 33 rfl kj kj (of_n gb ge ce n _ (Qaa (Qaa r1_1 e2) e3) grp hgl es hel hn.2 (cat [P,#[.pointer (some ⟨gc,0,none⟩)],ints .u8 (grp),#[.int .i64 ((ep:Nat):Int)],#[.int .i64 lf],tl]) r2_3 hpt hgr ep nu a_s _ c_s j (zaw hjn) hlt _ (.inr ⟨_,o,hej,rfl,ho,rfl⟩)) fun W4 e4=>sg 1 kj <| sgN hK18 <| wp_seq_k fun K19 hK19=>sgB kj <| cond_false kj <| wp_skip <| hK19 _ _ <| wp_seq_k fun K21 hK21=>wp_seq_k fun K22 hK22=>?_
  refine QaL 7 [⟨none,[(3,none)]⟩,⟨none,[(37,some 0)]⟩,⟨none,[(8,none)]⟩,⟨none,[(39,some 2)]⟩,⟨none,[(40,some 3)]⟩,⟨none,[(41,some 4)]⟩,⟨none,[(38,some 1),(42,some 5)]⟩] kj kj fun F hF=>Qak (.pointer (some ⟨g8,33,none⟩)) kj kj (fun _=>kj) ?_
  have r8_4:=(Qaa r8_3 e4)
  refine Qa7 (.int .i64 0) kj kj (fun W hR=>(Qad 3 _ g8 33 35 _ (.int .i64 0) _ (Qaa (Qaa r8_4 (Qaj _)) hR) rfl kj (Qam [ints .u8 (grp),#[.int .i64 ((ep:Nat):Int)]] [#[.int .i64 0]] [#[.int .i64 ((nu:Nat):Int)],#[.slice a_s fs.length c_s]] 33 (by rw [Qac,Qac]; simp only [qS,cat,(izT hgl)]; rfl) 0 _ rfl) kj)) ?_
  refine Qak (.pointer (some ⟨ge,o,none⟩)) kj kj (fun _=>kj) <| Qak (.pointer (some ⟨ge,o,none⟩)) kj kj (fun _=>kj) <| Qak (.pointer (some ⟨ge,(o+34),none⟩)) kj kj (fun _=>kj) ?_
  have r2_4:=(Qaa r2_3 e4)
  refine Qa7 (.int .i64 lf) kj kj (fun W hR=>(Qad 3 _ ge (o+34) 55 _ (.int .i64 lf) _ (Qaa (Qaa r2_4 (Qaj _)) hR) rfl kj (Qam [P,#[.pointer (some ⟨gc,0,none⟩)],ints .u8 (grp),#[.int .i64 ((ep:Nat):Int)]] [#[.int .i64 lf]] [tl] (o+34) (by rw [Qac,Qac,Qac,Qac]; simp only [qS,cat,(izT hgl),hP]; rfl) 0 _ rfl) kj)) ?_
  refine Qak (.bool false) kj kj (fun W=>(Qah (u:=.bool ((0==lf))) kj (congrArg zae (decide_eq_false (by omega))))) <| QaQ (hF _ kj fun W5 e5=>?_)
  simp only [ups,up,Kn.val,zam,zan,zao,zap,zak,zal]
  clear hF
  have x5:=zbk (zbk (zbk x2 e3) e4) e5
  refine sgN hK22 <| cond_false kj <| wp_skip <| hK21 _ _ <| wp_seq_k fun K23 hK23=>QbS (fun W=>True) [⟨none,[(8,none)]⟩,⟨none,[(46,some 0)]⟩,⟨none,[(47,some 1)]⟩,⟨none,[(48,some 2)]⟩,⟨none,[(3,none)]⟩,⟨none,[(50,some 4)]⟩,⟨none,[(3,none)]⟩,⟨none,[(52,some 6)]⟩,⟨none,[(49,some 3),(51,some 5),(53,some 7)]⟩,⟨none,[(54,some 8)]⟩,⟨none,[(45,some 9)]⟩,⟨none,[(45,some 9)]⟩,⟨none,[]⟩,⟨none,[(9,some 12),(55,some 10)]⟩,⟨none,[(56,some 11)]⟩] [12] [11,14] kj kj kj (fun W hR=>trivial) fun F hF=>Qba (.pointer (some ⟨ge,o,none⟩)) kj kj rfl (fun _=>kj) <| Qba (.pointer (some ⟨ge,o,none⟩)) kj kj rfl (fun _=>kj) <| Qba (.pointer (some ⟨ge,o,none⟩)) kj kj rfl (fun _=>kj) <| QbM (.pointer (some ⟨gc,0,none⟩)) kj kj kj rfl (fun W hR=>(Qad 53 _ ge o 55 _ (.pointer (some ⟨gc,0,none⟩)) _ (Qaa (Qaa (Qaa r2_4 e5) (Qaj _)) hR) rfl kj (Qam [P] [#[.pointer (some ⟨gc,0,none⟩)]] [ints .u8 (grp),#[.int .i64 ((ep:Nat):Int)],#[.int .i64 lf],tl] o hP 0 _ rfl) kj)) ?_
  refine Qba (.pointer (some ⟨g8,33,none⟩)) kj kj rfl (fun _=>kj) ?_
  have r8_5:=(Qaa r8_4 e5)
  refine QbM (.int .i64 0) kj kj kj rfl (fun W hR=>(Qad 3 _ g8 33 35 _ (.int .i64 0) _ (Qaa (Qaa r8_5 (Qaj _)) hR) rfl kj (Qam [ints .u8 (grp),#[.int .i64 ((ep:Nat):Int)]] [#[.int .i64 0]] [#[.int .i64 ((nu:Nat):Int)],#[.slice a_s fs.length c_s]] 33 (by rw [Qac,Qac]; simp only [qS,cat,(izT hgl)]; rfl) 0 _ rfl) kj)) ?_
  refine Qba (.pointer (some ⟨g8,34,none⟩)) kj kj rfl (fun _=>kj) <| QbM (.int .i64 ((nu:Nat):Int)) kj kj kj rfl (fun W hR=>(Qad 3 _ g8 34 35 _ (.int .i64 ((nu:Nat):Int)) _ (Qaa (Qaa r8_5 (Qaj _)) hR) rfl kj (Qam [ints .u8 (grp),#[.int .i64 ((ep:Nat):Int)],#[.int .i64 0]] [#[.int .i64 ((nu:Nat):Int)]] [#[.slice a_s fs.length c_s]] 34 (by rw [Qac,Qac,Qac]; simp only [qS,cat,(izT hgl)]; rfl) 0 _ rfl) kj)) ?_
  refine Qjt (.tuple #[.agg (cat [#[.int .i64 0],ints .u8 (zad 32 0),#[.slice none 0 0]]),.iface 41 (.int .i64 7)]) 24 #[.pointer (some ⟨gc,0,none⟩),.int .i64 0,.int .i64 ((nu:Nat):Int)] kj kj kj rfl (fun _=>kj) (fun W hR=>(fun W hR=>QoL gc gl len cap lp W (Qaa (Qaa (Qaa (Qaa (Qaa (Qaa (Qaa hgc e1) e2) e3) e4) e5) (Qaj _)) hR) (Qaa (Qaa (Qaa (Qaa (Qaa (Qaa (Qaa hgl_ e1) e2) e3) e4) e5) (Qaj _)) hR) cg hi hli tc tq (Qaa (Qaa (Qaa (Qaa (Qaa (Qaa (Qaa hc e1) e2) e3) e4) e5) (Qaj _)) hR) (Qaa (Qaa (Qaa (Qaa (Qaa (Qaa (Qaa hq e1) e2) e3) e4) e5) (Qaj _)) hR) s0 ts pl nu ms he (hch.ext (zbh (zbh x5 (Qaj _)) hR))) W hR) <| Qba (.tuple #[.agg (cat [#[.int .i64 0],ints .u8 (zad 32 0),#[.slice none 0 0]]),.iface 41 (.int .i64 7)]) kj kj rfl (fun _=>kj) <| Qba (.agg (cat [#[.int .i64 0],ints .u8 (zad 32 0),#[.slice none 0 0]])) kj kj rfl (fun _=>kj) <| Qba (.iface 41 (.int .i64 7)) kj kj rfl (fun _=>kj) <| Qn7 (cat [#[.int .i64 0],ints .u8 (zad 32 0),#[.slice none 0 0]]) 60 kj kj (qR _) kj rfl (fun _=>kj) <| Qcj rfl <| Qba (.iface 41 (.int .i64 7)) kj kj rfl (fun _=>kj) <| Qgn (hF _ kj fun W6 e6=>?_)
  simp only [zak,zal,fins,up]
  intro g24 l24 r24_6 n24
  clear hF
  refine Qcc _ g24 _ (cat [#[.int .i64 0],ints .u8 (zad 32 0),#[.slice none 0 0]]) 60 r24_6 rfl (Qao 60 _ _ g24 60 _ _ r24_6 rfl kj kj (isz (n:=34) kj (by rw [Qac,Qac,Qac]; simp only [qS,cat,(izT (qZ (n:=32)))]; rfl)) (eqsz (n:=34) (by rw [Qac,Qac,Qac]; simp only [qS,cat,(izT (qZ (n:=32)))]; rfl) (by rw [Qac,Qac,Qac]; simp only [qS,cat,(izT (qZ (n:=32)))]; rfl)) (Qbn _ (by intro a ha; simp only [zaf,zag,or_false] at ha; rcases ha with rfl | rfl | rfl; exact (Qa6 _ rfl); exact (Qay _ _); exact (Qa6 _ rfl)))) (fun W hp=>trivial) fun W7 p7 r24_7=>?_
  refine Qew <| hK23 _ _ <| wp_seq_k fun K25 hK25=>sgB kj <| cond_true kj <| sgB kj <| wp_ret ?_
  exact (show bodyPost _ _ _ .ret _ _ from ret2 (.slice none 0 0) (.iface 41 (.int .i64 7)) rfl (Qaz kj) (Qaz kj) ⟨rfl,(zbj p7 (zbk x5 e6) (qT x5.size l24))⟩)
end Pk
end
section
namespace Pk
open Go Go.RowKit
open Rely Auto Own Sha
open Cha
open Ae hiding run_storeQ
open Cn hiding nb_new run_extractT
open Wk
structure Ln where
  gc:Nat
  cg:Nat
  cm:Nat
  ts:List Int
  pl:Nat
def Qbo (l : Ln) (s0:List Int) (W:World):Prop:=∃ (gl cap:Nat) (lp:Array Value) (ms:List (Int×List Int)),W.heap[l.gc]? = some (.cells #[.slice (some ⟨gl,0,none⟩) 4 cap] 71)∧W.heap[gl]? = some (.cells lp 73)∧lp[0]? = some (.pointer (some ⟨l.cg,0,none⟩))∧ChSt l.cg l.cm s0 l.ts l.pl ms W
theorem Qbo.keepT {l : Ln} {s0:List Int} {W W':World} (h:Qbo l s0 W) (k:Qbv W W'):Qbo l s0 W':=by
  obtain ⟨gl,cap,lp,ms,h1,h2,h3,h4⟩:=h
  exact ⟨gl,cap,lp,ms,k _ _ h1 (fun c e=>by cases e) (fun c e=>by cases e),k _ _ h2 (fun c e=>by cases e) (fun c e=>by cases e),h3,k.chst h4⟩
theorem Qbo.ext {l : Ln} {s0:List Int} {W W':World} (h:Qbo l s0 W) (e:Ext W W'):Qbo l s0 W':=h.keepT (Qbv.ext e)
theorem Qbo.lt {l : Ln} {s0:List Int} {W:World} (h:Qbo l s0 W):l.cg<W.heap.size∧l.cm<W.heap.size:=by
  obtain ⟨gl,cap,lp,ms,h1,h2,h3,h4⟩:=h
  exact ⟨h4.glt,h4.mp.lt⟩
theorem QlD {cg cm x y pl pl':Nat} {s0 s1 ts ts':List Int} {ms ms':List (Int×List Int)} {W:World} (h:ChSt cg cm s0 ts pl ms W) (k:ChSt x y s1 ts' pl' ms' W) (n1:cg≠x) (n2:cm≠y):cg∉[x,y]∧cm∉[x,y]:=by
  obtain ⟨B,-,r1⟩:=h.row
  obtain ⟨B',-,r2⟩:=k.row
  obtain ⟨e1,c1,m1,-⟩:=h.mp
  obtain ⟨e2,c2,m2,-⟩:=k.mp
  exact ⟨Qax n1 (Qax (fun e=>by subst e; rw [r1] at m2; cases m2) QaE),Qax (fun e=>by subst e; rw [r2] at m1; cases m1) (Qax n2 QaE)⟩
theorem Qbo.other {l m:Ln} {s0 s1:List Int} {W W':World} (h:Qbo l s0 W) (k:Qbo m s1 W) (q:Qaf [m.cg,m.cm] W W') (n1:l.cg≠m.cg) (n2:l.cm≠m.cm):Qbo l s0 W':=by
  obtain ⟨gl,cap,lp,ms,h1,h2,h3,h4⟩:=h
  obtain ⟨_,_,_,ms',-,-,-,k4⟩:=k
  have hn:=QlD h4 k4 n1 n2
  exact ⟨gl,cap,lp,ms,zbq q h1 (nin h1 k4 (by decide)),zbq q h2 (nin h2 k4 (by decide)),h3,h4.keep (q.block _ h4.glt hn.1) (q.block _ h4.mp.lt hn.2)⟩
theorem Qbo.step {l : Ln} {s0 ts:List Int} {pl:Nat} {ms:List (Int×List Int)} {W W':World} (h:Qbo l s0 W) (q:Qaf [l.cg,l.cm] W W') (k:ChSt l.cg l.cm s0 ts pl ms W'):Qbo ⟨l.gc,l.cg,l.cm,ts,pl⟩ s0 W':=by
  obtain ⟨gl,cap,lp,ms',h1,h2,h3,h4⟩:=h
  exact ⟨gl,cap,lp,ms,zbq q h1 (nin h1 h4 (by decide)),zbq q h2 (nin h2 h4 (by decide)),h3,k⟩
theorem EpIs.line {base : Nat} {sec grp:List Int} {num leaf:Int} {e:Ep} {W:World} (h:EpIs base sec 2 grp num leaf e W):∃ l:Ln,e=⟨l.gc,grp,num,leaf⟩∧Qbo l (QbI sec 2 0) W∧l.ts=[]∧l.pl=0∧base≤l.cg∧base≤l.cm:=by
  obtain ⟨gc,g1,n1,l1⟩:=e
  obtain ⟨e1,e2,e3,w0,hw0,gc',gl,cap,lp,ns,hp,-,hn,hgc,hgl,hall,-,-⟩:=h
  simp only at e1 e2 e3 hp
  subst e1 e2 e3
  simp only [zax.injEq,Option.some.injEq,Addr.mk.injEq,and_true] at hp
  subst hp
  obtain ⟨p,hp0⟩:∃ p,ns[0]? = some p:=⟨ns[0]'(by rw [hn]; decide),by simp⟩
  obtain ⟨a1,a2,a3,a4⟩:=hall 0 p hp0
  exact ⟨⟨gc,p.1,p.2,[],0⟩,rfl,⟨gl,cap,lp,[],hgc,hgl,a1,a2⟩,rfl,rfl,qT hw0 a3,qT hw0 a4⟩
def pG5 : List Int:=5::zad 31 0
def secE (e : Nat):List Int:=((e:Nat):Int)::1::zad 30 0
theorem QcY {a : Int} {l:List Int} (h:0≤a∧a≤255) (k:Qai l):Qai (a::l):=fun x hx=>by
  rcases zaf.1 hx with rfl | h2
  · exact h
  · exact k x h2
theorem bytes_zeros (n : Nat):Qai (zad n 0):=fun x hx=>by rw [List.eq_of_mem_replicate hx]; exact ⟨by decide,by decide⟩
theorem QjE : Qai pG5:=QcY ⟨by decide,by decide⟩ (bytes_zeros 31)
theorem QlR {e : Nat} (h:e≤255):Qai (secE e):=QcY ⟨by omega,by omega⟩ (QcY ⟨by decide,by decide⟩ (bytes_zeros 30))
def esV (lo hi:Nat) (leaf:Int) (gc:Nat→Nat):List Ep:=(zay (hi-lo)).map fun i=>⟨gc (lo+i),pG5,((lo+i:Nat):Int),leaf⟩
theorem Qfk (lo hi:Nat) (leaf:Int) (gc:Nat→Nat):(esV lo hi leaf gc).length=hi-lo:=by unfold esV; rw [zaz,List.length_range]
theorem Qmi {lo hi i:Nat} {leaf:Int} {gc:Nat→Nat} (h:i<hi-lo):(esV lo hi leaf gc)[i]? = some ⟨gc (lo+i),pG5,((lo+i:Nat):Int),leaf⟩:=by
  unfold esV
  rw [za0,za1 h]; rfl
theorem Qhy {lo hi:Nat} {leaf:Int} {gc:Nat→Nat} {e:Ep} (h:e∈esV lo hi leaf gc):∃ j,lo≤j∧j<hi∧e=⟨gc j,pG5,((j:Nat):Int),leaf⟩:=by
  unfold esV at h
  obtain ⟨i,hi,rfl⟩:=za2.1 h
  rw [za3] at hi
  exact ⟨lo+i,by omega,by omega,rfl⟩
theorem Ql3 {lo hi:Nat} (h:lo≤hi) (leaf:Int) (gc:Nat→Nat) (g:Nat):esV lo hi leaf gc++[⟨g,pG5,((hi:Nat):Int),leaf⟩]=esV lo (hi+1) leaf (fun j=>if j=hi then g else gc j):=by
  unfold esV
  rw [show hi+1-lo=(hi-lo)+1 by omega,za4,za5,List.map_singleton]
  congr 1
  · apply za6
    intro i hi2
    rw [za3] at hi2
    show _=(⟨if lo+i=hi then g else gc (lo+i),pG5,((lo+i:Nat):Int),leaf⟩:Ep)
    rw [if_neg (by omega)]
  · show _=[(⟨if lo+(hi-lo)=hi then g else gc (lo+(hi-lo)),pG5,((lo+(hi-lo):Nat):Int),leaf⟩:Ep)]
    rw [show lo+(hi-lo)=hi by omega,if_pos rfl]
theorem Ql4 {lo hi:Nat} (h:lo<hi) (leaf:Int) (gc:Nat→Nat):(esV lo hi leaf gc).drop 1=esV (lo+1) hi leaf gc:=by
  unfold esV
  obtain ⟨n,hn⟩:∃ n,hi-lo=n+1:=⟨hi-lo-1,by omega⟩
  rw [hn,show hi-(lo+1)=n by omega,List.range_succ_eq_map,za7,List.drop_one,List.tail_cons,List.map_map]
  apply za6
  intro i _
  show (⟨gc (lo+(i+1)),pG5,((lo+(i+1):Nat):Int),leaf⟩:Ep)=_
  rw [show lo+(i+1)=lo+1+i by omega]
theorem Qlt (e : Nat) (leaf:Int) (gc:Nat→Nat) (g:Nat):QjY (esV (e-4) e leaf gc++[⟨g,pG5,((e:Nat):Int),leaf⟩])=esV (e+1-4) (e+1) leaf (fun j=>if j=e then g else gc j):=by
  unfold QjY
  rw [Ql3 (by omega),Qfk]
  by_cases h:e+1-(e-4)≤4
  · rw [if_pos h,show e+1-4=e-4 by omega]
  · rw [if_neg h,Ql4 (by omega),show e-4+1=e+1-4 by omega]
structure Bx (g base : Nat) (leaf : Int) (e : Nat) (gc : Nat → Nat) (v : Value) (W : World) : Prop where
  row:W.heap[g]? = some (.cells (cat [#[v],#[.bool false]]) 49)
  own:OwE base (esV (e-4) e leaf gc) v W
  nil:e=0→v=.slice none 0 0
theorem Bx.keep {g base e:Nat} {leaf:Int} {gc:Nat→Nat} {v:Value} {W W':World} (h:Bx g base leaf e gc v W) (h1:W'.heap[g]? = W.heap[g]?) (h2:∀ k,v.ownBlock=some k→W'.heap[k]? = W.heap[k]?):Bx g base leaf e gc v W':=⟨h1.trans h.row,h.own.keep h2,h.nil⟩
theorem OwE.at {base : Nat} {es:List Ep} {v:Value} {W:World} (h:OwE base es v W) {k:Nat} (e:v.ownBlock=some k):base≤k∧∃ cur,W.heap[k]? = some (.cells cur 55):=by
  rcases h.row.2 with ⟨rfl,_⟩ | ⟨g',c,cur,rfl,q2,q3,_⟩
  · cases e
  · obtain rfl:g'=k:=Option.some.inj e
    exact ⟨q2,cur,q3⟩
theorem Bx.keeps {g base e:Nat} {leaf:Int} {gc:Nat→Nat} {v:Value} {gs:List Nat} {W W':World} (h:Bx g base leaf e gc v W) (q:Qaf gs W W') (h1:g∉gs) (h2:∀ k,v.ownBlock=some k→k∉gs):Bx g base leaf e gc v W' :=
  h.keep (q.block g (Qaq h.row) h1) fun k hk=>q.block k (by obtain ⟨-,c,r⟩:=h.own.at hk; exact Qaq r) (h2 k hk)
theorem Bx.ext {g base e:Nat} {leaf:Int} {gc:Nat→Nat} {v:Value} {W W':World} (h:Bx g base leaf e gc v W) (q:Ext W W'):Bx g base leaf e gc v W' :=
  h.keep (q.block g (Qaq h.row)) fun k hk=>q.block k (by obtain ⟨-,c,r⟩:=h.own.at hk; exact Qaq r)
theorem Bx.line {g base e:Nat} {leaf:Int} {gc:Nat→Nat} {v:Value} {l:Ln} {s0:List Int} {W W':World} (h:Bx g base leaf e gc v W) (k:Qbo l s0 W) (q:Qaf [l.cg,l.cm] W W'):Bx g base leaf e gc v W':=by
  obtain ⟨gl,cap,lp,ms,-,-,-,k4⟩:=k
  exact h.keeps q (nin h.row k4 (by decide)) fun k hk=>by obtain ⟨-,c,r⟩:=h.own.at hk; exact nin r k4 (by decide)
structure Tb (tc tq th tr : TypeId) (w : World) : Prop where
  c:w.heap[4]? = some (.cells (ints .u64 QaR) tc)
  q:w.heap[3]? = some (.cells (ints .u64 Qa9) tq)
  r:w.heap[1]? = some (.cells (ints .i64 qQ) tr)
  h:w.heap[0]? = some (.cells (ints .u32 qH) th)
  T:Seat.TabAt w
theorem Tb.ext {tc tq th tr:TypeId} {w W:World} (h:Tb tc tq th tr w) (e:Ext w W):Tb tc tq th tr W:=⟨Qaa h.c e,Qaa h.q e,Qaa h.r e,Qaa h.h e,h.T.ext e⟩
theorem QfA {g : Nat} {W W':World} (q:ExtB g W W'):Qaf [g] W W':=Qaf.but (zbp _ _) q (.inl List.mem_cons_self)
theorem Qk1 (g base:Nat) (leaf:Int) (hl0:0≤leaf) (hl1:leaf<4) (e:Nat) (he:e≤5) (gc:Nat→Nat) (v:Value) (w:World) (hb:base≤w.heap.size) (h:Bx g base leaf e gc v w) (tc tq th tr:TypeId) (T:Tb tc tq th tr w) :
    Calls Tryd.prog 7 #[.pointer (some ⟨g,0,none⟩),.agg (ints .u8 pG5),.int .i64 ((e:Nat):Int),.agg (ints .u8 (secE e)),.int .i64 4,.int .i64 leaf] w (fun x W=>x=.returned .nilIface∧Qaf (ownL v++[g]) w W∧Qbv w W∧∃ (v':Value) (l:Ln),Bx g base leaf (e+1) (fun j=>if j=e then l.gc else gc j) v' W∧Qbo l (QbI (secE e) 2 0) W∧l.ts=[]∧l.pl=0∧w.heap.size≤l.cg∧w.heap.size≤l.cm∧∀ c,v'.ownBlock=some c→v.ownBlock=some c∨w.heap.size≤c):=by
  by_cases h0:e=0
  · subst h0
    obtain rfl:=h.nil rfl
    refine (Qh0 g pG5 (secE 0) 0 leaf 2 (by decide) rfl rfl (QlR (by decide)) (by decide) (by decide) hl0 hl1 tc tq w h.row T.c T.q T.T).mono ?_
    rintro x W ⟨rfl,q,e1,v',r,ho,hE⟩
    obtain ⟨l,rfl,h1,h2,h3,h4,h5⟩:=hE.line
    exact ⟨rfl,QfA q,Qbv.but q h.row,v',l,⟨r,OwE.base hb ho,fun h=>by cases h⟩,h1,h2,h3,h4,h5,fun c hc=>.inr (ho.at hc).1⟩
  · refine (QmX g pG5 (secE e) ((e:Nat):Int) leaf 2 (by decide) rfl rfl (QlR (by omega)) (by omega) (by omega) hl0 hl1 tc tq w base hb (esV (e-4) e leaf gc) (by rw [Qfk]; omega) v h.row h.own (fun x hx=>by obtain ⟨j,-,-,rfl⟩:=Qhy hx; rfl) (fun x hx=>by obtain ⟨j,-,h2,rfl⟩:=Qhy hx; show ((j:Nat):Int)<_; omega) T.c T.q T.T).mono ?_
    rintro x W ⟨rfl,q,k,e1,v',r,ho,hE,hn⟩
    obtain ⟨l,rfl,h1,h2,h3,h4,h5⟩:=hE.line
    rw [Qlt] at ho
    exact ⟨rfl,q,k,v',l,⟨r,ho,fun h=>by cases h⟩,h1,h2,h3,h4,h5,hn⟩
end Pk
end
section
namespace Pk
open Go Go.RowKit
open Rely Auto Own Sha
open Cha
open Ae hiding run_storeQ
open Cn hiding nb_new run_extractT
theorem QoK (gc gl len cap:Nat) (lp:Array Value) (w:World) (hgc:w.heap[gc]? = some (.cells #[.slice (some ⟨gl,0,none⟩) len cap] 71)) (hgl_:w.heap[gl]? = some (.cells lp 73)) (cg:Nat) (hi:0<len) (hli:lp[0]? = some (.pointer (some ⟨cg,0,none⟩))) (tc tq:TypeId) (hc:w.heap[4]? = some (.cells (ints .u64 QaR) tc)) (hq:w.heap[3]? = some (.cells (ints .u64 Qa9) tq)) {cm:Nat} (s0:List Int) (ms:List (Int×List Int)) (hch:ChSt cg cm s0 [0] 1 ms w) :
    Calls Tryd.prog 24 #[.pointer (some ⟨gc,0,none⟩),.int .i64 0,.int .i64 0] w (Ret w (.tuple #[.agg (cat [#[.int .i64 0],ints .u8 (zad 32 0),#[.slice none 0 0]]),.iface 41 (.int .i64 7)])):=by
  have h:=Qme gc gl len cap lp w hgc hgl_ cg 0 hi hli tc tq hc hq hch 0 (by decide)
  rw [show chkN [0] 1 0=7 by decide] at h
  exact h
set_option maxRecDepth 100000 in
theorem QnP (gb ge ce gc:Nat) (tl:Array Value) (grp:List Int) (hgl:grp.length=32) (w:World) (hgb:w.heap[gb]? = some (.cells (cat [#[.slice (some ⟨ge,0,none⟩) 1 ce],#[.bool false]]) 49)) (hge:w.heap[ge]? = some (.cells (cat [#[.pointer (some ⟨gc,0,none⟩)],ints .u8 grp,#[.int .i64 0],#[.int .i64 1],tl]) 55)) (gl len cap:Nat) (lp:Array Value) (hgc:w.heap[gc]? = some (.cells #[.slice (some ⟨gl,0,none⟩) len cap] 71)) (hgl_:w.heap[gl]? = some (.cells lp 73)) (cg cm:Nat) (hi:0<len) (hli:lp[0]? = some (.pointer (some ⟨cg,0,none⟩))) (s0:List Int) (ms:List (Int×List Int)) (hch:ChSt cg cm s0 [0] 1 ms w) (tc tq:TypeId) (hc:w.heap[4]? = some (.cells (ints .u64 QaR) tc)) (hq:w.heap[3]? = some (.cells (ints .u64 Qa9) tq)) (fs:List Int) (hfl:fs.length≤1040) (hfb:Qai fs) (hgrb:Qai grp) (v:Value) (hst:∀ W,Ext w W→RdK .u8 W.heap.size fs v W) :
    Calls Tryd.prog 9 #[.pointer (some ⟨gb,0,none⟩),.agg (cat [ints .u8 grp,#[.int .i64 0],#[.int .i64 0],#[.int .i64 0],#[v]])] w (Ret w (.tuple #[.slice none 0 0,.iface 41 (.int .i64 7)])):=by
  obtain ⟨a_s,c_s,rfl,-⟩:=id (hst _ (zbg _))
  obtain ⟨xs,hxs⟩:=Qf5 grp fs hgl hfl
  refine enter 91 [(0,.pointer (some ⟨gb,0,none⟩)),(1,.agg (cat [ints .u8 (grp),#[.int .i64 0],#[.int .i64 0],#[.int .i64 0],#[.slice a_s fs.length c_s]]))] Tryd.func9 rfl rfl kj rfl ?_
  refine wp_seq_k fun K7 hK7=>?_
  refine Qae ?_
  refine Qar (cat [ints .u8 (grp),#[.int .i64 0],#[.int .i64 0],#[.int .i64 0],#[.slice a_s fs.length c_s]]) 35 3 rfl kj kj fun g8 W1 l8 e1 r8_1=>?_
  have x1:Ext w W1:=zbk (zbg w) e1
  have b8:w.heap.size≤g8:=qT (zbg w).size l8
  refine Qab (.slice none 0 0) 4 rfl kj kj ?_
  refine Qab (.nilIface) 5 rfl kj kj ?_
  refine Qal ?_
  refine hK7 _ _ ?_
  refine wp_seq_k fun K9 hK9=>?_
  refine wp_seq_k fun K10 hK10=>?_
  refine Qae ?_
  refine Qab (.pointer (some ⟨gb,0,none⟩)) 14 rfl kj kj ?_
  have r1_1:=(Qaa hgb e1)
  refine Qau (.pointer (some ⟨ge,0,none⟩)) 16 #[.pointer (some ⟨gb,0,none⟩)] 15 rfl kj kj (Qfl gb ge ce gc tl grp hgl _ r1_1) fun W2 e2=>?_
  have x2:Ext w W2:=zbk x1 e2
  refine Qab (.bool false) 16 rfl kj kj ?_
  refine Qal ?_
  refine hK10 _ _ ?_
  refine cond_false kj ?_
  refine wp_skip ?_
  refine hK9 _ _ ?_
  refine wp_seq_k fun K11 hK11=>?_
  refine wp_seq_k fun K12 hK12=>?_
  refine Qae ?_
  have r8_2:=(Qaa r8_1 e2)
  refine Qab (.agg (cat [ints .u8 (grp),#[.int .i64 0],#[.int .i64 0],#[.int .i64 0],#[.slice a_s fs.length c_s]])) 19 rfl kj (Qap 35 _ g8 35 _ _ r8_2 rfl kj kj (isz (n:=36) kj (by rw [Qac,Qac,Qac,Qac,Qac]; simp only [qS,cat,((Qat _ _).trans hgl)]; rfl))) ?_
  refine Qav (fun v W'=>(Wr.PutR W2.heap.size (some xs)) v W'∧Ext W2 W') 22 #[.agg (cat [ints .u8 (grp),#[.int .i64 0],#[.int .i64 0],#[.int .i64 0],#[.slice a_s fs.length c_s]])] 20 rfl kj kj ((Wr.PutPacket_S grp 0 0 0 fs a_s c_s _ hgl hgrb (by omega) hfb (hst _ x2) xs hxs).mono (by rintro e w' ⟨v,rfl,e1,hv⟩; exact ⟨v,rfl,hv,e1⟩)) fun vv14 W3 hh14=>?_
  obtain ⟨hv14,e3⟩:=hh14
  have x3:Ext w W3:=zbk x2 e3
  obtain ⟨pu13,rfl,hpu13⟩:=hv14
  refine Qab (.tuple #[pu13,.nilIface]) 18 rfl kj kj ?_
  refine Qab (pu13) 21 rfl kj kj ?_
  refine Qab (.nilIface) 22 rfl kj kj ?_
  refine Qab (pu13) 6 rfl kj kj ?_
  refine Qab (.nilIface) 7 rfl kj kj ?_
  refine Qal ?_
  refine hK12 _ _ ?_
  refine wp_seq_k fun K15 hK15=>?_
  refine Qae ?_
  refine Qab (.nilIface) 23 rfl kj kj ?_
  refine Qab (.bool false) 24 rfl kj kj ?_
  refine Qal ?_
  refine hK15 _ _ ?_
  refine cond_false kj ?_
  refine wp_skip ?_
  refine hK11 _ _ ?_
  refine wp_seq_k fun K16 hK16=>?_
  refine wp_seq_k fun K17 hK17=>?_
  refine Qae ?_
  refine Qab (.pointer (some ⟨g8,35,none⟩)) 26 rfl kj kj ?_
  have r8_3:=(Qaa r8_2 e3)
  refine Qab (.slice a_s fs.length c_s) 27 rfl kj (Qad 33 _ g8 35 35 _ (.slice a_s fs.length c_s) _ r8_3 rfl kj (Qam [ints .u8 (grp),#[.int .i64 0],#[.int .i64 0],#[.int .i64 0]] [#[.slice a_s fs.length c_s]] [] 35 (by rw [Qac,Qac,Qac,Qac]; simp only [qS,cat,((Qat _ _).trans hgl)]; rfl) 0 _ rfl) kj) ?_
  refine Qab (.int .i64 ((fs.length:Nat):Int)) 28 rfl kj kj ?_
  refine Qab (.bool false) 29 rfl kj (Qah (u:=.bool (decide (((fs.length:Nat):Int)>1040))) kj (congrArg zae (decide_eq_false (by omega)))) ?_
  refine Qal ?_
  refine hK17 _ _ ?_
  refine cond_false kj ?_
  refine wp_skip ?_
  refine hK16 _ _ ?_
  refine wp_seq_k fun K18 hK18=>?_
  refine Qae ?_
  refine Qab (.pointer (some ⟨gb,0,none⟩)) 31 rfl kj kj ?_
  refine Qab (.agg (cat [ints .u8 (grp),#[.int .i64 0],#[.int .i64 0],#[.int .i64 0],#[.slice a_s fs.length c_s]])) 32 rfl kj (Qap 35 _ g8 35 _ _ r8_3 rfl kj kj (isz (n:=36) kj (by rw [Qac,Qac,Qac,Qac,Qac]; simp only [qS,cat,((Qat _ _).trans hgl)]; rfl))) ?_
  have r1_2:=(Qaa r1_1 e2)
  have r1_3:=(Qaa r1_2 e3)
  have r2_1:=(Qaa hge e1)
  have r2_2:=(Qaa r2_1 e2)
  have r2_3:=(Qaa r2_2 e3)
  refine Qau (.pointer (some ⟨ge,0,none⟩)) 23 #[.pointer (some ⟨gb,0,none⟩),.agg (cat [ints .u8 (grp),#[.int .i64 0],#[.int .i64 0],#[.int .i64 0],#[.slice a_s fs.length c_s]])] 33 rfl kj kj (of_1 gb ge ce gc tl grp hgl _ r1_3 r2_3 a_s _ c_s) fun W4 e4=>?_
  have x4:Ext w W4:=zbk x3 e4
  refine Qab (.pointer (some ⟨ge,0,none⟩)) 8 rfl kj kj ?_
  refine Qal ?_
  refine hK18 _ _ ?_
  refine wp_seq_k fun K19 hK19=>?_
  refine wp_seq_k fun K20 hK20=>?_
  refine Qae ?_
  refine Qab (.pointer (some ⟨ge,0,none⟩)) 34 rfl kj kj ?_
  refine Qab (.bool false) 35 rfl kj kj ?_
  refine Qal ?_
  refine hK20 _ _ ?_
  refine cond_false kj ?_
  refine wp_skip ?_
  refine hK19 _ _ ?_
  refine wp_seq_k fun K21 hK21=>?_
  refine wp_seq_k fun K22 hK22=>?_
  refine QaL 7 [⟨none,[(3,none)]⟩,⟨none,[(37,some 0)]⟩,⟨none,[(8,none)]⟩,⟨none,[(39,some 2)]⟩,⟨none,[(40,some 3)]⟩,⟨none,[(41,some 4)]⟩,⟨none,[(38,some 1),(42,some 5)]⟩] kj kj fun F hF=>?_
  refine Qak (.pointer (some ⟨g8,33,none⟩)) kj kj (fun W=>by kernel_rfl) ?_
  have r8_4:=(Qaa r8_3 e4)
  refine Qa7 (.int .i64 0) kj kj (fun W hR=>(Qad 3 _ g8 33 35 _ (.int .i64 0) _ (Qaa (Qaa r8_4 (Qaj _)) hR) rfl kj (Qam [ints .u8 (grp),#[.int .i64 0]] [#[.int .i64 0]] [#[.int .i64 0],#[.slice a_s fs.length c_s]] 33 (by rw [Qac,Qac]; simp only [qS,cat,((Qat _ _).trans hgl)]; rfl) 0 _ rfl) kj)) ?_
  refine Qak (.pointer (some ⟨ge,0,none⟩)) kj kj (fun W=>by kernel_rfl) ?_
  refine Qak (.pointer (some ⟨ge,0,none⟩)) kj kj (fun W=>by kernel_rfl) ?_
  refine Qak (.pointer (some ⟨ge,34,none⟩)) kj kj (fun W=>by kernel_rfl) ?_
  have r2_4:=(Qaa r2_3 e4)
  refine Qa7 (.int .i64 1) kj kj (fun W hR=>(Qad 3 _ ge 34 55 _ (.int .i64 1) _ (Qaa (Qaa r2_4 (Qaj _)) hR) rfl kj (Qam [#[.pointer (some ⟨gc,0,none⟩)],ints .u8 (grp),#[.int .i64 0]] [#[.int .i64 1]] [tl] 34 (by rw [Qac,Qac,Qac]; simp only [qS,cat,((Qat _ _).trans hgl)]; rfl) 0 _ rfl) kj)) ?_
  refine Qak (.bool false) kj kj (fun W=>by kernel_rfl) ?_
  refine QaQ (hF _ kj fun W5 e5=>?_)
  simp only [ups,up,Kn.val,zam,zan,zao,zap,zak,zal]
  clear hF
  have x5:Ext w W5:=zbk x4 e5
  refine Qal ?_
  refine hK22 _ _ ?_
  refine cond_false kj ?_
  refine wp_skip ?_
  refine hK21 _ _ ?_
  refine wp_seq_k fun K23 hK23=>?_
  refine QbS (fun W=>True) [⟨none,[(8,none)]⟩,⟨none,[(46,some 0)]⟩,⟨none,[(47,some 1)]⟩,⟨none,[(48,some 2)]⟩,⟨none,[(3,none)]⟩,⟨none,[(50,some 4)]⟩,⟨none,[(3,none)]⟩,⟨none,[(52,some 6)]⟩,⟨none,[(49,some 3),(51,some 5),(53,some 7)]⟩,⟨none,[(54,some 8)]⟩,⟨none,[(45,some 9)]⟩,⟨none,[(45,some 9)]⟩,⟨none,[]⟩,⟨none,[(9,some 12),(55,some 10)]⟩,⟨none,[(56,some 11)]⟩] [12] [11,14] kj kj kj (fun W hR=>trivial) fun F hF=>?_
  refine Qba (.pointer (some ⟨ge,0,none⟩)) kj kj rfl (fun W=>by kernel_rfl) ?_
  refine Qba (.pointer (some ⟨ge,0,none⟩)) kj kj rfl (fun W=>by kernel_rfl) ?_
  refine Qba (.pointer (some ⟨ge,0,none⟩)) kj kj rfl (fun W=>by kernel_rfl) ?_
  have r2_5:=(Qaa r2_4 e5)
  refine QbM (.pointer (some ⟨gc,0,none⟩)) kj kj kj rfl (fun W hR=>(Qad 53 _ ge 0 55 _ (.pointer (some ⟨gc,0,none⟩)) _ (Qaa (Qaa r2_5 (Qaj _)) hR) rfl kj (Qam [] [#[.pointer (some ⟨gc,0,none⟩)]] [ints .u8 (grp),#[.int .i64 0],#[.int .i64 1],tl] 0 kj 0 _ rfl) kj)) ?_
  refine Qba (.pointer (some ⟨g8,33,none⟩)) kj kj rfl (fun W=>by kernel_rfl) ?_
  have r8_5:=(Qaa r8_4 e5)
  refine QbM (.int .i64 0) kj kj kj rfl (fun W hR=>(Qad 3 _ g8 33 35 _ (.int .i64 0) _ (Qaa (Qaa r8_5 (Qaj _)) hR) rfl kj (Qam [ints .u8 (grp),#[.int .i64 0]] [#[.int .i64 0]] [#[.int .i64 0],#[.slice a_s fs.length c_s]] 33 (by rw [Qac,Qac]; simp only [qS,cat,((Qat _ _).trans hgl)]; rfl) 0 _ rfl) kj)) ?_
  refine Qba (.pointer (some ⟨g8,34,none⟩)) kj kj rfl (fun W=>by kernel_rfl) ?_
  refine QbM (.int .i64 0) kj kj kj rfl (fun W hR=>(Qad 3 _ g8 34 35 _ (.int .i64 0) _ (Qaa (Qaa r8_5 (Qaj _)) hR) rfl kj (Qam [ints .u8 (grp),#[.int .i64 0],#[.int .i64 0]] [#[.int .i64 0]] [#[.slice a_s fs.length c_s]] 34 (by rw [Qac,Qac,Qac]; simp only [qS,cat,((Qat _ _).trans hgl)]; rfl) 0 _ rfl) kj)) ?_
  have r3_1:=(Qaa hgc e1)
  have r3_2:=(Qaa r3_1 e2)
  have r3_3:=(Qaa r3_2 e3)
  have r3_4:=(Qaa r3_3 e4)
  have r3_5:=(Qaa r3_4 e5)
  have r4_1:=(Qaa hgl_ e1)
  have r4_2:=(Qaa r4_1 e2)
  have r4_3:=(Qaa r4_2 e3)
  have r4_4:=(Qaa r4_3 e4)
  have r4_5:=(Qaa r4_4 e5)
  have r5_1:=(Qaa hc e1)
  have r5_2:=(Qaa r5_1 e2)
  have r5_3:=(Qaa r5_2 e3)
  have r5_4:=(Qaa r5_3 e4)
  have r5_5:=(Qaa r5_4 e5)
  have r6_1:=(Qaa hq e1)
  have r6_2:=(Qaa r6_1 e2)
  have r6_3:=(Qaa r6_2 e3)
  have r6_4:=(Qaa r6_3 e4)
  have r6_5:=(Qaa r6_4 e5)
  refine Qjt (.tuple #[.agg (cat [#[.int .i64 0],ints .u8 (zad 32 0),#[.slice none 0 0]]),.iface 41 (.int .i64 7)]) 24 #[.pointer (some ⟨gc,0,none⟩),.int .i64 0,.int .i64 0] kj kj kj rfl (fun W=>by kernel_rfl) (fun W hR=>(fun W hR=>QoK gc gl len cap lp W (Qaa (Qaa r3_5 (Qaj _)) hR) (Qaa (Qaa r4_5 (Qaj _)) hR) cg hi hli tc tq (Qaa (Qaa r5_5 (Qaj _)) hR) (Qaa (Qaa r6_5 (Qaj _)) hR) s0 ms (hch.ext (zbh (zbh x5 (Qaj _)) hR))) W hR) ?_
  refine Qba (.tuple #[.agg (cat [#[.int .i64 0],ints .u8 (zad 32 0),#[.slice none 0 0]]),.iface 41 (.int .i64 7)]) kj kj rfl (fun W=>by kernel_rfl) ?_
  refine Qba (.agg (cat [#[.int .i64 0],ints .u8 (zad 32 0),#[.slice none 0 0]])) kj kj rfl (fun W=>by kernel_rfl) ?_
  refine Qba (.iface 41 (.int .i64 7)) kj kj rfl (fun W=>by kernel_rfl) ?_
  refine Qn7 (cat [#[.int .i64 0],ints .u8 (zad 32 0),#[.slice none 0 0]]) 60 kj kj (qR _) kj rfl (fun W=>by kernel_rfl) ?_
  refine Qcj rfl ?_
  refine Qba (.iface 41 (.int .i64 7)) kj kj rfl (fun W=>by kernel_rfl) ?_
  refine Qgn (hF _ kj fun W6 e6=>?_)
  simp only [zak,zal,fins,up]
  intro g24 l24 r24_6 n24
  have b24:w.heap.size≤g24:=qT x5.size l24
  clear hF
  have x6:Ext w W6:=zbk x5 e6
  refine Qcc _ g24 _ (cat [#[.int .i64 0],ints .u8 (zad 32 0),#[.slice none 0 0]]) 60 r24_6 rfl (Qao 60 _ _ g24 60 _ _ r24_6 rfl kj kj (isz (n:=34) kj (by rw [Qac,Qac,Qac]; simp only [qS,cat,((Qat _ _).trans (qZ (n:=32)))]; rfl)) (eqsz (n:=34) (by rw [Qac,Qac,Qac]; simp only [qS,cat,((Qat _ _).trans (qZ (n:=32)))]; rfl) (by rw [Qac,Qac,Qac]; simp only [qS,cat,((Qat _ _).trans (qZ (n:=32)))]; rfl)) (Qbn _ (by intro a ha; simp only [zaf,zag,or_false] at ha; rcases ha with rfl | rfl | rfl; exact (Qa6 _ rfl); exact (Qay _ _); exact (Qa6 _ rfl)))) (fun W hp=>trivial) fun W7 p7 r24_7=>?_
  have x7:Ext w W7:=zbj p7 x6 b24
  refine Qew ?_
  refine hK23 _ _ ?_
  refine wp_seq_k fun K25 hK25=>?_
  refine wp_seq_k fun K26 hK26=>?_
  refine Qae ?_
  refine Qab (.iface 41 (.int .i64 7)) 57 rfl kj kj ?_
  refine Qab (.bool true) 58 rfl kj kj ?_
  refine Qal ?_
  refine hK26 _ _ ?_
  refine cond_true kj ?_
  refine wp_seq_k fun K27 hK27=>?_
  refine Qae ?_
  refine Qab (.iface 41 (.int .i64 7)) 59 rfl kj kj ?_
  refine Qab (.slice none 0 0) 4 rfl kj kj ?_
  refine Qab (.iface 41 (.int .i64 7)) 5 rfl kj kj ?_
  refine Qal ?_
  refine hK27 _ _ ?_
  refine wp_ret ?_
  exact (show bodyPost _ _ _ .ret _ _ from ret2 (.slice none 0 0) (.iface 41 (.int .i64 7)) rfl (Qaz kj) (Qaz kj) ⟨rfl,x7⟩)
end Pk
end
section
namespace Pk
open Go Go.RowKit
open Rely Auto Own Sha
open Cha
open Ae hiding run_storeQ
open Cn hiding nb_new run_extractT
theorem QoG (w : World):Calls Tryd.prog 27 #[.iface 41 (.int .i64 7)] w (Ret w (.int .i64 7)):=by
  refine enter 19 [(0,.iface 41 (.int .i64 7))] Tryd.func27 rfl rfl kj rfl ?_
  refine wp_seq_k fun K1 hK1=>?_
  refine Qae ?_
  refine Qab (.int .i64 0) 2 rfl kj kj ?_
  refine Qal ?_
  refine hK1 _ _ ?_
  refine wp_seq_k fun K2 hK2=>?_
  refine wp_seq_k fun K3 hK3=>?_
  refine Qae ?_
  refine Qab (.iface 41 (.int .i64 7)) 5 rfl kj kj ?_
  refine Qab (.bool false) 6 rfl kj kj ?_
  refine Qal ?_
  refine hK3 _ _ ?_
  refine cond_false kj ?_
  refine wp_skip ?_
  refine hK2 _ _ ?_
  refine wp_seq_k fun K4 hK4=>?_
  refine Qae ?_
  refine Qab (.iface 41 (.int .i64 7)) 8 rfl kj kj ?_
  refine Qab (.tuple #[.int .i64 7,.bool true]) 9 rfl kj kj ?_
  refine Qab (.tuple #[.int .i64 7,.bool true]) 7 rfl kj kj ?_
  refine Qab (.int .i64 7) 10 rfl kj kj ?_
  refine Qab (.bool true) 11 rfl kj kj ?_
  refine Qab (.int .i64 7) 3 rfl kj kj ?_
  refine Qab (.bool true) 4 rfl kj kj ?_
  refine Qal ?_
  refine hK4 _ _ ?_
  refine wp_seq_k fun K5 hK5=>?_
  refine wp_seq_k fun K6 hK6=>?_
  refine Qae ?_
  refine Qab (.bool true) 12 rfl kj kj ?_
  refine Qab (.bool false) 13 rfl kj kj ?_
  refine Qab (.bool false) 14 rfl kj kj ?_
  refine Qab (.int .i64 7) 15 rfl kj kj ?_
  refine Qab (.bool false) 16 rfl kj kj ?_
  refine Qab (.bool false) 17 rfl kj kj ?_
  refine Qal ?_
  refine hK6 _ _ ?_
  refine cond_false kj ?_
  refine wp_skip ?_
  refine hK5 _ _ ?_
  refine wp_seq_k fun K7 hK7=>?_
  refine Qae ?_
  refine Qab (.int .i64 7) 18 rfl kj kj ?_
  refine Qab (.int .i64 7) 2 rfl kj kj ?_
  refine Qal ?_
  refine hK7 _ _ ?_
  refine wp_ret ?_
  repeat (first | with_reducible refine goR1 ?_ | with_reducible refine goR2 ?_)
  exact (show bodyPost _ _ _ .ret _ _ from ret1 (.int .i64 7) rfl (Qaz kj) ⟨rfl,(zbg w)⟩)
theorem is7 (w : World):Calls Tryd.prog 10 #[.iface 41 (.int .i64 7),.int .i64 7] w (Ret w (.bool true)):=by
  refine enter 9 [(0,.iface 41 (.int .i64 7)),(1,.int .i64 7)] Tryd.func10 rfl rfl kj rfl ?_
  refine wp_seq_k fun K1 hK1=>?_
  refine Qae ?_
  refine Qab (.bool false) 4 rfl kj kj ?_
  refine Qal ?_
  refine hK1 _ _ ?_
  refine wp_seq_k fun K2 hK2=>?_
  refine Qae ?_
  refine Qab (.iface 41 (.int .i64 7)) 5 rfl kj kj ?_
  refine Qau (.int .i64 7) 27 #[.iface 41 (.int .i64 7)] 6 rfl kj kj ((QoG) _) fun W1 e1=>?_
  have x1:Ext w W1:=zbk (zbg w) e1
  refine Qab (.int .i64 7) 7 rfl kj kj ?_
  refine Qab (.bool true) 8 rfl kj kj ?_
  refine Qab (.bool true) 4 rfl kj kj ?_
  refine Qal ?_
  refine hK2 _ _ ?_
  refine wp_ret ?_
  repeat (first | with_reducible refine goR1 ?_ | with_reducible refine goR2 ?_)
  exact (show bodyPost _ _ _ .ret _ _ from ret1 (.bool true) rfl (Qaz kj) ⟨rfl,x1⟩)
theorem unpack {base : Nat} {sec grp:List Int} {num leaf:Int} {e:Ep} {x:Value} {W:World} (ho:OwE base [e] x W) (hE:EpIs base sec 1 grp num leaf e W) :
    ∃ (ge ce gc gl cap:Nat) (tl lp:Array Value) (cg cm:Nat),x=.slice (some ⟨ge,0,none⟩) 1 ce∧base≤ge∧W.heap[ge]? = some (.cells (cat [#[.pointer (some ⟨gc,0,none⟩)],ints .u8 grp,#[.int .i64 num],#[.int .i64 leaf],tl]) 55) ∧
      W.heap[gc]? = some (.cells #[.slice (some ⟨gl,0,none⟩) 2 cap] 71)∧W.heap[gl]? = some (.cells lp 73)∧lp[0]? = some (.pointer (some ⟨cg,0,none⟩))∧ChSt cg cm (QbI sec 1 0) [] 0 [] W∧base≤cg∧base≤cm:=by
  obtain ⟨ge,ce,tl,h1,h2,h3⟩:=ho.tail
  obtain ⟨gc,g1,n1,l1⟩:=e
  obtain ⟨e1,e2,e3,w0,hw0,gc',gl,cap,lp,ns,hp,-,hn,hgc,hgl,hall,-,-⟩:=hE
  simp only at e1 e2 e3 hp
  subst e1 e2 e3
  simp only [zax.injEq,Option.some.injEq,Addr.mk.injEq,and_true] at hp
  subst hp
  obtain ⟨p,hp0⟩:∃ p,ns[0]? = some p:=⟨ns[0]'(by rw [hn]; decide),by simp⟩
  obtain ⟨a1,a2,a3,a4⟩:=hall 0 p hp0
  exact ⟨ge,ce,_,gl,cap,tl,lp,p.1,p.2,h1,h2,h3,hgc,hgl,a1,a2,qT hw0 a3,qT hw0 a4⟩
theorem Qbr {x cg cm b:Nat} (hx:x<b) (h1:b≤cg) (h2:b≤cm):x∉[cg,cm]:=Qax (by omega) (Qax (by omega) QaE)
theorem QfX {x cg cm b:Nat} (hx:b≤x) (h1:cg<b) (h2:cm<b):x∉[cg,cm]:=Qax (by omega) (Qax (by omega) QaE)
def pG_ : List Int:=1::zad 31 0
def pS_ : List Int:=2::zad 31 0
theorem pG_b : Qai pG_:=fun x hx=>by
  have:=za8.1 (show (pG_.all fun x=>decide (0≤x)&&decide (x≤255))=true by decide) x hx
  simpa using this
theorem pS_b : Qai pS_:=fun x hx=>by
  have:=za8.1 (show (pS_.all fun x=>decide (0≤x)&&decide (x≤255))=true by decide) x hx
  simpa using this
set_option maxRecDepth 100000 in
theorem QkC (tc tq th tr:TypeId) (w:World) (hc:w.heap[4]? = some (.cells (ints .u64 QaR) tc)) (hq:w.heap[3]? = some (.cells (ints .u64 Qa9) tq)) (hr4:w.heap[1]? = some (.cells (ints .i64 qQ) tr)) (hh4:w.heap[0]? = some (.cells (ints .u32 qH) th)) (hT:Seat.TabAt w):Calls Tryd.prog 5 #[] w (Ret w (.bool true)):=by
  have htb:Qai [104,105]:=fun x hx=>by
    have:=za8.1 (show (([104,105]:List Int).all fun x=>decide (0≤x)&&decide (x≤255))=true by decide) x hx
    simpa using this
  obtain ⟨fs,es⟩:∃ z,QcS ((keyV (itV (QbI pS_ 1 0) 0)).take 32) ((keyV (itV (QbI pS_ 1 0) 0)).drop 32) (pG_++[0,0,0,0]++[0]++[0,0,0,0]) [104,105]=z:=⟨_,rfl⟩
  have lfs:fs.length=18:=by rw [←es]; exact Qcx _ _ _ _
  have hfb:Qai fs:=es▸Qc7 _ _ _ _
  refine enter 65 [] Tryd.func5 rfl rfl kj rfl ?_
  refine wp_seq_k fun K5 hK5=>?_
  refine Qae ?_
  refine Qab (.bool false) 0 rfl kj kj ?_
  refine Qal ?_
  refine hK5 _ _ ?_
  refine wp_seq_k fun K6 hK6=>?_
  refine Qae ?_
  refine Qav (fun v W'=>(fun v W=>∃ g,v=.pointer (some ⟨g,0,none⟩)∧w.heap.size≤g∧W.heap[g]? = some (.cells (cat [#[.slice none 0 0],#[.bool false]]) 49)) v W'∧Ext w W') 6 #[] 8 rfl kj kj ((newB _).mono (by rintro e w' ⟨v,rfl,e1,hv⟩; exact ⟨v,rfl,hv,e1⟩)) fun vv7 W1 hh7=>?_
  obtain ⟨hv7,e1⟩:=hh7
  have x1:Ext w W1:=zbk (zbg w) e1
  obtain ⟨gs8,rfl,ls8,rs8⟩:=hv7
  have bs8:w.heap.size≤gs8:=qT (zbg w).size ls8
  refine Qav (fun v W'=>(fun v W=>∃ g,v=.pointer (some ⟨g,0,none⟩)∧W1.heap.size≤g∧W.heap[g]? = some (.cells (cat [#[.slice none 0 0],#[.bool false]]) 49)) v W'∧Ext W1 W') 6 #[] 9 rfl kj kj ((newB _).mono (by rintro e w' ⟨v,rfl,e1,hv⟩; exact ⟨v,rfl,hv,e1⟩)) fun vv9 W2 hh9=>?_
  obtain ⟨hv9,e2⟩:=hh9
  have x2:Ext w W2:=zbk x1 e2
  obtain ⟨gs10,rfl,ls10,rs10⟩:=hv9
  have bs10:w.heap.size≤gs10:=qT x1.size ls10
  refine Qab (.pointer (some ⟨gs8,0,none⟩)) 1 rfl kj kj ?_
  refine Qab (.pointer (some ⟨gs10,0,none⟩)) 2 rfl kj kj ?_
  refine Qal ?_
  refine hK6 _ _ ?_
  refine wp_seq_k fun K11 hK11=>?_
  refine wp_seq_k fun K12 hK12=>?_
  refine Qae ?_
  refine Qab (.pointer (some ⟨gs8,0,none⟩)) 10 rfl kj kj ?_
  refine Qab (.agg (ints .u8 (pG_))) 11 rfl kj kj ?_
  refine Qab (.agg (ints .u8 (pS_))) 12 rfl kj kj ?_
  have r8_2:=(Qaa rs8 e2)
  have r1_1:=(Qaa hc e1)
  have r1_2:=(Qaa r1_1 e2)
  have r2_1:=(Qaa hq e1)
  have r2_2:=(Qaa r2_1 e2)
  have r3_1:=(Qaa hr4 e1)
  have r3_2:=(Qaa r3_1 e2)
  have r4_1:=(Qaa hh4 e1)
  have r4_2:=(Qaa r4_1 e2)
  refine Qav (fun v W'=>v=.nilIface∧ExtB gs8 W2 W'∧∃ (e:Ep) (x:Value),W'.heap[gs8]? = some (.cells (cat [#[x],#[.bool false]]) 49)∧OwE W2.heap.size [e] x W'∧EpIs W2.heap.size pS_ 1 pG_ 0 0 e W') 7 #[.pointer (some ⟨gs8,0,none⟩),.agg (ints .u8 (pG_)),.int .i64 0,.agg (ints .u8 (pS_)),.int .i64 2,.int .i64 0] 13 rfl kj kj ((Qh0 gs8 pG_ pS_ 0 0 1 (by decide) rfl rfl pS_b (by decide) (by decide) (by decide) (by decide) tc tq _ r8_2 r1_2 r2_2 (hT.ext x2)).mono (by rintro e w' ⟨rfl,h1,h2⟩; exact ⟨_,rfl,rfl,h1,h2⟩)) fun v W3 h13=>?_
  obtain ⟨rfl,q3,epa,xva,rba,hOa,hEa⟩:=h13
  obtain ⟨gea,cea,gca,gla,capa,tla,lpa,cga,cma,rfl,lgea,rgea,rgca,rgla,hlia,hcha,lcga,lcma⟩:=unpack hOa hEa
  have x3:Ext w W3:=ExtB.up x2 q3 bs8
  have lwa:w.heap.size≤cga:=qT x2.size lcga
  have lva:w.heap.size≤cma:=qT x2.size lcma
  refine Qab (.bool false) 14 rfl kj kj ?_
  refine Qab (.bool false) 15 rfl kj kj ?_
  refine Qab (.pointer (some ⟨gs10,0,none⟩)) 16 rfl kj kj ?_
  refine Qab (.agg (ints .u8 (pG_))) 17 rfl kj kj ?_
  refine Qab (.agg (ints .u8 (pS_))) 18 rfl kj kj ?_
  have hcha1:ChSt cga cma (QbI pS_ 1 0) [] 0 [] W3:=hcha
  refine Qav (fun v W'=>v=.nilIface∧ExtB gs10 W3 W'∧∃ (e:Ep) (x:Value),W'.heap[gs10]? = some (.cells (cat [#[x],#[.bool false]]) 49)∧OwE W3.heap.size [e] x W'∧EpIs W3.heap.size pS_ 1 pG_ 0 1 e W') 7 #[.pointer (some ⟨gs10,0,none⟩),.agg (ints .u8 (pG_)),.int .i64 0,.agg (ints .u8 (pS_)),.int .i64 2,.int .i64 1] 19 rfl kj kj ((Qh0 gs10 pG_ pS_ 0 1 1 (by decide) rfl rfl pS_b (by decide) (by decide) (by decide) (by decide) tc tq _ (zbl q3 rs10 (Ne.symm (Qag rs8 ls10))) (zbl q3 r1_2 (zaj (qL (Qaq hc) bs8))) (zbl q3 r2_2 (zaj (qL (Qaq hq) bs8))) (hT.ext x3)).mono (by rintro e w' ⟨rfl,h1,h2⟩; exact ⟨_,rfl,rfl,h1,h2⟩)) fun v W4 h17=>?_
  obtain ⟨rfl,q4,epb,xvb,rbb,hOb,hEb⟩:=h17
  obtain ⟨geb,ceb,gcb,glb,capb,tlb,lpb,cgb,cmb,rfl,lgeb,rgeb,rgcb,rglb,hlib,hchb,lcgb,lcmb⟩:=unpack hOb hEb
  have x4:Ext w W4:=ExtB.up x3 q4 bs10
  have lwb:w.heap.size≤cgb:=qT x3.size lcgb
  have lvb:w.heap.size≤cmb:=qT x3.size lcmb
  have hlb:gs10<W2.heap.size:=Qaq rs10
  have hcha2:=hcha1.keep (q4.2.2.2.2 cga hcha1.glt (by omega)) (q4.2.2.2.2 cma hcha1.mp.lt (by omega))
  have hcga2:=hcha1.glt
  have hcma2:=hcha1.mp.lt
  refine Qab (.bool false) 20 rfl kj kj ?_
  refine Qab (.bool false) 21 rfl kj kj ?_
  refine Qal ?_
  refine hK12 _ _ ?_
  refine cond_false kj ?_
  refine wp_skip ?_
  refine hK11 _ _ ?_
  refine wp_seq_k fun K21 hK21=>?_
  refine Qae ?_
  refine Qab (.pointer (some ⟨gs8,0,none⟩)) 23 rfl kj kj ?_
  refine QaU (ints .u8 ([104,105])) 5 2 24 rfl kj kj fun g22 W5 l22 e5 r22_5=>?_
  have x5:Ext w W5:=zbk x4 e5
  have b22:w.heap.size≤g22:=qT x4.size l22
  refine Qjx (xs:=[104,105]) 33 5 (.tmp 24) 25 rfl rfl kj kj kj kj rfl (show 2≤maxLen by decide) r22_5 fun W6 p6 r22_6 rd23=>?_
  have x6:Ext w W6:=zbj p6 x5 b22
  have r1_5:=(Qaa (zbl q4 (zbl q3 r1_2 (zaj (qL (Qaq hc) bs8))) (zaj (qL (Qaq hc) bs10))) e5)
  have r1_6:=(zbi p6 r1_5 (Qag (zbl q4 (zbl q3 r1_2 (zaj (qL (Qaq hc) bs8))) (zaj (qL (Qaq hc) bs10))) l22))
  have r2_5:=(Qaa (zbl q4 (zbl q3 r2_2 (zaj (qL (Qaq hq) bs8))) (zaj (qL (Qaq hq) bs10))) e5)
  have r2_6:=(zbi p6 r2_5 (Qag (zbl q4 (zbl q3 r2_2 (zaj (qL (Qaq hq) bs8))) (zaj (qL (Qaq hq) bs10))) l22))
  have r3_5:=(Qaa (zbl q4 (zbl q3 r3_2 (zaj (qL (Qaq hr4) bs8))) (zaj (qL (Qaq hr4) bs10))) e5)
  have r3_6:=(zbi p6 r3_5 (Qag (zbl q4 (zbl q3 r3_2 (zaj (qL (Qaq hr4) bs8))) (zaj (qL (Qaq hr4) bs10))) l22))
  have r4_5:=(Qaa (zbl q4 (zbl q3 r4_2 (zaj (qL (Qaq hh4) bs8))) (zaj (qL (Qaq hh4) bs10))) e5)
  have r4_6:=(zbi p6 r4_5 (Qag (zbl q4 (zbl q3 r4_2 (zaj (qL (Qaq hh4) bs8))) (zaj (qL (Qaq hh4) bs10))) l22))
  have r8_5:=(Qaa (zbl q4 rba (Qag rs8 ls10)) e5)
  have r8_6:=(zbi p6 r8_5 (Qag (zbl q4 rba (Qag rs8 ls10)) l22))
  have r10_5:=(Qaa rbb e5)
  have r10_6:=(zbi p6 r10_5 (Qag rbb l22))
  have r14_5:=(Qaa (zbl q4 rgea (Qde rgea (zbl q3 rs10 (Ne.symm (Qag rs8 ls10))) (by decide))) e5)
  have r14_6:=(zbi p6 r14_5 (Qag (zbl q4 rgea (Qde rgea (zbl q3 rs10 (Ne.symm (Qag rs8 ls10))) (by decide))) l22))
  have r18_5:=(Qaa rgeb e5)
  have r18_6:=(zbi p6 r18_5 (Qag rgeb l22))
  have r15_5:=(Qaa (zbl q4 rgca (Qde rgca (zbl q3 rs10 (Ne.symm (Qag rs8 ls10))) (by decide))) e5)
  have r15_6:=(zbi p6 r15_5 (Qag (zbl q4 rgca (Qde rgca (zbl q3 rs10 (Ne.symm (Qag rs8 ls10))) (by decide))) l22))
  have r19_5:=(Qaa rgcb e5)
  have r19_6:=(zbi p6 r19_5 (Qag rgcb l22))
  have r16_5:=(Qaa (zbl q4 rgla (Qde rgla (zbl q3 rs10 (Ne.symm (Qag rs8 ls10))) (by decide))) e5)
  have r16_6:=(zbi p6 r16_5 (Qag (zbl q4 rgla (Qde rgla (zbl q3 rs10 (Ne.symm (Qag rs8 ls10))) (by decide))) l22))
  have r20_5:=(Qaa rglb e5)
  have r20_6:=(zbi p6 r20_5 (Qag rglb l22))
  have y4_5:Ext W4 W5:=(zbh (zbg W4) e5)
  have y4_6:Ext W4 W6:=(zbj p6 y4_5 l22)
  have hcha3:=hcha2.ext y4_6
  have hchb3:=hchb.ext y4_6
  refine Qav (fun v W'=>∃ u,v=.tuple #[.agg (cat [ints .u8 pG_,#[.int .i64 0],#[.int .i64 0],#[.int .i64 0],#[u]]),.nilIface]∧Qaf [cga,cma] W6 W'∧OwnN .u8 5 W6.heap.size fs u W') 8 #[.pointer (some ⟨gs8,0,none⟩),.slice (some ⟨g22,0,none⟩) 2 2] 26 rfl kj kj ((QnC gs8 gea cea gca tla pG_ rfl _ r8_6 r14_6 gla 2 capa lpa r15_6 r16_6 cga cma (by decide) hlia (QbI pS_ 1 0) hcha3 tc tq th tr r1_6 r2_6 r3_6 r4_6 (Qbr (Qaq hc) lwa lva) (Qbr (Qaq hq) lwa lva) (Qbr (Qaq hr4) lwa lva) (Qbr (Qaq hh4) lwa lva) [104,105] fs (by decide) es pG_b _ (fun W e=>zbt (RdK.keepN rd23 e.size (fun i hi hl=>e.block i hl (by obtain rfl:=Option.some.inj hi; exact QfX l22 hcha2.glt hcha2.mp.lt))))).mono (by rintro e w' ⟨u,rfl,h1,h2,h3⟩; exact ⟨_,rfl,u,rfl,h1,h3⟩)) fun v W7 h24=>?_
  obtain ⟨us,rfl,q7,hus⟩:=h24
  obtain ⟨aus,cus,rfl,-⟩:=id (zbo hus)
  have x7:Ext w W7:=Qaf.ext q7 x6 (fun c hc=>by simp only [zaf,zag,or_false] at hc; rcases hc with rfl | rfl; exact lwa; exact lva)
  have hchb4:=hchb3.keep (q7.block cgb hchb3.glt (QfX lcgb hcga2 hcma2)) (q7.block cmb hchb3.mp.lt (QfX lcmb hcga2 hcma2))
  refine Qab (.tuple #[.agg (cat [ints .u8 (pG_),#[.int .i64 0],#[.int .i64 0],#[.int .i64 0],#[.slice aus fs.length cus]]),.nilIface]) 22 rfl kj kj ?_
  refine Qab (.agg (cat [ints .u8 (pG_),#[.int .i64 0],#[.int .i64 0],#[.int .i64 0],#[.slice aus fs.length cus]])) 27 rfl kj kj ?_
  refine Qab (.nilIface) 28 rfl kj kj ?_
  refine Qar (cat [ints .u8 (zad 32 0),#[.int .i64 0],#[.int .i64 0],#[.int .i64 0],#[.slice none 0 0]]) 35 3 rfl kj kj fun g25 W8 l25 e8 r25_8=>?_
  have x8:Ext w W8:=zbk x7 e8
  have b25:w.heap.size≤g25:=qT x7.size l25
  refine Qan g25 _ (cat [ints .u8 (pG_),#[.int .i64 0],#[.int .i64 0],#[.int .i64 0],#[.slice aus fs.length cus]]) 35 r25_8 rfl kj (Qao 35 _ _ g25 35 _ _ r25_8 rfl kj kj (isz (n:=36) kj (by rw [Qac,Qac,Qac,Qac,Qac]; simp only [qS,cat,((Qat _ _).trans rfl)]; rfl)) (eqsz (n:=36) (by rw [Qac,Qac,Qac,Qac,Qac]; simp only [qS,cat,((Qat _ _).trans (qZ (n:=32)))]; rfl) (by rw [Qac,Qac,Qac,Qac,Qac]; simp only [qS,cat,((Qat _ _).trans rfl)]; rfl)) (Qbn _ (by intro a ha; simp only [zaf,zag,or_false] at ha; rcases ha with rfl | rfl | rfl | rfl | rfl; exact (Qay _ _); exact (Qa6 _ rfl); exact (Qa6 _ rfl); exact (Qa6 _ rfl); exact (Qa6 _ rfl)))) fun W9 p9 r25_9=>?_
  have x9:Ext w W9:=zbj p9 x8 b25
  refine Qab (.nilIface) 4 rfl kj kj ?_
  refine Qal ?_
  refine hK21 _ _ ?_
  refine wp_seq_k fun K26 hK26=>?_
  refine wp_seq_k fun K27 hK27=>?_
  refine Qae ?_
  refine Qab (.nilIface) 29 rfl kj kj ?_
  refine Qab (.bool false) 30 rfl kj kj ?_
  refine Qab (.bool false) 31 rfl kj kj ?_
  refine Qab (.pointer (some ⟨g25,34,none⟩)) 32 rfl kj kj ?_
  refine Qab (.int .i64 0) 33 rfl kj (Qad 3 _ g25 34 35 _ (.int .i64 0) _ r25_9 rfl kj (Qam [ints .u8 (pG_),#[.int .i64 0],#[.int .i64 0]] [#[.int .i64 0]] [#[.slice aus fs.length cus]] 34 (by rw [Qac,Qac,Qac]; simp only [qS,cat,((Qat _ _).trans rfl)]; rfl) 0 _ rfl) kj) ?_
  refine Qab (.bool false) 34 rfl kj kj ?_
  refine Qab (.bool false) 35 rfl kj kj ?_
  refine Qab (.bool false) 36 rfl kj kj ?_
  refine Qab (.pointer (some ⟨g25,35,none⟩)) 37 rfl kj kj ?_
  refine Qab (.slice aus fs.length cus) 38 rfl kj (Qad 33 _ g25 35 35 _ (.slice aus fs.length cus) _ r25_9 rfl kj (Qam [ints .u8 (pG_),#[.int .i64 0],#[.int .i64 0],#[.int .i64 0]] [#[.slice aus fs.length cus]] [] 35 (by rw [Qac,Qac,Qac,Qac]; simp only [qS,cat,((Qat _ _).trans rfl)]; rfl) 0 _ rfl) kj) ?_
  refine Qab (.int .i64 ((fs.length:Nat):Int)) 39 rfl kj kj ?_
  refine Qab (.bool false) 40 rfl kj (Qah (u:=.bool ((((fs.length:Nat):Int) != 18))) kj (congrArg zae (bne_eq_false_iff_eq.2 (by rw [lfs]; rfl)))) ?_
  refine Qab (.bool false) 41 rfl kj kj ?_
  refine Qal ?_
  refine hK27 _ _ ?_
  refine cond_false kj ?_
  refine wp_skip ?_
  refine hK26 _ _ ?_
  refine wp_seq_k fun K28 hK28=>?_
  refine Qae ?_
  refine Qab (.pointer (some ⟨gs10,0,none⟩)) 43 rfl kj kj ?_
  refine Qab (.agg (cat [ints .u8 (pG_),#[.int .i64 0],#[.int .i64 0],#[.int .i64 0],#[.slice aus fs.length cus]])) 44 rfl kj (Qap 35 _ g25 35 _ _ r25_9 rfl kj kj (isz (n:=36) kj (by rw [Qac,Qac,Qac,Qac,Qac]; simp only [qS,cat,((Qat _ _).trans rfl)]; rfl))) ?_
  have r1_8:=(Qaa (zbq q7 r1_6 (Qbr (Qaq hc) lwa lva)) e8)
  have r1_9:=(zbi p9 r1_8 (Qag (zbq q7 r1_6 (Qbr (Qaq hc) lwa lva)) l25))
  have r2_8:=(Qaa (zbq q7 r2_6 (Qbr (Qaq hq) lwa lva)) e8)
  have r2_9:=(zbi p9 r2_8 (Qag (zbq q7 r2_6 (Qbr (Qaq hq) lwa lva)) l25))
  have r3_8:=(Qaa (zbq q7 r3_6 (Qbr (Qaq hr4) lwa lva)) e8)
  have r3_9:=(zbi p9 r3_8 (Qag (zbq q7 r3_6 (Qbr (Qaq hr4) lwa lva)) l25))
  have r4_8:=(Qaa (zbq q7 r4_6 (Qbr (Qaq hh4) lwa lva)) e8)
  have r4_9:=(zbi p9 r4_8 (Qag (zbq q7 r4_6 (Qbr (Qaq hh4) lwa lva)) l25))
  have r10_8:=(Qaa (zbq q7 r10_6 (nin r10_6 hcha3 (by decide))) e8)
  have r10_9:=(zbi p9 r10_8 (Qag (zbq q7 r10_6 (nin r10_6 hcha3 (by decide))) l25))
  have r18_8:=(Qaa (zbq q7 r18_6 (nin r18_6 hcha3 (by decide))) e8)
  have r18_9:=(zbi p9 r18_8 (Qag (zbq q7 r18_6 (nin r18_6 hcha3 (by decide))) l25))
  have r19_8:=(Qaa (zbq q7 r19_6 (nin r19_6 hcha3 (by decide))) e8)
  have r19_9:=(zbi p9 r19_8 (Qag (zbq q7 r19_6 (nin r19_6 hcha3 (by decide))) l25))
  have r20_8:=(Qaa (zbq q7 r20_6 (nin r20_6 hcha3 (by decide))) e8)
  have r20_9:=(zbi p9 r20_8 (Qag (zbq q7 r20_6 (nin r20_6 hcha3 (by decide))) l25))
  have y7_8:Ext W7 W8:=(zbh (zbg W7) e8)
  have y7_9:Ext W7 W9:=(zbj p9 y7_8 l25)
  have hchb5:=hchb4.ext y7_9
  have hus5:=zbm hus y7_9
  refine Qav (fun v W'=>∃ u,v=.tuple #[u,.nilIface]∧Qaf [cgb,cmb] W9 W'∧ChSt cgb cmb (QbI pS_ 1 0) [0] 1 (QcG [] (QbI pS_ 1 0) 0 0) W'∧OwnN .u8 5 W9.heap.size [104,105] u W') 9 #[.pointer (some ⟨gs10,0,none⟩),.agg (cat [ints .u8 (pG_),#[.int .i64 0],#[.int .i64 0],#[.int .i64 0],#[.slice aus fs.length cus]])] 45 rfl kj kj ((QnQ gs10 geb ceb gcb tlb pG_ rfl _ r10_9 r18_9 glb 2 capb lpb r19_9 r20_9 cgb cmb (by decide) hlib (QbI pS_ 1 0) hchb5 tc tq th tr r1_9 r2_9 r3_9 r4_9 (Qbr (Qaq hc) lwb lvb) (Qbr (Qaq hq) lwb lvb) (Qbr (Qaq hr4) lwb lvb) (Qbr (Qaq hh4) lwb lvb) [104,105] fs (by decide) htb es pG_b _ (fun W e=>zbt (zbo (zbm hus5 e)))).mono (by rintro e w' ⟨u,rfl,h1,h2,h3⟩; exact ⟨_,rfl,u,rfl,h1,h2,h3⟩)) fun v W10 h29=>?_
  obtain ⟨ut,rfl,q10,hchb6,hut⟩:=h29
  obtain ⟨aut,cut,rfl,-⟩:=id (zbo hut)
  have x10:Ext w W10:=Qaf.ext q10 x9 (fun c hc=>by simp only [zaf,zag,or_false] at hc; rcases hc with rfl | rfl; exact lwb; exact lvb)
  have hus6:=Qhn hus5 q10 (QbP hus (hchb3.glt)) (QbP hus (hchb3.mp.lt))
  refine Qab (.tuple #[.slice aut (([104,105]:List Int).length) cut,.nilIface]) 42 rfl kj kj ?_
  refine Qab (.slice aut (([104,105]:List Int).length) cut) 46 rfl kj kj ?_
  refine Qab (.nilIface) 47 rfl kj kj ?_
  refine Qab (.slice aut (([104,105]:List Int).length) cut) 5 rfl kj kj ?_
  refine Qab (.nilIface) 4 rfl kj kj ?_
  refine Qal ?_
  refine hK28 _ _ ?_
  refine wp_seq_k fun K30 hK30=>?_
  refine Qae ?_
  refine Qab (.pointer (some ⟨gs10,0,none⟩)) 49 rfl kj kj ?_
  refine Qab (.agg (cat [ints .u8 (pG_),#[.int .i64 0],#[.int .i64 0],#[.int .i64 0],#[.slice aus fs.length cus]])) 50 rfl kj (Qap 35 _ g25 35 _ _ (zbq q10 r25_9 (nin r25_9 hchb5 (by decide))) rfl kj kj (isz (n:=36) kj (by rw [Qac,Qac,Qac,Qac,Qac]; simp only [qS,cat,((Qat _ _).trans rfl)]; rfl))) ?_
  refine Qau (.tuple #[.slice none 0 0,.iface 41 (.int .i64 7)]) 9 #[.pointer (some ⟨gs10,0,none⟩),.agg (cat [ints .u8 (pG_),#[.int .i64 0],#[.int .i64 0],#[.int .i64 0],#[.slice aus fs.length cus]])] 51 rfl kj kj (QnP gs10 geb ceb gcb tlb pG_ rfl _ (zbq q10 r10_9 (nin r10_9 hchb5 (by decide))) (zbq q10 r18_9 (nin r18_9 hchb5 (by decide))) glb 2 capb lpb (zbq q10 r19_9 (nin r19_9 hchb5 (by decide))) (zbq q10 r20_9 (nin r20_9 hchb5 (by decide))) cgb cmb (by decide) hlib (QbI pS_ 1 0) _ (hchb6.ext (zbg W10)) tc tq (zbq q10 r1_9 (Qbr (Qaq hc) lwb lvb)) (zbq q10 r2_9 (Qbr (Qaq hq) lwb lvb)) fs (by rw [lfs]; decide) hfb pG_b _ (fun W e=>zbt (zbo (zbm (zbm hus6 (zbg W10)) e)))) fun W11 e11=>?_
  have x11:Ext w W11:=zbk x10 e11
  refine Qab (.tuple #[.slice none 0 0,.iface 41 (.int .i64 7)]) 48 rfl kj kj ?_
  refine Qab (.slice none 0 0) 52 rfl kj kj ?_
  refine Qab (.iface 41 (.int .i64 7)) 53 rfl kj kj ?_
  refine Qab (.slice none 0 0) 6 rfl kj kj ?_
  refine Qab (.iface 41 (.int .i64 7)) 7 rfl kj kj ?_
  refine Qal ?_
  refine hK30 _ _ ?_
  refine wp_seq_k fun K31 hK31=>?_
  refine Qae ?_
  refine Qab (.nilIface) 54 rfl kj kj ?_
  refine Qab (.bool true) 55 rfl kj kj ?_
  refine Qab (.bool true) 56 rfl kj kj ?_
  refine Qab (.slice aut (([104,105]:List Int).length) cut) 57 rfl kj kj ?_
  have y10_11:Ext W10 W11:=(zbh (zbg W10) e11)
  refine Qab (.string (QkO [104,105])) 58 rfl kj (Qj4 (.tmp 57) (.slice aut (([104,105]:List Int).length) cut) rfl rfl [104,105] (RdK.bytes (zbo (zbm hut y10_11)) htb)) ?_
  refine Qab (.bool true) 59 rfl kj kj ?_
  refine Qab (.bool true) 60 rfl kj kj ?_
  refine Qab (.bool true) 61 rfl kj kj ?_
  refine Qab (.iface 41 (.int .i64 7)) 62 rfl kj kj ?_
  refine Qau (.bool true) 10 #[.iface 41 (.int .i64 7),.int .i64 7] 63 rfl kj kj ((is7) _) fun W12 e12=>?_
  have x12:Ext w W12:=zbk x11 e12
  refine Qab (.bool true) 64 rfl kj kj ?_
  refine Qab (.bool true) 0 rfl kj kj ?_
  refine Qal ?_
  refine hK31 _ _ ?_
  refine wp_ret ?_
  exact (show bodyPost _ _ _ .ret _ _ from ret1 (.bool true) rfl (Qaz kj) ⟨rfl,x12⟩)
end Pk
end
section
namespace Pk
open Go Go.RowKit
open Rely Auto Own Sha
open Cha
open Ae hiding run_storeQ
open Cn hiding nb_new run_extractT
theorem Qfm {ts : List Int} {pl:Nat} {n:Nat} (h:∀ m∈ts,0≤m∧m<8) (hn:n≤7):chkN ts pl ((n:Nat):Int)=if ((n:Nat):Int)∈ts then 7 else 0:=by
  have h1:hiT ts≤7:=by
    rcases Qif ts with e | e
    · omega
    · have:=(h _ e).2; omega
  have h2:chkT ts ((n:Nat):Int)=if ((n:Nat):Int)∈ts then 7 else 0:=by
    unfold chkT
    rw [if_neg (by omega),if_neg (by omega)]
  unfold chkN
  rw [h2]
  by_cases hm:((n:Nat):Int)∈ts
  · simp [hm]
  · simp only [hm,if_false]
    rw [if_neg (by simp),if_neg (by omega)]
def tX (e n:Nat):List Int:=[((e:Nat):Int),((n:Nat):Int)]
def keyE (e n:Nat):List Int:=keyV (itV (QbI (secE e) 2 0) n)
def FS (e n:Nat):List Int:=QcS ((keyE e n).take 32) ((keyE e n).drop 32) (pG5++hdV e++[0]++hdV n) (tX e n)
theorem QkE (e n:Nat):(FS e n).length=18:=Qcx _ _ _ _
theorem FS_b (e n:Nat):Qai (FS e n):=Qc7 _ _ _ _
theorem tX_b {e n:Nat} (h:e≤255) (k:n≤255):Qai (tX e n):=QcY ⟨by omega,by omega⟩ (QcY ⟨by omega,by omega⟩ (bytes_zeros 0))
def pkE (e n:Nat) (u:Value):Value:=.agg (cat [ints .u8 pG5,#[.int .i64 ((e:Nat):Int)],#[.int .i64 0],#[.int .i64 ((n:Nat):Int)],#[u]])
theorem Bx.prep {g base hi:Nat} {leaf:Int} {gc:Nat→Nat} {v:Value} {W:World} (h:Bx g base leaf hi gc v W) (h0:1≤hi):∃ (ge ce k:Nat) (cur:Array Value),k=hi-(hi-4)∧v=.slice (some ⟨ge,0,none⟩) k ce∧W.heap[g]? = some (.cells (cat [#[.slice (some ⟨ge,0,none⟩) k ce],#[.bool false]]) 49)∧W.heap[ge]? = some (.cells cur 55)∧AtE cur (esV (hi-4) hi leaf gc)∧(esV (hi-4) hi leaf gc).length=k∧1≤k∧k≤4:=by
  obtain ⟨ge,ce,cur,rfl,-,h3,hpt⟩:=h.own.parts (by intro e; have:=Qfk (hi-4) hi leaf gc; rw [e,za9] at this; omega)
  have hr:=h.row
  rw [Qfk] at hr ⊢
  exact ⟨ge,ce,_,cur,rfl,rfl,hr,h3,hpt,rfl,by omega,by omega⟩
theorem Qik {lo hi e:Nat} {leaf:Int} {gc:Nat→Nat} (h1:lo≤e) (h2:e<hi):(esV lo hi leaf gc)[e-lo]? = some ⟨gc e,pG5,((e:Nat):Int),leaf⟩:=by
  rw [Qmi (by omega),show lo+(e-lo)=e by omega]
theorem Qil {lo hi e i:Nat} {leaf:Int} {gc:Nat→Nat} {x:Ep} (h:lo+i≠e) (hx:(esV lo hi leaf gc)[i]? = some x):x.num≠((e:Nat):Int):=by
  have h1:=(zav.1 hx).1
  rw [Qfk] at h1
  rw [Qmi h1] at hx
  obtain rfl:=Option.some.inj hx
  show ((lo+i:Nat):Int)≠_
  omega
theorem Qgd {lo hi:Nat} {leaf:Int} {gc:Nat→Nat}:∀ e∈esV lo hi leaf gc,e.grp=pG5:=fun e h=>by obtain ⟨j,-,-,rfl⟩:=Qhy h; rfl
theorem QnB (g base e n:Nat) (he:e≤5) (hn:n≤7) (gc:Nat→Nat) (v:Value) (w0 w:World) (h:Bx g base 0 (e+1) gc v w) (l:Ln) (hgc:l.gc=gc e) (hl:Qbo l (QbI (secE e) 2 0) w) (hpl:l.pl=n) (hts:∀ m∈l.ts,0≤m∧m<((n:Nat):Int)) (tc tq th tr:TypeId) (T:Tb tc tq th tr w0) (x:Ext w0 w) (hcg:w0.heap.size≤l.cg) (hcm:w0.heap.size≤l.cm)
    (tv:Value) (htv:∀ W,Qaf [l.cg,l.cm] w W→RdK .u8 W.heap.size (tX e n) tv W) :
    Calls Tryd.prog 8 #[.pointer (some ⟨g,0,none⟩),tv] w (fun x W=>∃ u,x=.returned (.tuple #[pkE e n u,.nilIface])∧Qaf [l.cg,l.cm] w W∧Qbo ⟨l.gc,l.cg,l.cm,l.ts++[((n:Nat):Int)],n+1⟩ (QbI (secE e) 2 0) W∧OwnN .u8 5 w.heap.size (FS e n) u W):=by
  obtain ⟨gc0,cg,cm,ts,pl⟩:=l
  simp only at hgc hpl hts hcg hcm htv ⊢
  subst hgc hpl
  have hl0:=hl
  obtain ⟨gl,cap,lp,ms,q1,q2,q3,q4⟩:=hl
  obtain ⟨ge,ce,k,cur,hk,rfl,hr,h3,hpt,hlen,k1,k4⟩:=h.prep (by omega)
  have hat:=Qik (lo:=e+1-4) (hi:=e+1) (leaf:=0) (gc:=gc) (e:=e) (by omega) (by omega)
  obtain ⟨P,tl,hP,rfl⟩:=hpt _ _ hat
  have T':=T.ext x
  have hc0:chkN ts pl ((pl:Nat):Int)=0:=by rw [Qfm (fun m hm=>by have:=hts m hm; omega) hn,if_neg (fun hm=>by have:=hts _ hm; omega)]
  refine (QnA e pl (by omega) (by omega) g ge ce (gc e) k (35*(e-(e+1-4))) P tl pG5 rfl w hr ⟨k1,k4⟩ (by omega) hP h3 gl 4 cap lp q1 q2 cg cm (by decide) q3 (QbI (secE e) 2 0) ts ms q4 hc0 tc tq th tr T'.c T'.q T'.r T'.h (Qbr (Qaq T.c) hcg hcm) (Qbr (Qaq T.q) hcg hcm) (Qbr (Qaq T.r) hcg hcm) (Qbr (Qaq T.h) hcg hcm) (tX e pl) (FS e pl) (by show 2≤1024; decide) rfl QjE tv htv).mono ?_
  rintro y W ⟨u,rfl,q,hch,hu⟩
  rw [show max pl (pl+1)=pl+1 by omega] at hch
  exact ⟨u,rfl,q,hl0.step q hch,hu⟩
theorem QnO (g base hi e n:Nat) (hhi:hi≤6) (h1:hi-4≤e) (h2:e<hi) (hn:n≤7) (gc:Nat→Nat) (v:Value) (w0 w:World) (h:Bx g base 3 hi gc v w) (l:Ln) (hgc:l.gc=gc e) (hl:Qbo l (QbI (secE e) 2 0) w) (hck:chkN l.ts l.pl ((n:Nat):Int)=0) (tc tq th tr:TypeId) (T:Tb tc tq th tr w0) (x:Ext w0 w) (hcg:w0.heap.size≤l.cg) (hcm:w0.heap.size≤l.cm)
    (u:Value) (hst:∀ W,Ext w W→RdK .u8 W.heap.size (FS e n) u W) :
    Calls Tryd.prog 9 #[.pointer (some ⟨g,0,none⟩),pkE e n u] w (fun x W=>∃ t,x=.returned (.tuple #[t,.nilIface])∧Qaf [l.cg,l.cm] w W∧Qbo ⟨l.gc,l.cg,l.cm,l.ts++[((n:Nat):Int)],max l.pl (n+1)⟩ (QbI (secE e) 2 0) W∧OwnN .u8 5 w.heap.size (tX e n) t W):=by
  obtain ⟨gc0,cg,cm,ts,pl⟩:=l
  simp only at hgc hck hcg hcm ⊢
  subst hgc
  have hl0:=hl
  obtain ⟨gl,cap,lp,ms,q1,q2,q3,q4⟩:=hl
  obtain ⟨ge,ce,k,cur,hk,rfl,hr,h3,hpt,hlen,k1,k4⟩:=h.prep (by omega)
  have T':=T.ext x
  refine (QnL e n (by omega) (by omega) g ge ce (gc e) k pG5 rfl w hr ⟨k1,k4⟩ _ hlen cur h3 hpt Qgd (e-(hi-4)) _ rfl 3 (Qik h1 h2) (fun i y hi2 hy=>Qil (by omega) hy) (by decide) gl 4 cap lp q1 q2 cg cm (by decide) q3 pl (QbI (secE e) 2 0) ts ms q4 hck tc tq th tr T'.c T'.q T'.r T'.h (Qbr (Qaq T.c) hcg hcm) (Qbr (Qaq T.q) hcg hcm) (Qbr (Qaq T.r) hcg hcm) (Qbr (Qaq T.h) hcg hcm) (tX e n) (FS e n) (by show 2≤1024; decide) (tX_b (by omega) (by omega)) rfl QjE u hst).mono ?_
  rintro y W ⟨t,rfl,q,hch,ht⟩
  exact ⟨t,rfl,q,hl0.step q hch,ht⟩
theorem QnK (g base hi e n:Nat) (hhi:hi≤6) (h1:hi-4≤e) (h2:e<hi) (hn:n≤7) (gc:Nat→Nat) (v:Value) (w:World) (h:Bx g base 3 hi gc v w) (l:Ln) (hgc:l.gc=gc e) (hl:Qbo l (QbI (secE e) 2 0) w) (hck:chkN l.ts l.pl ((n:Nat):Int)=7) (tc tq th tr:TypeId) (T:Tb tc tq th tr w)
    (u:Value) (hst:∀ W,Ext w W→RdK .u8 W.heap.size (FS e n) u W) :
    Calls Tryd.prog 9 #[.pointer (some ⟨g,0,none⟩),pkE e n u] w (Ret w (.tuple #[.slice none 0 0,.iface 41 (.int .i64 7)])):=by
  obtain ⟨gc0,cg,cm,ts,pl⟩:=l
  simp only at hgc hck
  subst hgc
  obtain ⟨gl,cap,lp,ms,q1,q2,q3,q4⟩:=hl
  obtain ⟨ge,ce,k,cur,hk,rfl,hr,h3,hpt,hlen,k1,k4⟩:=h.prep (by omega)
  exact Qho e n (by omega) (by omega) g ge ce (gc e) k pG5 rfl w hr ⟨k1,k4⟩ _ hlen cur h3 hpt Qgd (e-(hi-4)) _ rfl 3 (Qik h1 h2) (fun i y hi2 hy=>Qil (by omega) hy) (by decide) gl 4 cap lp q1 q2 cg cm (by decide) q3 pl (QbI (secE e) 2 0) ts ms q4 hck tc tq T.c T.q (FS e n) (by rw [QkE]; decide) (FS_b e n) QjE u hst
theorem QnN (g base hi e n:Nat) (hhi:hi≤6) (h1:e<hi-4) (hn:n≤7) (gc:Nat→Nat) (v:Value) (w:World) (h:Bx g base 3 hi gc v w)
    (u:Value) (hst:∀ W,Ext w W→RdK .u8 W.heap.size (FS e n) u W) :
    Calls Tryd.prog 9 #[.pointer (some ⟨g,0,none⟩),pkE e n u] w (Ret w (.tuple #[.slice none 0 0,.iface 41 (.int .i64 6)])):=by
  obtain ⟨ge,ce,k,cur,hk,rfl,hr,h3,hpt,hlen,k1,k4⟩:=h.prep (by omega)
  exact QjJ e n (by omega) (by omega) g ge ce 0 k pG5 rfl w hr ⟨k1,k4⟩ _ hlen cur h3 hpt Qgd (fun i y hi2 hy=>Qil (by omega) hy) (FS e n) (by rw [QkE]; decide) (FS_b e n) QjE u hst
theorem QnM (g base hi e n:Nat) (hhi:hi≤6) (h1:hi-4≤e) (h2:e<hi) (hn:n≤7) (gc:Nat→Nat) (v:Value) (w:World) (h:Bx g base 0 hi gc v w)
    (u:Value) (hst:∀ W,Ext w W→RdK .u8 W.heap.size (FS e n) u W) :
    Calls Tryd.prog 9 #[.pointer (some ⟨g,0,none⟩),pkE e n u] w (Ret w (.tuple #[.slice none 0 0,.iface 41 (.int .i64 9)])):=by
  obtain ⟨ge,ce,k,cur,hk,rfl,hr,h3,hpt,hlen,k1,k4⟩:=h.prep (by omega)
  exact Qll e n (by omega) (by omega) g ge ce (gc e) k pG5 rfl w hr ⟨k1,k4⟩ _ hlen cur h3 hpt Qgd (e-(hi-4)) _ rfl (Qik h1 h2) (fun i y hi2 hy=>Qil (by omega) hy) (FS e n) (by rw [QkE]; decide) (FS_b e n) QjE u hst
end Pk
end
section
namespace Pk
open Go Go.RowKit
open Rely Auto Own Sha
open Cha
open Ae hiding run_storeQ
open Cn hiding nb_new run_extractT
def QgY (T1 T2:TypeId) (W W':World):Prop:=∀ (i:Nat) (c:Array Value) (T:TypeId),W.heap[i]? = some (.cells c T)→(T=T1∨T=T2)→W'.heap[i]? = W.heap[i]?
theorem Qbv.keepR {W W':World} (k:Qbv W W') {T1 T2:TypeId} (h1:T1≠55∧T1≠49) (h2:T2≠55∧T2≠49):QgY T1 T2 W W':=fun i c T r hT=>by
  refine (k i _ r (fun d e=>?_) (fun d e=>?_)).trans r.symm
  · injection e with _ e2 _
    subst e2
    exact hT.elim (fun e=>h1.1 e.symm) (fun e=>h2.1 e.symm)
  · injection e with _ e2 _
    subst e2
    exact hT.elim (fun e=>h1.2 e.symm) (fun e=>h2.2 e.symm)
theorem QgI {W W':World} (e:Ext W W') (T1 T2:TypeId):QgY T1 T2 W W':=fun i c T r _=>e.block i (Qaq r)
theorem Qem {l : Ln} {s0:List Int} {W W':World} (k:Qbo l s0 W) (q:Qaf [l.cg,l.cm] W W') {T1 T2:TypeId} (h1:T1≠82) (h2:T2≠82):QgY T1 T2 W W':=fun i c T r hT=>by
  obtain ⟨gl,cap,lp,ms,-,-,-,k4⟩:=k
  exact q.block i (Qaq r) (nin r k4 (by rcases hT with rfl | rfl; exact h1; exact h2))
theorem QgJ {g : Nat} {d:Array Value} {T0:TypeId} {W W':World} (r0:W.heap[g]? = some (.cells d T0)) (q:ExtB g W W') {T1 T2:TypeId} (h1:T1≠T0) (h2:T2≠T0):QgY T1 T2 W W':=fun i c T r hT=>q.2.2.2.2 i (Qaq r) (Qde r r0 (by rcases hT with rfl | rfl; exact h1; exact h2))
structure Pe where
  ep:Nat
  nu:Nat
  u:Value
def peP (p : Pe):List (Array Value):=[ints .u8 pG5,#[.int .i64 ((p.ep:Nat):Int)],#[.int .i64 0],#[.int .i64 ((p.nu:Nat):Int)],#[p.u]]
theorem QfP (p : Pe):(cat (peP p)).toList.length=36:=by
  unfold peP
  rw [zaA,Qac,Qac,Qac,Qac,Qac]
  simp only [qS,cat,Qat,show pG5.length=32 from rfl]
  rfl
theorem Qm4 (p : Pe) (h:p.u.oneCell'=true):∀ x∈(cat (peP p)).toList,x.oneCell'=true:=by
  intro x hx
  unfold peP at hx
  simp only [cat,Array.toList_append,ints,zab,za2,zaf,zag,or_false] at hx
  rcases hx with ⟨y,-,rfl⟩ | rfl | rfl | rfl | rfl
  · rfl
  · rfl
  · rfl
  · rfl
  · exact h
structure OwP (base : Nat) (ps : List Pe) (v : Value) (W : World) : Prop where
  row:W.ownsRow base 35 36 v ps.length (ps.flatMap fun p=>(cat (peP p)).toList)
  one:∀ p∈ps,p.u.oneCell'=true
def AtP (cur : Array Value) (ps:List Pe):Prop:=∀ (i:Nat) (p:Pe),ps[i]? = some p→∃ (P tl:Array Value),P.size=36*i∧cur=cat [P,ints .u8 pG5,#[.int .i64 ((p.ep:Nat):Int)],#[.int .i64 0],#[.int .i64 ((p.nu:Nat):Int)],#[p.u],tl]
theorem Qjd {α : Type} (f:α→List Value) (k:Nat) (es:List α) (hl:∀ e∈es,(f e).length=k) (cur:Array Value) (h:cur.toList.take (es.length*k)=es.flatMap f) (i:Nat) (e:α) (he:es[i]? = some e):(cur.toList.take (k*i)).toArray.size=k*i∧cur.toList=cur.toList.take (k*i)++(f e++cur.toList.drop (k*i+k)):=by
  have hf:=Qhx f k es hl i e he
  have h3:cur.toList=es.flatMap f++cur.toList.drop (es.length*k):=by rw [←h,zaB]
  have l2:(es.flatMap f).length≤cur.toList.length:=by rw [←h,zaC]; omega
  refine ⟨by simp only [List.size_toArray,zaC]; omega,?_⟩
  have t1:cur.toList.take (k*i)=(es.flatMap f).take (k*i):=by rw [h3,zas (by omega)]
  have t2:cur.toList.drop (k*i+k)=(es.flatMap f).drop (k*i+k)++cur.toList.drop (es.length*k):=by conv=>{ lhs; rw [h3] }; rw [zau hf.2]
  rw [t1,t2,←zaa (f e),←zaa,hf.1]; exact h3
theorem OwP.parts {base : Nat} {ps:List Pe} {v:Value} {W:World} (h:OwP base ps v W) (hne:ps≠[]):∃ (g c:Nat) (cur:Array Value),v=.slice (some ⟨g,0,none⟩) ps.length c∧base≤g∧W.heap[g]? = some (.cells cur 35)∧AtP cur ps:=by
  rcases h.row.2 with ⟨-,e2⟩ | ⟨g,cap,cur,q1,q2,q3,q4,q5,q6,q7⟩
  · exact absurd (zaD.1 e2) hne
  · refine ⟨g,cap,cur,q1,q2,q3,fun i p hp=>?_⟩
    obtain ⟨h1,h2⟩:=Qjd _ 36 ps (fun p _=>QfP p) cur q7 i p hp
    refine ⟨_,(cur.toList.drop (36*i+36)).toArray,h1,?_⟩
    apply Array.ext'
    refine Eq.trans h2 ?_
    unfold peP
    simp [cat]
theorem OwP.at {base : Nat} {ps:List Pe} {v:Value} {W:World} (h:OwP base ps v W) {k:Nat} (e:v.ownBlock=some k):base≤k∧∃ cur,W.heap[k]? = some (.cells cur 35):=by
  rcases h.row.2 with ⟨rfl,_⟩ | ⟨g',c,cur,rfl,q2,q3,_⟩
  · cases e
  · obtain rfl:g'=k:=Option.some.inj e
    exact ⟨q2,cur,q3⟩
theorem OwP.keep {base : Nat} {ps:List Pe} {v:Value} {W W':World} (h:OwP base ps v W) (k:QgY 35 5 W W'):OwP base ps v W' :=
  ⟨⟨h.row.1,h.row.2.imp id fun ⟨g,c,cur,q1,q2,q3,q4⟩=>⟨g,c,cur,q1,q2,(k _ _ _ q3 (.inl rfl)).trans q3,q4⟩⟩,h.one⟩
theorem OwP.empty {base g:Nat} {W:World} (hb:base≤g) (r:W.heap[g]? = some (.cells #[] 35)):OwP base [] (.slice (some ⟨g,0,none⟩) 0 0) W :=
  ⟨⟨rfl,.inr ⟨g,0,#[],rfl,hb,r,qR _,zaE _,rfl,rfl⟩⟩,fun p hp=>by cases hp⟩
theorem OwP.app {P : Program} {ρ:Operand→Value} {o:Oper} {W:World} (b:Nat) (s x:Operand) (t:TypeId) (ho:o.op=.call { callee:=.builtin .append,args:=#[s,x],argTypes:=#[t,t] }) (ht:P.underlying t=some (.slice 35))
    (hi:(P.info? 35).map (fun i=>(i.zero.map (·.cells.size),i.size,i.bytes))=some (some 36,36,b)) (hb8:b≤1000) {base g:Nat} {v:Value} {ps:List Pe} {p:Pe} (hs:ρ s=v) (hx:ρ x=.slice (some ⟨g,0,none⟩) 1 1)
    (h:OwP base ps v W) (hp:p.u.oneCell'=true) (hrow:W.heap[g]? = some (.cells (cat (peP p)) 35)) (hl:ps.length≤1000) (hbase:base≤W.heap.size) :
    ∃ v' W',(execOp ρ o).run P W=.ok (.value v') W'∧OwP base (ps++[p]) v' W'∧W.grownBy W' v.ownBlock:=by
  obtain ⟨i,hq,z,hz,hzs,hi2,hi3⟩:∃ i,P.info? 35=some i∧∃ z,i.zero=some z∧z.cells.size=36∧i.size=36∧i.bytes=b:=by
    cases hq:P.info? 35 with
    | none=>rw [hq] at hi; cases hi
    | some i =>
      rw [hq] at hi
      simp only [zaF,Option.some.injEq,Prod.mk.injEq] at hi
      obtain ⟨z,hz,hzs⟩:=zaG.1 hi.1
      exact ⟨i,rfl,z,hz,hzs,hi.2.1,hi.2.2⟩
  obtain ⟨v',W',hr,h2,h3,-,-⟩:=run_append_own_at (P:=P) W base t o.type 35 i z 36 b ht hq hz hi2 hi3 hzs (by decide) v ps.length _ h.row ⟨g,0,none⟩ 1 1 (cat (peP p)).toList (QfP p)
    (fun j u hu=>by
      rw [WideShapes.add_plain,Nat.zero_add]
      unfold World.cell?
      simp only [hrow]
      rw [Array.getElem?_toList] at hu
      rw [←hu]; rfl) (Qm4 p hp) (by simp only [maxLen]; omega) (by
        have:(ps.length+1)*b≤1001*1000:=zaH (by omega) hb8
        omega) hbase
  refine ⟨v',W',?_,⟨?_,?_⟩,h3⟩
  · unfold execOp
    simp only [ho,resolve,invoke,builtin,Sem.run_bind,Sem.run_pure,Result.andThen_ok,List.map_toArray,za7,List.map_nil,hs,hx,hr]
  · rw [zaI,List.flatMap_append]
    simpa using h2
  · intro m hm
    rcases zab.1 hm with h1 | h1
    · exact h.one m h1
    · obtain rfl:m=p:=by simpa using h1
      exact hp
theorem QjF {base : Nat} {xs:List Int} {v:Value} {W W':World} {T2:TypeId} (h:OwnN .u8 5 base xs v W) (k:QgY T2 5 W W'):OwnN .u8 5 base xs v W':=h.keep fun g hg=>by
  obtain ⟨c,r⟩:=Wr.own_typ h hg
  exact k _ _ _ r (.inr rfl)
structure Ps (base M : Nat) (ps : List Pe) (vs : Value) (W : World) : Prop where
  own:OwP base ps vs W
  sl:∀ p∈ps,OwnN .u8 5 base (FS p.ep p.nu) p.u W
  idx:∀ (k:Nat) (p:Pe),ps[k]? = some p→p.ep=k/M∧p.nu=k%M
theorem Ps.keep {base M:Nat} {ps:List Pe} {vs:Value} {W W':World} (h:Ps base M ps vs W) (k:QgY 35 5 W W'):Ps base M ps vs W':=⟨h.own.keep k,fun p hp=>QjF (h.sl p hp) k,h.idx⟩
theorem Ps.ext {base M:Nat} {ps:List Pe} {vs:Value} {W W':World} (h:Ps base M ps vs W) (e:Ext W W'):Ps base M ps vs W':=h.keep (QgI e _ _)
structure Sa (w0 : World) (gA gB eA eB : Nat) (gcA : Nat → Nat) (f : Nat → Ln) (vA vB : Value) (W : World) : Prop where
  x:Ext w0 W
  la:w0.heap.size≤gA
  lb:w0.heap.size≤gB
  ne:gA≠gB
  a:Bx gA w0.heap.size 0 eA gcA vA W
  b:Bx gB w0.heap.size 3 eB (fun j=>(f j).gc) vB W
  ab:∀ c,vA.ownBlock=some c→vB.ownBlock≠some c
  ln:∀ j,j<eB→eB-4≤j→Qbo (f j) (QbI (secE j) 2 0) W∧w0.heap.size≤(f j).cg∧w0.heap.size≤(f j).cm
  inj:∀ i j,i<eB→j<eB→eB-4≤i→eB-4≤j→i≠j→(f i).cg≠(f j).cg∧(f i).cm≠(f j).cm
theorem Sa.ext {w0 : World} {gA gB eA eB:Nat} {gcA:Nat→Nat} {f:Nat→Ln} {vA vB:Value} {W W':World} (h:Sa w0 gA gB eA eB gcA f vA vB W) (e:Ext W W'):Sa w0 gA gB eA eB gcA f vA vB W' :=
  ⟨zbk h.x e,h.la,h.lb,h.ne,h.a.ext e,h.b.ext e,h.ab,fun j h1 h2=>⟨(h.ln j h1 h2).1.ext e,(h.ln j h1 h2).2⟩,h.inj⟩
theorem QlF {g cg cm pl:Nat} {s0 ts:List Int} {ms:List (Int×List Int)} {d:Array Value} {T0:TypeId} {W W':World} (h:ChSt cg cm s0 ts pl ms W) (r0:W.heap[g]? = some (.cells d T0)) (q:ExtB g W W') (hT:T0≠82):ChSt cg cm s0 ts pl ms W':=by
  obtain ⟨B,-,r⟩:=h.row
  obtain ⟨es,cl,m,-⟩:=h.mp
  exact h.keep (q.2.2.2.2 _ (Qaq r) (Qde r r0 (Ne.symm hT))) (q.2.2.2.2 _ h.mp.lt (fun e=>by subst e; rw [r0] at m; cases m))
theorem Qbo.but {l : Ln} {g:Nat} {s0:List Int} {d:Array Value} {T0:TypeId} {W W':World} (h:Qbo l s0 W) (r0:W.heap[g]? = some (.cells d T0)) (q:ExtB g W W') (hT:T0≠82∧T0≠71∧T0≠73):Qbo l s0 W':=by
  obtain ⟨gl,cap,lp,ms,h1,h2,h3,h4⟩:=h
  exact ⟨gl,cap,lp,ms,zbl q h1 (Qde h1 r0 (Ne.symm hT.2.1)),zbl q h2 (Qde h2 r0 (Ne.symm hT.2.2)),h3,QlF h4 r0 q hT.1⟩
theorem Sa.but {w0 : World} {gA gB eA eB g:Nat} {gcA:Nat→Nat} {f:Nat→Ln} {vA vB:Value} {d:Array Value} {T0:TypeId} {W W':World} (h:Sa w0 gA gB eA eB gcA f vA vB W) (r0:W.heap[g]? = some (.cells d T0)) (q:ExtB g W W') (hg:w0.heap.size≤g) (hT:(T0≠82∧T0≠71∧T0≠73)∧T0≠49∧T0≠55):Sa w0 gA gB eA eB gcA f vA vB W' :=
  have hb:∀ {g' base e:Nat} {leaf:Int} {gc:Nat→Nat} {v:Value},Bx g' base leaf e gc v W→Bx g' base leaf e gc v W':=fun hx=>hx.keep (q.2.2.2.2 _ (Qaq hx.row) (Qde hx.row r0 (Ne.symm hT.2.1))) fun k hk=>by
    obtain ⟨-,c,r⟩:=hx.own.at hk
    exact q.2.2.2.2 _ (Qaq r) (Qde r r0 (Ne.symm hT.2.2))
  ⟨Qaf.ext (QfA q) h.x (fun c hc=>by rw [zaJ] at hc; omega),h.la,h.lb,h.ne,hb h.a,hb h.b,h.ab,fun j h1 h2=>⟨(h.ln j h1 h2).1.but r0 q hT.1,(h.ln j h1 h2).2⟩,h.inj⟩
theorem Qfg {g : Nat} {W W':World} (q:W.grownBy W' (some g)):ExtB g W W':=⟨q.os,q.tape,q.output,q.size,fun k hk hn=>q.block k hk (fun e=>hn (Option.some.inj e))⟩
theorem Sa.app {w0 : World} {gA gB eA eB:Nat} {gcA:Nat→Nat} {f:Nat→Ln} {vA vB vs:Value} {ps:List Pe} {W W':World} (h:Sa w0 gA gB eA eB gcA f vA vB W) (o:OwP w0.heap.size ps vs W) (q:W.grownBy W' vs.ownBlock):Sa w0 gA gB eA eB gcA f vA vB W':=by
  cases e:vs.ownBlock with
  | none=>rw [e] at q; exact h.ext (Qeb q)
  | some g =>
    obtain ⟨hb,c,r⟩:=o.at e
    rw [e] at q
    exact h.but r (Qfg q) hb (by decide)
theorem Ps.app {base M:Nat} {ps:List Pe} {vs v':Value} {p:Pe} {W W':World} (h:Ps base M ps vs W) (o:OwP base (ps++[p]) v' W') (q:W.grownBy W' vs.ownBlock) (hu:OwnN .u8 5 base (FS p.ep p.nu) p.u W) (hi:p.ep=ps.length/M∧p.nu=ps.length%M):Ps base M (ps++[p]) v' W':=by
  have k:QgY 5 5 W W':=by
    cases e:vs.ownBlock with
    | none=>rw [e] at q; exact QgI (Qeb q) _ _
    | some g =>
      obtain ⟨-,c,r⟩:=h.own.at e
      rw [e] at q
      exact QgJ r (Qfg q) (by decide) (by decide)
  refine ⟨o,fun m hm=>?_,fun i m hm=>?_⟩
  · rcases zab.1 hm with h1 | h1
    · exact QjF (h.sl m h1) k
    · obtain rfl:m=p:=by simpa using h1
      exact QjF hu k
  · rcases zaK i ps.length with h1 | h1
    · rw [List.getElem?_append_left h1] at hm; exact h.idx i m hm
    · have h2:=(zav.1 hm).1
      rw [zaI,zaL] at h2
      obtain rfl:i=ps.length:=by omega
      rw [List.getElem?_append_right (qR _),Nat.sub_self] at hm
      obtain rfl:=Option.some.inj hm
      exact hi
structure La (w0 : World) (e n : Nat) (gcA : Nat → Nat) (f : Nat → Ln) (la : Ln) (W : World) : Prop where
  line:Qbo la (QbI (secE e) 2 0) W
  gc:la.gc=gcA e
  ts:∀ m∈la.ts,0≤m∧m<((n:Nat):Int)
  pl:la.pl=n
  cg:w0.heap.size≤la.cg
  cm:w0.heap.size≤la.cm
  ne:∀ j,j<e+1→e+1-4≤j→la.cg≠(f j).cg∧la.cm≠(f j).cm
theorem La.ext {w0 : World} {e n:Nat} {gcA:Nat→Nat} {f:Nat→Ln} {la:Ln} {W W':World} (h:La w0 e n gcA f la W) (x:Ext W W'):La w0 e n gcA f la W':=⟨h.line.ext x,h.gc,h.ts,h.pl,h.cg,h.cm,h.ne⟩
theorem La.app {w0 : World} {e n:Nat} {gcA:Nat→Nat} {f:Nat→Ln} {la:Ln} {vs:Value} {ps:List Pe} {W W':World} (h:La w0 e n gcA f la W) (o:OwP w0.heap.size ps vs W) (q:W.grownBy W' vs.ownBlock):La w0 e n gcA f la W':=by
  cases e:vs.ownBlock with
  | none=>rw [e] at q; exact h.ext (Qeb q)
  | some g =>
    obtain ⟨hb,c,r⟩:=o.at e
    rw [e] at q
    exact ⟨h.line.but r (Qfg q) (by decide),h.gc,h.ts,h.pl,h.cg,h.cm,h.ne⟩
end Pk
end
section
namespace Pk
open Go Go.RowKit
open Rely Auto Own Sha
open Cha
open Ae hiding run_storeQ
open Cn hiding nb_new run_extractT
theorem OwE.lt {base : Nat} {es:List Ep} {v:Value} {W:World} (h:OwE base es v W) {k:Nat} (e:v.ownBlock=some k):k<W.heap.size:=by obtain ⟨-,c,r⟩:=h.at e; exact Qaq r
theorem QeF {v : Value} {g c:Nat} (h:c∈ownL v++[g]):v.ownBlock=some c∨c=g:=by
  rcases zab.1 h with h | h
  · exact .inl (by unfold ownL at h; simpa using h)
  · exact .inr (by simpa using h)
theorem Bx.frame {g g' base base' e e':Nat} {leaf leaf':Int} {gc gc':Nat→Nat} {v v':Value} {W W':World} (h:Bx g base leaf e gc v W) (h':Bx g' base' leaf' e' gc' v' W) (q:Qaf (ownL v'++[g']) W W') (hg:g≠g') (ho:∀ c,v.ownBlock=some c→v'.ownBlock≠some c):Bx g base leaf e gc v W' :=
  h.keeps q (fun hm=>(QeF hm).elim (fun e=>by obtain ⟨-,c,r⟩:=h'.own.at e; exact Qde h.row r (by decide) rfl) hg) fun k hk hm=>(QeF hm).elim (fun e=>ho k hk e) (fun e=>by subst e; obtain ⟨-,c,r⟩:=h.own.at hk; exact Qde r h'.row (by decide) rfl)
theorem Sa.enterA {w0 w:World} {gA gB e:Nat} {gcA:Nat→Nat} {f:Nat→Ln} {vA vB:Value} (h:Sa w0 gA gB e e gcA f vA vB w) (he:e≤5) {tc tq th tr:TypeId} (T:Tb tc tq th tr w0) :
    Calls Tryd.prog 7 #[.pointer (some ⟨gA,0,none⟩),.agg (ints .u8 pG5),.int .i64 ((e:Nat):Int),.agg (ints .u8 (secE e)),.int .i64 4,.int .i64 0] w (fun x W=>x=.returned .nilIface∧Qbv w W∧∃ (gcA':Nat→Nat) (vA':Value) (la:Ln),Sa w0 gA gB (e+1) e gcA' f vA' vB W∧Qbo la (QbI (secE e) 2 0) W∧la.gc=gcA' e∧la.ts=[]∧la.pl=0∧w.heap.size≤la.cg∧w.heap.size≤la.cm):=by
  refine (Qk1 gA w0.heap.size 0 (by decide) (by decide) e he gcA vA w h.x.size h.a tc tq th tr (T.ext h.x)).mono ?_
  rintro y W ⟨rfl,q,k,v',l,hb,hl,h1,h2,h3,h4,h5⟩
  refine ⟨rfl,k,_,v',l,⟨Qaf.ext q h.x (fun c hc=>(QeF hc).elim (fun e=>(h.a.own.at e).1) (fun e=>by rw [e]; exact h.la)),h.la,h.lb,h.ne,hb,h.b.frame h.a q (Ne.symm h.ne) (fun c hc e=>h.ab c e hc),fun c hc e=>?_,fun j j1 j2=>⟨(h.ln j j1 j2).1.keepT k,(h.ln j j1 j2).2⟩,h.inj⟩,hl,(if_pos rfl).symm,h1,h2,h3,h4⟩
  have:=h.b.own.lt e
  rcases h5 c hc with h6 | h6
  · exact h.ab c h6 e
  · omega
theorem Sa.enterB {w0 w:World} {gA gB e:Nat} {gcA:Nat→Nat} {f:Nat→Ln} {vA vB:Value} {la:Ln} (h:Sa w0 gA gB (e+1) e gcA f vA vB w) (he:e≤5) {tc tq th tr:TypeId} (T:Tb tc tq th tr w0) (hf:∀ j,(f j).ts=[]∧(f j).pl=0)
    (hl:Qbo la (QbI (secE e) 2 0) w) (hgc:la.gc=gcA e) (hts:la.ts=[]) (hpl:la.pl=0) (hcg:w0.heap.size≤la.cg) (hcm:w0.heap.size≤la.cm) (hne:∀ j,j<e→e-4≤j→la.cg≠(f j).cg∧la.cm≠(f j).cm) :
    Calls Tryd.prog 7 #[.pointer (some ⟨gB,0,none⟩),.agg (ints .u8 pG5),.int .i64 ((e:Nat):Int),.agg (ints .u8 (secE e)),.int .i64 4,.int .i64 3] w (fun x W=>x=.returned .nilIface∧Qbv w W∧∃ (f':Nat→Ln) (vB':Value),Sa w0 gA gB (e+1) (e+1) gcA f' vA vB' W∧La w0 e 0 gcA f' la W∧∀ j,(f' j).ts=[]∧(f' j).pl=0):=by
  refine (Qk1 gB w0.heap.size 3 (by decide) (by decide) e he _ vB w h.x.size h.b tc tq th tr (T.ext h.x)).mono ?_
  rintro y W ⟨rfl,q,k,v',l,hb,hll,h1,h2,h3,h4,h5⟩
  have hlt:=hl.lt
  have hs:=h.x.size
  have hfe:(fun j=>(if j=e then l else f j).gc)=fun j=>if j=e then l.gc else (f j).gc:=funext fun j=>by split <;> rfl
  refine ⟨rfl,k,fun j=>if j=e then l else f j,v',⟨Qaf.ext q h.x (fun c hc=>(QeF hc).elim (fun e=>(h.b.own.at e).1) (fun e=>by rw [e]; exact h.lb)),h.la,h.lb,h.ne,h.a.frame h.b q h.ne h.ab,(by rw [hfe]; exact hb),fun c hc e2=>?_,fun j j1 j2=>?_,fun i j i1 j1 i2 j2 hij=>?_⟩,⟨hl.keepT k,hgc,(by rw [hts]; intro m hm; cases hm),hpl,hcg,hcm,fun j j1 j2=>?_⟩,fun j=>?_⟩
  · have:=h.a.own.lt hc
    rcases h5 c e2 with h6 | h6
    · exact h.ab c hc h6
    · omega
  · try dsimp only
    by_cases hj:j=e
    · subst hj; rw [if_pos rfl]; exact ⟨hll,by omega,by omega⟩
    · rw [if_neg hj]
      have:=h.ln j (by omega) (by omega)
      exact ⟨this.1.keepT k,this.2⟩
  · try dsimp only
    by_cases hi:i=e
    · subst hi
      rw [if_pos rfl,if_neg (Ne.symm hij)]
      have:=(h.ln j (by omega) (by omega)).1.lt
      exact ⟨by omega,by omega⟩
    · rw [if_neg hi]
      by_cases hj:j=e
      · subst hj
        rw [if_pos rfl]
        have:=(h.ln i (by omega) (by omega)).1.lt
        exact ⟨by omega,by omega⟩
      · rw [if_neg hj]; exact h.inj i j (by omega) (by omega) (by omega) (by omega) hij
  · try dsimp only
    by_cases hj:j=e
    · subst hj; rw [if_pos rfl]; exact ⟨by omega,by omega⟩
    · rw [if_neg hj]; exact hne j (by omega) (by omega)
  · try dsimp only
    by_cases hj:j=e
    · rw [if_pos hj]; exact ⟨h1,h2⟩
    · rw [if_neg hj]; exact hf j
theorem Sa.line {w0 : World} {gA gB eA eB:Nat} {gcA:Nat→Nat} {f:Nat→Ln} {vA vB:Value} {l:Ln} {s0:List Int} {W W':World} (h:Sa w0 gA gB eA eB gcA f vA vB W) (k:Qbo l s0 W) (q:Qaf [l.cg,l.cm] W W') (hcg:w0.heap.size≤l.cg) (hcm:w0.heap.size≤l.cm) (hne:∀ j,j<eB→eB-4≤j→(f j).cg≠l.cg∧(f j).cm≠l.cm):Sa w0 gA gB eA eB gcA f vA vB W' :=
  ⟨Qaf.ext q h.x (fun c hc=>by simp only [zaf,zag,or_false] at hc; rcases hc with rfl | rfl; exact hcg; exact hcm),h.la,h.lb,h.ne,h.a.line k q,h.b.line k q,h.ab,fun j h1 h2=>⟨(h.ln j h1 h2).1.other k q (hne j h1 h2).1 (hne j h1 h2).2,(h.ln j h1 h2).2⟩,h.inj⟩
theorem Sa.seal {w0 w:World} {gA gB e n M:Nat} {gcA:Nat→Nat} {f:Nat→Ln} {vA vB vs:Value} {la:Ln} {ps:List Pe} (h:Sa w0 gA gB (e+1) (e+1) gcA f vA vB w) (hl:La w0 e n gcA f la w) (hp:Ps w0.heap.size M ps vs w) (he:e≤5) (hn:n≤7) {tc tq th tr:TypeId} (T:Tb tc tq th tr w0) (tv:Value) (htv:∀ W,Qaf [la.cg,la.cm] w W→RdK .u8 W.heap.size (tX e n) tv W) :
    Calls Tryd.prog 8 #[.pointer (some ⟨gA,0,none⟩),tv] w (fun x W=>∃ u,x=.returned (.tuple #[pkE e n u,.nilIface])∧∃ la',Sa w0 gA gB (e+1) (e+1) gcA f vA vB W∧La w0 e (n+1) gcA f la' W∧Ps w0.heap.size M ps vs W∧OwnN .u8 5 w0.heap.size (FS e n) u W):=by
  refine (QnB gA w0.heap.size e n he hn gcA vA w0 w h.a la hl.gc hl.line hl.pl hl.ts tc tq th tr T h.x hl.cg hl.cm tv htv).mono ?_
  rintro y W ⟨u,rfl,q,hll,hu⟩
  refine ⟨u,rfl,_,h.line hl.line q hl.cg hl.cm (fun j h1 h2=>⟨Ne.symm (hl.ne j h1 h2).1,Ne.symm (hl.ne j h1 h2).2⟩),⟨hll,hl.gc,fun m hm=>?_,rfl,hl.cg,hl.cm,hl.ne⟩,hp.keep (Qem hl.line q (by decide) (by decide)),zbn h.x.size hu⟩
  rcases zab.1 hm with h1 | h1
  · have:=hl.ts m h1; omega
  · obtain rfl:=zaJ.1 h1; omega
structure Tm (M E : Nat) (ps : List Pe) (f : Nat → Ln) (ns : List Int) : Prop where
  len:ns.length=ps.length
  rel:∀ k,k<ps.length→E-4≤k/M→nth ns k=if ((k%M:Nat):Int)∈(f (k/M)).ts then 1 else 0
  rng:∀ (j:Nat),∀ m∈(f j).ts,0≤m∧m<8
def upd (f : Nat→Ln) (e n:Nat):Nat→Ln:=fun j=>if j=e then ⟨(f e).gc,(f e).cg,(f e).cm,(f e).ts++[((n:Nat):Int)],max (f e).pl (n+1)⟩ else f j
theorem Qg9 (l : List Int) (i:Nat) (x:Int) (h:i<l.length):nth (l.set i x) i=x:=by unfold nth; rw [zaM,List.getElem?_set_self h]; rfl
theorem QfW (l : List Int) (i j:Nat) (x:Int) (h:i≠j):nth (l.set i x) j=nth l j:=by unfold nth; rw [zaM,List.getElem?_set_ne h,←zaM]
theorem Tm.step {M E k:Nat} {ps:List Pe} {f:Nat→Ln} {ns:List Int} (h:Tm M E ps f ns) (hM:1≤M) (hM8:M≤8) (hk:k<ps.length):Tm M E ps (upd f (k/M) (k%M)) (ns.set k 1):=by
  have hmod:k%M<M:=zaN _ (by omega)
  refine ⟨by rw [List.length_set]; exact h.len,fun i hi he=>?_,fun j m hm=>?_⟩
  · by_cases hik:i=k
    · subst hik
      rw [Qg9 _ _ _ (by rw [h.len]; exact hi)]
      unfold upd
      rw [if_pos rfl,if_pos (by simp)]
    · rw [QfW _ _ _ _ (Ne.symm hik),h.rel i hi he]
      unfold upd
      by_cases hd:i/M=k/M
      · rw [if_pos hd,hd]
        have hne:i%M≠k%M:=fun e=>hik (by rw [←zaO i M,←zaO k M,hd,e])
        have:(((i%M:Nat):Int)∈(f (k/M)).ts++[((k%M:Nat):Int)])↔((i%M:Nat):Int)∈(f (k/M)).ts:=by
          rw [zab,zaJ]
          exact ⟨fun h=>h.elim id (fun e=>absurd (by omega) hne),.inl⟩
        simp only [this]
      · rw [if_neg hd]
  · unfold upd at hm
    split at hm
    · rcases zab.1 hm with h1 | h1
      · exact h.rng _ m h1
      · obtain rfl:=zaJ.1 h1; omega
    · exact h.rng j m hm
theorem Sa.opens {w0 w:World} {gA gB E e n M:Nat} {gcA:Nat→Nat} {f:Nat→Ln} {vA vB vs:Value} {ps:List Pe} (h:Sa w0 gA gB E E gcA f vA vB w) (hp:Ps w0.heap.size M ps vs w) (hE:E≤6) (h1:E-4≤e) (h2:e<E) (hn:n≤7) (hck:chkN (f e).ts (f e).pl ((n:Nat):Int)=0) {tc tq th tr:TypeId} (T:Tb tc tq th tr w0) (u:Value) (hst:∀ W,Ext w W→RdK .u8 W.heap.size (FS e n) u W) :
    Calls Tryd.prog 9 #[.pointer (some ⟨gB,0,none⟩),pkE e n u] w (fun x W=>∃ t,x=.returned (.tuple #[t,.nilIface])∧Sa w0 gA gB E E gcA (upd f e n) vA vB W∧Ps w0.heap.size M ps vs W∧(∃ l s0,Qbo l s0 w∧Qaf [l.cg,l.cm] w W)∧OwnN .u8 5 w0.heap.size (tX e n) t W):=by
  obtain ⟨hl,hcg,hcm⟩:=h.ln e h2 h1
  refine (QnO gB w0.heap.size E e n hE h1 h2 hn _ vB w0 w h.b (f e) rfl hl hck tc tq th tr T h.x hcg hcm u hst).mono ?_
  rintro y W ⟨t,rfl,q,hll,ht⟩
  have hfe:(fun j=>(upd f e n j).gc)=fun j=>(f j).gc:=funext fun j=>by
    unfold upd
    split
    · rename_i hj; rw [hj]
    · rfl
  have hcc:∀ j,(upd f e n j).cg=(f j).cg∧(upd f e n j).cm=(f j).cm:=fun j=>by
    unfold upd
    split
    · rename_i hj; rw [hj]; exact ⟨rfl,rfl⟩
    · exact ⟨rfl,rfl⟩
  refine ⟨t,rfl,⟨Qaf.ext q h.x (fun c hc=>by simp only [zaf,zag,or_false] at hc; rcases hc with rfl | rfl; exact hcg; exact hcm),h.la,h.lb,h.ne,h.a.line hl q,(by rw [hfe]; exact h.b.line hl q),h.ab,fun j j1 j2=>?_,fun i j i1 j1 i2 j2 hij=>?_⟩,hp.keep (Qem hl q (by decide) (by decide)),⟨_,_,hl,q⟩,zbn h.x.size ht⟩
  · rw [(hcc j).1,(hcc j).2]
    refine ⟨?_,(h.ln j j1 j2).2⟩
    by_cases hj:j=e
    · subst hj
      unfold upd
      rw [if_pos rfl]; exact hll
    · have hij:=h.inj j e j1 h2 j2 h1 hj
      have:=(h.ln j j1 j2).1.other hl q hij.1 hij.2
      unfold upd
      rw [if_neg hj]; exact this
  · rw [(hcc i).1,(hcc i).2,(hcc j).1,(hcc j).2]; exact h.inj i j i1 j1 i2 j2 hij
end Pk
end
section
namespace Pk
open Go Go.RowKit
open Rely Auto Own Sha
open Cha
open Ae hiding run_storeQ
open Cn hiding nb_new run_extractT
theorem QoH (w : World):Calls Tryd.prog 27 #[.iface 41 (.int .i64 6)] w (Ret w (.int .i64 6)):=by
  refine enter 19 [(0,.iface 41 (.int .i64 6))] Tryd.func27 rfl rfl kj rfl <| sgB kj <| wp_seq_k fun K2 hK2=>sgB kj <| cond_false kj <| wp_skip <| hK2 _ _ <| sgB kj <| wp_seq_k fun K5 hK5=>sgB kj ?_
  refine cond_false kj <| wp_skip <| hK5 _ _ <| sgB kj <| wp_ret ?_
  repeat (first | with_reducible refine goR1 ?_ | with_reducible refine goR2 ?_)
  exact (show bodyPost _ _ _ .ret _ _ from ret1 (.int .i64 6) rfl (Qaz kj) ⟨rfl,(zbg w)⟩)
theorem is6 (w : World):Calls Tryd.prog 10 #[.iface 41 (.int .i64 6),.int .i64 6] w (Ret w (.bool true)):=by
  refine enter 9 [(0,.iface 41 (.int .i64 6)),(1,.int .i64 6)] Tryd.func10 rfl rfl kj rfl <| sgB kj <| sgC fun K2 hK2=>sg 1 kj <| Qau (.int .i64 6) 27 #[.iface 41 (.int .i64 6)] 6 rfl kj kj ((QoH) _) fun W1 e1=>sg 3 kj <| sgN hK2 <| wp_ret ?_
  repeat (first | with_reducible refine goR1 ?_ | with_reducible refine goR2 ?_)
  exact (show bodyPost _ _ _ .ret _ _ from ret1 (.bool true) rfl (Qaz kj) ⟨rfl,(zbk (zbg w) e1)⟩)
theorem QoF (w : World):Calls Tryd.prog 27 #[.iface 41 (.int .i64 9)] w (Ret w (.int .i64 9)):=by
  refine enter 19 [(0,.iface 41 (.int .i64 9))] Tryd.func27 rfl rfl kj rfl <| sgB kj <| wp_seq_k fun K2 hK2=>sgB kj <| cond_false kj <| wp_skip <| hK2 _ _ <| sgB kj <| wp_seq_k fun K5 hK5=>sgB kj ?_
  refine cond_false kj <| wp_skip <| hK5 _ _ <| sgB kj <| wp_ret ?_
  repeat (first | with_reducible refine goR1 ?_ | with_reducible refine goR2 ?_)
  exact (show bodyPost _ _ _ .ret _ _ from ret1 (.int .i64 9) rfl (Qaz kj) ⟨rfl,(zbg w)⟩)
theorem is9 (w : World):Calls Tryd.prog 10 #[.iface 41 (.int .i64 9),.int .i64 9] w (Ret w (.bool true)):=by
  refine enter 9 [(0,.iface 41 (.int .i64 9)),(1,.int .i64 9)] Tryd.func10 rfl rfl kj rfl <| sgB kj <| sgC fun K2 hK2=>sg 1 kj <| Qau (.int .i64 9) 27 #[.iface 41 (.int .i64 9)] 6 rfl kj kj ((QoF) _) fun W1 e1=>sg 3 kj <| sgN hK2 <| wp_ret ?_
  repeat (first | with_reducible refine goR1 ?_ | with_reducible refine goR2 ?_)
  exact (show bodyPost _ _ _ .ret _ _ from ret1 (.bool true) rfl (Qaz kj) ⟨rfl,(zbk (zbg w) e1)⟩)
theorem Qnz (x : Int):0≤zaP.wrap x:=zaQ _ (by decide)
theorem remN (at_ : Int) (n:Nat) (hn:0<n):∃ k:Nat,k<n∧zaR (zaP.wrap at_) ((n:Nat):Int)=(k:Int):=by
  have h0:=Qnz at_
  have h1:=zaQ (zaP.wrap at_) (show ((n:Nat):Int)≠0 by omega)
  have h2:=Int.emod_lt_of_pos (zaP.wrap at_) (show (0:Int)<((n:Nat):Int) by omega)
  refine ⟨(zaP.wrap at_%(n:Int)).toNat,by omega,?_⟩
  rw [Int.tmod_eq_emod_of_nonneg h0,Int.toNat_of_nonneg h1]
theorem u64_n (n : Nat) (h:n≤65536):zaP.wrap ((n:Nat):Int)=((n:Nat):Int):=zaS (by omega) (by show ((n:Nat):Int)<18446744073709551616; omega)
theorem u8_n (n : Nat) (h:n≤255):zaT.wrap ((n:Nat):Int)=((n:Nat):Int):=zaS (by omega) (by show ((n:Nat):Int)<256; omega)
theorem Qd9 {l : Ln} {s0:List Int} {W W':World} {g:Nat} {c:Array Value} {T0:TypeId} (k:Qbo l s0 W) (q:Qaf [l.cg,l.cm] W W') (r:W.heap[g]? = some (.cells c T0)) (hT:T0≠82):W'.heap[g]? = some (.cells c T0):=(Qem k q hT hT g c T0 r (.inl rfl)).trans r
theorem Qkd {W W':World} (k:Qbv W W') {g:Nat} {c:Array Value} {T0:TypeId} (r:W.heap[g]? = some (.cells c T0)) (h1:T0≠55) (h2:T0≠49):W'.heap[g]? = some (.cells c T0):=k g _ r (fun d e=>by injection e with _ e2 _; exact h1 e2) (fun d e=>by injection e with _ e2 _; exact h2 e2)
theorem Qmx {w W:World} {gA gB:Nat} (x:Ext w W) (la:w.heap.size≤gA) (lb:w.heap.size≤gB) (ne:gA≠gB) (ra:W.heap[gA]? = some (.cells (cat [#[.slice none 0 0],#[.bool false]]) 49)) (rb:W.heap[gB]? = some (.cells (cat [#[.slice none 0 0],#[.bool false]]) 49)) :
    Sa w gA gB 0 0 (fun _=>0) (fun _=>⟨0,0,0,[],0⟩) (.slice none 0 0) (.slice none 0 0) W :=
  ⟨x,la,lb,ne,⟨ra,OwE.nil _ _,fun _=>rfl⟩,⟨rb,OwE.nil _ _,fun _=>rfl⟩,fun c h=>(by cases h),fun j h=>absurd h (zaU _),fun i j h=>absurd h (zaU _)⟩
theorem Qm1 {M g base:Nat} {W:World} (hb:base≤g) (r:W.heap[g]? = some (.cells #[] 35)):Ps base M [] (.slice (some ⟨g,0,none⟩) 0 0) W :=
  ⟨OwP.empty hb r,fun p h=>(by cases h),fun k p h=>(by cases h)⟩
theorem Qld {g : Nat} {W W':World} (p:Puts W g W'):ExtB g W W':=⟨p.1,p.2.1,p.2.2.1,qE p.2.2.2.1.symm,fun k _ hn=>p.2.2.2.2 k hn⟩
theorem Qmt {M E:Nat} {ps:List Pe} {f:Nat→Ln} (hf:∀ j,(f j).ts=[]∧(f j).pl=0):Tm M E ps f (zad ps.length 0) :=
  ⟨qZ,fun k hk _=>by
    rw [(hf _).1,if_neg (by simp)]
    unfold nth
    rw [zaM,List.getElem?_replicate]
    split <;> rfl,fun j m hm=>by rw [(hf j).1] at hm; cases hm⟩
section
variable {ds : List Deferred} {P : Program} {ops : Array Oper} {Q : Exit → Act → World → Prop} {rest : List Oper} {o : Oper} {N : Nat} {L : Env} {w : World}
theorem QkR (b : Nat) (s x:Operand) (t:TypeId) (d:Nat) (ho:o.op=.call { callee:=.builtin .append,args:=#[s,x],argTypes:=#[t,t] }) (ht:P.underlying t=some (.slice 35))
    (hi:(P.info? 35).map (fun i=>(i.zero.map (·.cells.size),i.size,i.bytes))=some (some 36,36,b)) (hb8:b≤1000) {base g:Nat} {v:Value} {ps:List Pe} {p:Pe} (hs:Rely.look (envN N L) s=v) (hx:Rely.look (envN N L) x=.slice (some ⟨g,0,none⟩) 1 1)
    (h:OwP base ps v w) (hp:p.u.oneCell'=true) (hrow:w.heap[g]? = some (.cells (cat (peP p)) 35)) (hl:ps.length≤1000) (hbase:base≤w.heap.size) (hd:o.dst=some d) (hg:Qbm ops o N L=some true)
    (k:∀ (v':Value) (W:World),OwP base (ps++[p]) v' W→w.grownBy W v.ownBlock→WL P ops Q rest (Qaw ds N ((d,v')::L)) W):WL P ops Q (o::rest) (Qaw ds N L) w:=by
  obtain ⟨v',W',hr,h2,h3⟩:=OwP.app b s x t ho ht hi hb8 hs hx h hp hrow hl hbase
  exact Qbz v' W' d hd hg hr (k v' W' h2 h3)
end
set_option maxRecDepth 100000 in
theorem QmO (w : World) {tc tq th tr:TypeId} (T:Tb tc tq th tr w) (n_e n_m:Int) (zs:List Int) (a_z:Option Addr) (c_z:Nat) (hz:RdK .i64 w.heap.size zs (.slice a_z zs.length c_z) w) (hzl:zs.length≤100):Calls Tryd.prog 3 #[.int .i64 n_e,.int .i64 n_m,.slice a_z zs.length c_z] w (Ret w (.bool true)):=by
 refine enter 181 [(0,.int .i64 n_e),(1,.int .i64 n_m),(2,.slice a_z zs.length c_z)] Tryd.func3 rfl rfl kj rfl <| sgB kj <| wp_seq_k fun K2 hK2=>sgC fun K3 hK3=>Qau (.bool true) 5 #[] 23 rfl kj kj (QkC tc tq th tr _ (T.ext (zbg w)).c (T.ext (zbg w)).q (T.ext (zbg w)).r (T.ext (zbg w)).h (T.ext (zbg w)).T) fun W1 e1=>?_
 have x1:=zbk (zbg w) e1
 refine sg 1 kj <| sgN hK3 <| cond_false kj <| wp_skip <| hK2 _ _ <| wp_seq_k fun K4 hK4=>sgC fun K5 hK5=>sg 2 kj <| Qab (.bool false) 27 rfl kj (Qah (u:=.bool (decide (((zs.length:Nat):Int)>100))) kj (congrArg zae (decide_eq_false (by omega)))) <| sgN hK5 ?_
 refine cond_false kj <| wp_skip <| hK4 _ _ <| wp_seq_k fun K6 hK6=>?_
 skip
 ·skip
  obtain ⟨e0,he0,hee⟩:=remN n_e 6 (by decide)
  obtain ⟨m0,hm0,hme⟩:=remN n_m 8 (by decide)
  obtain ⟨E,hE⟩:∃ E,E=e0+1:=⟨_,rfl⟩
  obtain ⟨M,hM⟩:∃ M,M=m0+1:=⟨_,rfl⟩
  refine Qae <| sg 2 kj <| Qab (.int .u64 (((e0:Nat):Int))) 30 rfl kj (Qah (u:=.int .u64 (zaR ((zaP.wrap (n_e))) (6))) kj (congrArg (zaV .u64) (show zaR _ (6:Int)=_ from hee))) <| Qab (.int .i64 (((e0:Nat):Int))) 31 rfl kj (Qah (u:=.int .i64 (zaW.wrap (((e0:Nat):Int)))) kj (congrArg (zaV .i64) (Qer e0 (by omega)))) <| Qab (.int .i64 (((E:Nat):Int))) 32 rfl kj (Qah (u:=.int .i64 (zaW.wrap (1+((e0:Nat):Int)))) kj (congrArg (zaV .i64) (by rw [QbJ _ (by omega)]; omega))) ?_
  refine sg 2 kj <| Qab (.int .u64 (((m0:Nat):Int))) 35 rfl kj (Qah (u:=.int .u64 (zaR ((zaP.wrap (n_m))) (8))) kj (congrArg (zaV .u64) (show zaR _ (8:Int)=_ from hme))) <| Qab (.int .i64 (((m0:Nat):Int))) 36 rfl kj (Qah (u:=.int .i64 (zaW.wrap (((m0:Nat):Int)))) kj (congrArg (zaV .i64) (Qer m0 (by omega)))) <| Qab (.int .i64 (((M:Nat):Int))) 37 rfl kj (Qah (u:=.int .i64 (zaW.wrap (1+((m0:Nat):Int)))) kj (congrArg (zaV .i64) (by rw [QbJ _ (by omega)]; omega))) ?_
  refine sg 2 kj <| sgN hK6 <| sgC fun K7 hK7=>Qav (fun v W'=>(fun v W=>∃ g,v=.pointer (some ⟨g,0,none⟩)∧W1.heap.size≤g∧W.heap[g]? = some (.cells (cat [#[.slice none 0 0],#[.bool false]]) 49)) v W'∧Ext W1 W') 6 #[] 38 rfl kj kj ((newB _).mono (by rintro e w' ⟨v,rfl,e1,hv⟩; exact ⟨v,rfl,hv,e1⟩)) fun vv8 W2 hh8=>?_
  obtain ⟨hv8,e2⟩:=hh8
  have x2:=zbk x1 e2
  obtain ⟨gA,rfl,lgA,rgA⟩:=hv8
  have l0A:=qT x1.size lgA
  refine Qav (fun v W'=>(fun v W=>∃ g,v=.pointer (some ⟨g,0,none⟩)∧W2.heap.size≤g∧W.heap[g]? = some (.cells (cat [#[.slice none 0 0],#[.bool false]]) 49)) v W'∧Ext W2 W') 6 #[] 39 rfl kj kj ((newB _).mono (by rintro e w' ⟨v,rfl,e1,hv⟩; exact ⟨v,rfl,hv,e1⟩)) fun vv9 W3 hh9=>?_
  obtain ⟨hv9,e3⟩:=hh9
  have x3:=zbk x2 e3
  obtain ⟨gB,rfl,lgB,rgB⟩:=hv9
  have l0B:=qT x2.size lgB
  refine sg 2 kj <| sgN hK7 <| sgC fun K10 hK10=>QaU (#[]) 35 0 40 rfl kj kj fun g11 W4 l11 e4 r11_4=>?_
  have x4:=zbk x3 e4
  refine sg 1 kj <| sgN hK10 <| wp_seq_k fun K12 hK12=>sgB kj <| wp_block ?_
  have nAB:gA≠gB:=zaj (qL (Qaq rgA) lgB)
  have hsa0:=Qmx x4 l0A l0B nAB (Qaa rgA (zbh (zbh (zbg W2) e3) e4)) (Qaa rgB (zbh (zbg W3) e4))
  have hps0:Ps w.heap.size M [] _ W4:=Qm1 (qT x3.size l11) r11_4
  refine QaF (fun (s1:Nat×(Nat→Nat)×(Nat→Ln)×Value×Value×Value×List Pe)=>[(0,.int .i64 (((E:Nat):Int))),(1,.int .i64 (((M:Nat):Int))),(2,.slice a_z zs.length c_z),(7,.pointer (some ⟨gA,0,none⟩)),(8,.pointer (some ⟨gB,0,none⟩)),(9,s1.2.2.2.2.2.1),(41,.int .i64 (((E:Nat):Int))),(42,.int .i64 ((s1.1:Nat):Int))]) (fun (s1:Nat×(Nat→Nat)×(Nat→Ln)×Value×Value×Value×List Pe) W=>(s1.1≤E)∧(Sa w gA gB s1.1 s1.1 s1.2.1 s1.2.2.1 s1.2.2.2.1 s1.2.2.2.2.1 W)∧(Ps w.heap.size M s1.2.2.2.2.2.2 s1.2.2.2.2.2.1 W)∧(s1.2.2.2.2.2.2.length=s1.1*M)∧(∀ j,(s1.2.2.1 j).ts=[]∧(s1.2.2.1 j).pl=0)∧(Ext w W)) (fun (s1:Nat×(Nat→Nat)×(Nat→Ln)×Value×Value×Value×List Pe)=>E-s1.1) (0,(fun _=>0),(fun _=>⟨0,0,0,[],0⟩),(.slice none 0 0),(.slice none 0 0),(.slice (some ⟨g11,0,none⟩) 0 0),[]) ⟨kj,kj,kj,kj,kj,kj,kj,kj,trivial⟩ ⟨(zaE _),hsa0,hps0,(by simp),(fun _=>⟨rfl,rfl⟩),x4⟩ fun s1 X1 V1 hI1=>?_
  obtain ⟨e,gc0,f0,vA,vB,vs,ps⟩:=s1
  obtain ⟨hle,hsa,hps,hpl,hf0,xx1⟩:=hI1
  replace hle:e≤E:=hle
  replace hsa:Sa w gA gB e e gc0 f0 vA vB V1:=hsa
  replace hps:Ps w.heap.size M ps vs V1:=hps
  replace hpl:ps.length=e*M:=hpl
  replace hf0:∀ j,(f0 j).ts=[]∧(f0 j).pl=0:=hf0
  replace xx1:Ext w V1:=xx1
  refine sgB kj <| wp_seq_k fun K15 hK15=>Qa2 (t:=decide (((e:Nat):Int)<((E:Nat):Int))) kj (fun c16=>?_) (fun c16=>?_)
  ·skip
   have hlt43:e<E:=by have:=of_decide_eq_true c16; omega
   refine wp_skip <| hK15 _ _ <| wp_seq_k fun K17 hK17=>wp_block <| sgB kj <| sgC fun K19 hK19=>sg 1 kj <| Qab (.int .u8 (((e:Nat):Int))) 46 rfl kj (Qah (u:=.int .u8 (zaT.wrap ((e:Nat):Int))) kj (congrArg (zaV .u8) (u8_n e (by omega)))) <| sg 1 kj <| Qar (ints .u8 (zad 32 0)) 29 11 rfl kj kj fun g20 W6 l20 e6 r20_6=>?_
   have x6:=zbk xx1 e6
   refine Qan g20 _ (ints .u8 (secE e)) 29 r20_6 rfl kj (Qao 29 _ _ g20 29 _ _ r20_6 rfl kj kj (isz (n:=32) kj (izT rfl)) (eqsz (n:=32) (izT (qZ (n:=32))) (izT rfl)) (Qay _ _)) fun W7 p7 r20_7=>?_
   have x7:=zbj p7 x6 (qT xx1.size l20)
   refine sgN hK19 <| wp_seq_k fun K21 hK21=>sgC fun K22 hK22=>sg 3 kj <| Qab (.agg (ints .u8 (secE e))) 51 rfl kj (Qap 29 _ g20 29 _ _ r20_7 rfl kj kj (isz (n:=32) kj (izT rfl))) ?_
   have y5_6:=(zbh (zbg V1) e6)
   have y5_7:=(zbj p7 y5_6 l20)
   have hsz8:Sa w gA gB e e gc0 f0 vA vB W7:=(hsa.ext y5_7)
   refine Qav (fun v W'=>v=.nilIface∧Qbv W7 W'∧∃ (gcA':Nat→Nat) (vA':Value) (la:Ln),Sa w gA gB (e+1) e gcA' f0 vA' vB W'∧Qbo la (QbI (secE e) 2 0) W'∧la.gc=gcA' e∧la.ts=[]∧la.pl=0∧W7.heap.size≤la.cg∧W7.heap.size≤la.cm) 7 #[.pointer (some ⟨gA,0,none⟩),.agg (ints .u8 (pG5)),.int .i64 ((e:Nat):Int),.agg (ints .u8 (secE e)),.int .i64 4,.int .i64 0] 52 rfl kj kj ((Sa.enterA hsz8 (by omega) T).mono (by rintro y W' ⟨rfl,h1,h2⟩; exact ⟨_,rfl,rfl,h1,h2⟩)) fun v W8 h23=>?_
   obtain ⟨rfl,kt8,gc1,vA1,la,hsa1,hla,hgc,hts,hpl_,hcg,hcm⟩:=h23
   have hs0:w.heap.size≤W7.heap.size:=hsz8.x.size
   have hne:∀ j,j<e→e-4≤j→la.cg≠(f0 j).cg∧la.cm≠(f0 j).cm:=fun j j1 j2=>by have:=(hsz8.ln j j1 j2).1.lt; omega
   have x8:=hsa1.x
   have hps1:Ps w.heap.size M ps vs W8:=((hps.ext y5_7)).keep (kt8.keepR (by decide) (by decide))
   refine sg 5 kj <| Qab (.agg (ints .u8 (secE e))) 58 rfl kj (Qap 29 _ g20 29 _ _ (Qkd kt8 r20_7 (by decide) (by decide)) rfl kj kj (isz (n:=32) kj (izT rfl))) ?_
   have hsz9:Sa w gA gB (e+1) e gc1 f0 vA1 vB W8:=hsa1
   have hla9:=hla.ext (zbg W8)
   refine Qav (fun v W'=>v=.nilIface∧Qbv W8 W'∧∃ (f':Nat→Ln) (vB':Value),Sa w gA gB (e+1) (e+1) gc1 f' vA1 vB' W'∧La w e 0 gc1 f' la W'∧∀ j,(f' j).ts=[]∧(f' j).pl=0) 7 #[.pointer (some ⟨gB,0,none⟩),.agg (ints .u8 (pG5)),.int .i64 ((e:Nat):Int),.agg (ints .u8 (secE e)),.int .i64 4,.int .i64 3] 59 rfl kj kj ((Sa.enterB hsz9 (by omega) T hf0 hla9 hgc hts hpl_ (qT hs0 hcg) (qT hs0 hcm) hne).mono (by rintro y W' ⟨rfl,h1,h2⟩; exact ⟨_,rfl,rfl,h1,h2⟩)) fun v W9 h24=>?_
   obtain ⟨rfl,kt9,f1,vB1,hsa2,hLa,hf1⟩:=h24
   have x9:=hsa2.x
   have hps2:Ps w.heap.size M ps vs W9:=(hps1).keep (kt9.keepR (by decide) (by decide))
   refine sg 2 kj <| sgN hK22 <| cond_false kj <| wp_skip <| hK21 _ _ <| sgB kj <| wp_block ?_
   have hs2_:Sa w gA gB (e+1) (e+1) gc1 f1 vA1 vB1 W9:=hsa2
   have hL2_:La w e 0 gc1 f1 la W9:=hLa
   have hp2_:Ps w.heap.size M ps vs W9:=hps2
   refine QaF (fun (s2:Nat×Ln×Value×List Pe)=>[(0,.int .i64 (((E:Nat):Int))),(1,.int .i64 (((M:Nat):Int))),(2,.slice a_z zs.length c_z),(7,.pointer (some ⟨gA,0,none⟩)),(8,.pointer (some ⟨gB,0,none⟩)),(9,s2.2.2.1),(10,.int .i64 ((e:Nat):Int)),(41,.int .i64 (((E:Nat):Int))),(42,.int .i64 ((e:Nat):Int)),(62,.int .i64 (((M:Nat):Int))),(63,.int .i64 ((s2.1:Nat):Int))]) (fun (s2:Nat×Ln×Value×List Pe) W=>(s2.1≤M)∧(Sa w gA gB (e+1) (e+1) gc1 f1 vA1 vB1 W)∧(La w e s2.1 gc1 f1 s2.2.1 W)∧(Ps w.heap.size M s2.2.2.2 s2.2.2.1 W)∧(s2.2.2.2.length=e*M+s2.1)∧(Ext w W)) (fun (s2:Nat×Ln×Value×List Pe)=>M-s2.1) (0,la,vs,ps) ⟨kj,kj,kj,kj,kj,kj,kj,kj,kj,kj,kj,trivial⟩ ⟨(zaE _),hs2_,hL2_,hp2_,(by rw [hpl]; rfl),x9⟩ fun s2 X2 V2 hI2=>?_
   obtain ⟨n,la,vs,ps⟩:=s2
   obtain ⟨hln,hsb,hlb,hpb,hpb_,xx2⟩:=hI2
   replace hln:n≤M:=hln
   replace hsb:Sa w gA gB (e+1) (e+1) gc1 f1 vA1 vB1 V2:=hsb
   replace hlb:La w e n gc1 f1 la V2:=hlb
   replace hpb:Ps w.heap.size M ps vs V2:=hpb
   replace hpb_:ps.length=e*M+n:=hpb_
   replace xx2:Ext w V2:=xx2
   refine sgB kj <| wp_seq_k fun K27 hK27=>Qa2 (t:=decide (((n:Nat):Int)<((M:Nat):Int))) kj (fun c28=>?_) (fun c28=>?_)
   ·skip
    have hlt64:n<M:=by have:=of_decide_eq_true c28; omega
    refine wp_skip <| hK27 _ _ <| wp_seq_k fun K29 hK29=>wp_block <| sgB kj <| sgC fun K31 hK31=>sg 2 kj <| Qab (.int .u8 (((e:Nat):Int))) 69 rfl kj (Qah (u:=.int .u8 (zaT.wrap ((e:Nat):Int))) kj (congrArg (zaV .u8) (u8_n e (by omega)))) <| sg 1 kj <| Qab (.int .u8 (((n:Nat):Int))) 71 rfl kj (Qah (u:=.int .u8 (zaT.wrap ((n:Nat):Int))) kj (congrArg (zaV .u8) (u8_n n (by omega)))) ?_
    refine QaU (ints .u8 ([(((e:Nat):Int)),(((n:Nat):Int))])) 5 2 72 rfl kj kj fun g32 W11 l32 e11 r32_11=>?_
    have x11:=zbk xx2 e11
    have b32:=qT xx2.size l32
    have y10_11:=(zbh (zbg V2) e11)
    have hsc:Sa w gA gB (e+1) (e+1) gc1 f1 vA1 vB1 W11:=(hsb.ext y10_11)
    have hlc:La w e n gc1 f1 la W11:=(hlb.ext y10_11)
    have hpc:Ps w.heap.size M ps vs W11:=(hpb.ext y10_11)
    have hlt_:=hlb.line.lt
    have hrt:RdK .u8 W11.heap.size (tX e n) (.slice (some ⟨g32,0,none⟩) 2 2) W11:=(Qbp (xs:=[(((e:Nat):Int)),(((n:Nat):Int))]) (n:=2) rfl r32_11 (Qaq r32_11) (show 2≤maxLen from by decide))
    refine Qav (fun v W'=>∃ u,v=.tuple #[.agg (cat [ints .u8 pG5,#[.int .i64 ((e:Nat):Int)],#[.int .i64 0],#[.int .i64 ((n:Nat):Int)],#[u]]),.nilIface]∧∃ la',Sa w gA gB (e+1) (e+1) gc1 f1 vA1 vB1 W'∧La w e (n+1) gc1 f1 la' W'∧Ps w.heap.size M ps vs W'∧OwnN .u8 5 w.heap.size (FS e n) u W') 8 #[.pointer (some ⟨gA,0,none⟩),.slice (some ⟨g32,0,none⟩) 2 2] 73 rfl kj kj ((Sa.seal hsc hlc hpc (by omega) (by omega) T _ (fun W q=>zbt (RdK.keepN hrt q.size (fun i hi hl=>q.block i hl (by obtain rfl:=Option.some.inj hi; exact QfX l32 hlt_.1 hlt_.2))))).mono (by rintro y W' ⟨u,rfl,h1⟩; exact ⟨_,rfl,u,rfl,h1⟩)) fun v W12 h33=>?_
    obtain ⟨us,rfl,la2,hsd,hld,hpd,hus⟩:=h33
    obtain ⟨a_u,c_u,rfl,-⟩:=id (zbo hus)
    have x12:=hsd.x
    refine sg 3 kj <| Qar (cat [ints .u8 (zad 32 0),#[.int .i64 0],#[.int .i64 0],#[.int .i64 0],#[.slice none 0 0]]) 35 13 rfl kj kj fun g34 W13 l34 e13 r34_13=>Qan g34 _ (cat [ints .u8 (pG5),#[.int .i64 ((e:Nat):Int)],#[.int .i64 0],#[.int .i64 ((n:Nat):Int)],#[.slice a_u (FS e n).length c_u]]) 35 r34_13 rfl kj (Qao 35 _ _ g34 35 _ _ r34_13 rfl kj kj (isz (n:=36) kj (by rw [Qac,Qac,Qac,Qac,Qac]; simp only [qS,cat,(izT rfl)]; rfl)) (eqsz (n:=36) (by rw [Qac,Qac,Qac,Qac,Qac]; simp only [qS,cat,(izT (qZ (n:=32)))]; rfl) (by rw [Qac,Qac,Qac,Qac,Qac]; simp only [qS,cat,(izT rfl)]; rfl)) (Qbn _ (by intro a ha; simp only [zaf,zag,or_false] at ha; rcases ha with rfl | rfl | rfl | rfl | rfl; exact (Qay _ _); exact (Qa6 _ rfl); exact (Qa6 _ rfl); exact (Qa6 _ rfl); exact (Qa6 _ rfl)))) fun W14 p14 r34_14=>?_
    refine sg 1 kj <| sgN hK31 <| wp_seq_k fun K35 hK35=>sgB kj <| cond_false kj <| wp_skip <| hK35 _ _ <| Qae <| sg 1 kj <| Qab (.agg (cat [ints .u8 (pG5),#[.int .i64 ((e:Nat):Int)],#[.int .i64 0],#[.int .i64 ((n:Nat):Int)],#[.slice a_u (FS e n).length c_u]])) 79 rfl kj (Qap 35 _ g34 35 _ _ r34_14 rfl kj kj (isz (n:=36) kj (by rw [Qac,Qac,Qac,Qac,Qac]; simp only [qS,cat,(izT rfl)]; rfl))) ?_
    refine QaU (cat (peP (⟨e,n,.slice a_u (FS e n).length c_u⟩:Pe))) 35 1 80 rfl kj (Qhh 27 35 36 (.tmp 79) (.agg (cat (peP (⟨e,n,.slice a_u (FS e n).length c_u⟩:Pe)))) rfl kj kj kj kj (QfP (⟨e,n,.slice a_u (FS e n).length c_u⟩:Pe)) (by decide) (by decide)) fun gs_ W15 ls_ e15 rs_=>?_
    have y12_15:=(zbh (zbj p14 (zbh (zbg W12) e13) l34) e15)
    have hse:Sa w gA gB (e+1) (e+1) gc1 f1 vA1 vB1 W15:=(hsd.ext y12_15)
    have hle_:La w e (n+1) gc1 f1 la2 W15:=(hld.ext y12_15)
    have hpe:Ps w.heap.size M ps vs W15:=(hpd.ext y12_15)
    have hue:OwnN .u8 5 w.heap.size (FS e n) (.slice a_u (FS e n).length c_u) W15:=(hus.ext y12_15)
    refine QkR 80 (.tmp 78) (.tmp 80) 27 81 rfl kj kj (by decide) kj kj hpe.own (p:=⟨e,n,.slice a_u (FS e n).length c_u⟩) rfl rs_ (by rw [hpb_]; have:=zaH (show e≤6 by omega) (show M≤8 by omega); omega) (zbk (zbj p14 (zbk x12 e13) (qT x12.size l34)) e15).size rfl kj fun vs2 W16 hO2 hg2=>?_
    have hsf:=Sa.app hse hpe.own hg2
    have hlf:=La.app hle_ hpe.own hg2
    have hpf:=Ps.app hpe hO2 hg2 hue (by rw [hpb_,zaX,Nat.mul_add_div (by omega),Nat.mul_add_mod,Nat.div_eq_of_lt (by omega),Nat.mod_eq_of_lt (by omega)]; exact ⟨rfl,rfl⟩)
    refine sg 1 kj <| Qal <| hK29 _ _ <| Qae <| Qab (.int .i64 ((n+1:Nat):Int)) 82 rfl kj (Qah (u:=.int .i64 (zaW.wrap (((n:Nat):Int)+1))) kj (congrArg (zaV .i64) (i64n _ _ (by omega) (by omega)))) <| sg 1 kj <| Qal ?_
    repeat (first | with_reducible refine goX1 ?_ | with_reducible refine goX2 ?_ | with_reducible refine goX3 ?_)
    exact Qa5 ((n+1),la2,vs2,(ps++[⟨e,n,.slice a_u (FS e n).length c_u⟩])) ⟨kj,kj,kj,kj,kj,kj,kj,kj,kj,kj,kj,trivial⟩ ⟨(by omega),hsf,hlf,hpf,(by rw [zaI,hpb_,zaL]; omega),hsf.x⟩ (by omega)
   ·skip
    have heq64:n=M:=by have:=of_decide_eq_false c28; omega
    refine wp_exit <| hK17 _ _ <| Qae <| Qab (.int .i64 ((e+1:Nat):Int)) 83 rfl kj (Qah (u:=.int .i64 (zaW.wrap (((e:Nat):Int)+1))) kj (congrArg (zaV .i64) (i64n _ _ (by omega) (by omega)))) <| sg 1 kj <| Qal ?_
    repeat (first | with_reducible refine goX1 ?_ | with_reducible refine goX2 ?_ | with_reducible refine goX3 ?_)
    exact Qa5 ((e+1),gc1,f1,vA1,vB1,vs,ps) ⟨kj,kj,kj,kj,kj,kj,kj,kj,trivial⟩ ⟨(by omega),hsb,hpb,(by have h9:=hpb_; rw [heq64] at h9; exact h9.trans (zaY e M).symm),hf1,xx2⟩ (by omega)
  ·skip
   have heq43:e=E:=by have:=of_decide_eq_false c16; omega
   subst heq43
   obtain ⟨gp,cp,curp,rfl,lgp,rgp,hat⟩:=hps.own.parts (by intro e9; rw [e9] at hpl; have:=Nat.mul_pos (show 0<e by omega) (show 0<M by omega); rw [za9] at hpl; omega)
   have hpl8:ps.length≤48:=by rw [hpl]; exact zaH (show e≤6 by omega) (show M≤8 by omega)
   have hpl1:0<ps.length:=by rw [hpl]; exact Nat.mul_pos (by omega) (by omega)
   refine wp_exit <| hK12 _ _ <| sgC fun K37 hK37=>sg 2 kj <| QaU (ints .i64 (zad ps.length 0)) 3 ps.length 86 rfl kj (Qds 22 _ _ .i64 .i64 ps.length 3 rfl kj kj kj (.inl kj) (by omega)) fun g38 W6 l38 e6 r38_6=>?_
   have x6:=zbk xx1 e6
   have b38:=qT xx1.size l38
   refine sg 1 kj <| sgN hK37 <| wp_seq_k fun K39 hK39=>sgB kj <| wp_block ?_
   have y5_6:=(zbh (zbg V1) e6)
   refine QaF (fun (s3:Nat×(Nat→Ln)×List Int)=>[(0,.int .i64 ((e:Nat):Int)),(7,.pointer (some ⟨gA,0,none⟩)),(8,.pointer (some ⟨gB,0,none⟩)),(9,.slice (some ⟨gp,0,none⟩) ps.length cp),(15,.slice (some ⟨g38,0,none⟩) ps.length ps.length),(87,.slice a_z zs.length c_z),(88,.int .i64 ((zs.length:Nat):Int)),(89,.int .i64 ((s3.1:Nat):Int))]) (fun (s3:Nat×(Nat→Ln)×List Int) W=>(s3.1≤zs.length)∧(Sa w gA gB e e gc0 s3.2.1 vA vB W)∧(Ps w.heap.size M ps (.slice (some ⟨gp,0,none⟩) ps.length cp) W)∧(Tm M e ps s3.2.1 s3.2.2)∧(W.heap[gp]? = some (.cells curp 35))∧(W.heap[g38]? = some (.cells (ints .i64 (s3.2.2)) 3))∧(Ext w W)) (fun (s3:Nat×(Nat→Ln)×List Int)=>zs.length-s3.1) (0,f0,(zad ps.length 0)) ⟨kj,kj,kj,kj,kj,kj,kj,kj,trivial⟩ ⟨(zaE _),(hsa.ext y5_6),(hps.ext y5_6),(Qmt hf0),(Qaa rgp y5_6),r38_6,x6⟩ fun s3 X3 V3 hI3=>?_
   obtain ⟨ix,fz,ns⟩:=s3
   obtain ⟨hix,hsg,hpg,htm,hgp,q38_3,xx3⟩:=hI3
   replace hix:ix≤zs.length:=hix
   replace hsg:Sa w gA gB e e gc0 fz vA vB V3:=hsg
   replace hpg:Ps w.heap.size M ps (.slice (some ⟨gp,0,none⟩) ps.length cp) V3:=hpg
   replace htm:Tm M e ps fz ns:=htm
   replace hgp:V3.heap[gp]? = some (.cells curp 35):=hgp
   replace q38_3:V3.heap[g38]? = some (.cells (ints .i64 (ns)) 3):=q38_3
   replace xx3:Ext w V3:=xx3
   refine sgB kj <| wp_seq_k fun K42 hK42=>Qa2 (t:=decide (((ix:Nat):Int)<((zs.length:Nat):Int))) kj (fun c43=>?_) (fun c43=>?_)
   ·skip
    have hlt90:ix<zs.length:=by have:=of_decide_eq_true c43; omega
    have hnz_44:(zs).length=zs.length:=rfl
    obtain ⟨gcz_44,ocz_44,haz_44,hlz_44,hcz_44⟩:=QhI (RdK.ext hz xx3) (by rw [hnz_44]; omega)
    refine wp_skip <| hK42 _ _ <| wp_seq_k fun K45 hK45=>wp_block <| sgC fun K46 hK46=>Qab (.pointer (some ⟨gcz_44,ocz_44+ix,none⟩)) 91 rfl kj (Qcn 22 _ _ .i64 ix gcz_44 ocz_44 zs.length c_z 3 a_z _ haz_44 rfl rfl kj kj kj kj (zaZ (show ix<zs.length by omega) hnz_44.symm)) <| Qab (.int .i64 (nth (zs) (ix))) 92 rfl kj (Qbi 3 _ _ (.int .i64 (nth (zs) (ix))) (hcz_44 ix (zaZ (show ix<zs.length by omega) hnz_44.symm)) rfl kj kj) <| sg 1 kj <| sgN hK46 <| wp_seq_k fun K47 hK47=>?_
    skip
    ·skip
     obtain ⟨k,hk,hke⟩:=remN (nth (zs) (ix)) ps.length hpl1
     refine Qae <| sg 4 kj <| Qab (.int .u64 (((ps.length:Nat):Int))) 97 rfl kj (Qah (u:=.int .u64 (zaP.wrap ((ps.length:Nat):Int))) kj (congrArg (zaV .u64) (u64_n _ (by omega)))) <| Qab (.int .u64 ((k:Nat):Int)) 98 rfl kj (QaM .rem _ _ _ _ .u64 .u64 (zaP.wrap (nth (zs) (ix))) ((ps.length:Nat):Int) _ rfl kj kj (Qom _ _ (zaP.wrap (nth (zs) (ix))) ((ps.length:Nat):Int) ((k:Nat):Int) (by omega) hke)) <| Qab (.int .i64 (((k:Nat):Int))) 99 rfl kj (Qah (u:=.int .i64 (zaW.wrap ((k:Nat):Int))) kj (congrArg (zaV .i64) (Qer k (by omega)))) <| sg 1 kj <| sgN hK47 <| wp_seq_k fun K48 hK48=>?_
     rcases (show k/M<e-4∨¬ k/M<e-4∧((k%M:Nat):Int)∈(fz (k/M)).ts∨¬ k/M<e-4∧((k%M:Nat):Int)∉(fz (k/M)).ts from (zaK (k/M) (e-4)).elim .inl fun h1=>.inr ((Classical.em (((k%M:Nat):Int)∈(fz (k/M)).ts)).elim (fun h2=>.inl ⟨Nat.not_lt.2 h1,h2⟩) fun h2=>.inr ⟨Nat.not_lt.2 h1,h2⟩)) with hin | ⟨hge,hin⟩ | ⟨hge,hin⟩
     ·skip
      obtain ⟨⟨ep,nu,us⟩,hp⟩:∃ p,ps[k]? = some p:=⟨_,zba hk⟩
      obtain ⟨hep,hnu⟩:=hpg.idx k _ hp
      simp only at hep hnu
      have hepl:ep<e:=by rw [hep]; exact zbb (by rw [zaX,←hpl]; exact hk)
      have hnl:nu<M:=by rw [hnu]; exact zaN _ (by omega)
      have htr:=htm.rel k hk
      rw [←hep,←hnu] at htr
      have hpu:=hpg.sl _ (zbc hp)
      simp only at hpu
      obtain ⟨P,tl,hP,hcu⟩:=hat k _ hp
      simp only at hcu
      obtain ⟨o,ho⟩:∃ o,o=36*k:=⟨_,rfl⟩
      rw [←ho] at hP
      obtain ⟨a_u,c_u,rfl,-⟩:=id (zbo hpu)
      have h9:ep<e-4:=by omega
      refine Qae <| sg 3 kj <| Qab (.pointer (some ⟨gp,o,none⟩)) 104 rfl kj (Qb4 27 _ _ .i64 k gp 0 ps.length cp 35 36 rfl kj kj kj kj hk o (by omega)) <| Qab (.agg (cat [ints .u8 (pG5),#[.int .i64 ((ep:Nat):Int)],#[.int .i64 0],#[.int .i64 ((nu:Nat):Int)],#[.slice a_u (FS ep nu).length c_u]])) 105 rfl kj (Qa0 35 _ gp o 35 _ _ _ (hgp.trans (congrArg (fun z=>some (Obj.cells z 35)) hcu)) rfl kj (Qam [P] [ints .u8 (pG5),#[.int .i64 ((ep:Nat):Int)],#[.int .i64 0],#[.int .i64 ((nu:Nat):Int)],#[.slice a_u (FS ep nu).length c_u]] [tl] o hP) kj (isz (n:=36) kj (by rw [Qac,Qac,Qac,Qac,Qac]; simp only [qS,cat,(izT rfl)]; rfl))) ?_
      refine Qau (.tuple #[.slice none 0 0,.iface 41 (.int .i64 6)]) 9 #[.pointer (some ⟨gB,0,none⟩),.agg (cat [ints .u8 (pG5),#[.int .i64 ((ep:Nat):Int)],#[.int .i64 0],#[.int .i64 ((nu:Nat):Int)],#[.slice a_u (FS ep nu).length c_u]])] 106 rfl kj kj (QnN gB w.heap.size e ep nu (by omega) h9 (by omega) (fun j=>(fz j).gc) vB _ hsg.b (.slice a_u (FS ep nu).length c_u) (fun W e=>zbt (zbo (zbm hpu e)))) fun W8 e8=>?_
      have x8:=zbk xx3 e8
      refine sg 5 kj <| sgN hK48 <| wp_block <| sgC fun K50 hK50=>sg 2 kj <| Qab (.pointer (some ⟨gp,o,none⟩)) 149 rfl kj (Qb4 27 _ _ .i64 k gp 0 ps.length cp 35 36 rfl kj kj kj kj hk o (by omega)) <| sg 1 kj <| Qab (.int .i64 ((ep:Nat):Int)) 151 rfl kj (Qad 3 _ gp (o+32) 35 _ (.int .i64 ((ep:Nat):Int)) _ (Qaa (hgp.trans (congrArg (fun z=>some (Obj.cells z 35)) hcu)) e8) rfl kj (Qam [P,ints .u8 (pG5)] [#[.int .i64 ((ep:Nat):Int)]] [#[.int .i64 0],#[.int .i64 ((nu:Nat):Int)],#[.slice a_u (FS ep nu).length c_u],tl] (o+32) (by rw [Qac,Qac]; simp only [qS,cat,(izT rfl),hP]; rfl) 0 _ rfl) kj) ?_
      refine sg 1 kj <| Qab (.int .i64 ((((e:Nat):Int)-4))) 153 rfl kj (Qah (u:=.int .i64 (zaW.wrap (((e:Nat):Int)-4))) kj (congrArg (zaV .i64) (QbJ _ (by omega)))) <| Qab (.bool true) 154 rfl kj (Qah (u:=.bool (decide (((ep:Nat):Int)<(((e:Nat):Int)-4)))) kj (congrArg zae (decide_eq_true (by omega)))) <| sg 1 kj <| sgN hK50 <| cond_true kj <| sgC fun K51 hK51=>sg 1 kj <| Qau (.bool true) 10 #[.iface 41 (.int .i64 6),.int .i64 6] 156 rfl kj kj ((is6) _) fun W9 e9=>?_
      have x9:=zbk x8 e9
      refine sg 1 kj <| sgN hK51 <| cond_false kj <| wp_skip <| hK45 _ _ <| Qae <| Qab (.int .i64 ((ix+1:Nat):Int)) 167 rfl kj (Qah (u:=.int .i64 (zaW.wrap (((ix:Nat):Int)+1))) kj (congrArg (zaV .i64) (i64n _ _ (by omega) (by omega)))) <| sg 1 kj <| Qal ?_
      have y7_8:=(zbh (zbg V3) e8)
      have y7_9:=(zbh y7_8 e9)
      have r38_8:=(Qaa q38_3 e8)
      have r38_9:=(Qaa r38_8 e9)
      repeat (first | with_reducible refine goX1 ?_ | with_reducible refine goX2 ?_ | with_reducible refine goX3 ?_)
      exact Qa5 ((ix+1),fz,ns) ⟨kj,kj,kj,kj,kj,kj,kj,kj,trivial⟩ ⟨(by omega),(hsg.ext y7_9),(hpg.ext y7_9),htm,(Qaa hgp y7_9),r38_9,x9⟩ (by omega)
     ·skip
      obtain ⟨⟨ep,nu,us⟩,hp⟩:∃ p,ps[k]? = some p:=⟨_,zba hk⟩
      obtain ⟨hep,hnu⟩:=hpg.idx k _ hp
      simp only at hep hnu
      have hepl:ep<e:=by rw [hep]; exact zbb (by rw [zaX,←hpl]; exact hk)
      have hnl:nu<M:=by rw [hnu]; exact zaN _ (by omega)
      have htr:=htm.rel k hk
      rw [←hep,←hnu] at htr
      have hpu:=hpg.sl _ (zbc hp)
      simp only at hpu
      obtain ⟨P,tl,hP,hcu⟩:=hat k _ hp
      simp only at hcu
      obtain ⟨o,ho⟩:∃ o,o=36*k:=⟨_,rfl⟩
      rw [←ho] at hP
      obtain ⟨a_u,c_u,rfl,-⟩:=id (zbo hpu)
      have h9:e-4≤ep:=by omega
      replace htr:=htr h9
      have hck:=Qfm (pl:=(fz ep).pl) (htm.rng ep) (show nu≤7 by omega)
      rw [if_pos (by rw [hep,hnu]; exact hin)] at htr hck
      refine Qae <| sg 3 kj <| Qab (.pointer (some ⟨gp,o,none⟩)) 104 rfl kj (Qb4 27 _ _ .i64 k gp 0 ps.length cp 35 36 rfl kj kj kj kj hk o (by omega)) <| Qab (.agg (cat [ints .u8 (pG5),#[.int .i64 ((ep:Nat):Int)],#[.int .i64 0],#[.int .i64 ((nu:Nat):Int)],#[.slice a_u (FS ep nu).length c_u]])) 105 rfl kj (Qa0 35 _ gp o 35 _ _ _ (hgp.trans (congrArg (fun z=>some (Obj.cells z 35)) hcu)) rfl kj (Qam [P] [ints .u8 (pG5),#[.int .i64 ((ep:Nat):Int)],#[.int .i64 0],#[.int .i64 ((nu:Nat):Int)],#[.slice a_u (FS ep nu).length c_u]] [tl] o hP) kj (isz (n:=36) kj (by rw [Qac,Qac,Qac,Qac,Qac]; simp only [qS,cat,(izT rfl)]; rfl))) ?_
      refine Qau (.tuple #[.slice none 0 0,.iface 41 (.int .i64 7)]) 9 #[.pointer (some ⟨gB,0,none⟩),.agg (cat [ints .u8 (pG5),#[.int .i64 ((ep:Nat):Int)],#[.int .i64 0],#[.int .i64 ((nu:Nat):Int)],#[.slice a_u (FS ep nu).length c_u]])] 106 rfl kj kj (QnK gB w.heap.size e ep nu (by omega) h9 hepl (by omega) (fun j=>(fz j).gc) vB _ hsg.b (fz ep) rfl (hsg.ln ep hepl h9).1 hck tc tq th tr (T.ext xx3) (.slice a_u (FS ep nu).length c_u) (fun W e=>zbt (zbo (zbm hpu e)))) fun W8 e8=>?_
      have x8:=zbk xx3 e8
      refine sg 5 kj <| sgN hK48 <| wp_block <| sgC fun K53 hK53=>sg 2 kj <| Qab (.pointer (some ⟨gp,o,none⟩)) 149 rfl kj (Qb4 27 _ _ .i64 k gp 0 ps.length cp 35 36 rfl kj kj kj kj hk o (by omega)) <| sg 1 kj <| Qab (.int .i64 ((ep:Nat):Int)) 151 rfl kj (Qad 3 _ gp (o+32) 35 _ (.int .i64 ((ep:Nat):Int)) _ (Qaa (hgp.trans (congrArg (fun z=>some (Obj.cells z 35)) hcu)) e8) rfl kj (Qam [P,ints .u8 (pG5)] [#[.int .i64 ((ep:Nat):Int)]] [#[.int .i64 0],#[.int .i64 ((nu:Nat):Int)],#[.slice a_u (FS ep nu).length c_u],tl] (o+32) (by rw [Qac,Qac]; simp only [qS,cat,(izT rfl),hP]; rfl) 0 _ rfl) kj) ?_
      refine sg 1 kj <| Qab (.int .i64 ((((e:Nat):Int)-4))) 153 rfl kj (Qah (u:=.int .i64 (zaW.wrap (((e:Nat):Int)-4))) kj (congrArg (zaV .i64) (QbJ _ (by omega)))) <| Qab (.bool false) 154 rfl kj (Qah (u:=.bool (decide (((ep:Nat):Int)<(((e:Nat):Int)-4)))) kj (congrArg zae (decide_eq_false (by omega)))) <| sg 1 kj <| sgN hK53 <| cond_false kj <| sgC fun K54 hK54=>sg 2 kj <| Qab (.pointer (some ⟨g38,k,none⟩)) 161 rfl kj (Qbf 22 _ _ .i64 (k) g38 ps.length ps.length 3 rfl kj kj kj kj (by omega)) ?_
      have r38_8:=(Qaa q38_3 e8)
      refine Qab (.int .i64 (1)) 162 rfl kj (Qad 3 _ g38 k 3 _ (.int .i64 (1)) _ r38_8 rfl kj ((QaG _ _ _ (zaZ (by omega) htm.len.symm)).trans (congrArg (fun z=>some (zaV .i64 z)) htr)) kj) <| sg 2 kj <| sgN hK54 <| cond_true kj <| sgC fun K55 hK55=>sg 1 kj <| Qau (.bool true) 10 #[.iface 41 (.int .i64 7),.int .i64 7] 165 rfl kj kj ((is7) _) fun W9 e9=>?_
      have x9:=zbk x8 e9
      refine sg 1 kj <| sgN hK55 <| cond_false kj <| wp_skip <| hK45 _ _ <| Qae <| Qab (.int .i64 ((ix+1:Nat):Int)) 167 rfl kj (Qah (u:=.int .i64 (zaW.wrap (((ix:Nat):Int)+1))) kj (congrArg (zaV .i64) (i64n _ _ (by omega) (by omega)))) <| sg 1 kj <| Qal ?_
      have y7_8:=(zbh (zbg V3) e8)
      have y7_9:=(zbh y7_8 e9)
      have r38_9:=(Qaa r38_8 e9)
      repeat (first | with_reducible refine goX1 ?_ | with_reducible refine goX2 ?_ | with_reducible refine goX3 ?_)
      exact Qa5 ((ix+1),fz,ns) ⟨kj,kj,kj,kj,kj,kj,kj,kj,trivial⟩ ⟨(by omega),(hsg.ext y7_9),(hpg.ext y7_9),htm,(Qaa hgp y7_9),r38_9,x9⟩ (by omega)
     ·skip
      obtain ⟨⟨ep,nu,us⟩,hp⟩:∃ p,ps[k]? = some p:=⟨_,zba hk⟩
      obtain ⟨hep,hnu⟩:=hpg.idx k _ hp
      simp only at hep hnu
      have hepl:ep<e:=by rw [hep]; exact zbb (by rw [zaX,←hpl]; exact hk)
      have hnl:nu<M:=by rw [hnu]; exact zaN _ (by omega)
      have htr:=htm.rel k hk
      rw [←hep,←hnu] at htr
      have hpu:=hpg.sl _ (zbc hp)
      simp only at hpu
      obtain ⟨P,tl,hP,hcu⟩:=hat k _ hp
      simp only at hcu
      obtain ⟨o,ho⟩:∃ o,o=36*k:=⟨_,rfl⟩
      rw [←ho] at hP
      obtain ⟨a_u,c_u,rfl,-⟩:=id (zbo hpu)
      have h9:e-4≤ep:=by omega
      replace htr:=htr h9
      have hck:=Qfm (pl:=(fz ep).pl) (htm.rng ep) (show nu≤7 by omega)
      rw [if_neg (by rw [hep,hnu]; exact hin)] at htr hck
      refine Qae <| sg 3 kj <| Qab (.pointer (some ⟨gp,o,none⟩)) 104 rfl kj (Qb4 27 _ _ .i64 k gp 0 ps.length cp 35 36 rfl kj kj kj kj hk o (by omega)) <| Qab (.agg (cat [ints .u8 (pG5),#[.int .i64 ((ep:Nat):Int)],#[.int .i64 0],#[.int .i64 ((nu:Nat):Int)],#[.slice a_u (FS ep nu).length c_u]])) 105 rfl kj (Qa0 35 _ gp o 35 _ _ _ (hgp.trans (congrArg (fun z=>some (Obj.cells z 35)) hcu)) rfl kj (Qam [P] [ints .u8 (pG5),#[.int .i64 ((ep:Nat):Int)],#[.int .i64 0],#[.int .i64 ((nu:Nat):Int)],#[.slice a_u (FS ep nu).length c_u]] [tl] o hP) kj (isz (n:=36) kj (by rw [Qac,Qac,Qac,Qac,Qac]; simp only [qS,cat,(izT rfl)]; rfl))) ?_
      refine Qav (fun v W'=>∃ t,v=.tuple #[t,.nilIface]∧Sa w gA gB e e gc0 (upd fz ep nu) vA vB W'∧Ps w.heap.size M ps (.slice (some ⟨gp,0,none⟩) ps.length cp) W'∧(∃ l s0,Qbo l s0 V3∧Qaf [l.cg,l.cm] V3 W')∧OwnN .u8 5 w.heap.size (tX ep nu) t W') 9 #[.pointer (some ⟨gB,0,none⟩),.agg (cat [ints .u8 (pG5),#[.int .i64 ((ep:Nat):Int)],#[.int .i64 0],#[.int .i64 ((nu:Nat):Int)],#[.slice a_u (FS ep nu).length c_u]])] 106 rfl kj kj ((Sa.opens hsg hpg (by omega) h9 hepl (by omega) hck T (.slice a_u (FS ep nu).length c_u) (fun W e=>zbt (zbo (zbm hpu e)))).mono (by rintro y W' ⟨t,rfl,h1⟩; exact ⟨_,rfl,t,rfl,h1⟩)) fun v W8 h57=>?_
      obtain ⟨tt,rfl,hsh,hph,⟨l_,s0_,hl_,q8⟩,htt⟩:=h57
      obtain ⟨a_p,c_p,rfl,-⟩:=id (zbo htt)
      have x8:=hsh.x
      have htm2:=htm.step (by omega) (by omega) hk
      rw [←hep,←hnu] at htm2
      have hgp2:=Qd9 hl_ q8 hgp (by decide)
      refine sg 5 kj <| sgN hK48 <| wp_block <| sgC fun K58 hK58=>sg 2 kj <| Qab (.pointer (some ⟨gp,o,none⟩)) 149 rfl kj (Qb4 27 _ _ .i64 k gp 0 ps.length cp 35 36 rfl kj kj kj kj hk o (by omega)) <| sg 1 kj <| Qab (.int .i64 ((ep:Nat):Int)) 151 rfl kj (Qad 3 _ gp (o+32) 35 _ (.int .i64 ((ep:Nat):Int)) _ (Qd9 hl_ q8 (hgp.trans (congrArg (fun z=>some (Obj.cells z 35)) hcu)) (by decide)) rfl kj (Qam [P,ints .u8 (pG5)] [#[.int .i64 ((ep:Nat):Int)]] [#[.int .i64 0],#[.int .i64 ((nu:Nat):Int)],#[.slice a_u (FS ep nu).length c_u],tl] (o+32) (by rw [Qac,Qac]; simp only [qS,cat,(izT rfl),hP]; rfl) 0 _ rfl) kj) ?_
      refine sg 1 kj <| Qab (.int .i64 ((((e:Nat):Int)-4))) 153 rfl kj (Qah (u:=.int .i64 (zaW.wrap (((e:Nat):Int)-4))) kj (congrArg (zaV .i64) (QbJ _ (by omega)))) <| Qab (.bool false) 154 rfl kj (Qah (u:=.bool (decide (((ep:Nat):Int)<(((e:Nat):Int)-4)))) kj (congrArg zae (decide_eq_false (by omega)))) <| sg 1 kj <| sgN hK58 <| cond_false kj <| sgC fun K59 hK59=>sg 2 kj <| Qab (.pointer (some ⟨g38,k,none⟩)) 161 rfl kj (Qbf 22 _ _ .i64 (k) g38 ps.length ps.length 3 rfl kj kj kj kj (by omega)) <| Qab (.int .i64 (0)) 162 rfl kj (Qad 3 _ g38 k 3 _ (.int .i64 (0)) _ (Qd9 hl_ q8 q38_3 (by decide)) rfl kj ((QaG _ _ _ (zaZ (by omega) htm.len.symm)).trans (congrArg (fun z=>some (zaV .i64 z)) htr)) kj) ?_
      refine sg 2 kj <| sgN hK59 <| cond_false kj <| wp_seq_k fun K60 hK60=>wp_seq_k fun K61 hK61=>?_
      skip
      ·skip
       have hnT_62:(tX ep nu).length=2:=rfl
       obtain ⟨gcT_62,ocT_62,haT_62,hlT_62,hcT_62⟩:=QhI (zbo htt) (by rw [hnT_62]; omega)
       refine Qbg 29 [⟨none,[(20,none)]⟩,⟨none,[(109,some 0)]⟩,⟨none,[(110,some 1)]⟩,⟨some (111,false),[(19,none),(111,some 2)]⟩,⟨some (111,false),[(112,some 3),(111,some 2)]⟩,⟨some (111,false),[(113,some 4),(111,some 2)]⟩,⟨none,[(111,some 2),(114,some 5)]⟩,⟨none,[(115,some 6)]⟩,⟨some (116,false),[(19,none),(116,some 7)]⟩,⟨some (116,false),[(117,some 8),(116,some 7)]⟩,⟨some (116,false),[(118,some 9),(116,some 7)]⟩,⟨some (116,false),[(119,some 10),(116,some 7)]⟩,⟨some (116,false),[(9,none),(116,some 7)]⟩,⟨some (116,false),[(18,none),(116,some 7)]⟩,⟨some (116,false),[(121,some 12),(122,some 13),(116,some 7)]⟩,⟨some (116,false),[(123,some 14),(116,some 7)]⟩,⟨some (116,false),[(124,some 15),(116,some 7)]⟩,⟨some (116,false),[(120,some 11),(125,some 16),(116,some 7)]⟩,⟨none,[(116,some 7),(126,some 17)]⟩,⟨none,[(127,some 18)]⟩,⟨some (128,false),[(19,none),(128,some 19)]⟩,⟨some (128,false),[(129,some 20),(128,some 19)]⟩,⟨some (128,false),[(130,some 21),(128,some 19)]⟩,⟨some (128,false),[(131,some 22),(128,some 19)]⟩,⟨some (128,false),[(9,none),(128,some 19)]⟩,⟨some (128,false),[(18,none),(128,some 19)]⟩,⟨some (128,false),[(133,some 24),(134,some 25),(128,some 19)]⟩,⟨some (128,false),[(135,some 26),(128,some 19)]⟩,⟨some (128,false),[(136,some 27),(128,some 19)]⟩] kj kj fun F hF=>Qa8 (Qas _) (.nilIface) kj kj (fun _=>kj) <| Qa8 (Qas _) (.bool false) kj kj (fun _=>kj) <| Qa8 (Qas _) (.bool false) kj kj (fun _=>kj) <| Qa8 (Qas _) (.slice a_p ((tX ep nu).length) c_p) kj kj (fun _=>kj) <| Qa8 (Qas _) (.int .i64 (((tX ep nu).length:Nat):Int)) kj kj (fun _=>kj) <| Qa8 (Qas _) (.bool false) kj kj (fun W=>(Qah (u:=.bool (((((tX ep nu).length:Nat):Int) != 2))) kj (congrArg zae (bne_eq_false_iff_eq.2 rfl)))) <| Qa8 (Qas _) (.bool false) kj kj (fun _=>kj) <| Qa8 (Qas _) (.bool false) kj kj (fun _=>kj) <| Qa8 (Qas _) (.slice a_p ((tX ep nu).length) c_p) kj kj (fun _=>kj) ?_
       refine Qa8 (Qas _) (.pointer (some ⟨gcT_62,ocT_62+0,none⟩)) kj kj (fun W=>(Qcn 33 _ _ .i64 0 gcT_62 ocT_62 ((tX ep nu).length) c_p 5 a_p _ haT_62 rfl rfl kj kj kj kj (zaZ (show 0<2 by omega) hnT_62.symm))) <| Qbc (Qas _) (.int .u8 (((ep:Nat):Int))) kj kj (fun W hR=>(Qbi 5 _ _ (.int .u8 (((ep:Nat):Int))) (((Below.cell (zbh (Qaj _) hR) hlT_62).trans (hcT_62 0 (zaZ (show 0<2 by omega) hnT_62.symm))).trans (congrArg (fun z=>some (zaV .u8 z)) rfl)) rfl kj kj)) <| Qa8 (Qas _) (.int .i64 (((ep:Nat):Int))) kj kj (fun W=>(Qah (u:=.int .i64 (zaW.wrap (((ep:Nat):Int)))) kj (congrArg (zaV .i64) (Qer ep (by omega))))) <| Qa8 (Qas _) (.slice (some ⟨gp,0,none⟩) ps.length cp) kj kj (fun _=>kj) <| Qa8 (Qas _) (.int .i64 (((k:Nat):Int))) kj kj (fun _=>kj) <| Qa8 (Qas _) (.pointer (some ⟨gp,o,none⟩)) kj kj (fun W=>(Qb4 27 _ _ .i64 k gp 0 ps.length cp 35 36 rfl kj kj kj kj hk o (by omega))) <| Qa8 (Qas _) (.pointer (some ⟨gp,(o+32),none⟩)) kj kj (fun _=>kj) <| Qbc (Qas _) (.int .i64 ((ep:Nat):Int)) kj kj (fun W hR=>(Qad 3 _ gp (o+32) 35 _ (.int .i64 ((ep:Nat):Int)) _ (Qaa (Qaa (Qd9 hl_ q8 (hgp.trans (congrArg (fun z=>some (Obj.cells z 35)) hcu)) (by decide)) (Qaj _)) hR) rfl kj (Qam [P,ints .u8 (pG5)] [#[.int .i64 ((ep:Nat):Int)]] [#[.int .i64 0],#[.int .i64 ((nu:Nat):Int)],#[.slice a_u (FS ep nu).length c_u],tl] (o+32) (by rw [Qac,Qac]; simp only [qS,cat,(izT rfl),hP]; rfl) 0 _ rfl) kj)) ?_
       refine Qa8 (Qas _) (.bool false) kj kj (fun W=>(Qah (u:=.bool ((((ep:Nat):Int) != ((ep:Nat):Int)))) kj (congrArg zae (bne_eq_false_iff_eq.2 rfl)))) <| Qa8 (Qas _) (.bool false) kj kj (fun _=>kj) <| Qa8 (Qas _) (.bool false) kj kj (fun _=>kj) <| Qa8 (Qas _) (.slice a_p ((tX ep nu).length) c_p) kj kj (fun _=>kj) <| Qa8 (Qas _) (.pointer (some ⟨gcT_62,ocT_62+1,none⟩)) kj kj (fun W=>(Qcn 33 _ _ .i64 1 gcT_62 ocT_62 ((tX ep nu).length) c_p 5 a_p _ haT_62 rfl rfl kj kj kj kj (zaZ (show 1<2 by omega) hnT_62.symm))) <| Qbc (Qas _) (.int .u8 (((nu:Nat):Int))) kj kj (fun W hR=>(Qbi 5 _ _ (.int .u8 (((nu:Nat):Int))) (((Below.cell (zbh (Qaj _) hR) hlT_62).trans (hcT_62 1 (zaZ (show 1<2 by omega) hnT_62.symm))).trans (congrArg (fun z=>some (zaV .u8 z)) rfl)) rfl kj kj)) <| Qa8 (Qas _) (.int .i64 (((nu:Nat):Int))) kj kj (fun W=>(Qah (u:=.int .i64 (zaW.wrap (((nu:Nat):Int)))) kj (congrArg (zaV .i64) (Qer nu (by omega))))) <| Qa8 (Qas _) (.slice (some ⟨gp,0,none⟩) ps.length cp) kj kj (fun _=>kj) <| Qa8 (Qas _) (.int .i64 (((k:Nat):Int))) kj kj (fun _=>kj) <| Qa8 (Qas _) (.pointer (some ⟨gp,o,none⟩)) kj kj (fun W=>(Qb4 27 _ _ .i64 k gp 0 ps.length cp 35 36 rfl kj kj kj kj hk o (by omega))) ?_
       refine Qa8 (Qas _) (.pointer (some ⟨gp,(o+34),none⟩)) kj kj (fun _=>kj) <| Qbc (Qas _) (.int .i64 ((nu:Nat):Int)) kj kj (fun W hR=>(Qad 3 _ gp (o+34) 35 _ (.int .i64 ((nu:Nat):Int)) _ (Qaa (Qaa (Qd9 hl_ q8 (hgp.trans (congrArg (fun z=>some (Obj.cells z 35)) hcu)) (by decide)) (Qaj _)) hR) rfl kj (Qam [P,ints .u8 (pG5),#[.int .i64 ((ep:Nat):Int)],#[.int .i64 0]] [#[.int .i64 ((nu:Nat):Int)]] [#[.slice a_u (FS ep nu).length c_u],tl] (o+34) (by rw [Qac,Qac,Qac,Qac]; simp only [qS,cat,(izT rfl),hP]; rfl) 0 _ rfl) kj)) ?_
       refine QcO (hF _ fun W9 e9=>?_)
       simp only [zak,zal,zam,zan,zao,zap,finE,up]
       clear hF
       have x9:=zbk x8 e9
       refine Qab (.bool false) 138 rfl kj (Qah (u:=.bool ((((nu:Nat):Int) != ((nu:Nat):Int)))) kj (congrArg zae (bne_eq_false_iff_eq.2 rfl))) <| sg 1 kj <| sgN hK61 <| cond_false kj <| wp_skip <| hK60 _ _ <| Qae <| sg 2 kj <| Qab (.pointer (some ⟨g38,k,none⟩)) 142 rfl kj (Qbf 22 _ _ .i64 (k) g38 ps.length ps.length 3 rfl kj kj kj kj (by omega)) ?_
       have r38_9:=(Qaa (Qd9 hl_ q8 q38_3 (by decide)) e9)
       refine Qab (.int .i64 (0)) 143 rfl kj (Qad 3 _ g38 k 3 _ (.int .i64 (0)) _ r38_9 rfl kj ((QaG _ _ _ (zaZ (by omega) htm.len.symm)).trans (congrArg (fun z=>some (zaV .i64 z)) htr)) kj) <| sg 1 kj <| Qab (.pointer (some ⟨g38,k,none⟩)) 145 rfl kj (Qbf 22 _ _ .i64 (k) g38 ps.length ps.length 3 rfl kj kj kj kj (by omega)) ?_
       have y8_9:=(zbh (zbg W8) e9)
       refine Qan g38 _ (ints .i64 ((ns).set k 1)) 3 r38_9 rfl kj (Qa1 3 _ _ g38 k 3 _ _ r38_9 rfl kj kj kj (zaZ (by omega) htm.len.symm)) fun W10 p10 r38_10=>?_
       have hq10:=Qld p10
       have hsi:=Sa.but (hsh.ext y8_9) r38_9 hq10 b38 (by decide)
       have hpi:=((hph.ext y8_9)).keep (QgJ r38_9 hq10 (by decide) (by decide))
       have hgi:=zbl hq10 (Qaa hgp2 y8_9) (Qde (Qaa hgp2 y8_9) r38_9 (by decide))
       refine Qal <| hK45 _ _ <| Qae <| Qab (.int .i64 ((ix+1:Nat):Int)) 167 rfl kj (Qah (u:=.int .i64 (zaW.wrap (((ix:Nat):Int)+1))) kj (congrArg (zaV .i64) (i64n _ _ (by omega) (by omega)))) <| sg 1 kj <| Qal ?_
       repeat (first | with_reducible refine goX1 ?_ | with_reducible refine goX2 ?_ | with_reducible refine goX3 ?_)
       exact Qa5 ((ix+1),(upd fz ep nu),(ns.set k 1)) ⟨kj,kj,kj,kj,kj,kj,kj,kj,trivial⟩ ⟨(by omega),hsi,hpi,htm2,(Qaa hgi (zbg W10)),r38_10,(zbj p10 x9 b38)⟩ (by omega)
   ·skip
    have heq90:ix=zs.length:=by have:=of_decide_eq_false c43; omega
    refine wp_exit <| hK39 _ _ <| wp_seq_k fun K63 hK63=>?_
    skip
    ·skip
     obtain ⟨k,hk9⟩:∃ k,k=ps.length-1:=⟨_,rfl⟩
     have hk:k<ps.length:=by omega
     obtain ⟨⟨ep,nu,us⟩,hp⟩:∃ p,ps[k]? = some p:=⟨_,zba hk⟩
     obtain ⟨hep,hnu⟩:=hpg.idx k _ hp
     simp only at hep hnu
     have hepl:ep<e:=by rw [hep]; exact zbb (by rw [zaX,←hpl]; exact hk)
     have hnl:nu<M:=by rw [hnu]; exact zaN _ (by omega)
     have htr:=htm.rel k hk
     rw [←hep,←hnu] at htr
     have hpu:=hpg.sl _ (zbc hp)
     simp only at hpu
     obtain ⟨P,tl,hP,hcu⟩:=hat k _ hp
     simp only at hcu
     obtain ⟨o,ho⟩:∃ o,o=36*k:=⟨_,rfl⟩
     rw [←ho] at hP
     obtain ⟨a_u,c_u,rfl,-⟩:=id (zbo hpu)
     have hel:e-1≤ep:=by
      rw [hep,Nat.le_div_iff_mul_le (by omega)]
      have:(e-1)*M+M=ps.length:=by rw [hpl,←zaY]; congr 1; omega
      omega
     refine Qae <| sg 4 kj <| Qab (.int .i64 (((k:Nat):Int))) 173 rfl kj (Qah (u:=.int .i64 (zaW.wrap (((ps.length:Nat):Int)-1))) kj (congrArg (zaV .i64) (by rw [QbJ _ (by omega)]; omega))) ?_
     refine Qab (.pointer (some ⟨gp,o,none⟩)) 174 rfl kj (Qb4 27 _ _ .i64 k gp 0 ps.length cp 35 36 rfl kj kj kj kj hk o (by omega)) <| Qab (.agg (cat [ints .u8 (pG5),#[.int .i64 ((ep:Nat):Int)],#[.int .i64 0],#[.int .i64 ((nu:Nat):Int)],#[.slice a_u (FS ep nu).length c_u]])) 175 rfl kj (Qa0 35 _ gp o 35 _ _ _ (hgp.trans (congrArg (fun z=>some (Obj.cells z 35)) hcu)) rfl kj (Qam [P] [ints .u8 (pG5),#[.int .i64 ((ep:Nat):Int)],#[.int .i64 0],#[.int .i64 ((nu:Nat):Int)],#[.slice a_u (FS ep nu).length c_u]] [tl] o hP) kj (isz (n:=36) kj (by rw [Qac,Qac,Qac,Qac,Qac]; simp only [qS,cat,(izT rfl)]; rfl))) ?_
     refine Qau (.tuple #[.slice none 0 0,.iface 41 (.int .i64 9)]) 9 #[.pointer (some ⟨gA,0,none⟩),.agg (cat [ints .u8 (pG5),#[.int .i64 ((ep:Nat):Int)],#[.int .i64 0],#[.int .i64 ((nu:Nat):Int)],#[.slice a_u (FS ep nu).length c_u]])] 176 rfl kj kj (QnM gA w.heap.size e ep nu (by omega) (by omega) hepl (by omega) gc0 vA _ hsg.a (.slice a_u (FS ep nu).length c_u) (fun W e=>zbt (zbo (zbm hpu e)))) fun W8 e8=>?_
     have x8:=zbk xx3 e8
     refine sg 5 kj <| sgN hK63 <| sgC fun K65 hK65=>sg 1 kj <| Qau (.bool true) 10 #[.iface 41 (.int .i64 9),.int .i64 9] 180 rfl kj kj ((is9) _) fun W9 e9=>?_
     have x9:=zbk x8 e9
     refine sg 1 kj <| sgN hK65 <| wp_ret ?_
     exact (show bodyPost _ _ _ .ret _ _ from ret1 (.bool true) rfl (Qaz kj) ⟨rfl,x9⟩)
set_option maxRecDepth 100000 in
theorem QmP (w : World) {tc tq th tr:TypeId} (T:Tb tc tq th tr w) (n_e n_m:Int) (zs:List Int) (a_z:Option Addr) (c_z:Nat) (hz:RdK .i64 w.heap.size zs (.slice a_z zs.length c_z) w) (hzl:100<zs.length):Calls Tryd.prog 3 #[.int .i64 n_e,.int .i64 n_m,.slice a_z zs.length c_z] w (Ret w (.bool true)):=by
  refine enter 181 [(0,.int .i64 n_e),(1,.int .i64 n_m),(2,.slice a_z zs.length c_z)] Tryd.func3 rfl rfl kj rfl <| sgB kj <| wp_seq_k fun K2 hK2=>sgC fun K3 hK3=>Qau (.bool true) 5 #[] 23 rfl kj kj (QkC tc tq th tr _ (T.ext (zbg w)).c (T.ext (zbg w)).q (T.ext (zbg w)).r (T.ext (zbg w)).h (T.ext (zbg w)).T) fun W1 e1=>sg 1 kj <| sgN hK3 <| cond_false kj <| wp_skip <| hK2 _ _ ?_
  refine wp_seq_k fun K4 hK4=>sgC fun K5 hK5=>sg 2 kj <| Qab (.bool true) 27 rfl kj (Qah (u:=.bool (decide (((zs.length:Nat):Int)>100))) kj (congrArg zae (decide_eq_true (by omega)))) <| sgN hK5 <| cond_true kj <| sgB kj <| wp_ret ?_
  exact (show bodyPost _ _ _ .ret _ _ from ret1 (.bool true) rfl (Qaz kj) ⟨rfl,(zbk (zbg w) e1)⟩)
theorem lawPO (w : World) {tc tq th tr:TypeId} (T:Tb tc tq th tr w) (n_e n_m:Int) (zs:List Int) (a_z:Option Addr) (c_z:Nat) (hz:RdK .i64 w.heap.size zs (.slice a_z zs.length c_z) w):Calls Tryd.prog 3 #[.int .i64 n_e,.int .i64 n_m,.slice a_z zs.length c_z] w (Ret w (.bool true)) :=
  (zaK 100 zs.length).elim (fun h=>QmP w T n_e n_m zs a_z c_z hz h) (fun h=>QmO w T n_e n_m zs a_z c_z hz h)
end Pk
end
section
namespace Auto
open Go Go.RowKit Go.WideShapes
open Rely
section
variable {H : Type} {enc : TypeId × Value → H} {P : Program} {W w : World} {r : Reach} {base b0 : Nat} {sp : Nat → Bool} {held : Bool}
end
end Auto
end
section
namespace Auto
open Go Go.RowKit
open Rely
theorem QdN {P : Program} {w:World}:∀ (laid:List (String×DataW Unit)) (ps:List MemPlace) (n:String) (d:DataW Unit),DataW.LaidVars P w laid ps→(n,d)∈laid →
    ∃ g t cs fuel p,P.globalNamed n=some g∧(P.globals[g]?).map (·.type)=some t∧w.var? P n=some cs∧DataW.trod (fun _=>()) P w 0 (fun _=>true) false fuel t cs.toList=some (d,p)∧∀ x∈MemPlace.row ⟨g,0,none⟩ cs.size,x∈ps
  | [],_,_,_,_,h=>by cases h
  | (n0,d0)::r,ps,n,d,⟨g,t,cs,fuel,p,q,h1,h2,h3,h4,h5,h6⟩,h=>by
    subst h6
    rcases zaf.1 h with h | h
    · cases h
      exact ⟨g,t,cs,fuel,p,h1,h2,h3,h4,fun x hx=>zbd _ (zbd _ hx)⟩
    · obtain ⟨g',t',cs',fuel',p',a,b,c,e,f⟩:=QdN r q n d h5 h
      exact ⟨g',t',cs',fuel',p',a,b,c,e,fun x hx=>List.mem_append_right _ (f x hx)⟩
theorem QeK {P : Program} {w:World} {laid:List (String×DataW Unit)} {n:String} {k:IntKind} {zs:List Int} {g:Nat} {t e:TypeId} {m:Nat} (h:laidMet P laid w) (hm:(n,Lib.tabData k zs)∈laid)
    (hg:P.globalNamed n=some g) (hty:(P.globals[g]?).map (·.type)=some t) (ht:P.underlying t=some (.array m e)) (he:P.underlying e=some (.int k)) (hce:P.cellsOf e=1) (hct:P.cellsOf t=m) (h0:0<zs.length) :
    ∃ t,w.heap[g]? = some (.cells (ints k zs) t):=by
  obtain ⟨ps,hL,-,hC⟩:=h
  obtain ⟨g',t',cs,fuel,p,hg',ht',hvar,hd,hin⟩:=QdN _ _ _ _ hL hm
  obtain rfl:=Option.some.inj (hg.symm.trans hg')
  obtain rfl:=Option.some.inj (hty.symm.trans ht')
  have hcs:=Lib.cells_of_tab ht he hce hct hd
  have hsz:0<cs.size:=by rw [←zaA,hcs,zaz]; exact h0
  obtain ⟨⟨c,t2,hc⟩,-⟩:=hC g 0 (hin _ (za2.2 ⟨0,za3.2 hsz,rfl⟩))
  unfold World.var? at hvar
  rw [hg] at hvar
  simp only [zbe,hc,Option.some.injEq] at hvar
  subst hvar
  refine ⟨t2,hc.trans ?_⟩
  rw [show c=ints k zs from by rw [ints,←hcs]]
end Auto
end
section
namespace Auto
open Go Go.RowKit
open Rely
theorem chunks {α : Type} (m:Nat):∀ (n:Nat) (cs:List α),cs.length=n*m→((zay n).map fun i=>(cs.drop (i*m)).take m).flatten=cs
  | 0,cs,h=>by
    have:cs=[]:=zaD.1 (by simpa using h)
    subst this; rfl
  | n+1,cs,h=>by
    have hm:(n+1)*m=n*m+m:=zaY n m
    rw [za4,za5,List.flatten_append]
    have ih:=chunks m n (cs.take (n*m)) (by rw [zaC]; omega)
    have e1:((zay n).map fun i=>(cs.drop (i*m)).take m)=((zay n).map fun i=>((cs.take (n*m)).drop (i*m)).take m):=by
      refine za6 fun i hi=>?_
      rw [za3] at hi
      have h1:(i+1)*m≤n*m:=Nat.mul_le_mul_right m hi
      rw [zaY] at h1
      rw [List.drop_take,List.take_take,Nat.min_eq_left (by omega)]
    rw [e1,ih]
    simp only [za7,List.map_nil,List.flatten_cons,List.flatten_nil,List.append_nil]
    have e2:(cs.drop (n*m)).take m=cs.drop (n*m):=zat (by rw [zac]; omega)
    rw [e2,zaB]
theorem Qge {H : Type} {enc:TypeId×Value→H} {P:Program} {w:World} {base:Nat} {sp:Nat→Bool} {held:Bool} {fuel:Nat} {t e i:TypeId} {n m:Nat} {k:IntKind} {cs:List Value} {zss:List (List Int)} {p:List MemPlace}
    (ht:P.underlying t=some (.array n e)) (he:P.underlying e=some (.array m i)) (hi:P.underlying i=some (.int k)) (hci:P.cellsOf i=1) (hce:P.cellsOf e=m) (hct:P.cellsOf t=n*m)
    (h:DataW.trod enc P w base sp held fuel t cs=some (.agg (zss.map (Lib.tabData k)),p)):cs=zss.flatten.map fun z=>zaV k z:=by
  cases fuel with
  | zero=>simp [DataW.trod] at h
  | succ fuel =>
    simp only [DataW.trod,ht,hce,hct] at h
    split at h
    · rename_i hl
      obtain ⟨xs,hm,hx⟩:=zaG.1 h
      have hxs:xs.map (·.1)=zss.map fun z=>(Lib.tabData k z:DataW H):=by
        have:=congrArg Prod.fst hx
        simpa using this
      have hxl:xs.length=n:=by simpa using Lib.mapM_length hm
      have hzl:zss.length=n:=by
        have:=congrArg List.length hxs
        simp at this
        omega
      rw [←chunks m n cs (by simpa using hl),List.map_flatten]
      congr 1
      apply List.ext_getElem?
      intro j
      by_cases hj:j<n
      · obtain ⟨b,hb,hf⟩:=Lib.mapM_at hm j j (by simp [hj])
        have h2:(xs.map (·.1))[j]? = some b.1:=by simp [hb]
        rw [hxs,za0,zba (by omega),zaF,Option.some.injEq] at h2
        have h3:=Lib.cells_of_tab he hi hci hce (zs:=zss[j]'(by omega)) (p:=b.2) (by rw [h2]; exact hf)
        rw [za0,za0,za1 hj,zba (by omega),zaF,zaF,h3]
      · rw [zbf (by simp; omega),zbf (by simp; omega)]
    · cases h
theorem QjZ {P : Program} {w:World} {laid:List (String×DataW Unit)} {n:String} {k:IntKind} {zss:List (List Int)} {g:Nat} {t e i:TypeId} {m1 m:Nat} (h:laidMet P laid w) (hm:(n,DataW.agg (zss.map (Lib.tabData k)))∈laid)
    (hg:P.globalNamed n=some g) (hty:(P.globals[g]?).map (·.type)=some t) (ht:P.underlying t=some (.array m1 e)) (he:P.underlying e=some (.array m i)) (hi:P.underlying i=some (.int k)) (hci:P.cellsOf i=1) (hce:P.cellsOf e=m) (hct:P.cellsOf t=m1*m) (h0:0<zss.flatten.length) :
    ∃ t,w.heap[g]? = some (.cells (ints k zss.flatten) t):=by
  obtain ⟨ps,hL,-,hC⟩:=h
  obtain ⟨g',t',cs,fuel,p,hg',ht',hvar,hd,hin⟩:=QdN _ _ _ _ hL hm
  obtain rfl:=Option.some.inj (hg.symm.trans hg')
  obtain rfl:=Option.some.inj (hty.symm.trans ht')
  have hcs:=Qge ht he hi hci hce hct hd
  have hsz:0<cs.size:=by rw [←zaA,hcs,zaz]; exact h0
  obtain ⟨⟨c,t2,hc⟩,-⟩:=hC g 0 (hin _ (za2.2 ⟨0,za3.2 hsz,rfl⟩))
  unfold World.var? at hvar
  rw [hg] at hvar
  simp only [zbe,hc,Option.some.injEq] at hvar
  subst hvar
  refine ⟨t2,hc.trans ?_⟩
  rw [show c=ints k zss.flatten from by rw [ints,←hcs]]
end Auto
end
end Go.Proofs.YtioglfpngaddfaaDoor
