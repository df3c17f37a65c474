/- Texts of this claim, joined (P5). -/
import Derived.Test.YtioglfpngaddfaaDoorZP4
import Derived.Lib.SmallJoins
import Derived.Lib.LaidTab

set_option linter.unusedVariables false
set_option linter.unusedSimpArgs false
set_option maxHeartbeats 4000000
open List renaming replicate → zaa, all_eq_true → zab, mem_cons → zad, not_mem_nil → zae, mem_append_left → zaf, length_map → zah, mem_range → zai, range → zak, getElem?_map → zal, getElem?_eq_getElem → zam, getElem?_eq_none → zao
open Nat renaming ne_of_lt → zac
open Array renaming length_toList → zag
open Option renaming bind_some → zaj, map_some → zan
namespace Go.Proofs.YtioglfpngaddfaaDoor
open Rely.Ext renaming refl → zap
open Auto.Puts renaming row → zaq
open Auto.Ext renaming tr → zar
open Own.ExtB renaming row → zas
open Auto.Qah renaming row → zat
section
namespace Pk
open Go Go.RowKit
open Rely Auto Own Sha
open Cha
open Ae hiding run_storeQ
open Cn hiding nb_new run_extractT
theorem Qn6 (w : World):Calls Tryd.prog 27 #[.iface 41 (.int .i64 7)] w (Ret w (.int .i64 7)):=by
  refine enter 19 [(0,.iface 41 (.int .i64 7))] Tryd.func27 rfl rfl kj rfl ?_
  refine wp_seq_k fun K1 hK1=>?_
  refine Qad ?_
  refine Qaa (.int .i64 0) 2 rfl kj kj ?_
  refine Qag ?_
  refine hK1 _ _ ?_
  refine wp_seq_k fun K2 hK2=>?_
  refine wp_seq_k fun K3 hK3=>?_
  refine Qad ?_
  refine Qaa (.iface 41 (.int .i64 7)) 5 rfl kj kj ?_
  refine Qaa (.bool false) 6 rfl kj kj ?_
  refine Qag ?_
  refine hK3 _ _ ?_
  refine cond_false kj ?_
  refine wp_skip ?_
  refine hK2 _ _ ?_
  refine wp_seq_k fun K4 hK4=>?_
  refine Qad ?_
  refine Qaa (.iface 41 (.int .i64 7)) 8 rfl kj kj ?_
  refine Qaa (.tuple #[.int .i64 7,.bool true]) 9 rfl kj kj ?_
  refine Qaa (.tuple #[.int .i64 7,.bool true]) 7 rfl kj kj ?_
  refine Qaa (.int .i64 7) 10 rfl kj kj ?_
  refine Qaa (.bool true) 11 rfl kj kj ?_
  refine Qaa (.int .i64 7) 3 rfl kj kj ?_
  refine Qaa (.bool true) 4 rfl kj kj ?_
  refine Qag ?_
  refine hK4 _ _ ?_
  refine wp_seq_k fun K5 hK5=>?_
  refine wp_seq_k fun K6 hK6=>?_
  refine Qad ?_
  refine Qaa (.bool true) 12 rfl kj kj ?_
  refine Qaa (.bool false) 13 rfl kj kj ?_
  refine Qaa (.bool false) 14 rfl kj kj ?_
  refine Qaa (.int .i64 7) 15 rfl kj kj ?_
  refine Qaa (.bool false) 16 rfl kj kj ?_
  refine Qaa (.bool false) 17 rfl kj kj ?_
  refine Qag ?_
  refine hK6 _ _ ?_
  refine cond_false kj ?_
  refine wp_skip ?_
  refine hK5 _ _ ?_
  refine wp_seq_k fun K7 hK7=>?_
  refine Qad ?_
  refine Qaa (.int .i64 7) 18 rfl kj kj ?_
  refine Qaa (.int .i64 7) 2 rfl kj kj ?_
  refine Qag ?_
  refine hK7 _ _ ?_
  refine wp_ret ?_
  repeat (first | with_reducible refine goR1 ?_ | with_reducible refine goR2 ?_)
  exact (show bodyPost _ _ _ .ret _ _ from ret1 (.int .i64 7) rfl (Qa0 kj) ⟨rfl,(zap w)⟩)
theorem is7 (w : World):Calls Tryd.prog 10 #[.iface 41 (.int .i64 7),.int .i64 7] w (Ret w (.bool true)):=by
  refine enter 9 [(0,.iface 41 (.int .i64 7)),(1,.int .i64 7)] Tryd.func10 rfl rfl kj rfl ?_
  refine wp_seq_k fun K1 hK1=>?_
  refine Qad ?_
  refine Qaa (.bool false) 4 rfl kj kj ?_
  refine Qag ?_
  refine hK1 _ _ ?_
  refine wp_seq_k fun K2 hK2=>?_
  refine Qad ?_
  refine Qaa (.iface 41 (.int .i64 7)) 5 rfl kj kj ?_
  refine Qat (.int .i64 7) 27 #[.iface 41 (.int .i64 7)] 6 rfl kj kj ((Qn6) _) fun W1 e1=>?_
  have x1:Ext w W1:=zar (zap w) e1
  refine Qaa (.int .i64 7) 7 rfl kj kj ?_
  refine Qaa (.bool true) 8 rfl kj kj ?_
  refine Qaa (.bool true) 4 rfl kj kj ?_
  refine Qag ?_
  refine hK2 _ _ ?_
  refine wp_ret ?_
  repeat (first | with_reducible refine goR1 ?_ | with_reducible refine goR2 ?_)
  exact (show bodyPost _ _ _ .ret _ _ from ret1 (.bool true) rfl (Qa0 kj) ⟨rfl,x1⟩)
theorem unpack {base : Nat} {sec grp:List Int} {num leaf:Int} {e:Ep} {x:Value} {W:World} (ho:OwE base [e] x W) (hE:EpIs base sec 1 grp num leaf e W) :
    ∃ (ge ce gc gl cap:Nat) (tl lp:Array Value) (cg cm:Nat),x=.slice (some ⟨ge,0,none⟩) 1 ce∧base≤ge∧W.heap[ge]? = some (.cells (cat [#[.pointer (some ⟨gc,0,none⟩)],ints .u8 grp,#[.int .i64 num],#[.int .i64 leaf],tl]) 55) ∧
      W.heap[gc]? = some (.cells #[.slice (some ⟨gl,0,none⟩) 2 cap] 71)∧W.heap[gl]? = some (.cells lp 73)∧lp[0]? = some (.pointer (some ⟨cg,0,none⟩))∧ChSt cg cm (QcJ sec 1 0) [] 0 [] W∧base≤cg∧base≤cm:=by
  obtain ⟨ge,ce,tl,h1,h2,h3⟩:=ho.tail
  obtain ⟨gc,g1,n1,l1⟩:=e
  obtain ⟨e1,e2,e3,w0,hw0,gc',gl,cap,lp,ns,hp,-,hn,hgc,hgl,hall,-,-⟩:=hE
  simp only at e1 e2 e3 hp
  subst e1 e2 e3
  simp only [Value.pointer.injEq,Option.some.injEq,Addr.mk.injEq,and_true] at hp
  subst hp
  obtain ⟨p,hp0⟩:∃ p,ns[0]? = some p:=⟨ns[0]'(by rw [hn]; decide),by simp⟩
  obtain ⟨a1,a2,a3,a4⟩:=hall 0 p hp0
  exact ⟨ge,ce,_,gl,cap,tl,lp,p.1,p.2,h1,h2,h3,hgc,hgl,a1,a2,qT hw0 a3,qT hw0 a4⟩
theorem QbB {x cg cm b:Nat} (hx:x<b) (h1:b≤cg) (h2:b≤cm):x∉[cg,cm]:=Qax (by omega) (Qax (by omega) QaD)
theorem QgH {x cg cm b:Nat} (hx:b≤x) (h1:cg<b) (h2:cm<b):x∉[cg,cm]:=Qax (by omega) (Qax (by omega) QaD)
def pG_ : List Int:=1::zaa 31 0
def pS_ : List Int:=2::zaa 31 0
theorem pG_b : Qaj pG_:=fun x hx=>by
  have:=zab.1 (show (pG_.all fun x=>decide (0≤x)&&decide (x≤255))=true by decide) x hx
  simpa using this
theorem pS_b : Qaj pS_:=fun x hx=>by
  have:=zab.1 (show (pS_.all fun x=>decide (0≤x)&&decide (x≤255))=true by decide) x hx
  simpa using this
set_option maxRecDepth 100000 in
theorem Qme (tc tq th tr:TypeId) (w:World) (hc:w.heap[4]? = some (.cells (ints .u64 QaQ) tc)) (hq:w.heap[3]? = some (.cells (ints .u64 Qa6) tq)) (hr4:w.heap[1]? = some (.cells (ints .i64 qQ) tr)) (hh4:w.heap[0]? = some (.cells (ints .u32 qH) th)) (hT:Seat.TabAt w):Calls Tryd.prog 5 #[] w (Ret w (.bool true)):=by
  have htb:Qaj [104,105]:=fun x hx=>by
    have:=zab.1 (show (([104,105]:List Int).all fun x=>decide (0≤x)&&decide (x≤255))=true by decide) x hx
    simpa using this
  obtain ⟨fs,es⟩:∃ z,Qdc ((keyV (itV (QcJ pS_ 1 0) 0)).take 32) ((keyV (itV (QcJ pS_ 1 0) 0)).drop 32) (pG_++[0,0,0,0]++[0]++[0,0,0,0]) [104,105]=z:=⟨_,rfl⟩
  have lfs:fs.length=18:=by rw [←es]; exact QcG _ _ _ _
  have hfb:Qaj fs:=es▸Qd2 _ _ _ _
  refine enter 65 [] Tryd.func5 rfl rfl kj rfl ?_
  refine wp_seq_k fun K5 hK5=>?_
  refine Qad ?_
  refine Qaa (.bool false) 0 rfl kj kj ?_
  refine Qag ?_
  refine hK5 _ _ ?_
  refine wp_seq_k fun K6 hK6=>?_
  refine Qad ?_
  refine Qav (fun v W'=>(fun v W=>∃ g,v=.pointer (some ⟨g,0,none⟩)∧w.heap.size≤g∧W.heap[g]? = some (.cells (cat [#[.slice none 0 0],#[.bool false]]) 49)) v W'∧Ext w W') 6 #[] 8 rfl kj kj ((newB _).mono (by rintro e w' ⟨v,rfl,e1,hv⟩; exact ⟨v,rfl,hv,e1⟩)) fun vv7 W1 hh7=>?_
  obtain ⟨hv7,e1⟩:=hh7
  have x1:Ext w W1:=zar (zap w) e1
  obtain ⟨gs8,rfl,ls8,rs8⟩:=hv7
  have bs8:w.heap.size≤gs8:=qT (zap w).size ls8
  refine Qav (fun v W'=>(fun v W=>∃ g,v=.pointer (some ⟨g,0,none⟩)∧W1.heap.size≤g∧W.heap[g]? = some (.cells (cat [#[.slice none 0 0],#[.bool false]]) 49)) v W'∧Ext W1 W') 6 #[] 9 rfl kj kj ((newB _).mono (by rintro e w' ⟨v,rfl,e1,hv⟩; exact ⟨v,rfl,hv,e1⟩)) fun vv9 W2 hh9=>?_
  obtain ⟨hv9,e2⟩:=hh9
  have x2:Ext w W2:=zar x1 e2
  obtain ⟨gs10,rfl,ls10,rs10⟩:=hv9
  have bs10:w.heap.size≤gs10:=qT x1.size ls10
  refine Qaa (.pointer (some ⟨gs8,0,none⟩)) 1 rfl kj kj ?_
  refine Qaa (.pointer (some ⟨gs10,0,none⟩)) 2 rfl kj kj ?_
  refine Qag ?_
  refine hK6 _ _ ?_
  refine wp_seq_k fun K11 hK11=>?_
  refine wp_seq_k fun K12 hK12=>?_
  refine Qad ?_
  refine Qaa (.pointer (some ⟨gs8,0,none⟩)) 10 rfl kj kj ?_
  refine Qaa (.agg (ints .u8 (pG_))) 11 rfl kj kj ?_
  refine Qaa (.agg (ints .u8 (pS_))) 12 rfl kj kj ?_
  have r8_2:=(Qab rs8 e2)
  have r1_1:=(Qab hc e1)
  have r1_2:=(Qab r1_1 e2)
  have r2_1:=(Qab hq e1)
  have r2_2:=(Qab r2_1 e2)
  have r3_1:=(Qab hr4 e1)
  have r3_2:=(Qab r3_1 e2)
  have r4_1:=(Qab hh4 e1)
  have r4_2:=(Qab r4_1 e2)
  refine Qav (fun v W'=>v=.nilIface∧ExtB gs8 W2 W'∧∃ (e:Ep) (x:Value),W'.heap[gs8]? = some (.cells (cat [#[x],#[.bool false]]) 49)∧OwE W2.heap.size [e] x W'∧EpIs W2.heap.size pS_ 1 pG_ 0 0 e W') 7 #[.pointer (some ⟨gs8,0,none⟩),.agg (ints .u8 (pG_)),.int .i64 0,.agg (ints .u8 (pS_)),.int .i64 2,.int .i64 0] 13 rfl kj kj ((QjD gs8 pG_ pS_ 0 0 1 (by decide) rfl rfl pS_b (by decide) (by decide) (by decide) (by decide) tc tq _ r8_2 r1_2 r2_2 (hT.ext x2)).mono (by rintro e w' ⟨rfl,h1,h2⟩; exact ⟨_,rfl,rfl,h1,h2⟩)) fun v W3 h13=>?_
  obtain ⟨rfl,q3,epa,xva,rba,hOa,hEa⟩:=h13
  obtain ⟨gea,cea,gca,gla,capa,tla,lpa,cga,cma,rfl,lgea,rgea,rgca,rgla,hlia,hcha,lcga,lcma⟩:=unpack hOa hEa
  have x3:Ext w W3:=ExtB.up x2 q3 bs8
  have lwa:w.heap.size≤cga:=qT x2.size lcga
  have lva:w.heap.size≤cma:=qT x2.size lcma
  refine Qaa (.bool false) 14 rfl kj kj ?_
  refine Qaa (.bool false) 15 rfl kj kj ?_
  refine Qaa (.pointer (some ⟨gs10,0,none⟩)) 16 rfl kj kj ?_
  refine Qaa (.agg (ints .u8 (pG_))) 17 rfl kj kj ?_
  refine Qaa (.agg (ints .u8 (pS_))) 18 rfl kj kj ?_
  have hcha1:ChSt cga cma (QcJ pS_ 1 0) [] 0 [] W3:=hcha
  refine Qav (fun v W'=>v=.nilIface∧ExtB gs10 W3 W'∧∃ (e:Ep) (x:Value),W'.heap[gs10]? = some (.cells (cat [#[x],#[.bool false]]) 49)∧OwE W3.heap.size [e] x W'∧EpIs W3.heap.size pS_ 1 pG_ 0 1 e W') 7 #[.pointer (some ⟨gs10,0,none⟩),.agg (ints .u8 (pG_)),.int .i64 0,.agg (ints .u8 (pS_)),.int .i64 2,.int .i64 1] 19 rfl kj kj ((QjD gs10 pG_ pS_ 0 1 1 (by decide) rfl rfl pS_b (by decide) (by decide) (by decide) (by decide) tc tq _ (zas q3 rs10 (Ne.symm (Qaf rs8 ls10))) (zas q3 r1_2 (zac (qL (Qas hc) bs8))) (zas q3 r2_2 (zac (qL (Qas hq) bs8))) (hT.ext x3)).mono (by rintro e w' ⟨rfl,h1,h2⟩; exact ⟨_,rfl,rfl,h1,h2⟩)) fun v W4 h17=>?_
  obtain ⟨rfl,q4,epb,xvb,rbb,hOb,hEb⟩:=h17
  obtain ⟨geb,ceb,gcb,glb,capb,tlb,lpb,cgb,cmb,rfl,lgeb,rgeb,rgcb,rglb,hlib,hchb,lcgb,lcmb⟩:=unpack hOb hEb
  have x4:Ext w W4:=ExtB.up x3 q4 bs10
  have lwb:w.heap.size≤cgb:=qT x3.size lcgb
  have lvb:w.heap.size≤cmb:=qT x3.size lcmb
  have hlb:gs10<W2.heap.size:=Qas rs10
  have hcha2:=hcha1.keep (q4.2.2.2.2 cga hcha1.glt (by omega)) (q4.2.2.2.2 cma hcha1.mp.lt (by omega))
  have hcga2:=hcha1.glt
  have hcma2:=hcha1.mp.lt
  refine Qaa (.bool false) 20 rfl kj kj ?_
  refine Qaa (.bool false) 21 rfl kj kj ?_
  refine Qag ?_
  refine hK12 _ _ ?_
  refine cond_false kj ?_
  refine wp_skip ?_
  refine hK11 _ _ ?_
  refine wp_seq_k fun K21 hK21=>?_
  refine Qad ?_
  refine Qaa (.pointer (some ⟨gs8,0,none⟩)) 23 rfl kj kj ?_
  refine Qbg (ints .u8 ([104,105])) 5 2 24 rfl kj kj fun g22 W5 l22 e5 r22_5=>?_
  have x5:Ext w W5:=zar x4 e5
  have b22:w.heap.size≤g22:=qT x4.size l22
  refine QiE (xs:=[104,105]) 33 5 (.tmp 24) 25 rfl rfl kj kj kj kj rfl (show 2≤maxLen by decide) r22_5 fun W6 p6 r22_6 rd23=>?_
  have x6:Ext w W6:=Puts.ext p6 x5 b22
  have r1_5:=(Qab (zas q4 (zas q3 r1_2 (zac (qL (Qas hc) bs8))) (zac (qL (Qas hc) bs10))) e5)
  have r1_6:=(zaq p6 r1_5 (Qaf (zas q4 (zas q3 r1_2 (zac (qL (Qas hc) bs8))) (zac (qL (Qas hc) bs10))) l22))
  have r2_5:=(Qab (zas q4 (zas q3 r2_2 (zac (qL (Qas hq) bs8))) (zac (qL (Qas hq) bs10))) e5)
  have r2_6:=(zaq p6 r2_5 (Qaf (zas q4 (zas q3 r2_2 (zac (qL (Qas hq) bs8))) (zac (qL (Qas hq) bs10))) l22))
  have r3_5:=(Qab (zas q4 (zas q3 r3_2 (zac (qL (Qas hr4) bs8))) (zac (qL (Qas hr4) bs10))) e5)
  have r3_6:=(zaq p6 r3_5 (Qaf (zas q4 (zas q3 r3_2 (zac (qL (Qas hr4) bs8))) (zac (qL (Qas hr4) bs10))) l22))
  have r4_5:=(Qab (zas q4 (zas q3 r4_2 (zac (qL (Qas hh4) bs8))) (zac (qL (Qas hh4) bs10))) e5)
  have r4_6:=(zaq p6 r4_5 (Qaf (zas q4 (zas q3 r4_2 (zac (qL (Qas hh4) bs8))) (zac (qL (Qas hh4) bs10))) l22))
  have r8_5:=(Qab (zas q4 rba (Qaf rs8 ls10)) e5)
  have r8_6:=(zaq p6 r8_5 (Qaf (zas q4 rba (Qaf rs8 ls10)) l22))
  have r10_5:=(Qab rbb e5)
  have r10_6:=(zaq p6 r10_5 (Qaf rbb l22))
  have r14_5:=(Qab (zas q4 rgea (QgI rgea (zas q3 rs10 (Ne.symm (Qaf rs8 ls10))) (by decide))) e5)
  have r14_6:=(zaq p6 r14_5 (Qaf (zas q4 rgea (QgI rgea (zas q3 rs10 (Ne.symm (Qaf rs8 ls10))) (by decide))) l22))
  have r18_5:=(Qab rgeb e5)
  have r18_6:=(zaq p6 r18_5 (Qaf rgeb l22))
  have r15_5:=(Qab (zas q4 rgca (QgI rgca (zas q3 rs10 (Ne.symm (Qaf rs8 ls10))) (by decide))) e5)
  have r15_6:=(zaq p6 r15_5 (Qaf (zas q4 rgca (QgI rgca (zas q3 rs10 (Ne.symm (Qaf rs8 ls10))) (by decide))) l22))
  have r19_5:=(Qab rgcb e5)
  have r19_6:=(zaq p6 r19_5 (Qaf rgcb l22))
  have r16_5:=(Qab (zas q4 rgla (QgI rgla (zas q3 rs10 (Ne.symm (Qaf rs8 ls10))) (by decide))) e5)
  have r16_6:=(zaq p6 r16_5 (Qaf (zas q4 rgla (QgI rgla (zas q3 rs10 (Ne.symm (Qaf rs8 ls10))) (by decide))) l22))
  have r20_5:=(Qab rglb e5)
  have r20_6:=(zaq p6 r20_5 (Qaf rglb l22))
  have y4_5:Ext W4 W5:=(Rely.Ext.trans (zap W4) e5)
  have y4_6:Ext W4 W6:=(Puts.ext p6 y4_5 l22)
  have hcha3:=hcha2.ext y4_6
  have hchb3:=hchb.ext y4_6
  refine Qav (fun v W'=>∃ u,v=.tuple #[.agg (cat [ints .u8 pG_,#[.int .i64 0],#[.int .i64 0],#[.int .i64 0],#[u]]),.nilIface]∧Qah [cga,cma] W6 W'∧OwnN .u8 5 W6.heap.size fs u W') 8 #[.pointer (some ⟨gs8,0,none⟩),.slice (some ⟨g22,0,none⟩) 2 2] 26 rfl kj kj ((Qmz gs8 gea cea gca tla pG_ rfl _ r8_6 r14_6 gla 2 capa lpa r15_6 r16_6 cga cma (by decide) hlia (QcJ pS_ 1 0) hcha3 tc tq th tr r1_6 r2_6 r3_6 r4_6 (QbB (Qas hc) lwa lva) (QbB (Qas hq) lwa lva) (QbB (Qas hr4) lwa lva) (QbB (Qas hh4) lwa lva) [104,105] fs (by decide) es pG_b _ (fun W e=>RdK.here (RdK.keepN rd23 e.size (fun i hi hl=>e.block i hl (by obtain rfl:=Option.some.inj hi; exact QgH l22 hcha2.glt hcha2.mp.lt))))).mono (by rintro e w' ⟨u,rfl,h1,h2,h3⟩; exact ⟨_,rfl,u,rfl,h1,h3⟩)) fun v W7 h24=>?_
  obtain ⟨us,rfl,q7,hus⟩:=h24
  obtain ⟨aus,cus,rfl,-⟩:=id (OwnN.rd hus)
  have x7:Ext w W7:=Qah.ext q7 x6 (fun c hc=>by simp only [zad,zae,or_false] at hc; rcases hc with rfl | rfl; exact lwa; exact lva)
  have hchb4:=hchb3.keep (q7.block cgb hchb3.glt (QgH lcgb hcga2 hcma2)) (q7.block cmb hchb3.mp.lt (QgH lcmb hcga2 hcma2))
  refine Qaa (.tuple #[.agg (cat [ints .u8 (pG_),#[.int .i64 0],#[.int .i64 0],#[.int .i64 0],#[.slice aus fs.length cus]]),.nilIface]) 22 rfl kj kj ?_
  refine Qaa (.agg (cat [ints .u8 (pG_),#[.int .i64 0],#[.int .i64 0],#[.int .i64 0],#[.slice aus fs.length cus]])) 27 rfl kj kj ?_
  refine Qaa (.nilIface) 28 rfl kj kj ?_
  refine Qam (cat [ints .u8 (zaa 32 0),#[.int .i64 0],#[.int .i64 0],#[.int .i64 0],#[.slice none 0 0]]) 35 3 rfl kj kj fun g25 W8 l25 e8 r25_8=>?_
  have x8:Ext w W8:=zar x7 e8
  have b25:w.heap.size≤g25:=qT x7.size l25
  refine Qak g25 _ (cat [ints .u8 (pG_),#[.int .i64 0],#[.int .i64 0],#[.int .i64 0],#[.slice aus fs.length cus]]) 35 r25_8 rfl kj (Qal 35 _ _ g25 35 _ _ r25_8 rfl kj kj (isz (n:=36) kj (by rw [Qac,Qac,Qac,Qac,Qac]; simp only [qS,cat,((Qap _ _).trans rfl)]; rfl)) (eqsz (n:=36) (by rw [Qac,Qac,Qac,Qac,Qac]; simp only [qS,cat,((Qap _ _).trans (qZ (n:=32)))]; rfl) (by rw [Qac,Qac,Qac,Qac,Qac]; simp only [qS,cat,((Qap _ _).trans rfl)]; rfl)) (Qbu _ (by intro a ha; simp only [zad,zae,or_false] at ha; rcases ha with rfl | rfl | rfl | rfl | rfl; exact (Qay _ _); exact (Qa9 _ rfl); exact (Qa9 _ rfl); exact (Qa9 _ rfl); exact (Qa9 _ rfl)))) fun W9 p9 r25_9=>?_
  have x9:Ext w W9:=Puts.ext p9 x8 b25
  refine Qaa (.nilIface) 4 rfl kj kj ?_
  refine Qag ?_
  refine hK21 _ _ ?_
  refine wp_seq_k fun K26 hK26=>?_
  refine wp_seq_k fun K27 hK27=>?_
  refine Qad ?_
  refine Qaa (.nilIface) 29 rfl kj kj ?_
  refine Qaa (.bool false) 30 rfl kj kj ?_
  refine Qaa (.bool false) 31 rfl kj kj ?_
  refine Qaa (.pointer (some ⟨g25,34,none⟩)) 32 rfl kj kj ?_
  refine Qaa (.int .i64 0) 33 rfl kj (Qae 3 _ g25 34 35 _ (.int .i64 0) _ r25_9 rfl kj (Qaq [ints .u8 (pG_),#[.int .i64 0],#[.int .i64 0]] [#[.int .i64 0]] [#[.slice aus fs.length cus]] 34 (by rw [Qac,Qac,Qac]; simp only [qS,cat,((Qap _ _).trans rfl)]; rfl) 0 _ rfl) kj) ?_
  refine Qaa (.bool false) 34 rfl kj kj ?_
  refine Qaa (.bool false) 35 rfl kj kj ?_
  refine Qaa (.bool false) 36 rfl kj kj ?_
  refine Qaa (.pointer (some ⟨g25,35,none⟩)) 37 rfl kj kj ?_
  refine Qaa (.slice aus fs.length cus) 38 rfl kj (Qae 33 _ g25 35 35 _ (.slice aus fs.length cus) _ r25_9 rfl kj (Qaq [ints .u8 (pG_),#[.int .i64 0],#[.int .i64 0],#[.int .i64 0]] [#[.slice aus fs.length cus]] [] 35 (by rw [Qac,Qac,Qac,Qac]; simp only [qS,cat,((Qap _ _).trans rfl)]; rfl) 0 _ rfl) kj) ?_
  refine Qaa (.int .i64 ((fs.length:Nat):Int)) 39 rfl kj kj ?_
  refine Qaa (.bool false) 40 rfl kj (Qai (u:=.bool ((((fs.length:Nat):Int) != 18))) kj (congrArg Value.bool (bne_eq_false_iff_eq.2 (by rw [lfs]; rfl)))) ?_
  refine Qaa (.bool false) 41 rfl kj kj ?_
  refine Qag ?_
  refine hK27 _ _ ?_
  refine cond_false kj ?_
  refine wp_skip ?_
  refine hK26 _ _ ?_
  refine wp_seq_k fun K28 hK28=>?_
  refine Qad ?_
  refine Qaa (.pointer (some ⟨gs10,0,none⟩)) 43 rfl kj kj ?_
  refine Qaa (.agg (cat [ints .u8 (pG_),#[.int .i64 0],#[.int .i64 0],#[.int .i64 0],#[.slice aus fs.length cus]])) 44 rfl kj (Qao 35 _ g25 35 _ _ r25_9 rfl kj kj (isz (n:=36) kj (by rw [Qac,Qac,Qac,Qac,Qac]; simp only [qS,cat,((Qap _ _).trans rfl)]; rfl))) ?_
  have r1_8:=(Qab (zat q7 r1_6 (QbB (Qas hc) lwa lva)) e8)
  have r1_9:=(zaq p9 r1_8 (Qaf (zat q7 r1_6 (QbB (Qas hc) lwa lva)) l25))
  have r2_8:=(Qab (zat q7 r2_6 (QbB (Qas hq) lwa lva)) e8)
  have r2_9:=(zaq p9 r2_8 (Qaf (zat q7 r2_6 (QbB (Qas hq) lwa lva)) l25))
  have r3_8:=(Qab (zat q7 r3_6 (QbB (Qas hr4) lwa lva)) e8)
  have r3_9:=(zaq p9 r3_8 (Qaf (zat q7 r3_6 (QbB (Qas hr4) lwa lva)) l25))
  have r4_8:=(Qab (zat q7 r4_6 (QbB (Qas hh4) lwa lva)) e8)
  have r4_9:=(zaq p9 r4_8 (Qaf (zat q7 r4_6 (QbB (Qas hh4) lwa lva)) l25))
  have r10_8:=(Qab (zat q7 r10_6 (nin r10_6 hcha3 (by decide))) e8)
  have r10_9:=(zaq p9 r10_8 (Qaf (zat q7 r10_6 (nin r10_6 hcha3 (by decide))) l25))
  have r18_8:=(Qab (zat q7 r18_6 (nin r18_6 hcha3 (by decide))) e8)
  have r18_9:=(zaq p9 r18_8 (Qaf (zat q7 r18_6 (nin r18_6 hcha3 (by decide))) l25))
  have r19_8:=(Qab (zat q7 r19_6 (nin r19_6 hcha3 (by decide))) e8)
  have r19_9:=(zaq p9 r19_8 (Qaf (zat q7 r19_6 (nin r19_6 hcha3 (by decide))) l25))
  have r20_8:=(Qab (zat q7 r20_6 (nin r20_6 hcha3 (by decide))) e8)
  have r20_9:=(zaq p9 r20_8 (Qaf (zat q7 r20_6 (nin r20_6 hcha3 (by decide))) l25))
  have y7_8:Ext W7 W8:=(Rely.Ext.trans (zap W7) e8)
  have y7_9:Ext W7 W9:=(Puts.ext p9 y7_8 l25)
  have hchb5:=hchb4.ext y7_9
  have hus5:=OwnN.ext hus y7_9
  refine Qav (fun v W'=>∃ u,v=.tuple #[u,.nilIface]∧Qah [cgb,cmb] W9 W'∧ChSt cgb cmb (QcJ pS_ 1 0) [0] 1 (Qdz [] (QcJ pS_ 1 0) 0 0) W'∧OwnN .u8 5 W9.heap.size [104,105] u W') 9 #[.pointer (some ⟨gs10,0,none⟩),.agg (cat [ints .u8 (pG_),#[.int .i64 0],#[.int .i64 0],#[.int .i64 0],#[.slice aus fs.length cus]])] 45 rfl kj kj ((QmB gs10 geb ceb gcb tlb pG_ rfl _ r10_9 r18_9 glb 2 capb lpb r19_9 r20_9 cgb cmb (by decide) hlib (QcJ pS_ 1 0) hchb5 tc tq th tr r1_9 r2_9 r3_9 r4_9 (QbB (Qas hc) lwb lvb) (QbB (Qas hq) lwb lvb) (QbB (Qas hr4) lwb lvb) (QbB (Qas hh4) lwb lvb) [104,105] fs (by decide) htb es pG_b _ (fun W e=>RdK.here (OwnN.rd (OwnN.ext hus5 e)))).mono (by rintro e w' ⟨u,rfl,h1,h2,h3⟩; exact ⟨_,rfl,u,rfl,h1,h2,h3⟩)) fun v W10 h29=>?_
  obtain ⟨ut,rfl,q10,hchb6,hut⟩:=h29
  obtain ⟨aut,cut,rfl,-⟩:=id (OwnN.rd hut)
  have x10:Ext w W10:=Qah.ext q10 x9 (fun c hc=>by simp only [zad,zae,or_false] at hc; rcases hc with rfl | rfl; exact lwb; exact lvb)
  have hus6:=QiW hus5 q10 (Qcb hus (hchb3.glt)) (Qcb hus (hchb3.mp.lt))
  refine Qaa (.tuple #[.slice aut (([104,105]:List Int).length) cut,.nilIface]) 42 rfl kj kj ?_
  refine Qaa (.slice aut (([104,105]:List Int).length) cut) 46 rfl kj kj ?_
  refine Qaa (.nilIface) 47 rfl kj kj ?_
  refine Qaa (.slice aut (([104,105]:List Int).length) cut) 5 rfl kj kj ?_
  refine Qaa (.nilIface) 4 rfl kj kj ?_
  refine Qag ?_
  refine hK28 _ _ ?_
  refine wp_seq_k fun K30 hK30=>?_
  refine Qad ?_
  refine Qaa (.pointer (some ⟨gs10,0,none⟩)) 49 rfl kj kj ?_
  refine Qaa (.agg (cat [ints .u8 (pG_),#[.int .i64 0],#[.int .i64 0],#[.int .i64 0],#[.slice aus fs.length cus]])) 50 rfl kj (Qao 35 _ g25 35 _ _ (zat q10 r25_9 (nin r25_9 hchb5 (by decide))) rfl kj kj (isz (n:=36) kj (by rw [Qac,Qac,Qac,Qac,Qac]; simp only [qS,cat,((Qap _ _).trans rfl)]; rfl))) ?_
  refine Qat (.tuple #[.slice none 0 0,.iface 41 (.int .i64 7)]) 9 #[.pointer (some ⟨gs10,0,none⟩),.agg (cat [ints .u8 (pG_),#[.int .i64 0],#[.int .i64 0],#[.int .i64 0],#[.slice aus fs.length cus]])] 51 rfl kj kj (QmA gs10 geb ceb gcb tlb pG_ rfl _ (zat q10 r10_9 (nin r10_9 hchb5 (by decide))) (zat q10 r18_9 (nin r18_9 hchb5 (by decide))) glb 2 capb lpb (zat q10 r19_9 (nin r19_9 hchb5 (by decide))) (zat q10 r20_9 (nin r20_9 hchb5 (by decide))) cgb cmb (by decide) hlib (QcJ pS_ 1 0) _ (hchb6.ext (zap W10)) tc tq (zat q10 r1_9 (QbB (Qas hc) lwb lvb)) (zat q10 r2_9 (QbB (Qas hq) lwb lvb)) fs (by rw [lfs]; decide) hfb pG_b _ (fun W e=>RdK.here (OwnN.rd (OwnN.ext (OwnN.ext hus6 (zap W10)) e)))) fun W11 e11=>?_
  have x11:Ext w W11:=zar x10 e11
  refine Qaa (.tuple #[.slice none 0 0,.iface 41 (.int .i64 7)]) 48 rfl kj kj ?_
  refine Qaa (.slice none 0 0) 52 rfl kj kj ?_
  refine Qaa (.iface 41 (.int .i64 7)) 53 rfl kj kj ?_
  refine Qaa (.slice none 0 0) 6 rfl kj kj ?_
  refine Qaa (.iface 41 (.int .i64 7)) 7 rfl kj kj ?_
  refine Qag ?_
  refine hK30 _ _ ?_
  refine wp_seq_k fun K31 hK31=>?_
  refine Qad ?_
  refine Qaa (.nilIface) 54 rfl kj kj ?_
  refine Qaa (.bool true) 55 rfl kj kj ?_
  refine Qaa (.bool true) 56 rfl kj kj ?_
  refine Qaa (.slice aut (([104,105]:List Int).length) cut) 57 rfl kj kj ?_
  have y10_11:Ext W10 W11:=(Rely.Ext.trans (zap W10) e11)
  refine Qaa (.string (QjX [104,105])) 58 rfl kj (QiL (.tmp 57) (.slice aut (([104,105]:List Int).length) cut) rfl rfl [104,105] (RdK.bytes (OwnN.rd (OwnN.ext hut y10_11)) htb)) ?_
  refine Qaa (.bool true) 59 rfl kj kj ?_
  refine Qaa (.bool true) 60 rfl kj kj ?_
  refine Qaa (.bool true) 61 rfl kj kj ?_
  refine Qaa (.iface 41 (.int .i64 7)) 62 rfl kj kj ?_
  refine Qat (.bool true) 10 #[.iface 41 (.int .i64 7),.int .i64 7] 63 rfl kj kj ((is7) _) fun W12 e12=>?_
  have x12:Ext w W12:=zar x11 e12
  refine Qaa (.bool true) 64 rfl kj kj ?_
  refine Qaa (.bool true) 0 rfl kj kj ?_
  refine Qag ?_
  refine hK31 _ _ ?_
  refine wp_ret ?_
  exact (show bodyPost _ _ _ .ret _ _ from ret1 (.bool true) rfl (Qa0 kj) ⟨rfl,x12⟩)
end Pk
end
section
namespace Pk
open Go Go.RowKit
open Rely Auto Own Sha
open Cha
open Ae hiding run_storeQ
open Cn hiding nb_new run_extractT
theorem QmE (w : World):Calls Tryd.prog 27 #[.iface 41 (.int .i64 10)] w (Ret w (.int .i64 10)):=by
  refine enter 19 [(0,.iface 41 (.int .i64 10))] Tryd.func27 rfl rfl kj rfl ?_
  refine wp_seq_k fun K1 hK1=>?_
  refine Qad ?_
  refine Qaa (.int .i64 0) 2 rfl kj kj ?_
  refine Qag ?_
  refine hK1 _ _ ?_
  refine wp_seq_k fun K2 hK2=>?_
  refine wp_seq_k fun K3 hK3=>?_
  refine Qad ?_
  refine Qaa (.iface 41 (.int .i64 10)) 5 rfl kj kj ?_
  refine Qaa (.bool false) 6 rfl kj kj ?_
  refine Qag ?_
  refine hK3 _ _ ?_
  refine cond_false kj ?_
  refine wp_skip ?_
  refine hK2 _ _ ?_
  refine wp_seq_k fun K4 hK4=>?_
  refine Qad ?_
  refine Qaa (.iface 41 (.int .i64 10)) 8 rfl kj kj ?_
  refine Qaa (.tuple #[.int .i64 10,.bool true]) 9 rfl kj kj ?_
  refine Qaa (.tuple #[.int .i64 10,.bool true]) 7 rfl kj kj ?_
  refine Qaa (.int .i64 10) 10 rfl kj kj ?_
  refine Qaa (.bool true) 11 rfl kj kj ?_
  refine Qaa (.int .i64 10) 3 rfl kj kj ?_
  refine Qaa (.bool true) 4 rfl kj kj ?_
  refine Qag ?_
  refine hK4 _ _ ?_
  refine wp_seq_k fun K5 hK5=>?_
  refine wp_seq_k fun K6 hK6=>?_
  refine Qad ?_
  refine Qaa (.bool true) 12 rfl kj kj ?_
  refine Qaa (.bool false) 13 rfl kj kj ?_
  refine Qaa (.bool false) 14 rfl kj kj ?_
  refine Qaa (.int .i64 10) 15 rfl kj kj ?_
  refine Qaa (.bool false) 16 rfl kj kj ?_
  refine Qaa (.bool false) 17 rfl kj kj ?_
  refine Qag ?_
  refine hK6 _ _ ?_
  refine cond_false kj ?_
  refine wp_skip ?_
  refine hK5 _ _ ?_
  refine wp_seq_k fun K7 hK7=>?_
  refine Qad ?_
  refine Qaa (.int .i64 10) 18 rfl kj kj ?_
  refine Qaa (.int .i64 10) 2 rfl kj kj ?_
  refine Qag ?_
  refine hK7 _ _ ?_
  refine wp_ret ?_
  repeat (first | with_reducible refine goR1 ?_ | with_reducible refine goR2 ?_)
  exact (show bodyPost _ _ _ .ret _ _ from ret1 (.int .i64 10) rfl (Qa0 kj) ⟨rfl,(zap w)⟩)
theorem is10 (w : World):Calls Tryd.prog 10 #[.iface 41 (.int .i64 10),.int .i64 10] w (Ret w (.bool true)):=by
  refine enter 9 [(0,.iface 41 (.int .i64 10)),(1,.int .i64 10)] Tryd.func10 rfl rfl kj rfl ?_
  refine wp_seq_k fun K1 hK1=>?_
  refine Qad ?_
  refine Qaa (.bool false) 4 rfl kj kj ?_
  refine Qag ?_
  refine hK1 _ _ ?_
  refine wp_seq_k fun K2 hK2=>?_
  refine Qad ?_
  refine Qaa (.iface 41 (.int .i64 10)) 5 rfl kj kj ?_
  refine Qat (.int .i64 10) 27 #[.iface 41 (.int .i64 10)] 6 rfl kj kj ((QmE) _) fun W1 e1=>?_
  have x1:Ext w W1:=zar (zap w) e1
  refine Qaa (.int .i64 10) 7 rfl kj kj ?_
  refine Qaa (.bool true) 8 rfl kj kj ?_
  refine Qaa (.bool true) 4 rfl kj kj ?_
  refine Qag ?_
  refine hK2 _ _ ?_
  refine wp_ret ?_
  repeat (first | with_reducible refine goR1 ?_ | with_reducible refine goR2 ?_)
  exact (show bodyPost _ _ _ .ret _ _ from ret1 (.bool true) rfl (Qa0 kj) ⟨rfl,x1⟩)
theorem noneC (tc tq th tr:TypeId) (w:World) (hc:w.heap[4]? = some (.cells (ints .u64 QaQ) tc)) (hq:w.heap[3]? = some (.cells (ints .u64 Qa6) tq)) (hr4:w.heap[1]? = some (.cells (ints .i64 qQ) tr)) (hh4:w.heap[0]? = some (.cells (ints .u32 qH) th)) (hT:Seat.TabAt w) (a_b:Option Addr) (n_b c_b:Nat) (n:Int):Calls Tryd.prog 4 #[.slice a_b n_b c_b,.int .i64 n] w (Ret w (.bool true)):=by
  refine enter 57 [(0,.slice a_b n_b c_b),(1,.int .i64 n)] Tryd.func4 rfl rfl kj rfl ?_
  refine wp_seq_k fun K5 hK5=>?_
  refine Qad ?_
  refine Qaa (.bool false) 4 rfl kj kj ?_
  refine Qag ?_
  refine hK5 _ _ ?_
  refine wp_seq_k fun K6 hK6=>?_
  refine wp_seq_k fun K7 hK7=>?_
  refine Qad ?_
  refine Qat (.bool true) 5 #[] 10 rfl kj kj (Qme tc tq th tr _ hc hq hr4 hh4 (hT.ext (zap w))) fun W1 e1=>?_
  have x1:Ext w W1:=zar (zap w) e1
  refine Qaa (.bool false) 11 rfl kj kj ?_
  refine Qag ?_
  refine hK7 _ _ ?_
  refine cond_false kj ?_
  refine wp_skip ?_
  refine hK6 _ _ ?_
  refine wp_seq_k fun K8 hK8=>?_
  refine Qad ?_
  refine Qaa (.pointer none) 5 rfl kj kj ?_
  refine Qag ?_
  refine hK8 _ _ ?_
  refine wp_seq_k fun K9 hK9=>?_
  refine Qad ?_
  refine Qaa (.pointer none) 12 rfl kj kj ?_
  refine Qat (.tuple #[]) 11 #[.pointer none] 13 rfl kj kj ((QlR) _) fun W2 e2=>?_
  have x2:Ext w W2:=zar x1 e2
  refine Qag ?_
  refine hK9 _ _ ?_
  refine wp_seq_k fun K10 hK10=>?_
  refine Qad ?_
  refine Qaa (.pointer none) 15 rfl kj kj ?_
  refine Qaa (.slice a_b n_b c_b) 16 rfl kj kj ?_
  refine Qat (.tuple #[.agg (cat [ints .u8 (zaa 32 0),#[.int .i64 0],#[.int .i64 0],#[.int .i64 0],#[.slice none 0 0]]),.iface 41 (.int .i64 10)]) 8 #[.pointer none,.slice a_b n_b c_b] 17 rfl kj kj ((Qmy a_b n_b c_b) _) fun W3 e3=>?_
  have x3:Ext w W3:=zar x2 e3
  refine Qaa (.tuple #[.agg (cat [ints .u8 (zaa 32 0),#[.int .i64 0],#[.int .i64 0],#[.int .i64 0],#[.slice none 0 0]]),.iface 41 (.int .i64 10)]) 14 rfl kj kj ?_
  refine Qaa (.agg (cat [ints .u8 (zaa 32 0),#[.int .i64 0],#[.int .i64 0],#[.int .i64 0],#[.slice none 0 0]])) 18 rfl kj kj ?_
  refine Qaa (.iface 41 (.int .i64 10)) 19 rfl kj kj ?_
  refine Qam (cat [ints .u8 (zaa 32 0),#[.int .i64 0],#[.int .i64 0],#[.int .i64 0],#[.slice none 0 0]]) 35 6 rfl kj kj fun g11 W4 l11 e4 r11_4=>?_
  have x4:Ext w W4:=zar x3 e4
  have b11:w.heap.size≤g11:=qT x3.size l11
  refine Qak g11 _ (cat [ints .u8 (zaa 32 0),#[.int .i64 0],#[.int .i64 0],#[.int .i64 0],#[.slice none 0 0]]) 35 r11_4 rfl kj (Qal 35 _ _ g11 35 _ _ r11_4 rfl kj kj (isz (n:=36) kj (by rw [Qac,Qac,Qac,Qac,Qac]; simp only [qS,cat,((Qap _ _).trans (qZ (n:=32)))]; rfl)) (eqsz (n:=36) (by rw [Qac,Qac,Qac,Qac,Qac]; simp only [qS,cat,((Qap _ _).trans (qZ (n:=32)))]; rfl) (by rw [Qac,Qac,Qac,Qac,Qac]; simp only [qS,cat,((Qap _ _).trans (qZ (n:=32)))]; rfl)) (Qbu _ (by intro a ha; simp only [zad,zae,or_false] at ha; rcases ha with rfl | rfl | rfl | rfl | rfl; exact (Qay _ _); exact (Qa9 _ rfl); exact (Qa9 _ rfl); exact (Qa9 _ rfl); exact (Qa9 _ rfl)))) fun W5 p5 r11_5=>?_
  have x5:Ext w W5:=Puts.ext p5 x4 b11
  refine Qaa (.iface 41 (.int .i64 10)) 7 rfl kj kj ?_
  refine Qag ?_
  refine hK10 _ _ ?_
  refine wp_seq_k fun K12 hK12=>?_
  refine Qad ?_
  refine Qaa (.pointer none) 21 rfl kj kj ?_
  refine Qaa (.agg (cat [ints .u8 (zaa 32 0),#[.int .i64 0],#[.int .i64 0],#[.int .i64 0],#[.slice none 0 0]])) 22 rfl kj kj ?_
  refine Qat (.tuple #[.slice none 0 0,.iface 41 (.int .i64 10)]) 9 #[.pointer none,.agg (cat [ints .u8 (zaa 32 0),#[.int .i64 0],#[.int .i64 0],#[.int .i64 0],#[.slice none 0 0]])] 23 rfl kj kj ((Qm9 (zaa 32 0) (qZ (n:=32)) 0 0 0 none 0 0) _) fun W6 e6=>?_
  have x6:Ext w W6:=zar x5 e6
  refine Qaa (.tuple #[.slice none 0 0,.iface 41 (.int .i64 10)]) 20 rfl kj kj ?_
  refine Qaa (.slice none 0 0) 24 rfl kj kj ?_
  refine Qaa (.iface 41 (.int .i64 10)) 25 rfl kj kj ?_
  refine Qaa (.slice none 0 0) 8 rfl kj kj ?_
  refine Qaa (.iface 41 (.int .i64 10)) 9 rfl kj kj ?_
  refine Qag ?_
  refine hK12 _ _ ?_
  refine wp_seq_k fun K13 hK13=>?_
  refine Qad ?_
  refine Qaa (.iface 41 (.int .i64 10)) 26 rfl kj kj ?_
  refine Qat (.bool true) 10 #[.iface 41 (.int .i64 10),.int .i64 10] 27 rfl kj kj ((is10) _) fun W7 e7=>?_
  have x7:Ext w W7:=zar x6 e7
  refine Qaa (.bool true) 28 rfl kj kj ?_
  refine Qaa (.iface 41 (.int .i64 10)) 29 rfl kj kj ?_
  refine Qat (.bool true) 10 #[.iface 41 (.int .i64 10),.int .i64 10] 30 rfl kj kj ((is10) _) fun W8 e8=>?_
  have x8:Ext w W8:=zar x7 e8
  refine Qaa (.bool true) 31 rfl kj kj ?_
  refine Qaa (.bool true) 32 rfl kj kj ?_
  refine Qaa (.pointer none) 33 rfl kj kj ?_
  refine Qaa (.agg (ints .u8 (zaa 32 0))) 34 rfl kj kj ?_
  refine Qaa (.int .i64 n) 35 rfl kj kj ?_
  refine Qaa (.agg (ints .u8 (zaa 32 0))) 36 rfl kj kj ?_
  refine Qat (.iface 41 (.int .i64 10)) 7 #[.pointer none,.agg (ints .u8 (zaa 32 0)),.int .i64 n,.agg (ints .u8 (zaa 32 0)),.int .i64 1,.int .i64 0] 37 rfl kj kj ((QlN (zaa 32 0) (zaa 32 0) (qZ (n:=32)) (qZ (n:=32)) n 1 0) _) fun W9 e9=>?_
  have x9:Ext w W9:=zar x8 e9
  refine Qat (.bool true) 10 #[.iface 41 (.int .i64 10),.int .i64 10] 38 rfl kj kj ((is10) _) fun W10 e10=>?_
  have x10:Ext w W10:=zar x9 e10
  refine Qaa (.bool true) 39 rfl kj kj ?_
  refine Qaa (.bool true) 40 rfl kj kj ?_
  refine Qaa (.pointer none) 41 rfl kj kj ?_
  refine Qat (.slice none 0 0) 12 #[.pointer none] 42 rfl kj kj ((Qk5) _) fun W11 e11=>?_
  have x11:Ext w W11:=zar x10 e11
  refine Qaa (.int .i64 0) 43 rfl kj kj ?_
  refine Qaa (.bool true) 44 rfl kj kj ?_
  refine Qaa (.bool true) 45 rfl kj kj ?_
  refine Qaa (.bool true) 46 rfl kj kj ?_
  refine Qaa (.pointer none) 47 rfl kj kj ?_
  refine Qat (.int .i64 0) 13 #[.pointer none] 48 rfl kj kj ((Ql0) _) fun W12 e12=>?_
  have x12:Ext w W12:=zar x11 e12
  refine Qaa (.bool true) 49 rfl kj kj ?_
  refine Qaa (.bool true) 50 rfl kj kj ?_
  refine Qaa (.bool true) 51 rfl kj kj ?_
  refine Qaa (.pointer none) 52 rfl kj kj ?_
  refine Qaa (.int .i64 n) 53 rfl kj kj ?_
  refine Qat (.bool false) 14 #[.pointer none,.int .i64 n] 54 rfl kj kj ((QlE n) _) fun W13 e13=>?_
  have x13:Ext w W13:=zar x12 e13
  refine Qaa (.bool true) 55 rfl kj kj ?_
  refine Qaa (.bool true) 56 rfl kj kj ?_
  refine Qaa (.bool true) 4 rfl kj kj ?_
  refine Qag ?_
  refine hK13 _ _ ?_
  refine wp_ret ?_
  exact (show bodyPost _ _ _ .ret _ _ from ret1 (.bool true) rfl (Qa0 kj) ⟨rfl,x13⟩)
end Pk
end
section
namespace Auto
open Go Go.RowKit Go.WideShapes
open Rely
section
variable {H : Type} {enc : TypeId × Value → H} {P : Program} {W w : World} {r : Reach} {base b0 : Nat} {sp : Nat → Bool} {held : Bool}
end
end Auto
end
section
namespace Auto
open Go Go.RowKit
open Rely
theorem Qd5 {P : Program} {w:World}:∀ (laid:List (String×DataW Unit)) (ps:List MemPlace) (n:String) (d:DataW Unit),DataW.LaidVars P w laid ps→(n,d)∈laid →
    ∃ g t cs fuel p,P.globalNamed n=some g∧(P.globals[g]?).map (·.type)=some t∧w.var? P n=some cs∧DataW.trod (fun _=>()) P w 0 (fun _=>true) false fuel t cs.toList=some (d,p)∧∀ x∈MemPlace.row ⟨g,0,none⟩ cs.size,x∈ps
  | [],_,_,_,_,h=>by cases h
  | (n0,d0)::r,ps,n,d,⟨g,t,cs,fuel,p,q,h1,h2,h3,h4,h5,h6⟩,h=>by
    subst h6
    rcases zad.1 h with h | h
    · cases h
      exact ⟨g,t,cs,fuel,p,h1,h2,h3,h4,fun x hx=>zaf _ (zaf _ hx)⟩
    · obtain ⟨g',t',cs',fuel',p',a,b,c,e,f⟩:=Qd5 r q n d h5 h
      exact ⟨g',t',cs',fuel',p',a,b,c,e,fun x hx=>List.mem_append_right _ (f x hx)⟩
theorem Qex {P : Program} {w:World} {laid:List (String×DataW Unit)} {n:String} {k:IntKind} {zs:List Int} {g:Nat} {t e:TypeId} {m:Nat} (h:laidMet P laid w) (hm:(n,Lib.tabData k zs)∈laid)
    (hg:P.globalNamed n=some g) (hty:(P.globals[g]?).map (·.type)=some t) (ht:P.underlying t=some (.array m e)) (he:P.underlying e=some (.int k)) (hce:P.cellsOf e=1) (hct:P.cellsOf t=m) (h0:0<zs.length) :
    ∃ t,w.heap[g]? = some (.cells (ints k zs) t):=by
  obtain ⟨ps,hL,-,hC⟩:=h
  obtain ⟨g',t',cs,fuel,p,hg',ht',hvar,hd,hin⟩:=Qd5 _ _ _ _ hL hm
  obtain rfl:=Option.some.inj (hg.symm.trans hg')
  obtain rfl:=Option.some.inj (hty.symm.trans ht')
  have hcs:=Lib.cells_of_tab ht he hce hct hd
  have hsz:0<cs.size:=by rw [←zag,hcs,zah]; exact h0
  obtain ⟨⟨c,t2,hc⟩,-⟩:=hC g 0 (hin _ (List.mem_map.2 ⟨0,zai.2 hsz,rfl⟩))
  unfold World.var? at hvar
  rw [hg] at hvar
  simp only [zaj,hc,Option.some.injEq] at hvar
  subst hvar
  refine ⟨t2,hc.trans ?_⟩
  rw [show c=ints k zs from by rw [ints,←hcs]]
end Auto
end
section
namespace Auto
open Go Go.RowKit
open Rely
theorem chunks {α : Type} (m:Nat):∀ (n:Nat) (cs:List α),cs.length=n*m→((zak n).map fun i=>(cs.drop (i*m)).take m).flatten=cs
  | 0,cs,h=>by
    have:cs=[]:=List.length_eq_zero_iff.1 (by simpa using h)
    subst this; rfl
  | n+1,cs,h=>by
    have hm:(n+1)*m=n*m+m:=Nat.succ_mul n m
    rw [List.range_succ,List.map_append,List.flatten_append]
    have ih:=chunks m n (cs.take (n*m)) (by rw [List.length_take]; omega)
    have e1:((zak n).map fun i=>(cs.drop (i*m)).take m)=((zak n).map fun i=>((cs.take (n*m)).drop (i*m)).take m):=by
      refine List.map_congr_left fun i hi=>?_
      rw [zai] at hi
      have h1:(i+1)*m≤n*m:=Nat.mul_le_mul_right m hi
      rw [Nat.succ_mul] at h1
      rw [List.drop_take,List.take_take,Nat.min_eq_left (by omega)]
    rw [e1,ih]
    simp only [List.map_cons,List.map_nil,List.flatten_cons,List.flatten_nil,List.append_nil]
    have e2:(cs.drop (n*m)).take m=cs.drop (n*m):=List.take_of_length_le (by rw [List.length_drop]; omega)
    rw [e2,List.take_append_drop]
theorem QfD {H : Type} {enc:TypeId×Value→H} {P:Program} {w:World} {base:Nat} {sp:Nat→Bool} {held:Bool} {fuel:Nat} {t e i:TypeId} {n m:Nat} {k:IntKind} {cs:List Value} {zss:List (List Int)} {p:List MemPlace}
    (ht:P.underlying t=some (.array n e)) (he:P.underlying e=some (.array m i)) (hi:P.underlying i=some (.int k)) (hci:P.cellsOf i=1) (hce:P.cellsOf e=m) (hct:P.cellsOf t=n*m)
    (h:DataW.trod enc P w base sp held fuel t cs=some (.agg (zss.map (Lib.tabData k)),p)):cs=zss.flatten.map fun z=>Value.int k z:=by
  cases fuel with
  | zero=>simp [DataW.trod] at h
  | succ fuel =>
    simp only [DataW.trod,ht,hce,hct] at h
    split at h
    · rename_i hl
      obtain ⟨xs,hm,hx⟩:=Option.map_eq_some_iff.1 h
      have hxs:xs.map (·.1)=zss.map fun z=>(Lib.tabData k z:DataW H):=by
        have:=congrArg Prod.fst hx
        simpa using this
      have hxl:xs.length=n:=by simpa using Lib.mapM_length hm
      have hzl:zss.length=n:=by
        have:=congrArg List.length hxs
        simp at this
        omega
      rw [←chunks m n cs (by simpa using hl),List.map_flatten]
      congr 1
      apply List.ext_getElem?
      intro j
      by_cases hj:j<n
      · obtain ⟨b,hb,hf⟩:=Lib.mapM_at hm j j (by simp [hj])
        have h2:(xs.map (·.1))[j]? = some b.1:=by simp [hb]
        rw [hxs,zal,zam (by omega),zan,Option.some.injEq] at h2
        have h3:=Lib.cells_of_tab he hi hci hce (zs:=zss[j]'(by omega)) (p:=b.2) (by rw [h2]; exact hf)
        rw [zal,zal,List.getElem?_range hj,zam (by omega),zan,zan,h3]
      · rw [zao (by simp; omega),zao (by simp; omega)]
    · cases h
theorem Qjl {P : Program} {w:World} {laid:List (String×DataW Unit)} {n:String} {k:IntKind} {zss:List (List Int)} {g:Nat} {t e i:TypeId} {m1 m:Nat} (h:laidMet P laid w) (hm:(n,DataW.agg (zss.map (Lib.tabData k)))∈laid)
    (hg:P.globalNamed n=some g) (hty:(P.globals[g]?).map (·.type)=some t) (ht:P.underlying t=some (.array m1 e)) (he:P.underlying e=some (.array m i)) (hi:P.underlying i=some (.int k)) (hci:P.cellsOf i=1) (hce:P.cellsOf e=m) (hct:P.cellsOf t=m1*m) (h0:0<zss.flatten.length) :
    ∃ t,w.heap[g]? = some (.cells (ints k zss.flatten) t):=by
  obtain ⟨ps,hL,-,hC⟩:=h
  obtain ⟨g',t',cs,fuel,p,hg',ht',hvar,hd,hin⟩:=Qd5 _ _ _ _ hL hm
  obtain rfl:=Option.some.inj (hg.symm.trans hg')
  obtain rfl:=Option.some.inj (hty.symm.trans ht')
  have hcs:=QfD ht he hi hci hce hct hd
  have hsz:0<cs.size:=by rw [←zag,hcs,zah]; exact h0
  obtain ⟨⟨c,t2,hc⟩,-⟩:=hC g 0 (hin _ (List.mem_map.2 ⟨0,zai.2 hsz,rfl⟩))
  unfold World.var? at hvar
  rw [hg] at hvar
  simp only [zaj,hc,Option.some.injEq] at hvar
  subst hvar
  refine ⟨t2,hc.trans ?_⟩
  rw [show c=ints k zss.flatten from by rw [ints,←hcs]]
end Auto
end
end Go.Proofs.YtioglfpngaddfaaDoor
