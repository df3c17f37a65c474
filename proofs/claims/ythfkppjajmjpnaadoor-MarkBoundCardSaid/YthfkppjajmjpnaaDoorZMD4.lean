/- Texts of this claim, joined (MD4). -/
import Derived.Test.YthfkppjajmjpnaaDoorZMD3

set_option linter.unusedVariables false
set_option linter.unusedSimpArgs false
set_option maxHeartbeats 4000000
section
namespace Go.Proofs.YthfkppjajmjpnaaDoor.Sha
open Go Go.RowKit
open Rely Auto Own
theorem QdR (ws : List Wd) {i n:Nat} (h:ws.length=n) (hi:i≤n):((ws.map wv).take i).length=i:=by rw [List.length_take,List.length_map]; omega
theorem Qj4 (ws : List Wd) {i n:Nat} (h:ws.length=n) (hi:i<n):(ws.map wv).take (i+1)=(ws.map wv).take i++[wv (wget ws i)]:=by
  have hl:i<(ws.map wv).length:=by rw [List.length_map]; omega
  rw [List.take_succ_eq_append_getElem hl]
  have:(ws.map wv)[i]=wv (wget ws i):=by
    unfold wget
    rw [List.getElem_map,List.getD_eq_getElem?_getD,List.getElem?_eq_getElem (by omega)]
    rfl
  rw [this]
theorem Qde (ws : List Wd) (i k:Nat) (hk:k<i):nth ((ws.map wv).take i) k=wv (wget ws k):=by
  rw [←QbK]
  unfold nth
  rw [List.getD_eq_getElem?_getD,List.getD_eq_getElem?_getD,List.getElem?_take,if_pos hk]
theorem u32s (x : Int) (h:0≤x∧x<4294967296):IntKind.u32.wrap x=x:=by rw [QdX]; omega
theorem QkI (t : List Int):∃ q,(padT t).length=64*q:=by
  refine ⟨(t.length+(1+QaP t.length+8))/64,?_⟩
  rw [padT,List.length_append,Qdf]
  unfold QaP; omega
theorem QdU (P : List Int) (m k:Nat) (h:k<64):nth ((P.drop (64*m)).take 64) k=nth P (64*m+k):=by
  unfold nth
  rw [List.getD_eq_getElem?_getD,List.getD_eq_getElem?_getD,List.getElem?_take,if_pos h,List.getElem?_drop]
theorem Qmy {P b:List Int} {m j:Nat} (hP:Qax P) (hb:b=(P.drop (64*m)).take 64) (hj:j<16) :
    IntKind.u32.wrap (nth P (64*m+4*j)*16777216+nth P (64*m+4*j+1)*65536+nth P (64*m+4*j+2)*256+nth P (64*m+4*j+3))=wv (wget (w64 b) j):=by
  rw [Qhs b j hj,hb,QdU _ _ _ (by omega),QdU _ _ _ (by omega),QdU _ _ _ (by omega),QdU _ _ _ (by omega),be4,QeU,QdX]
  simp only [Nat.add_assoc]
  congr 1
  omega
theorem Qhe {t : List Int} (h:Qax t):Qax (padT t):=fun x hx=>by
  rcases List.mem_append.1 hx with e | e
  · exact h x e
  · exact Qeh _ x e
def shf (l : List Int) (j:Nat):List Int:=l.take (j+1)++(l.drop j).take (7-j)
theorem Qh4 {a b c d e f g h:Int} {j:Nat} (hj:j≤7):(shf [a,b,c,d,e,f,g,h] j).length=8:=by
  rcases (show j=0∨j=1∨j=2∨j=3∨j=4∨j=5∨j=6∨j=7 by omega) with rfl | rfl | rfl | rfl | rfl | rfl | rfl | rfl <;> rfl
theorem Qkt {a b c d e f g h:Int} {j:Nat} (h0:0<j) (hj:j≤7):(shf [a,b,c,d,e,f,g,h] j).set j (nth (shf [a,b,c,d,e,f,g,h] j) (j-1))=shf [a,b,c,d,e,f,g,h] (j-1):=by
  rcases (show j=1∨j=2∨j=3∨j=4∨j=5∨j=6∨j=7 by omega) with rfl | rfl | rfl | rfl | rfl | rfl | rfl <;> rfl
set_option maxRecDepth 20000 in
theorem Qga (t : List Int) (v:Value) (B:Nat) (w:World) (hlen:t.length≤900000000) (htb:Qax t) (hr:RdK .u8 B t v w):Calls Tryd.prog 34 #[v] w (Ret w (.agg (ints .u8 (dig t)))):=by
 obtain ⟨a_t,c_t,rfl,-⟩:=id hr
 refine enter 252 [(0,.slice a_t t.length c_t)] Tryd.func34 rfl rfl kj rfl <| sgC fun K1 hK1=>Qal (ints .u8 (List.replicate 32 0)) 28 2 rfl kj kj fun g2 W1 l2 e1 r2_1=>?_
 have x1:=Ext.tr (Rely.Ext.refl w) e1
 refine sgN hK1 <| sgC fun K3 hK3=>Qa0 (fun v W'=>(fun v W=>∃ g,v=.slice (some ⟨g,0,none⟩) 8 8∧W1.heap.size≤g∧W.heap[g]? = some (.cells (ints .u64 QaQ) 78)) v W'∧Ext W1 W') 53 #[] 23 rfl kj kj ((Qmx _).mono (by rintro e w' ⟨v,rfl,e1,hv⟩; exact ⟨v,rfl,hv,e1⟩)) fun vv4 W2 hh4=>?_
 obtain ⟨hv4,e2⟩:=hh4
 have x2:=Ext.tr x1 e2
 obtain ⟨gd5,rfl,ld5,rd5_2⟩:=hv4
 have b5:=qT x1.size ld5
 refine sg 1 kj <| sgN hK3 <| sgC fun K6 hK6=>Qal (ints .u32 (List.replicate 8 0)) 77 4 rfl kj kj fun g7 W3 l7 e3 r7_3=>?_
 have b7:=qT x2.size l7
 refine sgN hK6 <| wp_seq_k fun K8 hK8=>sgB kj <| wp_block <| Qay (fun (s1:Nat)=>[(0,.slice a_t t.length c_t),(2,.pointer (some ⟨g2,0,none⟩)),(3,.slice (some ⟨gd5,0,none⟩) 8 8),(4,.pointer (some ⟨g7,0,none⟩)),(5,.int .i64 ((s1:Nat):Int))]) (fun (s1:Nat) W=>(s1≤8)∧(W.heap[g7]? = some (.cells (ints .u32 (fill (S0.l.map wv) 8 s1)) 77))∧(Qa8 [g7] W3 W)∧(Ext w W)) (fun (s1:Nat)=>8-s1) 0 ⟨kj,kj,kj,kj,kj,trivial⟩ ⟨(Nat.zero_le _),(Qbc r7_3 (Qdt (S0.l.map wv) 8).symm),(Qa8.refl [g7] W3),(Ext.tr x2 e3)⟩ fun s1 X1 V1 hI1=>?_
 obtain ⟨i,hs1⟩:∃ z,z=s1:=⟨_,rfl⟩
 subst hs1
 obtain ⟨hi,q7_1,kk1,xx1⟩:=hI1
 replace hi:i≤8:=hi
 replace q7_1:V1.heap[g7]? = some (.cells (ints .u32 (fill (S0.l.map wv) 8 i)) 77):=q7_1
 replace kk1:Qa8 [g7] W3 V1:=kk1
 replace xx1:Ext w V1:=xx1
 have q4:=kk1
 refine wp_seq_k fun K10 hK10=>sgB kj <| Qaq (t:=decide (((i:Nat):Int)<8)) kj (fun c12=>?_) (fun c12=>?_)
 ·skip
  have hlt25:i<8:=by have:=of_decide_eq_true c12; omega
  refine wp_skip <| hK10 _ _ <| wp_seq_k fun K13 hK13=>wp_block <| Qad <| sg 3 kj <| Qaa (.pointer (some ⟨gd5,i,none⟩)) 31 rfl kj (QbI 74 _ _ .i64 (i) gd5 8 8 78 rfl kj kj kj kj (by omega)) <| Qaa (.int .u64 (nth (QaQ) i)) 32 rfl kj (Qaf 78 _ gd5 i 78 _ (.int .u64 (nth (QaQ) i)) _ (Qa8.row q4 (Qae rd5_2 e3) (Qb3 (Qaw rd5_2 l7) QbE)) rfl kj (QaZ _ _ _ (Nat.lt_of_lt_of_eq (by omega) (show QaQ.length=8 from rfl).symm)) kj) <| Qaa (.int .u64 (nth QaQ i/4294967296)) 33 rfl kj (Qag (u:=.int .u64 (IntKind.u64.wrap (Int.tdiv ((nth (QaQ) i)) (4294967296)))) kj (congrArg (Value.int .u64) ((by decide +kernel:∀ i:Fin 8,IntKind.u64.wrap (Int.tdiv (nth QaQ i.val) 4294967296)=nth QaQ i.val/4294967296) ⟨i,hlt25⟩))) <| Qaa (.int .u32 (nth (S0.l.map wv) i)) 34 rfl kj (Qag (u:=.int .u32 (IntKind.u32.wrap (nth QaQ i/4294967296))) kj (congrArg (Value.int .u32) ((by decide +kernel:∀ i:Fin 8,IntKind.u32.wrap (nth QaQ i.val/4294967296)=nth (S0.l.map wv) i.val) ⟨i,hlt25⟩))) ?_
  refine Qaa (.pointer (some ⟨g7,i,none⟩)) 35 rfl kj (QaV _ _ _ .i64 (i) _ 8 76 rfl kj kj kj kj (by omega)) <| Qav g7 _ (ints .u32 ((fill (S0.l.map wv) 8 i).set i (nth (S0.l.map wv) i))) 77 q7_1 rfl kj (Qbi 76 _ _ g7 i 77 _ _ q7_1 rfl kj kj kj (Nat.lt_of_lt_of_eq (by omega) (Qb1 (n:=8) rfl hi).symm)) fun W5 p5 r7_5=>?_
  have x5:=Puts.ext p5 xx1 b7
  refine Qaj <| hK13 _ _ <| Qad <| sg 1 kj <| Qaa (.int .i64 ((i+1:Nat):Int)) 27 rfl kj (Qag (u:=.int .i64 (IntKind.i64.wrap (((i:Nat):Int)+1))) kj (congrArg (Value.int .i64) (i64n _ _ (by omega) (by omega)))) <| sg 1 kj <| Qaj ?_
  repeat (first | with_reducible refine goX1 ?_ | with_reducible refine goX2 ?_ | with_reducible refine goX3 ?_)
  exact Qap (i+1) ⟨kj,kj,kj,kj,kj,trivial⟩ ⟨(by omega),(Qbc r7_5 (QcL rfl hlt25)),(Qa8.puts q4 p5 (.inl (by simp))),x5⟩ (by show 8-(i+1)<8-i; omega)
 ·skip
  have heq25:i=8:=by have:=of_decide_eq_false c12; omega
  have r7_4_14:V1.heap[g7]? = some (.cells (ints .u32 ([wv S0.a,wv S0.b,wv S0.c,wv S0.d,wv S0.e,wv S0.f,wv S0.g,wv S0.h])) 77):=Qbc q7_1 (by rw [heq25]; rfl)
  refine wp_exit <| hK8 _ _ <| sgC fun K15 hK15=>Qa0 (fun v W'=>(OwnN .u32 76 V1.heap.size (KK.map wv)) v W'∧Ext V1 W') 54 #[] 36 rfl kj kj ((Qks _).mono (by rintro e w' ⟨v,rfl,e1,hv⟩; exact ⟨v,rfl,hv,e1⟩)) fun vv16 W5 hh16=>?_
  obtain ⟨hv16,e5⟩:=hh16
  have x5:=Ext.tr xx1 e5
  obtain ⟨am17,cm17,rfl,-⟩:=id (OwnN.rd hv16)
  have nb17_7:(.slice am17 ((KK.map wv).length) cm17:Value).ownBlock≠some g7:=OwnN.nb hv16 (Qa5 r7_4_14)
  refine sg 1 kj <| sgN hK15 <| sgC fun K18 hK18=>sg 1 kj ?_
  have r7_5:=(Qae r7_4_14 e5)
  refine Qa0 (fun v W'=>(OwnN .u8 5 W5.heap.size (padT t)) v W'∧Ext W5 W') 55 #[.slice a_t t.length c_t,.int .i64 64,.int .i64 8] 38 rfl kj kj ((padC t _ _ _ hlen (RdK.ext hr x5)).mono (by rintro e w' ⟨v,rfl,e1,hv⟩; exact ⟨v,rfl,hv,e1⟩)) fun vv19 W6 hh19=>?_
  obtain ⟨hv19,e6⟩:=hh19
  obtain ⟨am20,cm20,rfl,-⟩:=id (OwnN.rd hv19)
  have nb20_7:(.slice am20 ((padT t).length) cm20:Value).ownBlock≠some g7:=OwnN.nb hv19 (Qa5 r7_5)
  refine sg 1 kj <| sgN hK18 <| wp_seq_k fun K21 hK21=>sgB kj <| wp_block ?_
  obtain ⟨q,hq⟩:=QkI t
  have hPl:(padT t).length≤900000200:=by rw [padT,List.length_append,Qdf]; unfold QaP; omega
  have hPb:Qax (padT t):=Qhe htb
  refine Qay (fun (s2:Nat)=>[(2,.pointer (some ⟨g2,0,none⟩)),(4,.pointer (some ⟨g7,0,none⟩)),(6,.slice am17 ((KK.map wv).length) cm17),(7,.slice am20 ((padT t).length) cm20),(8,.int .i64 ((64*s2:Nat):Int))]) (fun (s2:Nat) W=>(s2≤q)∧(W.heap[g7]? = some (.cells (ints .u32 ([wv (absorb S0 (padT t) s2).a,wv (absorb S0 (padT t) s2).b,wv (absorb S0 (padT t) s2).c,wv (absorb S0 (padT t) s2).d,wv (absorb S0 (padT t) s2).e,wv (absorb S0 (padT t) s2).f,wv (absorb S0 (padT t) s2).g,wv (absorb S0 (padT t) s2).h])) 77))∧(Qa8 [g7] W6 W)∧(Ext w W)) (fun (s2:Nat)=>q-s2) 0 ⟨kj,kj,kj,kj,kj,trivial⟩ ⟨(Nat.zero_le _),(Qae r7_5 e6),(Qa8.refl [g7] W6),(Ext.tr x5 e6)⟩ fun s2 X2 V2 hI2=>?_
  obtain ⟨m,hs2⟩:∃ z,z=s2:=⟨_,rfl⟩
  subst hs2
  obtain ⟨hm,q7_2,kk2,xx2⟩:=hI2
  replace hm:m≤q:=hm
  replace q7_2:V2.heap[g7]? = some (.cells (ints .u32 ([wv (absorb S0 (padT t) m).a,wv (absorb S0 (padT t) m).b,wv (absorb S0 (padT t) m).c,wv (absorb S0 (padT t) m).d,wv (absorb S0 (padT t) m).e,wv (absorb S0 (padT t) m).f,wv (absorb S0 (padT t) m).g,wv (absorb S0 (padT t) m).h])) 77):=q7_2
  replace kk2:Qa8 [g7] W6 V2:=kk2
  replace xx2:Ext w V2:=xx2
  have q7:=kk2
  refine wp_seq_k fun K23 hK23=>sgC fun K24 hK24=>sg 3 kj <| Qaa (.bool (decide (m<q))) 42 rfl kj (Qag (u:=.bool (decide (((64*m:Nat):Int)<(((padT t).length:Nat):Int)))) kj (congrArg Value.bool (by rw [hq]; exact decide_eq_decide.2 (by omega)))) ?_
  refine sgN hK24 <| Qaq (t:=decide (m<q)) kj (fun c25=>?_) (fun c25=>?_)
  ·skip
   have hlt42:m<q:=by have:=of_decide_eq_true c25; omega
   obtain ⟨b,hb⟩:∃ z,z=((padT t).drop (64*m)).take 64:=⟨_,rfl⟩
   obtain ⟨s,hs⟩:∃ z,z=absorb S0 (padT t) m:=⟨_,rfl⟩
   have r7_7_26:V2.heap[g7]? = some (.cells (ints .u32 ([wv s.a,wv s.b,wv s.c,wv s.d,wv s.e,wv s.f,wv s.g,wv s.h])) 77):=Qbc q7_2 (by rw [hs])
   refine wp_skip <| hK23 _ _ <| wp_seq_k fun K27 hK27=>wp_block <| sgB kj <| wp_seq_k fun K29 hK29=>sgB kj <| wp_block <| Qay (fun (s3:Nat×Value)=>[(2,.pointer (some ⟨g2,0,none⟩)),(4,.pointer (some ⟨g7,0,none⟩)),(6,.slice am17 ((KK.map wv).length) cm17),(7,.slice am20 ((padT t).length) cm20),(8,.int .i64 ((64*m:Nat):Int)),(9,s3.2),(10,.int .i64 ((s3.1:Nat):Int))]) (fun (s3:Nat×Value) W=>(s3.1≤16)∧(OwnN .u32 76 V2.heap.size (((w64 b).map wv).take s3.1) s3.2 W)∧(Ext V2 W)∧(Ext w W)) (fun (s3:Nat×Value)=>16-s3.1) (0,(.slice none 0 0)) ⟨kj,kj,kj,kj,kj,kj,kj,trivial⟩ ⟨(Nat.zero_le _),(QbM _ _ _ _),(Rely.Ext.refl V2),xx2⟩ fun s3 X3 V3 hI3=>?_
   obtain ⟨j,u⟩:=s3
   obtain ⟨hj,hu,kk3,xx3⟩:=hI3
   replace hj:j≤16:=hj
   replace hu:OwnN .u32 76 V2.heap.size (((w64 b).map wv).take j) u V3:=hu
   replace kk3:Ext V2 V3:=kk3
   replace xx3:Ext w V3:=xx3
   have e8:=kk3
   have f32_7:=(OwnN.keepsL hv19 q7 (Qfo nb20_7 Qg7))
   have f33_8:=(f32_7.ext e8)
   have hnp_31:(padT t).length=64*q:=hq
   obtain ⟨gcp_31,ocp_31,hap_31,hlp_31,hcp_31⟩:=QaO (OwnN.rd f33_8) (by rw [hnp_31]; omega)
   refine wp_seq_k fun K34 hK34=>sgB kj <| Qaq (t:=decide (((j:Nat):Int)<16)) kj (fun c36=>?_) (fun c36=>?_)
   ·skip
    have hlt46:j<16:=by have:=of_decide_eq_true c36; omega
    refine wp_skip <| hK34 _ _ <| wp_seq_k fun K37 hK37=>wp_block <| sgC fun K38 hK38=>sg 2 kj <| Qaa (.int .i64 ((4*j:Nat):Int)) 51 rfl kj (Qag (u:=.int .i64 (IntKind.i64.wrap (4*((j:Nat):Int)))) kj (congrArg (Value.int .i64) (i64n _ _ (by omega) (by omega)))) <| Qaa (.int .i64 (((64*m)+(4*j):Nat):Int)) 52 rfl kj (Qag (u:=.int .i64 (IntKind.i64.wrap (((64*m:Nat):Int)+((4*j:Nat):Int)))) kj (congrArg (Value.int .i64) (i64n _ _ (by omega) (by omega)))) <| sg 1 kj <| sgN hK38 ?_
    refine QaY 31 [⟨none,[(9,none)]⟩,⟨none,[(7,none)]⟩,⟨none,[(11,none)]⟩,⟨none,[(54,some 1),(55,some 2)]⟩,⟨none,[(56,some 3)]⟩,⟨none,[(57,some 4)]⟩,⟨none,[(58,some 5)]⟩,⟨none,[(7,none)]⟩,⟨none,[(11,none)]⟩,⟨none,[(61,some 8)]⟩,⟨none,[(60,some 7),(62,some 9)]⟩,⟨none,[(63,some 10)]⟩,⟨none,[(64,some 11)]⟩,⟨none,[(65,some 12)]⟩,⟨none,[(59,some 6),(66,some 13)]⟩,⟨none,[(7,none)]⟩,⟨none,[(11,none)]⟩,⟨none,[(69,some 16)]⟩,⟨none,[(68,some 15),(70,some 17)]⟩,⟨none,[(71,some 18)]⟩,⟨none,[(72,some 19)]⟩,⟨none,[(73,some 20)]⟩,⟨none,[(67,some 14),(74,some 21)]⟩,⟨none,[(7,none)]⟩,⟨none,[(11,none)]⟩,⟨none,[(77,some 24)]⟩,⟨none,[(76,some 23),(78,some 25)]⟩,⟨none,[(79,some 26)]⟩,⟨none,[(80,some 27)]⟩,⟨none,[(75,some 22),(81,some 28)]⟩,⟨none,[(82,some 29)]⟩] kj kj fun F hF=>Qa2 (Qam _) (u) kj kj (fun W=>by kernel_rfl) <| Qa2 (Qam _) (.slice am20 ((padT t).length) cm20) kj kj (fun W=>by kernel_rfl) <| Qa2 (Qam _) (.int .i64 (((64*m)+(4*j):Nat):Int)) kj kj (fun W=>by kernel_rfl) <| Qa2 (Qam _) (.pointer (some ⟨gcp_31,ocp_31+((64*m)+(4*j)),none⟩)) kj kj (fun W=>(Qa1 59 _ _ .i64 ((64*m)+(4*j)) gcp_31 ocp_31 ((padT t).length) cm20 5 am20 _ hap_31 rfl rfl kj kj kj kj (Nat.lt_of_lt_of_eq (show (64*m)+(4*j)<64*q by omega) hnp_31.symm))) <| QaM (Qam _) (.int .u8 (nth (padT t) (((64*m)+(4*j))))) kj kj (fun W hR=>(Qai 5 _ _ (.int .u8 (nth (padT t) (((64*m)+(4*j))))) ((Below.cell (Rely.Ext.trans (Qaz _) hR) hlp_31).trans (hcp_31 ((64*m)+(4*j)) (Nat.lt_of_lt_of_eq (show (64*m)+(4*j)<64*q by omega) hnp_31.symm))) rfl kj kj)) <| Qa2 (Qam _) (.int .u32 (nth (padT t) (64*m+4*j))) kj kj (fun W=>(Qag (u:=.int .u32 (IntKind.u32.wrap (nth (padT t) (((64*m)+(4*j)))))) kj (congrArg (Value.int .u32) (u32s _ (by have:=hPb.nth (64*m+4*j); omega))))) ?_
    refine Qa2 (Qam _) (.int .u32 (nth (padT t) (64*m+4*j)*16777216)) kj kj (fun W=>(Qag (u:=.int .u32 (IntKind.u32.wrap ((nth (padT t) (64*m+4*j))*16777216))) kj (congrArg (Value.int .u32) (u32s _ (by have:=hPb.nth (64*m+4*j); omega))))) ?_
    refine Qa2 (Qam _) (.slice am20 ((padT t).length) cm20) kj kj (fun W=>by kernel_rfl) <| Qa2 (Qam _) (.int .i64 (((64*m)+(4*j):Nat):Int)) kj kj (fun W=>by kernel_rfl) <| Qa2 (Qam _) (.int .i64 ((((64*m)+(4*j))+1:Nat):Int)) kj kj (fun W=>(Qag (u:=.int .i64 (IntKind.i64.wrap ((((64*m)+(4*j):Nat):Int)+1))) kj (congrArg (Value.int .i64) (i64n _ _ (by omega) (by omega))))) <| Qa2 (Qam _) (.pointer (some ⟨gcp_31,ocp_31+(((64*m)+(4*j))+1),none⟩)) kj kj (fun W=>(Qa1 59 _ _ .i64 (((64*m)+(4*j))+1) gcp_31 ocp_31 ((padT t).length) cm20 5 am20 _ hap_31 rfl rfl kj kj kj kj (Nat.lt_of_lt_of_eq (show ((64*m)+(4*j))+1<64*q by omega) hnp_31.symm))) <| QaM (Qam _) (.int .u8 (nth (padT t) ((((64*m)+(4*j))+1)))) kj kj (fun W hR=>(Qai 5 _ _ (.int .u8 (nth (padT t) ((((64*m)+(4*j))+1)))) ((Below.cell (Rely.Ext.trans (Qaz _) hR) hlp_31).trans (hcp_31 (((64*m)+(4*j))+1) (Nat.lt_of_lt_of_eq (show ((64*m)+(4*j))+1<64*q by omega) hnp_31.symm))) rfl kj kj)) <| Qa2 (Qam _) (.int .u32 (nth (padT t) (64*m+4*j+1))) kj kj (fun W=>(Qag (u:=.int .u32 (IntKind.u32.wrap (nth (padT t) ((((64*m)+(4*j))+1))))) kj (congrArg (Value.int .u32) (u32s _ (by have:=hPb.nth (64*m+4*j+1); omega))))) ?_
    refine Qa2 (Qam _) (.int .u32 (nth (padT t) (64*m+4*j+1)*65536)) kj kj (fun W=>(Qag (u:=.int .u32 (IntKind.u32.wrap ((nth (padT t) (64*m+4*j+1))*65536))) kj (congrArg (Value.int .u32) (u32s _ (by have:=hPb.nth (64*m+4*j+1); omega))))) ?_
    refine Qa2 (Qam _) (.int .u32 (nth (padT t) (64*m+4*j)*16777216+nth (padT t) (64*m+4*j+1)*65536)) kj kj (fun W=>(Qag (u:=.int .u32 (IntKind.u32.wrap ((nth (padT t) (64*m+4*j)*16777216)+(nth (padT t) (64*m+4*j+1)*65536)))) kj (congrArg (Value.int .u32) (u32s _ (by have:=hPb.nth (64*m+4*j); have:=hPb.nth (64*m+4*j+1); omega))))) ?_
    refine Qa2 (Qam _) (.slice am20 ((padT t).length) cm20) kj kj (fun W=>by kernel_rfl) <| Qa2 (Qam _) (.int .i64 (((64*m)+(4*j):Nat):Int)) kj kj (fun W=>by kernel_rfl) <| Qa2 (Qam _) (.int .i64 ((((64*m)+(4*j))+2:Nat):Int)) kj kj (fun W=>(Qag (u:=.int .i64 (IntKind.i64.wrap ((((64*m)+(4*j):Nat):Int)+2))) kj (congrArg (Value.int .i64) (i64n _ _ (by omega) (by omega))))) <| Qa2 (Qam _) (.pointer (some ⟨gcp_31,ocp_31+(((64*m)+(4*j))+2),none⟩)) kj kj (fun W=>(Qa1 59 _ _ .i64 (((64*m)+(4*j))+2) gcp_31 ocp_31 ((padT t).length) cm20 5 am20 _ hap_31 rfl rfl kj kj kj kj (Nat.lt_of_lt_of_eq (show ((64*m)+(4*j))+2<64*q by omega) hnp_31.symm))) <| QaM (Qam _) (.int .u8 (nth (padT t) ((((64*m)+(4*j))+2)))) kj kj (fun W hR=>(Qai 5 _ _ (.int .u8 (nth (padT t) ((((64*m)+(4*j))+2)))) ((Below.cell (Rely.Ext.trans (Qaz _) hR) hlp_31).trans (hcp_31 (((64*m)+(4*j))+2) (Nat.lt_of_lt_of_eq (show ((64*m)+(4*j))+2<64*q by omega) hnp_31.symm))) rfl kj kj)) <| Qa2 (Qam _) (.int .u32 (nth (padT t) (64*m+4*j+2))) kj kj (fun W=>(Qag (u:=.int .u32 (IntKind.u32.wrap (nth (padT t) ((((64*m)+(4*j))+2))))) kj (congrArg (Value.int .u32) (u32s _ (by have:=hPb.nth (64*m+4*j+2); omega))))) ?_
    refine Qa2 (Qam _) (.int .u32 (nth (padT t) (64*m+4*j+2)*256)) kj kj (fun W=>(Qag (u:=.int .u32 (IntKind.u32.wrap ((nth (padT t) (64*m+4*j+2))*256))) kj (congrArg (Value.int .u32) (u32s _ (by have:=hPb.nth (64*m+4*j+2); omega))))) ?_
    refine Qa2 (Qam _) (.int .u32 (nth (padT t) (64*m+4*j)*16777216+nth (padT t) (64*m+4*j+1)*65536+nth (padT t) (64*m+4*j+2)*256)) kj kj (fun W=>(Qag (u:=.int .u32 (IntKind.u32.wrap ((nth (padT t) (64*m+4*j)*16777216+nth (padT t) (64*m+4*j+1)*65536)+(nth (padT t) (64*m+4*j+2)*256)))) kj (congrArg (Value.int .u32) (u32s _ (by have:=hPb.nth (64*m+4*j); have:=hPb.nth (64*m+4*j+1); have:=hPb.nth (64*m+4*j+2); omega))))) ?_
    refine Qa2 (Qam _) (.slice am20 ((padT t).length) cm20) kj kj (fun W=>by kernel_rfl) <| Qa2 (Qam _) (.int .i64 (((64*m)+(4*j):Nat):Int)) kj kj (fun W=>by kernel_rfl) <| Qa2 (Qam _) (.int .i64 ((((64*m)+(4*j))+3:Nat):Int)) kj kj (fun W=>(Qag (u:=.int .i64 (IntKind.i64.wrap ((((64*m)+(4*j):Nat):Int)+3))) kj (congrArg (Value.int .i64) (i64n _ _ (by omega) (by omega))))) <| Qa2 (Qam _) (.pointer (some ⟨gcp_31,ocp_31+(((64*m)+(4*j))+3),none⟩)) kj kj (fun W=>(Qa1 59 _ _ .i64 (((64*m)+(4*j))+3) gcp_31 ocp_31 ((padT t).length) cm20 5 am20 _ hap_31 rfl rfl kj kj kj kj (Nat.lt_of_lt_of_eq (show ((64*m)+(4*j))+3<64*q by omega) hnp_31.symm))) <| QaM (Qam _) (.int .u8 (nth (padT t) ((((64*m)+(4*j))+3)))) kj kj (fun W hR=>(Qai 5 _ _ (.int .u8 (nth (padT t) ((((64*m)+(4*j))+3)))) ((Below.cell (Rely.Ext.trans (Qaz _) hR) hlp_31).trans (hcp_31 (((64*m)+(4*j))+3) (Nat.lt_of_lt_of_eq (show ((64*m)+(4*j))+3<64*q by omega) hnp_31.symm))) rfl kj kj)) <| Qa2 (Qam _) (.int .u32 (nth (padT t) (64*m+4*j+3))) kj kj (fun W=>(Qag (u:=.int .u32 (IntKind.u32.wrap (nth (padT t) ((((64*m)+(4*j))+3))))) kj (congrArg (Value.int .u32) (u32s _ (by have:=hPb.nth (64*m+4*j+3); omega))))) ?_
    refine Qa2 (Qam _) (.int .u32 (wv (wget (w64 b) j))) kj kj (fun W=>(Qag (u:=.int .u32 (IntKind.u32.wrap ((nth (padT t) (64*m+4*j)*16777216+nth (padT t) (64*m+4*j+1)*65536+nth (padT t) (64*m+4*j+2)*256)+(nth (padT t) (64*m+4*j+3))))) kj (congrArg (Value.int .u32) (Qmy hPb hb hlt46)))) <| QgN (Qam _) (ints .u32 ([(wv (wget (w64 b) j))])) 76 1 (NewS.stable _ _ _ _) kj kj (fun W=>by kernel_rfl) <| Qda (hF _ fun W9 e9=>?_)
    simp only [List.nil_append,List.cons_append,List.take_succ_cons,List.take_zero,List.drop_succ_cons,List.drop_zero,finE,up]
    intro vv39 hv39
    clear hF
    obtain ⟨g39,rfl,l39,r39_9⟩:=hv39
    have b39:=qT xx3.size l39
    have y7_9:=(Rely.Ext.trans e8 e9)
    refine QaC (k:=.u32) (T:=76) (xs:=((w64 b).map wv).take j) (ys:=[(wv (wget (w64 b) j))]) (V:=V2) 4 (.tmp 53) (.tmp 83) 79 rfl kj kj (by decide) 84 rfl kj kj kj (hu.ext e9) (QaJ (xs:=[(wv (wget (w64 b) j))]) (n:=1) rfl r39_9 (Qa5 r39_9) (show 1≤maxLen from by decide)) (by rw [QdR _ (QbG b) (by omega)]; show _+1≤_; omega) y7_9 fun z1 W10 f41 y10 l10=>?_
    have x10:=Ext.low (Ext.tr xx3 e9) l10 xx2.size
    refine sg 1 kj <| Qaj <| hK37 _ _ <| Qad <| sg 1 kj <| Qaa (.int .i64 ((j+1:Nat):Int)) 48 rfl kj (Qag (u:=.int .i64 (IntKind.i64.wrap (((j:Nat):Int)+1))) kj (congrArg (Value.int .i64) (i64n _ _ (by omega) (by omega)))) <| sg 1 kj <| Qaj ?_
    repeat (first | with_reducible refine goX1 ?_ | with_reducible refine goX2 ?_ | with_reducible refine goX3 ?_)
    exact Qap ((j+1),z1) ⟨kj,kj,kj,kj,kj,kj,kj,trivial⟩ ⟨(by omega),(by rw [Qj4 _ (QbG b) (by omega)]; exact f41),y10,x10⟩ (by show 16-(j+1)<16-j; omega)
   ·skip
    have heq46:j=16:=by have:=of_decide_eq_false c36; omega
    subst heq46
    refine wp_exit <| hK29 _ _ <| wp_seq_k fun K43 hK43=>sgB kj <| wp_block <| Qay (fun (s4:Nat×Value)=>[(2,.pointer (some ⟨g2,0,none⟩)),(4,.pointer (some ⟨g7,0,none⟩)),(6,.slice am17 ((KK.map wv).length) cm17),(7,.slice am20 ((padT t).length) cm20),(8,.int .i64 ((64*m:Nat):Int)),(9,s4.2),(12,.int .i64 ((s4.1:Nat):Int))]) (fun (s4:Nat×Value) W=>(16≤s4.1)∧(s4.1≤64)∧(OwnN .u32 76 V2.heap.size (((w64 b).map wv).take s4.1) s4.2 W)∧(Below V2.heap.size V3 W)∧(Ext w W)) (fun (s4:Nat×Value)=>64-s4.1) (16,u) ⟨kj,kj,kj,kj,kj,kj,kj,trivial⟩ ⟨(qR _),(show (16:Nat)≤64 by decide),hu,(RowKit.Below.refl _ V3),xx3⟩ fun s4 X4 V4 hI4=>?_
    obtain ⟨i,u⟩:=s4
    obtain ⟨h16,hi,hu,kk4,xx4⟩:=hI4
    replace h16:16≤i:=h16
    replace hi:i≤64:=hi
    replace hu:OwnN .u32 76 V2.heap.size (((w64 b).map wv).take i) u V4:=hu
    replace kk4:Below V2.heap.size V3 V4:=kk4
    replace xx4:Ext w V4:=xx4
    have l9:=kk4
    obtain ⟨a9,c9,rfl,-⟩:=id (OwnN.rd hu)
    have hnw_45:(((w64 b).map wv).take i).length=i:=(QdR _ (QbG b) hi)
    obtain ⟨gcw_45,ocw_45,haw_45,hlw_45,hcw_45⟩:=QaO (OwnN.rd hu) (by rw [hnw_45]; omega)
    refine wp_seq_k fun K46 hK46=>sgB kj <| Qaq (t:=decide (((i:Nat):Int)<64)) kj (fun c48=>?_) (fun c48=>?_)
    ·skip
     have hlt86:i<64:=by have:=of_decide_eq_true c48; omega
     refine wp_skip <| hK46 _ _ <| wp_seq_k fun K49 hK49=>wp_block <| sgC fun K50 hK50=>sg 2 kj <| Qaa (.int .i64 ((i-15:Nat):Int)) 91 rfl kj (Qag (u:=.int .i64 (IntKind.i64.wrap (((i:Nat):Int)-15))) kj (congrArg (Value.int .i64) (i64n _ _ (by omega) (by omega)))) <| Qaa (.pointer (some ⟨gcw_45,ocw_45+(i-15),none⟩)) 92 rfl kj (Qa1 79 _ _ .i64 (i-15) gcw_45 ocw_45 ((((w64 b).map wv).take i).length) c9 76 a9 _ haw_45 rfl rfl kj kj kj kj (Nat.lt_of_lt_of_eq (show i-15<i by omega) hnw_45.symm)) <| Qaa (.int .u32 (wv (wget (w64 b) (i-15)))) 93 rfl kj (Qai 76 _ _ (.int .u32 (wv (wget (w64 b) (i-15)))) ((hcw_45 (i-15) (Nat.lt_of_lt_of_eq (show i-15<i by omega) hnw_45.symm)).trans (congrArg (fun z=>some (Value.int .u32 z)) (Qde (w64 b) i (i-15) (by omega)))) rfl kj kj) <| sg 1 kj ?_
     refine sgN hK50 <| sgC fun K51 hK51=>sg 2 kj <| Qaa (.int .i64 ((i-2:Nat):Int)) 96 rfl kj (Qag (u:=.int .i64 (IntKind.i64.wrap (((i:Nat):Int)-2))) kj (congrArg (Value.int .i64) (i64n _ _ (by omega) (by omega)))) <| Qaa (.pointer (some ⟨gcw_45,ocw_45+(i-2),none⟩)) 97 rfl kj (Qa1 79 _ _ .i64 (i-2) gcw_45 ocw_45 ((((w64 b).map wv).take i).length) c9 76 a9 _ haw_45 rfl rfl kj kj kj kj (Nat.lt_of_lt_of_eq (show i-2<i by omega) hnw_45.symm)) <| Qaa (.int .u32 (wv (wget (w64 b) (i-2)))) 98 rfl kj (Qai 76 _ _ (.int .u32 (wv (wget (w64 b) (i-2)))) ((hcw_45 (i-2) (Nat.lt_of_lt_of_eq (show i-2<i by omega) hnw_45.symm)).trans (congrArg (fun z=>some (Value.int .u32 z)) (Qde (w64 b) i (i-2) (by omega)))) rfl kj kj) <| sg 1 kj <| sgN hK51 <| QaY 31 [⟨none,[(9,none)]⟩,⟨none,[(14,none)]⟩,⟨none,[(100,some 1)]⟩,⟨none,[(14,none)]⟩,⟨none,[(102,some 3)]⟩,⟨none,[(101,some 2),(103,some 4)]⟩,⟨none,[(14,none)]⟩,⟨none,[(105,some 6)]⟩,⟨none,[(104,some 5),(106,some 7)]⟩,⟨none,[(9,none)]⟩,⟨none,[(12,none)]⟩,⟨none,[(109,some 10)]⟩,⟨none,[(108,some 9),(110,some 11)]⟩,⟨none,[(111,some 12)]⟩,⟨none,[(107,some 8),(112,some 13)]⟩,⟨none,[(13,none)]⟩,⟨none,[(114,some 15)]⟩,⟨none,[(13,none)]⟩,⟨none,[(116,some 17)]⟩,⟨none,[(115,some 16),(117,some 18)]⟩,⟨none,[(13,none)]⟩,⟨none,[(119,some 20)]⟩,⟨none,[(118,some 19),(120,some 21)]⟩,⟨none,[(113,some 14),(121,some 22)]⟩,⟨none,[(9,none)]⟩,⟨none,[(12,none)]⟩,⟨none,[(124,some 25)]⟩,⟨none,[(123,some 24),(125,some 26)]⟩,⟨none,[(126,some 27)]⟩,⟨none,[(122,some 23),(127,some 28)]⟩,⟨none,[(128,some 29)]⟩] kj kj fun F hF=>Qa2 (Qam _) (.slice a9 ((((w64 b).map wv).take i).length) c9) kj kj (fun W=>by kernel_rfl) ?_
     refine Qa2 (Qam _) (.int .u32 (wv (wget (w64 b) (i-2)))) kj kj (fun W=>by kernel_rfl) <| QcQ (Qam _) (.int .u32 (wv (rr (wget (w64 b) (i-2)) 17))) 56 #[.int .u32 (wv (wget (w64 b) (i-2))),.int .u64 17] kj kj (fun W=>by kernel_rfl) (fun W hR=>(QeB (wget (w64 b) (i-2)) 17 (17) (by decide) (by decide) (by decide)) W) <| Qa2 (Qam _) (.int .u32 (wv (wget (w64 b) (i-2)))) kj kj (fun W=>by kernel_rfl) <| QcQ (Qam _) (.int .u32 (wv (rr (wget (w64 b) (i-2)) 19))) 56 #[.int .u32 (wv (wget (w64 b) (i-2))),.int .u64 19] kj kj (fun W=>by kernel_rfl) (fun W hR=>(QeB (wget (w64 b) (i-2)) 19 (19) (by decide) (by decide) (by decide)) W) <| Qa2 (Qam _) (.int .u32 (wv (((rr (wget (w64 b) (i-2)) 17))^^^((rr (wget (w64 b) (i-2)) 19))))) kj kj (fun W=>(Qag kj (congrArg (Value.int .u32) (w_xor _ _)))) <| Qa2 (Qam _) (.int .u32 (wv (wget (w64 b) (i-2)))) kj kj (fun W=>by kernel_rfl) <| Qa2 (Qam _) (.int .u32 (wv (((wget (w64 b) (i-2)))>>>10))) kj kj (fun W=>(Qbk .shr _ _ _ _ .u32 .u64 _ _ _ rfl kj kj (QcO _ _ _ _ _ _ (by decide) (Qf3 _ _ 10 rfl (by decide))))) <| Qa2 (Qam _) (.int .u32 (wv (((((rr (wget (w64 b) (i-2)) 17))^^^((rr (wget (w64 b) (i-2)) 19))))^^^((((wget (w64 b) (i-2)))>>>10))))) kj kj (fun W=>(Qag kj (congrArg (Value.int .u32) (w_xor _ _)))) <| Qa2 (Qam _) (.slice a9 ((((w64 b).map wv).take i).length) c9) kj kj (fun W=>by kernel_rfl) <| Qa2 (Qam _) (.int .i64 ((i:Nat):Int)) kj kj (fun W=>by kernel_rfl) ?_
     refine Qa2 (Qam _) (.int .i64 ((i-7:Nat):Int)) kj kj (fun W=>(Qag (u:=.int .i64 (IntKind.i64.wrap (((i:Nat):Int)-7))) kj (congrArg (Value.int .i64) (i64n _ _ (by omega) (by omega))))) <| Qa2 (Qam _) (.pointer (some ⟨gcw_45,ocw_45+(i-7),none⟩)) kj kj (fun W=>(Qa1 79 _ _ .i64 (i-7) gcw_45 ocw_45 ((((w64 b).map wv).take i).length) c9 76 a9 _ haw_45 rfl rfl kj kj kj kj (Nat.lt_of_lt_of_eq (show i-7<i by omega) hnw_45.symm))) <| QaM (Qam _) (.int .u32 (wv (wget (w64 b) (i-7)))) kj kj (fun W hR=>(Qai 76 _ _ (.int .u32 (wv (wget (w64 b) (i-7)))) (((Below.cell (Rely.Ext.trans (Qaz _) hR) hlw_45).trans (hcw_45 (i-7) (Nat.lt_of_lt_of_eq (show i-7<i by omega) hnw_45.symm))).trans (congrArg (fun z=>some (Value.int .u32 z)) (Qde (w64 b) i (i-7) (by omega)))) rfl kj kj)) <| Qa2 (Qam _) (.int .u32 (wv (((((((rr (wget (w64 b) (i-2)) 17))^^^((rr (wget (w64 b) (i-2)) 19))))^^^((((wget (w64 b) (i-2)))>>>10))))+((wget (w64 b) (i-7)))))) kj kj (fun W=>(Qag kj (congrArg (Value.int .u32) (Qcc _ _)))) <| Qa2 (Qam _) (.int .u32 (wv (wget (w64 b) (i-15)))) kj kj (fun W=>by kernel_rfl) <| QcQ (Qam _) (.int .u32 (wv (rr (wget (w64 b) (i-15)) 7))) 56 #[.int .u32 (wv (wget (w64 b) (i-15))),.int .u64 7] kj kj (fun W=>by kernel_rfl) (fun W hR=>(QeB (wget (w64 b) (i-15)) 7 (7) (by decide) (by decide) (by decide)) W) <| Qa2 (Qam _) (.int .u32 (wv (wget (w64 b) (i-15)))) kj kj (fun W=>by kernel_rfl) <| QcQ (Qam _) (.int .u32 (wv (rr (wget (w64 b) (i-15)) 18))) 56 #[.int .u32 (wv (wget (w64 b) (i-15))),.int .u64 18] kj kj (fun W=>by kernel_rfl) (fun W hR=>(QeB (wget (w64 b) (i-15)) 18 (18) (by decide) (by decide) (by decide)) W) <| Qa2 (Qam _) (.int .u32 (wv (((rr (wget (w64 b) (i-15)) 7))^^^((rr (wget (w64 b) (i-15)) 18))))) kj kj (fun W=>(Qag kj (congrArg (Value.int .u32) (w_xor _ _)))) <| Qa2 (Qam _) (.int .u32 (wv (wget (w64 b) (i-15)))) kj kj (fun W=>by kernel_rfl) ?_
     refine Qa2 (Qam _) (.int .u32 (wv (((wget (w64 b) (i-15)))>>>3))) kj kj (fun W=>(Qbk .shr _ _ _ _ .u32 .u64 _ _ _ rfl kj kj (QcO _ _ _ _ _ _ (by decide) (Qf3 _ _ 3 rfl (by decide))))) <| Qa2 (Qam _) (.int .u32 (wv (((((rr (wget (w64 b) (i-15)) 7))^^^((rr (wget (w64 b) (i-15)) 18))))^^^((((wget (w64 b) (i-15)))>>>3))))) kj kj (fun W=>(Qag kj (congrArg (Value.int .u32) (w_xor _ _)))) <| Qa2 (Qam _) (.int .u32 (wv (((((((((rr (wget (w64 b) (i-2)) 17))^^^((rr (wget (w64 b) (i-2)) 19))))^^^((((wget (w64 b) (i-2)))>>>10))))+((wget (w64 b) (i-7)))))+((((((rr (wget (w64 b) (i-15)) 7))^^^((rr (wget (w64 b) (i-15)) 18))))^^^((((wget (w64 b) (i-15)))>>>3))))))) kj kj (fun W=>(Qag kj (congrArg (Value.int .u32) (Qcc _ _)))) <| Qa2 (Qam _) (.slice a9 ((((w64 b).map wv).take i).length) c9) kj kj (fun W=>by kernel_rfl) <| Qa2 (Qam _) (.int .i64 ((i:Nat):Int)) kj kj (fun W=>by kernel_rfl) <| Qa2 (Qam _) (.int .i64 ((i-16:Nat):Int)) kj kj (fun W=>(Qag (u:=.int .i64 (IntKind.i64.wrap (((i:Nat):Int)-16))) kj (congrArg (Value.int .i64) (i64n _ _ (by omega) (by omega))))) <| Qa2 (Qam _) (.pointer (some ⟨gcw_45,ocw_45+(i-16),none⟩)) kj kj (fun W=>(Qa1 79 _ _ .i64 (i-16) gcw_45 ocw_45 ((((w64 b).map wv).take i).length) c9 76 a9 _ haw_45 rfl rfl kj kj kj kj (Nat.lt_of_lt_of_eq (show i-16<i by omega) hnw_45.symm))) <| QaM (Qam _) (.int .u32 (wv (wget (w64 b) (i-16)))) kj kj (fun W hR=>(Qai 76 _ _ (.int .u32 (wv (wget (w64 b) (i-16)))) (((Below.cell (Rely.Ext.trans (Qaz _) hR) hlw_45).trans (hcw_45 (i-16) (Nat.lt_of_lt_of_eq (show i-16<i by omega) hnw_45.symm))).trans (congrArg (fun z=>some (Value.int .u32 z)) (Qde (w64 b) i (i-16) (by omega)))) rfl kj kj)) <| Qa2 (Qam _) (.int .u32 (wv (((((((((((rr (wget (w64 b) (i-2)) 17))^^^((rr (wget (w64 b) (i-2)) 19))))^^^((((wget (w64 b) (i-2)))>>>10))))+((wget (w64 b) (i-7)))))+((((((rr (wget (w64 b) (i-15)) 7))^^^((rr (wget (w64 b) (i-15)) 18))))^^^((((wget (w64 b) (i-15)))>>>3))))))+((wget (w64 b) (i-16)))))) kj kj (fun W=>(Qag kj (congrArg (Value.int .u32) (Qcc _ _)))) <| QgN (Qam _) (ints .u32 ([(wv (((((((((((rr (wget (w64 b) (i-2)) 17))^^^((rr (wget (w64 b) (i-2)) 19))))^^^((((wget (w64 b) (i-2)))>>>10))))+((wget (w64 b) (i-7)))))+((((((rr (wget (w64 b) (i-15)) 7))^^^((rr (wget (w64 b) (i-15)) 18))))^^^((((wget (w64 b) (i-15)))>>>3))))))+((wget (w64 b) (i-16)))))])) 76 1 (NewS.stable _ _ _ _) kj kj (fun W=>by kernel_rfl) ?_
     refine Qda (hF _ fun W10 e10=>?_)
     simp only [List.nil_append,List.cons_append,List.take_succ_cons,List.take_zero,List.drop_succ_cons,List.drop_zero,finE,up]
     intro vv52 hv52
     clear hF
     have x10:=Ext.tr xx4 e10
     obtain ⟨g52,rfl,l52,r52_10⟩:=hv52
     have b52:=qT xx4.size l52
     have y7_9:=(Ext.low e8 l9 (Rely.Ext.refl V2).size)
     refine QaC (k:=.u32) (T:=76) (xs:=((w64 b).map wv).take i) (ys:=[(wv (((((((((((rr (wget (w64 b) (i-2)) 17))^^^((rr (wget (w64 b) (i-2)) 19))))^^^((((wget (w64 b) (i-2)))>>>10))))+((wget (w64 b) (i-7)))))+((((((rr (wget (w64 b) (i-15)) 7))^^^((rr (wget (w64 b) (i-15)) 18))))^^^((((wget (w64 b) (i-15)))>>>3))))))+((wget (w64 b) (i-16)))))]) (V:=V2) 4 (.tmp 99) (.tmp 129) 79 rfl kj kj (by decide) 130 rfl kj kj kj (hu.ext e10) (QaJ (xs:=[(wv (((((((((((rr (wget (w64 b) (i-2)) 17))^^^((rr (wget (w64 b) (i-2)) 19))))^^^((((wget (w64 b) (i-2)))>>>10))))+((wget (w64 b) (i-7)))))+((((((rr (wget (w64 b) (i-15)) 7))^^^((rr (wget (w64 b) (i-15)) 18))))^^^((((wget (w64 b) (i-15)))>>>3))))))+((wget (w64 b) (i-16)))))]) (n:=1) rfl r52_10 (Qa5 r52_10) (show 1≤maxLen from by decide)) (by rw [QdR _ (QbG b) (by omega)]; show _+1≤_; omega) (Rely.Ext.trans y7_9 e10) fun z2 W11 f54 y11 l11=>?_
     have x11:=Ext.low x10 l11 xx2.size
     refine sg 1 kj <| Qaj <| hK49 _ _ <| Qad <| sg 1 kj <| Qaa (.int .i64 ((i+1:Nat):Int)) 88 rfl kj (Qag (u:=.int .i64 (IntKind.i64.wrap (((i:Nat):Int)+1))) kj (congrArg (Value.int .i64) (i64n _ _ (by omega) (by omega)))) <| sg 1 kj <| Qaj ?_
     repeat (first | with_reducible refine goX1 ?_ | with_reducible refine goX2 ?_ | with_reducible refine goX3 ?_)
     exact Qap ((i+1),z2) ⟨kj,kj,kj,kj,kj,kj,kj,trivial⟩ ⟨(by omega),(by omega),(by rw [Qj4 _ (QbG b) (by omega),Qgs b i h16 hlt86]; exact f54),(RowKit.Below.trans (RowKit.Below.trans l9 (RowKit.Below.mono e10 y7_9.size)) l11),x11⟩ (by show 64-(i+1)<64-i; omega)
    ·skip
     have heq86:i=64:=by have:=of_decide_eq_false c48; omega
     subst heq86
     have nb9_4:(.slice a9 ((((w64 b).map wv).take 64).length) c9:Value).ownBlock≠some g7:=OwnN.nb hu (Qa5 r7_7_26)
     refine wp_exit <| hK43 _ _ <| sgC fun K56 hK56=>?_
     have f58_7:=(OwnN.keepsL (hv16.ext e6) q7 (Qfo nb17_7 Qg7))
     have f60_9:=(OwnN.low (n:=0) (f58_7.ext e8) f58_7 l9)
     have r7_8:=(Qae r7_7_26 e8)
     have r7_9:=(Qbb l9 r7_8 (Qa5 r7_7_26))
     refine Qaa (.agg (ints .u32 ([wv s.a,wv s.b,wv s.c,wv s.d,wv s.e,wv s.f,wv s.g,wv s.h]))) 131 rfl kj (QaA 77 _ g7 77 _ _ r7_9 rfl kj kj (isz (n:=8) kj kj)) <| Qal (ints .u32 (List.replicate 8 0)) 77 15 rfl kj kj fun g62 W10 l62 e10 r62_10=>?_
     have x10:=Ext.tr xx4 e10
     have b62:=qT xx4.size l62
     refine Qav g62 _ (ints .u32 ([wv s.a,wv s.b,wv s.c,wv s.d,wv s.e,wv s.f,wv s.g,wv s.h])) 77 r62_10 rfl kj (Qat 77 _ _ g62 77 _ _ r62_10 rfl kj kj (isz (n:=8) kj kj) (eqsz (n:=8) ((Qac _ _).trans (qZ (n:=8))) kj) (Qau _ _)) fun W11 p11 r62_11=>?_
     have x11:=Puts.ext p11 x10 b62
     refine sgN hK56 <| wp_seq_k fun K63 hK63=>sgB kj <| wp_block ?_
     have nb6_15:(.slice am17 ((KK.map wv).length) cm17:Value).ownBlock≠some g62:=fun e=>by have h1:=OwnN.lt f60_9 e; have h2:=l62; omega
     have nb7_15:(.slice am20 ((padT t).length) cm20:Value).ownBlock≠some g62:=fun e=>by have h1:=OwnN.lt (OwnN.low (n:=0) f33_8 f32_7 l9) e; have h2:=l62; omega
     have nb9_15:(.slice a9 ((((w64 b).map wv).take 64).length) c9:Value).ownBlock≠some g62:=fun e=>by have h1:=OwnN.lt hu e; have h2:=l62; omega
     refine Qay (fun (s5:Nat)=>[(2,.pointer (some ⟨g2,0,none⟩)),(4,.pointer (some ⟨g7,0,none⟩)),(6,.slice am17 ((KK.map wv).length) cm17),(7,.slice am20 ((padT t).length) cm20),(8,.int .i64 ((64*m:Nat):Int)),(9,.slice a9 ((((w64 b).map wv).take 64).length) c9),(15,.pointer (some ⟨g62,0,none⟩)),(16,.int .i64 ((s5:Nat):Int))]) (fun (s5:Nat) W=>(s5≤64)∧(W.heap[g62]? = some (.cells (ints .u32 ([wv (rnds KK (w64 b) s s5).a,wv (rnds KK (w64 b) s s5).b,wv (rnds KK (w64 b) s s5).c,wv (rnds KK (w64 b) s s5).d,wv (rnds KK (w64 b) s s5).e,wv (rnds KK (w64 b) s s5).f,wv (rnds KK (w64 b) s s5).g,wv (rnds KK (w64 b) s s5).h])) 77))∧(Qa8 [g62] W11 W)∧(Ext w W)) (fun (s5:Nat)=>64-s5) 0 ⟨kj,kj,kj,kj,kj,kj,kj,kj,trivial⟩ ⟨(Nat.zero_le _),r62_11,(Qa8.refl [g62] W11),x11⟩ fun s5 X5 V5 hI5=>?_
     obtain ⟨i,hs5⟩:∃ z,z=s5:=⟨_,rfl⟩
     subst hs5
     obtain ⟨hi,q62_5,kk5,xx5⟩:=hI5
     replace hi:i≤64:=hi
     replace q62_5:V5.heap[g62]? = some (.cells (ints .u32 ([wv (rnds KK (w64 b) s i).a,wv (rnds KK (w64 b) s i).b,wv (rnds KK (w64 b) s i).c,wv (rnds KK (w64 b) s i).d,wv (rnds KK (w64 b) s i).e,wv (rnds KK (w64 b) s i).f,wv (rnds KK (w64 b) s i).g,wv (rnds KK (w64 b) s i).h])) 77):=q62_5
     replace kk5:Qa8 [g62] W11 V5:=kk5
     replace xx5:Ext w V5:=xx5
     have q12:=kk5
     have hnk_65:(KK.map wv).length=64:=(List.length_map ..)
     obtain ⟨gck_65,ock_65,hak_65,hlk_65,hck_65⟩:=QaO (OwnN.rd (OwnN.keepsL ((f60_9.ext e10).puts p11 nb6_15) q12 (Qfo nb6_15 Qg7))) (by rw [hnk_65]; omega)
     have hnw_69:(((w64 b).map wv).take 64).length=64:=(QdR _ (QbG b) (qR _))
     obtain ⟨gcw_69,ocw_69,haw_69,hlw_69,hcw_69⟩:=QaO (OwnN.rd (OwnN.keepsL ((hu.ext e10).puts p11 nb9_15) q12 (Qfo nb9_15 Qg7))) (by rw [hnw_69]; omega)
     refine wp_seq_k fun K73 hK73=>sgB kj <| Qaq (t:=decide (((i:Nat):Int)<64)) kj (fun c75=>?_) (fun c75=>?_)
     ·skip
      have hlt133:i<64:=by have:=of_decide_eq_true c75; omega
      refine wp_skip <| hK73 _ _ <| wp_seq_k fun K76 hK76=>wp_block <| wp_seq_k fun K77 hK77=>QaY 36 [⟨none,[(15,none)]⟩,⟨none,[(136,some 0)]⟩,⟨none,[(15,none)]⟩,⟨none,[(138,some 2)]⟩,⟨none,[(139,some 3)]⟩,⟨none,[(15,none)]⟩,⟨none,[(141,some 5)]⟩,⟨none,[(142,some 6)]⟩,⟨none,[(140,some 4),(143,some 7)]⟩,⟨none,[(15,none)]⟩,⟨none,[(145,some 9)]⟩,⟨none,[(146,some 10)]⟩,⟨none,[(144,some 8),(147,some 11)]⟩,⟨none,[(137,some 1),(148,some 12)]⟩,⟨none,[(15,none)]⟩,⟨none,[(150,some 14)]⟩,⟨none,[(15,none)]⟩,⟨none,[(152,some 16)]⟩,⟨none,[(151,some 15),(153,some 17)]⟩,⟨none,[(15,none)]⟩,⟨none,[(155,some 19)]⟩,⟨none,[(156,some 20)]⟩,⟨none,[(15,none)]⟩,⟨none,[(158,some 22)]⟩,⟨none,[(157,some 21),(159,some 23)]⟩,⟨none,[(154,some 18),(160,some 24)]⟩,⟨none,[(149,some 13),(161,some 25)]⟩,⟨none,[(6,none)]⟩,⟨none,[(16,none)]⟩,⟨none,[(163,some 27),(164,some 28)]⟩,⟨none,[(165,some 29)]⟩,⟨none,[(162,some 26),(166,some 30)]⟩,⟨none,[(9,none)]⟩,⟨none,[(16,none)]⟩,⟨none,[(168,some 32),(169,some 33)]⟩,⟨none,[(170,some 34)]⟩] kj kj fun F hF=>Qa2 (Qam _) (.pointer (some ⟨g62,7,none⟩)) kj kj (fun W=>by kernel_rfl) <| QaM (Qam _) (.int .u32 (wv (rnds KK (w64 b) s i).h)) kj kj (fun W hR=>(Qaf 76 _ g62 7 77 _ (.int .u32 (wv (rnds KK (w64 b) s i).h)) _ (Qae (Qae q62_5 (Qaz _)) hR) rfl kj kj kj)) <| Qa2 (Qam _) (.pointer (some ⟨g62,4,none⟩)) kj kj (fun W=>by kernel_rfl) <| QaM (Qam _) (.int .u32 (wv (rnds KK (w64 b) s i).e)) kj kj (fun W hR=>(Qaf 76 _ g62 4 77 _ (.int .u32 (wv (rnds KK (w64 b) s i).e)) _ (Qae (Qae q62_5 (Qaz _)) hR) rfl kj kj kj)) ?_
      refine QcQ (Qam _) (.int .u32 (wv (rr ((rnds KK (w64 b) s i).e) 6))) 56 #[.int .u32 (wv (rnds KK (w64 b) s i).e),.int .u64 6] kj kj (fun W=>by kernel_rfl) (fun W hR=>(QeB ((rnds KK (w64 b) s i).e) 6 (6) (by decide) (by decide) (by decide)) W) <| Qa2 (Qam _) (.pointer (some ⟨g62,4,none⟩)) kj kj (fun W=>by kernel_rfl) <| QaM (Qam _) (.int .u32 (wv (rnds KK (w64 b) s i).e)) kj kj (fun W hR=>(Qaf 76 _ g62 4 77 _ (.int .u32 (wv (rnds KK (w64 b) s i).e)) _ (Qae (Qae q62_5 (Qaz _)) hR) rfl kj kj kj)) <| QcQ (Qam _) (.int .u32 (wv (rr ((rnds KK (w64 b) s i).e) 11))) 56 #[.int .u32 (wv (rnds KK (w64 b) s i).e),.int .u64 11] kj kj (fun W=>by kernel_rfl) (fun W hR=>(QeB ((rnds KK (w64 b) s i).e) 11 (11) (by decide) (by decide) (by decide)) W) <| Qa2 (Qam _) (.int .u32 (wv (((rr ((rnds KK (w64 b) s i).e) 6))^^^((rr ((rnds KK (w64 b) s i).e) 11))))) kj kj (fun W=>(Qag kj (congrArg (Value.int .u32) (w_xor _ _)))) <| Qa2 (Qam _) (.pointer (some ⟨g62,4,none⟩)) kj kj (fun W=>by kernel_rfl) <| QaM (Qam _) (.int .u32 (wv (rnds KK (w64 b) s i).e)) kj kj (fun W hR=>(Qaf 76 _ g62 4 77 _ (.int .u32 (wv (rnds KK (w64 b) s i).e)) _ (Qae (Qae q62_5 (Qaz _)) hR) rfl kj kj kj)) <| QcQ (Qam _) (.int .u32 (wv (rr ((rnds KK (w64 b) s i).e) 25))) 56 #[.int .u32 (wv (rnds KK (w64 b) s i).e),.int .u64 25] kj kj (fun W=>by kernel_rfl) (fun W hR=>(QeB ((rnds KK (w64 b) s i).e) 25 (25) (by decide) (by decide) (by decide)) W) <| Qa2 (Qam _) (.int .u32 (wv (((((rr ((rnds KK (w64 b) s i).e) 6))^^^((rr ((rnds KK (w64 b) s i).e) 11))))^^^((rr ((rnds KK (w64 b) s i).e) 25))))) kj kj (fun W=>(Qag kj (congrArg (Value.int .u32) (w_xor _ _)))) <| Qa2 (Qam _) (.int .u32 (wv (((rnds KK (w64 b) s i).h)+((((((rr ((rnds KK (w64 b) s i).e) 6))^^^((rr ((rnds KK (w64 b) s i).e) 11))))^^^((rr ((rnds KK (w64 b) s i).e) 25))))))) kj kj (fun W=>(Qag kj (congrArg (Value.int .u32) (Qcc _ _)))) ?_
      refine Qa2 (Qam _) (.pointer (some ⟨g62,4,none⟩)) kj kj (fun W=>by kernel_rfl) <| QaM (Qam _) (.int .u32 (wv (rnds KK (w64 b) s i).e)) kj kj (fun W hR=>(Qaf 76 _ g62 4 77 _ (.int .u32 (wv (rnds KK (w64 b) s i).e)) _ (Qae (Qae q62_5 (Qaz _)) hR) rfl kj kj kj)) <| Qa2 (Qam _) (.pointer (some ⟨g62,5,none⟩)) kj kj (fun W=>by kernel_rfl) <| QaM (Qam _) (.int .u32 (wv (rnds KK (w64 b) s i).f)) kj kj (fun W hR=>(Qaf 76 _ g62 5 77 _ (.int .u32 (wv (rnds KK (w64 b) s i).f)) _ (Qae (Qae q62_5 (Qaz _)) hR) rfl kj kj kj)) <| Qa2 (Qam _) (.int .u32 (wv (((rnds KK (w64 b) s i).e)&&&((rnds KK (w64 b) s i).f)))) kj kj (fun W=>(Qag kj (congrArg (Value.int .u32) (QeA _ _)))) <| Qa2 (Qam _) (.pointer (some ⟨g62,4,none⟩)) kj kj (fun W=>by kernel_rfl) <| QaM (Qam _) (.int .u32 (wv (rnds KK (w64 b) s i).e)) kj kj (fun W hR=>(Qaf 76 _ g62 4 77 _ (.int .u32 (wv (rnds KK (w64 b) s i).e)) _ (Qae (Qae q62_5 (Qaz _)) hR) rfl kj kj kj)) <| Qa2 (Qam _) (.int .u32 (wv (~~~((rnds KK (w64 b) s i).e)))) kj kj (fun W=>(Qag kj (congrArg (Value.int .u32) (Qm3 _)))) <| Qa2 (Qam _) (.pointer (some ⟨g62,6,none⟩)) kj kj (fun W=>by kernel_rfl) <| QaM (Qam _) (.int .u32 (wv (rnds KK (w64 b) s i).g)) kj kj (fun W hR=>(Qaf 76 _ g62 6 77 _ (.int .u32 (wv (rnds KK (w64 b) s i).g)) _ (Qae (Qae q62_5 (Qaz _)) hR) rfl kj kj kj)) ?_
      refine Qa2 (Qam _) (.int .u32 (wv (((~~~((rnds KK (w64 b) s i).e)))&&&((rnds KK (w64 b) s i).g)))) kj kj (fun W=>(Qag kj (congrArg (Value.int .u32) (QeA _ _)))) <| Qa2 (Qam _) (.int .u32 (wv (((((rnds KK (w64 b) s i).e)&&&((rnds KK (w64 b) s i).f)))^^^((((~~~((rnds KK (w64 b) s i).e)))&&&((rnds KK (w64 b) s i).g)))))) kj kj (fun W=>(Qag kj (congrArg (Value.int .u32) (w_xor _ _)))) <| Qa2 (Qam _) (.int .u32 (wv (((((rnds KK (w64 b) s i).h)+((((((rr ((rnds KK (w64 b) s i).e) 6))^^^((rr ((rnds KK (w64 b) s i).e) 11))))^^^((rr ((rnds KK (w64 b) s i).e) 25))))))+((((((rnds KK (w64 b) s i).e)&&&((rnds KK (w64 b) s i).f)))^^^((((~~~((rnds KK (w64 b) s i).e)))&&&((rnds KK (w64 b) s i).g)))))))) kj kj (fun W=>(Qag kj (congrArg (Value.int .u32) (Qcc _ _)))) <| Qa2 (Qam _) (.slice am17 ((KK.map wv).length) cm17) kj kj (fun W=>by kernel_rfl) <| Qa2 (Qam _) (.int .i64 ((i:Nat):Int)) kj kj (fun W=>by kernel_rfl) <| Qa2 (Qam _) (.pointer (some ⟨gck_65,ock_65+i,none⟩)) kj kj (fun W=>(Qa1 79 _ _ .i64 i gck_65 ock_65 ((KK.map wv).length) cm17 76 am17 _ hak_65 rfl rfl kj kj kj kj (Nat.lt_of_lt_of_eq (show i<64 by omega) hnk_65.symm))) <| QaM (Qam _) (.int .u32 (wv (wget KK i))) kj kj (fun W hR=>(Qai 76 _ _ (.int .u32 (wv (wget KK i))) (((Below.cell (Rely.Ext.trans (Qaz _) hR) hlk_65).trans (hck_65 i (Nat.lt_of_lt_of_eq (show i<64 by omega) hnk_65.symm))).trans (congrArg (fun z=>some (Value.int .u32 z)) (QbK _ _))) rfl kj kj)) <| Qa2 (Qam _) (.int .u32 (wv (((((((rnds KK (w64 b) s i).h)+((((((rr ((rnds KK (w64 b) s i).e) 6))^^^((rr ((rnds KK (w64 b) s i).e) 11))))^^^((rr ((rnds KK (w64 b) s i).e) 25))))))+((((((rnds KK (w64 b) s i).e)&&&((rnds KK (w64 b) s i).f)))^^^((((~~~((rnds KK (w64 b) s i).e)))&&&((rnds KK (w64 b) s i).g)))))))+((wget KK i))))) kj kj (fun W=>(Qag kj (congrArg (Value.int .u32) (Qcc _ _)))) <| Qa2 (Qam _) (.slice a9 ((((w64 b).map wv).take 64).length) c9) kj kj (fun W=>by kernel_rfl) <| Qa2 (Qam _) (.int .i64 ((i:Nat):Int)) kj kj (fun W=>by kernel_rfl) ?_
      refine Qa2 (Qam _) (.pointer (some ⟨gcw_69,ocw_69+i,none⟩)) kj kj (fun W=>(Qa1 79 _ _ .i64 i gcw_69 ocw_69 ((((w64 b).map wv).take 64).length) c9 76 a9 _ haw_69 rfl rfl kj kj kj kj (Nat.lt_of_lt_of_eq (show i<64 by omega) hnw_69.symm))) <| QaM (Qam _) (.int .u32 (wv (wget (w64 b) i))) kj kj (fun W hR=>(Qai 76 _ _ (.int .u32 (wv (wget (w64 b) i))) (((Below.cell (Rely.Ext.trans (Qaz _) hR) hlw_69).trans (hcw_69 i (Nat.lt_of_lt_of_eq (show i<64 by omega) hnw_69.symm))).trans (congrArg (fun z=>some (Value.int .u32 z)) (Qde (w64 b) 64 i hlt133))) rfl kj kj)) <| Qda (hF _ fun W13 e13=>?_)
      simp only [List.nil_append,List.cons_append,List.take_succ_cons,List.take_zero,List.drop_succ_cons,List.drop_zero,finE,up]
      clear hF
      refine Qaa (.int .u32 (wv (((((((((rnds KK (w64 b) s i).h)+((((((rr ((rnds KK (w64 b) s i).e) 6))^^^((rr ((rnds KK (w64 b) s i).e) 11))))^^^((rr ((rnds KK (w64 b) s i).e) 25))))))+((((((rnds KK (w64 b) s i).e)&&&((rnds KK (w64 b) s i).f)))^^^((((~~~((rnds KK (w64 b) s i).e)))&&&((rnds KK (w64 b) s i).g)))))))+((wget KK i))))+((wget (w64 b) i))))) 172 rfl kj (Qag kj (congrArg (Value.int .u32) (Qcc _ _))) <| sg 1 kj <| sgN hK77 <| wp_seq_k fun K78 hK78=>QaY 28 [⟨none,[(15,none)]⟩,⟨none,[(173,some 0)]⟩,⟨none,[(174,some 1)]⟩,⟨none,[(15,none)]⟩,⟨none,[(176,some 3)]⟩,⟨none,[(177,some 4)]⟩,⟨none,[(175,some 2),(178,some 5)]⟩,⟨none,[(15,none)]⟩,⟨none,[(180,some 7)]⟩,⟨none,[(181,some 8)]⟩,⟨none,[(179,some 6),(182,some 9)]⟩,⟨none,[(15,none)]⟩,⟨none,[(184,some 11)]⟩,⟨none,[(15,none)]⟩,⟨none,[(186,some 13)]⟩,⟨none,[(185,some 12),(187,some 14)]⟩,⟨none,[(15,none)]⟩,⟨none,[(189,some 16)]⟩,⟨none,[(15,none)]⟩,⟨none,[(191,some 18)]⟩,⟨none,[(190,some 17),(192,some 19)]⟩,⟨none,[(188,some 15),(193,some 20)]⟩,⟨none,[(15,none)]⟩,⟨none,[(195,some 22)]⟩,⟨none,[(15,none)]⟩,⟨none,[(197,some 24)]⟩,⟨none,[(196,some 23),(198,some 25)]⟩,⟨none,[(194,some 21),(199,some 26)]⟩] kj kj fun F hF=>Qa2 (Qam _) (.pointer (some ⟨g62,0,none⟩)) kj kj (fun W=>by kernel_rfl) ?_
      have r62_13:=(Qae q62_5 e13)
      refine QaM (Qam _) (.int .u32 (wv (rnds KK (w64 b) s i).a)) kj kj (fun W hR=>(Qaf 76 _ g62 0 77 _ (.int .u32 (wv (rnds KK (w64 b) s i).a)) _ (Qae (Qae r62_13 (Qaz _)) hR) rfl kj kj kj)) <| QcQ (Qam _) (.int .u32 (wv (rr ((rnds KK (w64 b) s i).a) 2))) 56 #[.int .u32 (wv (rnds KK (w64 b) s i).a),.int .u64 2] kj kj (fun W=>by kernel_rfl) (fun W hR=>(QeB ((rnds KK (w64 b) s i).a) 2 (2) (by decide) (by decide) (by decide)) W) <| Qa2 (Qam _) (.pointer (some ⟨g62,0,none⟩)) kj kj (fun W=>by kernel_rfl) <| QaM (Qam _) (.int .u32 (wv (rnds KK (w64 b) s i).a)) kj kj (fun W hR=>(Qaf 76 _ g62 0 77 _ (.int .u32 (wv (rnds KK (w64 b) s i).a)) _ (Qae (Qae r62_13 (Qaz _)) hR) rfl kj kj kj)) <| QcQ (Qam _) (.int .u32 (wv (rr ((rnds KK (w64 b) s i).a) 13))) 56 #[.int .u32 (wv (rnds KK (w64 b) s i).a),.int .u64 13] kj kj (fun W=>by kernel_rfl) (fun W hR=>(QeB ((rnds KK (w64 b) s i).a) 13 (13) (by decide) (by decide) (by decide)) W) <| Qa2 (Qam _) (.int .u32 (wv (((rr ((rnds KK (w64 b) s i).a) 2))^^^((rr ((rnds KK (w64 b) s i).a) 13))))) kj kj (fun W=>(Qag kj (congrArg (Value.int .u32) (w_xor _ _)))) <| Qa2 (Qam _) (.pointer (some ⟨g62,0,none⟩)) kj kj (fun W=>by kernel_rfl) <| QaM (Qam _) (.int .u32 (wv (rnds KK (w64 b) s i).a)) kj kj (fun W hR=>(Qaf 76 _ g62 0 77 _ (.int .u32 (wv (rnds KK (w64 b) s i).a)) _ (Qae (Qae r62_13 (Qaz _)) hR) rfl kj kj kj)) <| QcQ (Qam _) (.int .u32 (wv (rr ((rnds KK (w64 b) s i).a) 22))) 56 #[.int .u32 (wv (rnds KK (w64 b) s i).a),.int .u64 22] kj kj (fun W=>by kernel_rfl) (fun W hR=>(QeB ((rnds KK (w64 b) s i).a) 22 (22) (by decide) (by decide) (by decide)) W) <| Qa2 (Qam _) (.int .u32 (wv (((((rr ((rnds KK (w64 b) s i).a) 2))^^^((rr ((rnds KK (w64 b) s i).a) 13))))^^^((rr ((rnds KK (w64 b) s i).a) 22))))) kj kj (fun W=>(Qag kj (congrArg (Value.int .u32) (w_xor _ _)))) ?_
      refine Qa2 (Qam _) (.pointer (some ⟨g62,0,none⟩)) kj kj (fun W=>by kernel_rfl) <| QaM (Qam _) (.int .u32 (wv (rnds KK (w64 b) s i).a)) kj kj (fun W hR=>(Qaf 76 _ g62 0 77 _ (.int .u32 (wv (rnds KK (w64 b) s i).a)) _ (Qae (Qae r62_13 (Qaz _)) hR) rfl kj kj kj)) <| Qa2 (Qam _) (.pointer (some ⟨g62,1,none⟩)) kj kj (fun W=>by kernel_rfl) <| QaM (Qam _) (.int .u32 (wv (rnds KK (w64 b) s i).b)) kj kj (fun W hR=>(Qaf 76 _ g62 1 77 _ (.int .u32 (wv (rnds KK (w64 b) s i).b)) _ (Qae (Qae r62_13 (Qaz _)) hR) rfl kj kj kj)) <| Qa2 (Qam _) (.int .u32 (wv (((rnds KK (w64 b) s i).a)&&&((rnds KK (w64 b) s i).b)))) kj kj (fun W=>(Qag kj (congrArg (Value.int .u32) (QeA _ _)))) <| Qa2 (Qam _) (.pointer (some ⟨g62,0,none⟩)) kj kj (fun W=>by kernel_rfl) <| QaM (Qam _) (.int .u32 (wv (rnds KK (w64 b) s i).a)) kj kj (fun W hR=>(Qaf 76 _ g62 0 77 _ (.int .u32 (wv (rnds KK (w64 b) s i).a)) _ (Qae (Qae r62_13 (Qaz _)) hR) rfl kj kj kj)) <| Qa2 (Qam _) (.pointer (some ⟨g62,2,none⟩)) kj kj (fun W=>by kernel_rfl) <| QaM (Qam _) (.int .u32 (wv (rnds KK (w64 b) s i).c)) kj kj (fun W hR=>(Qaf 76 _ g62 2 77 _ (.int .u32 (wv (rnds KK (w64 b) s i).c)) _ (Qae (Qae r62_13 (Qaz _)) hR) rfl kj kj kj)) <| Qa2 (Qam _) (.int .u32 (wv (((rnds KK (w64 b) s i).a)&&&((rnds KK (w64 b) s i).c)))) kj kj (fun W=>(Qag kj (congrArg (Value.int .u32) (QeA _ _)))) ?_
      refine Qa2 (Qam _) (.int .u32 (wv (((((rnds KK (w64 b) s i).a)&&&((rnds KK (w64 b) s i).b)))^^^((((rnds KK (w64 b) s i).a)&&&((rnds KK (w64 b) s i).c)))))) kj kj (fun W=>(Qag kj (congrArg (Value.int .u32) (w_xor _ _)))) <| Qa2 (Qam _) (.pointer (some ⟨g62,1,none⟩)) kj kj (fun W=>by kernel_rfl) <| QaM (Qam _) (.int .u32 (wv (rnds KK (w64 b) s i).b)) kj kj (fun W hR=>(Qaf 76 _ g62 1 77 _ (.int .u32 (wv (rnds KK (w64 b) s i).b)) _ (Qae (Qae r62_13 (Qaz _)) hR) rfl kj kj kj)) <| Qa2 (Qam _) (.pointer (some ⟨g62,2,none⟩)) kj kj (fun W=>by kernel_rfl) <| QaM (Qam _) (.int .u32 (wv (rnds KK (w64 b) s i).c)) kj kj (fun W hR=>(Qaf 76 _ g62 2 77 _ (.int .u32 (wv (rnds KK (w64 b) s i).c)) _ (Qae (Qae r62_13 (Qaz _)) hR) rfl kj kj kj)) <| Qa2 (Qam _) (.int .u32 (wv (((rnds KK (w64 b) s i).b)&&&((rnds KK (w64 b) s i).c)))) kj kj (fun W=>(Qag kj (congrArg (Value.int .u32) (QeA _ _)))) <| Qa2 (Qam _) (.int .u32 (wv (((((((rnds KK (w64 b) s i).a)&&&((rnds KK (w64 b) s i).b)))^^^((((rnds KK (w64 b) s i).a)&&&((rnds KK (w64 b) s i).c)))))^^^((((rnds KK (w64 b) s i).b)&&&((rnds KK (w64 b) s i).c)))))) kj kj (fun W=>(Qag kj (congrArg (Value.int .u32) (w_xor _ _)))) <| Qda (hF _ fun W14 e14=>?_)
      simp only [List.nil_append,List.cons_append,List.take_succ_cons,List.take_zero,List.drop_succ_cons,List.drop_zero,finE,up]
      clear hF
      have x14:=Ext.tr (Ext.tr xx5 e13) e14
      refine Qaa (.int .u32 (wv (((((((rr ((rnds KK (w64 b) s i).a) 2))^^^((rr ((rnds KK (w64 b) s i).a) 13))))^^^((rr ((rnds KK (w64 b) s i).a) 22))))+((((((((rnds KK (w64 b) s i).a)&&&((rnds KK (w64 b) s i).b)))^^^((((rnds KK (w64 b) s i).a)&&&((rnds KK (w64 b) s i).c)))))^^^((((rnds KK (w64 b) s i).b)&&&((rnds KK (w64 b) s i).c)))))))) 201 rfl kj (Qag kj (congrArg (Value.int .u32) (Qcc _ _))) <| sg 1 kj <| sgN hK78 <| wp_seq_k fun K79 hK79=>sgB kj <| wp_block <| Qay (fun (s6:Nat)=>[(2,.pointer (some ⟨g2,0,none⟩)),(4,.pointer (some ⟨g7,0,none⟩)),(6,.slice am17 ((KK.map wv).length) cm17),(7,.slice am20 ((padT t).length) cm20),(8,.int .i64 ((64*m:Nat):Int)),(9,.slice a9 ((((w64 b).map wv).take 64).length) c9),(15,.pointer (some ⟨g62,0,none⟩)),(16,.int .i64 ((i:Nat):Int)),(17,.int .u32 (wv (((((((((rnds KK (w64 b) s i).h)+((((((rr ((rnds KK (w64 b) s i).e) 6))^^^((rr ((rnds KK (w64 b) s i).e) 11))))^^^((rr ((rnds KK (w64 b) s i).e) 25))))))+((((((rnds KK (w64 b) s i).e)&&&((rnds KK (w64 b) s i).f)))^^^((((~~~((rnds KK (w64 b) s i).e)))&&&((rnds KK (w64 b) s i).g)))))))+((wget KK i))))+((wget (w64 b) i))))),(18,.int .u32 (wv (((((((rr ((rnds KK (w64 b) s i).a) 2))^^^((rr ((rnds KK (w64 b) s i).a) 13))))^^^((rr ((rnds KK (w64 b) s i).a) 22))))+((((((((rnds KK (w64 b) s i).a)&&&((rnds KK (w64 b) s i).b)))^^^((((rnds KK (w64 b) s i).a)&&&((rnds KK (w64 b) s i).c)))))^^^((((rnds KK (w64 b) s i).b)&&&((rnds KK (w64 b) s i).c)))))))),(19,.int .i64 ((s6:Nat):Int))]) (fun (s6:Nat) W=>(s6≤7)∧(W.heap[g62]? = some (.cells (ints .u32 (shf [wv (rnds KK (w64 b) s i).a,wv (rnds KK (w64 b) s i).b,wv (rnds KK (w64 b) s i).c,wv (rnds KK (w64 b) s i).d,wv (rnds KK (w64 b) s i).e,wv (rnds KK (w64 b) s i).f,wv (rnds KK (w64 b) s i).g,wv (rnds KK (w64 b) s i).h] s6)) 77))∧(Qa8 [g62] W14 W)∧(Ext w W)) (fun (s6:Nat)=>s6) 7 ⟨kj,kj,kj,kj,kj,kj,kj,kj,kj,kj,kj,trivial⟩ ⟨(qR _),(Qbc (Qae r62_13 e14) (show _=shf _ 7 from rfl)),(Qa8.refl [g62] W14),x14⟩ fun s6 X6 V6 hI6=>?_
      obtain ⟨j,hs6⟩:∃ z,z=s6:=⟨_,rfl⟩
      subst hs6
      obtain ⟨hj,q62_6,kk6,xx6⟩:=hI6
      replace hj:j≤7:=hj
      replace q62_6:V6.heap[g62]? = some (.cells (ints .u32 (shf [wv (rnds KK (w64 b) s i).a,wv (rnds KK (w64 b) s i).b,wv (rnds KK (w64 b) s i).c,wv (rnds KK (w64 b) s i).d,wv (rnds KK (w64 b) s i).e,wv (rnds KK (w64 b) s i).f,wv (rnds KK (w64 b) s i).g,wv (rnds KK (w64 b) s i).h] j)) 77):=q62_6
      replace kk6:Qa8 [g62] W14 V6:=kk6
      replace xx6:Ext w V6:=xx6
      have q15:=kk6
      refine wp_seq_k fun K81 hK81=>sgB kj <| Qaq (t:=decide (((j:Nat):Int)>0)) kj (fun c83=>?_) (fun c83=>?_)
      ·skip
       have hj0:0<j:=by have:=of_decide_eq_true c83; omega
       refine wp_skip <| hK81 _ _ <| wp_seq_k fun K84 hK84=>wp_block <| Qad <| sg 2 kj <| Qaa (.int .i64 (((j-1:Nat):Int))) 208 rfl kj (Qag (u:=.int .i64 (IntKind.i64.wrap (((j:Nat):Int)-1))) kj (congrArg (Value.int .i64) (i64n _ _ (by omega) (by omega)))) <| Qaa (.pointer (some ⟨g62,j-1,none⟩)) 209 rfl kj (QaV _ _ _ .i64 (j-1) _ 8 76 rfl kj kj kj kj (by omega)) <| Qaa (.int .u32 (nth (shf [wv (rnds KK (w64 b) s i).a,wv (rnds KK (w64 b) s i).b,wv (rnds KK (w64 b) s i).c,wv (rnds KK (w64 b) s i).d,wv (rnds KK (w64 b) s i).e,wv (rnds KK (w64 b) s i).f,wv (rnds KK (w64 b) s i).g,wv (rnds KK (w64 b) s i).h] j) (j-1))) 210 rfl kj (Qaf 76 _ g62 (j-1) 77 _ (.int .u32 (nth (shf [wv (rnds KK (w64 b) s i).a,wv (rnds KK (w64 b) s i).b,wv (rnds KK (w64 b) s i).c,wv (rnds KK (w64 b) s i).d,wv (rnds KK (w64 b) s i).e,wv (rnds KK (w64 b) s i).f,wv (rnds KK (w64 b) s i).g,wv (rnds KK (w64 b) s i).h] j) (j-1))) _ q62_6 rfl kj (QaZ _ _ _ (Nat.lt_of_lt_of_eq (by omega) (Qh4 hj).symm)) kj) <| Qaa (.pointer (some ⟨g62,j,none⟩)) 211 rfl kj (QaV _ _ _ .i64 (j) _ 8 76 rfl kj kj kj kj (by omega)) ?_
       refine Qav g62 _ (ints .u32 ((shf [wv (rnds KK (w64 b) s i).a,wv (rnds KK (w64 b) s i).b,wv (rnds KK (w64 b) s i).c,wv (rnds KK (w64 b) s i).d,wv (rnds KK (w64 b) s i).e,wv (rnds KK (w64 b) s i).f,wv (rnds KK (w64 b) s i).g,wv (rnds KK (w64 b) s i).h] j).set j (nth (shf [wv (rnds KK (w64 b) s i).a,wv (rnds KK (w64 b) s i).b,wv (rnds KK (w64 b) s i).c,wv (rnds KK (w64 b) s i).d,wv (rnds KK (w64 b) s i).e,wv (rnds KK (w64 b) s i).f,wv (rnds KK (w64 b) s i).g,wv (rnds KK (w64 b) s i).h] j) (j-1)))) 77 q62_6 rfl kj (Qbi 76 _ _ g62 j 77 _ _ q62_6 rfl kj kj kj (Nat.lt_of_lt_of_eq (by omega) (Qh4 hj).symm)) fun W16 p16 r62_16=>?_
       have x16:=Puts.ext p16 xx6 b62
       refine Qaj <| hK84 _ _ <| Qad <| sg 1 kj <| Qaa (.int .i64 (((j-1:Nat):Int))) 205 rfl kj (Qag (u:=.int .i64 (IntKind.i64.wrap (((j:Nat):Int)-1))) kj (congrArg (Value.int .i64) (i64n _ _ (by omega) (by omega)))) <| sg 1 kj <| Qaj ?_
       repeat (first | with_reducible refine goX1 ?_ | with_reducible refine goX2 ?_ | with_reducible refine goX3 ?_)
       exact Qap (j-1) ⟨kj,kj,kj,kj,kj,kj,kj,kj,kj,kj,kj,trivial⟩ ⟨(by omega),(Qbc r62_16 (Qkt hj0 hj)),(Qa8.puts q15 p16 (.inl (by simp))),x16⟩ (by show j-1<j; omega)
      ·skip
       have hj0:j=0:=by have:=of_decide_eq_false c83; omega
       have r62_15_85:V6.heap[g62]? = some (.cells (ints .u32 ([wv (rnds KK (w64 b) s i).a,wv (rnds KK (w64 b) s i).a,wv (rnds KK (w64 b) s i).b,wv (rnds KK (w64 b) s i).c,wv (rnds KK (w64 b) s i).d,wv (rnds KK (w64 b) s i).e,wv (rnds KK (w64 b) s i).f,wv (rnds KK (w64 b) s i).g])) 77):=Qbc q62_6 (by rw [hj0]; rfl)
       refine wp_exit <| hK79 _ _ <| sgC fun K86 hK86=>sg 1 kj <| Qaa (.int .u32 (wv (rnds KK (w64 b) s i).d)) 213 rfl kj (Qaf 76 _ g62 4 77 _ (.int .u32 (wv (rnds KK (w64 b) s i).d)) _ r62_15_85 rfl kj kj kj) <| sg 1 kj <| Qaa (.int .u32 (wv (((rnds KK (w64 b) s i).d)+((((((((((rnds KK (w64 b) s i).h)+((((((rr ((rnds KK (w64 b) s i).e) 6))^^^((rr ((rnds KK (w64 b) s i).e) 11))))^^^((rr ((rnds KK (w64 b) s i).e) 25))))))+((((((rnds KK (w64 b) s i).e)&&&((rnds KK (w64 b) s i).f)))^^^((((~~~((rnds KK (w64 b) s i).e)))&&&((rnds KK (w64 b) s i).g)))))))+((wget KK i))))+((wget (w64 b) i))))))) 215 rfl kj (Qag kj (congrArg (Value.int .u32) (Qcc _ _))) <| sg 1 kj <| Qav g62 _ (ints .u32 ([wv (rnds KK (w64 b) s i).a,wv (rnds KK (w64 b) s i).a,wv (rnds KK (w64 b) s i).b,wv (rnds KK (w64 b) s i).c,(wv (((rnds KK (w64 b) s i).d)+((((((((((rnds KK (w64 b) s i).h)+((((((rr ((rnds KK (w64 b) s i).e) 6))^^^((rr ((rnds KK (w64 b) s i).e) 11))))^^^((rr ((rnds KK (w64 b) s i).e) 25))))))+((((((rnds KK (w64 b) s i).e)&&&((rnds KK (w64 b) s i).f)))^^^((((~~~((rnds KK (w64 b) s i).e)))&&&((rnds KK (w64 b) s i).g)))))))+((wget KK i))))+((wget (w64 b) i)))))),wv (rnds KK (w64 b) s i).e,wv (rnds KK (w64 b) s i).f,wv (rnds KK (w64 b) s i).g])) 77 r62_15_85 rfl kj (Qbi 76 _ _ g62 4 77 _ _ r62_15_85 rfl kj kj kj (show 4<8 by decide)) fun W16 p16 r62_16=>?_
       have x16:=Puts.ext p16 xx6 b62
       refine sgN hK86 <| Qad <| sg 2 kj <| Qaa (.int .u32 (wv (((((((((((rnds KK (w64 b) s i).h)+((((((rr ((rnds KK (w64 b) s i).e) 6))^^^((rr ((rnds KK (w64 b) s i).e) 11))))^^^((rr ((rnds KK (w64 b) s i).e) 25))))))+((((((rnds KK (w64 b) s i).e)&&&((rnds KK (w64 b) s i).f)))^^^((((~~~((rnds KK (w64 b) s i).e)))&&&((rnds KK (w64 b) s i).g)))))))+((wget KK i))))+((wget (w64 b) i))))+((((((((rr ((rnds KK (w64 b) s i).a) 2))^^^((rr ((rnds KK (w64 b) s i).a) 13))))^^^((rr ((rnds KK (w64 b) s i).a) 22))))+((((((((rnds KK (w64 b) s i).a)&&&((rnds KK (w64 b) s i).b)))^^^((((rnds KK (w64 b) s i).a)&&&((rnds KK (w64 b) s i).c)))))^^^((((rnds KK (w64 b) s i).b)&&&((rnds KK (w64 b) s i).c)))))))))) 219 rfl kj (Qag kj (congrArg (Value.int .u32) (Qcc _ _))) <| sg 1 kj <| Qav g62 _ (ints .u32 ([(wv (((((((((((rnds KK (w64 b) s i).h)+((((((rr ((rnds KK (w64 b) s i).e) 6))^^^((rr ((rnds KK (w64 b) s i).e) 11))))^^^((rr ((rnds KK (w64 b) s i).e) 25))))))+((((((rnds KK (w64 b) s i).e)&&&((rnds KK (w64 b) s i).f)))^^^((((~~~((rnds KK (w64 b) s i).e)))&&&((rnds KK (w64 b) s i).g)))))))+((wget KK i))))+((wget (w64 b) i))))+((((((((rr ((rnds KK (w64 b) s i).a) 2))^^^((rr ((rnds KK (w64 b) s i).a) 13))))^^^((rr ((rnds KK (w64 b) s i).a) 22))))+((((((((rnds KK (w64 b) s i).a)&&&((rnds KK (w64 b) s i).b)))^^^((((rnds KK (w64 b) s i).a)&&&((rnds KK (w64 b) s i).c)))))^^^((((rnds KK (w64 b) s i).b)&&&((rnds KK (w64 b) s i).c))))))))),wv (rnds KK (w64 b) s i).a,wv (rnds KK (w64 b) s i).b,wv (rnds KK (w64 b) s i).c,(wv (((rnds KK (w64 b) s i).d)+((((((((((rnds KK (w64 b) s i).h)+((((((rr ((rnds KK (w64 b) s i).e) 6))^^^((rr ((rnds KK (w64 b) s i).e) 11))))^^^((rr ((rnds KK (w64 b) s i).e) 25))))))+((((((rnds KK (w64 b) s i).e)&&&((rnds KK (w64 b) s i).f)))^^^((((~~~((rnds KK (w64 b) s i).e)))&&&((rnds KK (w64 b) s i).g)))))))+((wget KK i))))+((wget (w64 b) i)))))),wv (rnds KK (w64 b) s i).e,wv (rnds KK (w64 b) s i).f,wv (rnds KK (w64 b) s i).g])) 77 r62_16 rfl kj (Qbi 76 _ _ g62 0 77 _ _ r62_16 rfl kj kj kj (show 0<8 by decide)) fun W17 p17 r62_17=>Qaj <| hK76 _ _ <| Qad <| sg 1 kj ?_
       refine Qaa (.int .i64 ((i+1:Nat):Int)) 135 rfl kj (Qag (u:=.int .i64 (IntKind.i64.wrap (((i:Nat):Int)+1))) kj (congrArg (Value.int .i64) (i64n _ _ (by omega) (by omega)))) <| sg 1 kj <| Qaj ?_
       repeat (first | with_reducible refine goX1 ?_ | with_reducible refine goX2 ?_ | with_reducible refine goX3 ?_)
       exact Qap (i+1) ⟨kj,kj,kj,kj,kj,kj,kj,kj,trivial⟩ ⟨(by omega),(Qbc r62_17 (by rw [show rnds KK (w64 b) s (i+1)=rnd (wget KK i) (wget (w64 b) i) (rnds KK (w64 b) s i) from rfl]; generalize rnds KK (w64 b) s i=r; generalize wget KK i=kk; generalize wget (w64 b) i=ww; rfl)),(Qa8.puts (Qa8.puts (Qa8.keeps (Qa8.step (Qa8.step q12 e13) e14) q15 (Qeo (.inl (by simp)) QfE)) p16 (.inl (by simp))) p17 (.inl (by simp))),(Puts.ext p17 x16 b62)⟩ (by omega)
     ·skip
      have heq133:i=64:=by have:=of_decide_eq_false c75; omega
      have r62_12_87:V5.heap[g62]? = some (.cells (ints .u32 ([wv (rnds KK (w64 b) s 64).a,wv (rnds KK (w64 b) s 64).b,wv (rnds KK (w64 b) s 64).c,wv (rnds KK (w64 b) s 64).d,wv (rnds KK (w64 b) s 64).e,wv (rnds KK (w64 b) s 64).f,wv (rnds KK (w64 b) s 64).g,wv (rnds KK (w64 b) s 64).h])) 77):=Qbc q62_5 (by rw [heq133])
      refine wp_exit <| hK63 _ _ <| sgB kj <| wp_block ?_
      have n15_4:g62≠g7:=(QfI r7_9 l62)
      obtain ⟨r,hr9⟩:∃ z,z=rnds KK (w64 b) s 64:=⟨_,rfl⟩
      have r62_12_89:V5.heap[g62]? = some (.cells (ints .u32 (r.l.map wv)) 77):=Qbc r62_12_87 (by rw [hr9]; rfl)
      refine Qay (fun (s7:Nat)=>[(2,.pointer (some ⟨g2,0,none⟩)),(4,.pointer (some ⟨g7,0,none⟩)),(6,.slice am17 ((KK.map wv).length) cm17),(7,.slice am20 ((padT t).length) cm20),(8,.int .i64 ((64*m:Nat):Int)),(9,.slice a9 ((((w64 b).map wv).take 64).length) c9),(15,.pointer (some ⟨g62,0,none⟩)),(20,.int .i64 ((s7:Nat):Int))]) (fun (s7:Nat) W=>(s7≤8)∧(W.heap[g7]? = some (.cells (ints .u32 ((mixW s.l r.l s7).map wv)) 77))∧(Qa8 [g7] V5 W)∧(Ext w W)) (fun (s7:Nat)=>8-s7) 0 ⟨kj,kj,kj,kj,kj,kj,kj,kj,trivial⟩ ⟨(Nat.zero_le _),(Qbc (Qa8.row q12 (Puts.row p11 (Qae r7_9 e10) (Qaw r7_9 l62)) (Qb3 (Qaw r7_9 l62) QbE)) (show _=(mixW s.l r.l 0).map wv from rfl)),(Qa8.refl [g7] V5),xx5⟩ fun s7 X7 V7 hI7=>?_
      obtain ⟨i,hs7⟩:∃ z,z=s7:=⟨_,rfl⟩
      subst hs7
      obtain ⟨hi,q7_7,kk7,xx7⟩:=hI7
      replace hi:i≤8:=hi
      replace q7_7:V7.heap[g7]? = some (.cells (ints .u32 ((mixW s.l r.l i).map wv)) 77):=q7_7
      replace kk7:Qa8 [g7] V5 V7:=kk7
      replace xx7:Ext w V7:=xx7
      have q13:=kk7
      refine wp_seq_k fun K90 hK90=>sgB kj <| Qaq (t:=decide (((i:Nat):Int)<8)) kj (fun c92=>?_) (fun c92=>?_)
      ·skip
       have hlt222:i<8:=by have:=of_decide_eq_true c92; omega
       refine wp_skip <| hK90 _ _ <| wp_seq_k fun K93 hK93=>wp_block <| QaY 8 [⟨none,[(20,none)]⟩,⟨none,[(20,none)]⟩,⟨none,[(4,none),(226,some 1)]⟩,⟨none,[(227,some 2)]⟩,⟨none,[(20,none)]⟩,⟨none,[(15,none),(229,some 4)]⟩,⟨none,[(230,some 5)]⟩,⟨none,[(228,some 3),(231,some 6)]⟩] kj kj fun F hF=>Qa2 (Qam _) (.int .i64 ((i:Nat):Int)) kj kj (fun W=>by kernel_rfl) <| Qa2 (Qam _) (.int .i64 ((i:Nat):Int)) kj kj (fun W=>by kernel_rfl) <| Qa2 (Qam _) (.pointer (some ⟨g7,i,none⟩)) kj kj (fun W=>(QaV _ _ _ .i64 (i) _ 8 76 rfl kj kj kj kj (by omega))) <| QaM (Qam _) (.int .u32 (wv (wget s.l i))) kj kj (fun W hR=>(Qaf 76 _ g7 i 77 _ (.int .u32 (wv (wget s.l i))) _ (Qae (Qae q7_7 (Qaz _)) hR) rfl kj ((QaZ _ _ _ (Nat.lt_of_lt_of_eq (by omega) (Qfp s r hi).symm)).trans (congrArg (fun z=>some (Value.int .u32 z)) (QhX s r hlt222))) kj)) <| Qa2 (Qam _) (.int .i64 ((i:Nat):Int)) kj kj (fun W=>by kernel_rfl) ?_
       refine Qa2 (Qam _) (.pointer (some ⟨g62,i,none⟩)) kj kj (fun W=>(QaV _ _ _ .i64 (i) _ 8 76 rfl kj kj kj kj (by omega))) ?_
       have r62_13:=(Qa8.row q13 r62_12_89 (Qb3 n15_4 QbE))
       refine QaM (Qam _) (.int .u32 (wv (wget r.l i))) kj kj (fun W hR=>(Qaf 76 _ g62 i 77 _ (.int .u32 (wv (wget r.l i))) _ (Qae (Qae r62_13 (Qaz _)) hR) rfl kj ((QaZ _ _ _ (Nat.lt_of_lt_of_eq (by omega) (show (r.l.map wv).length=8 from rfl).symm)).trans (congrArg (fun z=>some (Value.int .u32 z)) (QbK _ _))) kj)) <| Qa2 (Qam _) (.int .u32 (wv (((wget s.l i))+((wget r.l i))))) kj kj (fun W=>(Qag kj (congrArg (Value.int .u32) (Qcc _ _)))) <| Qda (hF _ fun W14 e14=>?_)
       simp only [List.nil_append,List.cons_append,List.take_succ_cons,List.take_zero,List.drop_succ_cons,List.drop_zero,finE,up]
       clear hF
       have x14:=Ext.tr xx7 e14
       refine Qaa (.pointer (some ⟨g7,i,none⟩)) 233 rfl kj (QaV _ _ _ .i64 (i) _ 8 76 rfl kj kj kj kj (by omega)) ?_
       have r7_14:=(Qae q7_7 e14)
       refine Qav g7 _ (ints .u32 (((mixW s.l r.l i).map wv).set i (wv (((wget s.l i))+((wget r.l i)))))) 77 r7_14 rfl kj (Qbi 76 _ _ g7 i 77 _ _ r7_14 rfl kj kj kj (Nat.lt_of_lt_of_eq (by omega) (Qfp s r hi).symm)) fun W15 p15 r7_15=>Qaj <| hK93 _ _ <| Qad <| sg 1 kj <| Qaa (.int .i64 ((i+1:Nat):Int)) 224 rfl kj (Qag (u:=.int .i64 (IntKind.i64.wrap (((i:Nat):Int)+1))) kj (congrArg (Value.int .i64) (i64n _ _ (by omega) (by omega)))) <| sg 1 kj <| Qaj ?_
       repeat (first | with_reducible refine goX1 ?_ | with_reducible refine goX2 ?_ | with_reducible refine goX3 ?_)
       exact Qap (i+1) ⟨kj,kj,kj,kj,kj,kj,kj,kj,trivial⟩ ⟨(by omega),(Qbc r7_15 (QhW s r hlt222)),(Qa8.puts (Qa8.step q13 e14) p15 (.inl (by simp))),(Puts.ext p15 x14 b7)⟩ (by show 8-(i+1)<8-i; omega)
      ·skip
       have heq222:i=8:=by have:=of_decide_eq_false c92; omega
       refine wp_exit <| hK27 _ _ <| Qad <| sg 1 kj <| Qaa (.int .i64 (((64*m)+64:Nat):Int)) 44 rfl kj (Qag (u:=.int .i64 (IntKind.i64.wrap (((64*m:Nat):Int)+64))) kj (congrArg (Value.int .i64) (i64n _ _ (by omega) (by omega)))) <| sg 1 kj <| Qaj ?_
       repeat (first | with_reducible refine goX1 ?_ | with_reducible refine goX2 ?_ | with_reducible refine goX3 ?_)
       exact Qap (m+1) ⟨kj,kj,kj,kj,kj,trivial⟩ ⟨(by omega),(Qbc q7_7 (by rw [heq222]; subst hr9; subst hs; subst hb; rfl)),(Qa8.keeps (Qa8.keeps (Qa8.puts (Qa8.step (Qa8.low (Qa8.step q7 e8) l9 (qT (Qa8.size q7) (qR _))) e10) p11 (.inr (qT (Qa8.size q7) (qT (qT (qT (qR _) e8.size) l9.size) l62)))) q12 (Qeo (.inr (qT (Qa8.size q7) (qT (qT (qT (qR _) e8.size) l9.size) l62))) QfE)) q13 (Qeo (.inl (by simp)) QfE)),xx7⟩ (by omega)
  ·skip
   have heq42:m=q:=by have:=of_decide_eq_false c25; omega
   have r7_7_94:V2.heap[g7]? = some (.cells (ints .u32 ([wv (absorb S0 (padT t) q).a,wv (absorb S0 (padT t) q).b,wv (absorb S0 (padT t) q).c,wv (absorb S0 (padT t) q).d,wv (absorb S0 (padT t) q).e,wv (absorb S0 (padT t) q).f,wv (absorb S0 (padT t) q).g,wv (absorb S0 (padT t) q).h])) 77):=Qbc q7_2 (by rw [heq42])
   refine wp_exit <| hK21 _ _ <| sgC fun K95 hK95=>Qal (ints .u8 (List.replicate 32 0)) 28 21 rfl kj kj fun g96 W8 l96 e8 r96_8=>sgN hK95 <| wp_seq_k fun K97 hK97=>sgB kj <| wp_block ?_
   obtain ⟨sQ,hsQ⟩:∃ z,z=absorb S0 (padT t) q:=⟨_,rfl⟩
   have r7_8:=(Qae r7_7_94 e8)
   have r7_8_99:W8.heap[g7]? = some (.cells (ints .u32 (sQ.l.map wv)) 77):=Qbc r7_8 (by rw [hsQ]; rfl)
   refine Qay (fun (s8:Nat)=>[(2,.pointer (some ⟨g2,0,none⟩)),(4,.pointer (some ⟨g7,0,none⟩)),(21,.pointer (some ⟨g96,0,none⟩)),(22,.int .i64 ((s8:Nat):Int))]) (fun (s8:Nat) W=>(s8≤32)∧(W.heap[g96]? = some (.cells (ints .u8 (fill sQ.out 32 s8)) 28))∧(Qa8 [g96] W8 W)∧(Ext w W)) (fun (s8:Nat)=>32-s8) 0 ⟨kj,kj,kj,kj,trivial⟩ ⟨(Nat.zero_le _),(Qbc r96_8 (Qdt sQ.out 32).symm),(Qa8.refl [g96] W8),(Ext.tr xx2 e8)⟩ fun s8 X8 V8 hI8=>?_
   obtain ⟨i,hs8⟩:∃ z,z=s8:=⟨_,rfl⟩
   subst hs8
   obtain ⟨hi,q96_8,kk8,xx8⟩:=hI8
   replace hi:i≤32:=hi
   replace q96_8:V8.heap[g96]? = some (.cells (ints .u8 (fill sQ.out 32 i)) 28):=q96_8
   replace kk8:Qa8 [g96] W8 V8:=kk8
   replace xx8:Ext w V8:=xx8
   have q9:=kk8
   refine wp_seq_k fun K100 hK100=>sgB kj <| Qaq (t:=decide (((i:Nat):Int)<32)) kj (fun c102=>?_) (fun c102=>?_)
   ·skip
    have hlt235:i<32:=by have:=of_decide_eq_true c102; omega
    refine wp_skip <| hK100 _ _ <| wp_seq_k fun K103 hK103=>wp_block <| Qad <| sg 2 kj <| Qaa (.int .i64 ((i/4:Nat):Int)) 240 rfl kj (Qag (u:=.int .i64 (IntKind.i64.wrap (Int.tdiv (((i:Nat):Int)) (4)))) kj (congrArg (Value.int .i64) (Qb7 _ 4 (by omega)))) <| Qaa (.pointer (some ⟨g7,i/4,none⟩)) 241 rfl kj (QaV _ _ _ .i64 (i/4) _ 8 76 rfl kj kj kj kj (by omega)) ?_
    have r7_9:=(Qa8.row q9 r7_8_99 (Qb3 (Qaw r7_7_94 l96) QbE))
    refine Qaa (.int .u32 (wv (wget sQ.l (i/4)))) 242 rfl kj (Qaf 76 _ g7 (i/4) 77 _ (.int .u32 (wv (wget sQ.l (i/4)))) _ r7_9 rfl kj ((QaZ _ _ _ (Nat.lt_of_lt_of_eq (by omega) (show (sQ.l.map wv).length=8 from rfl).symm)).trans (congrArg (fun z=>some (Value.int .u32 z)) (QbK _ _))) kj) <| sg 1 kj <| Qaa (.int .i64 ((i%4:Nat):Int)) 244 rfl kj (Qag (u:=.int .i64 (Int.tmod (((i:Nat):Int)) (4))) kj (congrArg (Value.int .i64) (Qbr _ 4))) <| Qaa (.int .i64 ((8*(i%4):Nat):Int)) 245 rfl kj (Qag (u:=.int .i64 (IntKind.i64.wrap (8*((i%4:Nat):Int)))) kj (congrArg (Value.int .i64) (i64n _ _ (by omega) (by omega)))) <| Qaa (.int .i64 (((24-8*(i%4):Nat):Int))) 246 rfl kj (Qag (u:=.int .i64 (IntKind.i64.wrap (24-((8*(i%4):Nat):Int)))) kj (congrArg (Value.int .i64) (i64n _ _ (by omega) (by omega)))) <| Qaa (.int .u64 (((24-8*(i%4):Nat):Int))) 247 rfl kj (Qag (u:=.int .u64 (IntKind.u64.wrap (((24-8*(i%4):Nat):Int)))) kj (congrArg (Value.int .u64) (by rw [show ∀ z:Int,IntKind.u64.wrap z=z%2^64 from fun _=>rfl]; omega))) ?_
    refine Qaa (.int .u32 (wv (wget sQ.l (i/4)>>>(24-8*(i%4))))) 248 rfl kj (Qbk .shr _ _ _ _ .u32 .u64 _ _ _ rfl kj kj (QcO _ _ _ _ _ _ (by omega) (Qf3 _ _ (24-8*(i%4)) rfl (by omega)))) <| Qaa (.int .u8 (nth sQ.out i)) 249 rfl kj (Qag (u:=.int .u8 (IntKind.u8.wrap (wv (wget sQ.l (i/4)>>>(24-8*(i%4)))))) kj (congrArg (Value.int .u8) (by have h9:=Qg4 sQ (a:=i/4) (b:=i%4) (by omega) (by omega); rwa [show 4*(i/4)+i%4=i by omega] at h9))) ?_
    refine Qaa (.pointer (some ⟨g96,i,none⟩)) 250 rfl kj (QaV _ _ _ .i64 (i) _ 32 5 rfl kj kj kj kj (by omega)) <| Qav g96 _ (ints .u8 ((fill sQ.out 32 i).set i (nth sQ.out i))) 28 q96_8 rfl kj (Qbi 5 _ _ g96 i 28 _ _ q96_8 rfl kj kj kj (Nat.lt_of_lt_of_eq (by omega) (Qb1 (show sQ.out.length=32 from rfl) hi).symm)) fun W10 p10 r96_10=>?_
    have x10:=Puts.ext p10 xx8 (qT xx2.size l96)
    refine Qaj <| hK103 _ _ <| Qad <| sg 1 kj <| Qaa (.int .i64 ((i+1:Nat):Int)) 237 rfl kj (Qag (u:=.int .i64 (IntKind.i64.wrap (((i:Nat):Int)+1))) kj (congrArg (Value.int .i64) (i64n _ _ (by omega) (by omega)))) <| sg 1 kj <| Qaj ?_
    repeat (first | with_reducible refine goX1 ?_ | with_reducible refine goX2 ?_ | with_reducible refine goX3 ?_)
    exact Qap (i+1) ⟨kj,kj,kj,kj,trivial⟩ ⟨(by omega),(Qbc r96_10 (QcL (show sQ.out.length=32 from rfl) hlt235)),(Qa8.puts q9 p10 (.inl (by simp))),x10⟩ (by show 32-(i+1)<32-i; omega)
   ·skip
    have heq235:i=32:=by have:=of_decide_eq_false c102; omega
    have r96_9_104:V8.heap[g96]? = some (.cells (ints .u8 (sQ.out)) 28):=Qbc q96_8 (by rw [heq235]; exact Qdu (show sQ.out.length=32 from rfl))
    refine wp_exit <| hK97 _ _ <| sgC fun K105 hK105=>Qaa (.agg (ints .u8 (sQ.out))) 251 rfl kj (QaA 28 _ g96 28 _ _ r96_9_104 rfl kj kj (isz (n:=32) kj ((Qac _ _).trans (show sQ.out.length=32 from rfl)))) ?_
    have r2_2:=(Qae r2_1 e2)
    have r2_7:=(Qa8.row q7 (Qae (Qae (Qa8.row q4 (Qae r2_2 e3) (Qb3 (Qaw r2_2 l7) QbE)) e5) e6) (Qb3 (Qaw r2_2 l7) QbE))
    have r2_9:=(Qa8.row q9 (Qae r2_7 e8) (Qb3 (Qaw r2_7 l96) QbE))
    refine Qav g2 _ (ints .u8 (sQ.out)) 28 r2_9 rfl kj (Qat 28 _ _ g2 28 _ _ r2_9 rfl kj kj (isz (n:=32) kj ((Qac _ _).trans (show sQ.out.length=32 from rfl))) (eqsz (n:=32) ((Qac _ _).trans (qZ (n:=32))) ((Qac _ _).trans (show sQ.out.length=32 from rfl))) (Qau _ _)) fun W10 p10 r2_10=>?_
    have x10:=Puts.ext p10 xx8 (qT (Rely.Ext.refl w).size l2)
    refine sgN hK105 <| wp_ret ?_
    repeat (first | with_reducible refine goR1 ?_ | with_reducible refine goR2 ?_)
    exact (show bodyPost _ _ _ .ret _ _ from ret1 (.agg (ints .u8 (sQ.out))) rfl (Qbv g2 28 _ r2_10 kj kj (isz (n:=32) kj ((Qac _ _).trans (show sQ.out.length=32 from rfl)))) ⟨by rw [show dig t=sQ.out by unfold dig; rw [hq,Nat.mul_div_cancel_left _ (by decide),hsQ]],x10⟩)
end Go.Proofs.YthfkppjajmjpnaaDoor.Sha
end
section
namespace Go.Proofs.YthfkppjajmjpnaaDoor.Te
open Go Go.RowKit
open Rely Auto Own Seat Wk Sha
theorem QkW {x : Nat} (hx:x≤1000000) (h:x%2=0):lv ((x:Nat):Int)≤0:=by
  unfold lv
  rw [if_neg (by omega),Int.toNat_natCast,Qg9 x (by omega) h]; decide
theorem Qln {x : Nat} (hx:x≤1000000) (hl:lv ((x:Nat):Int)≤0):x%2=0:=by
  unfold lv at hl
  rw [if_neg (by omega),Int.toNat_natCast] at hl
  rcases Nat.mod_two_eq_zero_or_one x with h | h
  · exact h
  · rw [Qib x (by omega) h] at hl; omega
theorem Qfw {x : Nat} (hx:x≤1000000) (h:x%2=0):kidL ((x:Nat):Int)<0:=by
  unfold kidL
  rw [if_pos (QkW hx h)]; decide
theorem Qlh : Qbx (fun n x=>decide (x%2=0) || decide (0≤kidL x))=true:=by decide +kernel
theorem QgM {x : Nat} {n:Int} (hn:Qa4 ((x:Nat):Int) n=true) (h:kidL ((x:Nat):Int)=-1):x%2=0:=by
  have:=QaN Qlh hn
  rw [h] at this
  simp only [Bool.or_eq_true,decide_eq_true_eq] at this
  omega
theorem Qkh {ts : List NdV} {wo:List Int} (ok0:∀ x,x<ts.length→NdOk (ndi ts x).n) (hmt:∀ i,i<ts.length→(ndi ts i).n.ms.length≤50):∀ k x,x<ts.length→Qax (txtN ts wo k x)∧(txtN ts wo k x).length≤400
  | 0,x,hx=>⟨Qet (ok0 x hx),qT (Qcn (ok0 x hx) (hmt x hx)) (by decide)⟩
  | k+1,x,hx=>by
    unfold txtN
    split
    · exact ⟨Qet (ok0 x hx),qT (Qcn (ok0 x hx) (hmt x hx)) (by decide)⟩
    · have h5:=Qfl (wo:=wo) (ok0 x hx)
      have hl:=Qdn h5
      have hm:(Qdm ts wo x).ms.length≤50:=qT (Qd9 _ _) (hmt x hx)
      refine ⟨Qbp (Qbp (Qbp (QcF [2] (by decide)) (Qcd h5)) (Qcf _)) (Qcf _),?_⟩
      simp only [List.length_append,QaG,hl,List.length_cons,List.length_nil]; omega
set_option maxRecDepth 100000 in
theorem Qg1 (ts : List NdV) (a_t:Option Addr) (c_t B1:Nat) (htl:ts.length≤100000) (hmt:∀ i,i<ts.length→(ndi ts i).n.ms.length≤50) (L:Nat) (f:Form ts L) (ok0:∀ x,x<ts.length→NdOk (ndi ts x).n) (wo:List Int) (a_o:Option Addr) (c_o Bo:Nat) (w:World) (ht:TrAt B1 w a_t ts) (hol:wo.length≤1000000) (ho:RdK .i64 Bo wo (.slice a_o wo.length c_o) w) (k x:Nat) (hx:x<ts.length) (h2:x%2=0):Calls Tryd.prog 35 #[.slice a_t ts.length c_t,.int .i64 ((x:Nat):Int),.slice a_o wo.length c_o] w (Qbs w (OwnN .u8 5 w.heap.size (txtN ts wo k x))):=by
 refine enter 81 [(0,.slice a_t ts.length c_t),(1,.int .i64 ((x:Nat):Int)),(2,.slice a_o wo.length c_o)] Tryd.func35 rfl rfl kj rfl <| sgB kj <| sgC fun K2 hK2=>sg 2 kj ?_
 obtain ⟨gtT,otT,hat,hnts⟩:=TrAt.ext ht (Rely.Ext.refl w)
 have hnt:=hnts x (by omega)
 obtain ⟨nt,ent⟩:∃ z,z=ndi ts x:=⟨_,rfl⟩
 rw [←ent] at hnt
 have okt:=hnt.ok
 have rdt:=hnt.rd
 refine Qaa (.pointer (some ⟨gtT,otT+x*99,none⟩)) 17 rfl kj (Qan 23 _ _ .i64 x gtT otT ts.length c_t 50 99 a_t (hat (by omega)) rfl kj kj kj kj (by omega)) <| Qaa (.agg (cat [#[.bool nt.n.us],#[.int .i64 nt.n.nm],ints .u8 (nt.n.key),ints .u8 (nt.n.sg),ints .u8 (nt.n.pa),#[.slice nt.a nt.n.ms.length nt.c]])) 18 rfl kj (QaI 50 _ gtT (otT+x*99) nt hnt rfl kj kj kj) <| Qal (cat [#[.bool false],#[.int .i64 0],ints .u8 (List.replicate 32 0),ints .u8 (List.replicate 32 0),ints .u8 (List.replicate 32 0),#[.slice none 0 0]]) 50 7 rfl kj kj fun g3 W1 l3 e1 r3_1=>?_
 have b3:=qT (Rely.Ext.refl w).size l3
 refine Qav g3 _ (cat [#[.bool nt.n.us],#[.int .i64 nt.n.nm],ints .u8 (nt.n.key),ints .u8 (nt.n.sg),ints .u8 (nt.n.pa),#[.slice nt.a nt.n.ms.length nt.c]]) 50 r3_1 rfl kj (Qat 50 _ _ g3 50 _ _ r3_1 rfl kj kj (isz (n:=99) kj (by rw [Qab,Qab,Qab,Qab,Qab,Qab]; simp only [qS,cat,((Qac _ _).trans okt.gl),((Qac _ _).trans okt.kl),((Qac _ _).trans okt.pl)]; rfl)) (eqsz (n:=99) (by rw [Qab,Qab,Qab,Qab,Qab,Qab]; simp only [qS,cat,((Qac _ _).trans (qZ (n:=32)))]; rfl) (by rw [Qab,Qab,Qab,Qab,Qab,Qab]; simp only [qS,cat,((Qac _ _).trans okt.gl),((Qac _ _).trans okt.kl),((Qac _ _).trans okt.pl)]; rfl)) (Qbo _ (by intro a ha; simp only [List.mem_cons,List.not_mem_nil,or_false] at ha; rcases ha with rfl | rfl | rfl | rfl | rfl | rfl; exact (Qa7 _ rfl); exact (Qa7 _ rfl); exact (Qau _ _); exact (Qau _ _); exact (Qau _ _); exact (Qa7 _ rfl)))) fun W2 p2 r3_2=>?_
 have x2:=Puts.ext p2 (Ext.tr (Rely.Ext.refl w) e1) b3
 refine sgN hK2 <| wp_seq_k fun K4 hK4=>sgC fun K5 hK5=>sg 1 kj <| Qaa (.int .i64 ((x%2:Nat):Int)) 20 rfl kj (Qag (u:=.int .i64 (Int.tmod (((x:Nat):Int)) (2))) kj (congrArg (Value.int .i64) (Qbr _ 2))) <| Qaa (.bool true) 21 rfl kj (Qag (u:=.bool ((((x%2:Nat):Int)==0))) kj (congrArg Value.bool (beq_iff_eq.2 (by omega)))) <| sgN hK5 <| cond_true kj <| wp_seq_k fun K6 hK6=>wp_seq_k fun K7 hK7=>?_
 by_cases hqm:((x/2:Nat):Int)∈wo
 ·skip
  refine Qad <| sg 1 kj <| Qaa (.int .i64 ((x/2:Nat):Int)) 23 rfl kj (Qag (u:=.int .i64 (IntKind.i64.wrap (Int.tdiv (((x:Nat):Int)) (2)))) kj (congrArg (Value.int .i64) (Qb7 _ 2 (by omega)))) <| sg 1 kj <| Qak (.bool true) 41 #[.int .i64 ((x/2:Nat):Int),.slice a_o wo.length c_o] 25 rfl kj kj (inRb wo (((x/2:Nat):Int)) a_o c_o _ _ hol (RdK.here (RdK.ext ho x2)) true (decide_eq_true hqm)) fun W3 e3=>?_
  have x3:=Ext.tr x2 e3
  refine sgN hK7 <| cond_true kj <| Qad <| sg 1 kj ?_
  have r3_3:=(Qae r3_2 e3)
  refine Qav g3 _ (cat [#[.bool false],#[.int .i64 0],ints .u8 (List.replicate 32 0),ints .u8 (List.replicate 32 0),ints .u8 (List.replicate 32 0),#[.slice none 0 0]]) 50 r3_3 rfl kj (Qat 50 _ _ g3 50 _ _ r3_3 rfl kj kj (isz (n:=99) kj (by rw [Qab,Qab,Qab,Qab,Qab,Qab]; simp only [qS,cat,((Qac _ _).trans (qZ (n:=32)))]; rfl)) (eqsz (n:=99) (by rw [Qab,Qab,Qab,Qab,Qab,Qab]; simp only [qS,cat,((Qac _ _).trans okt.gl),((Qac _ _).trans okt.kl),((Qac _ _).trans okt.pl)]; rfl) (by rw [Qab,Qab,Qab,Qab,Qab,Qab]; simp only [qS,cat,((Qac _ _).trans (qZ (n:=32)))]; rfl)) (Qbo _ (by intro a ha; simp only [List.mem_cons,List.not_mem_nil,or_false] at ha; rcases ha with rfl | rfl | rfl | rfl | rfl | rfl; exact (Qa7 _ rfl); exact (Qa7 _ rfl); exact (Qau _ _); exact (Qau _ _); exact (Qau _ _); exact (Qa7 _ rfl)))) fun W4 p4 r3_4=>?_
  have x4:=Puts.ext p4 x3 b3
  refine Qaj <| hK6 _ _ <| sgC fun K8 hK8=>sg 1 kj <| Qaa (.int .i64 ((x/2:Nat):Int)) 28 rfl kj (Qag (u:=.int .i64 (IntKind.i64.wrap (Int.tdiv (((x:Nat):Int)) (2)))) kj (congrArg (Value.int .i64) (Qb7 _ 2 (by omega)))) <| sg 1 kj <| Qa9 (ints .u8 ([1,(IntKind.u8.wrap ((x/2:Nat):Int))])) 5 2 30 rfl kj kj fun g9 W5 l9 e5 r9_5=>?_
  have x5:=Ext.tr x4 e5
  have b9:=qT x4.size l9
  refine Qaa (.agg (cat [#[.bool false],#[.int .i64 0],ints .u8 (List.replicate 32 0),ints .u8 (List.replicate 32 0),ints .u8 (List.replicate 32 0),#[.slice none 0 0]])) 31 rfl kj (QaA 50 _ g3 50 _ _ (Qae r3_4 e5) rfl kj kj (isz (n:=99) kj (by rw [Qab,Qab,Qab,Qab,Qab,Qab]; simp only [qS,cat,((Qac _ _).trans (qZ (n:=32)))]; rfl))) ?_
  refine Qa0 (fun v W'=>(OwnN .u8 5 W5.heap.size (QaR zn.n)) v W'∧Ext W5 W') 57 #[.agg (cat [#[.bool false],#[.int .i64 0],ints .u8 (List.replicate 32 0),ints .u8 (List.replicate 32 0),ints .u8 (List.replicate 32 0),#[.slice none 0 0]])] 32 rfl kj kj ((Wr.rnodeC zn.n.us zn.n.nm zn.n.key zn.n.sg zn.n.pa zn.n.ms _ _ _ Qe8.kl Qe8.gl Qe8.pl (by decide) (QeK _ _)).mono (by rintro e w' ⟨v,rfl,e1,hv⟩; exact ⟨v,rfl,hv,e1⟩)) fun vv10 W6 hh10=>?_
  obtain ⟨hv10,e6⟩:=hh10
  have x6:=Ext.tr x5 e6
  obtain ⟨ab_,cb_,rfl,-⟩:=id (OwnN.rd hv10)
  have hXL:([1,(IntKind.u8.wrap ((x/2:Nat):Int))])++(QaR zn.n)=QcX ts wo x:=by unfold QcX Qfm; rw [if_pos hqm]
  refine QaC (k:=.u8) (T:=5) (xs:=[1,(IntKind.u8.wrap ((x/2:Nat):Int))]) (ys:=QaR zn.n) (V:=W4) 1 (.tmp 30) (.tmp 32) 59 rfl kj kj (by decide) 33 rfl kj kj kj (Qb4 (xs:=[1,(IntKind.u8.wrap ((x/2:Nat):Int))]) rfl l9 (Qae r9_5 e6) (show 2≤maxLen by decide)) (OwnN.rd hv10) (by have h9:=Qcn (wo:=wo) (ok0 x hx) (hmt x hx); rw [←hXL,List.length_append] at h9; omega) (Rely.Ext.trans (Rely.Ext.trans (Rely.Ext.refl W4) e5) e6) fun z1 W7 f11 y7 l7=>?_
  refine sg 1 kj <| sgN hK8 <| wp_ret ?_
  repeat (first | with_reducible refine goR1 ?_ | with_reducible refine goR2 ?_)
  exact (show bodyPost _ _ _ .ret _ _ from ret1 (z1) rfl (Qar kj) ⟨_,rfl,(Ext.low x6 l7 x4.size),OwnN.base x4.size (by have h9:=f11; rw [Qdd k (Qfw (by omega) h2)]; rw [hXL] at h9; exact h9)⟩)
 ·skip
  refine Qad <| sg 1 kj <| Qaa (.int .i64 ((x/2:Nat):Int)) 23 rfl kj (Qag (u:=.int .i64 (IntKind.i64.wrap (Int.tdiv (((x:Nat):Int)) (2)))) kj (congrArg (Value.int .i64) (Qb7 _ 2 (by omega)))) <| sg 1 kj <| Qak (.bool false) 41 #[.int .i64 ((x/2:Nat):Int),.slice a_o wo.length c_o] 25 rfl kj kj (inRb wo (((x/2:Nat):Int)) a_o c_o _ _ hol (RdK.here (RdK.ext ho x2)) false (decide_eq_false hqm)) fun W3 e3=>?_
  have x3:=Ext.tr x2 e3
  refine sgN hK7 <| cond_false kj <| wp_skip <| hK6 _ _ <| sgC fun K13 hK13=>sg 1 kj <| Qaa (.int .i64 ((x/2:Nat):Int)) 28 rfl kj (Qag (u:=.int .i64 (IntKind.i64.wrap (Int.tdiv (((x:Nat):Int)) (2)))) kj (congrArg (Value.int .i64) (Qb7 _ 2 (by omega)))) <| sg 1 kj <| Qa9 (ints .u8 ([1,(IntKind.u8.wrap ((x/2:Nat):Int))])) 5 2 30 rfl kj kj fun g14 W4 l14 e4 r14_4=>?_
  have x4:=Ext.tr x3 e4
  have b14:=qT x3.size l14
  have r3_3:=(Qae r3_2 e3)
  have r3_4:=(Qae r3_3 e4)
  refine Qaa (.agg (cat [#[.bool nt.n.us],#[.int .i64 nt.n.nm],ints .u8 (nt.n.key),ints .u8 (nt.n.sg),ints .u8 (nt.n.pa),#[.slice nt.a nt.n.ms.length nt.c]])) 31 rfl kj (QaA 50 _ g3 50 _ _ r3_4 rfl kj kj (isz (n:=99) kj (by rw [Qab,Qab,Qab,Qab,Qab,Qab]; simp only [qS,cat,((Qac _ _).trans okt.gl),((Qac _ _).trans okt.kl),((Qac _ _).trans okt.pl)]; rfl))) ?_
  refine Qa0 (fun v W'=>(OwnN .u8 5 W4.heap.size (QaR nt.n)) v W'∧Ext W4 W') 57 #[.agg (cat [#[.bool nt.n.us],#[.int .i64 nt.n.nm],ints .u8 (nt.n.key),ints .u8 (nt.n.sg),ints .u8 (nt.n.pa),#[.slice nt.a nt.n.ms.length nt.c]])] 32 rfl kj kj ((Wr.rnodeC nt.n.us nt.n.nm nt.n.key nt.n.sg nt.n.pa nt.n.ms _ _ _ okt.kl okt.gl okt.pl (qT (ent▸hmt x hx) (by decide)) (RdK.here (RdK.ext rdt (Rely.Ext.trans (Rely.Ext.trans (Puts.ext p2 (Rely.Ext.trans (Rely.Ext.refl w) e1) l3) e3) e4)))).mono (by rintro e w' ⟨v,rfl,e1,hv⟩; exact ⟨v,rfl,hv,e1⟩)) fun vv15 W5 hh15=>?_
  obtain ⟨hv15,e5⟩:=hh15
  have x5:=Ext.tr x4 e5
  obtain ⟨ab_,cb_,rfl,-⟩:=id (OwnN.rd hv15)
  have hXL:([1,(IntKind.u8.wrap ((x/2:Nat):Int))])++(QaR nt.n)=QcX ts wo x:=by unfold QcX Qfm; rw [if_neg hqm,ent]
  refine QaC (k:=.u8) (T:=5) (xs:=[1,(IntKind.u8.wrap ((x/2:Nat):Int))]) (ys:=QaR nt.n) (V:=W3) 1 (.tmp 30) (.tmp 32) 59 rfl kj kj (by decide) 33 rfl kj kj kj (Qb4 (xs:=[1,(IntKind.u8.wrap ((x/2:Nat):Int))]) rfl l14 (Qae r14_4 e5) (show 2≤maxLen by decide)) (OwnN.rd hv15) (by have h9:=Qcn (wo:=wo) (ok0 x hx) (hmt x hx); rw [←hXL,List.length_append] at h9; omega) (Rely.Ext.trans (Rely.Ext.trans (Rely.Ext.refl W3) e4) e5) fun z2 W6 f16 y6 l6=>?_
  have x6:=Ext.low x5 l6 x3.size
  refine sg 1 kj <| sgN hK13 <| wp_ret ?_
  repeat (first | with_reducible refine goR1 ?_ | with_reducible refine goR2 ?_)
  exact (show bodyPost _ _ _ .ret _ _ from ret1 (z2) rfl (Qar kj) ⟨_,rfl,x6,OwnN.base x3.size (by have h9:=f16; rw [Qdd k (Qfw (by omega) h2)]; rw [hXL] at h9; exact h9)⟩)
set_option maxRecDepth 100000 in
theorem QiK (ts : List NdV) (a_t:Option Addr) (c_t B1:Nat) (htl:ts.length≤100000) (hmt:∀ i,i<ts.length→(ndi ts i).n.ms.length≤50) (L:Nat) (f:Form ts L) (ok0:∀ x,x<ts.length→NdOk (ndi ts x).n) (wo:List Int) (a_o:Option Addr) (c_o Bo:Nat) (w:World) (ht:TrAt B1 w a_t ts) (hol:wo.length≤1000000) (ho:RdK .i64 Bo wo (.slice a_o wo.length c_o) w) (k x:Nat) (hx:x<ts.length) (h2:x%2≠0) (l r:Nat) (hl0:kidL ((x:Nat):Int)=((l:Nat):Int)) (hr0:kidR ((x:Nat):Int)=((r:Nat):Int)) (hkid:∀ W,Calls Tryd.prog 16 #[.int .i64 ((x:Nat):Int)] W (Ret W (.tuple #[.int .i64 ((l:Nat):Int),.int .i64 ((r:Nat):Int)]))) (hl:∀ w,TrAt B1 w a_t ts→RdK .i64 w.heap.size wo (.slice a_o wo.length c_o) w→Calls Tryd.prog 14 #[.slice a_t ts.length c_t,.int .i64 ((l:Nat):Int),.slice a_o wo.length c_o] w (Ret w (.agg (ints .u8 (dig (txtN ts wo k l)))))) (hr:∀ w,TrAt B1 w a_t ts→RdK .i64 w.heap.size wo (.slice a_o wo.length c_o) w→Calls Tryd.prog 14 #[.slice a_t ts.length c_t,.int .i64 ((r:Nat):Int),.slice a_o wo.length c_o] w (Ret w (.agg (ints .u8 (dig (txtN ts wo k r)))))):Calls Tryd.prog 35 #[.slice a_t ts.length c_t,.int .i64 ((x:Nat):Int),.slice a_o wo.length c_o] w (Qbs w (OwnN .u8 5 w.heap.size (txtN ts wo (k+1) x))):=by
 refine enter 81 [(0,.slice a_t ts.length c_t),(1,.int .i64 ((x:Nat):Int)),(2,.slice a_o wo.length c_o)] Tryd.func35 rfl rfl kj rfl <| sgB kj <| sgC fun K2 hK2=>sg 2 kj ?_
 obtain ⟨gtT,otT,hat,hnts⟩:=TrAt.ext ht (Rely.Ext.refl w)
 have hnt:=hnts x (by omega)
 obtain ⟨nt,ent⟩:∃ z,z=ndi ts x:=⟨_,rfl⟩
 rw [←ent] at hnt
 have okt:=hnt.ok
 have rdt:=hnt.rd
 refine Qaa (.pointer (some ⟨gtT,otT+x*99,none⟩)) 17 rfl kj (Qan 23 _ _ .i64 x gtT otT ts.length c_t 50 99 a_t (hat (by omega)) rfl kj kj kj kj (by omega)) <| Qaa (.agg (cat [#[.bool nt.n.us],#[.int .i64 nt.n.nm],ints .u8 (nt.n.key),ints .u8 (nt.n.sg),ints .u8 (nt.n.pa),#[.slice nt.a nt.n.ms.length nt.c]])) 18 rfl kj (QaI 50 _ gtT (otT+x*99) nt hnt rfl kj kj kj) <| Qal (cat [#[.bool false],#[.int .i64 0],ints .u8 (List.replicate 32 0),ints .u8 (List.replicate 32 0),ints .u8 (List.replicate 32 0),#[.slice none 0 0]]) 50 7 rfl kj kj fun g3 W1 l3 e1 r3_1=>?_
 have b3:=qT (Rely.Ext.refl w).size l3
 refine Qav g3 _ (cat [#[.bool nt.n.us],#[.int .i64 nt.n.nm],ints .u8 (nt.n.key),ints .u8 (nt.n.sg),ints .u8 (nt.n.pa),#[.slice nt.a nt.n.ms.length nt.c]]) 50 r3_1 rfl kj (Qat 50 _ _ g3 50 _ _ r3_1 rfl kj kj (isz (n:=99) kj (by rw [Qab,Qab,Qab,Qab,Qab,Qab]; simp only [qS,cat,((Qac _ _).trans okt.gl),((Qac _ _).trans okt.kl),((Qac _ _).trans okt.pl)]; rfl)) (eqsz (n:=99) (by rw [Qab,Qab,Qab,Qab,Qab,Qab]; simp only [qS,cat,((Qac _ _).trans (qZ (n:=32)))]; rfl) (by rw [Qab,Qab,Qab,Qab,Qab,Qab]; simp only [qS,cat,((Qac _ _).trans okt.gl),((Qac _ _).trans okt.kl),((Qac _ _).trans okt.pl)]; rfl)) (Qbo _ (by intro a ha; simp only [List.mem_cons,List.not_mem_nil,or_false] at ha; rcases ha with rfl | rfl | rfl | rfl | rfl | rfl; exact (Qa7 _ rfl); exact (Qa7 _ rfl); exact (Qau _ _); exact (Qau _ _); exact (Qau _ _); exact (Qa7 _ rfl)))) fun W2 p2 r3_2=>?_
 have x2:=Puts.ext p2 (Ext.tr (Rely.Ext.refl w) e1) b3
 refine sgN hK2 <| wp_seq_k fun K4 hK4=>sgC fun K5 hK5=>sg 1 kj <| Qaa (.int .i64 ((x%2:Nat):Int)) 20 rfl kj (Qag (u:=.int .i64 (Int.tmod (((x:Nat):Int)) (2))) kj (congrArg (Value.int .i64) (Qbr _ 2))) <| Qaa (.bool false) 21 rfl kj (Qag (u:=.bool ((((x%2:Nat):Int)==0))) kj (congrArg Value.bool (beq_eq_false_iff_ne.2 (by omega)))) <| sgN hK5 <| cond_false kj <| wp_skip <| hK4 _ _ ?_
 refine sgB kj <| wp_seq_k fun K7 hK7=>sgB kj <| wp_block ?_
 have y0_2:=(Puts.ext p2 (Rely.Ext.trans (Rely.Ext.refl w) e1) l3)
 have hml6:nt.n.ms.length≤50:=ent▸hmt x hx
 refine Qay (fun (s1:Nat×Value)=>[(0,.slice a_t ts.length c_t),(1,.int .i64 ((x:Nat):Int)),(2,.slice a_o wo.length c_o),(7,.pointer (some ⟨g3,0,none⟩)),(8,s1.2),(9,.int .i64 ((s1.1:Nat):Int))]) (fun (s1:Nat×Value) W=>(s1.1≤nt.n.ms.length)∧(OwnN .i64 3 W2.heap.size (exc (nt.n.ms.take s1.1) wo) s1.2 W)∧(Below W2.heap.size W2 W)∧(Ext w W)) (fun (s1:Nat×Value)=>nt.n.ms.length-s1.1) (0,(.slice none 0 0)) ⟨kj,kj,kj,kj,kj,kj,trivial⟩ ⟨(Nat.zero_le _),(QbM _ _ _ _),(RowKit.Below.refl _ W2),x2⟩ fun s1 X1 V1 hI1=>?_
 obtain ⟨j,u⟩:=s1
 obtain ⟨hk,hu,kk1,xx1⟩:=hI1
 replace hk:j≤nt.n.ms.length:=hk
 replace hu:OwnN .i64 3 W2.heap.size (exc (nt.n.ms.take j) wo) u V1:=hu
 replace kk1:Below W2.heap.size W2 V1:=kk1
 replace xx1:Ext w V1:=xx1
 have l3:=kk1
 refine wp_seq_k fun K9 hK9=>sgC fun K10 hK10=>sg 2 kj ?_
 have r3_3:=(Qbb l3 r3_2 (Qa5 r3_2))
 refine Qaa (.slice nt.a nt.n.ms.length nt.c) 36 rfl kj (Qaf 24 _ g3 98 50 _ (.slice nt.a nt.n.ms.length nt.c) _ r3_3 rfl kj (Qah [#[.bool nt.n.us],#[.int .i64 nt.n.nm],ints .u8 (nt.n.key),ints .u8 (nt.n.sg),ints .u8 (nt.n.pa)] [#[.slice nt.a nt.n.ms.length nt.c]] [] 98 (by rw [Qab,Qab,Qab,Qab,Qab]; simp only [qS,cat,((Qac _ _).trans okt.gl),((Qac _ _).trans okt.kl),((Qac _ _).trans okt.pl)]; rfl) 0 _ rfl) kj) ?_
 refine sg 2 kj <| sgN hK10 <| Qaq (t:=decide (((j:Nat):Int)<((nt.n.ms.length:Nat):Int))) kj (fun c11=>?_) (fun c11=>?_)
 ·skip
  have hlt38:j<nt.n.ms.length:=by have:=of_decide_eq_true c11; omega
  refine wp_skip <| hK9 _ _ <| wp_seq_k fun K12 hK12=>wp_block <| wp_seq_k fun K13 hK13=>?_
  by_cases hq:nth nt.n.ms j∈wo
  ·skip
   refine Qad <| sg 1 kj <| Qaa (.slice nt.a nt.n.ms.length nt.c) 42 rfl kj (Qaf 24 _ g3 98 50 _ (.slice nt.a nt.n.ms.length nt.c) _ r3_3 rfl kj (Qah [#[.bool nt.n.us],#[.int .i64 nt.n.nm],ints .u8 (nt.n.key),ints .u8 (nt.n.sg),ints .u8 (nt.n.pa)] [#[.slice nt.a nt.n.ms.length nt.c]] [] 98 (by rw [Qab,Qab,Qab,Qab,Qab]; simp only [qS,cat,((Qac _ _).trans okt.gl),((Qac _ _).trans okt.kl),((Qac _ _).trans okt.pl)]; rfl) 0 _ rfl) kj) ?_
   have y0_3:=(Ext.low y0_2 l3 y0_2.size)
   have hnx_14:(nt.n.ms).length=nt.n.ms.length:=rfl
   obtain ⟨gcx_14,ocx_14,hax_14,hlx_14,hcx_14⟩:=QaO (RdK.here (RdK.ext rdt y0_3)) (by rw [hnx_14]; omega)
   refine sg 1 kj <| Qaa (.pointer (some ⟨gcx_14,ocx_14+j,none⟩)) 44 rfl kj (Qa1 24 _ _ .i64 j gcx_14 ocx_14 nt.n.ms.length nt.c 3 nt.a _ hax_14 rfl rfl kj kj kj kj (Nat.lt_of_lt_of_eq (show j<nt.n.ms.length by omega) hnx_14.symm)) <| Qaa (.int .i64 (nth (nt.n.ms) (j))) 45 rfl kj (Qai 3 _ _ (.int .i64 (nth (nt.n.ms) (j))) (hcx_14 j (Nat.lt_of_lt_of_eq (show j<nt.n.ms.length by omega) hnx_14.symm)) rfl kj kj) <| sg 1 kj <| Qak (.bool true) 41 #[.int .i64 (nth (nt.n.ms) (j)),.slice a_o wo.length c_o] 47 rfl kj kj (inRb wo (nth nt.n.ms j) a_o c_o _ _ hol (RdK.here (RdK.ext ho xx1)) true (decide_eq_true hq)) fun W4 e4=>?_
   have x4:=Ext.tr xx1 e4
   refine sg 1 kj <| sgN hK13 <| cond_false kj <| wp_skip <| hK12 _ _ <| Qad <| sg 1 kj <| Qaa (.int .i64 ((j+1:Nat):Int)) 40 rfl kj (Qag (u:=.int .i64 (IntKind.i64.wrap (((j:Nat):Int)+1))) kj (congrArg (Value.int .i64) (i64n _ _ (by omega) (by omega)))) <| sg 1 kj <| Qaj ?_
   have y2_3:=(Ext.low (Rely.Ext.refl W2) l3 (Rely.Ext.refl W2).size)
   repeat (first | with_reducible refine goX1 ?_ | with_reducible refine goX2 ?_ | with_reducible refine goX3 ?_)
   exact Qap ((j+1),u) ⟨kj,kj,kj,kj,kj,kj,trivial⟩ ⟨(by omega),(by rw [Qit (by omega) hq]; exact (hu.ext e4)),(RowKit.Below.trans l3 (RowKit.Below.mono e4 y2_3.size)),x4⟩ (by show nt.n.ms.length-(j+1)<nt.n.ms.length-j; omega)
  ·skip
   refine Qad <| sg 1 kj <| Qaa (.slice nt.a nt.n.ms.length nt.c) 42 rfl kj (Qaf 24 _ g3 98 50 _ (.slice nt.a nt.n.ms.length nt.c) _ r3_3 rfl kj (Qah [#[.bool nt.n.us],#[.int .i64 nt.n.nm],ints .u8 (nt.n.key),ints .u8 (nt.n.sg),ints .u8 (nt.n.pa)] [#[.slice nt.a nt.n.ms.length nt.c]] [] 98 (by rw [Qab,Qab,Qab,Qab,Qab]; simp only [qS,cat,((Qac _ _).trans okt.gl),((Qac _ _).trans okt.kl),((Qac _ _).trans okt.pl)]; rfl) 0 _ rfl) kj) ?_
   have y0_3:=(Ext.low y0_2 l3 y0_2.size)
   have hnx_16:(nt.n.ms).length=nt.n.ms.length:=rfl
   obtain ⟨gcx_16,ocx_16,hax_16,hlx_16,hcx_16⟩:=QaO (RdK.here (RdK.ext rdt y0_3)) (by rw [hnx_16]; omega)
   refine sg 1 kj <| Qaa (.pointer (some ⟨gcx_16,ocx_16+j,none⟩)) 44 rfl kj (Qa1 24 _ _ .i64 j gcx_16 ocx_16 nt.n.ms.length nt.c 3 nt.a _ hax_16 rfl rfl kj kj kj kj (Nat.lt_of_lt_of_eq (show j<nt.n.ms.length by omega) hnx_16.symm)) <| Qaa (.int .i64 (nth (nt.n.ms) (j))) 45 rfl kj (Qai 3 _ _ (.int .i64 (nth (nt.n.ms) (j))) (hcx_16 j (Nat.lt_of_lt_of_eq (show j<nt.n.ms.length by omega) hnx_16.symm)) rfl kj kj) <| sg 1 kj <| Qak (.bool false) 41 #[.int .i64 (nth (nt.n.ms) (j)),.slice a_o wo.length c_o] 47 rfl kj kj (inRb wo (nth nt.n.ms j) a_o c_o _ _ hol (RdK.here (RdK.ext ho xx1)) false (decide_eq_false hq)) fun W4 e4=>?_
   have x4:=Ext.tr xx1 e4
   refine sg 1 kj <| sgN hK13 <| cond_true kj <| Qad <| sg 2 kj ?_
   have r3_4:=(Qae r3_3 e4)
   refine Qaa (.slice nt.a nt.n.ms.length nt.c) 51 rfl kj (Qaf 24 _ g3 98 50 _ (.slice nt.a nt.n.ms.length nt.c) _ r3_4 rfl kj (Qah [#[.bool nt.n.us],#[.int .i64 nt.n.nm],ints .u8 (nt.n.key),ints .u8 (nt.n.sg),ints .u8 (nt.n.pa)] [#[.slice nt.a nt.n.ms.length nt.c]] [] 98 (by rw [Qab,Qab,Qab,Qab,Qab]; simp only [qS,cat,((Qac _ _).trans okt.gl),((Qac _ _).trans okt.kl),((Qac _ _).trans okt.pl)]; rfl) 0 _ rfl) kj) ?_
   refine sg 1 kj <| Qaa (.pointer (some ⟨gcx_16,ocx_16+j,none⟩)) 53 rfl kj (Qa1 24 _ _ .i64 j gcx_16 ocx_16 nt.n.ms.length nt.c 3 nt.a _ hax_16 rfl rfl kj kj kj kj (Nat.lt_of_lt_of_eq (show j<nt.n.ms.length by omega) hnx_16.symm)) <| Qaa (.int .i64 (nth (nt.n.ms) (j))) 54 rfl kj (Qai 3 _ _ (.int .i64 (nth (nt.n.ms) (j))) ((Below.cell (Rely.Ext.trans (Rely.Ext.refl V1) e4) hlx_16).trans (hcx_16 j (Nat.lt_of_lt_of_eq (show j<nt.n.ms.length by omega) hnx_16.symm))) rfl kj kj) <| Qa9 (ints .i64 ([(nth (nt.n.ms) (j))])) 3 1 55 rfl kj kj fun g17 W5 l17 e5 r17_5=>?_
   have x5:=Ext.tr x4 e5
   have b17:=qT x4.size l17
   have y2_3:=(Ext.low (Rely.Ext.refl W2) l3 (Rely.Ext.refl W2).size)
   have y2_4:=(Rely.Ext.trans y2_3 e4)
   refine QaC (k:=.i64) (T:=3) (xs:=exc (nt.n.ms.take j) wo) (ys:=[nth nt.n.ms j]) (V:=W2) 8 (.tmp 49) (.tmp 55) 24 rfl kj kj (by decide) 56 rfl kj kj kj ((hu.ext e4).ext e5) (QaJ (xs:=[(nth (nt.n.ms) (j))]) (n:=1) rfl r17_5 (Qa5 r17_5) (show 1≤maxLen from by decide)) (by have h9:=QgK nt.n.ms wo j; show (exc (nt.n.ms.take j) wo).length+1≤1000000000; omega) (Rely.Ext.trans y2_4 e5) fun u2 W6 f20 y6 l6=>?_
   have x6:=Ext.low x5 l6 x2.size
   refine sg 1 kj <| Qaj <| hK12 _ _ <| Qad <| sg 1 kj <| Qaa (.int .i64 ((j+1:Nat):Int)) 40 rfl kj (Qag (u:=.int .i64 (IntKind.i64.wrap (((j:Nat):Int)+1))) kj (congrArg (Value.int .i64) (i64n _ _ (by omega) (by omega)))) <| sg 1 kj <| Qaj ?_
   repeat (first | with_reducible refine goX1 ?_ | with_reducible refine goX2 ?_ | with_reducible refine goX3 ?_)
   exact Qap ((j+1),u2) ⟨kj,kj,kj,kj,kj,kj,trivial⟩ ⟨(by omega),(by rw [QjJ (by omega) hq]; exact f20),(RowKit.Below.trans (RowKit.Below.trans (RowKit.Below.trans l3 (RowKit.Below.mono e4 y2_3.size)) (RowKit.Below.mono e5 y2_4.size)) l6),x6⟩ (by show nt.n.ms.length-(j+1)<nt.n.ms.length-j; omega)
 ·skip
  have heq38:j=nt.n.ms.length:=by have:=of_decide_eq_false c11; omega
  have hu7:OwnN .i64 3 W2.heap.size (exc nt.n.ms wo) u V1:=by have h9:=hu; rw [heq38,List.take_length] at h9; exact h9
  obtain ⟨a5,c5,rfl,-⟩:=id (OwnN.rd hu7)
  obtain ⟨n5,hn5⟩:∃ z:NdV,z=⟨Qdm ts wo x,a5,c5⟩:=⟨_,rfl⟩
  have ok5:NdOk n5.n:=by rw [hn5]; exact Qfl (ent▸okt)
  have hm5:n5.n.ms.length≤50:=by rw [hn5]; exact qT (Qd9 _ _) (hmt x hx)
  have hu5:OwnN .i64 3 W2.heap.size n5.n.ms (.slice n5.a n5.n.ms.length n5.c) V1:=by
   rw [hn5]; show OwnN _ _ _ (exc (ndi ts x).n.ms wo) (.slice a5 (exc (ndi ts x).n.ms wo).length c5) _; rw [←ent]; exact hu7
  refine wp_exit <| hK7 _ _ <| sgC fun K21 hK21=>sg 2 kj <| Qav g3 _ (cat [#[.bool nt.n.us],#[.int .i64 nt.n.nm],ints .u8 (nt.n.key),ints .u8 (nt.n.sg),ints .u8 (nt.n.pa),#[.slice a5 (exc nt.n.ms wo).length c5]]) 50 r3_3 rfl kj (run_storeQ 24 _ _ g3 98 50 [#[.bool nt.n.us],#[.int .i64 nt.n.nm],ints .u8 (nt.n.key),ints .u8 (nt.n.sg),ints .u8 (nt.n.pa)] [] _ (.slice a5 (exc nt.n.ms wo).length c5) r3_3 rfl kj kj kj (by rw [Qab,Qab,Qab,Qab,Qab]; simp only [qS,cat,((Qac _ _).trans okt.gl),((Qac _ _).trans okt.kl),((Qac _ _).trans okt.pl)]; rfl) rfl rfl) fun W4 p4 r3_4=>?_
  have x4:=Puts.ext p4 xx1 b3
  have r10x:W4.heap[g3]? = some (.cells (cat [#[.bool n5.n.us],#[.int .i64 n5.n.nm],ints .u8 (n5.n.key),ints .u8 (n5.n.sg),ints .u8 (n5.n.pa),#[.slice n5.a n5.n.ms.length n5.c]]) 50):=by have h9:=r3_4; rw [hn5]; show _=some (Obj.cells (cat [#[.bool (ndi ts x).n.us],#[.int .i64 (ndi ts x).n.nm],ints .u8 (ndi ts x).n.key,ints .u8 (ndi ts x).n.sg,ints .u8 (ndi ts x).n.pa,#[.slice a5 (exc (ndi ts x).n.ms wo).length c5]]) _); rw [←ent]; exact h9
  refine sgN hK21 <| sgC fun K22 hK22=>sg 1 kj <| Qak (.tuple #[.int .i64 ((l:Nat):Int),.int .i64 ((r:Nat):Int)]) 16 #[.int .i64 ((x:Nat):Int)] 61 rfl kj kj (hkid _) fun W5 e5=>?_
  have x5:=Ext.tr x4 e5
  refine sg 5 kj <| sgN hK22 <| sgC fun K23 hK23=>sg 3 kj <| Qak (.agg (ints .u8 (dig (txtN ts wo k l)))) 14 #[.slice a_t ts.length c_t,.int .i64 ((l:Nat):Int),.slice a_o wo.length c_o] 67 rfl kj kj (hl _ (TrAt.ext ht x5) (RdK.here (RdK.ext ho x5))) fun W6 e6=>?_
  have x6:=Ext.tr x5 e6
  refine Qal (ints .u8 (List.replicate 32 0)) 28 12 rfl kj kj fun g24 W7 l24 e7 r24_7=>Qav g24 _ (ints .u8 (dig (txtN ts wo k l))) 28 r24_7 rfl kj (Qat 28 _ _ g24 28 _ _ r24_7 rfl kj kj (isz (n:=32) kj ((Qac _ _).trans (QaG _))) (eqsz (n:=32) ((Qac _ _).trans (qZ (n:=32))) ((Qac _ _).trans (QaG _))) (Qau _ _)) fun W8 p8 r24_8=>?_
  have x8:=Puts.ext p8 (Ext.tr x6 e7) (qT x6.size l24)
  refine sgN hK23 <| sgC fun K25 hK25=>sg 3 kj <| Qak (.agg (ints .u8 (dig (txtN ts wo k r)))) 14 #[.slice a_t ts.length c_t,.int .i64 ((r:Nat):Int),.slice a_o wo.length c_o] 71 rfl kj kj (hr _ (TrAt.ext ht x8) (RdK.here (RdK.ext ho x8))) fun W9 e9=>?_
  have x9:=Ext.tr x8 e9
  refine Qal (ints .u8 (List.replicate 32 0)) 28 13 rfl kj kj fun g26 W10 l26 e10 r26_10=>Qav g26 _ (ints .u8 (dig (txtN ts wo k r))) 28 r26_10 rfl kj (Qat 28 _ _ g26 28 _ _ r26_10 rfl kj kj (isz (n:=32) kj ((Qac _ _).trans (QaG _))) (eqsz (n:=32) ((Qac _ _).trans (qZ (n:=32))) ((Qac _ _).trans (QaG _))) (Qau _ _)) fun W11 p11 r26_11=>?_
  have x11:=Puts.ext p11 (Ext.tr x9 e10) (qT x9.size l26)
  refine sgN hK25 <| sgC fun K27 hK27=>Qa9 (ints .u8 ([2])) 5 1 72 rfl kj kj fun g28 W12 l28 e12 r28_12=>?_
  have b28:=qT x11.size l28
  have r3_6:=(Qae (Qae r10x e5) e6)
  have r3_9:=(Qae (Puts.row p8 (Qae r3_6 e7) (Qaw r3_6 l24)) e9)
  refine Qaa (.agg (cat [#[.bool n5.n.us],#[.int .i64 n5.n.nm],ints .u8 (n5.n.key),ints .u8 (n5.n.sg),ints .u8 (n5.n.pa),#[.slice n5.a n5.n.ms.length n5.c]])) 73 rfl kj (QaA 50 _ g3 50 _ _ (Qae (Puts.row p11 (Qae r3_9 e10) (Qaw r3_9 l26)) e12) rfl kj kj (isz (n:=99) kj (by rw [Qab,Qab,Qab,Qab,Qab,Qab]; simp only [qS,cat,((Qac _ _).trans ok5.gl),((Qac _ _).trans ok5.kl),((Qac _ _).trans ok5.pl)]; rfl))) ?_
  have hb0:=Qdn ok5
  have f31_6:=(((hu5.puts p4 (nb_old hu5 (Qa5 r3_2))).ext e5).ext e6)
  have f34_9:=(((f31_6.ext e7).puts p8 (Qer f31_6 l24)).ext e9)
  refine Qa0 (fun v W'=>(OwnN .u8 5 W12.heap.size (QaR n5.n)) v W'∧Ext W12 W') 57 #[.agg (cat [#[.bool n5.n.us],#[.int .i64 n5.n.nm],ints .u8 (n5.n.key),ints .u8 (n5.n.sg),ints .u8 (n5.n.pa),#[.slice n5.a n5.n.ms.length n5.c]])] 74 rfl kj kj ((Wr.rnodeC n5.n.us n5.n.nm n5.n.key n5.n.sg n5.n.pa n5.n.ms _ _ _ ok5.kl ok5.gl ok5.pl (qT hm5 (by decide)) (RdK.here (OwnN.rd (((f34_9.ext e10).puts p11 (Qer f34_9 l26)).ext e12)))).mono (by rintro e w' ⟨v,rfl,e1,hv⟩; exact ⟨v,rfl,hv,e1⟩)) fun vv38 W13 hh38=>?_
  obtain ⟨hv38,e13⟩:=hh38
  obtain ⟨ab_,cb_,rfl,-⟩:=id (OwnN.rd hv38)
  refine QaC (k:=.u8) (T:=5) (xs:=[2]) (ys:=QaR n5.n) (V:=W11) 1 (.tmp 72) (.tmp 74) 59 rfl kj kj (by decide) 75 rfl kj kj kj (Qb4 (xs:=[2]) rfl l28 (Qae r28_12 e13) (by decide)) (OwnN.rd hv38) (by simp only [List.length_append,QaG,hb0,List.length_cons,List.length_nil]; omega) (Rely.Ext.trans (Rely.Ext.trans (Rely.Ext.refl W11) e12) e13) fun z1 W14 f39 y14 l14=>?_
  refine sg 1 kj <| sgN hK27 <| wp_seq_k fun K41 hK41=>QbO (fun _=>True) kj fun W15 e15=>⟨trivial,?_⟩
  refine Qas 0 (z1) 76 rfl rfl kj kj (fun _ _ _ h=>h) (fun W hR=>by kernel_rfl) <| Qas 1 (.slice (some ⟨g24,0,none⟩) 32 32) 77 rfl rfl kj kj (fun _ _ _ h=>h) (fun W hR=>by kernel_rfl) <| Qas 3 (.slice (some ⟨g26,0,none⟩) 32 32) 79 rfl rfl kj kj (fun _ _ _ h=>h) (fun W hR=>by kernel_rfl) <| Qbt 2 kj ?_
  have r24_9:=(Qae r24_8 e9)
  have r24_11:=(Puts.row p11 (Qae r24_9 e10) (Qaw r24_9 l26))
  have r24_15:=(Qae (Qbb l14 (Qae (Qae r24_11 e12) e13) (Qa5 r24_11)) e15)
  refine Wr.wo_appendT (k:=.u8) (T:=5) (xs:=[2]++QaR n5.n) (ys:=dig (txtN ts wo k l)) (V:=W11) 1 (.tmp 76) (.tmp 77) 59 rfl kj kj (by decide) 78 rfl 2 rfl kj kj kj (f39.ext e15) (QaJ (xs:=dig (txtN ts wo k l)) (n:=32) (QaG _) r24_15 (Qa5 r24_15) (show 32≤maxLen from by decide)) (by simp only [List.length_append,QaG,hb0,List.length_cons,List.length_nil]; omega) (Rely.Ext.trans y14 e15) fun z2 W16 f43 y16 l16=>?_
  refine Qbt 4 kj ?_
  have r26_16:=(Qbb l16 (Qae (Qbb l14 (Qae (Qae r26_11 e12) e13) (Qa5 r26_11)) e15) (Qa5 r26_11))
  refine Wr.wo_appendT (k:=.u8) (T:=5) (xs:=[2]++QaR n5.n++dig (txtN ts wo k l)) (ys:=dig (txtN ts wo k r)) (V:=W11) 1 (.tmp 78) (.tmp 79) 59 rfl kj kj (by decide) 80 rfl 4 rfl kj kj kj f43 (QaJ (xs:=dig (txtN ts wo k r)) (n:=32) (QaG _) r26_16 (Qa5 r26_16) (show 32≤maxLen from by decide)) (by simp only [List.length_append,QaG,hb0,List.length_cons,List.length_nil]; omega) y16 fun z3 W17 f45 y17 l17=>?_
  refine Qas 5 (z3) 6 rfl rfl kj kj (fun _ _ _ h=>h) (fun W hR=>by kernel_rfl) <| Qcb kj <| hK41 _ _ <| wp_ret ?_
  repeat (first | with_reducible refine goR1 ?_ | with_reducible refine goR2 ?_)
  exact (show bodyPost _ _ _ .ret _ _ from ret1 (z3) rfl (Qar kj) ⟨_,rfl,(Ext.low (Ext.low (Ext.tr (Ext.low (Ext.tr (Ext.tr x11 e12) e13) l14 x11.size) e15) l16 x11.size) l17 x11.size),OwnN.base x11.size (by have h9:=f45; rw [Qgy k hl0 hr0]; rw [hn5] at h9; exact h9)⟩)
theorem QlS (ts : List NdV) (a_t:Option Addr) (c_t B1:Nat) (htl:ts.length≤100000) (hmt:∀ i,i<ts.length→(ndi ts i).n.ms.length≤50) (L:Nat) (f:Form ts L) (ok0:∀ x,x<ts.length→NdOk (ndi ts x).n) (wo:List Int) (a_o:Option Addr) (c_o Bo:Nat) (w:World) (ht:TrAt B1 w a_t ts) (hol:wo.length≤1000000) (ho:RdK .i64 Bo wo (.slice a_o wo.length c_o) w) (k x:Nat) (hx:x<ts.length) (htx:∀ w,TrAt B1 w a_t ts→RdK .i64 w.heap.size wo (.slice a_o wo.length c_o) w→Calls Tryd.prog 35 #[.slice a_t ts.length c_t,.int .i64 ((x:Nat):Int),.slice a_o wo.length c_o] w (Qbs w (OwnN .u8 5 w.heap.size (txtN ts wo k x)))):Calls Tryd.prog 14 #[.slice a_t ts.length c_t,.int .i64 ((x:Nat):Int),.slice a_o wo.length c_o] w (Ret w (.agg (ints .u8 (dig (txtN ts wo k x))))):=by
  have htx1:=Qkh (wo:=wo) ok0 hmt k x hx
  refine enter 12 [(0,.slice a_t ts.length c_t),(1,.int .i64 ((x:Nat):Int)),(2,.slice a_o wo.length c_o)] Tryd.func14 rfl rfl kj rfl <| sgC fun K1 hK1=>Qal (ints .u8 (List.replicate 32 0)) 28 6 rfl kj kj fun g2 W1 l2 e1 r2_1=>?_
  have x1:=Ext.tr (Rely.Ext.refl w) e1
  refine sgN hK1 <| sgC fun K3 hK3=>sg 3 kj <| Qa0 (fun v W'=>(OwnN .u8 5 W1.heap.size (txtN ts wo k x)) v W'∧Ext W1 W') 35 #[.slice a_t ts.length c_t,.int .i64 ((x:Nat):Int),.slice a_o wo.length c_o] 10 rfl kj kj ((htx _ (TrAt.ext ht x1) (RdK.here (RdK.ext ho x1))).mono (by rintro e w' ⟨v,rfl,e1,hv⟩; exact ⟨v,rfl,hv,e1⟩)) fun vv4 W2 hh4=>?_
  obtain ⟨hv4,e2⟩:=hh4
  obtain ⟨ab_,cb_,rfl,-⟩:=id (OwnN.rd hv4)
  have hrd5:=(OwnN.rd hv4)
  refine Qak (.agg (ints .u8 (dig (txtN ts wo k x)))) 34 #[.slice ab_ ((txtN ts wo k x).length) cb_] 11 rfl kj kj (Qga (txtN ts wo k x) _ _ _ (qT htx1.2 (by decide)) htx1.1 (RdK.here hrd5)) fun W3 e3=>?_
  have r2_3:=(Qae (Qae r2_1 e2) e3)
  refine Qav g2 _ (ints .u8 (dig (txtN ts wo k x))) 28 r2_3 rfl kj (Qat 28 _ _ g2 28 _ _ r2_3 rfl kj kj (isz (n:=32) kj ((Qac _ _).trans (QaG _))) (eqsz (n:=32) ((Qac _ _).trans (qZ (n:=32))) ((Qac _ _).trans (QaG _))) (Qau _ _)) fun W4 p4 r2_4=>sgN hK3 <| wp_ret ?_
  repeat (first | with_reducible refine goR1 ?_ | with_reducible refine goR2 ?_)
  exact (show bodyPost _ _ _ .ret _ _ from ret1 (.agg (ints .u8 (dig (txtN ts wo k x)))) rfl (Qbv g2 28 _ r2_4 kj kj (isz (n:=32) kj ((Qac _ _).trans (QaG _)))) ⟨rfl,(Puts.ext p4 (Ext.tr (Ext.tr x1 e2) e3) (qT (Rely.Ext.refl w).size l2))⟩)
theorem Qm9 (ts : List NdV) (a_t:Option Addr) (c_t B1:Nat) (htl:ts.length≤100000) (hmt:∀ i,i<ts.length→(ndi ts i).n.ms.length≤50) (L:Nat) (f:Form ts L) (ok0:∀ x,x<ts.length→NdOk (ndi ts x).n) (wo:List Int) (a_o:Option Addr) (c_o:Nat) (hol:wo.length≤1000000):∀ (k x:Nat),k≤5→x<ts.length→lv ((x:Nat):Int)≤((k:Nat):Int)→(∀ w,TrAt B1 w a_t ts→RdK .i64 w.heap.size wo (.slice a_o wo.length c_o) w→Calls Tryd.prog 35 #[.slice a_t ts.length c_t,.int .i64 ((x:Nat):Int),.slice a_o wo.length c_o] w (Qbs w (OwnN .u8 5 w.heap.size (txtN ts wo k x))))∧(∀ w,TrAt B1 w a_t ts→RdK .i64 w.heap.size wo (.slice a_o wo.length c_o) w→Calls Tryd.prog 14 #[.slice a_t ts.length c_t,.int .i64 ((x:Nat):Int),.slice a_o wo.length c_o] w (Ret w (.agg (ints .u8 (dig (txtN ts wo k x)))))):=by
  have hlen:=f.len
  have hTr:=f.tr
  intro k
  induction k with
  | zero =>
    intro x hk hx hl
    have h0:=Qln (by omega) (show lv ((x:Nat):Int)≤0 from hl)
    have hA:∀ w,TrAt B1 w a_t ts→RdK .i64 w.heap.size wo (.slice a_o wo.length c_o) w→Calls Tryd.prog 35 #[.slice a_t ts.length c_t,.int .i64 ((x:Nat):Int),.slice a_o wo.length c_o] w (Qbs w (OwnN .u8 5 w.heap.size (txtN ts wo 0 x))):=fun w ht ho=>Qg1 ts a_t c_t B1 htl hmt L f ok0 wo a_o c_o _ w ht hol ho 0 x hx h0
    exact ⟨hA,fun w ht ho=>QlS ts a_t c_t B1 htl hmt L f ok0 wo a_o c_o _ w ht hol ho 0 x hx hA⟩
  | succ k ih =>
    intro x hk hx hl
    have hA:∀ w,TrAt B1 w a_t ts→RdK .i64 w.heap.size wo (.slice a_o wo.length c_o) w→Calls Tryd.prog 35 #[.slice a_t ts.length c_t,.int .i64 ((x:Nat):Int),.slice a_o wo.length c_o] w (Qbs w (OwnN .u8 5 w.heap.size (txtN ts wo (k+1) x))):=fun w ht ho=>by
      have hi:i64 ((x:Nat):Int):=⟨by omega,by omega⟩
      rcases QbP (QaK hTr (x:=x) (by omega)) with ⟨-,⟨h0,h1⟩ | ⟨h2,h3,h4,h5⟩⟩
      · exact Qg1 ts a_t c_t B1 htl hmt L f ok0 wo a_o c_o _ w ht hol ho (k+1) x hx (QgM (QaK hTr (x:=x) (by omega)) h0)
      · obtain ⟨l,hl0⟩:=Int.eq_ofNat_of_zero_le (QbL h2)
        obtain ⟨r,hr0⟩:=Int.eq_ofNat_of_zero_le (QbL h3)
        have hll:=QbQ h2
        have hrl:=QbQ h3
        exact QiK ts a_t c_t B1 htl hmt L f ok0 wo a_o c_o _ w ht hol ho k x hx (fun q=>by have:=Qfw (by omega) q; omega) l r hl0 hr0 (fun W=>by have:=(quiet (rchildren _ hi W)); rw [hl0,hr0] at this; exact this) (ih l (by omega) (by omega) (by rw [←hl0]; omega)).2 (ih r (by omega) (by omega) (by rw [←hr0]; omega)).2
    exact ⟨hA,fun w ht ho=>QlS ts a_t c_t B1 htl hmt L f ok0 wo a_o c_o _ w ht hol ho (k+1) x hx hA⟩
end Go.Proofs.YthfkppjajmjpnaaDoor.Te
end
section
namespace Go.Proofs.YthfkppjajmjpnaaDoor.Te
open Go Go.RowKit
open Rely Auto Own Seat Wk Sha
theorem TrAt.oks {B : Nat} {w:World} {a:Option Addr} {ts:List NdV} (h:TrAt B w a ts):∀ x,x<ts.length→NdOk (ndi ts x).n:=by
  obtain ⟨g,o,h1,h2⟩:=h
  exact fun x hx=>(h2 x hx).ok
theorem Qj2 {n : NdV} {base g:Nat} {W:World} (hg:base≤g) (r:W.heap[g]? = some (.cells (cat (ndP n)) 50)) (ok:NdOk n.n) (hn:NdIn base W n):TrAt W.heap.size W (some ⟨g,0,none⟩) [n] :=
  (OwH.made (h:=none) (ts:=[n]) (c:=1) hg r (Qcz _ ok) (qR _) (by decide) (fun i hi j hj=>by obtain rfl:i=0:=Nat.lt_one_iff.1 hi; rw [Nat.zero_mul,Nat.zero_add]; rfl) (fun i hi=>by obtain rfl:i=0:=Nat.lt_one_iff.1 hi; exact ok) (fun i hi _=>by obtain rfl:i=0:=Nat.lt_one_iff.1 hi; exact hn) (fun i j hi hj hij _ _=>absurd ((Nat.lt_one_iff.1 hi).trans (Nat.lt_one_iff.1 hj).symm) hij)).tr
def dgN (ts : List NdV) (wo:List Int) (x:Nat):List Int:=dig (txtN ts wo 5 x)
theorem QaU (ts : List NdV) (wo:List Int) (x:Nat):(dgN ts wo x).length=32:=QaG _
theorem Qft {ts : List NdV} {L x:Nat} (f:Form ts L) (hx:x<ts.length):lv ((x:Nat):Int)≤((5:Nat):Int):=by
  have hlen:=f.len
  have hTr:=f.tr
  exact (QbP (QaK hTr (x:=x) (by omega))).1
theorem QcV {ts : List NdV} {L:Nat} (f:Form ts L):leaves ((ts.length:Nat):Int)=((L:Nat):Int):=by
  have h1:=f.len
  have h2:=QaB f.tr
  have e:(ts.length:Nat)=2*L-1:=by omega
  rcases h2 with h | h | h | h | h | h <;> (obtain rfl:L=_:=Int.ofNat.inj h; rw [e]; decide +kernel)
theorem digD (ts : List NdV) (a_t:Option Addr) (c_t B1:Nat) (htl:ts.length≤100000) (hmt:∀ i,i<ts.length→(ndi ts i).n.ms.length≤50) (hc:chkT ts=true) (wo:List Int) (a_o:Option Addr) (c_o Bo:Nat) (w:World) (ht:TrAt B1 w a_t ts) (hT:TabAt w) (hSh:ShT w) (hol:wo.length≤1000000) (ho:RdK .i64 Bo wo (.slice a_o wo.length c_o) w) (x:Nat) (hx:x<ts.length):Calls Tryd.prog 27 #[.slice a_t ts.length c_t,.int .i64 ((x:Nat):Int),.slice a_o wo.length c_o] w (Ret w (.agg (ints .u8 (dgN ts wo x)))):=by
  obtain ⟨L,f,-⟩:=Qc1 htl hc
  exact digP ts a_t c_t B1 htl hmt L f ht.oks wo a_o c_o 0 hol 5 x (qR _) hx (Qft f hx) w ht hT hSh (RdK.here ho)
theorem QkD (ts : List NdV) (a_t:Option Addr) (c_t B1:Nat) (htl:ts.length≤100000) (hmt:∀ i,i<ts.length→(ndi ts i).n.ms.length≤50) (hc:chkT ts=true) (wo:List Int) (a_o:Option Addr) (c_o Bo:Nat) (w:World) (ht:TrAt B1 w a_t ts) (hol:wo.length≤1000000) (ho:RdK .i64 Bo wo (.slice a_o wo.length c_o) w) (x:Nat) (hx:x<ts.length):Calls Tryd.prog 14 #[.slice a_t ts.length c_t,.int .i64 ((x:Nat):Int),.slice a_o wo.length c_o] w (Ret w (.agg (ints .u8 (dgN ts wo x)))):=by
  obtain ⟨L,f,-⟩:=Qc1 htl hc
  exact (Qm9 ts a_t c_t B1 htl hmt L f ht.oks wo a_o c_o hol 5 x (qR _) hx (Qft f hx)).2 w ht (RdK.here ho)
set_option maxRecDepth 100000 in
theorem Qmb (ts : List NdV) (a_t:Option Addr) (c_t B1:Nat) (htl:ts.length≤100000) (hmt:∀ i,i<ts.length→(ndi ts i).n.ms.length≤50) (wo:List Int) (a_o:Option Addr) (c_o Bo:Nat) (w:World) (ht:TrAt B1 w a_t ts) (hT:TabAt w) (hSh:ShT w) (hol:wo.length≤1000000) (ho:RdK .i64 Bo wo (.slice a_o wo.length c_o) w) (hc:chkT ts=true) (x:Nat) (hx:x<ts.length):Calls Tryd.prog 10 #[.slice a_t ts.length c_t,.int .i64 ((x:Nat):Int),.slice a_o wo.length c_o] w (Ret w (.tuple #[.agg (ints .u8 (dgN ts wo x)),.bool true])):=by
  refine enter 26 [(0,.slice a_t ts.length c_t),(1,.int .i64 ((x:Nat):Int)),(2,.slice a_o wo.length c_o)] Tryd.func10 rfl rfl kj rfl <| sgC fun K1 hK1=>Qal (ints .u8 (List.replicate 32 0)) 28 6 rfl kj kj fun g2 W1 l2 e1 r2_1=>?_
  have x1:=Ext.tr (Rely.Ext.refl w) e1
  refine sg 1 kj <| sgN hK1 <| wp_seq_k fun K3 hK3=>sgC fun K4 hK4=>sg 1 kj <| Qaa (.bool false) 9 rfl kj (Qag (u:=.bool (decide (((x:Nat):Int)<0))) kj (congrArg Value.bool (decide_eq_false (by omega)))) <| sg 4 kj <| Qaa (.bool false) 14 rfl kj (Qag (u:=.bool (decide (((x:Nat):Int)≥((ts.length:Nat):Int)))) kj (congrArg Value.bool (decide_eq_false (by omega)))) <| sg 3 kj <| Qak (.nilIface) 26 #[.slice a_t ts.length c_t] 18 rfl kj kj (QgO ts a_t c_t _ _ (TrAt.ext ht x1) htl (fun i hi=>qT (hmt i hi) (by decide)) (TabAt.ext hT x1) hc) fun W2 e2=>?_
  have x2:=Ext.tr x1 e2
  refine sg 2 kj <| sgN hK4 <| cond_false kj <| wp_skip <| hK3 _ _ <| sgC fun K5 hK5=>sg 3 kj <| Qak (.agg (ints .u8 (dgN ts wo x))) 27 #[.slice a_t ts.length c_t,.int .i64 ((x:Nat):Int),.slice a_o wo.length c_o] 25 rfl kj kj (digD ts a_t c_t B1 htl hmt hc wo a_o c_o _ _ (TrAt.ext ht x2) (TabAt.ext hT x2) (ShT.ext hSh x2) hol (RdK.ext ho x2) x hx) fun W3 e3=>?_
  have r2_3:=(Qae (Qae r2_1 e2) e3)
  refine Qav g2 _ (ints .u8 (dgN ts wo x)) 28 r2_3 rfl kj (Qat 28 _ _ g2 28 _ _ r2_3 rfl kj kj (isz (n:=32) kj ((Qac _ _).trans (QaU ts wo x))) (eqsz (n:=32) ((Qac _ _).trans (qZ (n:=32))) ((Qac _ _).trans (QaU ts wo x))) (Qau _ _)) fun W4 p4 r2_4=>sg 1 kj <| sgN hK5 <| wp_ret ?_
  repeat (first | with_reducible refine goR1 ?_ | with_reducible refine goR2 ?_)
  exact (show bodyPost _ _ _ .ret _ _ from ret2 (.agg (ints .u8 (dgN ts wo x))) (.bool true) rfl (Qbv g2 28 _ r2_4 kj kj (isz (n:=32) kj ((Qac _ _).trans (QaU ts wo x)))) (Qar kj) ⟨rfl,(Puts.ext p4 (Ext.tr x2 e3) (qT (Rely.Ext.refl w).size l2))⟩)
set_option maxRecDepth 100000 in
theorem QiZ (ts : List NdV) (a_t:Option Addr) (c_t B1:Nat) (htl:ts.length≤100000) (hmt:∀ i,i<ts.length→(ndi ts i).n.ms.length≤50) (hc:chkT ts=true) (w:World) (ht:TrAt B1 w a_t ts) (hT:TabAt w) (hSh:ShT w) (L:Nat) (hL:leaves ((ts.length:Nat):Int)=((L:Nat):Int)) (h0:0<ts.length) (hroot:∀ W,Calls Tryd.prog 28 #[.int .i64 ((L:Nat):Int)] W (Ret W (.int .i64 ((ts.length/2:Nat):Int)))):Calls Tryd.prog 11 #[.slice a_t ts.length c_t] w (Ret w (.tuple #[.agg (ints .u8 (dgN ts [] (ts.length/2))),.bool true])):=by
  refine enter 12 [(0,.slice a_t ts.length c_t)] Tryd.func11 rfl rfl kj rfl <| sgC fun K1 hK1=>Qal (ints .u8 (List.replicate 32 0)) 28 2 rfl kj kj fun g2 W1 l2 e1 r2_1=>sg 1 kj <| sgN hK1 <| sgC fun K3 hK3=>sg 3 kj <| Qak (.int .i64 ((L:Nat):Int)) 29 #[.int .i64 ((ts.length:Nat):Int)] 7 rfl kj kj (Qce ((ts.length:Nat):Int) ⟨by omega,by omega⟩ _ hL _) fun W2 e2=>Qak (.int .i64 (((ts.length/2):Nat):Int)) 28 #[.int .i64 ((L:Nat):Int)] 8 rfl kj kj (hroot _) fun W3 e3=>?_
  have x3:=Ext.tr (Ext.tr (Ext.tr (Rely.Ext.refl w) e1) e2) e3
  refine Qak (.tuple #[.agg (ints .u8 (dgN ts [] (ts.length/2))),.bool true]) 10 #[.slice a_t ts.length c_t,.int .i64 (((ts.length/2):Nat):Int),.slice none 0 0] 9 rfl kj kj (Qmb ts a_t c_t B1 htl hmt [] none 0 0 _ (TrAt.ext ht x3) (TabAt.ext hT x3) (ShT.ext hSh x3) (by decide) (show RdK .i64 0 ([]:List Int) (.slice none ([]:List Int).length 0) _ from QeK 0 _) hc (ts.length/2) (by omega)) fun W4 e4=>sg 2 kj ?_
  have r2_4:=(Qae (Qae (Qae r2_1 e2) e3) e4)
  refine Qav g2 _ (ints .u8 (dgN ts [] (ts.length/2))) 28 r2_4 rfl kj (Qat 28 _ _ g2 28 _ _ r2_4 rfl kj kj (isz (n:=32) kj ((Qac _ _).trans (QaU ts [] (ts.length/2)))) (eqsz (n:=32) ((Qac _ _).trans (qZ (n:=32))) ((Qac _ _).trans (QaU ts [] (ts.length/2)))) (Qau _ _)) fun W5 p5 r2_5=>sg 1 kj <| sgN hK3 <| wp_ret ?_
  repeat (first | with_reducible refine goR1 ?_ | with_reducible refine goR2 ?_)
  exact (show bodyPost _ _ _ .ret _ _ from ret2 (.agg (ints .u8 (dgN ts [] (ts.length/2)))) (.bool true) rfl (Qbv g2 28 _ r2_5 kj kj (isz (n:=32) kj ((Qac _ _).trans (QaU ts [] (ts.length/2))))) (Qar kj) ⟨rfl,(Puts.ext p5 (Ext.tr x3 e4) (qT (Rely.Ext.refl w).size l2))⟩)
set_option maxRecDepth 100000 in
theorem QlP (ts : List NdV) (a_t:Option Addr) (c_t B1:Nat) (htl:ts.length≤100000) (hmt:∀ i,i<ts.length→(ndi ts i).n.ms.length≤50) (hc:chkT ts=true) (h0:0<ts.length) (w:World) (ht:TrAt B1 w a_t ts):Calls Tryd.prog 13 #[.slice a_t ts.length c_t] w (Ret w (.agg (ints .u8 (dgN ts [] (ts.length/2))))):=by
  refine enter 8 [(0,.slice a_t ts.length c_t)] Tryd.func13 rfl rfl kj rfl <| sgC fun K1 hK1=>Qal (ints .u8 (List.replicate 32 0)) 28 2 rfl kj kj fun g2 W1 l2 e1 r2_1=>?_
  have x1:=Ext.tr (Rely.Ext.refl w) e1
  refine sgN hK1 <| sgC fun K3 hK3=>sg 3 kj <| Qaa (.int .i64 ((ts.length/2:Nat):Int)) 6 rfl kj (Qag (u:=.int .i64 (IntKind.i64.wrap (Int.tdiv (((ts.length:Nat):Int)) (2)))) kj (congrArg (Value.int .i64) (Qb7 _ 2 (by omega)))) <| Qak (.agg (ints .u8 (dgN ts [] (ts.length/2)))) 14 #[.slice a_t ts.length c_t,.int .i64 ((ts.length/2:Nat):Int),.slice none 0 0] 7 rfl kj kj (QkD ts a_t c_t B1 htl hmt hc [] none 0 0 _ (TrAt.ext ht x1) (by decide) (show RdK .i64 0 ([]:List Int) (.slice none ([]:List Int).length 0) _ from QeK 0 _) (ts.length/2) (by omega)) fun W2 e2=>?_
  have r2_2:=(Qae r2_1 e2)
  refine Qav g2 _ (ints .u8 (dgN ts [] (ts.length/2))) 28 r2_2 rfl kj (Qat 28 _ _ g2 28 _ _ r2_2 rfl kj kj (isz (n:=32) kj ((Qac _ _).trans (QaU ts [] (ts.length/2)))) (eqsz (n:=32) ((Qac _ _).trans (qZ (n:=32))) ((Qac _ _).trans (QaU ts [] (ts.length/2)))) (Qau _ _)) fun W3 p3 r2_3=>sgN hK3 <| wp_ret ?_
  repeat (first | with_reducible refine goR1 ?_ | with_reducible refine goR2 ?_)
  exact (show bodyPost _ _ _ .ret _ _ from ret1 (.agg (ints .u8 (dgN ts [] (ts.length/2)))) rfl (Qbv g2 28 _ r2_3 kj kj (isz (n:=32) kj ((Qac _ _).trans (QaU ts [] (ts.length/2))))) ⟨rfl,(Puts.ext p3 (Ext.tr x1 e2) (qT (Rely.Ext.refl w).size l2))⟩)
theorem QkR (ts : List NdV) (a_t:Option Addr) (c_t B1:Nat) (htl:ts.length≤100000) (hmt:∀ i,i<ts.length→(ndi ts i).n.ms.length≤50) (hc:chkT ts=true) (w:World) (ht:TrAt B1 w a_t ts) (hT:TabAt w) (hSh:ShT w):Calls Tryd.prog 11 #[.slice a_t ts.length c_t] w (Ret w (.tuple #[.agg (ints .u8 (dgN ts [] (ts.length/2))),.bool true])):=by
  obtain ⟨L,f,-⟩:=Qc1 htl hc
  have h1:=f.len
  have h2:=QaB f.tr
  refine QiZ ts a_t c_t B1 htl hmt hc w ht hT hSh L (QcV f) (by omega) (fun W=>?_)
  have h3:=quiet (root ((L:Nat):Int) W)
  rw [if_pos f.tr,show ((L:Nat):Int)-1=((ts.length/2:Nat):Int) by omega] at h3
  exact h3
set_option maxRecDepth 100000 in
theorem Qid (ts : List NdV) (a_t:Option Addr) (c_t B1:Nat) (w:World) (ht:TrAt B1 w a_t ts):Calls Tryd.prog 9 #[.slice a_t ts.length c_t] w (fun e W=>∃ b,e=.returned (.bool b)∧Ext w W∧(b=false→∀ i,i<ts.length→i≤40∧(ndi ts i).n.ms.length≤50)∧(b=true→¬ ∀ i,i<ts.length→i≤40∧(ndi ts i).n.ms.length≤50)):=by
 refine enter 21 [(0,.slice a_t ts.length c_t)] Tryd.func9 rfl rfl kj rfl <| sgB kj <| wp_seq_k fun K2 hK2=>sgB kj <| wp_block <| Qay (fun (s1:Nat)=>[(5,.slice a_t ts.length c_t),(6,.int .i64 ((ts.length:Nat):Int)),(7,.int .i64 ((s1:Nat):Int))]) (fun (s1:Nat) W=>(s1≤ts.length)∧(∀ j,j<s1→j≤40∧(ndi ts j).n.ms.length≤50)∧(Ext w W)∧(Ext w W)) (fun (s1:Nat)=>ts.length-s1) 0 ⟨kj,kj,kj,trivial⟩ ⟨(Nat.zero_le _),(fun j hj=>absurd hj (Nat.not_lt_zero j)),(Rely.Ext.refl w),(Rely.Ext.refl w)⟩ fun s1 X1 V1 hI1=>?_
 obtain ⟨i,hs1⟩:∃ z,z=s1:=⟨_,rfl⟩
 subst hs1
 obtain ⟨hi,hsm,kk1,xx1⟩:=hI1
 replace hi:i≤ts.length:=hi
 replace hsm:∀ j,j<i→j≤40∧(ndi ts j).n.ms.length≤50:=hsm
 replace kk1:Ext w V1:=kk1
 replace xx1:Ext w V1:=xx1
 have e1:=kk1
 refine sgB kj <| wp_seq_k fun K5 hK5=>Qaq (t:=decide (((i:Nat):Int)<((ts.length:Nat):Int))) kj (fun c6=>?_) (fun c6=>?_)
 ·skip
  have hlt8:i<ts.length:=by have:=of_decide_eq_true c6; omega
  refine wp_skip <| hK5 _ _ <| wp_seq_k fun K7 hK7=>wp_block <| sgC fun K8 hK8=>sg 1 kj ?_
  obtain ⟨gtT,otT,hat,hnts⟩:=TrAt.ext ht xx1
  have hnt:=hnts i (by omega)
  obtain ⟨nt,ent⟩:∃ z,z=ndi ts i:=⟨_,rfl⟩
  rw [←ent] at hnt
  have okt:=hnt.ok
  have rdt:=hnt.rd
  refine Qaa (.pointer (some ⟨gtT,otT+i*99,none⟩)) 10 rfl kj (Qan 23 _ _ .i64 i gtT otT ts.length c_t 50 99 a_t (hat (by omega)) rfl kj kj kj kj (by omega)) <| Qaa (.agg (cat [#[.bool nt.n.us],#[.int .i64 nt.n.nm],ints .u8 (nt.n.key),ints .u8 (nt.n.sg),ints .u8 (nt.n.pa),#[.slice nt.a nt.n.ms.length nt.c]])) 11 rfl kj (QaI 50 _ gtT (otT+i*99) nt hnt rfl kj kj kj) <| Qal (cat [#[.bool false],#[.int .i64 0],ints .u8 (List.replicate 32 0),ints .u8 (List.replicate 32 0),ints .u8 (List.replicate 32 0),#[.slice none 0 0]]) 50 4 rfl kj kj fun g9 W2 l9 e2 r9_2=>sg 1 kj <| Qav g9 _ (cat [#[.bool nt.n.us],#[.int .i64 nt.n.nm],ints .u8 (nt.n.key),ints .u8 (nt.n.sg),ints .u8 (nt.n.pa),#[.slice nt.a nt.n.ms.length nt.c]]) 50 r9_2 rfl kj (Qat 50 _ _ g9 50 _ _ r9_2 rfl kj kj (isz (n:=99) kj (by rw [Qab,Qab,Qab,Qab,Qab,Qab]; simp only [qS,cat,((Qac _ _).trans okt.gl),((Qac _ _).trans okt.kl),((Qac _ _).trans okt.pl)]; rfl)) (eqsz (n:=99) (by rw [Qab,Qab,Qab,Qab,Qab,Qab]; simp only [qS,cat,((Qac _ _).trans (qZ (n:=32)))]; rfl) (by rw [Qab,Qab,Qab,Qab,Qab,Qab]; simp only [qS,cat,((Qac _ _).trans okt.gl),((Qac _ _).trans okt.kl),((Qac _ _).trans okt.pl)]; rfl)) (Qbo _ (by intro a ha; simp only [List.mem_cons,List.not_mem_nil,or_false] at ha; rcases ha with rfl | rfl | rfl | rfl | rfl | rfl; exact (Qa7 _ rfl); exact (Qa7 _ rfl); exact (Qau _ _); exact (Qau _ _); exact (Qau _ _); exact (Qa7 _ rfl)))) fun W3 p3 r9_3=>?_
  have x3:=Puts.ext p3 (Ext.tr xx1 e2) (qT xx1.size l9)
  refine sgN hK8 <| wp_seq_k fun K10 hK10=>?_
  rcases (show 40<i∨(i≤40∧50<nt.n.ms.length)∨(i≤40∧nt.n.ms.length≤50) by omega) with hq | hq | hq
  ·skip
   refine Qad <| sg 1 kj <| Qaa (.bool true) 13 rfl kj (Qag (u:=.bool (decide (((i:Nat):Int)>40))) kj (congrArg Value.bool (decide_eq_true (by omega)))) <| sg 6 kj <| sgN hK10 <| cond_true kj <| sgB kj <| wp_ret ?_
   repeat (first | with_reducible refine goR1 ?_ | with_reducible refine goR2 ?_)
   exact (show bodyPost _ _ _ .ret _ _ from ret1 (.bool true) rfl (Qar kj) ⟨true,rfl,x3,(fun h=>by cases h),fun _ h=>by have h9:=h i hlt8; rw [←ent] at h9; omega⟩)
  ·skip
   refine Qad <| sg 1 kj <| Qaa (.bool false) 13 rfl kj (Qag (u:=.bool (decide (((i:Nat):Int)>40))) kj (congrArg Value.bool (decide_eq_false (by omega)))) <| sg 2 kj <| Qaa (.slice nt.a nt.n.ms.length nt.c) 16 rfl kj (Qaf 24 _ g9 98 50 _ (.slice nt.a nt.n.ms.length nt.c) _ r9_3 rfl kj (Qah [#[.bool nt.n.us],#[.int .i64 nt.n.nm],ints .u8 (nt.n.key),ints .u8 (nt.n.sg),ints .u8 (nt.n.pa)] [#[.slice nt.a nt.n.ms.length nt.c]] [] 98 (by rw [Qab,Qab,Qab,Qab,Qab]; simp only [qS,cat,((Qac _ _).trans okt.gl),((Qac _ _).trans okt.kl),((Qac _ _).trans okt.pl)]; rfl) 0 _ rfl) kj) ?_
   refine sg 1 kj <| Qaa (.bool true) 18 rfl kj (Qag (u:=.bool (decide (((nt.n.ms.length:Nat):Int)>50))) kj (congrArg Value.bool (decide_eq_true (by omega)))) <| sg 1 kj <| sgN hK10 <| cond_true kj <| sgB kj <| wp_ret ?_
   repeat (first | with_reducible refine goR1 ?_ | with_reducible refine goR2 ?_)
   exact (show bodyPost _ _ _ .ret _ _ from ret1 (.bool true) rfl (Qar kj) ⟨true,rfl,x3,(fun h=>by cases h),fun _ h=>by have h9:=h i hlt8; rw [←ent] at h9; omega⟩)
  ·skip
   refine Qad <| sg 1 kj <| Qaa (.bool false) 13 rfl kj (Qag (u:=.bool (decide (((i:Nat):Int)>40))) kj (congrArg Value.bool (decide_eq_false (by omega)))) <| sg 2 kj <| Qaa (.slice nt.a nt.n.ms.length nt.c) 16 rfl kj (Qaf 24 _ g9 98 50 _ (.slice nt.a nt.n.ms.length nt.c) _ r9_3 rfl kj (Qah [#[.bool nt.n.us],#[.int .i64 nt.n.nm],ints .u8 (nt.n.key),ints .u8 (nt.n.sg),ints .u8 (nt.n.pa)] [#[.slice nt.a nt.n.ms.length nt.c]] [] 98 (by rw [Qab,Qab,Qab,Qab,Qab]; simp only [qS,cat,((Qac _ _).trans okt.gl),((Qac _ _).trans okt.kl),((Qac _ _).trans okt.pl)]; rfl) 0 _ rfl) kj) ?_
   refine sg 1 kj <| Qaa (.bool false) 18 rfl kj (Qag (u:=.bool (decide (((nt.n.ms.length:Nat):Int)>50))) kj (congrArg Value.bool (decide_eq_false (by omega)))) <| sg 1 kj <| sgN hK10 <| cond_false kj <| wp_skip <| hK7 _ _ <| Qad <| Qaa (.int .i64 ((i+1:Nat):Int)) 20 rfl kj (Qag (u:=.int .i64 (IntKind.i64.wrap (((i:Nat):Int)+1))) kj (congrArg (Value.int .i64) (i64n _ _ (by omega) (by omega)))) <| sg 1 kj ?_
   refine Qaj ?_
   repeat (first | with_reducible refine goX1 ?_ | with_reducible refine goX2 ?_ | with_reducible refine goX3 ?_)
   exact Qap (i+1) ⟨kj,kj,kj,trivial⟩ ⟨(by omega),(fun j hj=>(Nat.lt_or_ge j i).elim (hsm j) fun h=>by have e:j=i:=(by omega); rw [e,←ent]; exact hq),(Puts.ext p3 (Rely.Ext.trans e1 e2) (qT e1.size l9)),x3⟩ (by show ts.length-(i+1)<ts.length-i; omega)
 ·skip
  have heq8:i=ts.length:=by have:=of_decide_eq_false c6; omega
  refine wp_exit <| hK2 _ _ <| sgB kj <| wp_ret ?_
  repeat (first | with_reducible refine goR1 ?_ | with_reducible refine goR2 ?_)
  exact (show bodyPost _ _ _ .ret _ _ from ret1 (.bool false) rfl (Qar kj) ⟨false,rfl,xx1,(fun _ j hj=>hsm j (by omega)),fun h=>by cases h⟩)
theorem Qic (ts : List NdV) (a_t:Option Addr) (c_t B1:Nat) (w:World) (ht:TrAt B1 w a_t ts) (h:¬ ∀ i,i<ts.length→i≤40∧(ndi ts i).n.ms.length≤50):Calls Tryd.prog 9 #[.slice a_t ts.length c_t] w (Ret w (.bool true)) :=
  (Qid ts a_t c_t B1 w ht).mono fun e W ⟨b,h1,h2,h3,h4⟩=>by
    cases b with
    | true=>exact ⟨h1,h2⟩
    | false=>exact absurd (h3 rfl) h
theorem QfL (ts : List NdV) (a_t:Option Addr) (c_t B1:Nat) (w:World) (ht:TrAt B1 w a_t ts) (h:∀ i,i<ts.length→i≤40∧(ndi ts i).n.ms.length≤50):Calls Tryd.prog 9 #[.slice a_t ts.length c_t] w (Ret w (.bool false)) :=
  (Qid ts a_t c_t B1 w ht).mono fun e W ⟨b,h1,h2,h3,h4⟩=>by
    cases b with
    | false=>exact ⟨h1,h2⟩
    | true=>exact absurd h (h4 rfl)
theorem sm15 {ts : List NdV} (h:∀ i,i<ts.length→i≤40∧(ndi ts i).n.ms.length≤50):ts.length≤41:=by
  rcases Nat.lt_or_ge 41 ts.length with h1 | h1
  · exact absurd (h 41 h1).1 (by decide)
  · exact h1
end Go.Proofs.YthfkppjajmjpnaaDoor.Te
end
section
namespace Go.Proofs.YthfkppjajmjpnaaDoor.Te
open Go Go.RowKit
open Rely Auto Own Seat Wk Sha
theorem Qmv (ts : List NdV) (a_t:Option Addr) (c_t B1:Nat) (htl:ts.length≤100000) (hmt:∀ i,i<ts.length→(ndi ts i).n.ms.length≤50) (hc:chkT ts=false) (w:World) (ht:TrAt B1 w a_t ts) (hT:TabAt w):Calls Tryd.prog 18 #[.slice a_t ts.length c_t] w (Ret w (.bool false)):=by
  refine enter 45 [(0,.slice a_t ts.length c_t)] Tryd.func18 rfl rfl kj rfl <| sgB kj <| wp_seq_k fun K2 hK2=>sgC fun K3 hK3=>sg 1 kj <| Qak (.iface 68 (.int .i64 3)) 26 #[.slice a_t ts.length c_t] 8 rfl kj kj (Qmq ts a_t c_t _ _ (TrAt.ext ht (Rely.Ext.refl w)) htl (fun i hi=>qT (hmt i hi) (by decide)) (TabAt.ext hT (Rely.Ext.refl w)) hc) fun W1 e1=>sg 1 kj <| sgN hK3 <| cond_true kj <| sgB kj ?_
  refine wp_ret ?_
  repeat (first | with_reducible refine goR1 ?_ | with_reducible refine goR2 ?_)
  exact (show bodyPost _ _ _ .ret _ _ from ret1 (.bool false) rfl (Qar kj) ⟨rfl,(Ext.tr (Rely.Ext.refl w) e1)⟩)
set_option maxRecDepth 100000 in
theorem QmP (ts : List NdV) (a_t:Option Addr) (c_t B1:Nat) (htl:ts.length≤100000) (hmt:∀ i,i<ts.length→(ndi ts i).n.ms.length≤50) (hc:chkT ts=true) (h1:ts.length=1) (w:World) (ht:TrAt B1 w a_t ts) (hT:TabAt w):Calls Tryd.prog 18 #[.slice a_t ts.length c_t] w (Ret w (.bool true)):=by
 refine enter 45 [(0,.slice a_t ts.length c_t)] Tryd.func18 rfl rfl kj rfl <| sgB kj <| wp_seq_k fun K2 hK2=>sgC fun K3 hK3=>sg 1 kj <| Qak (.nilIface) 26 #[.slice a_t ts.length c_t] 8 rfl kj kj (QgO ts a_t c_t _ _ (TrAt.ext ht (Rely.Ext.refl w)) htl (fun i hi=>qT (hmt i hi) (by decide)) (TabAt.ext hT (Rely.Ext.refl w)) hc) fun W1 e1=>sg 1 kj <| sgN hK3 <| cond_false kj <| wp_skip ?_
 refine hK2 _ _ <| wp_seq_k fun K4 hK4=>sgB kj <| wp_block <| Qay (fun (s1:Nat)=>[(0,.slice a_t ts.length c_t),(10,.slice a_t ts.length c_t),(11,.int .i64 ((ts.length:Nat):Int)),(12,.int .i64 ((s1:Nat):Int))]) (fun (s1:Nat) W=>(s1≤ts.length)∧(Ext W1 W)∧(Ext w W)) (fun (s1:Nat)=>ts.length-s1) 0 ⟨kj,kj,kj,kj,trivial⟩ ⟨(Nat.zero_le _),(Rely.Ext.refl W1),(Ext.tr (Rely.Ext.refl w) e1)⟩ fun s1 X1 V1 hI1=>?_
 obtain ⟨i,hs1⟩:∃ z,z=s1:=⟨_,rfl⟩
 subst hs1
 obtain ⟨hi,kk1,xx1⟩:=hI1
 replace hi:i≤ts.length:=hi
 replace kk1:Ext W1 V1:=kk1
 replace xx1:Ext w V1:=xx1
 have e2:=kk1
 refine sgB kj <| wp_seq_k fun K7 hK7=>Qaq (t:=decide (((i:Nat):Int)<((ts.length:Nat):Int))) kj (fun c8=>?_) (fun c8=>?_)
 ·skip
  have hlt13:i<ts.length:=by have:=of_decide_eq_true c8; omega
  refine wp_skip <| hK7 _ _ <| wp_seq_k fun K9 hK9=>wp_block <| sgC fun K10 hK10=>sg 1 kj ?_
  obtain ⟨gtT,otT,hat,hnts⟩:=TrAt.ext ht xx1
  have hnt:=hnts i (by omega)
  obtain ⟨nt,ent⟩:∃ z,z=ndi ts i:=⟨_,rfl⟩
  rw [←ent] at hnt
  have okt:=hnt.ok
  have rdt:=hnt.rd
  refine Qaa (.pointer (some ⟨gtT,otT+i*99,none⟩)) 15 rfl kj (Qan 23 _ _ .i64 i gtT otT ts.length c_t 50 99 a_t (hat (by omega)) rfl kj kj kj kj (by omega)) <| Qaa (.agg (cat [#[.bool nt.n.us],#[.int .i64 nt.n.nm],ints .u8 (nt.n.key),ints .u8 (nt.n.sg),ints .u8 (nt.n.pa),#[.slice nt.a nt.n.ms.length nt.c]])) 16 rfl kj (QaI 50 _ gtT (otT+i*99) nt hnt rfl kj kj kj) <| Qal (cat [#[.bool false],#[.int .i64 0],ints .u8 (List.replicate 32 0),ints .u8 (List.replicate 32 0),ints .u8 (List.replicate 32 0),#[.slice none 0 0]]) 50 4 rfl kj kj fun g11 W3 l11 e3 r11_3=>sg 1 kj <| Qav g11 _ (cat [#[.bool nt.n.us],#[.int .i64 nt.n.nm],ints .u8 (nt.n.key),ints .u8 (nt.n.sg),ints .u8 (nt.n.pa),#[.slice nt.a nt.n.ms.length nt.c]]) 50 r11_3 rfl kj (Qat 50 _ _ g11 50 _ _ r11_3 rfl kj kj (isz (n:=99) kj (by rw [Qab,Qab,Qab,Qab,Qab,Qab]; simp only [qS,cat,((Qac _ _).trans okt.gl),((Qac _ _).trans okt.kl),((Qac _ _).trans okt.pl)]; rfl)) (eqsz (n:=99) (by rw [Qab,Qab,Qab,Qab,Qab,Qab]; simp only [qS,cat,((Qac _ _).trans (qZ (n:=32)))]; rfl) (by rw [Qab,Qab,Qab,Qab,Qab,Qab]; simp only [qS,cat,((Qac _ _).trans okt.gl),((Qac _ _).trans okt.kl),((Qac _ _).trans okt.pl)]; rfl)) (Qbo _ (by intro a ha; simp only [List.mem_cons,List.not_mem_nil,or_false] at ha; rcases ha with rfl | rfl | rfl | rfl | rfl | rfl; exact (Qa7 _ rfl); exact (Qa7 _ rfl); exact (Qau _ _); exact (Qau _ _); exact (Qau _ _); exact (Qa7 _ rfl)))) fun W4 p4 r11_4=>?_
  have x4:=Puts.ext p4 (Ext.tr xx1 e3) (qT xx1.size l11)
  refine sgN hK10 <| sgC fun K12 hK12=>sg 1 kj ?_
  have hki:∀ W,TabAt W→Calls Tryd.prog 36 #[.int .i64 ((i:Nat):Int)] W (Ret W (.tuple #[.int .i64 (-1),.int .i64 (-1)])):=fun W h=>by
   obtain rfl:i=0:=by omega
   have h9:=quiet (children ((0:Nat):Int) ⟨by decide,by decide⟩ W h)
   rw [show kidL ((0:Nat):Int)=-1 by decide +kernel,show kidR ((0:Nat):Int)=-1 by decide +kernel] at h9; exact h9
  refine Qak (.tuple #[.int .i64 (-1),.int .i64 (-1)]) 36 #[.int .i64 ((i:Nat):Int)] 19 rfl kj kj (hki _ (TabAt.ext hT x4)) fun W5 e5=>?_
  have x5:=Ext.tr x4 e5
  refine sg 5 kj <| sgN hK12 <| wp_seq_k fun K13 hK13=>?_
  cases hus:nt.n.us
  ·skip
   have r11_5:=(Qae r11_4 e5)
   have rbx:W5.heap[g11]? = some (.cells (cat [#[.bool false],#[.int .i64 nt.n.nm],ints .u8 (nt.n.key),ints .u8 (nt.n.sg),ints .u8 (nt.n.pa),#[.slice nt.a nt.n.ms.length nt.c]]) 50):=by have h9:=r11_5; rw [hus] at h9; exact h9
   refine Qad <| sg 1 kj <| Qaa (.bool false) 23 rfl kj (Qaf 4 _ g11 0 50 _ (.bool false) _ rbx rfl kj (Qah [] [#[.bool false]] [#[.int .i64 nt.n.nm],ints .u8 (nt.n.key),ints .u8 (nt.n.sg),ints .u8 (nt.n.pa),#[.slice nt.a nt.n.ms.length nt.c]] 0 kj 0 _ rfl) kj) <| sg 20 kj <| sgN hK13 <| cond_false kj <| wp_skip <| hK9 _ _ <| Qad <| Qaa (.int .i64 ((i+1:Nat):Int)) 44 rfl kj (Qag (u:=.int .i64 (IntKind.i64.wrap (((i:Nat):Int)+1))) kj (congrArg (Value.int .i64) (i64n _ _ (by omega) (by omega)))) ?_
   refine sg 1 kj <| Qaj ?_
   have y1_3:=(Rely.Ext.trans e2 e3)
   have y1_4:=(Puts.ext p4 y1_3 (qT e2.size l11))
   have y1_5:=(Rely.Ext.trans y1_4 e5)
   repeat (first | with_reducible refine goX1 ?_ | with_reducible refine goX2 ?_ | with_reducible refine goX3 ?_)
   exact Qap (i+1) ⟨kj,kj,kj,kj,trivial⟩ ⟨(by omega),y1_5,x5⟩ (by show ts.length-(i+1)<ts.length-i; omega)
  ·skip
   have r11_5:=(Qae r11_4 e5)
   have rbx:W5.heap[g11]? = some (.cells (cat [#[.bool true],#[.int .i64 nt.n.nm],ints .u8 (nt.n.key),ints .u8 (nt.n.sg),ints .u8 (nt.n.pa),#[.slice nt.a nt.n.ms.length nt.c]]) 50):=by have h9:=r11_5; rw [hus] at h9; exact h9
   refine Qad <| sg 1 kj <| Qaa (.bool true) 23 rfl kj (Qaf 4 _ g11 0 50 _ (.bool true) _ rbx rfl kj (Qah [] [#[.bool true]] [#[.int .i64 nt.n.nm],ints .u8 (nt.n.key),ints .u8 (nt.n.sg),ints .u8 (nt.n.pa),#[.slice nt.a nt.n.ms.length nt.c]] 0 kj 0 _ rfl) kj) <| sg 20 kj <| sgN hK13 <| cond_false kj <| wp_skip <| hK9 _ _ <| Qad <| Qaa (.int .i64 ((i+1:Nat):Int)) 44 rfl kj (Qag (u:=.int .i64 (IntKind.i64.wrap (((i:Nat):Int)+1))) kj (congrArg (Value.int .i64) (i64n _ _ (by omega) (by omega)))) ?_
   refine sg 1 kj <| Qaj ?_
   have y1_3:=(Rely.Ext.trans e2 e3)
   have y1_4:=(Puts.ext p4 y1_3 (qT e2.size l11))
   have y1_5:=(Rely.Ext.trans y1_4 e5)
   repeat (first | with_reducible refine goX1 ?_ | with_reducible refine goX2 ?_ | with_reducible refine goX3 ?_)
   exact Qap (i+1) ⟨kj,kj,kj,kj,trivial⟩ ⟨(by omega),y1_5,x5⟩ (by show ts.length-(i+1)<ts.length-i; omega)
 ·skip
  have heq13:i=ts.length:=by have:=of_decide_eq_false c8; omega
  refine wp_exit <| hK4 _ _ <| sgB kj <| wp_ret ?_
  repeat (first | with_reducible refine goR1 ?_ | with_reducible refine goR2 ?_)
  exact (show bodyPost _ _ _ .ret _ _ from ret1 (.bool true) rfl (Qar kj) ⟨rfl,xx1⟩)
set_option maxRecDepth 100000 in
theorem Qgo (w : World) (hT:TabAt w) (hSh:ShT w):Calls Tryd.prog 8 #[] w (Ret w (.bool true)):=by
  refine enter 28 [] Tryd.func8 rfl rfl kj rfl <| sgB kj <| sgC fun K2 hK2=>sg 1 kj <| Qa9 (cat (ndP (lf 3))) 50 1 5 rfl kj kj fun gO W1 lO e1 rO=>?_
  have x1:=Ext.tr (Rely.Ext.refl w) e1
  have ht:=Qj2 lO rO (Qmf 3) ⟨Qmf 3,by decide,QbM _ _ _ _⟩
  have hc3:chkT [lf 3]=true:=by decide +kernel
  obtain ⟨a_1,c_1,hv1⟩:∃ a c,(a,c)=((some (⟨gO,0,none⟩:Addr)),1):=⟨_,_,rfl⟩
  obtain ⟨ha1,hcc1⟩:=Prod.mk.inj hv1
  rw [←ha1] at ht
  show WL _ _ _ _ (Qa3 _ _ ((5,.slice (some ⟨gO,0,none⟩) 1 1)::_)) _
  rw [show (Value.slice (some ⟨gO,0,none⟩) 1 1)=.slice a_1 [lf 3].length c_1 by rw [ha1,hcc1]; rfl]
  refine sg 1 kj <| sgN hK2 <| sgC fun K3 hK3=>sg 1 kj <| Qak (.tuple #[.agg (ints .u8 (dgN [lf 3] [] ([lf 3].length/2))),.bool true]) 11 #[.slice a_1 [lf 3].length c_1] 8 rfl kj kj (QkR [lf 3] a_1 c_1 _ (by decide) (fun i hi=>by obtain rfl:i=0:=Nat.lt_one_iff.1 hi; decide) hc3 _ (TrAt.ext ht (Rely.Ext.refl W1)) (TabAt.ext hT x1) (ShT.ext hSh x1)) fun W2 e2=>?_
  have x2:=Ext.tr x1 e2
  refine sg 3 kj <| Qal (ints .u8 (List.replicate 32 0)) 28 2 rfl kj kj fun g4 W3 l4 e3 r4_3=>Qav g4 _ (ints .u8 (dgN [lf 3] [] ([lf 3].length/2))) 28 r4_3 rfl kj (Qat 28 _ _ g4 28 _ _ r4_3 rfl kj kj (isz (n:=32) kj ((Qac _ _).trans (QaU [lf 3] [] ([lf 3].length/2)))) (eqsz (n:=32) ((Qac _ _).trans (qZ (n:=32))) ((Qac _ _).trans (QaU [lf 3] [] ([lf 3].length/2)))) (Qau _ _)) fun W4 p4 r4_4=>sg 1 kj <| sgN hK3 <| wp_seq_k fun K5 hK5=>Qbe kj fun W5 e5=>Qas 0 (.bool true) 11 rfl rfl kj kj (fun _ _ _ h=>h) (fun W hR=>by kernel_rfl) <| Qas 1 (.bool true) 12 rfl rfl kj kj (fun _ _ _ h=>h) (fun W hR=>by kernel_rfl) <| Qas 2 (.agg (ints .u8 (dgN [lf 3] [] ([lf 3].length/2)))) 13 rfl rfl kj kj (fun _ _ _ h=>h) (fun W hR=>(QaA 28 _ g4 28 _ _ (Qae (Qae r4_4 e5) hR) rfl kj kj (isz (n:=32) kj ((Qac _ _).trans (QaU [lf 3] [] ([lf 3].length/2)))))) ?_
  refine Qas 3 (.slice a_1 [lf 3].length c_1) 14 rfl rfl kj kj (fun _ _ _ h=>h) (fun W hR=>by kernel_rfl) <| Qbt 4 kj ?_
  have y1_2:=(Rely.Ext.trans (Rely.Ext.refl W1) e2)
  have y1_5:=(Rely.Ext.trans (Puts.ext p4 (Rely.Ext.trans y1_2 e3) (qT y1_2.size l4)) e5)
  refine QbV rfl (fun v W'=>v=(.agg (ints .u8 (dgN [lf 3] [] ([lf 3].length/2))))∧Ext W5 W') 13 #[.slice a_1 [lf 3].length c_1] 15 rfl kj kj ((QlP [lf 3] a_1 c_1 _ (by decide) (fun i hi=>by obtain rfl:i=0:=Nat.lt_one_iff.1 hi; decide) hc3 (by decide) _ (TrAt.ext ht y1_5)).mono fun e w' h=>⟨_,h.1,rfl,h.2⟩) (fun _ _ h=>Rely.Ext.trans (Rely.Ext.refl W5) h.2) fun vv6 W6 hh6=>?_
  obtain ⟨rfl,e6⟩:=hh6
  have x6:=Ext.tr (Ext.tr (Puts.ext p4 (Ext.tr x2 e3) (qT x2.size l4)) e5) e6
  refine Qas 5 (.bool true) 16 rfl rfl kj kj (fun _ _ _ h=>h) (fun W hR=>(QaD 28 _ _ _ _ _ (.bool true) rfl kj kj kj (QaS 28 (e:=5) (k:=.u8) (dgN [lf 3] [] ([lf 3].length/2)) (dgN [lf 3] [] ([lf 3].length/2)) (decide_eq_true rfl) (QaU [lf 3] [] ([lf 3].length/2)) (QaU [lf 3] [] ([lf 3].length/2)) kj kj kj _))) <| Qas 6 (.bool true) 17 rfl rfl kj kj (fun _ _ _ h=>h) (fun W hR=>by kernel_rfl) <| Qas 7 (.bool true) 18 rfl rfl kj kj (fun _ _ _ h=>h) (fun W hR=>by kernel_rfl) <| Qas 8 (.slice a_1 [lf 3].length c_1) 19 rfl rfl kj kj (fun _ _ _ h=>h) (fun W hR=>by kernel_rfl) <| Qbt 9 kj ?_
  have y5_6:=(Rely.Ext.trans (Rely.Ext.refl W5) e6)
  refine QbV rfl (fun v W'=>v=(.bool true)∧Ext W6 W') 18 #[.slice a_1 [lf 3].length c_1] 20 rfl kj kj ((QmP [lf 3] a_1 c_1 _ (by decide) (fun i hi=>by obtain rfl:i=0:=Nat.lt_one_iff.1 hi; decide) hc3 rfl _ (TrAt.ext ht (Rely.Ext.trans y1_5 e6)) (TabAt.ext hT x6)).mono fun e w' h=>⟨_,h.1,rfl,h.2⟩) (fun _ _ h=>Rely.Ext.trans y5_6 h.2) fun vv7 W7 hh7=>?_
  obtain ⟨rfl,e7⟩:=hh7
  refine Qas 10 (.bool true) 21 rfl rfl kj kj (fun _ _ _ h=>h) (fun W hR=>by kernel_rfl) <| Qas 11 (.bool true) 22 rfl rfl kj kj (fun _ _ _ h=>h) (fun W hR=>by kernel_rfl) <| Qas 12 (.agg (cat [#[.bool false],#[.int .i64 0],ints .u8 (List.replicate 32 0),ints .u8 (List.replicate 32 0),ints .u8 (List.replicate 32 0),#[.slice none 0 0]])) 23 rfl rfl kj kj (fun _ _ _ h=>h) (fun W hR=>by kernel_rfl) <| Qbt 13 kj ?_
  have y5_7:=(Rely.Ext.trans y5_6 e7)
  refine Qj0 rfl (fun v W'=>NewS W7.heap.size (cat (ndP zn)) 50 1 v W'∧Ext W7 W') 24 rfl kj ⟨_,_,(by kernel_rfl:_=Result.ok (Next.value (.slice (some ⟨W7.heap.size,0,none⟩) 1 1)) (W7.alloc (.cells (cat (ndP zn)) 50))),⟨_,rfl,qR _,heap_alloc_new _ _⟩,QcE _ _⟩ (fun _ _ h=>Rely.Ext.trans y5_7 h.2) fun vz W8 hz=>?_
  obtain ⟨⟨gz,rfl,lz,rz⟩,e8⟩:=hz
  have x8:=Ext.tr (Ext.tr x6 e7) e8
  have htz:=Qj2 lz rz Qe8 ⟨Qe8,by decide,QbM _ _ _ _⟩
  obtain ⟨a_2,c_2,hv2⟩:∃ a c,(a,c)=((some (⟨gz,0,none⟩:Addr)),1):=⟨_,_,rfl⟩
  obtain ⟨ha2,hcc2⟩:=Prod.mk.inj hv2
  rw [←ha2] at htz
  rw [show (Value.slice (some ⟨gz,0,none⟩) 1 1)=.slice a_2 [zn].length c_2 by rw [ha2,hcc2]; rfl]
  refine Qbt 14 kj <| QbV rfl (fun v W'=>v=(.bool false)∧Ext W8 W') 18 #[.slice a_2 [zn].length c_2] 25 rfl kj kj ((Qmv [zn] a_2 c_2 _ (by decide) (fun i hi=>by obtain rfl:i=0:=Nat.lt_one_iff.1 hi; decide) (by decide +kernel) _ (TrAt.ext htz (Rely.Ext.refl W8)) (TabAt.ext hT x8)).mono fun e w' h=>⟨_,h.1,rfl,h.2⟩) (fun _ _ h=>Rely.Ext.trans (Rely.Ext.trans y5_7 e8) h.2) fun vv8 W9 hh8=>?_
  obtain ⟨rfl,e9⟩:=hh8
  refine Qas 15 (.bool true) 26 rfl rfl kj kj (fun _ _ _ h=>h) (fun W hR=>by kernel_rfl) <| Qas 16 (.bool true) 27 rfl rfl kj kj (fun _ _ _ h=>h) (fun W hR=>by kernel_rfl) <| Qas 17 (.bool true) 0 rfl rfl kj kj (fun _ _ _ h=>h) (fun W hR=>by kernel_rfl) <| Qcb kj <| hK5 _ _ <| wp_ret ?_
  repeat (first | with_reducible refine goR1 ?_ | with_reducible refine goR2 ?_)
  exact (show bodyPost _ _ _ .ret _ _ from ret1 (.bool true) rfl (Qar kj) ⟨rfl,(Ext.tr x8 e9)⟩)
end Go.Proofs.YthfkppjajmjpnaaDoor.Te
end
section
namespace Go.Proofs.YthfkppjajmjpnaaDoor.Te
open Go Go.RowKit
open Rely Auto Own Seat Wk Sha
section
variable {P : Program} {ops : Array Oper} {Q : Exit → Act → World → Prop}
theorem Qgq {Rd : World→Prop} {k fuel N:Nat} {o:Oper} {listed:Array Bool} {ds:List Deferred} {L:Env} {w:World} (g:Nat) (old cs:Array Value) (t:TypeId) (hgr:w.heap[g]? = some (.cells old t)) (ho:ops[k]? = some o) (hd:o.dst=none) (hg:Qby ops o N L=some true)
    (h:(execOp (Rely.look (envN N L)) o).run P w=.ok .skip (w.setRow g cs)) (hR:∀ W,Puts w g W→Rd W) (kk:∀ W,Puts w g W→W.heap[g]? = some (.cells cs t)→WB P ops Q Rd fuel (listed.setIfInBounds k true) (Qa3 ds N L) W):WO P ops Q Rd k fuel listed (Qa3 ds N L) w:=by
  refine ⟨?_⟩
  unfold wpOp
  rw [ho]
  simp only [QbD hg,if_true]
  refine .inl ?_
  unfold Oper.wp
  rw [Qbj,h]
  show _∧allR _ _ _ _ _ _ _ _
  rw [hd]
  exact ⟨hR _ (QbJ _ _ _),(kk _ (QbJ _ _ _) (setRow_heap _ _ _ _ _ _ hgr)).out (hR _ (QbJ _ _ _))⟩
end
theorem NdAt.keyS {B g off:Nat} {w:World} {n:NdV} (h:NdAt B w g off n):RdK .u8 B n.n.key (.slice (some ⟨g,off+2,none⟩) 32 32) w:=by
  have hl:=h.ok.kl
  refine ⟨some ⟨g,off+2,none⟩,32,by rw [hl],by omega,by decide,(fun e=>by cases e),.inr ⟨g,off+2,rfl,h.lt,h.lt2,fun i hi=>?_⟩⟩
  have h9:=h.cell (2+i) _ (Qbf [#[.bool n.n.us],#[.int .i64 n.n.nm]] [ints .u8 n.n.sg,ints .u8 n.n.pa,#[.slice n.a n.n.ms.length n.c]] n.n.key 2 i (2+i) rfl rfl hi)
  rw [←Nat.add_assoc] at h9; exact h9
theorem NdAt.paS {B g off:Nat} {w:World} {n:NdV} (h:NdAt B w g off n):RdK .u8 B n.n.pa (.slice (some ⟨g,off+66,none⟩) 32 32) w:=by
  have hl:=h.ok.pl
  refine ⟨some ⟨g,off+66,none⟩,32,by rw [hl],by omega,by decide,(fun e=>by cases e),.inr ⟨g,off+66,rfl,h.lt,h.lt2,fun i hi=>?_⟩⟩
  have h9:=h.cell (66+i) _ (Qbf [#[.bool n.n.us],#[.int .i64 n.n.nm],ints .u8 n.n.key,ints .u8 n.n.sg] [#[.slice n.a n.n.ms.length n.c]] n.n.pa 66 i (66+i) (by simp [cat,Qac,h.ok.kl,h.ok.gl]) rfl hi)
  rw [←Nat.add_assoc] at h9; exact h9
def mkN (ts : List NdV) (x s:Nat):List Int:=dig ((([3]++(ndi ts x).n.key)++(ndi ts x).n.pa)++dgN ts (ndi ts x).n.ms s)
theorem Qc9 (ts : List NdV) (x s:Nat):(mkN ts x s).length=32:=QaG _
set_option maxRecDepth 100000 in
theorem QmF (ts : List NdV) (a_t:Option Addr) (c_t B1:Nat) (htl:ts.length≤100000) (hmt:∀ i,i<ts.length→(ndi ts i).n.ms.length≤50) (hck:chkT ts=true) (w:World) (ht:TrAt B1 w a_t ts) (hT:TabAt w) (hSh:ShT w) (x s:Nat) (hx:x<ts.length) (hs:s<ts.length):Calls Tryd.prog 37 #[.slice a_t ts.length c_t,.int .i64 ((x:Nat):Int),.int .i64 ((s:Nat):Int)] w (Ret w (.agg (ints .u8 (mkN ts x s)))):=by
  obtain ⟨tc,tq,hc,hq⟩:=id hSh
  refine enter 26 [(0,.slice a_t ts.length c_t),(1,.int .i64 ((x:Nat):Int)),(2,.int .i64 ((s:Nat):Int))] Tryd.func37 rfl rfl kj rfl <| sgC fun K3 hK3=>Qal (ints .u8 (List.replicate 32 0)) 28 6 rfl kj kj fun g4 W1 l4 e1 r4_1=>?_
  have x1:=Ext.tr (Rely.Ext.refl w) e1
  refine sgN hK3 <| sgC fun K5 hK5=>sg 2 kj ?_
  obtain ⟨gtT,otT,hat,hnts⟩:=TrAt.ext ht x1
  have hnt:=hnts x (by omega)
  obtain ⟨nt,ent⟩:∃ z,z=ndi ts x:=⟨_,rfl⟩
  rw [←ent] at hnt
  have okt:=hnt.ok
  have rdt:=hnt.rd
  refine Qaa (.pointer (some ⟨gtT,otT+x*99,none⟩)) 11 rfl kj (Qan 23 _ _ .i64 x gtT otT ts.length c_t 50 99 a_t (hat (by omega)) rfl kj kj kj kj (by omega)) <| Qaa (.agg (cat [#[.bool nt.n.us],#[.int .i64 nt.n.nm],ints .u8 (nt.n.key),ints .u8 (nt.n.sg),ints .u8 (nt.n.pa),#[.slice nt.a nt.n.ms.length nt.c]])) 12 rfl kj (QaI 50 _ gtT (otT+x*99) nt hnt rfl kj kj kj) <| Qal (cat [#[.bool false],#[.int .i64 0],ints .u8 (List.replicate 32 0),ints .u8 (List.replicate 32 0),ints .u8 (List.replicate 32 0),#[.slice none 0 0]]) 50 7 rfl kj kj fun g6 W2 l6 e2 r6_2=>Qav g6 _ (cat [#[.bool nt.n.us],#[.int .i64 nt.n.nm],ints .u8 (nt.n.key),ints .u8 (nt.n.sg),ints .u8 (nt.n.pa),#[.slice nt.a nt.n.ms.length nt.c]]) 50 r6_2 rfl kj (Qat 50 _ _ g6 50 _ _ r6_2 rfl kj kj (isz (n:=99) kj (by rw [Qab,Qab,Qab,Qab,Qab,Qab]; simp only [qS,cat,((Qac _ _).trans okt.gl),((Qac _ _).trans okt.kl),((Qac _ _).trans okt.pl)]; rfl)) (eqsz (n:=99) (by rw [Qab,Qab,Qab,Qab,Qab,Qab]; simp only [qS,cat,((Qac _ _).trans (qZ (n:=32)))]; rfl) (by rw [Qab,Qab,Qab,Qab,Qab,Qab]; simp only [qS,cat,((Qac _ _).trans okt.gl),((Qac _ _).trans okt.kl),((Qac _ _).trans okt.pl)]; rfl)) (Qbo _ (by intro a ha; simp only [List.mem_cons,List.not_mem_nil,or_false] at ha; rcases ha with rfl | rfl | rfl | rfl | rfl | rfl; exact (Qa7 _ rfl); exact (Qa7 _ rfl); exact (Qau _ _); exact (Qau _ _); exact (Qau _ _); exact (Qa7 _ rfl)))) fun W3 p3 r6_3=>?_
  have x3:=Puts.ext p3 (Ext.tr x1 e2) (qT x1.size l6)
  refine sgN hK5 <| sgC fun K7 hK7=>sg 3 kj <| Qaa (.slice nt.a nt.n.ms.length nt.c) 16 rfl kj (Qaf 24 _ g6 98 50 _ (.slice nt.a nt.n.ms.length nt.c) _ r6_3 rfl kj (Qah [#[.bool nt.n.us],#[.int .i64 nt.n.nm],ints .u8 (nt.n.key),ints .u8 (nt.n.sg),ints .u8 (nt.n.pa)] [#[.slice nt.a nt.n.ms.length nt.c]] [] 98 (by rw [Qab,Qab,Qab,Qab,Qab]; simp only [qS,cat,((Qac _ _).trans okt.gl),((Qac _ _).trans okt.kl),((Qac _ _).trans okt.pl)]; rfl) 0 _ rfl) kj) ?_
  refine Qak (.agg (ints .u8 (dgN ts nt.n.ms s))) 27 #[.slice a_t ts.length c_t,.int .i64 ((s:Nat):Int),.slice nt.a nt.n.ms.length nt.c] 17 rfl kj kj (digD ts a_t c_t B1 htl hmt hck nt.n.ms nt.a nt.c _ _ (TrAt.ext ht x3) (TabAt.ext hT x3) (ShT.ext hSh x3) (qT (ent▸hmt x hx) (by decide)) (RdK.here (RdK.ext rdt (Puts.ext p3 (Rely.Ext.trans (Rely.Ext.refl W1) e2) l6))) s hs) fun W4 e4=>?_
  have x4:=Ext.tr x3 e4
  refine Qal (ints .u8 (List.replicate 32 0)) 28 8 rfl kj kj fun g8 W5 l8 e5 r8_5=>Qav g8 _ (ints .u8 (dgN ts nt.n.ms s)) 28 r8_5 rfl kj (Qat 28 _ _ g8 28 _ _ r8_5 rfl kj kj (isz (n:=32) kj ((Qac _ _).trans (QaU ts nt.n.ms s))) (eqsz (n:=32) ((Qac _ _).trans (qZ (n:=32))) ((Qac _ _).trans (QaU ts nt.n.ms s))) (Qau _ _)) fun W6 p6 r8_6=>?_
  have x6:=Puts.ext p6 (Ext.tr x4 e5) (qT x4.size l8)
  refine sgN hK7 <| wp_seq_k fun K9 hK9=>QaY 6 [⟨none,[]⟩,⟨none,[(7,none)]⟩,⟨none,[(19,some 1)]⟩,⟨none,[(7,none)]⟩,⟨none,[(21,some 3)]⟩,⟨none,[(8,none)]⟩] kj kj fun F hF=>QgN (Qam _) (ints .u8 ([3])) 5 1 (NewS.stable _ _ _ _) kj kj (fun W=>by kernel_rfl) <| Qa2 (Qam _) (.pointer (some ⟨g6,2,none⟩)) kj kj (fun W=>by kernel_rfl) <| Qa2 (Qam _) (.slice (some ⟨g6,2,none⟩) 32 32) kj kj (fun W=>by kernel_rfl) <| Qa2 (Qam _) (.pointer (some ⟨g6,66,none⟩)) kj kj (fun W=>by kernel_rfl) <| Qa2 (Qam _) (.slice (some ⟨g6,66,none⟩) 32 32) kj kj (fun W=>by kernel_rfl) <| Qa2 (Qam _) (.slice (some ⟨g8,0,none⟩) 32 32) kj kj (fun W=>by kernel_rfl) <| Qda (hF _ fun W7 e7=>?_)
  simp only [List.nil_append,List.cons_append,List.take_succ_cons,List.take_zero,List.drop_succ_cons,List.drop_zero,finE,up]
  intro vv10 hv10
  clear hF
  have x7:=Ext.tr x6 e7
  obtain ⟨g10,rfl,l10,r10_7⟩:=hv10
  have b10:=qT x6.size l10
  refine Qa9 (#[.slice (some ⟨g10,0,none⟩) 1 1,.slice (some ⟨g6,2,none⟩) 32 32,.slice (some ⟨g6,66,none⟩) 32 32,.slice (some ⟨g8,0,none⟩) 32 32]) 59 4 24 rfl kj kj fun g11 W8 l11 e8 r11_8=>?_
  have b11:=qT x7.size l11
  have r10_8:=(Qae r10_7 e8)
  have r6_4:=(Qae r6_3 e4)
  have r6_8:=(Qae (Qae (Puts.row p6 (Qae r6_4 e5) (Qaw r6_4 l8)) e7) e8)
  have r8_8:=(Qae (Qae r8_6 e7) e8)
  have r2_1:=(Qae hc e1)
  have r2_4:=(Qae (Puts.row p3 (Qae r2_1 e2) (Qaw r2_1 l6)) e4)
  have r1_1:=(Qae hq e1)
  have r1_4:=(Qae (Puts.row p3 (Qae r1_1 e2) (Qaw r1_1 l6)) e4)
  have hps12:∀ p∈([(.slice (some ⟨g10,0,none⟩) 1 1,[3]),(.slice (some ⟨g6,2,none⟩) 32 32,nt.n.key),(.slice (some ⟨g6,66,none⟩) 32 32,nt.n.pa),(.slice (some ⟨g8,0,none⟩) 32 32,dgN ts nt.n.ms s)]:List (Value×List Int)),RdK .u8 W8.heap.size p.2 p.1 W8∧Qax p.2:=by
    intro p hp
    simp only [List.mem_cons,List.not_mem_nil,or_false] at hp
    rcases hp with rfl | rfl | rfl | rfl
    · exact ⟨RdK.here (QaJ (xs:=[3]) (n:=1) rfl r10_8 (Qa5 r10_8) (show 1≤maxLen from by decide)),(QcF [3] (by decide))⟩
    · exact ⟨RdK.here (Qb5 2 okt.kl r6_8 (fun i hi=>Qbf [#[.bool nt.n.us],#[.int .i64 nt.n.nm]] [ints .u8 (nt.n.sg),ints .u8 (nt.n.pa),#[.slice nt.a nt.n.ms.length nt.c]] nt.n.key 2 i (2+i) kj rfl (by rw [okt.kl]; exact hi)) (Qa5 r6_8) (qR _) (by decide)),okt.kb⟩
    · exact ⟨RdK.here (Qb5 66 okt.pl r6_8 (fun i hi=>Qbf [#[.bool nt.n.us],#[.int .i64 nt.n.nm],ints .u8 (nt.n.key),ints .u8 (nt.n.sg)] [#[.slice nt.a nt.n.ms.length nt.c]] nt.n.pa 66 i (66+i) (by rw [Qab,Qab,Qab,Qab]; simp only [qS,cat,((Qac _ _).trans okt.gl),((Qac _ _).trans okt.kl)]; rfl) rfl (by rw [okt.pl]; exact hi)) (Qa5 r6_8) (qR _) (by decide)),okt.pb⟩
    · exact ⟨RdK.here (QaJ (xs:=dgN ts nt.n.ms s) (n:=32) (QaU ts nt.n.ms s) r8_8 (Qa5 r8_8) (show 32≤maxLen from by decide)),(Qcf _)⟩
  have hsh12:=Qgz g11 4 _ ([(.slice (some ⟨g10,0,none⟩) 1 1,[3]),(.slice (some ⟨g6,2,none⟩) 32 32,nt.n.key),(.slice (some ⟨g6,66,none⟩) 32 32,nt.n.pa),(.slice (some ⟨g8,0,none⟩) 32 32,dgN ts nt.n.ms s)]:List (Value×List Int)) rfl (by decide) tc tq W8 (Qae (Qae (Puts.row p6 (Qae r2_4 e5) (Qaw r2_4 l8)) e7) e8) (Qae (Qae (Puts.row p6 (Qae r1_4 e5) (Qaw r1_4 l8)) e7) e8) r11_8 hps12 (by rw [show ((List.map Prod.snd ([(.slice (some ⟨g10,0,none⟩) 1 1,[3]),(.slice (some ⟨g6,2,none⟩) 32 32,nt.n.key),(.slice (some ⟨g6,66,none⟩) 32 32,nt.n.pa),(.slice (some ⟨g8,0,none⟩) 32 32,dgN ts nt.n.ms s)]:List (Value×List Int))).flatten)=([3])++nt.n.key++nt.n.pa++(dgN ts nt.n.ms s) by simp only [List.map_cons,List.map_nil,List.flatten_cons,List.flatten_nil,List.append_nil,List.append_assoc,List.cons_append,List.nil_append]]; (simp only [List.length_append,okt.kl,okt.pl,QaU,List.length_cons,List.length_nil]; omega))
  rw [show ((List.map Prod.snd ([(.slice (some ⟨g10,0,none⟩) 1 1,[3]),(.slice (some ⟨g6,2,none⟩) 32 32,nt.n.key),(.slice (some ⟨g6,66,none⟩) 32 32,nt.n.pa),(.slice (some ⟨g8,0,none⟩) 32 32,dgN ts nt.n.ms s)]:List (Value×List Int))).flatten)=([3])++nt.n.key++nt.n.pa++(dgN ts nt.n.ms s) by simp only [List.map_cons,List.map_nil,List.flatten_cons,List.flatten_nil,List.append_nil,List.append_assoc,List.cons_append,List.nil_append]] at hsh12
  refine Qak (.agg (ints .u8 (dig (([3])++nt.n.key++nt.n.pa++(dgN ts nt.n.ms s))))) 49 #[.slice (some ⟨g11,0,none⟩) 4 4] 25 rfl kj kj hsh12 fun W9 e9=>?_
  have r4_4:=(Qae (Puts.row p3 (Qae r4_1 e2) (Qaw r4_1 l6)) e4)
  have r4_9:=(Qae (Qae (Qae (Puts.row p6 (Qae r4_4 e5) (Qaw r4_4 l8)) e7) e8) e9)
  refine Qav g4 _ (ints .u8 (dig (([3])++nt.n.key++nt.n.pa++(dgN ts nt.n.ms s)))) 28 r4_9 rfl kj (Qat 28 _ _ g4 28 _ _ r4_9 rfl kj kj (isz (n:=32) kj ((Qac _ _).trans (QaG _))) (eqsz (n:=32) ((Qac _ _).trans (qZ (n:=32))) ((Qac _ _).trans (QaG _))) (Qau _ _)) fun W10 p10 r4_10=>sgN hK9 <| wp_ret ?_
  repeat (first | with_reducible refine goR1 ?_ | with_reducible refine goR2 ?_)
  exact (show bodyPost _ _ _ .ret _ _ from ret1 (.agg (ints .u8 (dig (([3])++nt.n.key++nt.n.pa++(dgN ts nt.n.ms s))))) rfl (Qbv g4 28 _ r4_10 kj kj (isz (n:=32) kj ((Qac _ _).trans (QaG _)))) ⟨by unfold mkN; rw [←ent],(Puts.ext p10 (Ext.tr (Ext.tr x7 e8) e9) (qT (Rely.Ext.refl w).size l4))⟩)
end Go.Proofs.YthfkppjajmjpnaaDoor.Te
end
section
namespace Go.Proofs.YthfkppjajmjpnaaDoor.Te
open Go Go.RowKit
open Rely Auto Own Seat Wk Sha
theorem QfM (x : Int) (hi:i64 x) (W:World) (h:TabAt W):Calls Tryd.prog 36 #[.int .i64 x] W (Ret W (.tuple #[.int .i64 (kidL x),.int .i64 (kidR x)])):=quiet (children x hi W h)
set_option maxRecDepth 100000 in
theorem Qk8 (ts : List NdV) (a_t:Option Addr) (c_t B1:Nat) (htl:ts.length≤100000) (hmt:∀ i,i<ts.length→(ndi ts i).n.ms.length≤50) (w:World) (ht:TrAt B1 w a_t ts) (x:Nat) (hc:chkT ts=true) (hx:x<ts.length) (l r:Nat) (hl:l<ts.length) (hr:r<ts.length) (hne:((r:Nat):Int)≠((l:Nat):Int)) (hkid:∀ W,Calls Tryd.prog 16 #[.int .i64 ((x:Nat):Int)] W (Ret W (.tuple #[.int .i64 ((l:Nat):Int),.int .i64 ((r:Nat):Int)]))):Calls Tryd.prog 17 #[.slice a_t ts.length c_t,.int .i64 ((x:Nat):Int),.int .i64 ((l:Nat):Int)] w (Ret w (.agg (ints .u8 (mkN ts x r)))):=by
 refine enter 47 [(0,.slice a_t ts.length c_t),(1,.int .i64 ((x:Nat):Int)),(2,.int .i64 ((l:Nat):Int))] Tryd.func17 rfl rfl kj rfl <| sgC fun K1 hK1=>Qal (ints .u8 (List.replicate 32 0)) 28 6 rfl kj kj fun g2 W1 l2 e1 r2_1=>sgN hK1 <| sgC fun K3 hK3=>sg 1 kj <| Qak (.tuple #[.int .i64 ((l:Nat):Int),.int .i64 ((r:Nat):Int)]) 16 #[.int .i64 ((x:Nat):Int)] 14 rfl kj kj (hkid _) fun W2 e2=>?_
 have x2:=Ext.tr (Ext.tr (Rely.Ext.refl w) e1) e2
 refine sg 5 kj <| sgN hK3 <| sgB kj <| wp_seq_k fun K5 hK5=>sgC fun K6 hK6=>sg 2 kj <| Qaa (.bool true) 20 rfl kj (Qag (u:=.bool ((((l:Nat):Int)==((l:Nat):Int)))) kj (congrArg Value.bool (beq_self_eq_true _))) <| sgN hK6 <| cond_true kj <| sgA kj ?_
 refine hK5 _ _ <| wp_seq_k fun K7 hK7=>?_
 obtain ⟨gyT,oyT,hay,hnys⟩:=TrAt.ext ht x2
 have hny:=hnys (x) (by omega)
 obtain ⟨ny,eny⟩:∃ z,z=ndi ts (x):=⟨_,rfl⟩
 rw [←eny] at hny
 have oky:=hny.ok
 have rdy:=hny.rd
 skip
 ·skip
  refine Qad <| sg 4 kj <| Qaa (.pointer (some ⟨gyT,oyT+(x)*99,none⟩)) 26 rfl kj (Qan 23 _ _ .i64 (x) gyT oyT ts.length c_t 50 99 a_t (hay (by omega)) rfl kj kj kj kj (by omega)) <| sg 1 kj <| Qaa (.slice ny.a ny.n.ms.length ny.c) 28 rfl kj (Qai 24 _ _ (.slice ny.a ny.n.ms.length ny.c) (NdAt.at3 hny).2.2 rfl kj kj) <| Qak (.agg (ints .u8 (dgN ts ny.n.ms r))) 14 #[.slice a_t ts.length c_t,.int .i64 ((r:Nat):Int),.slice ny.a ny.n.ms.length ny.c] 29 rfl kj kj (QkD ts a_t c_t B1 htl hmt hc ny.n.ms ny.a ny.c _ _ (TrAt.ext ht x2) (qT (eny▸hmt x hx) (by decide)) (RdK.here (RdK.ext rdy (Rely.Ext.refl W2))) r (by omega)) fun W3 e3=>?_
  have x3:=Ext.tr x2 e3
  refine Qal (ints .u8 (List.replicate 32 0)) 28 10 rfl kj kj fun g8 W4 l8 e4 r8_4=>Qav g8 _ (ints .u8 (dgN ts ny.n.ms r)) 28 r8_4 rfl kj (Qat 28 _ _ g8 28 _ _ r8_4 rfl kj kj (isz (n:=32) kj ((Qac _ _).trans (QaU ts ny.n.ms r))) (eqsz (n:=32) ((Qac _ _).trans (qZ (n:=32))) ((Qac _ _).trans (QaU ts ny.n.ms r))) (Qau _ _)) fun W5 p5 r8_5=>?_
  have x5:=Puts.ext p5 (Ext.tr x3 e4) (qT x3.size l8)
  refine sgN hK7 <| sgC fun K9 hK9=>Qa9 (ints .u8 ([3])) 5 1 30 rfl kj kj fun g10 W6 l10 e6 r10_6=>?_
  have b10:=qT x5.size l10
  refine sg 2 kj <| Qaa (.pointer (some ⟨gyT,oyT+(x)*99,none⟩)) 33 rfl kj (Qan 23 _ _ .i64 (x) gyT oyT ts.length c_t 50 99 a_t (hay (by omega)) rfl kj kj kj kj (by omega)) <| sg 2 kj ?_
  have y2_3:=(Rely.Ext.trans (Rely.Ext.refl W2) e3)
  have y2_5:=(Puts.ext p5 (Rely.Ext.trans y2_3 e4) (qT y2_3.size l8))
  have y2_6:=(Rely.Ext.trans y2_5 e6)
  refine QaC (k:=.u8) (T:=5) (xs:=[3]) (ys:=ny.n.key) (V:=W5) 1 (.tmp 30) (.tmp 35) 59 rfl kj kj (by decide) 36 rfl kj kj kj (Qb4 (xs:=[3]) rfl l10 r10_6 (by decide)) (RdK.here (NdAt.keyS (NdAt.ext hny y2_6))) (by simp only [List.length_append,oky.kl,oky.pl,QaU,List.length_cons,List.length_nil]; omega) (Rely.Ext.trans (Rely.Ext.refl W5) e6) fun z1 W7 f11 y7 l7=>?_
  refine sg 1 kj <| sgN hK9 <| wp_seq_k fun K13 hK13=>QbO (fun _=>True) kj fun W8 e8=>⟨trivial,?_⟩
  refine Qas 0 (z1) 37 rfl rfl kj kj (fun _ _ _ h=>h) (fun W hR=>by kernel_rfl) <| Qas 1 (.slice a_t ts.length c_t) 38 rfl rfl kj kj (fun _ _ _ h=>h) (fun W hR=>by kernel_rfl) <| Qas 2 (.int .i64 ((x:Nat):Int)) 39 rfl rfl kj kj (fun _ _ _ h=>h) (fun W hR=>by kernel_rfl) <| Qas 3 (.pointer (some ⟨gyT,oyT+(x)*99,none⟩)) 40 rfl rfl kj kj (fun _ _ _ h=>h) (fun W hR=>(Qan 23 _ _ .i64 (x) gyT oyT ts.length c_t 50 99 a_t (hay (by omega)) rfl kj kj kj kj (by omega))) <| Qas 4 (.pointer (some ⟨gyT,oyT+(x)*99+66,none⟩)) 41 rfl rfl kj kj (fun _ _ _ h=>h) (fun W hR=>by kernel_rfl) <| Qas 5 (.slice (some ⟨gyT,oyT+(x)*99+66,none⟩) 32 32) 42 rfl rfl kj kj (fun _ _ _ h=>h) (fun W hR=>by kernel_rfl) <| Qas 7 (.slice (some ⟨g8,0,none⟩) 32 32) 44 rfl rfl kj kj (fun _ _ _ h=>h) (fun W hR=>by kernel_rfl) <| Qbt 6 kj <| Wr.wo_appendT (k:=.u8) (T:=5) (xs:=[3]++ny.n.key) (ys:=ny.n.pa) (V:=W5) 1 (.tmp 37) (.tmp 42) 59 rfl kj kj (by decide) 43 rfl 6 rfl kj kj kj (f11.ext e8) (RdK.here (NdAt.paS (NdAt.ext hny (Rely.Ext.trans (Ext.low y2_6 l7 y2_5.size) e8)))) (by simp only [List.length_append,oky.kl,oky.pl,QaU,List.length_cons,List.length_nil]; omega) (Rely.Ext.trans y7 e8) fun z2 W9 f15 y9 l9=>?_
  refine Qbt 8 kj ?_
  have r8_9:=(Qbb l9 (Qae (Qbb l7 (Qae r8_5 e6) (Qa5 r8_5)) e8) (Qa5 r8_5))
  refine Wr.wo_appendT (k:=.u8) (T:=5) (xs:=[3]++ny.n.key++ny.n.pa) (ys:=dgN ts ny.n.ms r) (V:=W5) 1 (.tmp 43) (.tmp 44) 59 rfl kj kj (by decide) 45 rfl 8 rfl kj kj kj f15 (QaJ (xs:=dgN ts ny.n.ms r) (n:=32) (QaU ts ny.n.ms r) r8_9 (Qa5 r8_9) (show 32≤maxLen from by decide)) (by simp only [List.length_append,oky.kl,oky.pl,QaU,List.length_cons,List.length_nil]; omega) y9 fun z3 W10 f17 y10 l10=>?_
  refine Qbt 9 kj ?_
  have hrd19:=(OwnN.rd f17)
  refine QbV rfl (fun v W'=>v=(.agg (ints .u8 (dig ((([3]++ny.n.key)++ny.n.pa)++(dgN ts ny.n.ms r)))))∧Ext W10 W') 34 #[z3] 46 rfl kj kj ((Qga ((([3]++ny.n.key)++ny.n.pa)++(dgN ts ny.n.ms r)) _ _ _ (by simp only [List.length_append,oky.kl,oky.pl,QaU,List.length_cons,List.length_nil]; omega) (Qbp (Qbp (Qbp (QcF [3] (by decide)) oky.kb) oky.pb) (Qcf _)) (RdK.here hrd19)).mono fun e w' h=>⟨_,h.1,rfl,h.2⟩) (fun _ _ _=>trivial) fun vv20 W11 hh20=>?_
  obtain ⟨rfl,e11⟩:=hh20
  refine Qbt 10 kj ?_
  have r2_3:=(Qae (Qae r2_1 e2) e3)
  have r2_5:=(Puts.row p5 (Qae r2_3 e4) (Qaw r2_3 l8))
  have r2_11:=(Qae (Qbb l10 (Qbb l9 (Qae (Qbb l7 (Qae r2_5 e6) (Qa5 r2_5)) e8) (Qa5 r2_5)) (Qa5 r2_5)) e11)
  refine Qgq g2 _ (ints .u8 (dig ((([3]++ny.n.key)++ny.n.pa)++(dgN ts ny.n.ms r)))) 28 r2_11 rfl rfl kj (Qat 28 _ _ g2 28 _ _ r2_11 rfl kj kj (isz (n:=32) kj ((Qac _ _).trans (QaG _))) (eqsz (n:=32) ((Qac _ _).trans (qZ (n:=32))) ((Qac _ _).trans (QaG _))) (Qau _ _)) (fun _ _=>trivial) fun W12 p12 r2_12=>Qcb kj <| hK13 _ _ <| wp_ret ?_
  repeat (first | with_reducible refine goR1 ?_ | with_reducible refine goR2 ?_)
  exact (show bodyPost _ _ _ .ret _ _ from ret1 (.agg (ints .u8 (dig ((([3]++ny.n.key)++ny.n.pa)++(dgN ts ny.n.ms r))))) rfl (Qbv g2 28 _ r2_12 kj kj (isz (n:=32) kj ((Qac _ _).trans (QaG _)))) ⟨by unfold mkN; rw [←eny],(Puts.ext p12 (Ext.tr (Ext.low (Ext.low (Ext.tr (Ext.low (Ext.tr x5 e6) l7 x5.size) e8) l9 x5.size) l10 x5.size) e11) (qT (Rely.Ext.refl w).size l2))⟩)
set_option maxRecDepth 100000 in
theorem Qk7 (ts : List NdV) (a_t:Option Addr) (c_t B1:Nat) (htl:ts.length≤100000) (hmt:∀ i,i<ts.length→(ndi ts i).n.ms.length≤50) (w:World) (ht:TrAt B1 w a_t ts) (x:Nat) (hc:chkT ts=true) (hx:x<ts.length) (l r:Nat) (hl:l<ts.length) (hr:r<ts.length) (hne:((r:Nat):Int)≠((l:Nat):Int)) (hkid:∀ W,Calls Tryd.prog 16 #[.int .i64 ((x:Nat):Int)] W (Ret W (.tuple #[.int .i64 ((l:Nat):Int),.int .i64 ((r:Nat):Int)]))):Calls Tryd.prog 17 #[.slice a_t ts.length c_t,.int .i64 ((x:Nat):Int),.int .i64 ((r:Nat):Int)] w (Ret w (.agg (ints .u8 (mkN ts x l)))):=by
 refine enter 47 [(0,.slice a_t ts.length c_t),(1,.int .i64 ((x:Nat):Int)),(2,.int .i64 ((r:Nat):Int))] Tryd.func17 rfl rfl kj rfl <| sgC fun K1 hK1=>Qal (ints .u8 (List.replicate 32 0)) 28 6 rfl kj kj fun g2 W1 l2 e1 r2_1=>sgN hK1 <| sgC fun K3 hK3=>sg 1 kj <| Qak (.tuple #[.int .i64 ((l:Nat):Int),.int .i64 ((r:Nat):Int)]) 16 #[.int .i64 ((x:Nat):Int)] 14 rfl kj kj (hkid _) fun W2 e2=>?_
 have x2:=Ext.tr (Ext.tr (Rely.Ext.refl w) e1) e2
 refine sg 5 kj <| sgN hK3 <| sgB kj <| wp_seq_k fun K5 hK5=>sgC fun K6 hK6=>sg 2 kj <| Qaa (.bool false) 20 rfl kj (Qag (u:=.bool ((((r:Nat):Int)==((l:Nat):Int)))) kj (congrArg Value.bool (beq_eq_false_iff_ne.2 hne))) <| sgN hK6 <| cond_false kj <| wp_skip ?_
 refine hK5 _ _ <| wp_seq_k fun K7 hK7=>?_
 obtain ⟨gyT,oyT,hay,hnys⟩:=TrAt.ext ht x2
 have hny:=hnys (x) (by omega)
 obtain ⟨ny,eny⟩:∃ z,z=ndi ts (x):=⟨_,rfl⟩
 rw [←eny] at hny
 have oky:=hny.ok
 have rdy:=hny.rd
 skip
 ·skip
  refine Qad <| sg 4 kj <| Qaa (.pointer (some ⟨gyT,oyT+(x)*99,none⟩)) 26 rfl kj (Qan 23 _ _ .i64 (x) gyT oyT ts.length c_t 50 99 a_t (hay (by omega)) rfl kj kj kj kj (by omega)) <| sg 1 kj <| Qaa (.slice ny.a ny.n.ms.length ny.c) 28 rfl kj (Qai 24 _ _ (.slice ny.a ny.n.ms.length ny.c) (NdAt.at3 hny).2.2 rfl kj kj) <| Qak (.agg (ints .u8 (dgN ts ny.n.ms l))) 14 #[.slice a_t ts.length c_t,.int .i64 ((l:Nat):Int),.slice ny.a ny.n.ms.length ny.c] 29 rfl kj kj (QkD ts a_t c_t B1 htl hmt hc ny.n.ms ny.a ny.c _ _ (TrAt.ext ht x2) (qT (eny▸hmt x hx) (by decide)) (RdK.here (RdK.ext rdy (Rely.Ext.refl W2))) l (by omega)) fun W3 e3=>?_
  have x3:=Ext.tr x2 e3
  refine Qal (ints .u8 (List.replicate 32 0)) 28 10 rfl kj kj fun g8 W4 l8 e4 r8_4=>Qav g8 _ (ints .u8 (dgN ts ny.n.ms l)) 28 r8_4 rfl kj (Qat 28 _ _ g8 28 _ _ r8_4 rfl kj kj (isz (n:=32) kj ((Qac _ _).trans (QaU ts ny.n.ms l))) (eqsz (n:=32) ((Qac _ _).trans (qZ (n:=32))) ((Qac _ _).trans (QaU ts ny.n.ms l))) (Qau _ _)) fun W5 p5 r8_5=>?_
  have x5:=Puts.ext p5 (Ext.tr x3 e4) (qT x3.size l8)
  refine sgN hK7 <| sgC fun K9 hK9=>Qa9 (ints .u8 ([3])) 5 1 30 rfl kj kj fun g10 W6 l10 e6 r10_6=>?_
  have b10:=qT x5.size l10
  refine sg 2 kj <| Qaa (.pointer (some ⟨gyT,oyT+(x)*99,none⟩)) 33 rfl kj (Qan 23 _ _ .i64 (x) gyT oyT ts.length c_t 50 99 a_t (hay (by omega)) rfl kj kj kj kj (by omega)) <| sg 2 kj ?_
  have y2_3:=(Rely.Ext.trans (Rely.Ext.refl W2) e3)
  have y2_5:=(Puts.ext p5 (Rely.Ext.trans y2_3 e4) (qT y2_3.size l8))
  have y2_6:=(Rely.Ext.trans y2_5 e6)
  refine QaC (k:=.u8) (T:=5) (xs:=[3]) (ys:=ny.n.key) (V:=W5) 1 (.tmp 30) (.tmp 35) 59 rfl kj kj (by decide) 36 rfl kj kj kj (Qb4 (xs:=[3]) rfl l10 r10_6 (by decide)) (RdK.here (NdAt.keyS (NdAt.ext hny y2_6))) (by simp only [List.length_append,oky.kl,oky.pl,QaU,List.length_cons,List.length_nil]; omega) (Rely.Ext.trans (Rely.Ext.refl W5) e6) fun z1 W7 f11 y7 l7=>?_
  refine sg 1 kj <| sgN hK9 <| wp_seq_k fun K13 hK13=>QbO (fun _=>True) kj fun W8 e8=>⟨trivial,?_⟩
  refine Qas 0 (z1) 37 rfl rfl kj kj (fun _ _ _ h=>h) (fun W hR=>by kernel_rfl) <| Qas 1 (.slice a_t ts.length c_t) 38 rfl rfl kj kj (fun _ _ _ h=>h) (fun W hR=>by kernel_rfl) <| Qas 2 (.int .i64 ((x:Nat):Int)) 39 rfl rfl kj kj (fun _ _ _ h=>h) (fun W hR=>by kernel_rfl) <| Qas 3 (.pointer (some ⟨gyT,oyT+(x)*99,none⟩)) 40 rfl rfl kj kj (fun _ _ _ h=>h) (fun W hR=>(Qan 23 _ _ .i64 (x) gyT oyT ts.length c_t 50 99 a_t (hay (by omega)) rfl kj kj kj kj (by omega))) <| Qas 4 (.pointer (some ⟨gyT,oyT+(x)*99+66,none⟩)) 41 rfl rfl kj kj (fun _ _ _ h=>h) (fun W hR=>by kernel_rfl) <| Qas 5 (.slice (some ⟨gyT,oyT+(x)*99+66,none⟩) 32 32) 42 rfl rfl kj kj (fun _ _ _ h=>h) (fun W hR=>by kernel_rfl) <| Qas 7 (.slice (some ⟨g8,0,none⟩) 32 32) 44 rfl rfl kj kj (fun _ _ _ h=>h) (fun W hR=>by kernel_rfl) <| Qbt 6 kj <| Wr.wo_appendT (k:=.u8) (T:=5) (xs:=[3]++ny.n.key) (ys:=ny.n.pa) (V:=W5) 1 (.tmp 37) (.tmp 42) 59 rfl kj kj (by decide) 43 rfl 6 rfl kj kj kj (f11.ext e8) (RdK.here (NdAt.paS (NdAt.ext hny (Rely.Ext.trans (Ext.low y2_6 l7 y2_5.size) e8)))) (by simp only [List.length_append,oky.kl,oky.pl,QaU,List.length_cons,List.length_nil]; omega) (Rely.Ext.trans y7 e8) fun z2 W9 f15 y9 l9=>?_
  refine Qbt 8 kj ?_
  have r8_9:=(Qbb l9 (Qae (Qbb l7 (Qae r8_5 e6) (Qa5 r8_5)) e8) (Qa5 r8_5))
  refine Wr.wo_appendT (k:=.u8) (T:=5) (xs:=[3]++ny.n.key++ny.n.pa) (ys:=dgN ts ny.n.ms l) (V:=W5) 1 (.tmp 43) (.tmp 44) 59 rfl kj kj (by decide) 45 rfl 8 rfl kj kj kj f15 (QaJ (xs:=dgN ts ny.n.ms l) (n:=32) (QaU ts ny.n.ms l) r8_9 (Qa5 r8_9) (show 32≤maxLen from by decide)) (by simp only [List.length_append,oky.kl,oky.pl,QaU,List.length_cons,List.length_nil]; omega) y9 fun z3 W10 f17 y10 l10=>?_
  refine Qbt 9 kj ?_
  have hrd19:=(OwnN.rd f17)
  refine QbV rfl (fun v W'=>v=(.agg (ints .u8 (dig ((([3]++ny.n.key)++ny.n.pa)++(dgN ts ny.n.ms l)))))∧Ext W10 W') 34 #[z3] 46 rfl kj kj ((Qga ((([3]++ny.n.key)++ny.n.pa)++(dgN ts ny.n.ms l)) _ _ _ (by simp only [List.length_append,oky.kl,oky.pl,QaU,List.length_cons,List.length_nil]; omega) (Qbp (Qbp (Qbp (QcF [3] (by decide)) oky.kb) oky.pb) (Qcf _)) (RdK.here hrd19)).mono fun e w' h=>⟨_,h.1,rfl,h.2⟩) (fun _ _ _=>trivial) fun vv20 W11 hh20=>?_
  obtain ⟨rfl,e11⟩:=hh20
  refine Qbt 10 kj ?_
  have r2_3:=(Qae (Qae r2_1 e2) e3)
  have r2_5:=(Puts.row p5 (Qae r2_3 e4) (Qaw r2_3 l8))
  have r2_11:=(Qae (Qbb l10 (Qbb l9 (Qae (Qbb l7 (Qae r2_5 e6) (Qa5 r2_5)) e8) (Qa5 r2_5)) (Qa5 r2_5)) e11)
  refine Qgq g2 _ (ints .u8 (dig ((([3]++ny.n.key)++ny.n.pa)++(dgN ts ny.n.ms l)))) 28 r2_11 rfl rfl kj (Qat 28 _ _ g2 28 _ _ r2_11 rfl kj kj (isz (n:=32) kj ((Qac _ _).trans (QaG _))) (eqsz (n:=32) ((Qac _ _).trans (qZ (n:=32))) ((Qac _ _).trans (QaG _))) (Qau _ _)) (fun _ _=>trivial) fun W12 p12 r2_12=>Qcb kj <| hK13 _ _ <| wp_ret ?_
  repeat (first | with_reducible refine goR1 ?_ | with_reducible refine goR2 ?_)
  exact (show bodyPost _ _ _ .ret _ _ from ret1 (.agg (ints .u8 (dig ((([3]++ny.n.key)++ny.n.pa)++(dgN ts ny.n.ms l))))) rfl (Qbv g2 28 _ r2_12 kj kj (isz (n:=32) kj ((Qac _ _).trans (QaG _)))) ⟨by unfold mkN; rw [←eny],(Puts.ext p12 (Ext.tr (Ext.low (Ext.low (Ext.tr (Ext.low (Ext.tr x5 e6) l7 x5.size) e8) l9 x5.size) l10 x5.size) e11) (qT (Rely.Ext.refl w).size l2))⟩)
end Go.Proofs.YthfkppjajmjpnaaDoor.Te
end
section
namespace Go.Proofs.YthfkppjajmjpnaaDoor.Te
open Go Go.RowKit
open Rely Auto Own Seat Sha
theorem QgU {x n:Int} {i:Nat} (h:Qa4 x n=true) (hi:((i:Nat):Int)<n):abv x (2*((i:Nat):Int)) n=(decide ((bel x n).1≤((i:Nat):Int))&&decide (((i:Nat):Int)≤(bel x n).2)):=Qe4 h hi
theorem QfT : Qbx (fun n x=>decide (2*(bel x n).1≤x)&&decide (x≤2*(bel x n).2))=true:=by decide +kernel
theorem Qjv {x n:Int} (h:Qa4 x n=true):2*(bel x n).1≤x∧x≤2*(bel x n).2:=by
  have:=QaN QfT h
  simpa using this
theorem Qiz : Qbx (fun n x=>decide (kidL x<0) || (decide ((bel x n).1≤(bel (kidL x) n).1)&&decide ((bel (kidL x) n).2≤(bel x n).2)&&decide ((bel x n).1≤(bel (kidR x) n).1)&&decide ((bel (kidR x) n).2≤(bel x n).2)&&decide ((bel (kidL x) n).2<(bel (kidR x) n).1)))=true:=by decide +kernel
def evI (y : Int):Bool:=decide (y%2=0)
structure QdB (ns : List Int) (a b : Int) : Prop where
  rng:∀ y∈ns,2*a≤y∧y≤2*b
  nod:ns.Nodup
  inc:(ns.filter evI).Pairwise (· < ·)
theorem QdB.nil (a b:Int):QdB [] a b:=⟨(fun y hy=>by cases hy),List.nodup_nil,List.Pairwise.nil⟩
theorem QdB.app {xs ys:List Int} {a b a1 b1 a2 b2:Int} (h1:QdB xs a1 b1) (h2:QdB ys a2 b2) (h:b1<a2) (ha:a≤a1) (ha2:a≤a2) (hb:b1≤b) (hb2:b2≤b):QdB (xs++ys) a b:=by
  refine ⟨fun y hy=>?_,List.nodup_append.2 ⟨h1.nod,h2.nod,fun u hu v hv e=>?_⟩,?_⟩
  · rcases List.mem_append.1 hy with q | q
    · have:=h1.rng y q; omega
    · have:=h2.rng y q; omega
  · have q1:=h1.rng u hu; have q2:=h2.rng v hv; omega
  · rw [List.filter_append,List.pairwise_append]
    refine ⟨h1.inc,h2.inc,fun u hu v hv=>?_⟩
    have q1:=h1.rng u (List.mem_filter.1 hu).1; have q2:=h2.rng v (List.mem_filter.1 hv).1; omega
theorem QmN {i : Int} (h0:0≤i) (h1:i<1000000):dbl i=2*i:=by unfold dbl; exact IntWalk.i64_in _ (by omega)
theorem QhE {ts : List NdV} {L x:Nat} (f:Form ts L) (hx:x<ts.length) (hu:(ndi ts x).n.us=true):QdB (resL ts x (ndi ts x).n.ms.length) (bel ((x:Nat):Int) ((L:Nat):Int)).1 (bel ((x:Nat):Int) ((L:Nat):Int)).2:=by
  have hlen:=f.len
  have hTr:=f.tr
  have hn:=QaK hTr (x:=x) (by omega)
  have hs:=Qjv hn
  unfold resL
  rw [List.take_length]
  by_cases ho:x%2=1
  · have hp:=f.ms_lt hx ho hu
    have hL:=QaB hTr
    have hz:(ndi ts x).n.ms.map dbl=(ndi ts x).n.ms.map (2 * ·):=List.map_congr_left fun i hi=>by
      have h7:=hp.2 i hi; exact QmN (by omega) (by omega)
    rw [hz]
    have hpz:((ndi ts x).n.ms.map (2 * ·)).Pairwise (· < ·):=List.pairwise_map.2 (hp.1.imp fun {u v:Int} (h:u<v)=>show 2*u<2*v by omega)
    refine ⟨fun y hy=>?_,List.nodup_cons.2 ⟨fun hm=>?_,hpz.imp fun {u v:Int} (h:u<v)=>show u≠v by omega⟩,?_⟩
    · rcases List.mem_cons.1 hy with q | q
      · rw [q]; exact hs
      · obtain ⟨i,hi,rfl⟩:=List.mem_map.1 q
        obtain ⟨m,rfl,hm,ha,-⟩:=(f.up x hx ho hu).mem i hi
        rw [QgU hn (by omega)] at ha
        simp only [Bool.and_eq_true,decide_eq_true_eq] at ha
        show 2*_≤2*((m:Nat):Int)∧2*((m:Nat):Int)≤2*_
        omega
    · obtain ⟨i,hi,e⟩:=List.mem_map.1 hm
      have e2:2*i=((x:Nat):Int):=e
      omega
    · rw [List.filter_cons,if_neg (by unfold evI; rw [decide_eq_true_eq]; omega)]
      exact hpz.filter _
  · have e:x=2*(x/2):=by omega
    have h:=f.leaf (x/2) (by omega) (by rw [←e]; exact hu)
    rw [←e] at h
    unfold QbT at h
    simp only [Bool.and_eq_true,beq_iff_eq,decide_eq_true_eq] at h
    have hm:(ndi ts x).n.ms=[]:=List.length_eq_zero_iff.1 h.1.1.2
    rw [hm,List.map_nil]
    refine ⟨fun y hy=>?_,List.nodup_cons.2 ⟨by simp,List.nodup_nil⟩,(List.pairwise_singleton (· < ·) _).filter _⟩
    rw [List.mem_singleton.1 hy]; exact hs
theorem QkC {ts : List NdV} {L:Nat} (f:Form ts L):∀ k x,x<ts.length→lv ((x:Nat):Int)≤((k:Nat):Int)→QdB (resN ts k x) (bel ((x:Nat):Int) ((L:Nat):Int)).1 (bel ((x:Nat):Int) ((L:Nat):Int)).2:=by
  have hlen:=f.len
  have hTr:=f.tr
  intro k
  induction k with
  | zero =>
    intro x hx hl
    cases hu:(ndi ts x).n.us with
    | true=>rw [Qfe _ hu]; exact QhE f hx hu
    | false=>rw [Qff _ hu (by unfold kidL; rw [if_pos (by omega)]; decide)]; exact QdB.nil _ _
  | succ k ih =>
    intro x hx hl
    have hn:=QaK hTr (x:=x) (by omega)
    cases hu:(ndi ts x).n.us with
    | true=>rw [Qfe _ hu]; exact QhE f hx hu
    | false =>
      rcases QbP hn with ⟨-,⟨h0,h1⟩ | ⟨h2,h3,h4,h5⟩⟩
      · rw [Qff _ hu (by omega)]; exact QdB.nil _ _
      · obtain ⟨l,hl0⟩:=Int.eq_ofNat_of_zero_le (QbL h2)
        obtain ⟨r,hr0⟩:=Int.eq_ofNat_of_zero_le (QbL h3)
        have hll:=QbQ h2
        have hrl:=QbQ h3
        have h6:=QaN Qiz hn
        simp only [Bool.or_eq_true,Bool.and_eq_true,decide_eq_true_eq] at h6
        rw [hl0,hr0] at h6
        have h7:=h6.resolve_left (by omega)
        rw [Qfg k hu hl0 hr0]
        exact (ih l (by omega) (by rw [←hl0]; omega)).app (ih r (by omega) (by rw [←hr0]; omega)) h7.2 h7.1.1.1.1 h7.1.1.2 h7.1.1.1.2 h7.1.2
theorem QhD {ts : List NdV} {L x:Nat} (f:Form ts L) (hx:x<ts.length):QdB (resT ts x) (bel ((x:Nat):Int) ((L:Nat):Int)).1 (bel ((x:Nat):Int) ((L:Nat):Int)).2:=QkC f 5 x hx (Qft f hx)
def pav (ts : List NdV) (d:Int):List Int:=(ndi ts d.toNat).n.pa
def unB (ms : List Int) (a b:Int):List Int:=(ms.filter fun i=>decide (a≤i)&&decide (i≤b)).map (2 * ·)
def bnd1 (ts : List NdV) (ns ms m:List Int) (a b:Int):Bool:=ns.any fun d=>decide (pav ts d=m)&&decide (exc ns [d]=unB ms a b)
def othK (ns ms:List Int) (i j:Nat):Bool:=(List.range j).all fun q=>(q==i) || (decide (nth ns q%2=0)&&decide (nth ns q/2∈ms))
def fndK (ns : List Int) (i:Nat) (k:Int) (j:Nat):Bool:=(List.range j).any fun q=>!(q==i)&&decide (nth ns q=2*k)
def abvK (ns ms:List Int) (c n:Int) (i j:Nat):Bool:=(List.range j).all fun q=>!(abv c (2*nth ms q) n) || fndK ns i (nth ms q) ns.length
def bnd2 (ts : List NdV) (ns ms m:List Int) (c n:Int) (j:Nat):Bool:=(List.range j).any fun i=>decide (pav ts (nth ns i)=m)&&(othK ns ms i ns.length&&abvK ns ms c n i ms.length)
theorem QfJ {xs : List Int} {y:Int}:y∈xs↔∃ i,i<xs.length∧nth xs i=y:=by
  constructor
  · intro h
    obtain ⟨i,hi,e⟩:=List.mem_iff_getElem.1 h
    exact ⟨i,hi,by unfold nth; rw [List.getD_eq_getElem?_getD,List.getElem?_eq_getElem hi]; exact e⟩
  · rintro ⟨i,hi,rfl⟩
    exact Qc8 hi
theorem QjG {xs : List Int} (h:xs.Nodup) {i j:Nat} (hi:i<xs.length) (hj:j<xs.length) (e:nth xs i=nth xs j):i=j:=by
  unfold nth at e
  rw [List.getD_eq_getElem?_getD,List.getD_eq_getElem?_getD,List.getElem?_eq_getElem hi,List.getElem?_eq_getElem hj] at e
  rcases Nat.lt_trichotomy i j with q | q | q
  · exact absurd e (List.pairwise_iff_getElem.1 h i j hi hj q)
  · exact q
  · exact absurd e.symm (List.pairwise_iff_getElem.1 h j i hj hi q)
theorem Qdp {xs : List Int} {d y:Int}:y∈exc xs [d]↔y∈xs∧y≠d:=by
  unfold exc
  rw [List.mem_filter]
  simp
theorem Qfq {ms : List Int} {a b y:Int}:y∈unB ms a b↔∃ k,k∈ms∧a≤k∧k≤b∧y=2*k:=by
  unfold unB
  rw [List.mem_map]
  constructor
  · rintro ⟨k,hk,e⟩
    have h:=List.mem_filter.1 hk
    simp only [Bool.and_eq_true,decide_eq_true_eq] at h
    exact ⟨k,h.1,h.2.1,h.2.2,e.symm⟩
  · rintro ⟨k,h1,h2,h3,e⟩
    exact ⟨k,List.mem_filter.2 ⟨h1,by simp [h2,h3]⟩,e.symm⟩
theorem Qix {ns ms:List Int} {a b c n:Int} {i:Nat} (h:QdB ns a b) (hm:ms.Pairwise (· < ·)) (hab:∀ k∈ms,abv c (2*k) n=(decide (a≤k)&&decide (k≤b))) (hi:i<ns.length) :
    decide (exc ns [nth ns i]=unB ms a b)=(othK ns ms i ns.length&&abvK ns ms c n i ms.length):=by
  rw [Bool.eq_iff_iff,decide_eq_true_eq,Bool.and_eq_true]
  unfold othK abvK
  rw [List.all_eq_true,List.all_eq_true]
  constructor
  · intro e
    refine ⟨fun j hj=>?_,fun q hq=>?_⟩
    · have hj:=List.mem_range.1 hj
      simp only [Bool.or_eq_true,beq_iff_eq,Bool.and_eq_true,decide_eq_true_eq]
      by_cases hji:j=i
      · exact .inl hji
      · have h1:nth ns j∈exc ns [nth ns i]:=Qdp.2 ⟨Qc8 hj,fun q=>hji (QjG h.nod hj hi q)⟩
        rw [e] at h1
        obtain ⟨k,hk,-,-,ek⟩:=Qfq.1 h1
        rw [ek]
        exact .inr ⟨by omega,by rw [show 2*k/2=k by omega]; exact hk⟩
    · have hq:=List.mem_range.1 hq
      have hk:=Qc8 hq
      rw [hab _ hk]
      by_cases h1:a≤nth ms q∧nth ms q≤b
      · have h2:2*nth ms q∈exc ns [nth ns i]:=by rw [e]; exact Qfq.2 ⟨_,hk,h1.1,h1.2,rfl⟩
        obtain ⟨h3,h4⟩:=Qdp.1 h2
        obtain ⟨j,hj,ej⟩:=QfJ.1 h3
        have h5:fndK ns i (nth ms q) ns.length=true:=by
          unfold fndK
          rw [List.any_eq_true]
          exact ⟨j,List.mem_range.2 hj,by simp only [Bool.and_eq_true,Bool.not_eq_true',beq_eq_false_iff_ne,decide_eq_true_eq]; exact ⟨fun q=>h4 (by rw [←ej,q]),ej⟩⟩
        rw [h5]; simp
      · have h2:(decide (a≤nth ms q)&&decide (nth ms q≤b))=false:=by
          rw [Bool.and_eq_false_iff]
          simp only [decide_eq_false_iff_not]
          omega
        rw [h2]; rfl
  · rintro ⟨h1,h2⟩
    have hev:∀ y∈exc ns [nth ns i],y%2=0∧y/2∈ms:=fun y hy=>by
      obtain ⟨h3,h4⟩:=Qdp.1 hy
      obtain ⟨j,hj,rfl⟩:=QfJ.1 h3
      have h5:=h1 j (List.mem_range.2 hj)
      simp only [Bool.or_eq_true,beq_iff_eq,Bool.and_eq_true,decide_eq_true_eq] at h5
      rcases h5 with h5 | h5
      · exact absurd (by rw [h5]) h4
      · exact h5
    have hp1:(exc ns [nth ns i]).Pairwise (· < ·):=by
      have e1:exc ns [nth ns i]=(ns.filter evI).filter fun n=>decide (n∉[nth ns i]):=by
        have e2:(exc ns [nth ns i]).filter evI=exc ns [nth ns i]:=List.filter_eq_self.2 fun y hy=>by unfold evI; rw [decide_eq_true_eq]; exact (hev y hy).1
        rw [←e2]
        unfold exc
        rw [List.filter_filter,List.filter_filter]
        exact List.filter_congr fun y _=>Bool.and_comm ..
      rw [e1]; exact h.inc.filter _
    have hp2:(unB ms a b).Pairwise (· < ·):=List.pairwise_map.2 ((hm.filter _).imp fun {u v:Int} (h:u<v)=>show 2*u<2*v by omega)
    refine QjE hp1 hp2 fun y=>⟨fun hy=>?_,fun hy=>?_⟩
    · have h3:=hev y hy
      have h4:=h.rng y (Qdp.1 hy).1
      exact Qfq.2 ⟨y/2,h3.2,by omega,by omega,by omega⟩
    · obtain ⟨k,hk,ha,hb,rfl⟩:=Qfq.1 hy
      obtain ⟨q,hq,rfl⟩:=QfJ.1 hk
      have h3:=h2 q (List.mem_range.2 hq)
      rw [hab _ hk,decide_eq_true ha,decide_eq_true hb] at h3
      have h4:fndK ns i (nth ms q) ns.length=true:=by simpa using h3
      unfold fndK at h4
      rw [List.any_eq_true] at h4
      obtain ⟨j,hj,h5⟩:=h4
      have hj:=List.mem_range.1 hj
      simp only [Bool.and_eq_true,Bool.not_eq_true',beq_eq_false_iff_ne,decide_eq_true_eq] at h5
      rw [←h5.2]
      exact Qdp.2 ⟨Qc8 hj,fun e=>h5.1 (QjG h.nod hj hi e)⟩
theorem Qmu {ts : List NdV} {ns ms m:List Int} {a b c n:Int} (h:QdB ns a b) (hm:ms.Pairwise (· < ·)) (hab:∀ k∈ms,abv c (2*k) n=(decide (a≤k)&&decide (k≤b))):bnd2 ts ns ms m c n ns.length=bnd1 ts ns ms m a b:=by
  unfold bnd1 bnd2
  rw [Bool.eq_iff_iff,List.any_eq_true,List.any_eq_true]
  constructor
  · rintro ⟨i,hi,h1⟩
    have hi:=List.mem_range.1 hi
    rw [←Qix h hm hab hi] at h1
    exact ⟨_,Qc8 hi,h1⟩
  · rintro ⟨d,hd,h1⟩
    obtain ⟨i,hi,rfl⟩:=QfJ.1 hd
    rw [Qix h hm hab hi] at h1
    exact ⟨i,List.mem_range.2 hi,h1⟩
theorem QgT (p : Nat→Bool) (n:Nat):(List.range (n+1)).all p=((List.range n).all p&&p n):=by rw [List.range_succ,List.all_append]; simp
theorem QgQ (p : Nat→Bool) (n:Nat):(List.range (n+1)).any p=((List.range n).any p || p n):=by rw [List.range_succ,List.any_append]; simp
def Qcs (ts : List NdV) (L x c s:Nat):Bool:=bnd1 ts (resT ts c) (ndi ts x).n.ms (mkN ts x s) (bel ((c:Nat):Int) ((L:Nat):Int)).1 (bel ((c:Nat):Int) ((L:Nat):Int)).2
def okX (ts : List NdV) (L x:Nat):Bool:=decide (kidL ((x:Nat):Int)<0) || !(ndi ts x).n.us || (Qcs ts L x (kidL ((x:Nat):Int)).toNat (kidR ((x:Nat):Int)).toNat || Qcs ts L x (kidR ((x:Nat):Int)).toNat (kidL ((x:Nat):Int)).toNat)
def bndT (ts : List NdV) (L:Nat):Bool:=(List.range ts.length).all (okX ts L)
theorem Qkr {ts : List NdV} {L x c:Nat} (f:Form ts L) (hx:x<ts.length) (ho:x%2=1) (hu:(ndi ts x).n.us=true) (hc:c<ts.length) (s:Nat):bnd2 ts (resT ts c) (ndi ts x).n.ms (mkN ts x s) ((c:Nat):Int) ((L:Nat):Int) (resT ts c).length=Qcs ts L x c s:=by
  have hlen:=f.len
  have hp:=f.ms_lt hx ho hu
  refine Qmu (QhD f hc) hp.1 fun k hk=>?_
  obtain ⟨m,rfl,hm,-⟩:=(f.up x hx ho hu).mem k hk
  exact QgU (QaK f.tr (x:=c) (by omega)) (by omega)
end Go.Proofs.YthfkppjajmjpnaaDoor.Te
end
section
namespace Go.Proofs.YthfkppjajmjpnaaDoor.Te
open Go Go.RowKit
open Rely Auto Own Seat Wk Sha
theorem Qie : Qbx (fun n x=>decide (kidL x<0) || decide (kidR x≠kidL x))=true:=by decide +kernel
theorem Qlg {x n:Int} (hn:Qa4 x n=true) (h:Qa4 (kidL x) n=true):kidR x≠kidL x:=by
  have h1:=QaN Qie hn
  have h2:=QbL h
  simp only [Bool.or_eq_true,decide_eq_true_eq] at h1
  rcases h1 with h1 | h1
  · omega
  · exact h1
theorem Qk9 (x : Int) (hi:i64 x) (W:World):Calls Tryd.prog 16 #[.int .i64 x] W (Ret W (.tuple #[.int .i64 (kidL x),.int .i64 (kidR x)])):=quiet (rchildren x hi W)
end Go.Proofs.YthfkppjajmjpnaaDoor.Te
end
section
namespace Go.Proofs.YthfkppjajmjpnaaDoor.Te
open Go Go.RowKit
open Rely Auto Own Seat Wk Sha
theorem Qct {P : Program} {ρ:Operand→Value} {o:Oper} {w:World} (ty:TypeId) (x:Operand) {B:Nat} (g off:Nat) (n:NdV) (h:NdAt B w g off n)
    (ho:o.op=.load ty x) (hx:ρ x=.pointer (some ⟨g,off+66,none⟩)) (hu:aggD P ty=some true) (hi:(P.info? ty).map (·.size)=some 32):(execOp ρ o).run P w=.ok (.value (.agg (ints .u8 n.n.pa))) w:=by
  have hg:∀ i,i<32→w.cell? ⟨g,off+66+i,none⟩=some (.int .u8 (nth n.n.pa i)):=fun i hi=>by
    have h9:=h.cell (66+i) _ (Qbf [#[.bool n.n.us],#[.int .i64 n.n.nm],ints .u8 n.n.key,ints .u8 n.n.sg] [#[.slice n.a n.n.ms.length n.c]] n.n.pa 66 i (66+i) (by simp [cat,Qac,h.ok.kl,h.ok.gl]) rfl (by rw [h.ok.pl]; exact hi))
    rw [←Nat.add_assoc] at h9; exact h9
  obtain ⟨cs,t,fr,hg0⟩:=Qej (hg 0 (by decide))
  refine Qao ty x g (off+66) t cs (ints .u8 n.n.pa) fr hg0 ho hx (fun j v hv=>?_) hu (by rw [hi,Qac,h.ok.pl])
  have hj:j<32:=by have:=(Array.getElem?_eq_some_iff.1 hv).1; rw [Qac,h.ok.pl] at this; exact this
  rw [QaZ _ _ _ (by rw [h.ok.pl]; exact hj)] at hv
  have h1:=(hg j hj).trans hv
  unfold World.cell? at h1
  simp only [hg0] at h1
  rw [←h1]; rfl
theorem Qgx {ms : List Int} {a b:Int} {k:Nat} (h:k<ms.length):unB (ms.take (k+1)) a b=unB (ms.take k) a b++(if a≤nth ms k∧nth ms k≤b then [2*nth ms k] else []):=by
  unfold unB
  rw [List.take_add_one,List.filter_append,List.map_append,List.getElem?_eq_getElem h]
  have e:nth ms k=ms[k]:=by unfold nth; rw [List.getD_eq_getElem?_getD,List.getElem?_eq_getElem h]; rfl
  rw [e]
  congr 1
  by_cases q:a≤ms[k]∧ms[k]≤b
  · rw [if_pos q]; simp [q]
  · rw [if_neg q]
    have:(decide (a≤ms[k])&&decide (ms[k]≤b))=false:=by rw [Bool.and_eq_false_iff]; simp only [decide_eq_false_iff_not]; omega
    simp [this]
theorem Qkf {ms : List Int} {a b:Int} {k:Nat} (h:k<ms.length) (q:a≤nth ms k∧nth ms k≤b):unB (ms.take (k+1)) a b=unB (ms.take k) a b++[2*nth ms k]:=by rw [Qgx h,if_pos q]
theorem Qj1 {ms : List Int} {a b:Int} {k:Nat} (h:k<ms.length) (q:¬ (a≤nth ms k∧nth ms k≤b)):unB (ms.take (k+1)) a b=unB (ms.take k) a b:=by rw [Qgx h,if_neg q,List.append_nil]
theorem Qfa (ms : List Int) (a b:Int) (k:Nat):(unB (ms.take k) a b).length≤k:=by
  unfold unB
  rw [List.length_map]
  exact qT (List.length_filter_le ..) (by rw [List.length_take]; omega)
theorem Qjx {p : Int→Bool} {xs:List Int} (h:∀ j,j<xs.length→p (nth xs j)=false):xs.any p=false:=by
  rw [List.any_eq_false]
  intro d hd
  obtain ⟨j,hj,rfl⟩:=QfJ.1 hd
  rw [h j hj]; decide
theorem Qjw {p : Int→Bool} {xs:List Int} {j:Nat} (hj:j<xs.length) (h:p (nth xs j)=true):xs.any p=true:=List.any_eq_true.2 ⟨_,Qc8 hj,h⟩
theorem Qg2 {ts : List NdV} (hmt:∀ i,i<ts.length→(ndi ts i).n.ms.length≤50) (x:Nat):(resT ts x).length≤1632:=Qdk hmt 5 x
theorem Qel {ts : List NdV} {L x:Nat} (f:Form ts L) (hx:x<ts.length) {j:Nat} (hj:j<(resT ts x).length):∃ d:Nat,nth (resT ts x) j=((d:Nat):Int)∧d<ts.length:=by
  have hlen:=f.len
  have h1:=(QhD f hx).rng _ (Qc8 hj)
  have h2:=QbN (QaK f.tr (x:=x) (by omega))
  obtain ⟨d,hd⟩:=Int.eq_ofNat_of_zero_le (show 0≤nth (resT ts x) j by omega)
  exact ⟨d,hd,by omega⟩
theorem Qiu (xs ys:List Int) (a_x a_y:Option Addr) (c_x c_y B1 B2:Nat) (w:World) (hxl:xs.length≤1000000) (hyl:ys.length≤1000000) (hx:RdK .i64 B1 xs (.slice a_x xs.length c_x) w) (hy:RdK .i64 B2 ys (.slice a_y ys.length c_y) w) (b:Bool) (h:decide (xs=ys)=b):Calls Tryd.prog 61 #[.slice a_x xs.length c_x,.slice a_y ys.length c_y] w (Ret w (.bool b)):=h▸Qiv xs ys a_x a_y c_x c_y B1 B2 w hxl hyl hx hy
set_option maxRecDepth 100000 in
theorem Qdw (ts : List NdV) (a_t:Option Addr) (c_t B1:Nat) (htl:ts.length≤100000) (hmt:∀ i,i<ts.length→(ndi ts i).n.ms.length≤50) (hc:chkT ts=true) (L:Nat) (f:Form ts L) (w:World) (ht:TrAt B1 w a_t ts) (hT:TabAt w) (hSh:ShT w) (x c s:Nat) (hx:x<ts.length) (hcl:c<ts.length) (hs:s<ts.length):Calls Tryd.prog 39 #[.slice a_t ts.length c_t,.int .i64 ((x:Nat):Int),.int .i64 ((c:Nat):Int),.int .i64 ((s:Nat):Int)] w (Ret w (.bool (Qcs ts L x c s))):=by
 have hlen:=f.len
 have hTr:=f.tr
 have hL6:=QaB hTr
 have hcn:=QaK hTr (x:=c) (by omega)
 refine enter 79 [(0,.slice a_t ts.length c_t),(1,.int .i64 ((x:Nat):Int)),(2,.int .i64 ((c:Nat):Int)),(3,.int .i64 ((s:Nat):Int))] Tryd.func39 rfl rfl kj rfl <| sgB kj <| sgC fun K2 hK2=>sg 2 kj <| Qa0 (fun v W'=>(OwnN .i64 3 w.heap.size (resT ts c)) v W'∧Ext w W') 59 #[.slice a_t ts.length c_t,.int .i64 ((c:Nat):Int)] 21 rfl kj kj ((QkB ts a_t c_t _ _ (TrAt.ext ht (Rely.Ext.refl w)) htl (fun i hi=>qT (hmt i hi) (by decide)) (TabAt.ext hT (Rely.Ext.refl w)) c hcl hc).mono (by rintro e w' ⟨v,rfl,e1,hv⟩; exact ⟨v,rfl,hv,e1⟩)) fun vv3 W1 hh3=>?_
 obtain ⟨hv3,e1⟩:=hh3
 obtain ⟨a_n,c_n,rfl,-⟩:=id (OwnN.rd hv3)
 refine sg 1 kj <| sgN hK2 <| sgC fun K4 hK4=>sg 3 kj <| Qak (.int .i64 ((L:Nat):Int)) 29 #[.int .i64 ((ts.length:Nat):Int)] 26 rfl kj kj (Qce ((ts.length:Nat):Int) ⟨by omega,by omega⟩ _ (QcV f) _) fun W2 e2=>?_
 have x2:=Ext.tr (Ext.tr (Rely.Ext.refl w) e1) e2
 refine Qak (.tuple #[.int .i64 ((bel ((c:Nat):Int) ((L:Nat):Int)).1),.int .i64 ((bel ((c:Nat):Int) ((L:Nat):Int)).2)]) 60 #[.int .i64 ((c:Nat):Int),.int .i64 ((L:Nat):Int)] 27 rfl kj kj (QfS ((c:Nat):Int) ((L:Nat):Int) ⟨by omega,by omega⟩ _ (TabAt.ext hT x2)) fun W3 e3=>?_
 have x3:=Ext.tr x2 e3
 refine sg 5 kj <| sgN hK4 <| sgB kj <| wp_seq_k fun K6 hK6=>wp_seq_k fun K7 hK7=>?_
 obtain ⟨gyT,oyT,hay,hnys⟩:=TrAt.ext ht x3
 have hny:=hnys (x) (by omega)
 obtain ⟨ny,eny⟩:∃ z,z=ndi ts (x):=⟨_,rfl⟩
 rw [←eny] at hny
 have oky:=hny.ok
 have rdy:=hny.rd
 skip
 ·skip
  refine Qad <| sg 2 kj <| Qaa (.pointer (some ⟨gyT,oyT+(x)*99,none⟩)) 32 rfl kj (Qan 23 _ _ .i64 (x) gyT oyT ts.length c_t 50 99 a_t (hay (by omega)) rfl kj kj kj kj (by omega)) <| sg 1 kj <| Qaa (.slice ny.a ny.n.ms.length ny.c) 34 rfl kj (Qai 24 _ _ (.slice ny.a ny.n.ms.length ny.c) (NdAt.at3 hny).2.2 rfl kj kj) <| sg 2 kj <| sgN hK7 <| wp_block ?_
  have hml6:ny.n.ms.length≤50:=eny▸hmt x hx
  refine Qay (fun (s1:Nat×Value)=>[(0,.slice a_t ts.length c_t),(1,.int .i64 ((x:Nat):Int)),(2,.int .i64 ((c:Nat):Int)),(3,.int .i64 ((s:Nat):Int)),(9,.slice a_n ((resT ts c).length) c_n),(10,.int .i64 ((bel ((c:Nat):Int) ((L:Nat):Int)).1)),(11,.int .i64 ((bel ((c:Nat):Int) ((L:Nat):Int)).2)),(34,.slice ny.a ny.n.ms.length ny.c),(35,.int .i64 ((ny.n.ms.length:Nat):Int)),(12,s1.2),(36,.int .i64 ((s1.1:Nat):Int))]) (fun (s1:Nat×Value) W=>(s1.1≤ny.n.ms.length)∧(OwnN .i64 3 W3.heap.size (unB (ny.n.ms.take s1.1) (bel ((c:Nat):Int) ((L:Nat):Int)).1 (bel ((c:Nat):Int) ((L:Nat):Int)).2) s1.2 W)∧(Below W3.heap.size W3 W)∧(Ext w W)) (fun (s1:Nat×Value)=>ny.n.ms.length-s1.1) (0,(.slice none 0 0)) ⟨kj,kj,kj,kj,kj,kj,kj,kj,kj,kj,kj,trivial⟩ ⟨(Nat.zero_le _),(QbM _ _ _ _),(RowKit.Below.refl _ W3),x3⟩ fun s1 X1 V1 hI1=>?_
  obtain ⟨k,u⟩:=s1
  obtain ⟨hk,hu,kk1,xx1⟩:=hI1
  replace hk:k≤ny.n.ms.length:=hk
  replace hu:OwnN .i64 3 W3.heap.size (unB (ny.n.ms.take k) (bel ((c:Nat):Int) ((L:Nat):Int)).1 (bel ((c:Nat):Int) ((L:Nat):Int)).2) u V1:=hu
  replace kk1:Below W3.heap.size W3 V1:=kk1
  replace xx1:Ext w V1:=xx1
  have l4:=kk1
  refine sgB kj <| wp_seq_k fun K9 hK9=>Qaq (t:=decide (((k:Nat):Int)<((ny.n.ms.length:Nat):Int))) kj (fun c10=>?_) (fun c10=>?_)
  ·skip
   have hlt37:k<ny.n.ms.length:=by have:=of_decide_eq_true c10; omega
   have y3_4:=(Ext.low (Rely.Ext.refl W3) l4 (Rely.Ext.refl W3).size)
   have hnx_11:(ny.n.ms).length=ny.n.ms.length:=rfl
   obtain ⟨gcx_11,ocx_11,hax_11,hlx_11,hcx_11⟩:=QaO (RdK.here (RdK.ext rdy y3_4)) (by rw [hnx_11]; omega)
   refine wp_skip <| hK9 _ _ <| wp_seq_k fun K12 hK12=>wp_block <| sgC fun K13 hK13=>Qaa (.pointer (some ⟨gcx_11,ocx_11+k,none⟩)) 38 rfl kj (Qa1 24 _ _ .i64 k gcx_11 ocx_11 ny.n.ms.length ny.c 3 ny.a _ hax_11 rfl rfl kj kj kj kj (Nat.lt_of_lt_of_eq (show k<ny.n.ms.length by omega) hnx_11.symm)) <| Qaa (.int .i64 (nth (ny.n.ms) (k))) 39 rfl kj (Qai 3 _ _ (.int .i64 (nth (ny.n.ms) (k))) (hcx_11 k (Nat.lt_of_lt_of_eq (show k<ny.n.ms.length by omega) hnx_11.symm)) rfl kj kj) <| sg 1 kj <| sgN hK13 <| wp_seq_k fun K14 hK14=>?_
   rcases (show ((bel ((c:Nat):Int) ((L:Nat):Int)).1≤nth ny.n.ms k∧nth ny.n.ms k≤(bel ((c:Nat):Int) ((L:Nat):Int)).2)∨((bel ((c:Nat):Int) ((L:Nat):Int)).1≤nth ny.n.ms k∧(bel ((c:Nat):Int) ((L:Nat):Int)).2<nth ny.n.ms k)∨(nth ny.n.ms k<(bel ((c:Nat):Int) ((L:Nat):Int)).1) by omega) with hq | hq | hq
   ·skip
    refine Qad <| sg 2 kj <| Qaa (.bool true) 42 rfl kj (Qag (u:=.bool (decide ((nth (ny.n.ms) (k))≥((bel ((c:Nat):Int) ((L:Nat):Int)).1)))) kj (congrArg Value.bool (decide_eq_true (by omega)))) <| sg 3 kj <| Qaa (.bool true) 46 rfl kj (Qag (u:=.bool (decide ((nth (ny.n.ms) (k))≤((bel ((c:Nat):Int) ((L:Nat):Int)).2)))) kj (congrArg Value.bool (decide_eq_true (by omega)))) <| sg 1 kj <| sgN hK14 <| cond_true kj <| Qad <| sg 2 kj ?_
    refine Qaa (.int .i64 ((2*nth ny.n.ms k))) 50 rfl kj (Qag (u:=.int .i64 (IntKind.i64.wrap (2*(nth (ny.n.ms) (k))))) kj (congrArg (Value.int .i64) (IntWalk.i64_in _ (by have:=QbN hcn; omega)))) ?_
    refine Qa9 (ints .i64 ([((2*nth ny.n.ms k))])) 3 1 51 rfl kj kj fun g15 W5 l15 e5 r15_5=>?_
    have x5:=Ext.tr xx1 e5
    have b15:=qT xx1.size l15
    refine QaC (k:=.i64) (T:=3) (xs:=unB (ny.n.ms.take k) (bel ((c:Nat):Int) ((L:Nat):Int)).1 (bel ((c:Nat):Int) ((L:Nat):Int)).2) (ys:=[2*nth ny.n.ms k]) (V:=W3) 8 (.tmp 48) (.tmp 51) 24 rfl kj kj (by decide) 52 rfl kj kj kj (hu.ext e5) (QaJ (xs:=[((2*nth ny.n.ms k))]) (n:=1) rfl r15_5 (Qa5 r15_5) (show 1≤maxLen from by decide)) (by have h9:=Qfa ny.n.ms (bel ((c:Nat):Int) ((L:Nat):Int)).1 (bel ((c:Nat):Int) ((L:Nat):Int)).2 k; show (unB (ny.n.ms.take k) (bel ((c:Nat):Int) ((L:Nat):Int)).1 (bel ((c:Nat):Int) ((L:Nat):Int)).2).length+1≤1000000000; omega) (Rely.Ext.trans y3_4 e5) fun u2 W6 f17 y6 l6=>?_
    have x6:=Ext.low x5 l6 x3.size
    refine sg 1 kj <| Qaj <| hK12 _ _ <| Qad <| Qaa (.int .i64 ((k+1:Nat):Int)) 53 rfl kj (Qag (u:=.int .i64 (IntKind.i64.wrap (((k:Nat):Int)+1))) kj (congrArg (Value.int .i64) (i64n _ _ (by omega) (by omega)))) <| sg 1 kj <| Qaj ?_
    repeat (first | with_reducible refine goX1 ?_ | with_reducible refine goX2 ?_ | with_reducible refine goX3 ?_)
    exact Qap ((k+1),u2) ⟨kj,kj,kj,kj,kj,kj,kj,kj,kj,kj,kj,trivial⟩ ⟨(by omega),(by rw [Qkf (by omega) hq]; exact f17),(RowKit.Below.trans (RowKit.Below.trans l4 (RowKit.Below.mono e5 y3_4.size)) l6),x6⟩ (by show ny.n.ms.length-(k+1)<ny.n.ms.length-k; omega)
   ·skip
    refine Qad <| sg 2 kj <| Qaa (.bool true) 42 rfl kj (Qag (u:=.bool (decide ((nth (ny.n.ms) (k))≥((bel ((c:Nat):Int) ((L:Nat):Int)).1)))) kj (congrArg Value.bool (decide_eq_true (by omega)))) <| sg 3 kj <| Qaa (.bool false) 46 rfl kj (Qag (u:=.bool (decide ((nth (ny.n.ms) (k))≤((bel ((c:Nat):Int) ((L:Nat):Int)).2)))) kj (congrArg Value.bool (decide_eq_false (by omega)))) <| sg 1 kj <| sgN hK14 <| cond_false kj <| wp_skip <| hK12 _ _ ?_
    refine Qad <| Qaa (.int .i64 ((k+1:Nat):Int)) 53 rfl kj (Qag (u:=.int .i64 (IntKind.i64.wrap (((k:Nat):Int)+1))) kj (congrArg (Value.int .i64) (i64n _ _ (by omega) (by omega)))) <| sg 1 kj <| Qaj ?_
    repeat (first | with_reducible refine goX1 ?_ | with_reducible refine goX2 ?_ | with_reducible refine goX3 ?_)
    exact Qap ((k+1),u) ⟨kj,kj,kj,kj,kj,kj,kj,kj,kj,kj,kj,trivial⟩ ⟨(by omega),(by rw [Qj1 (by omega) (by omega)]; exact hu),l4,xx1⟩ (by show ny.n.ms.length-(k+1)<ny.n.ms.length-k; omega)
   ·skip
    refine Qad <| sg 2 kj <| Qaa (.bool false) 42 rfl kj (Qag (u:=.bool (decide ((nth (ny.n.ms) (k))≥((bel ((c:Nat):Int) ((L:Nat):Int)).1)))) kj (congrArg Value.bool (decide_eq_false (by omega)))) <| sg 5 kj <| sgN hK14 <| cond_false kj <| wp_skip <| hK12 _ _ <| Qad <| Qaa (.int .i64 ((k+1:Nat):Int)) 53 rfl kj (Qag (u:=.int .i64 (IntKind.i64.wrap (((k:Nat):Int)+1))) kj (congrArg (Value.int .i64) (i64n _ _ (by omega) (by omega)))) ?_
    refine sg 1 kj <| Qaj ?_
    repeat (first | with_reducible refine goX1 ?_ | with_reducible refine goX2 ?_ | with_reducible refine goX3 ?_)
    exact Qap ((k+1),u) ⟨kj,kj,kj,kj,kj,kj,kj,kj,kj,kj,kj,trivial⟩ ⟨(by omega),(by rw [Qj1 (by omega) (by omega)]; exact hu),l4,xx1⟩ (by show ny.n.ms.length-(k+1)<ny.n.ms.length-k; omega)
  ·skip
   have heq37:k=ny.n.ms.length:=by have:=of_decide_eq_false c10; omega
   have hu7:OwnN .i64 3 W3.heap.size (unB ny.n.ms (bel ((c:Nat):Int) ((L:Nat):Int)).1 (bel ((c:Nat):Int) ((L:Nat):Int)).2) u V1:=by have h9:=hu; rw [heq37,List.take_length] at h9; exact h9
   obtain ⟨a_u,c_u,rfl,-⟩:=id (OwnN.rd hu7)
   refine wp_exit <| hK6 _ _ <| sgC fun K18 hK18=>sg 3 kj <| Qak (.agg (ints .u8 (mkN ts x s))) 37 #[.slice a_t ts.length c_t,.int .i64 ((x:Nat):Int),.int .i64 ((s:Nat):Int)] 57 rfl kj kj (QmF ts a_t c_t B1 htl hmt hc _ (TrAt.ext ht xx1) (TabAt.ext hT xx1) (ShT.ext hSh xx1) x s hx hs) fun W5 e5=>?_
   have x5:=Ext.tr xx1 e5
   refine Qal (ints .u8 (List.replicate 32 0)) 28 15 rfl kj kj fun g19 W6 l19 e6 r19_6=>?_
   have x6:=Ext.tr x5 e6
   refine Qav g19 _ (ints .u8 (mkN ts x s)) 28 r19_6 rfl kj (Qat 28 _ _ g19 28 _ _ r19_6 rfl kj kj (isz (n:=32) kj ((Qac _ _).trans (Qc9 ts x s))) (eqsz (n:=32) ((Qac _ _).trans (qZ (n:=32))) ((Qac _ _).trans (Qc9 ts x s))) (Qau _ _)) fun W7 p7 r19_7=>sgN hK18 <| wp_seq_k fun K20 hK20=>sgB kj <| wp_block ?_
   have hnl:=Qg2 hmt c
   refine Qay (fun (s2:Nat)=>[(0,.slice a_t ts.length c_t),(1,.int .i64 ((x:Nat):Int)),(2,.int .i64 ((c:Nat):Int)),(9,.slice a_n ((resT ts c).length) c_n),(12,.slice a_u ((unB ny.n.ms (bel ((c:Nat):Int) ((L:Nat):Int)).1 (bel ((c:Nat):Int) ((L:Nat):Int)).2).length) c_u),(15,.pointer (some ⟨g19,0,none⟩)),(58,.slice a_n ((resT ts c).length) c_n),(59,.int .i64 (((resT ts c).length:Nat):Int)),(60,.int .i64 ((s2:Nat):Int))]) (fun (s2:Nat) W=>(s2≤(resT ts c).length)∧(∀ j,j<s2→(decide (pav ts (nth (resT ts c) j)=mkN ts x s)&&decide (exc (resT ts c) [nth (resT ts c) j]=unB ny.n.ms (bel ((c:Nat):Int) ((L:Nat):Int)).1 (bel ((c:Nat):Int) ((L:Nat):Int)).2))=false)∧(Ext W7 W)∧(Ext w W)) (fun (s2:Nat)=>(resT ts c).length-s2) 0 ⟨kj,kj,kj,kj,kj,kj,kj,kj,kj,trivial⟩ ⟨(Nat.zero_le _),(fun j hj=>absurd hj (Nat.not_lt_zero j)),(Rely.Ext.refl W7),(Puts.ext p7 x6 (qT x5.size l19))⟩ fun s2 X2 V2 hI2=>?_
   obtain ⟨q,hs2⟩:∃ z,z=s2:=⟨_,rfl⟩
   subst hs2
   obtain ⟨hq,hno,kk2,xx2⟩:=hI2
   replace hq:q≤(resT ts c).length:=hq
   replace hno:∀ j,j<q→(decide (pav ts (nth (resT ts c) j)=mkN ts x s)&&decide (exc (resT ts c) [nth (resT ts c) j]=unB ny.n.ms (bel ((c:Nat):Int) ((L:Nat):Int)).1 (bel ((c:Nat):Int) ((L:Nat):Int)).2))=false:=hno
   replace kk2:Ext W7 V2:=kk2
   replace xx2:Ext w V2:=xx2
   have e8:=kk2
   refine sgB kj <| wp_seq_k fun K23 hK23=>Qaq (t:=decide (((q:Nat):Int)<(((resT ts c).length:Nat):Int))) kj (fun c24=>?_) (fun c24=>?_)
   ·skip
    have hlt61:q<(resT ts c).length:=by have:=of_decide_eq_true c24; omega
    have f27_3:=((hv3.ext e2).ext e3)
    have f29_5:=((OwnN.low (n:=0) f27_3 f27_3 l4).ext e5)
    have f32_8:=(((f29_5.ext e6).puts p7 (Qer f29_5 l19)).ext e8)
    have hnn_25:(resT ts c).length=(resT ts c).length:=rfl
    obtain ⟨gcn_25,ocn_25,han_25,hln_25,hcn_25⟩:=QaO (OwnN.rd f32_8) (by rw [hnn_25]; omega)
    obtain ⟨d,hd,hdl⟩:=Qel f hcl hlt61
    refine wp_skip <| hK23 _ _ <| wp_seq_k fun K33 hK33=>wp_block <| sgC fun K34 hK34=>Qaa (.pointer (some ⟨gcn_25,ocn_25+q,none⟩)) 62 rfl kj (Qa1 24 _ _ .i64 q gcn_25 ocn_25 ((resT ts c).length) c_n 3 a_n _ han_25 rfl rfl kj kj kj kj (Nat.lt_of_lt_of_eq (show q<(resT ts c).length by omega) hnn_25.symm)) <| Qaa (.int .i64 ((d:Nat):Int)) 63 rfl kj (Qag (Qai 3 _ _ (.int .i64 (nth (resT ts c) (q))) (hcn_25 q (Nat.lt_of_lt_of_eq (show q<(resT ts c).length by omega) hnn_25.symm)) rfl kj kj) (congrArg (Value.int .i64) hd)) <| sg 1 kj <| sgN hK34 <| wp_seq_k fun K35 hK35=>?_
    refine wp_seq_k fun K36 hK36=>?_
    obtain ⟨gzT,ozT,haz,hnzs⟩:=TrAt.ext ht xx2
    have hnz:=hnzs (d) (by omega)
    obtain ⟨nz,enz⟩:∃ z,z=ndi ts (d):=⟨_,rfl⟩
    rw [←enz] at hnz
    have okz:=hnz.ok
    have rdz:=hnz.rd
    have hpv:pav ts (nth (resT ts c) q)=nz.n.pa:=by unfold pav; rw [hd,Int.toNat_natCast,←enz]
    by_cases hpm:nz.n.pa=mkN ts x s
    ·skip
     refine Qbe kj fun W9 e9=>?_
     have x9:=Ext.tr xx2 e9
     refine Qas 0 (.slice a_t ts.length c_t) 64 rfl rfl kj kj (fun _ _ _ h=>h) (fun W hR=>by kernel_rfl) <| Qas 1 (.int .i64 ((d:Nat):Int)) 65 rfl rfl kj kj (fun _ _ _ h=>h) (fun W hR=>by kernel_rfl) <| Qas 2 (.pointer (some ⟨gzT,ozT+d*99,none⟩)) 66 rfl rfl kj kj (fun _ _ _ h=>h) (fun W hR=>(Qan 23 _ _ .i64 (d) gzT ozT ts.length c_t 50 99 a_t (haz (by omega)) rfl kj kj kj kj (by omega))) <| Qas 3 (.pointer (some ⟨gzT,ozT+d*99+66,none⟩)) 67 rfl rfl kj kj (fun _ _ _ h=>h) (fun W hR=>by kernel_rfl) ?_
     have y8_9:=(Rely.Ext.trans (Rely.Ext.refl V2) e9)
     refine Qas 4 (.agg (ints .u8 (nz.n.pa))) 68 rfl rfl kj kj (fun _ _ _ h=>h) (fun W hR=>(Qct 28 _ gzT (ozT+d*99) nz (NdAt.ext hnz (Rely.Ext.trans y8_9 hR)) rfl kj kj kj)) ?_
     have r19_8:=(Qae r19_7 e8)
     have r19_9:=(Qae r19_8 e9)
     refine Qas 5 (.agg (ints .u8 (mkN ts x s))) 69 rfl rfl kj kj (fun _ _ _ h=>h) (fun W hR=>(QaA 28 _ g19 28 _ _ (Qae r19_9 hR) rfl kj kj (isz (n:=32) kj ((Qac _ _).trans (Qc9 ts x s))))) <| Qas 6 (.bool false) 70 rfl rfl kj kj (fun _ _ _ h=>h) (fun W hR=>(QaH 28 _ _ _ _ _ (.bool false) rfl kj kj kj (QaW 28 (e:=5) (k:=.u8) (nz.n.pa) (mkN ts x s) (decide_eq_true hpm) okz.pl (Qc9 ts x s) kj kj kj _))) <| Qcb kj <| hK36 _ _ <| cond_false kj <| wp_skip <| hK35 _ _ <| wp_seq_k fun K37 hK37=>?_
     by_cases heq:exc (resT ts c) [((d:Nat):Int)]=unB ny.n.ms (bel ((c:Nat):Int) ((L:Nat):Int)).1 (bel ((c:Nat):Int) ((L:Nat):Int)).2
     ·skip
      refine Qad <| sg 2 kj <| Qa9 (ints .i64 ([((d:Nat):Int)])) 3 1 73 rfl kj kj fun g38 W10 l38 e10 r38_10=>?_
      have x10:=Ext.tr x9 e10
      have b38:=qT x9.size l38
      refine Qa0 (fun v W'=>(OwnN .i64 3 W10.heap.size (exc (resT ts c) [((d:Nat):Int)])) v W'∧Ext W10 W') 51 #[.slice a_n ((resT ts c).length) c_n,.slice (some ⟨g38,0,none⟩) 1 1] 74 rfl kj kj ((excP (resT ts c) a_n c_n _ [((d:Nat):Int)] _ _ _ _ (by omega) (OwnN.rd ((f32_8.ext e9).ext e10)) (show 1≤1000000 by decide) (QaJ (xs:=[((d:Nat):Int)]) (n:=1) rfl r38_10 (Qa5 r38_10) (show 1≤maxLen from by decide))).mono (by rintro e w' ⟨v,rfl,e1,hv⟩; exact ⟨v,rfl,hv,e1⟩)) fun vv41 W11 hh41=>?_
      obtain ⟨hv41,e11⟩:=hh41
      have x11:=Ext.tr x10 e11
      obtain ⟨a_e,c_e,rfl,-⟩:=id (OwnN.rd hv41)
      refine sg 1 kj <| sgN hK37 <| sgC fun K42 hK42=>sg 2 kj ?_
      have f43_5:=(hu7.ext e5)
      refine Qak (.bool true) 61 #[.slice a_e ((exc (resT ts c) [((d:Nat):Int)]).length) c_e,.slice a_u ((unB ny.n.ms (bel ((c:Nat):Int) ((L:Nat):Int)).1 (bel ((c:Nat):Int) ((L:Nat):Int)).2).length) c_u] 77 rfl kj kj (Qiu (exc (resT ts c) [((d:Nat):Int)]) (unB ny.n.ms (bel ((c:Nat):Int) ((L:Nat):Int)).1 (bel ((c:Nat):Int) ((L:Nat):Int)).2) _ _ _ _ _ _ _ (qT (Qd9 _ _) (by omega)) (by have h9:=Qfa ny.n.ms (bel ((c:Nat):Int) ((L:Nat):Int)).1 (bel ((c:Nat):Int) ((L:Nat):Int)).2 ny.n.ms.length; rw [List.take_length] at h9; omega) (OwnN.rd hv41) (OwnN.rd ((((((f43_5.ext e6).puts p7 (Qer f43_5 l19)).ext e8).ext e9).ext e10).ext e11)) true (decide_eq_true heq)) fun W12 e12=>?_
      have x12:=Ext.tr x11 e12
      refine sgN hK42 <| cond_true kj <| sgB kj <| wp_ret ?_
      repeat (first | with_reducible refine goR1 ?_ | with_reducible refine goR2 ?_)
      exact (show bodyPost _ _ _ .ret _ _ from ret1 (.bool true) rfl (Qar kj) ⟨congrArg (fun z=>Ending.returned (.bool z)) (by unfold Qcs bnd1; rw [←eny]; exact (Qjw hlt61 (by rw [hpv,decide_eq_true hpm,hd,decide_eq_true heq]; rfl)).symm),x12⟩)
     ·skip
      refine Qad <| sg 2 kj <| Qa9 (ints .i64 ([((d:Nat):Int)])) 3 1 73 rfl kj kj fun g51 W10 l51 e10 r51_10=>?_
      have x10:=Ext.tr x9 e10
      have b51:=qT x9.size l51
      refine Qa0 (fun v W'=>(OwnN .i64 3 W10.heap.size (exc (resT ts c) [((d:Nat):Int)])) v W'∧Ext W10 W') 51 #[.slice a_n ((resT ts c).length) c_n,.slice (some ⟨g51,0,none⟩) 1 1] 74 rfl kj kj ((excP (resT ts c) a_n c_n _ [((d:Nat):Int)] _ _ _ _ (by omega) (OwnN.rd ((f32_8.ext e9).ext e10)) (show 1≤1000000 by decide) (QaJ (xs:=[((d:Nat):Int)]) (n:=1) rfl r51_10 (Qa5 r51_10) (show 1≤maxLen from by decide))).mono (by rintro e w' ⟨v,rfl,e1,hv⟩; exact ⟨v,rfl,hv,e1⟩)) fun vv54 W11 hh54=>?_
      obtain ⟨hv54,e11⟩:=hh54
      have x11:=Ext.tr x10 e11
      obtain ⟨a_e,c_e,rfl,-⟩:=id (OwnN.rd hv54)
      refine sg 1 kj <| sgN hK37 <| sgC fun K55 hK55=>sg 2 kj ?_
      have f56_5:=(hu7.ext e5)
      refine Qak (.bool false) 61 #[.slice a_e ((exc (resT ts c) [((d:Nat):Int)]).length) c_e,.slice a_u ((unB ny.n.ms (bel ((c:Nat):Int) ((L:Nat):Int)).1 (bel ((c:Nat):Int) ((L:Nat):Int)).2).length) c_u] 77 rfl kj kj (Qiu (exc (resT ts c) [((d:Nat):Int)]) (unB ny.n.ms (bel ((c:Nat):Int) ((L:Nat):Int)).1 (bel ((c:Nat):Int) ((L:Nat):Int)).2) _ _ _ _ _ _ _ (qT (Qd9 _ _) (by omega)) (by have h9:=Qfa ny.n.ms (bel ((c:Nat):Int) ((L:Nat):Int)).1 (bel ((c:Nat):Int) ((L:Nat):Int)).2 ny.n.ms.length; rw [List.take_length] at h9; omega) (OwnN.rd hv54) (OwnN.rd ((((((f56_5.ext e6).puts p7 (Qer f56_5 l19)).ext e8).ext e9).ext e10).ext e11)) false (decide_eq_false heq)) fun W12 e12=>?_
      have x12:=Ext.tr x11 e12
      refine sgN hK55 <| cond_false kj <| wp_skip <| hK33 _ _ <| Qad <| Qaa (.int .i64 ((q+1:Nat):Int)) 78 rfl kj (Qag (u:=.int .i64 (IntKind.i64.wrap (((q:Nat):Int)+1))) kj (congrArg (Value.int .i64) (i64n _ _ (by omega) (by omega)))) <| sg 1 kj <| Qaj ?_
      have y7_9:=(Rely.Ext.trans e8 e9)
      repeat (first | with_reducible refine goX1 ?_ | with_reducible refine goX2 ?_ | with_reducible refine goX3 ?_)
      exact Qap (q+1) ⟨kj,kj,kj,kj,kj,kj,kj,kj,kj,trivial⟩ ⟨(by omega),(fun j hj=>(Nat.lt_or_ge j q).elim (hno j) fun h=>by have e:j=q:=(by omega); rw [e]; exact (by rw [hd,decide_eq_false heq,Bool.and_false])),(Rely.Ext.trans (Rely.Ext.trans (Rely.Ext.trans y7_9 e10) e11) e12),x12⟩ (by show (resT ts c).length-(q+1)<(resT ts c).length-q; omega)
    ·skip
     refine Qbe kj fun W9 e9=>?_
     have x9:=Ext.tr xx2 e9
     refine Qas 0 (.slice a_t ts.length c_t) 64 rfl rfl kj kj (fun _ _ _ h=>h) (fun W hR=>by kernel_rfl) <| Qas 1 (.int .i64 ((d:Nat):Int)) 65 rfl rfl kj kj (fun _ _ _ h=>h) (fun W hR=>by kernel_rfl) <| Qas 2 (.pointer (some ⟨gzT,ozT+d*99,none⟩)) 66 rfl rfl kj kj (fun _ _ _ h=>h) (fun W hR=>(Qan 23 _ _ .i64 (d) gzT ozT ts.length c_t 50 99 a_t (haz (by omega)) rfl kj kj kj kj (by omega))) <| Qas 3 (.pointer (some ⟨gzT,ozT+d*99+66,none⟩)) 67 rfl rfl kj kj (fun _ _ _ h=>h) (fun W hR=>by kernel_rfl) ?_
     have y8_9:=(Rely.Ext.trans (Rely.Ext.refl V2) e9)
     refine Qas 4 (.agg (ints .u8 (nz.n.pa))) 68 rfl rfl kj kj (fun _ _ _ h=>h) (fun W hR=>(Qct 28 _ gzT (ozT+d*99) nz (NdAt.ext hnz (Rely.Ext.trans y8_9 hR)) rfl kj kj kj)) ?_
     have r19_8:=(Qae r19_7 e8)
     have r19_9:=(Qae r19_8 e9)
     refine Qas 5 (.agg (ints .u8 (mkN ts x s))) 69 rfl rfl kj kj (fun _ _ _ h=>h) (fun W hR=>(QaA 28 _ g19 28 _ _ (Qae r19_9 hR) rfl kj kj (isz (n:=32) kj ((Qac _ _).trans (Qc9 ts x s))))) <| Qas 6 (.bool true) 70 rfl rfl kj kj (fun _ _ _ h=>h) (fun W hR=>(QaH 28 _ _ _ _ _ (.bool true) rfl kj kj kj (QaW 28 (e:=5) (k:=.u8) (nz.n.pa) (mkN ts x s) (decide_eq_false hpm) okz.pl (Qc9 ts x s) kj kj kj _))) <| Qcb kj <| hK36 _ _ <| cond_true kj <| wp_exit <| hK33 _ _ <| Qad <| Qaa (.int .i64 ((q+1:Nat):Int)) 78 rfl kj (Qag (u:=.int .i64 (IntKind.i64.wrap (((q:Nat):Int)+1))) kj (congrArg (Value.int .i64) (i64n _ _ (by omega) (by omega)))) <| sg 1 kj ?_
     refine Qaj ?_
     have y7_9:=(Rely.Ext.trans e8 e9)
     repeat (first | with_reducible refine goX1 ?_ | with_reducible refine goX2 ?_ | with_reducible refine goX3 ?_)
     exact Qap (q+1) ⟨kj,kj,kj,kj,kj,kj,kj,kj,kj,trivial⟩ ⟨(by omega),(fun j hj=>(Nat.lt_or_ge j q).elim (hno j) fun h=>by have e:j=q:=(by omega); rw [e]; exact (by rw [hpv,decide_eq_false hpm]; rfl)),y7_9,x9⟩ (by show (resT ts c).length-(q+1)<(resT ts c).length-q; omega)
   ·skip
    have heq61:q=(resT ts c).length:=by have:=of_decide_eq_false c24; omega
    refine wp_exit <| hK20 _ _ <| sgB kj <| wp_ret ?_
    repeat (first | with_reducible refine goR1 ?_ | with_reducible refine goR2 ?_)
    exact (show bodyPost _ _ _ .ret _ _ from ret1 (.bool false) rfl (Qar kj) ⟨congrArg (fun z=>Ending.returned (.bool z)) (by unfold Qcs bnd1; rw [←eny]; exact (Qjx fun j hj=>hno j (by omega)).symm),xx2⟩)
end Go.Proofs.YthfkppjajmjpnaaDoor.Te
end
section
namespace Go.Proofs.YthfkppjajmjpnaaDoor.Te
open Go Go.RowKit
open Rely Auto Own Seat Wk Sha
theorem QfD {ts : List NdV} {L x:Nat} (f:Form ts L) (hx:x<ts.length):((ndi ts x).n.us=false∧okX ts L x=true)∨((ndi ts x).n.us=true∧kidL ((x:Nat):Int)=-1∧kidR ((x:Nat):Int)=-1∧okX ts L x=true)∨∃ l r:Nat,(ndi ts x).n.us=true∧kidL ((x:Nat):Int)=((l:Nat):Int)∧kidR ((x:Nat):Int)=((r:Nat):Int)∧l<ts.length∧r<ts.length∧((r:Nat):Int)≠((l:Nat):Int)∧((Qcs ts L x l r=true∧okX ts L x=true)∨(Qcs ts L x l r=false∧Qcs ts L x r l=true∧okX ts L x=true)∨(Qcs ts L x l r=false∧Qcs ts L x r l=false∧okX ts L x=false)):=by
  have hlen:=f.len
  have hn:=QaK f.tr (x:=x) (by omega)
  cases hu:(ndi ts x).n.us with
  | false=>exact .inl ⟨rfl,by unfold okX; rw [hu]; simp⟩
  | true =>
    rcases QbP hn with ⟨-,⟨h0,h1⟩ | ⟨h2,h3,h4,h5⟩⟩
    · exact .inr (.inl ⟨rfl,h0,h1,by unfold okX; rw [h0]; rfl⟩)
    · obtain ⟨l,hl0⟩:=Int.eq_ofNat_of_zero_le (QbL h2)
      obtain ⟨r,hr0⟩:=Int.eq_ofNat_of_zero_le (QbL h3)
      have hll:=QbQ h2
      have hrl:=QbQ h3
      have hne:=Qlg hn h2
      have e:okX ts L x=(Qcs ts L x l r || Qcs ts L x r l):=by
        unfold okX
        rw [hu,hl0,hr0,decide_eq_false (by omega),Int.toNat_natCast,Int.toNat_natCast]; rfl
      refine .inr (.inr ⟨l,r,rfl,hl0,hr0,by omega,by omega,by rw [←hl0,←hr0]; exact hne,?_⟩)
      rw [e]
      cases h1:Qcs ts L x l r with
      | true=>exact .inl ⟨rfl,rfl⟩
      | false =>
        cases h2:Qcs ts L x r l with
        | true=>exact .inr (.inl ⟨rfl,rfl,rfl⟩)
        | false=>exact .inr (.inr ⟨rfl,rfl,rfl⟩)
theorem QgP {ts : List NdV} {L:Nat} (h:∀ j,j<ts.length→okX ts L j=true):bndT ts L=true:=List.all_eq_true.2 fun j hj=>h j (List.mem_range.1 hj)
theorem Qiy {ts : List NdV} {L x:Nat} (hx:x<ts.length) (h:okX ts L x=false):bndT ts L=false:=List.all_eq_false.2 ⟨x,List.mem_range.2 hx,by rw [h]; decide⟩
set_option maxRecDepth 100000 in
theorem Qmt (ts : List NdV) (a_t:Option Addr) (c_t B1:Nat) (htl:ts.length≤100000) (hmt:∀ i,i<ts.length→(ndi ts i).n.ms.length≤50) (hc:chkT ts=true) (L:Nat) (f:Form ts L) (w:World) (ht:TrAt B1 w a_t ts) (hT:TabAt w) (hSh:ShT w):Calls Tryd.prog 18 #[.slice a_t ts.length c_t] w (Ret w (.bool (bndT ts L))):=by
 refine enter 45 [(0,.slice a_t ts.length c_t)] Tryd.func18 rfl rfl kj rfl <| sgB kj <| wp_seq_k fun K2 hK2=>sgC fun K3 hK3=>sg 1 kj <| Qak (.nilIface) 26 #[.slice a_t ts.length c_t] 8 rfl kj kj (QgO ts a_t c_t _ _ (TrAt.ext ht (Rely.Ext.refl w)) htl (fun i hi=>qT (hmt i hi) (by decide)) (TabAt.ext hT (Rely.Ext.refl w)) hc) fun W1 e1=>sg 1 kj <| sgN hK3 <| cond_false kj <| wp_skip ?_
 refine hK2 _ _ <| wp_seq_k fun K4 hK4=>sgB kj <| wp_block <| Qay (fun (s1:Nat)=>[(0,.slice a_t ts.length c_t),(10,.slice a_t ts.length c_t),(11,.int .i64 ((ts.length:Nat):Int)),(12,.int .i64 ((s1:Nat):Int))]) (fun (s1:Nat) W=>(s1≤ts.length)∧(∀ j,j<s1→okX ts L j=true)∧(Ext W1 W)∧(Ext w W)) (fun (s1:Nat)=>ts.length-s1) 0 ⟨kj,kj,kj,kj,trivial⟩ ⟨(Nat.zero_le _),(fun j hj=>absurd hj (Nat.not_lt_zero j)),(Rely.Ext.refl W1),(Ext.tr (Rely.Ext.refl w) e1)⟩ fun s1 X1 V1 hI1=>?_
 obtain ⟨i,hs1⟩:∃ z,z=s1:=⟨_,rfl⟩
 subst hs1
 obtain ⟨hi,hall,kk1,xx1⟩:=hI1
 replace hi:i≤ts.length:=hi
 replace hall:∀ j,j<i→okX ts L j=true:=hall
 replace kk1:Ext W1 V1:=kk1
 replace xx1:Ext w V1:=xx1
 have e2:=kk1
 refine sgB kj <| wp_seq_k fun K7 hK7=>Qaq (t:=decide (((i:Nat):Int)<((ts.length:Nat):Int))) kj (fun c8=>?_) (fun c8=>?_)
 ·skip
  have hlt13:i<ts.length:=by have:=of_decide_eq_true c8; omega
  refine wp_skip <| hK7 _ _ <| wp_seq_k fun K9 hK9=>wp_block <| sgC fun K10 hK10=>sg 1 kj ?_
  obtain ⟨gtT,otT,hat,hnts⟩:=TrAt.ext ht xx1
  have hnt:=hnts i (by omega)
  obtain ⟨nt,ent⟩:∃ z,z=ndi ts i:=⟨_,rfl⟩
  rw [←ent] at hnt
  have okt:=hnt.ok
  have rdt:=hnt.rd
  refine Qaa (.pointer (some ⟨gtT,otT+i*99,none⟩)) 15 rfl kj (Qan 23 _ _ .i64 i gtT otT ts.length c_t 50 99 a_t (hat (by omega)) rfl kj kj kj kj (by omega)) <| Qaa (.agg (cat [#[.bool nt.n.us],#[.int .i64 nt.n.nm],ints .u8 (nt.n.key),ints .u8 (nt.n.sg),ints .u8 (nt.n.pa),#[.slice nt.a nt.n.ms.length nt.c]])) 16 rfl kj (QaI 50 _ gtT (otT+i*99) nt hnt rfl kj kj kj) <| Qal (cat [#[.bool false],#[.int .i64 0],ints .u8 (List.replicate 32 0),ints .u8 (List.replicate 32 0),ints .u8 (List.replicate 32 0),#[.slice none 0 0]]) 50 4 rfl kj kj fun g11 W3 l11 e3 r11_3=>sg 1 kj <| Qav g11 _ (cat [#[.bool nt.n.us],#[.int .i64 nt.n.nm],ints .u8 (nt.n.key),ints .u8 (nt.n.sg),ints .u8 (nt.n.pa),#[.slice nt.a nt.n.ms.length nt.c]]) 50 r11_3 rfl kj (Qat 50 _ _ g11 50 _ _ r11_3 rfl kj kj (isz (n:=99) kj (by rw [Qab,Qab,Qab,Qab,Qab,Qab]; simp only [qS,cat,((Qac _ _).trans okt.gl),((Qac _ _).trans okt.kl),((Qac _ _).trans okt.pl)]; rfl)) (eqsz (n:=99) (by rw [Qab,Qab,Qab,Qab,Qab,Qab]; simp only [qS,cat,((Qac _ _).trans (qZ (n:=32)))]; rfl) (by rw [Qab,Qab,Qab,Qab,Qab,Qab]; simp only [qS,cat,((Qac _ _).trans okt.gl),((Qac _ _).trans okt.kl),((Qac _ _).trans okt.pl)]; rfl)) (Qbo _ (by intro a ha; simp only [List.mem_cons,List.not_mem_nil,or_false] at ha; rcases ha with rfl | rfl | rfl | rfl | rfl | rfl; exact (Qa7 _ rfl); exact (Qa7 _ rfl); exact (Qau _ _); exact (Qau _ _); exact (Qau _ _); exact (Qa7 _ rfl)))) fun W4 p4 r11_4=>?_
  have x4:=Puts.ext p4 (Ext.tr xx1 e3) (qT xx1.size l11)
  refine sgN hK10 <| wp_seq_k fun K12 hK12=>?_
  rcases QfD f hlt13 with ⟨hus,hok⟩ | ⟨hus,hk1,hk2,hok⟩ | ⟨l,r,hus,hk1,hk2,hll,hrl,-,⟨h1,hok⟩ | ⟨h1,h2,hok⟩ | ⟨h1,h2,hok⟩⟩
  ·skip
   have rbx:W4.heap[g11]? = some (.cells (cat [#[.bool false],#[.int .i64 nt.n.nm],ints .u8 (nt.n.key),ints .u8 (nt.n.sg),ints .u8 (nt.n.pa),#[.slice nt.a nt.n.ms.length nt.c]]) 50):=by have h9:=r11_4; rw [show nt.n.us=false from ent▸hus] at h9; exact h9
   have hki:∀ W,TabAt W→Calls Tryd.prog 36 #[.int .i64 ((i:Nat):Int)] W (Ret W (.tuple #[.int .i64 (kidL ((i:Nat):Int)),.int .i64 (kidR ((i:Nat):Int))])):=fun W h=>by have h9:=QfM ((i:Nat):Int) ⟨by omega,by omega⟩ W h; exact h9
   refine Qad <| sg 1 kj <| Qak (.tuple #[.int .i64 (kidL ((i:Nat):Int)),.int .i64 (kidR ((i:Nat):Int))]) 36 #[.int .i64 ((i:Nat):Int)] 19 rfl kj kj (hki _ (TabAt.ext hT x4)) fun W5 e5=>?_
   have x5:=Ext.tr x4 e5
   refine sg 5 kj <| sgN hK12 <| sgC fun K13 hK13=>sg 1 kj ?_
   have r11_5:=(Qae rbx e5)
   refine Qaa (.bool false) 23 rfl kj (Qaf 4 _ g11 0 50 _ (.bool false) _ r11_5 rfl kj (Qah [] [#[.bool false]] [#[.int .i64 nt.n.nm],ints .u8 (nt.n.key),ints .u8 (nt.n.sg),ints .u8 (nt.n.pa),#[.slice nt.a nt.n.ms.length nt.c]] 0 kj 0 _ rfl) kj) <| sg 20 kj <| sgN hK13 <| cond_false kj <| wp_skip <| hK9 _ _ <| Qad <| Qaa (.int .i64 ((i+1:Nat):Int)) 44 rfl kj (Qag (u:=.int .i64 (IntKind.i64.wrap (((i:Nat):Int)+1))) kj (congrArg (Value.int .i64) (i64n _ _ (by omega) (by omega)))) <| sg 1 kj <| Qaj ?_
   have y1_3:=(Rely.Ext.trans e2 e3)
   have y1_4:=(Puts.ext p4 y1_3 (qT e2.size l11))
   have y1_5:=(Rely.Ext.trans y1_4 e5)
   repeat (first | with_reducible refine goX1 ?_ | with_reducible refine goX2 ?_ | with_reducible refine goX3 ?_)
   exact Qap (i+1) ⟨kj,kj,kj,kj,trivial⟩ ⟨(by omega),(fun j hj=>(Nat.lt_or_ge j i).elim (hall j) fun h=>by have e:j=i:=(by omega); rw [e]; exact hok),y1_5,x5⟩ (by show ts.length-(i+1)<ts.length-i; omega)
  ·skip
   have rbx:W4.heap[g11]? = some (.cells (cat [#[.bool true],#[.int .i64 nt.n.nm],ints .u8 (nt.n.key),ints .u8 (nt.n.sg),ints .u8 (nt.n.pa),#[.slice nt.a nt.n.ms.length nt.c]]) 50):=by have h9:=r11_4; rw [show nt.n.us=true from ent▸hus] at h9; exact h9
   have hki:∀ W,TabAt W→Calls Tryd.prog 36 #[.int .i64 ((i:Nat):Int)] W (Ret W (.tuple #[.int .i64 (-1),.int .i64 (-1)])):=fun W h=>by have h9:=QfM ((i:Nat):Int) ⟨by omega,by omega⟩ W h; rw [hk1,hk2] at h9; exact h9
   refine Qad <| sg 1 kj <| Qak (.tuple #[.int .i64 (-1),.int .i64 (-1)]) 36 #[.int .i64 ((i:Nat):Int)] 19 rfl kj kj (hki _ (TabAt.ext hT x4)) fun W5 e5=>?_
   have x5:=Ext.tr x4 e5
   refine sg 5 kj <| sgN hK12 <| sgC fun K14 hK14=>sg 1 kj ?_
   have r11_5:=(Qae rbx e5)
   refine Qaa (.bool true) 23 rfl kj (Qaf 4 _ g11 0 50 _ (.bool true) _ r11_5 rfl kj (Qah [] [#[.bool true]] [#[.int .i64 nt.n.nm],ints .u8 (nt.n.key),ints .u8 (nt.n.sg),ints .u8 (nt.n.pa),#[.slice nt.a nt.n.ms.length nt.c]] 0 kj 0 _ rfl) kj) <| sg 20 kj <| sgN hK14 <| cond_false kj <| wp_skip <| hK9 _ _ <| Qad <| Qaa (.int .i64 ((i+1:Nat):Int)) 44 rfl kj (Qag (u:=.int .i64 (IntKind.i64.wrap (((i:Nat):Int)+1))) kj (congrArg (Value.int .i64) (i64n _ _ (by omega) (by omega)))) <| sg 1 kj <| Qaj ?_
   have y1_3:=(Rely.Ext.trans e2 e3)
   have y1_4:=(Puts.ext p4 y1_3 (qT e2.size l11))
   have y1_5:=(Rely.Ext.trans y1_4 e5)
   repeat (first | with_reducible refine goX1 ?_ | with_reducible refine goX2 ?_ | with_reducible refine goX3 ?_)
   exact Qap (i+1) ⟨kj,kj,kj,kj,trivial⟩ ⟨(by omega),(fun j hj=>(Nat.lt_or_ge j i).elim (hall j) fun h=>by have e:j=i:=(by omega); rw [e]; exact hok),y1_5,x5⟩ (by show ts.length-(i+1)<ts.length-i; omega)
  ·skip
   have rbx:W4.heap[g11]? = some (.cells (cat [#[.bool true],#[.int .i64 nt.n.nm],ints .u8 (nt.n.key),ints .u8 (nt.n.sg),ints .u8 (nt.n.pa),#[.slice nt.a nt.n.ms.length nt.c]]) 50):=by have h9:=r11_4; rw [show nt.n.us=true from ent▸hus] at h9; exact h9
   have hki:∀ W,TabAt W→Calls Tryd.prog 36 #[.int .i64 ((i:Nat):Int)] W (Ret W (.tuple #[.int .i64 ((l:Nat):Int),.int .i64 ((r:Nat):Int)])):=fun W h=>by have h9:=QfM ((i:Nat):Int) ⟨by omega,by omega⟩ W h; rw [hk1,hk2] at h9; exact h9
   refine Qad <| sg 1 kj <| Qak (.tuple #[.int .i64 ((l:Nat):Int),.int .i64 ((r:Nat):Int)]) 36 #[.int .i64 ((i:Nat):Int)] 19 rfl kj kj (hki _ (TabAt.ext hT x4)) fun W5 e5=>?_
   have x5:=Ext.tr x4 e5
   refine sg 5 kj <| sgN hK12 <| sgC fun K15 hK15=>sg 1 kj ?_
   have r11_5:=(Qae rbx e5)
   refine Qaa (.bool true) 23 rfl kj (Qaf 4 _ g11 0 50 _ (.bool true) _ r11_5 rfl kj (Qah [] [#[.bool true]] [#[.int .i64 nt.n.nm],ints .u8 (nt.n.key),ints .u8 (nt.n.sg),ints .u8 (nt.n.pa),#[.slice nt.a nt.n.ms.length nt.c]] 0 kj 0 _ rfl) kj) <| sg 2 kj <| Qaa (.bool true) 26 rfl kj (Qag (u:=.bool (decide (((l:Nat):Int)≥0))) kj (congrArg Value.bool (decide_eq_true (by omega)))) <| sg 6 kj <| Qak (.bool true) 39 #[.slice a_t ts.length c_t,.int .i64 ((i:Nat):Int),.int .i64 ((l:Nat):Int),.int .i64 ((r:Nat):Int)] 33 rfl kj kj ((h1▸Qdw ts a_t c_t B1 htl hmt hc L f _ (TrAt.ext ht x5) (TabAt.ext hT x5) (ShT.ext hSh x5) i l r hlt13 (by omega) (by omega))) fun W6 e6=>?_
   have x6:=Ext.tr x5 e6
   refine sg 10 kj <| sgN hK15 <| cond_false kj <| wp_skip <| hK9 _ _ <| Qad <| Qaa (.int .i64 ((i+1:Nat):Int)) 44 rfl kj (Qag (u:=.int .i64 (IntKind.i64.wrap (((i:Nat):Int)+1))) kj (congrArg (Value.int .i64) (i64n _ _ (by omega) (by omega)))) <| sg 1 kj <| Qaj ?_
   have y1_3:=(Rely.Ext.trans e2 e3)
   have y1_4:=(Puts.ext p4 y1_3 (qT e2.size l11))
   have y1_5:=(Rely.Ext.trans y1_4 e5)
   have y1_6:=(Rely.Ext.trans y1_5 e6)
   repeat (first | with_reducible refine goX1 ?_ | with_reducible refine goX2 ?_ | with_reducible refine goX3 ?_)
   exact Qap (i+1) ⟨kj,kj,kj,kj,trivial⟩ ⟨(by omega),(fun j hj=>(Nat.lt_or_ge j i).elim (hall j) fun h=>by have e:j=i:=(by omega); rw [e]; exact hok),y1_6,x6⟩ (by show ts.length-(i+1)<ts.length-i; omega)
  ·skip
   have rbx:W4.heap[g11]? = some (.cells (cat [#[.bool true],#[.int .i64 nt.n.nm],ints .u8 (nt.n.key),ints .u8 (nt.n.sg),ints .u8 (nt.n.pa),#[.slice nt.a nt.n.ms.length nt.c]]) 50):=by have h9:=r11_4; rw [show nt.n.us=true from ent▸hus] at h9; exact h9
   have hki:∀ W,TabAt W→Calls Tryd.prog 36 #[.int .i64 ((i:Nat):Int)] W (Ret W (.tuple #[.int .i64 ((l:Nat):Int),.int .i64 ((r:Nat):Int)])):=fun W h=>by have h9:=QfM ((i:Nat):Int) ⟨by omega,by omega⟩ W h; rw [hk1,hk2] at h9; exact h9
   refine Qad <| sg 1 kj <| Qak (.tuple #[.int .i64 ((l:Nat):Int),.int .i64 ((r:Nat):Int)]) 36 #[.int .i64 ((i:Nat):Int)] 19 rfl kj kj (hki _ (TabAt.ext hT x4)) fun W5 e5=>?_
   have x5:=Ext.tr x4 e5
   refine sg 5 kj <| sgN hK12 <| sgC fun K16 hK16=>sg 1 kj ?_
   have r11_5:=(Qae rbx e5)
   refine Qaa (.bool true) 23 rfl kj (Qaf 4 _ g11 0 50 _ (.bool true) _ r11_5 rfl kj (Qah [] [#[.bool true]] [#[.int .i64 nt.n.nm],ints .u8 (nt.n.key),ints .u8 (nt.n.sg),ints .u8 (nt.n.pa),#[.slice nt.a nt.n.ms.length nt.c]] 0 kj 0 _ rfl) kj) <| sg 2 kj <| Qaa (.bool true) 26 rfl kj (Qag (u:=.bool (decide (((l:Nat):Int)≥0))) kj (congrArg Value.bool (decide_eq_true (by omega)))) <| sg 6 kj <| Qak (.bool false) 39 #[.slice a_t ts.length c_t,.int .i64 ((i:Nat):Int),.int .i64 ((l:Nat):Int),.int .i64 ((r:Nat):Int)] 33 rfl kj kj ((h1▸Qdw ts a_t c_t B1 htl hmt hc L f _ (TrAt.ext ht x5) (TabAt.ext hT x5) (ShT.ext hSh x5) i l r hlt13 (by omega) (by omega))) fun W6 e6=>?_
   have x6:=Ext.tr x5 e6
   refine sg 7 kj <| Qak (.bool true) 39 #[.slice a_t ts.length c_t,.int .i64 ((i:Nat):Int),.int .i64 ((r:Nat):Int),.int .i64 ((l:Nat):Int)] 41 rfl kj kj ((h2▸Qdw ts a_t c_t B1 htl hmt hc L f _ (TrAt.ext ht x6) (TabAt.ext hT x6) (ShT.ext hSh x6) i r l hlt13 (by omega) (by omega))) fun W7 e7=>?_
   have x7:=Ext.tr x6 e7
   refine sg 2 kj <| sgN hK16 <| cond_false kj <| wp_skip <| hK9 _ _ <| Qad <| Qaa (.int .i64 ((i+1:Nat):Int)) 44 rfl kj (Qag (u:=.int .i64 (IntKind.i64.wrap (((i:Nat):Int)+1))) kj (congrArg (Value.int .i64) (i64n _ _ (by omega) (by omega)))) <| sg 1 kj <| Qaj ?_
   have y1_3:=(Rely.Ext.trans e2 e3)
   have y1_4:=(Puts.ext p4 y1_3 (qT e2.size l11))
   have y1_5:=(Rely.Ext.trans y1_4 e5)
   have y1_6:=(Rely.Ext.trans y1_5 e6)
   repeat (first | with_reducible refine goX1 ?_ | with_reducible refine goX2 ?_ | with_reducible refine goX3 ?_)
   exact Qap (i+1) ⟨kj,kj,kj,kj,trivial⟩ ⟨(by omega),(fun j hj=>(Nat.lt_or_ge j i).elim (hall j) fun h=>by have e:j=i:=(by omega); rw [e]; exact hok),(Rely.Ext.trans y1_6 e7),x7⟩ (by show ts.length-(i+1)<ts.length-i; omega)
  ·skip
   have rbx:W4.heap[g11]? = some (.cells (cat [#[.bool true],#[.int .i64 nt.n.nm],ints .u8 (nt.n.key),ints .u8 (nt.n.sg),ints .u8 (nt.n.pa),#[.slice nt.a nt.n.ms.length nt.c]]) 50):=by have h9:=r11_4; rw [show nt.n.us=true from ent▸hus] at h9; exact h9
   have hki:∀ W,TabAt W→Calls Tryd.prog 36 #[.int .i64 ((i:Nat):Int)] W (Ret W (.tuple #[.int .i64 ((l:Nat):Int),.int .i64 ((r:Nat):Int)])):=fun W h=>by have h9:=QfM ((i:Nat):Int) ⟨by omega,by omega⟩ W h; rw [hk1,hk2] at h9; exact h9
   refine Qad <| sg 1 kj <| Qak (.tuple #[.int .i64 ((l:Nat):Int),.int .i64 ((r:Nat):Int)]) 36 #[.int .i64 ((i:Nat):Int)] 19 rfl kj kj (hki _ (TabAt.ext hT x4)) fun W5 e5=>?_
   have x5:=Ext.tr x4 e5
   refine sg 5 kj <| sgN hK12 <| sgC fun K17 hK17=>sg 1 kj ?_
   have r11_5:=(Qae rbx e5)
   refine Qaa (.bool true) 23 rfl kj (Qaf 4 _ g11 0 50 _ (.bool true) _ r11_5 rfl kj (Qah [] [#[.bool true]] [#[.int .i64 nt.n.nm],ints .u8 (nt.n.key),ints .u8 (nt.n.sg),ints .u8 (nt.n.pa),#[.slice nt.a nt.n.ms.length nt.c]] 0 kj 0 _ rfl) kj) <| sg 2 kj <| Qaa (.bool true) 26 rfl kj (Qag (u:=.bool (decide (((l:Nat):Int)≥0))) kj (congrArg Value.bool (decide_eq_true (by omega)))) <| sg 6 kj <| Qak (.bool false) 39 #[.slice a_t ts.length c_t,.int .i64 ((i:Nat):Int),.int .i64 ((l:Nat):Int),.int .i64 ((r:Nat):Int)] 33 rfl kj kj ((h1▸Qdw ts a_t c_t B1 htl hmt hc L f _ (TrAt.ext ht x5) (TabAt.ext hT x5) (ShT.ext hSh x5) i l r hlt13 (by omega) (by omega))) fun W6 e6=>?_
   have x6:=Ext.tr x5 e6
   refine sg 7 kj <| Qak (.bool false) 39 #[.slice a_t ts.length c_t,.int .i64 ((i:Nat):Int),.int .i64 ((r:Nat):Int),.int .i64 ((l:Nat):Int)] 41 rfl kj kj ((h2▸Qdw ts a_t c_t B1 htl hmt hc L f _ (TrAt.ext ht x6) (TabAt.ext hT x6) (ShT.ext hSh x6) i r l hlt13 (by omega) (by omega))) fun W7 e7=>?_
   have x7:=Ext.tr x6 e7
   refine sg 2 kj <| sgN hK17 <| cond_true kj <| sgB kj <| wp_ret ?_
   repeat (first | with_reducible refine goR1 ?_ | with_reducible refine goR2 ?_)
   exact (show bodyPost _ _ _ .ret _ _ from ret1 (.bool false) rfl (Qar kj) ⟨congrArg (fun z=>Ending.returned (.bool z)) (Qiy hlt13 hok).symm,x7⟩)
 ·skip
  have heq13:i=ts.length:=by have:=of_decide_eq_false c8; omega
  refine wp_exit <| hK4 _ _ <| sgB kj <| wp_ret ?_
  repeat (first | with_reducible refine goR1 ?_ | with_reducible refine goR2 ?_)
  exact (show bodyPost _ _ _ .ret _ _ from ret1 (.bool true) rfl (Qar kj) ⟨congrArg (fun z=>Ending.returned (.bool z)) (QgP fun j hj=>hall j (by omega)).symm,xx1⟩)
end Go.Proofs.YthfkppjajmjpnaaDoor.Te
end
section
namespace Go.Proofs.YthfkppjajmjpnaaDoor.Te
open Go Go.RowKit
open Rely Auto Own Seat Wk Sha
theorem QgD {K : Act→World→Prop} {ds:List Deferred} {N:Nat} {L:Env} {W:World} (M:Env) (h:K (Qa3 ds N (M++L)) W) (ha:Qgp L M):K (Qa3 ds N L) W:=Qe3 (ds:=ds) (N:=N) ha▸h
theorem Qdl (ns ms:List Int) (i j:Nat):othK ns ms i (j+1)=(othK ns ms i j&&((j==i) || (decide (nth ns j%2=0)&&decide (nth ns j/2∈ms)))):=QgT _ _
theorem Qey (ns : List Int) (i:Nat) (k:Int) (j:Nat):fndK ns i k (j+1)=(fndK ns i k j || (!(j==i)&&decide (nth ns j=2*k))):=QgQ _ _
theorem Qe5 (ns ms:List Int) (c n:Int) (i j:Nat):abvK ns ms c n i (j+1)=(abvK ns ms c n i j&&(!(abv c (2*nth ms j) n) || fndK ns i (nth ms j) ns.length)):=QgT _ _
theorem Qe2 (ts : List NdV) (ns ms m:List Int) (c n:Int) (j:Nat):bnd2 ts ns ms m c n (j+1)=(bnd2 ts ns ms m c n j || (decide (pav ts (nth ns j)=m)&&(othK ns ms j ns.length&&abvK ns ms c n j ms.length))):=QgQ _ _
def sdB (ts : List NdV) (L x l r:Nat):Nat→Bool
  | 0=>false
  | 1=>Qcs ts L x l r
  | _+2=>Qcs ts L x l r || Qcs ts L x r l
theorem QhM {ts : List NdV} {L x:Nat} (f:Form ts L) (hx:x<ts.length) (ho:x%2=1):((ndi ts x).n.us=false∧okX ts L x=true)∨∃ l r:Nat,(ndi ts x).n.us=true∧kidL ((x:Nat):Int)=((l:Nat):Int)∧kidR ((x:Nat):Int)=((r:Nat):Int)∧l<ts.length∧r<ts.length∧((r:Nat):Int)≠((l:Nat):Int)∧okX ts L x=sdB ts L x l r 2:=by
  have hlen:=f.len
  rcases QfD f hx with ⟨h1,h2⟩ | ⟨h1,h2,h3,h4⟩ | ⟨l,r,h1,h2,h3,h4,h5,h6,h7⟩
  · exact .inl ⟨h1,h2⟩
  · have:=QgM (QaK f.tr (x:=x) (by omega)) h2; omega
  · refine .inr ⟨l,r,h1,h2,h3,h4,h5,h6,?_⟩
    unfold sdB
    rcases h7 with ⟨a,b⟩ | ⟨a,b,d⟩ | ⟨a,b,d⟩
    · rw [a,b]; rfl
    · rw [a,b,d]; rfl
    · rw [a,b,d]; rfl
theorem QiS {ts : List NdV} {L x:Nat} (hx:x≤1000000) (he:x%2=0):okX ts L x=true:=by
  unfold okX
  rw [decide_eq_true (Qfw hx he)]; rfl
theorem Ql0 (a b:Int):(a==b)=decide (a=b):=by rw [Bool.eq_iff_iff]; simp
theorem Qkj {n : Int} (h:0≤n):Int.tmod n 2=n%2:=Int.tmod_eq_emod_of_nonneg h
theorem quo2 {n : Int} (h:0≤n) (h2:n≤1000000):IntKind.i64.wrap (Int.tdiv n 2)=n/2:=by
  rw [Int.tdiv_eq_ediv_of_nonneg h]; exact IntWalk.i64_in _ (by omega)
set_option maxRecDepth 100000 in
theorem QkE (ts : List NdV) (a_t:Option Addr) (c_t B1:Nat) (htl:ts.length≤100000) (hmt:∀ i,i<ts.length→(ndi ts i).n.ms.length≤50) (hc:chkT ts=true) (L:Nat) (f:Form ts L) (w:World) (ht:TrAt B1 w a_t ts):Calls Tryd.prog 19 #[.slice a_t ts.length c_t] w (Ret w (.bool (bndT ts L))):=by
 have hlen:=f.len
 have hTr:=f.tr
 have hL6:=QaB hTr
 have hLT:=QcK (by omega) (QcV f)
 refine enter 157 [(0,.slice a_t ts.length c_t)] Tryd.func19 rfl rfl kj rfl <| sgB kj <| wp_seq_k fun K2 hK2=>sgC fun K3 hK3=>sg 1 kj <| Qak (.bool true) 12 #[.slice a_t ts.length c_t] 19 rfl kj kj (Qmm ts a_t c_t _ _ (TrAt.ext ht (Rely.Ext.refl w)) htl (fun i hi=>qT (hmt i hi) (by decide)) true hc) fun W1 e1=>sg 1 kj <| sgN hK3 <| cond_false kj <| wp_skip ?_
 refine hK2 _ _ <| sgC fun K4 hK4=>sg 2 kj <| Qak (.int .i64 ((L:Nat):Int)) 25 #[.int .i64 ((ts.length:Nat):Int)] 23 rfl kj kj (QdS ((ts.length:Nat):Int) _ hLT _) fun W2 e2=>sg 1 kj <| sgN hK4 <| wp_seq_k fun K5 hK5=>sgB kj <| wp_block <| Qay (fun (s1:Nat)=>[(0,.slice a_t ts.length c_t),(3,.int .i64 ((L:Nat):Int)),(4,.int .i64 ((2*s1+1:Nat):Int))]) (fun (s1:Nat) W=>(2*s1+1≤ts.length)∧(∀ j,j<s1→okX ts L (2*j+1)=true)∧(Ext W2 W)∧(Ext w W)) (fun (s1:Nat)=>ts.length-s1) 0 ⟨kj,kj,kj,trivial⟩ ⟨(by omega),(fun j hj=>absurd hj (Nat.not_lt_zero j)),(Rely.Ext.refl W2),(Ext.tr (Ext.tr (Rely.Ext.refl w) e1) e2)⟩ fun s1 X1 V1 hI1=>?_
 obtain ⟨y,hs1⟩:∃ z,z=s1:=⟨_,rfl⟩
 subst hs1
 obtain ⟨hy,hall,kk1,xx1⟩:=hI1
 replace hy:2*y+1≤ts.length:=hy
 replace hall:∀ j,j<y→okX ts L (2*j+1)=true:=hall
 replace kk1:Ext W2 V1:=kk1
 replace xx1:Ext w V1:=xx1
 have e3:=kk1
 refine wp_seq_k fun K7 hK7=>sgB kj <| Qaq (t:=decide (((2*y+1:Nat):Int)<((ts.length:Nat):Int))) kj (fun c9=>?_) (fun c9=>?_)
 ·skip
  have hlt27:2*y+1<ts.length:=by have:=of_decide_eq_true c9; omega
  refine wp_skip <| hK7 _ _ <| wp_seq_k fun K10 hK10=>wp_block <| wp_seq_k fun K11 hK11=>wp_seq_k fun K12 hK12=>?_
  obtain ⟨gvT,ovT,hav,hnvs⟩:=TrAt.ext ht xx1
  have hnv:=hnvs ((2*y+1)) (by omega)
  obtain ⟨nv,env⟩:∃ z,z=ndi ts ((2*y+1)):=⟨_,rfl⟩
  rw [←env] at hnv
  have okv:=hnv.ok
  have rdv:=hnv.rd
  rcases QhM f hlt27 (by omega) with ⟨hus,hok⟩ | ⟨l,r,hus,hk1,hk2,hll,hrl,hne,hok⟩
  ·skip
   refine Qad <| sg 2 kj <| Qaa (.pointer (some ⟨gvT,ovT+((2*y+1))*99,none⟩)) 32 rfl kj (Qan 23 _ _ .i64 ((2*y+1)) gvT ovT ts.length c_t 50 99 a_t (hav (by omega)) rfl kj kj kj kj (by omega)) <| sg 1 kj <| Qaa (.bool false) 34 rfl kj (Qai 4 _ _ (.bool false) ((NdAt.at3 hnv).1.trans (congrArg (fun z=>some (Value.bool z)) (env▸hus))) rfl kj kj) <| sg 1 kj <| sgN hK12 <| cond_true kj <| wp_exit <| hK10 _ _ ?_
   refine Qad <| sg 1 kj <| Qaa (.int .i64 (((2*(y+1)+1:Nat):Int))) 29 rfl kj (Qag (u:=.int .i64 (IntKind.i64.wrap (((2*y+1:Nat):Int)+2))) kj (congrArg (Value.int .i64) ((IntWalk.i64_in _ (by omega)).trans (by omega)))) <| sg 1 kj <| Qaj ?_
   repeat (first | with_reducible refine goX1 ?_ | with_reducible refine goX2 ?_ | with_reducible refine goX3 ?_)
   exact Qap (y+1) ⟨kj,kj,kj,trivial⟩ ⟨(by omega),(fun j hj=>(Nat.lt_or_ge j y).elim (hall j) fun h=>by have e:j=y:=(by omega); rw [e]; exact hok),e3,xx1⟩ (by show ts.length-(y+1)<ts.length-y; omega)
  ·skip
   have hms:=f.ms_lt hlt27 (by omega) hus
   rw [←env] at hms
   have hml5:nv.n.ms.length≤50:=env▸hmt _ hlt27
   have hki:∀ W,Calls Tryd.prog 16 #[.int .i64 (((2*y+1):Nat):Int)] W (Ret W (.tuple #[.int .i64 ((l:Nat):Int),.int .i64 ((r:Nat):Int)])):=fun W=>by have h9:=Qk9 (((2*y+1):Nat):Int) ⟨by omega,by omega⟩ W; rw [hk1,hk2] at h9; exact h9
   refine Qad <| sg 2 kj <| Qaa (.pointer (some ⟨gvT,ovT+((2*y+1))*99,none⟩)) 32 rfl kj (Qan 23 _ _ .i64 ((2*y+1)) gvT ovT ts.length c_t 50 99 a_t (hav (by omega)) rfl kj kj kj kj (by omega)) <| sg 1 kj <| Qaa (.bool true) 34 rfl kj (Qai 4 _ _ (.bool true) ((NdAt.at3 hnv).1.trans (congrArg (fun z=>some (Value.bool z)) (env▸hus))) rfl kj kj) <| sg 1 kj <| sgN hK12 <| cond_false kj <| wp_skip <| hK11 _ _ ?_
   refine sgC fun K13 hK13=>sg 1 kj <| Qak (.tuple #[.int .i64 ((l:Nat):Int),.int .i64 ((r:Nat):Int)]) 16 #[.int .i64 ((2*y+1:Nat):Int)] 38 rfl kj kj (hki _) fun W4 e4=>sg 5 kj <| sgN hK13 <| sgB kj <| wp_seq_k fun K15 hK15=>sgB kj <| wp_block <| Qay (fun (s2:Nat×Bool)=>[(0,.slice a_t ts.length c_t),(3,.int .i64 ((L:Nat):Int)),(4,.int .i64 ((2*y+1:Nat):Int)),(5,.int .i64 ((l:Nat):Int)),(6,.int .i64 ((r:Nat):Int)),(7,.bool s2.2),(8,.int .i64 ((s2.1:Nat):Int))]) (fun (s2:Nat×Bool) W=>(s2.1≤2)∧(s2.2=sdB ts L (2*y+1) l r s2.1)∧(Ext W4 W)∧(Ext w W)) (fun (s2:Nat×Bool)=>2-s2.1) (0,false) ⟨kj,kj,kj,kj,kj,kj,kj,trivial⟩ ⟨(Nat.zero_le _),rfl,(Rely.Ext.refl W4),(Ext.tr xx1 e4)⟩ fun s2 X2 V2 hI2=>?_
   obtain ⟨s,bd⟩:=s2
   obtain ⟨hs2,hbd,kk2,xx2⟩:=hI2
   replace hs2:s≤2:=hs2
   replace hbd:bd=sdB ts L (2*y+1) l r s:=hbd
   replace kk2:Ext W4 V2:=kk2
   replace xx2:Ext w V2:=xx2
   have e5:=kk2
   refine wp_seq_k fun K17 hK17=>sgB kj <| Qaq (t:=decide (((s:Nat):Int)<2)) kj (fun c19=>?_) (fun c19=>?_)
   ·skip
    have hlt42:s<2:=by have:=of_decide_eq_true c19; omega
    refine wp_skip <| hK17 _ _ <| wp_seq_k fun K20 hK20=>wp_block <| sgB kj <| wp_seq_k fun K22 hK22=>?_
    have hJ:∀ (c sb:Nat) (X:Env) (WJ:World),c<ts.length→sb<ts.length→(c=l∧sb=r∨c=r∧sb=l)→sdB ts L (2*y+1) l r (s+1)=(bd || Qcs ts L (2*y+1) c sb)→Ext V2 WJ→K22 (Qa3 [] 157 ([(0,.slice a_t ts.length c_t),(3,.int .i64 ((L:Nat):Int)),(4,.int .i64 ((2*y+1:Nat):Int)),(5,.int .i64 ((l:Nat):Int)),(6,.int .i64 ((r:Nat):Int)),(7,.bool bd),(8,.int .i64 ((s:Nat):Int)),(9,.int .i64 ((c:Nat):Int))]++X)) WJ:=by
     intro c sb X22 WJ hcl hsl hcc hsd e6
     refine hK22 _ _ ?_
     have x6:=Ext.tr xx2 e6
     have hmk:∀ W,TrAt B1 W a_t ts→Calls Tryd.prog 17 #[.slice a_t ts.length c_t,.int .i64 (((2*y+1):Nat):Int),.int .i64 ((c:Nat):Int)] W (Ret W (.agg (ints .u8 (mkN ts (2*y+1) sb)))):=fun W h=>by
      rcases hcc with ⟨rfl,rfl⟩ | ⟨rfl,rfl⟩
      ·exact Qk8 ts a_t c_t B1 htl hmt W h (2*y+1) hc hlt27 c sb hcl hsl hne hki
      ·exact Qk7 ts a_t c_t B1 htl hmt W h (2*y+1) hc hlt27 sb c hsl hcl hne hki
     have hnl:=Qg2 hmt c
     refine sgC fun K23 hK23=>sg 2 kj <| Qa0 (fun v W'=>(OwnN .i64 3 WJ.heap.size (resT ts c)) v W'∧Ext WJ W') 40 #[.slice a_t ts.length c_t,.int .i64 ((c:Nat):Int)] 51 rfl kj kj ((resR ts a_t c_t _ htl (fun i hi=>qT (hmt i hi) (by decide)) L hlen hTr 5 c (qR _) hcl (Qft f hcl) _ (TrAt.ext ht x6)).mono (by rintro e w' ⟨v,rfl,e1,hv⟩; exact ⟨v,rfl,hv,e1⟩)) fun vv24 W7 hh24=>?_
     obtain ⟨hv24,e7⟩:=hh24
     obtain ⟨a_n,c_n,rfl,-⟩:=id (OwnN.rd hv24)
     refine sg 1 kj <| sgN hK23 <| sgB kj <| wp_block <| Qay (fun (s3:Nat×Bool)=>[(0,.slice a_t ts.length c_t),(3,.int .i64 ((L:Nat):Int)),(4,.int .i64 ((2*y+1:Nat):Int)),(5,.int .i64 ((l:Nat):Int)),(6,.int .i64 ((r:Nat):Int)),(8,.int .i64 ((s:Nat):Int)),(9,.int .i64 ((c:Nat):Int)),(10,.slice a_n ((resT ts c).length) c_n),(7,.bool s3.2),(11,.int .i64 ((s3.1:Nat):Int))]) (fun (s3:Nat×Bool) W=>(s3.1≤(resT ts c).length)∧(s3.2=(bd || bnd2 ts (resT ts c) nv.n.ms (mkN ts (2*y+1) sb) ((c:Nat):Int) ((L:Nat):Int) s3.1))∧(Ext W7 W)∧(Ext w W)) (fun (s3:Nat×Bool)=>(resT ts c).length-s3.1) (0,bd) ⟨kj,kj,kj,kj,kj,kj,kj,kj,kj,kj,trivial⟩ ⟨(Nat.zero_le _),(Bool.or_false _).symm,(Rely.Ext.refl W7),(Ext.tr x6 e7)⟩ fun s3 X3 V3 hI3=>?_
     obtain ⟨i,be⟩:=s3
     obtain ⟨hi,hbe,kk3,xx3⟩:=hI3
     replace hi:i≤(resT ts c).length:=hi
     replace hbe:be=(bd || bnd2 ts (resT ts c) nv.n.ms (mkN ts (2*y+1) sb) ((c:Nat):Int) ((L:Nat):Int) i):=hbe
     replace kk3:Ext W7 V3:=kk3
     replace xx3:Ext w V3:=xx3
     have e8:=kk3
     refine wp_seq_k fun K26 hK26=>sgB kj <| Qaq (t:=decide (((i:Nat):Int)<(((resT ts c).length:Nat):Int))) kj (fun c28=>?_) (fun c28=>?_)
     ·skip
      have hlt55:i<(resT ts c).length:=by have:=of_decide_eq_true c28; omega
      have f30_8:=(hv24.ext e8)
      have hnn_29:(resT ts c).length=(resT ts c).length:=rfl
      obtain ⟨gcn_29,ocn_29,han_29,hln_29,hcn_29⟩:=QaO (OwnN.rd f30_8) (by rw [hnn_29]; omega)
      obtain ⟨d,hd,hdl⟩:=Qel f hcl hlt55
      refine wp_skip <| hK26 _ _ <| wp_seq_k fun K31 hK31=>wp_block <| wp_seq_k fun K32 hK32=>wp_seq_k fun K33 hK33=>?_
      obtain ⟨gzT,ozT,haz,hnzs⟩:=TrAt.ext ht xx3
      have hnz:=hnzs (d) (by omega)
      obtain ⟨nz,enz⟩:∃ z,z=ndi ts (d):=⟨_,rfl⟩
      rw [←enz] at hnz
      have okz:=hnz.ok
      have rdz:=hnz.rd
      have hpv:pav ts (nth (resT ts c) i)=nz.n.pa:=by unfold pav; rw [hd,Int.toNat_natCast,←enz]
      by_cases hpm:nz.n.pa=mkN ts (2*y+1) sb
      ·skip
       refine Qbe kj fun W9 e9=>?_
       have x9:=Ext.tr xx3 e9
       refine Qas 0 (.slice a_t ts.length c_t) 58 rfl rfl kj kj (fun _ _ _ h=>h) (fun W hR=>by kernel_rfl) <| Qas 1 (.slice a_n ((resT ts c).length) c_n) 59 rfl rfl kj kj (fun _ _ _ h=>h) (fun W hR=>by kernel_rfl) <| Qas 2 (.int .i64 ((i:Nat):Int)) 60 rfl rfl kj kj (fun _ _ _ h=>h) (fun W hR=>by kernel_rfl) <| Qas 3 (.pointer (some ⟨gcn_29,ocn_29+i,none⟩)) 61 rfl rfl kj kj (fun _ _ _ h=>h) (fun W hR=>(Qa1 24 _ _ .i64 i gcn_29 ocn_29 ((resT ts c).length) c_n 3 a_n _ han_29 rfl rfl kj kj kj kj (Nat.lt_of_lt_of_eq (show i<(resT ts c).length by omega) hnn_29.symm))) ?_
       have y8_9:=(Rely.Ext.trans (Rely.Ext.refl V3) e9)
       refine Qas 4 (.int .i64 ((d:Nat):Int)) 62 rfl rfl kj kj (fun _ _ _ h=>h) (fun W hR=>(Qag (Qai 3 _ _ (.int .i64 (nth (resT ts c) (i))) ((Below.cell (Rely.Ext.trans y8_9 hR) hln_29).trans (hcn_29 i (Nat.lt_of_lt_of_eq (show i<(resT ts c).length by omega) hnn_29.symm))) rfl kj kj) (congrArg (Value.int .i64) hd))) <| Qas 5 (.pointer (some ⟨gzT,ozT+d*99,none⟩)) 63 rfl rfl kj kj (fun _ _ _ h=>h) (fun W hR=>(Qan 23 _ _ .i64 (d) gzT ozT ts.length c_t 50 99 a_t (haz (by omega)) rfl kj kj kj kj (by omega))) <| Qas 6 (.pointer (some ⟨gzT,ozT+d*99+66,none⟩)) 64 rfl rfl kj kj (fun _ _ _ h=>h) (fun W hR=>by kernel_rfl) <| Qas 7 (.agg (ints .u8 (nz.n.pa))) 65 rfl rfl kj kj (fun _ _ _ h=>h) (fun W hR=>(Qct 28 _ gzT (ozT+d*99) nz (NdAt.ext hnz (Rely.Ext.trans y8_9 hR)) rfl kj kj kj)) <| Qas 8 (.slice a_t ts.length c_t) 66 rfl rfl kj kj (fun _ _ _ h=>h) (fun W hR=>by kernel_rfl) <| Qas 9 (.int .i64 ((2*y+1:Nat):Int)) 67 rfl rfl kj kj (fun _ _ _ h=>h) (fun W hR=>by kernel_rfl) <| Qas 10 (.int .i64 ((c:Nat):Int)) 68 rfl rfl kj kj (fun _ _ _ h=>h) (fun W hR=>by kernel_rfl) <| Qbt 11 kj <| QbV rfl (fun v W'=>v=(.agg (ints .u8 (mkN ts (2*y+1) sb)))∧Ext W9 W') 17 #[.slice a_t ts.length c_t,.int .i64 ((2*y+1:Nat):Int),.int .i64 ((c:Nat):Int)] 69 rfl kj kj ((hmk _ (TrAt.ext ht x9)).mono fun e w' h=>⟨_,h.1,rfl,h.2⟩) (fun _ _ h=>Rely.Ext.trans (Rely.Ext.refl W9) h.2) fun vv34 W10 hh34=>?_
       obtain ⟨rfl,e10⟩:=hh34
       have x10:=Ext.tr x9 e10
       refine Qas 12 (.bool false) 70 rfl rfl kj kj (fun _ _ _ h=>h) (fun W hR=>(QaH 28 _ _ _ _ _ (.bool false) rfl kj kj kj (QaW 28 (e:=5) (k:=.u8) (nz.n.pa) (mkN ts (2*y+1) sb) (decide_eq_true hpm) okz.pl (Qc9 ts (2*y+1) sb) kj kj kj _))) <| Qcb kj <| hK33 _ _ <| cond_false kj <| wp_skip <| hK32 _ _ <| sgB kj <| wp_seq_k fun K36 hK36=>sgB kj <| wp_block ?_
       refine Qay (fun (s4:Nat×Bool)=>[(0,.slice a_t ts.length c_t),(3,.int .i64 ((L:Nat):Int)),(4,.int .i64 ((2*y+1:Nat):Int)),(5,.int .i64 ((l:Nat):Int)),(6,.int .i64 ((r:Nat):Int)),(8,.int .i64 ((s:Nat):Int)),(9,.int .i64 ((c:Nat):Int)),(10,.slice a_n ((resT ts c).length) c_n),(7,.bool be),(11,.int .i64 ((i:Nat):Int)),(12,.bool s4.2),(13,.int .i64 ((s4.1:Nat):Int))]) (fun (s4:Nat×Bool) W=>(s4.1≤(resT ts c).length)∧(s4.2=othK (resT ts c) nv.n.ms i s4.1)∧(Ext W10 W)∧(Ext w W)) (fun (s4:Nat×Bool)=>(resT ts c).length-s4.1) (0,true) ⟨kj,kj,kj,kj,kj,kj,kj,kj,kj,kj,kj,kj,trivial⟩ ⟨(Nat.zero_le _),rfl,(Rely.Ext.refl W10),x10⟩ fun s4 X4 V4 hI4=>?_
       obtain ⟨j,al⟩:=s4
       obtain ⟨hj,hal,kk4,xx4⟩:=hI4
       replace hj:j≤(resT ts c).length:=hj
       replace hal:al=othK (resT ts c) nv.n.ms i j:=hal
       replace kk4:Ext W10 V4:=kk4
       replace xx4:Ext w V4:=xx4
       have e11:=kk4
       refine wp_seq_k fun K38 hK38=>sgB kj <| Qaq (t:=decide (((j:Nat):Int)<(((resT ts c).length:Nat):Int))) kj (fun c40=>?_) (fun c40=>?_)
       ·skip
        have hlt74:j<(resT ts c).length:=by have:=of_decide_eq_true c40; omega
        have hnn_41:(resT ts c).length=(resT ts c).length:=rfl
        obtain ⟨gcn_41,ocn_41,han_41,hln_41,hcn_41⟩:=QaO (OwnN.rd (((f30_8.ext e9).ext e10).ext e11)) (by rw [hnn_41]; omega)
        obtain ⟨e,he,hel⟩:=Qel f hcl hlt74
        have hjn:0≤nth (resT ts c) j:=by omega
        refine wp_skip <| hK38 _ _ <| wp_seq_k fun K45 hK45=>wp_block <| wp_seq_k fun K46 hK46=>?_
        rcases (show j=i∨(j≠i∧nth (resT ts c) j%2=1)∨(j≠i∧nth (resT ts c) j%2=0∧nth (resT ts c) j/2∈nv.n.ms)∨(j≠i∧nth (resT ts c) j%2=0∧nth (resT ts c) j/2∉nv.n.ms) from by by_cases h1:j=i; exact .inl h1; rcases (show nth (resT ts c) j%2=0∨nth (resT ts c) j%2=1 by omega) with h2 | h2; (by_cases h3:nth (resT ts c) j/2∈nv.n.ms; exact .inr (.inr (.inl ⟨h1,h2,h3⟩)); exact .inr (.inr (.inr ⟨h1,h2,h3⟩))); exact .inr (.inl ⟨h1,h2⟩)) with hq | hq | hq | hq
        ·skip
         refine Qbe kj fun W12 e12=>?_
         have x12:=Ext.tr xx4 e12
         refine Qas 0 (.int .i64 ((j:Nat):Int)) 77 rfl rfl kj kj (fun _ _ _ h=>h) (fun W hR=>by kernel_rfl) <| Qas 1 (.int .i64 ((i:Nat):Int)) 78 rfl rfl kj kj (fun _ _ _ h=>h) (fun W hR=>by kernel_rfl) <| Qas 2 (.bool false) 79 rfl rfl kj kj (fun _ _ _ h=>h) (fun W hR=>(Qag (u:=.bool ((((j:Nat):Int) != ((i:Nat):Int)))) kj (congrArg Value.bool (bne_eq_false_iff_eq.2 (by omega))))) <| Qas 3 (.bool false) 80 rfl rfl kj kj (fun _ _ _ h=>h) (fun W hR=>by kernel_rfl) <| QaT 4 81 rfl rfl kj kj (fun _ _ _ h=>h) <| QaT 5 82 rfl rfl kj kj (fun _ _ _ h=>h) <| QaT 6 83 rfl rfl kj kj (fun _ _ _ h=>h) <| QaT 7 84 rfl rfl kj kj (fun _ _ _ h=>h) <| QaT 8 85 rfl rfl kj kj (fun _ _ _ h=>h) <| QaT 9 86 rfl rfl kj kj (fun _ _ _ h=>h) ?_
         refine QaT 10 87 rfl rfl kj kj (fun _ _ _ h=>h) <| QaT 11 88 rfl rfl kj kj (fun _ _ _ h=>h) <| QaT 12 89 rfl rfl kj kj (fun _ _ _ h=>h) <| QaT 13 90 rfl rfl kj kj (fun _ _ _ h=>h) <| QaT 14 91 rfl rfl kj kj (fun _ _ _ h=>h) <| QaT 15 92 rfl rfl kj kj (fun _ _ _ h=>h) <| QaT 16 93 rfl rfl kj kj (fun _ _ _ h=>h) <| QaT 17 94 rfl rfl kj kj (fun _ _ _ h=>h) <| QaT 18 95 rfl rfl kj kj (fun _ _ _ h=>h) <| QaT 19 96 rfl rfl kj kj (fun _ _ _ h=>h) ?_
         refine QaT 20 97 rfl rfl kj kj (fun _ _ _ h=>h) <| QaT 21 98 rfl rfl kj kj (fun _ _ _ h=>h) <| QaT 22 99 rfl rfl kj kj (fun _ _ _ h=>h) <| QaT 23 100 rfl rfl kj kj (fun _ _ _ h=>h) <| Qas 24 (.bool false) 101 rfl rfl kj kj (fun _ _ _ h=>h) (fun W hR=>by kernel_rfl) <| Qcb kj <| hK46 _ _ <| cond_false kj <| wp_skip <| hK45 _ _ ?_
         refine Qad <| sg 1 kj <| Qaa (.int .i64 ((j+1:Nat):Int)) 76 rfl kj (Qag (u:=.int .i64 (IntKind.i64.wrap (((j:Nat):Int)+1))) kj (congrArg (Value.int .i64) (i64n _ _ (by omega) (by omega)))) <| sg 1 kj <| Qaj ?_
         have y10_12:=(Rely.Ext.trans e11 e12)
         repeat (first | with_reducible refine goX1 ?_ | with_reducible refine goX2 ?_ | with_reducible refine goX3 ?_)
         exact Qap ((j+1),al) ⟨kj,kj,kj,kj,kj,kj,kj,kj,kj,kj,kj,kj,trivial⟩ ⟨(by omega),(by rw [Qdl]; rw [show (j==i)=true from beq_iff_eq.2 hq,Bool.true_or,Bool.and_true]; exact hal),y10_12,x12⟩ (by show (resT ts c).length-(j+1)<(resT ts c).length-j; omega)
        ·skip
         refine Qbe kj fun W12 e12=>?_
         have x12:=Ext.tr xx4 e12
         refine Qas 0 (.int .i64 ((j:Nat):Int)) 77 rfl rfl kj kj (fun _ _ _ h=>h) (fun W hR=>by kernel_rfl) <| Qas 1 (.int .i64 ((i:Nat):Int)) 78 rfl rfl kj kj (fun _ _ _ h=>h) (fun W hR=>by kernel_rfl) <| Qas 2 (.bool true) 79 rfl rfl kj kj (fun _ _ _ h=>h) (fun W hR=>(Qag (u:=.bool ((((j:Nat):Int) != ((i:Nat):Int)))) kj (congrArg Value.bool (bne_iff_ne.2 (by omega))))) <| Qas 3 (.bool true) 80 rfl rfl kj kj (fun _ _ _ h=>h) (fun W hR=>by kernel_rfl) <| Qas 4 (.slice a_n ((resT ts c).length) c_n) 81 rfl rfl kj kj (fun _ _ _ h=>h) (fun W hR=>by kernel_rfl) <| Qas 5 (.int .i64 ((j:Nat):Int)) 82 rfl rfl kj kj (fun _ _ _ h=>h) (fun W hR=>by kernel_rfl) <| Qas 6 (.pointer (some ⟨gcn_41,ocn_41+j,none⟩)) 83 rfl rfl kj kj (fun _ _ _ h=>h) (fun W hR=>(Qa1 24 _ _ .i64 j gcn_41 ocn_41 ((resT ts c).length) c_n 3 a_n _ han_41 rfl rfl kj kj kj kj (Nat.lt_of_lt_of_eq (show j<(resT ts c).length by omega) hnn_41.symm))) ?_
         have y11_12:=(Rely.Ext.trans (Rely.Ext.refl V4) e12)
         refine Qas 7 (.int .i64 (nth (resT ts c) (j))) 84 rfl rfl kj kj (fun _ _ _ h=>h) (fun W hR=>(Qai 3 _ _ (.int .i64 (nth (resT ts c) (j))) ((Below.cell (Rely.Ext.trans y11_12 hR) hln_41).trans (hcn_41 j (Nat.lt_of_lt_of_eq (show j<(resT ts c).length by omega) hnn_41.symm))) rfl kj kj)) <| Qas 8 (.int .i64 (nth (resT ts c) j%2)) 85 rfl rfl kj kj (fun _ _ _ h=>h) (fun W hR=>(Qag (u:=.int .i64 (Int.tmod ((nth (resT ts c) (j))) (2))) kj (congrArg (Value.int .i64) (Qkj hjn)))) <| Qas 9 (.bool true) 86 rfl rfl kj kj (fun _ _ _ h=>h) (fun W hR=>(Qag (u:=.bool (((nth (resT ts c) j%2)==1))) kj (congrArg Value.bool (beq_iff_eq.2 (by omega))))) <| Qas 10 (.bool true) 87 rfl rfl kj kj (fun _ _ _ h=>h) (fun W hR=>by kernel_rfl) <| QaT 11 88 rfl rfl kj kj (fun _ _ _ h=>h) <| QaT 12 89 rfl rfl kj kj (fun _ _ _ h=>h) <| QaT 13 90 rfl rfl kj kj (fun _ _ _ h=>h) <| QaT 14 91 rfl rfl kj kj (fun _ _ _ h=>h) <| QaT 15 92 rfl rfl kj kj (fun _ _ _ h=>h) <| QaT 16 93 rfl rfl kj kj (fun _ _ _ h=>h) ?_
         refine QaT 17 94 rfl rfl kj kj (fun _ _ _ h=>h) <| QaT 18 95 rfl rfl kj kj (fun _ _ _ h=>h) <| QaT 19 96 rfl rfl kj kj (fun _ _ _ h=>h) <| QaT 20 97 rfl rfl kj kj (fun _ _ _ h=>h) <| QaT 21 98 rfl rfl kj kj (fun _ _ _ h=>h) <| QaT 22 99 rfl rfl kj kj (fun _ _ _ h=>h) <| Qas 23 (.bool true) 100 rfl rfl kj kj (fun _ _ _ h=>h) (fun W hR=>by kernel_rfl) <| Qas 24 (.bool true) 101 rfl rfl kj kj (fun _ _ _ h=>h) (fun W hR=>by kernel_rfl) <| Qcb kj <| hK46 _ _ ?_
         refine cond_true kj <| sgA kj <| hK45 _ _ <| Qad <| sg 1 kj <| Qaa (.int .i64 ((j+1:Nat):Int)) 76 rfl kj (Qag (u:=.int .i64 (IntKind.i64.wrap (((j:Nat):Int)+1))) kj (congrArg (Value.int .i64) (i64n _ _ (by omega) (by omega)))) <| sg 1 kj <| Qaj ?_
         have y10_12:=(Rely.Ext.trans e11 e12)
         repeat (first | with_reducible refine goX1 ?_ | with_reducible refine goX2 ?_ | with_reducible refine goX3 ?_)
         exact Qap ((j+1),false) ⟨kj,kj,kj,kj,kj,kj,kj,kj,kj,kj,kj,kj,trivial⟩ ⟨(by omega),(by rw [Qdl]; rw [show (j==i)=false from beq_eq_false_iff_ne.2 hq.1,decide_eq_false (show ¬ (nth (resT ts c) j%2=0) by omega),Bool.false_and,Bool.false_or,Bool.and_false]),y10_12,x12⟩ (by show (resT ts c).length-(j+1)<(resT ts c).length-j; omega)
        ·skip
         refine Qbe kj fun W12 e12=>?_
         have x12:=Ext.tr xx4 e12
         refine Qas 0 (.int .i64 ((j:Nat):Int)) 77 rfl rfl kj kj (fun _ _ _ h=>h) (fun W hR=>by kernel_rfl) <| Qas 1 (.int .i64 ((i:Nat):Int)) 78 rfl rfl kj kj (fun _ _ _ h=>h) (fun W hR=>by kernel_rfl) <| Qas 2 (.bool true) 79 rfl rfl kj kj (fun _ _ _ h=>h) (fun W hR=>(Qag (u:=.bool ((((j:Nat):Int) != ((i:Nat):Int)))) kj (congrArg Value.bool (bne_iff_ne.2 (by omega))))) <| Qas 3 (.bool true) 80 rfl rfl kj kj (fun _ _ _ h=>h) (fun W hR=>by kernel_rfl) <| Qas 4 (.slice a_n ((resT ts c).length) c_n) 81 rfl rfl kj kj (fun _ _ _ h=>h) (fun W hR=>by kernel_rfl) <| Qas 5 (.int .i64 ((j:Nat):Int)) 82 rfl rfl kj kj (fun _ _ _ h=>h) (fun W hR=>by kernel_rfl) <| Qas 6 (.pointer (some ⟨gcn_41,ocn_41+j,none⟩)) 83 rfl rfl kj kj (fun _ _ _ h=>h) (fun W hR=>(Qa1 24 _ _ .i64 j gcn_41 ocn_41 ((resT ts c).length) c_n 3 a_n _ han_41 rfl rfl kj kj kj kj (Nat.lt_of_lt_of_eq (show j<(resT ts c).length by omega) hnn_41.symm))) ?_
         have y11_12:=(Rely.Ext.trans (Rely.Ext.refl V4) e12)
         refine Qas 7 (.int .i64 (nth (resT ts c) (j))) 84 rfl rfl kj kj (fun _ _ _ h=>h) (fun W hR=>(Qai 3 _ _ (.int .i64 (nth (resT ts c) (j))) ((Below.cell (Rely.Ext.trans y11_12 hR) hln_41).trans (hcn_41 j (Nat.lt_of_lt_of_eq (show j<(resT ts c).length by omega) hnn_41.symm))) rfl kj kj)) <| Qas 8 (.int .i64 (nth (resT ts c) j%2)) 85 rfl rfl kj kj (fun _ _ _ h=>h) (fun W hR=>(Qag (u:=.int .i64 (Int.tmod ((nth (resT ts c) (j))) (2))) kj (congrArg (Value.int .i64) (Qkj hjn)))) <| Qas 9 (.bool false) 86 rfl rfl kj kj (fun _ _ _ h=>h) (fun W hR=>(Qag (u:=.bool (((nth (resT ts c) j%2)==1))) kj (congrArg Value.bool (beq_eq_false_iff_ne.2 (by omega))))) <| Qas 10 (.bool false) 87 rfl rfl kj kj (fun _ _ _ h=>h) (fun W hR=>by kernel_rfl) <| Qas 11 (.slice a_n ((resT ts c).length) c_n) 88 rfl rfl kj kj (fun _ _ _ h=>h) (fun W hR=>by kernel_rfl) <| Qas 12 (.int .i64 ((j:Nat):Int)) 89 rfl rfl kj kj (fun _ _ _ h=>h) (fun W hR=>by kernel_rfl) <| Qas 13 (.pointer (some ⟨gcn_41,ocn_41+j,none⟩)) 90 rfl rfl kj kj (fun _ _ _ h=>h) (fun W hR=>(Qa1 24 _ _ .i64 j gcn_41 ocn_41 ((resT ts c).length) c_n 3 a_n _ han_41 rfl rfl kj kj kj kj (Nat.lt_of_lt_of_eq (show j<(resT ts c).length by omega) hnn_41.symm))) <| Qas 14 (.int .i64 (nth (resT ts c) (j))) 91 rfl rfl kj kj (fun _ _ _ h=>h) (fun W hR=>(Qai 3 _ _ (.int .i64 (nth (resT ts c) (j))) ((Below.cell (Rely.Ext.trans y11_12 hR) hln_41).trans (hcn_41 j (Nat.lt_of_lt_of_eq (show j<(resT ts c).length by omega) hnn_41.symm))) rfl kj kj)) <| Qas 15 (.int .i64 (nth (resT ts c) j/2)) 92 rfl rfl kj kj (fun _ _ _ h=>h) (fun W hR=>(Qag (u:=.int .i64 (IntKind.i64.wrap (Int.tdiv ((nth (resT ts c) (j))) (2)))) kj (congrArg (Value.int .i64) (quo2 hjn (by omega))))) <| Qas 16 (.slice a_t ts.length c_t) 93 rfl rfl kj kj (fun _ _ _ h=>h) (fun W hR=>by kernel_rfl) ?_
         refine Qas 17 (.int .i64 ((2*y+1:Nat):Int)) 94 rfl rfl kj kj (fun _ _ _ h=>h) (fun W hR=>by kernel_rfl) <| Qas 18 (.pointer (some ⟨gvT,ovT+((2*y+1))*99,none⟩)) 95 rfl rfl kj kj (fun _ _ _ h=>h) (fun W hR=>(Qan 23 _ _ .i64 ((2*y+1)) gvT ovT ts.length c_t 50 99 a_t (hav (by omega)) rfl kj kj kj kj (by omega))) <| Qas 19 (.pointer (some ⟨gvT,ovT+((2*y+1))*99+98,none⟩)) 96 rfl rfl kj kj (fun _ _ _ h=>h) (fun W hR=>by kernel_rfl) ?_
         have y3_4:=(Rely.Ext.trans (Rely.Ext.refl V1) e4)
         have y3_5:=(Rely.Ext.trans y3_4 e5)
         have y3_6:=(Rely.Ext.trans y3_5 e6)
         have y3_7:=(Rely.Ext.trans y3_6 e7)
         have y3_8:=(Rely.Ext.trans y3_7 e8)
         have y3_9:=(Rely.Ext.trans y3_8 e9)
         have y3_10:=(Rely.Ext.trans y3_9 e10)
         have y3_11:=(Rely.Ext.trans y3_10 e11)
         have y3_12:=(Rely.Ext.trans y3_11 e12)
         refine Qas 20 (.slice nv.a nv.n.ms.length nv.c) 97 rfl rfl kj kj (fun _ _ _ h=>h) (fun W hR=>(Qai 24 _ _ (.slice nv.a nv.n.ms.length nv.c) (NdAt.at3 (NdAt.ext hnv (Rely.Ext.trans y3_12 hR))).2.2 rfl kj kj)) <| Qbt 21 kj <| QbV rfl (fun v W'=>v=(.bool true)∧Ext W12 W') 41 #[.int .i64 (nth (resT ts c) j/2),.slice nv.a nv.n.ms.length nv.c] 98 rfl kj kj ((inRb nv.n.ms (nth (resT ts c) j/2) nv.a nv.c _ _ (qT hml5 (by decide)) (RdK.here (RdK.ext rdv y3_12)) true (decide_eq_true hq.2.2)).mono fun e w' h=>⟨_,h.1,rfl,h.2⟩) (fun _ _ h=>Rely.Ext.trans (Rely.Ext.refl W12) h.2) fun vv47 W13 hh47=>?_
         obtain ⟨rfl,e13⟩:=hh47
         have x13:=Ext.tr x12 e13
         refine Qas 22 (.bool false) 99 rfl rfl kj kj (fun _ _ _ h=>h) (fun W hR=>by kernel_rfl) <| Qas 23 (.bool false) 100 rfl rfl kj kj (fun _ _ _ h=>h) (fun W hR=>by kernel_rfl) <| Qas 24 (.bool false) 101 rfl rfl kj kj (fun _ _ _ h=>h) (fun W hR=>by kernel_rfl) <| Qcb kj <| hK46 _ _ <| cond_false kj <| wp_skip <| hK45 _ _ <| Qad <| sg 1 kj ?_
         refine Qaa (.int .i64 ((j+1:Nat):Int)) 76 rfl kj (Qag (u:=.int .i64 (IntKind.i64.wrap (((j:Nat):Int)+1))) kj (congrArg (Value.int .i64) (i64n _ _ (by omega) (by omega)))) <| sg 1 kj <| Qaj ?_
         have y10_12:=(Rely.Ext.trans e11 e12)
         have y10_13:=(Rely.Ext.trans y10_12 e13)
         repeat (first | with_reducible refine goX1 ?_ | with_reducible refine goX2 ?_ | with_reducible refine goX3 ?_)
         exact Qap ((j+1),al) ⟨kj,kj,kj,kj,kj,kj,kj,kj,kj,kj,kj,kj,trivial⟩ ⟨(by omega),(by rw [Qdl]; rw [decide_eq_true hq.2.1,decide_eq_true hq.2.2,Bool.true_and,Bool.or_true,Bool.and_true]; exact hal),y10_13,x13⟩ (by show (resT ts c).length-(j+1)<(resT ts c).length-j; omega)
        ·skip
         refine Qbe kj fun W12 e12=>?_
         have x12:=Ext.tr xx4 e12
         refine Qas 0 (.int .i64 ((j:Nat):Int)) 77 rfl rfl kj kj (fun _ _ _ h=>h) (fun W hR=>by kernel_rfl) <| Qas 1 (.int .i64 ((i:Nat):Int)) 78 rfl rfl kj kj (fun _ _ _ h=>h) (fun W hR=>by kernel_rfl) <| Qas 2 (.bool true) 79 rfl rfl kj kj (fun _ _ _ h=>h) (fun W hR=>(Qag (u:=.bool ((((j:Nat):Int) != ((i:Nat):Int)))) kj (congrArg Value.bool (bne_iff_ne.2 (by omega))))) <| Qas 3 (.bool true) 80 rfl rfl kj kj (fun _ _ _ h=>h) (fun W hR=>by kernel_rfl) <| Qas 4 (.slice a_n ((resT ts c).length) c_n) 81 rfl rfl kj kj (fun _ _ _ h=>h) (fun W hR=>by kernel_rfl) <| Qas 5 (.int .i64 ((j:Nat):Int)) 82 rfl rfl kj kj (fun _ _ _ h=>h) (fun W hR=>by kernel_rfl) <| Qas 6 (.pointer (some ⟨gcn_41,ocn_41+j,none⟩)) 83 rfl rfl kj kj (fun _ _ _ h=>h) (fun W hR=>(Qa1 24 _ _ .i64 j gcn_41 ocn_41 ((resT ts c).length) c_n 3 a_n _ han_41 rfl rfl kj kj kj kj (Nat.lt_of_lt_of_eq (show j<(resT ts c).length by omega) hnn_41.symm))) ?_
         have y11_12:=(Rely.Ext.trans (Rely.Ext.refl V4) e12)
         refine Qas 7 (.int .i64 (nth (resT ts c) (j))) 84 rfl rfl kj kj (fun _ _ _ h=>h) (fun W hR=>(Qai 3 _ _ (.int .i64 (nth (resT ts c) (j))) ((Below.cell (Rely.Ext.trans y11_12 hR) hln_41).trans (hcn_41 j (Nat.lt_of_lt_of_eq (show j<(resT ts c).length by omega) hnn_41.symm))) rfl kj kj)) <| Qas 8 (.int .i64 (nth (resT ts c) j%2)) 85 rfl rfl kj kj (fun _ _ _ h=>h) (fun W hR=>(Qag (u:=.int .i64 (Int.tmod ((nth (resT ts c) (j))) (2))) kj (congrArg (Value.int .i64) (Qkj hjn)))) <| Qas 9 (.bool false) 86 rfl rfl kj kj (fun _ _ _ h=>h) (fun W hR=>(Qag (u:=.bool (((nth (resT ts c) j%2)==1))) kj (congrArg Value.bool (beq_eq_false_iff_ne.2 (by omega))))) <| Qas 10 (.bool false) 87 rfl rfl kj kj (fun _ _ _ h=>h) (fun W hR=>by kernel_rfl) <| Qas 11 (.slice a_n ((resT ts c).length) c_n) 88 rfl rfl kj kj (fun _ _ _ h=>h) (fun W hR=>by kernel_rfl) <| Qas 12 (.int .i64 ((j:Nat):Int)) 89 rfl rfl kj kj (fun _ _ _ h=>h) (fun W hR=>by kernel_rfl) <| Qas 13 (.pointer (some ⟨gcn_41,ocn_41+j,none⟩)) 90 rfl rfl kj kj (fun _ _ _ h=>h) (fun W hR=>(Qa1 24 _ _ .i64 j gcn_41 ocn_41 ((resT ts c).length) c_n 3 a_n _ han_41 rfl rfl kj kj kj kj (Nat.lt_of_lt_of_eq (show j<(resT ts c).length by omega) hnn_41.symm))) <| Qas 14 (.int .i64 (nth (resT ts c) (j))) 91 rfl rfl kj kj (fun _ _ _ h=>h) (fun W hR=>(Qai 3 _ _ (.int .i64 (nth (resT ts c) (j))) ((Below.cell (Rely.Ext.trans y11_12 hR) hln_41).trans (hcn_41 j (Nat.lt_of_lt_of_eq (show j<(resT ts c).length by omega) hnn_41.symm))) rfl kj kj)) <| Qas 15 (.int .i64 (nth (resT ts c) j/2)) 92 rfl rfl kj kj (fun _ _ _ h=>h) (fun W hR=>(Qag (u:=.int .i64 (IntKind.i64.wrap (Int.tdiv ((nth (resT ts c) (j))) (2)))) kj (congrArg (Value.int .i64) (quo2 hjn (by omega))))) <| Qas 16 (.slice a_t ts.length c_t) 93 rfl rfl kj kj (fun _ _ _ h=>h) (fun W hR=>by kernel_rfl) ?_
         refine Qas 17 (.int .i64 ((2*y+1:Nat):Int)) 94 rfl rfl kj kj (fun _ _ _ h=>h) (fun W hR=>by kernel_rfl) <| Qas 18 (.pointer (some ⟨gvT,ovT+((2*y+1))*99,none⟩)) 95 rfl rfl kj kj (fun _ _ _ h=>h) (fun W hR=>(Qan 23 _ _ .i64 ((2*y+1)) gvT ovT ts.length c_t 50 99 a_t (hav (by omega)) rfl kj kj kj kj (by omega))) <| Qas 19 (.pointer (some ⟨gvT,ovT+((2*y+1))*99+98,none⟩)) 96 rfl rfl kj kj (fun _ _ _ h=>h) (fun W hR=>by kernel_rfl) ?_
         have y3_4:=(Rely.Ext.trans (Rely.Ext.refl V1) e4)
         have y3_5:=(Rely.Ext.trans y3_4 e5)
         have y3_6:=(Rely.Ext.trans y3_5 e6)
         have y3_7:=(Rely.Ext.trans y3_6 e7)
         have y3_8:=(Rely.Ext.trans y3_7 e8)
         have y3_9:=(Rely.Ext.trans y3_8 e9)
         have y3_10:=(Rely.Ext.trans y3_9 e10)
         have y3_11:=(Rely.Ext.trans y3_10 e11)
         have y3_12:=(Rely.Ext.trans y3_11 e12)
         refine Qas 20 (.slice nv.a nv.n.ms.length nv.c) 97 rfl rfl kj kj (fun _ _ _ h=>h) (fun W hR=>(Qai 24 _ _ (.slice nv.a nv.n.ms.length nv.c) (NdAt.at3 (NdAt.ext hnv (Rely.Ext.trans y3_12 hR))).2.2 rfl kj kj)) <| Qbt 21 kj <| QbV rfl (fun v W'=>v=(.bool false)∧Ext W12 W') 41 #[.int .i64 (nth (resT ts c) j/2),.slice nv.a nv.n.ms.length nv.c] 98 rfl kj kj ((inRb nv.n.ms (nth (resT ts c) j/2) nv.a nv.c _ _ (qT hml5 (by decide)) (RdK.here (RdK.ext rdv y3_12)) false (decide_eq_false hq.2.2)).mono fun e w' h=>⟨_,h.1,rfl,h.2⟩) (fun _ _ h=>Rely.Ext.trans (Rely.Ext.refl W12) h.2) fun vv48 W13 hh48=>?_
         obtain ⟨rfl,e13⟩:=hh48
         have x13:=Ext.tr x12 e13
         refine Qas 22 (.bool true) 99 rfl rfl kj kj (fun _ _ _ h=>h) (fun W hR=>by kernel_rfl) <| Qas 23 (.bool true) 100 rfl rfl kj kj (fun _ _ _ h=>h) (fun W hR=>by kernel_rfl) <| Qas 24 (.bool true) 101 rfl rfl kj kj (fun _ _ _ h=>h) (fun W hR=>by kernel_rfl) <| Qcb kj <| hK46 _ _ <| cond_true kj <| sgA kj <| hK45 _ _ <| Qad <| sg 1 kj ?_
         refine Qaa (.int .i64 ((j+1:Nat):Int)) 76 rfl kj (Qag (u:=.int .i64 (IntKind.i64.wrap (((j:Nat):Int)+1))) kj (congrArg (Value.int .i64) (i64n _ _ (by omega) (by omega)))) <| sg 1 kj <| Qaj ?_
         have y10_12:=(Rely.Ext.trans e11 e12)
         have y10_13:=(Rely.Ext.trans y10_12 e13)
         repeat (first | with_reducible refine goX1 ?_ | with_reducible refine goX2 ?_ | with_reducible refine goX3 ?_)
         exact Qap ((j+1),false) ⟨kj,kj,kj,kj,kj,kj,kj,kj,kj,kj,kj,kj,trivial⟩ ⟨(by omega),(by rw [Qdl]; rw [show (j==i)=false from beq_eq_false_iff_ne.2 hq.1,decide_eq_false hq.2.2,Bool.and_false,Bool.false_or,Bool.and_false]),y10_13,x13⟩ (by show (resT ts c).length-(j+1)<(resT ts c).length-j; omega)
       ·skip
        have heq74:j=(resT ts c).length:=by have:=of_decide_eq_false c40; omega
        refine wp_exit <| hK36 _ _ <| wp_seq_k fun K49 hK49=>sgB kj <| wp_block ?_
        have hal9:al=othK (resT ts c) nv.n.ms i (resT ts c).length:=by rw [hal,heq74]
        refine Qay (fun (s5:Nat×Bool)=>[(0,.slice a_t ts.length c_t),(3,.int .i64 ((L:Nat):Int)),(4,.int .i64 ((2*y+1:Nat):Int)),(5,.int .i64 ((l:Nat):Int)),(6,.int .i64 ((r:Nat):Int)),(8,.int .i64 ((s:Nat):Int)),(9,.int .i64 ((c:Nat):Int)),(10,.slice a_n ((resT ts c).length) c_n),(7,.bool be),(11,.int .i64 ((i:Nat):Int)),(12,.bool s5.2),(14,.int .i64 ((s5.1:Nat):Int))]) (fun (s5:Nat×Bool) W=>(s5.1≤nv.n.ms.length)∧(s5.2=(othK (resT ts c) nv.n.ms i (resT ts c).length&&abvK (resT ts c) nv.n.ms ((c:Nat):Int) ((L:Nat):Int) i s5.1))∧(Ext V4 W)∧(Ext w W)) (fun (s5:Nat×Bool)=>nv.n.ms.length-s5.1) (0,al) ⟨kj,kj,kj,kj,kj,kj,kj,kj,kj,kj,kj,kj,trivial⟩ ⟨(Nat.zero_le _),(by rw [hal9]; exact (Bool.and_true _).symm),(Rely.Ext.refl V4),xx4⟩ fun s5 X5 V5 hI5=>?_
        obtain ⟨q,ao⟩:=s5
        obtain ⟨hq,hao,kk5,xx5⟩:=hI5
        replace hq:q≤nv.n.ms.length:=hq
        replace hao:ao=(othK (resT ts c) nv.n.ms i (resT ts c).length&&abvK (resT ts c) nv.n.ms ((c:Nat):Int) ((L:Nat):Int) i q):=hao
        replace kk5:Ext V4 V5:=kk5
        replace xx5:Ext w V5:=xx5
        have e12:=kk5
        refine wp_seq_k fun K51 hK51=>sgC fun K52 hK52=>sg 3 kj <| Qaa (.pointer (some ⟨gvT,ovT+((2*y+1))*99,none⟩)) 105 rfl kj (Qan 23 _ _ .i64 ((2*y+1)) gvT ovT ts.length c_t 50 99 a_t (hav (by omega)) rfl kj kj kj kj (by omega)) <| sg 1 kj ?_
        have y3_4:=(Rely.Ext.trans (Rely.Ext.refl V1) e4)
        have y3_5:=(Rely.Ext.trans y3_4 e5)
        have y3_6:=(Rely.Ext.trans y3_5 e6)
        have y3_7:=(Rely.Ext.trans y3_6 e7)
        have y3_8:=(Rely.Ext.trans y3_7 e8)
        have y3_9:=(Rely.Ext.trans y3_8 e9)
        have y3_10:=(Rely.Ext.trans y3_9 e10)
        have y3_11:=(Rely.Ext.trans y3_10 e11)
        have y3_12:=(Rely.Ext.trans y3_11 e12)
        refine Qaa (.slice nv.a nv.n.ms.length nv.c) 107 rfl kj (Qai 24 _ _ (.slice nv.a nv.n.ms.length nv.c) (NdAt.at3 (NdAt.ext hnv y3_12)).2.2 rfl kj kj) <| sg 2 kj <| sgN hK52 <| Qaq (t:=decide (((q:Nat):Int)<((nv.n.ms.length:Nat):Int))) kj (fun c53=>?_) (fun c53=>?_)
        ·skip
         have hlt109:q<nv.n.ms.length:=by have:=of_decide_eq_true c53; omega
         have hkq:=hms.2 _ (Qc8 hlt109)
         refine wp_skip <| hK51 _ _ <| wp_seq_k fun K54 hK54=>wp_block <| sgC fun K55 hK55=>sg 2 kj <| Qaa (.pointer (some ⟨gvT,ovT+((2*y+1))*99,none⟩)) 114 rfl kj (Qan 23 _ _ .i64 ((2*y+1)) gvT ovT ts.length c_t 50 99 a_t (hav (by omega)) rfl kj kj kj kj (by omega)) <| sg 1 kj <| Qaa (.slice nv.a nv.n.ms.length nv.c) 116 rfl kj (Qai 24 _ _ (.slice nv.a nv.n.ms.length nv.c) (NdAt.at3 (NdAt.ext hnv y3_12)).2.2 rfl kj kj) ?_
         have hnm_56:(nv.n.ms).length=nv.n.ms.length:=rfl
         obtain ⟨gcm_56,ocm_56,ham_56,hlm_56,hcm_56⟩:=QaO (RdK.here (RdK.ext rdv y3_12)) (by rw [hnm_56]; omega)
         refine sg 1 kj <| Qaa (.pointer (some ⟨gcm_56,ocm_56+q,none⟩)) 118 rfl kj (Qa1 24 _ _ .i64 q gcm_56 ocm_56 nv.n.ms.length nv.c 3 nv.a _ ham_56 rfl rfl kj kj kj kj (Nat.lt_of_lt_of_eq (show q<nv.n.ms.length by omega) hnm_56.symm)) <| Qaa (.int .i64 (nth (nv.n.ms) (q))) 119 rfl kj (Qai 3 _ _ (.int .i64 (nth (nv.n.ms) (q))) (hcm_56 q (Nat.lt_of_lt_of_eq (show q<nv.n.ms.length by omega) hnm_56.symm)) rfl kj kj) <| sg 1 kj <| sgN hK55 <| wp_seq_k fun K57 hK57=>wp_seq_k fun K58 hK58=>?_
         rcases (show abv ((c:Nat):Int) (2*nth nv.n.ms q) ((L:Nat):Int)=true∨abv ((c:Nat):Int) (2*nth nv.n.ms q) ((L:Nat):Int)=false from by cases abv ((c:Nat):Int) (2*nth nv.n.ms q) ((L:Nat):Int); exact .inr rfl; exact .inl rfl) with hab | hab
         ·skip
          refine Qad <| sg 2 kj <| Qaa (.int .i64 ((2*nth nv.n.ms q))) 122 rfl kj (Qag (u:=.int .i64 (IntKind.i64.wrap (2*(nth (nv.n.ms) (q))))) kj (congrArg (Value.int .i64) (IntWalk.i64_in _ (by omega)))) <| sg 1 kj <| Qak (.bool true) 42 #[.int .i64 ((c:Nat):Int),.int .i64 ((2*nth nv.n.ms q)),.int .i64 ((L:Nat):Int)] 124 rfl kj kj (QbA ((c:Nat):Int) (2*nth nv.n.ms q) ((L:Nat):Int) true hab _) fun W13 e13=>?_
          have x13:=Ext.tr xx5 e13
          refine sg 1 kj <| sgN hK58 <| cond_false kj <| wp_skip <| hK57 _ _ <| sgB kj <| wp_seq_k fun K60 hK60=>sgB kj <| wp_block <| Qay (fun (s6:Nat×Bool)=>[(0,.slice a_t ts.length c_t),(3,.int .i64 ((L:Nat):Int)),(4,.int .i64 ((2*y+1:Nat):Int)),(5,.int .i64 ((l:Nat):Int)),(6,.int .i64 ((r:Nat):Int)),(8,.int .i64 ((s:Nat):Int)),(9,.int .i64 ((c:Nat):Int)),(10,.slice a_n ((resT ts c).length) c_n),(7,.bool be),(11,.int .i64 ((i:Nat):Int)),(12,.bool ao),(14,.int .i64 ((q:Nat):Int)),(15,.int .i64 (nth (nv.n.ms) (q))),(16,.bool s6.2),(17,.int .i64 ((s6.1:Nat):Int))]) (fun (s6:Nat×Bool) W=>(s6.1≤(resT ts c).length)∧(s6.2=fndK (resT ts c) i (nth nv.n.ms q) s6.1)∧(Ext W13 W)∧(Ext w W)) (fun (s6:Nat×Bool)=>(resT ts c).length-s6.1) (0,false) ⟨kj,kj,kj,kj,kj,kj,kj,kj,kj,kj,kj,kj,kj,kj,kj,trivial⟩ ⟨(Nat.zero_le _),rfl,(Rely.Ext.refl W13),x13⟩ fun s6 X6 V6 hI6=>?_
          obtain ⟨p,fo⟩:=s6
          obtain ⟨hp,hfo,kk6,xx6⟩:=hI6
          replace hp:p≤(resT ts c).length:=hp
          replace hfo:fo=fndK (resT ts c) i (nth nv.n.ms q) p:=hfo
          replace kk6:Ext W13 V6:=kk6
          replace xx6:Ext w V6:=xx6
          have e14:=kk6
          refine wp_seq_k fun K62 hK62=>sgB kj <| Qaq (t:=decide (((p:Nat):Int)<(((resT ts c).length:Nat):Int))) kj (fun c64=>?_) (fun c64=>?_)
          ·skip
           have hlt129:p<(resT ts c).length:=by have:=of_decide_eq_true c64; omega
           have hnn_65:(resT ts c).length=(resT ts c).length:=rfl
           obtain ⟨gcn_65,ocn_65,han_65,hln_65,hcn_65⟩:=QaO (OwnN.rd ((((((f30_8.ext e9).ext e10).ext e11).ext e12).ext e13).ext e14)) (by rw [hnn_65]; omega)
           refine wp_skip <| hK62 _ _ <| wp_seq_k fun K72 hK72=>wp_block ?_
           rcases (show fo=true∨(fo=false∧p=i)∨(fo=false∧p≠i) from by cases fo; (by_cases h9:p=i; exact .inr (.inl ⟨rfl,h9⟩); exact .inr (.inr ⟨rfl,h9⟩)); exact .inl rfl) with h_ | ⟨h_,hpi⟩ | ⟨h_,hpi⟩ <;> subst h_
           ·skip
            refine sgA kj <| hK72 _ _ <| Qad <| sg 1 kj <| Qaa (.int .i64 ((p+1:Nat):Int)) 131 rfl kj (Qag (u:=.int .i64 (IntKind.i64.wrap (((p:Nat):Int)+1))) kj (congrArg (Value.int .i64) (i64n _ _ (by omega) (by omega)))) <| sg 1 kj <| Qaj ?_
            repeat (first | with_reducible refine goX1 ?_ | with_reducible refine goX2 ?_ | with_reducible refine goX3 ?_)
            exact Qap ((p+1),true) ⟨kj,kj,kj,kj,kj,kj,kj,kj,kj,kj,kj,kj,kj,kj,kj,trivial⟩ ⟨(by omega),(by rw [Qey,←hfo,Bool.true_or]),e14,xx6⟩ (by show (resT ts c).length-(p+1)<(resT ts c).length-p; omega)
           ·skip
            refine Qad <| sg 4 kj <| Qaa (.bool false) 136 rfl kj (Qag (u:=.bool ((((p:Nat):Int) != ((i:Nat):Int)))) kj (congrArg Value.bool (bne_eq_false_iff_eq.2 (by omega)))) <| sg 11 kj <| Qaj <| hK72 _ _ <| Qad <| sg 1 kj <| Qaa (.int .i64 ((p+1:Nat):Int)) 131 rfl kj (Qag (u:=.int .i64 (IntKind.i64.wrap (((p:Nat):Int)+1))) kj (congrArg (Value.int .i64) (i64n _ _ (by omega) (by omega)))) <| sg 1 kj ?_
            refine Qaj ?_
            repeat (first | with_reducible refine goX1 ?_ | with_reducible refine goX2 ?_ | with_reducible refine goX3 ?_)
            exact Qap ((p+1),false) ⟨kj,kj,kj,kj,kj,kj,kj,kj,kj,kj,kj,kj,kj,kj,kj,trivial⟩ ⟨(by omega),(by rw [Qey,←hfo,show (p==i)=true from beq_iff_eq.2 hpi]; rfl),e14,xx6⟩ (by show (resT ts c).length-(p+1)<(resT ts c).length-p; omega)
           ·skip
            refine Qad <| sg 4 kj <| Qaa (.bool true) 136 rfl kj (Qag (u:=.bool ((((p:Nat):Int) != ((i:Nat):Int)))) kj (congrArg Value.bool (bne_iff_ne.2 (by omega)))) <| sg 3 kj <| Qaa (.pointer (some ⟨gcn_65,ocn_65+p,none⟩)) 140 rfl kj (Qa1 24 _ _ .i64 p gcn_65 ocn_65 ((resT ts c).length) c_n 3 a_n _ han_65 rfl rfl kj kj kj kj (Nat.lt_of_lt_of_eq (show p<(resT ts c).length by omega) hnn_65.symm)) <| Qaa (.int .i64 (nth (resT ts c) (p))) 141 rfl kj (Qai 3 _ _ (.int .i64 (nth (resT ts c) (p))) (hcn_65 p (Nat.lt_of_lt_of_eq (show p<(resT ts c).length by omega) hnn_65.symm)) rfl kj kj) <| sg 1 kj <| Qaa (.int .i64 ((2*nth nv.n.ms q))) 143 rfl kj (Qag (u:=.int .i64 (IntKind.i64.wrap (2*(nth (nv.n.ms) (q))))) kj (congrArg (Value.int .i64) (IntWalk.i64_in _ (by omega)))) <| Qaa (.bool (decide (nth (resT ts c) p=2*nth nv.n.ms q))) 144 rfl kj (Qag (u:=.bool (((nth (resT ts c) (p))==(2*nth nv.n.ms q)))) kj (congrArg Value.bool (Ql0 _ _))) <| sg 3 kj ?_
            refine Qaj <| hK72 _ _ <| Qad <| sg 1 kj <| Qaa (.int .i64 ((p+1:Nat):Int)) 131 rfl kj (Qag (u:=.int .i64 (IntKind.i64.wrap (((p:Nat):Int)+1))) kj (congrArg (Value.int .i64) (i64n _ _ (by omega) (by omega)))) <| sg 1 kj <| Qaj ?_
            repeat (first | with_reducible refine goX1 ?_ | with_reducible refine goX2 ?_ | with_reducible refine goX3 ?_)
            exact Qap ((p+1),(decide (nth (resT ts c) p=2*nth nv.n.ms q))) ⟨kj,kj,kj,kj,kj,kj,kj,kj,kj,kj,kj,kj,kj,kj,kj,trivial⟩ ⟨(by omega),(by rw [Qey,←hfo,show (p==i)=false from beq_eq_false_iff_ne.2 hpi,Bool.not_false,Bool.true_and,Bool.false_or]),e14,xx6⟩ (by show (resT ts c).length-(p+1)<(resT ts c).length-p; omega)
          ·skip
           have heq129:p=(resT ts c).length:=by have:=of_decide_eq_false c64; omega
           refine wp_exit <| hK60 _ _ ?_
           rcases (show ao=true∨ao=false from by cases ao; exact .inr rfl; exact .inl rfl) with h_ | h_ <;> subst h_
           ·skip
            refine sgA kj <| hK54 _ _ <| Qad <| sg 1 kj <| Qaa (.int .i64 ((q+1:Nat):Int)) 111 rfl kj (Qag (u:=.int .i64 (IntKind.i64.wrap (((q:Nat):Int)+1))) kj (congrArg (Value.int .i64) (i64n _ _ (by omega) (by omega)))) <| sg 1 kj <| Qaj ?_
            have y11_13:=(Rely.Ext.trans e12 e13)
            have y11_14:=(Rely.Ext.trans y11_13 e14)
            repeat (first | with_reducible refine goX1 ?_ | with_reducible refine goX2 ?_ | with_reducible refine goX3 ?_)
            exact Qap ((q+1),fo) ⟨kj,kj,kj,kj,kj,kj,kj,kj,kj,kj,kj,kj,trivial⟩ ⟨(by omega),(by rw [Qe5,hab,Bool.not_true,Bool.false_or,←Bool.and_assoc,←hao]; rw [Bool.true_and,hfo,heq129]),y11_14,xx6⟩ (by show nv.n.ms.length-(q+1)<nv.n.ms.length-q; omega)
           ·skip
            refine sgA kj <| hK54 _ _ <| Qad <| sg 1 kj <| Qaa (.int .i64 ((q+1:Nat):Int)) 111 rfl kj (Qag (u:=.int .i64 (IntKind.i64.wrap (((q:Nat):Int)+1))) kj (congrArg (Value.int .i64) (i64n _ _ (by omega) (by omega)))) <| sg 1 kj <| Qaj ?_
            have y11_13:=(Rely.Ext.trans e12 e13)
            have y11_14:=(Rely.Ext.trans y11_13 e14)
            repeat (first | with_reducible refine goX1 ?_ | with_reducible refine goX2 ?_ | with_reducible refine goX3 ?_)
            exact Qap ((q+1),false) ⟨kj,kj,kj,kj,kj,kj,kj,kj,kj,kj,kj,kj,trivial⟩ ⟨(by omega),(by rw [Qe5,hab,Bool.not_true,Bool.false_or,←Bool.and_assoc,←hao]; rfl),y11_14,xx6⟩ (by show nv.n.ms.length-(q+1)<nv.n.ms.length-q; omega)
         ·skip
          refine Qad <| sg 2 kj <| Qaa (.int .i64 ((2*nth nv.n.ms q))) 122 rfl kj (Qag (u:=.int .i64 (IntKind.i64.wrap (2*(nth (nv.n.ms) (q))))) kj (congrArg (Value.int .i64) (IntWalk.i64_in _ (by omega)))) <| sg 1 kj <| Qak (.bool false) 42 #[.int .i64 ((c:Nat):Int),.int .i64 ((2*nth nv.n.ms q)),.int .i64 ((L:Nat):Int)] 124 rfl kj kj (QbA ((c:Nat):Int) (2*nth nv.n.ms q) ((L:Nat):Int) false hab _) fun W13 e13=>?_
          have x13:=Ext.tr xx5 e13
          refine sg 1 kj <| sgN hK58 <| cond_true kj <| wp_exit <| hK54 _ _ <| Qad <| sg 1 kj <| Qaa (.int .i64 ((q+1:Nat):Int)) 111 rfl kj (Qag (u:=.int .i64 (IntKind.i64.wrap (((q:Nat):Int)+1))) kj (congrArg (Value.int .i64) (i64n _ _ (by omega) (by omega)))) <| sg 1 kj <| Qaj ?_
          have y11_13:=(Rely.Ext.trans e12 e13)
          repeat (first | with_reducible refine goX1 ?_ | with_reducible refine goX2 ?_ | with_reducible refine goX3 ?_)
          exact Qap ((q+1),ao) ⟨kj,kj,kj,kj,kj,kj,kj,kj,kj,kj,kj,kj,trivial⟩ ⟨(by omega),(by rw [Qe5,hab,Bool.not_false,Bool.true_or,Bool.and_true]; exact hao),y11_13,x13⟩ (by show nv.n.ms.length-(q+1)<nv.n.ms.length-q; omega)
        ·skip
         have heq109:q=nv.n.ms.length:=by have:=of_decide_eq_false c53; omega
         refine wp_exit <| hK49 _ _ ?_
         rcases (show be=true∨be=false from by cases be; exact .inr rfl; exact .inl rfl) with h_ | h_ <;> subst h_
         ·skip
          refine sgA kj <| hK31 _ _ <| Qad <| sg 1 kj <| Qaa (.int .i64 ((i+1:Nat):Int)) 57 rfl kj (Qag (u:=.int .i64 (IntKind.i64.wrap (((i:Nat):Int)+1))) kj (congrArg (Value.int .i64) (i64n _ _ (by omega) (by omega)))) <| sg 1 kj <| Qaj ?_
          have y7_9:=(Rely.Ext.trans e8 e9)
          have y7_10:=(Rely.Ext.trans y7_9 e10)
          have y7_11:=(Rely.Ext.trans y7_10 e11)
          have y7_12:=(Rely.Ext.trans y7_11 e12)
          repeat (first | with_reducible refine goX1 ?_ | with_reducible refine goX2 ?_ | with_reducible refine goX3 ?_)
          exact Qap ((i+1),true) ⟨kj,kj,kj,kj,kj,kj,kj,kj,kj,kj,trivial⟩ ⟨(by omega),(by rw [Qe2,hpv,decide_eq_true hpm,Bool.true_and,←Bool.or_assoc,←hbe]; rfl),y7_12,xx5⟩ (by show (resT ts c).length-(i+1)<(resT ts c).length-i; omega)
         ·skip
          refine sgA kj <| hK31 _ _ <| Qad <| sg 1 kj <| Qaa (.int .i64 ((i+1:Nat):Int)) 57 rfl kj (Qag (u:=.int .i64 (IntKind.i64.wrap (((i:Nat):Int)+1))) kj (congrArg (Value.int .i64) (i64n _ _ (by omega) (by omega)))) <| sg 1 kj <| Qaj ?_
          have y7_9:=(Rely.Ext.trans e8 e9)
          have y7_10:=(Rely.Ext.trans y7_9 e10)
          have y7_11:=(Rely.Ext.trans y7_10 e11)
          have y7_12:=(Rely.Ext.trans y7_11 e12)
          repeat (first | with_reducible refine goX1 ?_ | with_reducible refine goX2 ?_ | with_reducible refine goX3 ?_)
          exact Qap ((i+1),ao) ⟨kj,kj,kj,kj,kj,kj,kj,kj,kj,kj,trivial⟩ ⟨(by omega),(by rw [Qe2,hpv,decide_eq_true hpm,Bool.true_and,←Bool.or_assoc,←hbe]; rw [Bool.false_or,hao,heq109]),y7_12,xx5⟩ (by show (resT ts c).length-(i+1)<(resT ts c).length-i; omega)
      ·skip
       refine Qbe kj fun W9 e9=>?_
       have x9:=Ext.tr xx3 e9
       refine Qas 0 (.slice a_t ts.length c_t) 58 rfl rfl kj kj (fun _ _ _ h=>h) (fun W hR=>by kernel_rfl) <| Qas 1 (.slice a_n ((resT ts c).length) c_n) 59 rfl rfl kj kj (fun _ _ _ h=>h) (fun W hR=>by kernel_rfl) <| Qas 2 (.int .i64 ((i:Nat):Int)) 60 rfl rfl kj kj (fun _ _ _ h=>h) (fun W hR=>by kernel_rfl) <| Qas 3 (.pointer (some ⟨gcn_29,ocn_29+i,none⟩)) 61 rfl rfl kj kj (fun _ _ _ h=>h) (fun W hR=>(Qa1 24 _ _ .i64 i gcn_29 ocn_29 ((resT ts c).length) c_n 3 a_n _ han_29 rfl rfl kj kj kj kj (Nat.lt_of_lt_of_eq (show i<(resT ts c).length by omega) hnn_29.symm))) ?_
       have y8_9:=(Rely.Ext.trans (Rely.Ext.refl V3) e9)
       refine Qas 4 (.int .i64 ((d:Nat):Int)) 62 rfl rfl kj kj (fun _ _ _ h=>h) (fun W hR=>(Qag (Qai 3 _ _ (.int .i64 (nth (resT ts c) (i))) ((Below.cell (Rely.Ext.trans y8_9 hR) hln_29).trans (hcn_29 i (Nat.lt_of_lt_of_eq (show i<(resT ts c).length by omega) hnn_29.symm))) rfl kj kj) (congrArg (Value.int .i64) hd))) <| Qas 5 (.pointer (some ⟨gzT,ozT+d*99,none⟩)) 63 rfl rfl kj kj (fun _ _ _ h=>h) (fun W hR=>(Qan 23 _ _ .i64 (d) gzT ozT ts.length c_t 50 99 a_t (haz (by omega)) rfl kj kj kj kj (by omega))) <| Qas 6 (.pointer (some ⟨gzT,ozT+d*99+66,none⟩)) 64 rfl rfl kj kj (fun _ _ _ h=>h) (fun W hR=>by kernel_rfl) <| Qas 7 (.agg (ints .u8 (nz.n.pa))) 65 rfl rfl kj kj (fun _ _ _ h=>h) (fun W hR=>(Qct 28 _ gzT (ozT+d*99) nz (NdAt.ext hnz (Rely.Ext.trans y8_9 hR)) rfl kj kj kj)) <| Qas 8 (.slice a_t ts.length c_t) 66 rfl rfl kj kj (fun _ _ _ h=>h) (fun W hR=>by kernel_rfl) <| Qas 9 (.int .i64 ((2*y+1:Nat):Int)) 67 rfl rfl kj kj (fun _ _ _ h=>h) (fun W hR=>by kernel_rfl) <| Qas 10 (.int .i64 ((c:Nat):Int)) 68 rfl rfl kj kj (fun _ _ _ h=>h) (fun W hR=>by kernel_rfl) <| Qbt 11 kj <| QbV rfl (fun v W'=>v=(.agg (ints .u8 (mkN ts (2*y+1) sb)))∧Ext W9 W') 17 #[.slice a_t ts.length c_t,.int .i64 ((2*y+1:Nat):Int),.int .i64 ((c:Nat):Int)] 69 rfl kj kj ((hmk _ (TrAt.ext ht x9)).mono fun e w' h=>⟨_,h.1,rfl,h.2⟩) (fun _ _ h=>Rely.Ext.trans (Rely.Ext.refl W9) h.2) fun vv73 W10 hh73=>?_
       obtain ⟨rfl,e10⟩:=hh73
       have x10:=Ext.tr x9 e10
       refine Qas 12 (.bool true) 70 rfl rfl kj kj (fun _ _ _ h=>h) (fun W hR=>(QaH 28 _ _ _ _ _ (.bool true) rfl kj kj kj (QaW 28 (e:=5) (k:=.u8) (nz.n.pa) (mkN ts (2*y+1) sb) (decide_eq_false hpm) okz.pl (Qc9 ts (2*y+1) sb) kj kj kj _))) <| Qcb kj <| hK33 _ _ <| cond_true kj <| wp_exit <| hK31 _ _ <| Qad <| sg 1 kj <| Qaa (.int .i64 ((i+1:Nat):Int)) 57 rfl kj (Qag (u:=.int .i64 (IntKind.i64.wrap (((i:Nat):Int)+1))) kj (congrArg (Value.int .i64) (i64n _ _ (by omega) (by omega)))) <| sg 1 kj ?_
       refine Qaj ?_
       have y7_9:=(Rely.Ext.trans e8 e9)
       have y7_10:=(Rely.Ext.trans y7_9 e10)
       repeat (first | with_reducible refine goX1 ?_ | with_reducible refine goX2 ?_ | with_reducible refine goX3 ?_)
       exact Qap ((i+1),be) ⟨kj,kj,kj,kj,kj,kj,kj,kj,kj,kj,trivial⟩ ⟨(by omega),(by rw [Qe2,hpv,decide_eq_false hpm,Bool.false_and,Bool.or_false]; exact hbe),y7_10,x10⟩ (by show (resT ts c).length-(i+1)<(resT ts c).length-i; omega)
     ·skip
      have heq55:i=(resT ts c).length:=by have:=of_decide_eq_false c28; omega
      have hbe2:be=sdB ts L (2*y+1) l r (s+1):=by rw [hsd,←Qkr f hlt27 (by omega) hus hcl sb,←env,hbe,heq55]
      refine wp_exit <| hK20 _ _ <| Qad <| sg 1 kj <| Qaa (.int .i64 ((s+1:Nat):Int)) 44 rfl kj (Qag (u:=.int .i64 (IntKind.i64.wrap (((s:Nat):Int)+1))) kj (congrArg (Value.int .i64) (i64n _ _ (by omega) (by omega)))) <| sg 1 kj <| Qaj ?_
      repeat (first | with_reducible refine goX1 ?_ | with_reducible refine goX2 ?_ | with_reducible refine goX3 ?_)
      exact Qap ((s+1),be) ⟨kj,kj,kj,kj,kj,kj,kj,trivial⟩ ⟨(by omega),hbe2,(Rely.Ext.trans (Rely.Ext.trans (Rely.Ext.trans e5 e6) e7) e8),xx3⟩ (by show 2-(s+1)<2-s; omega)
    clear hK22
    refine sgB kj <| Qaq (t:=(((s:Nat):Int)==1)) kj (fun c75=>?_) (fun c75=>?_)
    ·skip
     have hs1:s=1:=by have h9:=eq_of_beq c75; omega
     refine sgA kj ?_
     exact QgD (K:=K22) [(0,.slice a_t ts.length c_t),(3,.int .i64 ((L:Nat):Int)),(4,.int .i64 ((2*y+1:Nat):Int)),(5,.int .i64 ((l:Nat):Int)),(6,.int .i64 ((r:Nat):Int)),(7,.bool bd),(8,.int .i64 ((s:Nat):Int)),(9,.int .i64 ((r:Nat):Int))] (hJ r l _ _ (by omega) (by omega) (.inr ⟨rfl,rfl⟩) (by rw [hbd,hs1]; rfl) (Rely.Ext.refl V2)) ⟨rfl,rfl,rfl,rfl,rfl,rfl,rfl,rfl,trivial⟩
    ·skip
     have hs1:s=0:=by have h9:=beq_eq_false_iff_ne.1 c75; omega
     refine wp_skip ?_
     exact QgD (K:=K22) [(0,.slice a_t ts.length c_t),(3,.int .i64 ((L:Nat):Int)),(4,.int .i64 ((2*y+1:Nat):Int)),(5,.int .i64 ((l:Nat):Int)),(6,.int .i64 ((r:Nat):Int)),(7,.bool bd),(8,.int .i64 ((s:Nat):Int)),(9,.int .i64 ((l:Nat):Int))] (hJ l r _ _ (by omega) (by omega) (.inl ⟨rfl,rfl⟩) (by rw [hbd,hs1]; rfl) (Rely.Ext.refl V2)) ⟨rfl,rfl,rfl,rfl,rfl,rfl,rfl,rfl,trivial⟩
   ·skip
    have heq42:s=2:=by have:=of_decide_eq_false c19; omega
    have hbd2:bd=sdB ts L (2*y+1) l r 2:=heq42▸hbd
    refine wp_exit <| hK15 _ _ <| wp_seq_k fun K76 hK76=>?_
    rcases (show bd=true∨bd=false from by cases bd; exact .inr rfl; exact .inl rfl) with h_ | h_ <;> subst h_
    ·skip
     have hbt:sdB ts L (2*y+1) l r 2=true:=hbd2.symm
     refine sgA kj <| hK76 _ _ <| cond_false kj <| wp_skip <| hK10 _ _ <| Qad <| sg 1 kj <| Qaa (.int .i64 (((2*(y+1)+1:Nat):Int))) 29 rfl kj (Qag (u:=.int .i64 (IntKind.i64.wrap (((2*y+1:Nat):Int)+2))) kj (congrArg (Value.int .i64) ((IntWalk.i64_in _ (by omega)).trans (by omega)))) <| sg 1 kj <| Qaj ?_
     repeat (first | with_reducible refine goX1 ?_ | with_reducible refine goX2 ?_ | with_reducible refine goX3 ?_)
     exact Qap (y+1) ⟨kj,kj,kj,trivial⟩ ⟨(by omega),(fun j hj=>(Nat.lt_or_ge j y).elim (hall j) fun h=>by have e:j=y:=(by omega); rw [e]; exact hok.trans hbt),(Rely.Ext.trans (Rely.Ext.trans e3 e4) e5),xx2⟩ (by show ts.length-(y+1)<ts.length-y; omega)
    ·skip
     have hok2:okX ts L (2*y+1)=false:=hok.trans hbd2.symm
     refine sgA kj <| hK76 _ _ <| cond_true kj <| sgB kj <| wp_ret ?_
     repeat (first | with_reducible refine goR1 ?_ | with_reducible refine goR2 ?_)
     exact (show bodyPost _ _ _ .ret _ _ from ret1 (.bool false) rfl (Qar kj) ⟨congrArg (fun z=>Ending.returned (.bool z)) (Qiy hlt27 hok2).symm,xx2⟩)
 ·skip
  have heq27:2*y+1=ts.length:=by have:=of_decide_eq_false c9; omega
  refine wp_exit <| hK5 _ _ <| sgB kj <| wp_ret ?_
  repeat (first | with_reducible refine goR1 ?_ | with_reducible refine goR2 ?_)
  exact (show bodyPost _ _ _ .ret _ _ from ret1 (.bool true) rfl (Qar kj) ⟨congrArg (fun z=>Ending.returned (.bool z)) (QgP fun j hj=>by rcases Nat.mod_two_eq_zero_or_one j with h8 | h8; exact QiS (by omega) h8; have h9:=hall (j/2) (by omega); rw [show 2*(j/2)+1=j by omega] at h9; exact h9).symm,xx1⟩)
end Go.Proofs.YthfkppjajmjpnaaDoor.Te
end
