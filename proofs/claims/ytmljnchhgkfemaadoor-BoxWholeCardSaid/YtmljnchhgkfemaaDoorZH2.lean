/- Texts of this claim, joined (H2). -/
import Derived.Test.YtmljnchhgkfemaaDoorZH1
import Derived.Laws.Externs
import Derived.Shelf.Spec.BitsCarry
import Derived.Shelf.Bits.Mul64
import Derived.Laws.Bits64b

set_option linter.unusedVariables false
set_option linter.unusedSimpArgs false
set_option maxHeartbeats 4000000
section
namespace Go.Proofs.YtmljnchhgkfemaaDoor.Cha
open Go Go.RowKit
open Rely Auto Own Sha
open Sha
def pg (pre : List Nat) (j:Nat):Nat:=pre.getD j 0
theorem Qo0 (pre : List Nat) (x:Nat):pg (pre++[x]) pre.length=x:=by simp [pg]
theorem Qq7 (pre : List Nat) (x j:Nat) (h:j<pre.length):pg (pre++[x]) j=pg pre j:=by
  unfold pg
  rw [List.getD_eq_getElem?_getD,List.getD_eq_getElem?_getD,List.getElem?_append_left h]
theorem QmL (k j:Nat) (h:j<k):pg (List.range k) j=j:=by
  unfold pg
  rw [List.getD_eq_getElem?_getD,List.getElem?_range h]; rfl
theorem Qj8 (text : List Int) (ws:List Wd) (num:Int) (f g:Nat→Nat) (n m:Nat) (h:∀ i,i<m→f (i/64)=g (i/64)):(mxv text ws num f n).take m=(mxv text ws num g n).take m:=by
  unfold mxv
  rw [←List.map_take,←List.map_take,List.take_range]
  refine List.map_congr_left fun i hi=>?_
  rw [List.mem_range] at hi
  rw [h i (by omega)]
theorem Ql4 (text : List Int) (ws:List Wd) (num:Int) (f:Nat→Nat) (n m:Nat) (h:m<n):nth (mxv text ws num f n) m=bits .xor .u8 (nth text m) (nth (Qbu ws (num+((f (m/64):Nat):Int))) (m%64)):=by
  rw [show nth (mxv text ws num f n) m=(mxv text ws num f n).getD m 0 from rfl]
  unfold mxv
  rw [List.getD_eq_getElem?_getD,List.getElem?_map,List.getElem?_range h]; rfl
theorem QoD (text : List Int) (ws:List Wd) (num:Int) (pre:List Nat) (x n:Nat):QbW (mxv text ws num (pg pre) n) n (64*pre.length)=QbW (mxv text ws num (pg (pre++[x])) n) n (64*pre.length):=by
  unfold QbW
  rw [Qj8 text ws num (pg pre) (pg (pre++[x])) n _ fun i hi=>(Qq7 pre x (i/64) (by omega)).symm]
theorem QpF (text : List Int) (ws:List Wd) (num:Int) (pre:List Nat) (x n j:Nat) (hj:j<64) (h:64*pre.length+j<n):nth (mxv text ws num (pg (pre++[x])) n) (64*pre.length+j)=bits .xor .u8 (nth text (64*pre.length+j)) (nth (Qbu ws (num+((x:Nat):Int))) j):=by
  rw [Ql4 _ _ _ _ _ _ h,show (64*pre.length+j)/64=pre.length by omega,show (64*pre.length+j)%64=j by omega,Qo0]
theorem Ql5 (text : List Int) (ws:List Wd) (num:Int) (k:Nat) (h:text.length≤64*k):mxv text ws num (pg (List.range k)) text.length=mixV ws num text:=by
  have h2:=Qj8 text ws num (pg (List.range k)) id text.length text.length fun i hi=>QmL k (i/64) (by omega)
  rw [List.take_of_length_le (by rw [Qe5]; omega),List.take_of_length_le (by rw [Qe5]; omega)] at h2
  exact h2
theorem Qcg (ws : List Wd) (num:Int) (text:List Int):(mixV ws num text).length=text.length:=Qe5 _ _ _ _ _
set_option maxRecDepth 100000 in
theorem QqN (key nonce text:List Int) (v v2:Value) (B B2:Nat) (number:Int) (th tq:TypeId) (w:World) (hh:w.heap[2]? = some (.cells (ints .u32 qH) th)) (hq:w.heap[3]? = some (.cells (ints .i64 qQ) tq)) (hkl:key.length=32) (hn:RdK .u8 B nonce v w) (ht:RdK .u8 B2 text v2 w) (h:nonce.length=12) (r:Nat) (hr:number+(r:Int)=4294967296) (h1:0≤number) (h2:number≤4294967295) (hfit:text.length≤64*r) (htl:text.length≤2000000):Calls Tryd.prog 30 #[.agg (ints .u8 key),v,.int .i64 number,v2] w (QcB w (fun v W=>∃ u,v=.tuple #[u,.nilIface]∧OwnN .u8 5 w.heap.size (mixV (Qbb key nonce) number text) u W)):=by
 obtain ⟨a_n,c_n,rfl,-⟩:=id hn
 obtain ⟨a_t,c_t,rfl,-⟩:=id ht
 refine Qme 64 [(0,.agg (ints .u8 (key))),(1,.slice a_n nonce.length c_n),(2,.int .i64 number),(3,.slice a_t text.length c_t)] Tryd.func30 rfl rfl kj rfl <| sgC fun K3 hK3=>Qaj (ints .u8 (key)) 23 4 rfl kj kj fun g4 W1 l4 e1 r4_1=>?_
 have x1:=Ext.tr (Rely.Ext.refl w) e1
 have b4:=qT (Rely.Ext.refl w).size l4
 refine Qaj (#[.slice a_t text.length c_t]) 24 7 rfl kj kj fun g5 W2 l5 e2 r5_2=>?_
 have x2:=Ext.tr x1 e2
 have b5:=qT x1.size l5
 refine sg 2 kj <| sgN hK3 <| wp_scope_straight <| wp_seq_k fun K6 hK6=>sgC fun K7 hK7=>sg 2 kj <| Qao (.nilIface) 53 #[.slice a_n nonce.length c_n,.int .i64 number] 19 rfl kj kj ((Qjj nonce _ _ number _ (RdK.ext hn x2) h h1 h2)) fun W3 e3=>?_
 have x3:=Ext.tr x2 e3
 refine sg 1 kj <| sgN hK7 <| sgB kj <| cond_false kj <| wp_skip <| hK6 _ _ <| wp_seq_k fun K9 hK9=>sgC fun K10 hK10=>?_
 have r5_3:=(Qaa r5_2 e3)
 refine Qad (.slice a_t text.length c_t) 23 rfl kj (Qak 24 _ g5 0 24 _ (.slice a_t text.length c_t) _ r5_3 rfl kj kj kj) <| sg 1 kj <| Qad (.int .i64 ((text.length+64:Nat):Int)) 25 rfl kj (Qal (u:=.int .i64 (IntKind.i64.wrap (((text.length:Nat):Int)+64))) kj (congrArg (Value.int .i64) (i64n _ _ (by omega) (by omega)))) <| Qad (.int .i64 (((text.length+64)-1:Nat):Int)) 26 rfl kj (Qal (u:=.int .i64 (IntKind.i64.wrap (((text.length+64:Nat):Int)-1))) kj (congrArg (Value.int .i64) (i64n _ _ (by omega) (by omega)))) <| Qad (.int .i64 ((((text.length+64)-1)/64:Nat):Int)) 27 rfl kj (Qal (u:=.int .i64 (IntKind.i64.wrap (Int.tdiv ((((text.length+64)-1:Nat):Int)) (64)))) kj (congrArg (Value.int .i64) (QdY _ 64 (by omega)))) <| sg 1 kj <| sgN hK10 <| sgC fun K11 hK11=>sg 2 kj <| Qad (.int .i64 (((r-1:Nat):Int))) 30 rfl kj (Qal (u:=.int .i64 (IntKind.i64.wrap (4294967295-number))) kj (congrArg (Value.int .i64) (by rw [show (4294967295-number:Int)=((r-1:Nat):Int) by omega]; exact IntWalk.i64_in _ (by omega)))) ?_
 refine Qad (.int .i64 (((r-1)+1:Nat):Int)) 31 rfl kj (Qal (u:=.int .i64 (IntKind.i64.wrap ((((r-1:Nat):Int))+1))) kj (congrArg (Value.int .i64) (i64n _ _ (by omega) (by omega)))) <| Qad (.bool false) 32 rfl kj (Qal (u:=.bool (decide (((((text.length+64)-1)/64:Nat):Int)>(((r-1)+1:Nat):Int)))) kj (congrArg Value.bool (decide_eq_false (by omega)))) <| sgN hK11 <| cond_false kj <| wp_skip <| hK9 _ _ <| sgC fun K12 hK12=>Qad (.slice a_t text.length c_t) 34 rfl kj (Qak 24 _ g5 0 24 _ (.slice a_t text.length c_t) _ r5_3 rfl kj kj kj) <| sg 1 kj <| QkZ (ints .u8 (List.replicate (text.length) 0)) 5 0 (text.length) 36 rfl kj (Qld 24 _ _ .i64 .i64 0 (text.length) 5 rfl kj kj kj (.inr kj) (Nat.zero_le _) (by omega)) fun g13 W4 l13 e4 r13_4=>?_
 have x4:=Ext.tr x3 e4
 have b13:=qT x3.size l13
 refine Qaj (#[.slice none 0 0]) 24 12 rfl kj kj fun g14 W5 l14 e5 r14_5=>?_
 have b14:=qT x4.size l14
 refine Qah g14 _ (#[.slice (some ⟨g13,0,none⟩) 0 text.length]) 24 r14_5 rfl kj (QbP 24 _ _ g14 0 24 _ (.slice (some ⟨g13,0,none⟩) 0 text.length) r14_5 rfl kj kj kj kj kj rfl) fun W6 p6 r14_6=>?_
 have x6:=Puts.ext p6 (Ext.tr x4 e5) b14
 refine sgN hK12 <| wp_seq_k fun K15 hK15=>wp_label <| hK15 _ _ <| wp_seq_k fun K16 hK16=>sgC fun K17 hK17=>?_
 have r4_4:=(Qaa (Qaa (Qaa r4_1 e2) e3) e4)
 refine Qad (.agg (ints .u8 (key))) 37 rfl kj (Qae 23 _ g4 23 _ _ (Puts.row p6 (Qaa r4_4 e5) (Qab r4_4 l14)) rfl kj kj (isz (n:=32) kj ((Qac _ _).trans hkl))) <| sg 2 kj ?_
 have r2_4:=(Qaa (Qaa (Qaa (Qaa hh e1) e2) e3) e4)
 have r1_4:=(Qaa (Qaa (Qaa (Qaa hq e1) e2) e3) e4)
 have r1_6:=(Puts.row p6 (Qaa r1_4 e5) (Qab r1_4 l14))
 refine QaA (fun v W'=>(fun v W=>∃ g1 g2,v=.func (.func 75) #[] #[.pointer (some ⟨g1,0,none⟩),.pointer (some ⟨g2,0,none⟩)]∧W6.heap.size≤g1∧W6.heap.size≤g2∧W.heap[g1]? = some (.cells #[.int .i64 number] 3)∧W.heap[g2]? = some (.cells (ints .u32 ((Qbb key nonce).map wv)) 123)) v W'∧Ext W6 W') 54 #[.agg (ints .u8 (key)),.slice a_n nonce.length c_n,.int .i64 number] 40 rfl kj kj ((QmK key nonce _ _ number th tq _ (Puts.row p6 (Qaa r2_4 e5) (Qab r2_4 l14)) r1_6 hkl (RdK.ext hn x6) h h1 h2).mono (by rintro e w' ⟨v,rfl,e1,hv⟩; exact ⟨v,rfl,hv,e1⟩)) fun vv18 W7 hh18=>?_
 obtain ⟨hv18,e7⟩:=hh18
 have x7:=Ext.tr x6 e7
 obtain ⟨gp1,gp2,rfl,lp1,lp2,rp1,rp2⟩:=hv18
 refine sgN hK17 <| wp_block ?_
 have r5_4:=(Qaa r5_3 e4)
 have r5_7:=(Qaa (Puts.row p6 (Qaa r5_4 e5) (Qab r5_4 l14)) e7)
 have r14_7:=(Qaa r14_6 e7)
 have r13_6:=(Puts.row p6 (Qaa r13_4 e5) (Qab r13_4 l14))
 have r13_7:=(Qaa r13_6 e7)
 have nb712:g5≠g14:=(Qab r5_4 l14)
 have nb7O:g5≠g13:=(Qab r5_3 l13)
 have nb127:g14≠g5:=(Qav r5_4 l14)
 have nb12O:g14≠g13:=(Qav r13_4 l14)
 have nbO7:g13≠g5:=(Qav r5_3 l13)
 have nbO12:g13≠g14:=(Qab r13_4 l14)
 have hgs:∀ c∈([g14,g13]:List Nat),w.heap.size≤c:=(fun c hc=>by simp only [List.mem_cons,List.not_mem_nil,or_false] at hc; rcases hc with rfl | rfl; exact b14; exact b13)
 have hgp:∀ c∈([g14,g13]:List Nat),c<W6.heap.size:=(fun c hc=>by simp only [List.mem_cons,List.not_mem_nil,or_false] at hc; rcases hc with rfl | rfl; exact Qa4 r14_6; exact Qa4 r13_6)
 refine QiH (gf:=75) (lb:=#[.pointer (some ⟨gp1,0,none⟩),.pointer (some ⟨gp2,0,none⟩)]) (enc:=fun x:Nat=>.int .i64 (number+((x:Nat):Int))) (enc2:=fun x:Nat=>.agg (ints .u8 (Qbu (Qbb key nonce) (number+((x:Nat):Int))))) kj (enters_of Tryd.func75 kj rfl) (QhZ 2 [g14,g13] gp1 gp2 (Qbb key nonce) number r tq W7 hr h1 h2 (Qek _ _) (Qaa r1_6 e7) rp1 rp2 (fun hm=>by have:=hgp _ hm; omega) (fun hm=>by have:=hgp _ hm; omega) (fun hm=>by have h1:=hgs _ hm; have h2:=Qa4 hq; omega)) (fun h k=>QbS.trans h k) QbS.book (Below.refl _ _)
   (fun pre W=>((W.heap[g5]? = some (.cells (#[.slice a_t text.length c_t]) 24))∧(W.heap[g14]? = some (.cells (#[.slice (some ⟨g13,0,none⟩) (64*pre.length) text.length]) 24))∧(W.heap[g13]? = some (.cells (ints .u8 (QbW (mxv text (Qbb key nonce) number (pg pre) text.length) text.length (64*pre.length))) 5))∧64*pre.length≤text.length∧W7.heap.size≤W.heap.size)∧Ext w W)
   (fun c pre W=>(c=.exit 0∧text.length≤64*pre.length∧(W.heap[g14]? = some (.cells (#[.slice (some ⟨g13,0,none⟩) (text.length) text.length]) 24))∧(W.heap[g13]? = some (.cells (ints .u8 (QbW (mxv text (Qbb key nonce) number (pg pre) text.length) text.length (text.length))) 5)))∧Ext w W) (OwnFrom.and (Own.from (fun s A B row hs hg hr=>⟨Qbl hs.1 hg hr,Qbl hs.2.1 hg hr,Qbl hs.2.2.1 hg hr,hs.2.2.2.1,qT hs.2.2.2.2 hg.size⟩) _) (ownFrom_below (qR _) x7.size)) (fun c=>OwnFrom.and (Own.from (fun s A B row hs hg hr=>⟨hs.1,hs.2.1,Qbl hs.2.2.1 hg hr,Qbl hs.2.2.2 hg hr⟩) _) (ownFrom_below (qR _) x7.size)) ⟨⟨r5_7,r14_7,QaC r13_7 (QcK _ _),Nat.zero_le _,qR _⟩,x7⟩ (fun e=>QbS.ext e) (fun pre A B h e=>⟨⟨Qaa h.1.1 e,Qaa h.1.2.1 e,Qaa h.1.2.2.1 e,h.1.2.2.2.1,qT h.1.2.2.2.2 e.size⟩,Rely.Ext.trans h.2 e⟩) (fun pre W h=>h.1.2.2.2.2) (fun x g=>[(14,.pointer (some ⟨g,0,none⟩)),(42,.agg (ints .u8 (Qbu (Qbb key nonce) (number+((x:Nat):Int))))),(41,.int .i64 (number+((x:Nat):Int)))]) (fun x=>ints .u8 (Qbu (Qbb key nonce) (number+((x:Nat):Int)))) 98 (fun l x W K hK=>?_) (fun l pre x gP Wr hgP hI rP hp=>?_) (fun D ys W lD hS hI rD=>?_) (fun D c pre W lD hSp hIx rD=>?_)
 ·skip
  refine Qbs <| QjD (ints .u8 (List.replicate 64 0)) 98 14 rfl (QaU l 1 _) rfl kj kj fun g301 W1 l301 e1 r301_1=>?_
  have x1:=Ext.tr (Rely.Ext.refl W) e1
  refine QfC g301 _ (ints .u8 (Qbu (Qbb key nonce) (number+((x:Nat):Int)))) 98 r301_1 rfl (QaU l 1 _) rfl kj (Qaf 98 _ _ g301 98 _ _ r301_1 rfl kj kj (isz (n:=64) kj ((Qac _ _).trans (QbU _ _))) (eqsz (n:=64) ((Qac _ _).trans (qZ (n:=64))) ((Qac _ _).trans (QbU _ _))) (ints_one _ _)) fun W2 p2 r301_2=>?_
  have x2:=Puts.ext p2 x1 (qT (Rely.Ext.refl W).size l301)
  refine Qdp ?_
  exact hK _ _ l301 (Puts.ext p2 (Rely.Ext.trans (Rely.Ext.refl W) e1) l301) r301_2
 ·skip
  obtain ⟨⟨q7,q12,qO,hml,hsz⟩,xx⟩:=hI
  replace qO:=QaC qO (QoD text (Qbb key nonce) number pre x text.length)
  have hl1:(pre++[x]).length=pre.length+1:=by simp
  have n147:gP≠g5:=by have h1:=Qa4 r5_7; omega
  have n1412:gP≠g14:=by have h1:=Qa4 r14_7; omega
  have n14O:gP≠g13:=by have h1:=Qa4 r13_7; omega
  refine wpIn_block <| wpIn_seq_k fun K505 hK505=>Qbs <| QbJ (.agg (ints .u8 (Qbu (Qbb key nonce) (number+((x:Nat):Int))))) 43 rfl (QaU l 1 _) rfl kj (Qae 98 _ gP 98 _ _ rP rfl kj kj (isz (n:=64) kj ((Qac _ _).trans (QbU _ _)))) <| QbJ (.int .i64 0) 44 rfl (QaU l 1 _) rfl kj kj <| Qdp <| hK505 _ _ <| wpIn_block <| QiX (fun (s1:Nat)=>[(7,.pointer (some ⟨g5,0,none⟩)),(12,.pointer (some ⟨g14,0,none⟩)),(43,.agg (ints .u8 (Qbu (Qbb key nonce) (number+((x:Nat):Int))))),(44,.int .i64 ((s1:Nat):Int))]) (fun (s1:Nat) W=>(s1≤64)∧(64*pre.length+s1≤text.length)∧(W.heap[g14]? = some (.cells (#[.slice (some ⟨g13,0,none⟩) (64*pre.length+s1) text.length]) 24))∧(W.heap[g13]? = some (.cells (ints .u8 (QbW (mxv text (Qbb key nonce) number (pg (pre++[x])) text.length) text.length (64*pre.length+s1))) 5))∧(Qau [g14,g13] Wr W)∧(Ext w W)) (fun (s1:Nat)=>64-s1) 0 ⟨rfl,rfl,rfl,rfl,trivial⟩ ⟨(Nat.zero_le _),(by omega),q12,qO,(Qau.refl [g14,g13] Wr),xx⟩ fun s1 X1 V1 hI1=>?_
  obtain ⟨j,hs1⟩:∃ z,z=s1:=⟨_,rfl⟩
  subst hs1
  obtain ⟨hj,hmj,q503_1,q501_1,kk1,xx1⟩:=hI1
  replace hj:j≤64:=hj
  replace hmj:64*pre.length+j≤text.length:=hmj
  replace q503_1:V1.heap[g14]? = some (.cells (#[.slice (some ⟨g13,0,none⟩) (64*pre.length+j) text.length]) 24):=q503_1
  replace q501_1:V1.heap[g13]? = some (.cells (ints .u8 (QbW (mxv text (Qbb key nonce) number (pg (pre++[x])) text.length) text.length (64*pre.length+j))) 5):=q501_1
  replace kk1:Qau [g14,g13] Wr V1:=kk1
  replace xx1:Ext w V1:=xx1
  have q1:=kk1
  refine wpIn_seq_k fun K506 hK506=>Qbs <| QbJ (.bool (decide (((j:Nat):Int)<64))) 45 rfl (QaU l 1 _) rfl kj kj <| Qdp <| hK506 _ _ <| wpIn_seq_k fun K507 hK507=>QdK (t:=decide (((j:Nat):Int)<64)) kj (fun c508=>?_) (fun c508=>?_)
  ·skip
   have hlt45:j<64:=by have:=of_decide_eq_true c508; omega
   refine wpIn_skip <| hK507 _ _ <| wpIn_seq_k fun K509 hK509=>wpIn_block <| wpIn_seq_k fun K510 hK510=>Qbs <| QbJ (.int .u8 (nth (Qbu (Qbb key nonce) (number+((x:Nat):Int))) j)) 46 rfl (QaU l 1 _) rfl kj (Qa7 98 _ _ .i64 .u8 (Qbu (Qbb key nonce) (number+((x:Nat):Int))) j 64 5 (nth (Qbu (Qbb key nonce) (number+((x:Nat):Int))) j) rfl kj kj kj kj kj (QbU _ _) (by omega) rfl) <| QbJ (.int .u8 (nth (Qbu (Qbb key nonce) (number+((x:Nat):Int))) j)) 16 rfl (QaU l 1 _) rfl kj kj <| Qdp <| hK510 _ _ ?_
   refine wpIn_seq_k fun K511 hK511=>wpIn_seq_k fun K512 hK512=>Qbs <| QbJ (.slice (some ⟨g13,0,none⟩) (64*pre.length+j) text.length) 47 rfl (QaU l 1 _) rfl kj (Qak 24 _ g14 0 24 _ (.slice (some ⟨g13,0,none⟩) (64*pre.length+j) text.length) _ q503_1 rfl kj kj kj) <| QbJ (.int .i64 ((64*pre.length+j:Nat):Int)) 48 rfl (QaU l 1 _) rfl kj kj ?_
   have r502_1:=(Qau.row q1 q7 (Qba nb712 (Qba nb7O Qbm)))
   refine QbJ (.slice a_t text.length c_t) 49 rfl (QaU l 1 _) rfl kj (Qak 24 _ g5 0 24 _ (.slice a_t text.length c_t) _ r502_1 rfl kj kj kj) <| QbJ (.int .i64 ((text.length:Nat):Int)) 50 rfl (QaU l 1 _) rfl kj kj <| QbJ (.bool ((((64*pre.length+j:Nat):Int)==((text.length:Nat):Int)))) 51 rfl (QaU l 1 _) rfl kj kj <| Qdp <| hK512 _ _ <| QdK (t:=(((64*pre.length+j:Nat):Int)==((text.length:Nat):Int))) kj (fun c513=>?_) (fun c513=>?_)
   ·skip
    have hmn:64*pre.length+j=text.length:=by have:=eq_of_beq c513; omega
    refine wpIn_exit ?_
    repeat (first | with_reducible refine goX1 ?_ | with_reducible refine goXj (by decide) ?_)
    have hq12:=q503_1
    have hqO:=q501_1
    rw [hmn] at hq12 hqO
    exact ⟨(Qfu q1 (fun c hc=>by simp only [List.mem_cons,List.not_mem_nil,or_false] at hc; rcases hc with rfl | rfl; exact ⟨_,_,q12⟩; exact ⟨_,_,qO⟩)),⟨rfl,by rw [hl1]; omega,hq12,hqO⟩,xx1⟩
   ·skip
    have hmn:64*pre.length+j<text.length:=by
     rcases Nat.lt_or_ge (64*pre.length+j) text.length with hh | hh
     ·exact hh
     ·exfalso; have e:(((64*pre.length+j:Nat):Int)==((text.length:Nat):Int))=true:=by rw [beq_iff_eq]; omega
      rw [e] at c513; cases c513
    obtain ⟨gt,ot,hat,-,hlt_,hct⟩:=Qfr (RdK.ext ht xx1) (by omega)
    refine wpIn_skip <| hK511 _ _ <| Qk5 9 [⟨none,[(12,none)]⟩,⟨none,[(7,none)]⟩,⟨none,[(12,none)]⟩,⟨none,[(54,some 2)]⟩,⟨none,[(53,some 1),(55,some 3)]⟩,⟨none,[(56,some 4)]⟩,⟨none,[(16,none)]⟩,⟨none,[(57,some 5),(58,some 6)]⟩,⟨none,[(59,some 7)]⟩] (QaU l 1 _) rfl kj kj fun F hF=>Qc8 (Qaq _) (.slice (some ⟨g13,0,none⟩) (64*pre.length+j) text.length) kj kj (fun W hR=>(Qak 24 _ g14 0 24 _ (.slice (some ⟨g13,0,none⟩) (64*pre.length+j) text.length) _ (Qaa (Qaa q503_1 (Qai _)) hR) rfl kj kj kj)) <| Qc8 (Qaq _) (.slice a_t text.length c_t) kj kj (fun W hR=>(Qak 24 _ g5 0 24 _ (.slice a_t text.length c_t) _ (Qaa (Qaa r502_1 (Qai _)) hR) rfl kj kj kj)) <| Qc8 (Qaq _) (.slice (some ⟨g13,0,none⟩) (64*pre.length+j) text.length) kj kj (fun W hR=>(Qak 24 _ g14 0 24 _ (.slice (some ⟨g13,0,none⟩) (64*pre.length+j) text.length) _ (Qaa (Qaa q503_1 (Qai _)) hR) rfl kj kj kj)) <| QaL (Qaq _) (.int .i64 ((64*pre.length+j:Nat):Int)) kj kj (fun W=>by kernel_rfl) <| QaL (Qaq _) (.pointer (some ⟨gt,ot+(64*pre.length+j),none⟩)) kj kj (fun W=>(Qen 24 _ _ .i64 (64*pre.length+j) gt ot text.length c_t 5 a_t _ hat rfl rfl kj kj kj kj (Nat.lt_of_lt_of_eq (show 64*pre.length+j<text.length by omega) (rfl:text.length=text.length).symm))) <| Qc8 (Qaq _) (.int .u8 (nth (text) ((64*pre.length+j)))) kj kj (fun W hR=>(Qb1 5 _ _ (.int .u8 (nth (text) ((64*pre.length+j)))) ((Below.cell (Rely.Ext.trans (Qai _) hR) hlt_).trans (hct (64*pre.length+j) (Nat.lt_of_lt_of_eq (show 64*pre.length+j<text.length by omega) (rfl:text.length=text.length).symm))) rfl kj kj)) <| QaL (Qaq _) (.int .u8 (nth (Qbu (Qbb key nonce) (number+((x:Nat):Int))) j)) kj kj (fun W=>by kernel_rfl) ?_
    refine QaL (Qaq _) (.int .u8 (bits .xor .u8 ((nth (text) ((64*pre.length+j)))) ((nth (Qbu (Qbb key nonce) (number+((x:Nat):Int))) j)))) kj kj (fun W=>by kernel_rfl) <| QnW (Qaq _) (ints .u8 ([(bits .xor .u8 ((nth (text) ((64*pre.length+j)))) ((nth (Qbu (Qbb key nonce) (number+((x:Nat):Int))) j)))])) 5 1 (NewS.stable _ _ _ _) kj kj (fun W=>by kernel_rfl) <| QdN (hF _ fun W2 e2=>?_)
    simp only [List.nil_append,List.cons_append,List.take_succ_cons,List.take_zero,List.drop_succ_cons,List.drop_zero,finE,up]
    intro vv514 hv514
    clear hF
    have x2:=Ext.tr xx1 e2
    obtain ⟨g514,rfl,l514,r514_2⟩:=hv514
    have b514:=qT xx1.size l514
    have r501_2:=(Qaa q501_1 e2)
    refine QoP (.slice (some ⟨g13,0,none⟩) (64*pre.length+j+1) text.length) 61 rfl (QaU l 1 _) rfl kj r501_2 (QhQ (k:=.u8) (b:=1) (.tmp 52) (.tmp 60) 24 rfl kj kj kj kj r501_2 (Qdr _ _ _ (Qe5 _ _ _ _ _) (by omega)) (by omega) r514_2) fun W3 p3 r501_3=>?_
    have x3:=Puts.ext p3 x2 b13
    have r501_3_515:W3.heap[g13]? = some (.cells (ints .u8 (QbW (mxv text (Qbb key nonce) number (pg (pre++[x])) text.length) text.length (64*pre.length+(j+1)))) 5):=QaC r501_3 (by rw [←QpF text (Qbb key nonce) number pre x text.length j hlt45 hmn]; exact QcL _ text.length (64*pre.length+j) (Qe5 _ _ _ _ _) hmn)
    have r503_3:=(Puts.row p3 (Qaa q503_1 e2) nb12O)
    refine QfC g14 _ (#[.slice (some ⟨g13,0,none⟩) (64*pre.length+j+1) text.length]) 24 r503_3 rfl (QaU l 1 _) rfl kj (QbP 24 _ _ g14 0 24 _ (.slice (some ⟨g13,0,none⟩) (64*pre.length+j+1) text.length) r503_3 rfl kj kj kj kj kj rfl) fun W4 p4 r503_4=>?_
    have x4:=Puts.ext p4 x3 b14
    refine Qdp <| hK509 _ _ <| Qbs <| QbJ (.int .i64 ((j+1:Nat):Int)) 62 rfl (QaU l 1 _) rfl kj (Qal (u:=.int .i64 (IntKind.i64.wrap (((j:Nat):Int)+1))) kj (congrArg (Value.int .i64) (i64n _ _ (by omega) (by omega)))) <| QbJ (.int .i64 ((j+1:Nat):Int)) 44 rfl (QaU l 1 _) rfl kj kj <| Qdp ?_
    repeat (first | with_reducible refine goX1 ?_ | with_reducible refine goX2 ?_ | with_reducible refine goX3 ?_)
    exact QaG (j+1) ⟨kj,kj,kj,kj,trivial⟩ ⟨(by omega),(by omega),r503_4,(Puts.row p4 r501_3_515 nbO12),(Qau.puts (Qau.puts (Qau.step q1 e2) p3 (.inl (by simp))) p4 (.inl (by simp))),x4⟩ (by show 64-(j+1)<64-j; omega)
  ·skip
   have heq45:j=64:=by have:=of_decide_eq_false c508; omega
   refine wpIn_exit ?_
   subst heq45
   repeat (first | with_reducible refine goX1 ?_ | with_reducible refine goX2 ?_ | with_reducible refine goX3 ?_)
   have r502_1:=(Qau.row q1 q7 (Qba nb712 (Qba nb7O Qbm)))
   exact ⟨(Qfu q1 (fun c hc=>by simp only [List.mem_cons,List.not_mem_nil,or_false] at hc; rcases hc with rfl | rfl; exact ⟨_,_,q12⟩; exact ⟨_,_,qO⟩)),(QbS.keeps q1),⟨r502_1,by rw [hl1,Nat.mul_add]; exact q503_1,by rw [hl1,Nat.mul_add]; exact q501_1,by rw [hl1]; omega,qT hsz (qT (qR _) (Qau.size q1))⟩,xx1⟩
 ·obtain ⟨⟨-,q12,qO,hml,-⟩,xx⟩:=hI
  subst hS
  rw [List.length_range] at q12 qO hml
  have hge:text.length≤64*r:=by omega
  have hee:64*r=text.length:=by omega
  rw [hee] at q12 qO
  have qO2:=QaC (QaC qO (Qc3 _ _ (Qe5 _ _ _ _ _))) (Ql5 text (Qbb key nonce) number r hge)
  have bD:w.heap.size≤D:=qT x7.size lD
  refine hK16 _ _ <| sgC fun K20 hK20=>Qad (.slice (some ⟨g13,0,none⟩) text.length text.length) 63 rfl kj (Qak 24 _ g14 0 24 _ (.slice (some ⟨g13,0,none⟩) text.length text.length) _ q12 rfl kj kj kj) <| sg 2 kj <| sgN hK20 <| wp_ret ?_
  repeat (first | with_reducible refine goR1 ?_ | with_reducible refine goR2 ?_)
  exact (show bodyPostM _ _ _ _ _ .ret _ _ from Qop (.slice (some ⟨g13,0,none⟩) text.length text.length) (.nilIface) rfl rD (QaM kj) (QaM kj) ⟨_,rfl,Qf9 xx bD rD _,_,rfl,Qdy (Qcg _ _ _) b13 (Qf8 qO2 rD _) (by simp only [maxLen]; omega)⟩)
 ·obtain ⟨⟨rfl,hge,q12,qO⟩,xx⟩:=hIx
  obtain ⟨kR,rfl,-⟩:=hSp
  rw [List.length_range] at hge
  have qO2:=QaC (QaC qO (Qc3 _ _ (Qe5 _ _ _ _ _))) (Ql5 text (Qbb key nonce) number kR hge)
  have bD:w.heap.size≤D:=qT x7.size lD
  refine wp_exit <| hK16 _ _ <| sgC fun K22 hK22=>Qad (.slice (some ⟨g13,0,none⟩) text.length text.length) 63 rfl kj (Qak 24 _ g14 0 24 _ (.slice (some ⟨g13,0,none⟩) text.length text.length) _ q12 rfl kj kj kj) <| sg 2 kj <| sgN hK22 <| wp_ret ?_
  repeat (first | with_reducible refine goR1 ?_ | with_reducible refine goR2 ?_)
  exact (show bodyPostM _ _ _ _ _ .ret _ _ from Qop (.slice (some ⟨g13,0,none⟩) text.length text.length) (.nilIface) rfl rD (QaM kj) (QaM kj) ⟨_,rfl,Qf9 xx bD rD _,_,rfl,Qdy (Qcg _ _ _) b13 (Qf8 qO2 rD _) (by simp only [maxLen]; omega)⟩)
end Go.Proofs.YtmljnchhgkfemaaDoor.Cha
end
section
namespace Go.Proofs.YtmljnchhgkfemaaDoor.Cha
open Go Go.RowKit
open Rely Auto Own Sha
open Sha
theorem Qmq (x y:Int):bits .xor .u8 x y=(((BitVec.ofInt 8 x)^^^(BitVec.ofInt 8 y)).toNat:Int):=by
  have h:bits .xor .u8 x y=IntKind.u8.wrap (((BitVec.ofInt 8 x)^^^(BitVec.ofInt 8 y)).toNat:Int):=rfl
  have h3:∀ z:Int,IntKind.u8.wrap z=z%256:=fun _=>rfl
  rw [h,h3]
  have:=((BitVec.ofInt 8 x)^^^(BitVec.ofInt 8 y)).isLt
  omega
theorem Qfl (a b:Int) (h0:0≤a) (h1:a≤255):bits .xor .u8 (bits .xor .u8 a b) b=a:=by
  rw [Qmq,Qmq]
  have e:BitVec.ofInt 8 (((BitVec.ofInt 8 a)^^^(BitVec.ofInt 8 b)).toNat:Int)=(BitVec.ofInt 8 a)^^^(BitVec.ofInt 8 b):=by
    apply BitVec.eq_of_toNat_eq
    rw [BitVec.toNat_ofInt]
    have:=((BitVec.ofInt 8 a)^^^(BitVec.ofInt 8 b)).isLt
    omega
  rw [e,BitVec.xor_assoc,BitVec.xor_self,BitVec.xor_zero,BitVec.toNat_ofInt]
  omega
theorem QgA (ws : List Wd) (num:Int) (text:List Int):Qag (mixV ws num text):=fun n hn=>by
  unfold mixV mxv at hn
  obtain ⟨i,-,rfl⟩:=List.mem_map.1 hn
  rw [Qmq]
  have:=((BitVec.ofInt 8 (nth text i))^^^(BitVec.ofInt 8 (nth (Qbu ws (num+((id (i/64):Nat):Int))) (i%64)))).isLt
  omega
theorem QjA (ws : List Wd) (num:Int) (text:List Int) (i:Nat) (h:i<text.length):nth (mixV ws num text) i=bits .xor .u8 (nth text i) (nth (Qbu ws (num+((i/64:Nat):Int))) (i%64)):=Ql4 text ws num id text.length i h
theorem QoA {xs ys:List Int} (hl:xs.length=ys.length) (h:∀ i,i<xs.length→nth xs i=nth ys i):xs=ys:=by
  apply List.ext_getElem? 
  intro i
  rcases Nat.lt_or_ge i xs.length with hi | hi
  · have h1:=h i hi
    unfold nth at h1
    rw [List.getD_eq_getElem?_getD,List.getD_eq_getElem?_getD,List.getElem?_eq_getElem hi,List.getElem?_eq_getElem (by omega)] at h1
    rw [List.getElem?_eq_getElem hi,List.getElem?_eq_getElem (by omega)]
    exact congrArg some h1
  · rw [List.getElem?_eq_none hi,List.getElem?_eq_none (by omega)]
theorem QoH (ws : List Wd) (num:Int) (text:List Int) (hb:Qag text):mixV ws num (mixV ws num text)=text:=by
  refine QoA (by rw [Qcg,Qcg]) fun i hi=>?_
  rw [Qcg,Qcg] at hi
  rw [QjA _ _ _ _ (by rw [Qcg]; exact hi),QjA _ _ _ _ hi]
  have h:=Qbi hb i
  exact Qfl _ _ (by omega) (by omega)
theorem Qho (xs : List Int) (k i:Nat) (h:i<k):nth (xs.take k) i=nth xs i:=by
  unfold nth; rw [List.getD_eq_getElem?_getD,List.getD_eq_getElem?_getD,List.getElem?_take,if_pos h]
theorem Qj6 (xs : List Int) (k i:Nat):nth (xs.drop k) i=nth xs (k+i):=by
  unfold nth; rw [List.getD_eq_getElem?_getD,List.getD_eq_getElem?_getD,List.getElem?_drop]
def MixR (base : Nat) (xs:List Int):Value→World→Prop:=fun v W=>∃ u,v=.tuple #[u,.nilIface]∧OwnN .u8 5 base xs u W
theorem Qe6 (base : Nat) (xs:List Int):QbF Ext (MixR base xs):=fun _ _ _ hR ⟨u,e,h⟩=>⟨u,e,h.ext hR⟩
theorem MixG (n0 : Nat) (key nonce text:List Int) (v v2:Value) (B B2:Nat) (number:Int) (th tq:TypeId) (w:World) (hh:w.heap[2]? = some (.cells (ints .u32 qH) th)) (hq:w.heap[3]? = some (.cells (ints .i64 qQ) tq)) (hkl:key.length=32) (hn:RdK .u8 B nonce v w) (ht:RdK .u8 B2 text v2 w) (h:nonce.length=12) (r:Nat) (hr:number+(r:Int)=4294967296) (h1:0≤number) (h2:number≤4294967295) (hfit:text.length≤64*r) (htl:text.length≤2000000) (hn0:n0≤w.heap.size) :
    Calls Tryd.prog 30 #[.agg (ints .u8 key),v,.int .i64 number,v2] w (QcB w (MixR n0 (mixV (Qbb key nonce) number text))) :=
  (QqN key nonce text v v2 B B2 number th tq w hh hq hkl hn ht h r hr h1 h2 hfit htl).mono fun e W' hg=>by
    obtain ⟨v',e1,e2,u,e3,e4⟩:=hg
    exact ⟨v',e1,e2,u,e3,e4.base hn0⟩
end Go.Proofs.YtmljnchhgkfemaaDoor.Cha
end
section
namespace Go.Proofs.YtmljnchhgkfemaaDoor.Ae
open Go Go.RowKit
open Rely Auto Own Sha Cha
def lev : List Int→Int
  | []=>0
  | a::t=>a+256*lev t
def p256 (n : Nat):Int:=256^n
theorem QnQ : p256 0=1:=rfl
theorem QeJ (n : Nat):p256 (n+1)=256*p256 n:=by unfold p256; rw [Int.pow_succ,Int.mul_comm]
theorem Qeq (m n:Nat):p256 (m+n)=p256 m*p256 n:=by unfold p256; rw [Int.pow_add]
theorem QdI (n : Nat):0<p256 n:=Int.pow_pos (by decide)
theorem Qhv : ∀ (xs:List Int) (x:Int),lev (xs++[x])=lev xs+x*p256 xs.length
  | [],x=>by simp [lev,QnQ]
  | a::t,x=>by
    rw [List.cons_append,lev,Qhv t x,lev,List.length_cons,QeJ]
    grind
theorem Qd7 : ∀ {xs:List Int},Qag xs→0≤lev xs
  | [],_=>by simp [lev]
  | a::t,h=>by
    have h1:=h a (List.mem_cons_self ..)
    have h2:=Qd7 (xs:=t) fun x hx=>h x (List.mem_cons_of_mem _ hx)
    rw [lev]; omega
theorem Qio : ∀ {xs:List Int},Qag xs→lev xs<p256 xs.length
  | [],_=>by simp [lev,QnQ]
  | a::t,h=>by
    have h1:=h a (List.mem_cons_self ..)
    have h2:=Qio (xs:=t) fun x hx=>h x (List.mem_cons_of_mem _ hx)
    rw [lev,List.length_cons,QeJ]; omega
theorem QeK (xs : List Int) (i:Nat) (h:i<xs.length):lev (xs.take (i+1))=lev (xs.take i)+nth xs i*p256 i:=by
  have e:xs.take (i+1)=xs.take i++[nth xs i]:=by
    rw [List.take_add_one,List.getElem?_eq_getElem h]
    simp [nth,h]
  rw [e,Qhv,List.length_take,Nat.min_eq_left (by omega)]
theorem bytes_app {a b:List Int} (ha:Qag a) (hb:Qag b):Qag (a++b):=fun x hx=>by
  rcases List.mem_append.1 hx with h | h
  · exact ha x h
  · exact hb x h
theorem Qbd {a : List Int} (ha:Qag a) (n:Nat):Qag (a.take n):=fun x hx=>ha x (List.mem_of_mem_take hx)
theorem Qb9 {a : List Int} (ha:Qag a) (n:Nat):Qag (a.drop n):=fun x hx=>ha x (List.mem_of_mem_drop hx)
theorem Qcb {a : List Int} (ha:Qag a) (n:Nat) {x:Int} (h0:0≤x) (h1:x≤255):Qag (a.set n x):=fun y hy=>by
  rcases List.mem_or_eq_of_mem_set hy with h | h
  · exact ha y h
  · subst h; exact ⟨h0,h1⟩
def PP : Int:=1361129467683753853853498429727072845819
def QdW (r : Int) (t:List Int):Nat→Int
  | 0=>0
  | n+1=>(QdW r t n+lev (((t.drop (16*n)).take 16)++[1]))*r%PP
def Qe4 (r : Int) (t:List Int):Int:=QdW r t ((t.length+15)/16)
def by16 (v : Int):List Int:=(List.range 16).map fun i=>v/p256 i%256
def tagV (r s:Int) (t:List Int):List Int:=by16 (Qe4 r t+s)
theorem QaX (v : Int):(by16 v).length=16:=by simp [by16]
theorem QkB (v : Int):Qag (by16 v):=fun x hx=>by
  obtain ⟨i,-,rfl⟩:=List.mem_map.1 hx
  omega
theorem Qn8 (v : Int) (i:Nat) (h:i<16):nth (by16 v) i=v/p256 i%256:=by
  unfold nth by16
  rw [List.getD_eq_getElem?_getD,List.getElem?_map,List.getElem?_range h]; rfl
end Go.Proofs.YtmljnchhgkfemaaDoor.Ae
end
section
namespace Go.Proofs.YtmljnchhgkfemaaDoor.Ae
open Go Go.RowKit
open Rely Auto Own Sha
open Sha Cha
theorem QfN (b : List Int) (i:Nat) (h:i<b.length):b.take (i+1)=b.take i++[nth b i]:=by
  rw [List.take_add_one,List.getElem?_eq_getElem h]
  simp [nth,h]
theorem p16 : p256 16=340282366920938463463374607431768211456:=by decide +kernel
theorem Qlm {k : IntKind} {T:TypeId} {g n l h:Nat} {xs:List Int} {W:World} (hn:xs.length=n) (r:W.heap[g]? = some (.cells (ints k xs) T)) (h1:l≤h) (h2:h≤n) (h3:n≤maxLen):RdK k W.heap.size ((xs.drop l).take (h-l)) (.slice (some ⟨g,l,none⟩) (h-l) (n-l)) W :=
  QiG l (by rw [List.length_take,List.length_drop]; omega) r (fun i hi=>by rw [Qho _ _ _ hi,Qj6]; exact Qar k xs (l+i) (by omega)) (Qa4 r) (by omega) (by omega)
def Qfy (b : List Int):List Int :=
  let b1:=b.set 3 (nth b 3%16)
  let b2:=b1.set 7 (nth b1 7%16)
  let b3:=b2.set 11 (nth b2 11%16)
  let b4:=b3.set 15 (nth b3 15%16)
  let b5:=b4.set 4 (nth b4 4/4*4)
  let b6:=b5.set 8 (nth b5 8/4*4)
  b6.set 12 (nth b6 12/4*4)
def rOf (key : List Int):Int:=lev (Qfy ((key.drop 0).take (16-0)))
def sOf (key : List Int):Int:=lev ((key.drop 16).take (32-16))
theorem Qgz {x c r q y:Int} (h:x%PP=q) (hy:y%PP=(x+c)*r%PP):y%PP=(q+c)*r%PP:=by
  rw [hy,←h,Int.mul_emod (x+c),Int.add_emod x c,Int.mul_emod (x%PP+c),Int.add_emod (x%PP) c,Int.emod_emod_of_dvd x (Int.dvd_refl PP)]
end Go.Proofs.YtmljnchhgkfemaaDoor.Ae
end
section
namespace Go.Proofs.YtmljnchhgkfemaaDoor.Ae
open Go Go.RowKit
open Rely Auto Own Sha
open Sha Cha
def isW (x : Int):Prop:=0≤x∧x<18446744073709551616
theorem add64 (x y c:Int) (hx:isW x) (hy:isW y) (hc:0≤c∧c≤1) :
    ∃ s d:Int,isW s∧(0≤d∧d≤1)∧s+18446744073709551616*d=x+y+c ∧
      ∀ W,(callFunc 65 #[.int .u64 x,.int .u64 y,.int .u64 c]).run Tryd.prog W=.ok (.value (.tuple #[.int .u64 s,.int .u64 d])) W:=by
  unfold isW at hx hy
  refine ⟨(x+y+c)%18446744073709551616,(x+y+c)/18446744073709551616,⟨by omega,by omega⟩,by omega,by omega,fun W=>?_⟩
  rw [run_callFunc_extern Tryd.func65 kj kj kj (e:=add64Entry) kj,run_add64 x y c hx.1 hy.1 hc.1 hc.2]
  rfl
theorem maskN (a : Int) (h:isW a):bits .and .u64 a 4294967295=a%4294967296:=by
  obtain ⟨A,rfl⟩:=Int.eq_ofNat_of_zero_le h.1
  have h:=bits_and_u64_nat A 4294967295 (by have:=h.2; omega) (by omega)
  have e:A&&&4294967295=A%4294967296:=Nat.and_two_pow_sub_one_eq_mod A 32
  rw [e] at h
  exact h
theorem wrap64 (a : Int) (h:isW a):IntKind.u64.wrap a=a:=by rw [IntKind.wrap_u64]; have:=h.1; have:=h.2; omega
theorem mul64 (x y:Int) (hx:isW x) (hy:isW y) :
    ∃ hi lo:Int,isW hi∧isW lo∧lo+18446744073709551616*hi=x*y∧∀ w,Calls Tryd.prog 80 #[.int .u64 x,.int .u64 y] w (fun e w'=>e=.returned (.tuple #[.int .u64 hi,.int .u64 lo])∧w'=w):=by
  obtain ⟨X,rfl⟩:=Int.eq_ofNat_of_zero_le hx.1
  obtain ⟨Y,rfl⟩:=Int.eq_ofNat_of_zero_le hy.1
  have hX:X<18446744073709551616:=by have:=hx.2; omega
  have hY:Y<18446744073709551616:=by have:=hy.2; omega
  have hXY:X*Y<18446744073709551616*18446744073709551616:=Nat.mul_lt_mul'' hX hY
  refine ⟨((X*Y/18446744073709551616:Nat):Int),((X*Y%18446744073709551616:Nat):Int),⟨by omega,by omega⟩,⟨by omega,by omega⟩,?_,fun w=>?_⟩
  · rw [←Int.natCast_mul]; omega
  obtain ⟨bd,bt,bw,hhi⟩:=Lib.mul64_hi X Y hX hY
  have ba:=Lib.half_mul_le (a:=X/4294967296) (b:=Y/4294967296) (by omega) (by omega)
  have bb:=Lib.half_mul_le (a:=X/4294967296) (b:=Y%4294967296) (by omega) (by omega)
  have bc:=Lib.half_mul_le (a:=X%4294967296) (b:=Y/4294967296) (by omega) (by omega)
  have ba':X/4294967296*(Y/4294967296)<18446744073709551616:=by omega
  have bb':X/4294967296*(Y%4294967296)<18446744073709551616:=by omega
  have bc':X%4294967296*(Y/4294967296)<18446744073709551616:=by omega
  have bh1:X/4294967296*(Y/4294967296)+(X/4294967296*(Y%4294967296)+X%4294967296*(Y%4294967296)/4294967296)/4294967296<18446744073709551616:=by omega
  have bh:X/4294967296*(Y/4294967296)+(X/4294967296*(Y%4294967296)+X%4294967296*(Y%4294967296)/4294967296)/4294967296+((X/4294967296*(Y%4294967296)+X%4294967296*(Y%4294967296)/4294967296)%4294967296+X%4294967296*(Y/4294967296))/4294967296<18446744073709551616:=by omega
  go_enter Tryd.func80,Tryd.ntmps80
  go_wp2
  simp only [Mul64.maskN X hX,Mul64.maskN Y hY,Mul64.divN,Mul64.mulN,Mul64.addN,Mul64.wrapN _ bd,Mul64.wrapN _ bb',Mul64.wrapN _ bt,Mul64.maskN _ bt,Mul64.wrapN _ bc',Mul64.wrapN _ bw,Mul64.wrapN _ ba',Mul64.wrapN _ bh1,Mul64.wrapN _ bh,Mul64.wrapM (X*Y)]
  rw [hhi]
  go_ret2
  exact ⟨rfl,rfl⟩
theorem zero_isW : isW 0:=⟨by decide,by decide⟩
def nw3 (v : Int):List Int:=[v%18446744073709551616,v/18446744073709551616%18446744073709551616,v/340282366920938463463374607431768211456%18446744073709551616]
theorem QnS {a b c v:Int} (ha:isW a) (hb:isW b) (hc:isW c) (h:a+18446744073709551616*b+340282366920938463463374607431768211456*c=v):[a,b,c]=nw3 v:=by
  obtain ⟨a0,a1⟩:=ha
  obtain ⟨b0,b1⟩:=hb
  obtain ⟨c0,c1⟩:=hc
  subst h
  unfold nw3
  have e1:(a+18446744073709551616*b+340282366920938463463374607431768211456*c)%18446744073709551616=a:=by omega
  have e2:(a+18446744073709551616*b+340282366920938463463374607431768211456*c)/18446744073709551616%18446744073709551616=b:=by omega
  have e3:(a+18446744073709551616*b+340282366920938463463374607431768211456*c)/340282366920938463463374607431768211456%18446744073709551616=c:=by omega
  rw [e1,e2,e3]
theorem QcW (v : Int):isW (v%18446744073709551616):=⟨by omega,by omega⟩
theorem Qhn (v : Int) (h0:0≤v) (h:v<6277101735386680763835789423207666416102355444464034512896):v%18446744073709551616+18446744073709551616*(v/18446744073709551616%18446744073709551616)+340282366920938463463374607431768211456*(v/340282366920938463463374607431768211456%18446744073709551616)=v:=by omega
theorem Qo2 (t : Nat) (ht:t<8):0<p256 t∧256*p256 t≤18446744073709551616:=by
  have:∀ t:Fin 8,0<p256 t.1∧256*p256 t.1≤18446744073709551616:=by decide +kernel
  exact this ⟨t,ht⟩
theorem Qlz (u x:Int) (t:Nat) (h0:0≤u) (h1:u<p256 t) (hx:0≤x∧x<256) (ht:t<8):bits .or .u64 u (x*p256 t)=u+x*p256 t:=by
  obtain ⟨U,rfl⟩:=Int.eq_ofNat_of_zero_le h0
  obtain ⟨X,rfl⟩:=Int.eq_ofNat_of_zero_le hx.1
  obtain ⟨q0,q1⟩:=Qo2 t ht
  have e:p256 t=((2^(8*t):Nat):Int):=by unfold p256; rw [Nat.pow_mul]; simp
  have hX:X<256:=by omega
  rw [e] at h1 q0 q1 ⊢
  have hU:U<2^(8*t):=by omega
  have q2:256*2^(8*t)≤18446744073709551616:=by omega
  have hm:X*2^(8*t)+2^(8*t)≤18446744073709551616:=by
    have:(X+1)*2^(8*t)≤256*2^(8*t):=Nat.mul_le_mul_right _ hX
    rw [Nat.succ_mul] at this; omega
  rw [←Int.natCast_mul,bits_or_u64_nat U (X*2^(8*t)) (by omega) (by omega)]
  have h:=Nat.shiftLeft_add_eq_or_of_lt hU X
  rw [Nat.shiftLeft_eq] at h
  rw [Nat.or_comm,←h]
  rw [Int.natCast_add]; omega
theorem Qqx (x : Int) (t:Nat) (c:Int) (hc:c=((8*t:Nat):Int)) (hx:0≤x∧x<256) (ht:t<8):IntKind.u64.wrap (x*2^min c.toNat IntKind.u64.bits)=x*p256 t:=by
  subst hc
  have hm:min (((8*t:Nat):Int)).toNat IntKind.u64.bits=8*t:=by show min (((8*t:Nat):Int)).toNat 64=8*t; omega
  have e:(2:Int)^(8*t)=p256 t:=by unfold p256; rw [Int.pow_mul]; rfl
  obtain ⟨q0,q1⟩:=Qo2 t ht
  rw [hm,e]
  have h1:0≤x*p256 t:=Int.mul_nonneg hx.1 (by omega)
  have h2:x*p256 t≤255*p256 t:=Int.mul_le_mul_of_nonneg_right (by omega) (by omega)
  exact wrap64 _ ⟨h1,by omega⟩
theorem Qkb (v x:Int) (i:Nat) (hi:i<24) (h0:0≤v) (h1:v<p256 i) (hx:0≤x∧x<256) :
    bits .or .u64 (nth (nw3 v) (i/8)) (x*p256 (i%8))=nth (nw3 (v+x*p256 i)) (i/8)∧(nw3 v).set (i/8) (nth (nw3 (v+x*p256 i)) (i/8))=nw3 (v+x*p256 i):=by
  obtain ⟨t,et⟩:∃ t,t=i%8:=⟨_,rfl⟩
  have ht:t<8:=by omega
  obtain ⟨q0,q1⟩:=Qo2 t ht
  obtain ⟨z,ez⟩:∃ z,z=x*p256 t:=⟨_,rfl⟩
  have hz0:0≤z:=by rw [ez]; exact Int.mul_nonneg hx.1 (by omega)
  have hz1:z≤255*p256 t:=by rw [ez]; exact Int.mul_le_mul_of_nonneg_right (by omega) (by omega)
  rw [←et]
  have hp8:p256 8=18446744073709551616:=by decide +kernel
  have hp16:p256 16=340282366920938463463374607431768211456:=p16
  rcases (show i=t∨i=8+t∨i=16+t by omega) with e | e | e
  · have hd:i/8=0:=by omega
    have hv:v<p256 t:=by rw [e] at h1; exact h1
    have hxp:x*p256 i=z:=by rw [e,ez]
    rw [hd,hxp]
    have e1:nth (nw3 v) 0=v:=by show v%_=v; omega
    have e2:nth (nw3 (v+z)) 0=v+z:=by show (v+z)%_=v+z; omega
    rw [e1,e2]
    refine ⟨by rw [Qlz v x t h0 hv hx ht,ez],?_⟩
    show [v+z,v/18446744073709551616%18446744073709551616,v/340282366920938463463374607431768211456%18446744073709551616]=[(v+z)%18446744073709551616,(v+z)/18446744073709551616%18446744073709551616,(v+z)/340282366920938463463374607431768211456%18446744073709551616]
    congr 1
    · omega
    · congr 1
      · omega
      · congr 1; omega
  · have hd:i/8=1:=by omega
    have hpi:p256 i=18446744073709551616*p256 t:=by rw [e,Qeq,hp8]
    have hv:v<18446744073709551616*p256 t:=by rw [hpi] at h1; exact h1
    have hxp:x*p256 i=18446744073709551616*z:=by rw [hpi,ez]; grind
    rw [hd,hxp]
    have e1:nth (nw3 v) 1=v/18446744073709551616:=by show v/_%_=v/_; omega
    have e2:nth (nw3 (v+18446744073709551616*z)) 1=v/18446744073709551616+z:=by show (v+_*z)/_%_=_; omega
    rw [e1,e2]
    refine ⟨by rw [Qlz (v/18446744073709551616) x t (by omega) (by omega) hx ht,ez],?_⟩
    show [v%18446744073709551616,v/18446744073709551616+z,v/340282366920938463463374607431768211456%18446744073709551616]=[(v+18446744073709551616*z)%18446744073709551616,(v+18446744073709551616*z)/18446744073709551616%18446744073709551616,(v+18446744073709551616*z)/340282366920938463463374607431768211456%18446744073709551616]
    congr 1
    · omega
    · congr 1
      · omega
      · congr 1; omega
  · have hd:i/8=2:=by omega
    have hpi:p256 i=340282366920938463463374607431768211456*p256 t:=by rw [e,Qeq,hp16]
    have hv:v<340282366920938463463374607431768211456*p256 t:=by rw [hpi] at h1; exact h1
    have hxp:x*p256 i=340282366920938463463374607431768211456*z:=by rw [hpi,ez]; grind
    rw [hd,hxp]
    have e1:nth (nw3 v) 2=v/340282366920938463463374607431768211456:=by show v/_%_=v/_; omega
    have e2:nth (nw3 (v+340282366920938463463374607431768211456*z)) 2=v/340282366920938463463374607431768211456+z:=by show (v+_*z)/_%_=_; omega
    rw [e1,e2]
    refine ⟨by rw [Qlz (v/340282366920938463463374607431768211456) x t (by omega) (by omega) hx ht,ez],?_⟩
    show [v%18446744073709551616,v/18446744073709551616%18446744073709551616,v/340282366920938463463374607431768211456+z]=[(v+340282366920938463463374607431768211456*z)%18446744073709551616,(v+340282366920938463463374607431768211456*z)/18446744073709551616%18446744073709551616,(v+340282366920938463463374607431768211456*z)/340282366920938463463374607431768211456%18446744073709551616]
    congr 1
    · omega
    · congr 1
      · omega
      · congr 1; omega
theorem Qa1 (v : Int):(nw3 v).length=3:=rfl
theorem Qq6 (m0_ m1_ m2_ n0_ n1_ n2_ v:Int) (hm0_:isW m0_) (hm1_:isW m1_) (hm2_:isW m2_) (hn0_:isW n0_) (hn1_:isW n1_) (hn2_:isW n2_) (hv:(m0_+18446744073709551616*m1_+340282366920938463463374607431768211456*m2_)+(n0_+18446744073709551616*n1_+340282366920938463463374607431768211456*n2_)=v) (hlt:v<6277101735386680763835789423207666416102355444464034512896) (w:World) :
    Calls Tryd.prog 88 #[.agg (ints .u64 [m0_,m1_,m2_]),.agg (ints .u64 [n0_,n1_,n2_])] w (Ret w (.agg (ints .u64 (nw3 v)))):=by
  refine enter 25 [(0,.agg (ints .u64 ([m0_,m1_,m2_]))),(1,.agg (ints .u64 ([n0_,n1_,n2_])))] Tryd.func88 rfl rfl kj rfl <| sgC fun K1 hK1=>Qaj (ints .u64 ([m0_,m1_,m2_])) 142 2 rfl kj kj fun g2 W1 l2 e1 r2_1=>?_
  have x1:=Ext.tr (Rely.Ext.refl w) e1
  have b2:=qT (Rely.Ext.refl w).size l2
  refine Qaj (ints .u64 ([n0_,n1_,n2_])) 142 3 rfl kj kj fun g3 W2 l3 e2 r3_2=>?_
  have x2:=Ext.tr x1 e2
  have b3:=qT x1.size l3
  refine Qaj (ints .u64 ([0,0,0])) 142 4 rfl kj kj fun g4 W3 l4 e3 r4_3=>sgN hK1 <| sgB kj <| wp_seq_k fun K6 hK6=>sgB kj <| wp_block <| wp_loop_rounds 4 ?_
  show Code.wp _ _ (Exit.then (Code.rounds _ _ _ 3) _) _ _
  refine sgB kj <| sgT kj <| wp_seq_k fun K10 hK10=>wp_block <| sgB kj <| Qcv (fun W=>True) [⟨none,[(6,none)]⟩,⟨none,[(6,none)]⟩,⟨none,[(2,none),(12,some 1)]⟩,⟨none,[(13,some 2)]⟩,⟨none,[(6,none)]⟩,⟨none,[(3,none),(15,some 4)]⟩,⟨none,[(16,some 5)]⟩,⟨none,[(5,none)]⟩,⟨none,[(14,some 3),(17,some 6),(18,some 7)]⟩,⟨none,[(19,some 8)]⟩,⟨none,[(10,some 9)]⟩,⟨none,[(10,some 9)]⟩,⟨none,[(2,none),(11,some 0)]⟩,⟨none,[(22,some 12),(20,some 10)]⟩,⟨none,[(21,some 11)]⟩] [] [11,14] kj kj kj (fun W hR=>trivial) fun F hF=>QaV (.int .i64 0) kj kj rfl (fun W=>by kernel_rfl) <| QaV (.int .i64 0) kj kj rfl (fun W=>by kernel_rfl) <| QaV (.pointer (some ⟨g2,0,none⟩)) kj kj rfl (fun W=>by kernel_rfl) ?_
  have r2_2:=(Qaa r2_1 e2)
  have r2_3:=(Qaa r2_2 e3)
  refine Qbv (.int .u64 m0_) kj kj kj rfl (fun W hR=>(Qak 52 _ g2 0 142 _ (.int .u64 m0_) _ (Qaa (Qaa r2_3 (Qai _)) hR) rfl kj kj kj)) <| QaV (.int .i64 0) kj kj rfl (fun W=>by kernel_rfl) <| QaV (.pointer (some ⟨g3,0,none⟩)) kj kj rfl (fun W=>by kernel_rfl) ?_
  have r3_3:=(Qaa r3_2 e3)
  refine Qbv (.int .u64 n0_) kj kj kj rfl (fun W hR=>(Qak 52 _ g3 0 142 _ (.int .u64 n0_) _ (Qaa (Qaa r3_3 (Qai _)) hR) rfl kj kj kj)) <| QaV (.int .u64 0) kj kj rfl (fun W=>by kernel_rfl) ?_
  obtain ⟨s1,d1,hs1,hd1,he1,ra1⟩:=add64 (m0_) (n0_) (0) hm0_ hn0_ ⟨by decide,by decide⟩
  refine QaV (.tuple #[.int .u64 (s1),.int .u64 (d1)]) kj kj rfl (fun W=>(Qbk (f:=65) (args:=#[.int .u64 m0_,.int .u64 n0_,.int .u64 0]) _ _ _ rfl kj kj (ra1 _))) <| QaV (.tuple #[.int .u64 (s1),.int .u64 (d1)]) kj kj rfl (fun W=>by kernel_rfl) <| QaV (.int .u64 (s1)) kj kj rfl (fun W=>by kernel_rfl) <| QaV (.int .u64 (d1)) kj kj rfl (fun W=>by kernel_rfl) <| QaV (.pointer (some ⟨g2,0,none⟩)) kj kj rfl (fun W=>by kernel_rfl) <| QbY rfl <| QaV (.int .u64 (d1)) kj kj rfl (fun W=>by kernel_rfl) <| QgV (hF _ kj fun W4 e4=>?_)
  simp only [List.nil_append,List.cons_append,fins,up]
  clear hF
  have r2_4:=(Qaa r2_3 e4)
  refine QbL _ g2 _ (ints .u64 ([(s1),m1_,m2_])) 142 r2_4 rfl (Qaw 52 _ _ g2 0 142 _ _ r2_4 rfl kj kj kj (show 0<3 by decide)) (fun W hp=>trivial) fun W5 p5 r2_5=>QeC <| hK10 _ _ <| sgA kj ?_
  show Code.rounds _ _ _ 3 _ _
  show Code.wp _ _ (Exit.then (Code.rounds _ _ _ 2) _) _ _
  refine sgB kj <| sgT kj <| wp_seq_k fun K14 hK14=>wp_block <| sgB kj <| Qcv (fun W=>True) [⟨none,[(6,none)]⟩,⟨none,[(6,none)]⟩,⟨none,[(2,none),(12,some 1)]⟩,⟨none,[(13,some 2)]⟩,⟨none,[(6,none)]⟩,⟨none,[(3,none),(15,some 4)]⟩,⟨none,[(16,some 5)]⟩,⟨none,[(5,none)]⟩,⟨none,[(14,some 3),(17,some 6),(18,some 7)]⟩,⟨none,[(19,some 8)]⟩,⟨none,[(10,some 9)]⟩,⟨none,[(10,some 9)]⟩,⟨none,[(2,none),(11,some 0)]⟩,⟨none,[(22,some 12),(20,some 10)]⟩,⟨none,[(21,some 11)]⟩] [] [11,14] kj kj kj (fun W hR=>trivial) fun F hF=>QaV (.int .i64 1) kj kj rfl (fun W=>by kernel_rfl) <| QaV (.int .i64 1) kj kj rfl (fun W=>by kernel_rfl) <| QaV (.pointer (some ⟨g2,1,none⟩)) kj kj rfl (fun W=>by kernel_rfl) <| Qbv (.int .u64 m1_) kj kj kj rfl (fun W hR=>(Qak 52 _ g2 1 142 _ (.int .u64 m1_) _ (Qaa (Qaa r2_5 (Qai _)) hR) rfl kj kj kj)) ?_
  refine QaV (.int .i64 1) kj kj rfl (fun W=>by kernel_rfl) <| QaV (.pointer (some ⟨g3,1,none⟩)) kj kj rfl (fun W=>by kernel_rfl) ?_
  have r3_5:=(Puts.row p5 (Qaa r3_3 e4) (Qav r2_1 l3))
  refine Qbv (.int .u64 n1_) kj kj kj rfl (fun W hR=>(Qak 52 _ g3 1 142 _ (.int .u64 n1_) _ (Qaa (Qaa r3_5 (Qai _)) hR) rfl kj kj kj)) <| QaV (.int .u64 (d1)) kj kj rfl (fun W=>by kernel_rfl) ?_
  obtain ⟨s2,d2,hs2,hd2,he2,ra2⟩:=add64 (m1_) (n1_) (d1) hm1_ hn1_ hd1
  refine QaV (.tuple #[.int .u64 (s2),.int .u64 (d2)]) kj kj rfl (fun W=>(Qbk (f:=65) (args:=#[.int .u64 m1_,.int .u64 n1_,.int .u64 (d1)]) _ _ _ rfl kj kj (ra2 _))) <| QaV (.tuple #[.int .u64 (s2),.int .u64 (d2)]) kj kj rfl (fun W=>by kernel_rfl) <| QaV (.int .u64 (s2)) kj kj rfl (fun W=>by kernel_rfl) <| QaV (.int .u64 (d2)) kj kj rfl (fun W=>by kernel_rfl) <| QaV (.pointer (some ⟨g2,1,none⟩)) kj kj rfl (fun W=>by kernel_rfl) <| QbY rfl <| QaV (.int .u64 (d2)) kj kj rfl (fun W=>by kernel_rfl) <| QgV (hF _ kj fun W6 e6=>?_)
  simp only [List.nil_append,List.cons_append,fins,up]
  clear hF
  have r2_6:=(Qaa r2_5 e6)
  refine QbL _ g2 _ (ints .u64 ([(s1),(s2),m2_])) 142 r2_6 rfl (Qaw 52 _ _ g2 1 142 _ _ r2_6 rfl kj kj kj (show 1<3 by decide)) (fun W hp=>trivial) fun W7 p7 r2_7=>QeC <| hK14 _ _ <| sgA kj ?_
  show Code.rounds _ _ _ 2 _ _
  show Code.wp _ _ (Exit.then (Code.rounds _ _ _ 1) _) _ _
  refine sgB kj <| sgT kj <| wp_seq_k fun K18 hK18=>wp_block <| sgB kj <| Qcv (fun W=>True) [⟨none,[(6,none)]⟩,⟨none,[(6,none)]⟩,⟨none,[(2,none),(12,some 1)]⟩,⟨none,[(13,some 2)]⟩,⟨none,[(6,none)]⟩,⟨none,[(3,none),(15,some 4)]⟩,⟨none,[(16,some 5)]⟩,⟨none,[(5,none)]⟩,⟨none,[(14,some 3),(17,some 6),(18,some 7)]⟩,⟨none,[(19,some 8)]⟩,⟨none,[(10,some 9)]⟩,⟨none,[(10,some 9)]⟩,⟨none,[(2,none),(11,some 0)]⟩,⟨none,[(22,some 12),(20,some 10)]⟩,⟨none,[(21,some 11)]⟩] [] [11,14] kj kj kj (fun W hR=>trivial) fun F hF=>QaV (.int .i64 2) kj kj rfl (fun W=>by kernel_rfl) <| QaV (.int .i64 2) kj kj rfl (fun W=>by kernel_rfl) <| QaV (.pointer (some ⟨g2,2,none⟩)) kj kj rfl (fun W=>by kernel_rfl) <| Qbv (.int .u64 m2_) kj kj kj rfl (fun W hR=>(Qak 52 _ g2 2 142 _ (.int .u64 m2_) _ (Qaa (Qaa r2_7 (Qai _)) hR) rfl kj kj kj)) ?_
  refine QaV (.int .i64 2) kj kj rfl (fun W=>by kernel_rfl) <| QaV (.pointer (some ⟨g3,2,none⟩)) kj kj rfl (fun W=>by kernel_rfl) <| Qbv (.int .u64 n2_) kj kj kj rfl (fun W hR=>(Qak 52 _ g3 2 142 _ (.int .u64 n2_) _ (Qaa (Qaa (Puts.row p7 (Qaa r3_5 e6) (Qav r2_1 l3)) (Qai _)) hR) rfl kj kj kj)) <| QaV (.int .u64 (d2)) kj kj rfl (fun W=>by kernel_rfl) ?_
  obtain ⟨s3,d3,hs3,hd3,he3,ra3⟩:=add64 (m2_) (n2_) (d2) hm2_ hn2_ hd2
  refine QaV (.tuple #[.int .u64 (s3),.int .u64 (d3)]) kj kj rfl (fun W=>(Qbk (f:=65) (args:=#[.int .u64 m2_,.int .u64 n2_,.int .u64 (d2)]) _ _ _ rfl kj kj (ra3 _))) <| QaV (.tuple #[.int .u64 (s3),.int .u64 (d3)]) kj kj rfl (fun W=>by kernel_rfl) <| QaV (.int .u64 (s3)) kj kj rfl (fun W=>by kernel_rfl) <| QaV (.int .u64 (d3)) kj kj rfl (fun W=>by kernel_rfl) <| QaV (.pointer (some ⟨g2,2,none⟩)) kj kj rfl (fun W=>by kernel_rfl) <| QbY rfl <| QaV (.int .u64 (d3)) kj kj rfl (fun W=>by kernel_rfl) <| QgV (hF _ kj fun W8 e8=>?_)
  simp only [List.nil_append,List.cons_append,fins,up]
  clear hF
  have r2_8:=(Qaa r2_7 e8)
  refine QbL _ g2 _ (ints .u64 ([(s1),(s2),(s3)])) 142 r2_8 rfl (Qaw 52 _ _ g2 2 142 _ _ r2_8 rfl kj kj kj (show 2<3 by decide)) (fun W hp=>trivial) fun W9 p9 r2_9=>QeC <| hK18 _ _ <| sgA kj ?_
  show Code.rounds _ _ _ 1 _ _
  show Code.wp _ _ (Exit.then (Code.rounds _ _ _ 0) _) _ _
  refine sgB kj <| wp_seq_k fun K21 hK21=>cond_false kj <| wp_exit <| hK6 _ _ <| sgC fun K22 hK22=>Qad (.agg (ints .u64 ([(s1),(s2),(s3)]))) 24 rfl kj (Qae 142 _ g2 142 _ _ r2_9 rfl kj kj (isz (n:=3) kj kj)) ?_
  have r4_9:=(Puts.row p9 (Qaa (Puts.row p7 (Qaa (Puts.row p5 (Qaa r4_3 e4) (Qav r2_2 l4)) e6) (Qav r2_2 l4)) e8) (Qav r2_2 l4))
  refine Qah g4 _ (ints .u64 ([(s1),(s2),(s3)])) 142 r4_9 rfl kj (Qaf 142 _ _ g4 142 _ _ r4_9 rfl kj kj (isz (n:=3) kj kj) (eqsz (n:=3) kj kj) (ints_one _ _)) fun W10 p10 r4_10=>sgN hK22 <| wp_ret ?_
  repeat (first | with_reducible refine goR1 ?_ | with_reducible refine goR2 ?_)
  exact (show bodyPost _ _ _ .ret _ _ from ret1 (.agg (ints .u64 ([(s1),(s2),(s3)]))) rfl (QaZ g4 142 _ r4_10 kj kj (isz (n:=3) kj kj)) ⟨by rw [QnS (v:=v) hs1 hs2 hs3 (by obtain ⟨hs10,hs11⟩:=hs1; obtain ⟨hs20,hs21⟩:=hs2; obtain ⟨hs30,hs31⟩:=hs3; omega)],(Puts.ext p10 (Puts.ext p9 (Ext.tr (Puts.ext p7 (Ext.tr (Puts.ext p5 (Ext.tr (Ext.tr x2 e3) e4) b2) e6) b2) e8) b2) (qT x2.size l4))⟩)
theorem QiK (a b:Int) (ha:0≤a) (hb:0≤b) (ha2:a<6277101735386680763835789423207666416102355444464034512896) (hb2:b<6277101735386680763835789423207666416102355444464034512896) (hlt:a+b<6277101735386680763835789423207666416102355444464034512896) (w:World) :
    Calls Tryd.prog 88 #[.agg (ints .u64 (nw3 a)),.agg (ints .u64 (nw3 b))] w (Ret w (.agg (ints .u64 (nw3 (a+b))))) :=
  Qq6 _ _ _ _ _ _ (a+b) (QcW _) (QcW _) (QcW _) (QcW _) (QcW _) (QcW _) (by rw [Qhn a ha ha2,Qhn b hb hb2]) hlt w
theorem QkO (b : List Int) (v:Value) (B:Nat) (w:World) (hb:RdK .u8 B b v w) (hl:b.length≤24) (hbb:Qag b):Calls Tryd.prog 86 #[v] w (Ret w (.agg (ints .u64 (nw3 (lev b))))):=by
 obtain ⟨a_b,c_b,rfl,-⟩:=id hb
 refine enter 27 [(0,.slice a_b b.length c_b)] Tryd.func86 rfl rfl kj rfl <| sgC fun K1 hK1=>Qaj (ints .u64 ([0,0,0])) 142 2 rfl kj kj fun g2 W1 l2 e1 r2_1=>?_
 have x1:=Ext.tr (Rely.Ext.refl w) e1
 refine sgN hK1 <| sgC fun K3 hK3=>Qaj (ints .u64 ([0,0,0])) 142 3 rfl kj kj fun g4 W2 l4 e2 r4_2=>sgN hK3 <| wp_seq_k fun K5 hK5=>sgB kj <| wp_block ?_
 have r4_2_7:W2.heap[g4]? = some (.cells (ints .u64 (nw3 (lev (b.take 0)))) 142):=QaC r4_2 (by rw [List.take_zero]; rfl)
 refine QaN (fun (s1:Nat)=>[(2,.pointer (some ⟨g2,0,none⟩)),(3,.pointer (some ⟨g4,0,none⟩)),(6,.slice a_b b.length c_b),(7,.int .i64 ((b.length:Nat):Int)),(8,.int .i64 ((s1:Nat):Int))]) (fun (s1:Nat) W=>(s1≤b.length)∧(W.heap[g4]? = some (.cells (ints .u64 (nw3 (lev (b.take s1)))) 142))∧(Qau [g4] W2 W)∧(Ext w W)) (fun (s1:Nat)=>b.length-s1) 0 ⟨kj,kj,kj,kj,kj,trivial⟩ ⟨(Nat.zero_le _),r4_2_7,(Qau.refl [g4] W2),(Ext.tr x1 e2)⟩ fun s1 X1 V1 hI1=>?_
 obtain ⟨i,hs1⟩:∃ z,z=s1:=⟨_,rfl⟩
 subst hs1
 obtain ⟨hi,q4_1,kk1,xx1⟩:=hI1
 replace hi:i≤b.length:=hi
 replace q4_1:V1.heap[g4]? = some (.cells (ints .u64 (nw3 (lev (b.take i)))) 142):=q4_1
 replace kk1:Qau [g4] W2 V1:=kk1
 replace xx1:Ext w V1:=xx1
 have q3:=kk1
 refine sgB kj <| wp_seq_k fun K9 hK9=>Qa9 (t:=decide (((i:Nat):Int)<((b.length:Nat):Int))) kj (fun c10=>?_) (fun c10=>?_)
 ·skip
  have hlt9:i<b.length:=by have:=of_decide_eq_true c10; omega
  obtain ⟨grb11,orb11,harb11,-,hlrb11,hcrb11⟩:=Qfr (RdK.ext hb xx1) (by omega)
  have hbi:=Qbi hbb i
  have hn0:=Qd7 (Qbd hbb i)
  have hn1:=Qio (Qbd hbb i)
  rw [List.length_take,Nat.min_eq_left (by omega)] at hn1
  obtain ⟨hst1,hst2⟩:=Qkb (lev (b.take i)) (nth b i) i (by omega) hn0 hn1 hbi
  rw [←QeK b i hlt9] at hst1 hst2
  refine wp_skip <| hK9 _ _ <| wp_seq_k fun K12 hK12=>wp_block <| sgC fun K13 hK13=>sg 1 kj <| Qad (.pointer (some ⟨grb11,orb11+i,none⟩)) 11 rfl kj (Qen 24 _ _ .i64 i grb11 orb11 b.length c_b 5 a_b _ harb11 rfl rfl kj kj kj kj (Nat.lt_of_lt_of_eq (show i<(b).length by omega) (rfl:(b).length=(b).length).symm)) <| Qad (.int .u8 (nth (b) (i))) 12 rfl kj (Qb1 5 _ _ (.int .u8 (nth (b) (i))) (hcrb11 i (Nat.lt_of_lt_of_eq (show i<(b).length by omega) (rfl:(b).length=(b).length).symm)) rfl kj kj) <| sg 2 kj <| sgN hK13 ?_
  refine Qbf 10 [⟨none,[(4,none)]⟩,⟨none,[(13,some 0)]⟩,⟨none,[(3,none),(14,some 1)]⟩,⟨none,[(15,some 2)]⟩,⟨none,[(5,none)]⟩,⟨none,[(17,some 4)]⟩,⟨none,[(4,none)]⟩,⟨none,[(19,some 6)]⟩,⟨none,[(20,some 7)]⟩,⟨none,[(18,some 5),(21,some 8)]⟩] kj kj fun F hF=>QaL (Qaq _) (.int .i64 ((i:Nat):Int)) kj kj (fun W=>by kernel_rfl) <| QaL (Qaq _) (.int .i64 ((i/8:Nat):Int)) kj kj (fun W=>(Qal (u:=.int .i64 (IntKind.i64.wrap (Int.tdiv (((i:Nat):Int)) (8)))) kj (congrArg (Value.int .i64) (QdY _ 8 (by omega))))) <| QaL (Qaq _) (.pointer (some ⟨g4,i/8,none⟩)) kj kj (fun W=>(Qa3 _ _ _ .i64 (i/8) _ 3 52 rfl kj kj kj kj (by omega))) <| Qc8 (Qaq _) (.int .u64 (nth (nw3 (lev (b.take i))) (i/8))) kj kj (fun W hR=>(Qak 52 _ g4 (i/8) 142 _ (.int .u64 (nth (nw3 (lev (b.take i))) (i/8))) _ (Qaa (Qaa q4_1 (Qai _)) hR) rfl kj (Qar _ _ _ (Nat.lt_of_lt_of_eq (by omega) (Qa1 _).symm)) kj)) <| QaL (Qaq _) (.int .u8 (nth (b) (i))) kj kj (fun W=>by kernel_rfl) <| QaL (Qaq _) (.int .u64 (nth b i)) kj kj (fun W=>(Qal (u:=.int .u64 (IntKind.u64.wrap (nth (b) (i)))) kj (congrArg (Value.int .u64) (wrap64 _ ⟨hbi.1,by omega⟩)))) <| QaL (Qaq _) (.int .i64 ((i:Nat):Int)) kj kj (fun W=>by kernel_rfl) <| QaL (Qaq _) (.int .i64 ((i%8:Nat):Int)) kj kj (fun W=>(Qal (u:=.int .i64 (Int.tmod (((i:Nat):Int)) (8))) kj (congrArg (Value.int .i64) (QcJ _ 8)))) <| QaL (Qaq _) (.int .i64 ((8*(i%8):Nat):Int)) kj kj (fun W=>(Qal (u:=.int .i64 (IntKind.i64.wrap (8*((i%8:Nat):Int)))) kj (congrArg (Value.int .i64) (i64n _ _ (by omega) (by omega))))) ?_
  refine QaL (Qaq _) (.int .u64 (nth b i*p256 (i%8))) kj kj (fun W=>(Qbc .shl _ _ _ _ .u64 .i64 _ _ _ rfl kj kj (Qgw _ _ _ _ _ _ (by omega) (Qqx _ (i%8) _ rfl hbi (by omega))))) <| QdN (hF _ fun W4 e4=>?_)
  simp only [List.nil_append,List.cons_append,List.take_succ_cons,List.take_zero,List.drop_succ_cons,List.drop_zero,finE,up]
  clear hF
  have x4:=Ext.tr xx1 e4
  refine Qad (.int .u64 (nth (nw3 (lev (b.take (i+1)))) (i/8))) 23 rfl kj (Qal (u:=.int .u64 (bits .or .u64 ((nth (nw3 (lev (b.take i))) (i/8))) ((nth b i*p256 (i%8))))) kj (congrArg (Value.int .u64) hst1)) <| Qad (.pointer (some ⟨g4,i/8,none⟩)) 24 rfl kj (Qa3 _ _ _ .i64 (i/8) _ 3 52 rfl kj kj kj kj (by omega)) ?_
  have r4_4:=(Qaa q4_1 e4)
  refine Qah g4 _ (ints .u64 ((nw3 (lev (b.take i))).set (i/8) (nth (nw3 (lev (b.take (i+1)))) (i/8)))) 142 r4_4 rfl kj (Qaw 52 _ _ g4 (i/8) 142 _ _ r4_4 rfl kj kj kj (Nat.lt_of_lt_of_eq (by omega) (Qa1 _).symm)) fun W5 p5 r4_5=>Qaz <| hK12 _ _ <| Qan <| Qad (.int .i64 ((i+1:Nat):Int)) 25 rfl kj (Qal (u:=.int .i64 (IntKind.i64.wrap (((i:Nat):Int)+1))) kj (congrArg (Value.int .i64) (i64n _ _ (by omega) (by omega)))) <| sg 1 kj <| Qaz ?_
  repeat (first | with_reducible refine goX1 ?_ | with_reducible refine goX2 ?_ | with_reducible refine goX3 ?_)
  exact QaG (i+1) ⟨kj,kj,kj,kj,kj,trivial⟩ ⟨(show i+1≤b.length by omega),(QaC r4_5 hst2),(Qau.puts (Qau.step q3 e4) p5 (.inl (by simp))),(Puts.ext p5 x4 (qT x1.size l4))⟩ (by show b.length-(i+1)<b.length-i; omega)
 ·skip
  have heq9:i=b.length:=by have:=of_decide_eq_false c10; omega
  subst heq9
  have r4_3_14:V1.heap[g4]? = some (.cells (ints .u64 (nw3 (lev b))) 142):=QaC q4_1 (by rw [List.take_length])
  refine wp_exit <| hK5 _ _ <| sgC fun K15 hK15=>Qad (.agg (ints .u64 (nw3 (lev b)))) 26 rfl kj (Qae 142 _ g4 142 _ _ r4_3_14 rfl kj kj (isz (n:=3) kj ((Qac _ _).trans (Qa1 _)))) ?_
  have r2_3:=(Qau.row q3 (Qaa r2_1 e2) (Qba (Qab r2_1 l4) Qbm))
  refine Qah g2 _ (ints .u64 (nw3 (lev b))) 142 r2_3 rfl kj (Qaf 142 _ _ g2 142 _ _ r2_3 rfl kj kj (isz (n:=3) kj ((Qac _ _).trans (Qa1 _))) (eqsz (n:=3) kj ((Qac _ _).trans (Qa1 _))) (ints_one _ _)) fun W4 p4 r2_4=>?_
  have x4:=Puts.ext p4 xx1 (qT (Rely.Ext.refl w).size l2)
  refine sgN hK15 <| wp_ret ?_
  repeat (first | with_reducible refine goR1 ?_ | with_reducible refine goR2 ?_)
  exact (show bodyPost _ _ _ .ret _ _ from ret1 (.agg (ints .u64 (nw3 (lev b)))) rfl (QaZ g2 142 _ r2_4 kj kj (isz (n:=3) kj ((Qac _ _).trans (Qa1 _)))) ⟨rfl,x4⟩)
end Go.Proofs.YtmljnchhgkfemaaDoor.Ae
end
section
namespace Go.Proofs.YtmljnchhgkfemaaDoor.Ae
open Go Go.RowKit
open Rely Auto Own Sha
open Sha Cha
theorem mulR {x y hi lo:Int} {w:World} (h:Calls Tryd.prog 80 #[.int .u64 x,.int .u64 y] w (fun e w'=>e=.returned (.tuple #[.int .u64 hi,.int .u64 lo])∧w'=w)):Calls Tryd.prog 80 #[.int .u64 x,.int .u64 y] w (Ret w (.tuple #[.int .u64 hi,.int .u64 lo])) :=
  h.mono fun e w' h=>⟨h.1,h.2▸Rely.Ext.refl _⟩
set_option maxRecDepth 100000 in
theorem QnU (g : Nat) (q0_ q1_ q2_ q3_ q4_ q5_ xx yy p:Int) (hq0_:isW q0_) (hq1_:isW q1_) (hq2_:isW q2_) (hq3_:isW q3_) (hq4_:isW q4_) (hq5_:isW q5_) (hxx:isW xx) (hyy:isW yy) (hp:xx*yy=p) (hlt:(q0_+18446744073709551616*q1_+340282366920938463463374607431768211456*q2_+6277101735386680763835789423207666416102355444464034512896*q3_+115792089237316195423570985008687907853269984665640564039457584007913129639936*q4_+2135987035920910082395021706169552114602704522356652769947041607822219725780640550022962086936576*q5_)+1*p<39402006196394479212279040100143613805079739270465446667948293404245721771497210611414266254884915640806627990306816) (w:World) (hg:w.heap[g]? = some (.cells (ints .u64 [q0_,q1_,q2_,q3_,q4_,q5_]) 150)) :
    Calls Tryd.prog 90 #[.int .i64 0,.int .u64 xx,.int .u64 yy,.pointer (some ⟨g,0,none⟩)] w (fun e W=>e=.returned (.tuple #[])∧∃ r0 r1 r2 r3 r4 r5:Int,isW r0∧isW r1∧isW r2∧isW r3∧isW r4∧isW r5∧(r0+18446744073709551616*r1+340282366920938463463374607431768211456*r2+6277101735386680763835789423207666416102355444464034512896*r3+115792089237316195423570985008687907853269984665640564039457584007913129639936*r4+2135987035920910082395021706169552114602704522356652769947041607822219725780640550022962086936576*r5)=(q0_+18446744073709551616*q1_+340282366920938463463374607431768211456*q2_+6277101735386680763835789423207666416102355444464034512896*q3_+115792089237316195423570985008687907853269984665640564039457584007913129639936*q4_+2135987035920910082395021706169552114602704522356652769947041607822219725780640550022962086936576*q5_)+1*p∧ExtB g w W∧W.heap[g]? = some (.cells (ints .u64 [r0,r1,r2,r3,r4,r5]) 150)):=by
  refine enter 44 [(0,.int .i64 0),(1,.int .u64 (xx)),(2,.int .u64 (yy)),(3,.pointer (some ⟨g,0,none⟩))] Tryd.func90 rfl rfl kj rfl <| sgC fun K2 hK2=>sg 2 kj ?_
  obtain ⟨hi_,lo_,hhi,hlo,hml,cml⟩:=mul64 xx yy hxx hyy
  rw [hp] at hml
  refine Qao (.tuple #[.int .u64 (hi_),.int .u64 (lo_)]) 80 #[.int .u64 (xx),.int .u64 (yy)] 14 rfl kj kj ((mulR (cml _))) fun W1 e1=>sg 5 kj <| sgN hK2 <| sgB kj <| sgC fun K4 hK4=>sg 3 kj ?_
  have r1_1:=(Qaa hg e1)
  refine Qad (.int .u64 q0_) 21 rfl kj (Qak 52 _ g 0 150 _ (.int .u64 q0_) _ r1_1 rfl kj kj kj) <| sg 1 kj ?_
  obtain ⟨s1,d1,hs1,hd1,he1,ra1⟩:=add64 (q0_) (lo_) (0) hq0_ hlo ⟨by decide,by decide⟩
  refine Qad (.tuple #[.int .u64 (s1),.int .u64 (d1)]) 23 rfl kj (Qbk (f:=65) (args:=#[.int .u64 q0_,.int .u64 (lo_),.int .u64 0]) _ _ _ rfl kj kj (ra1 _)) <| sg 4 kj <| Qah g _ (ints .u64 ([(s1),q1_,q2_,q3_,q4_,q5_])) 150 r1_1 rfl kj (Qaw 52 _ _ g 0 150 _ _ r1_1 rfl kj kj kj (show 0<6 by decide)) fun W2 p2 r1_2=>sg 1 kj <| sgN hK4 <| sgB kj <| wp_block <| wp_loop_rounds 6 ?_
  show Code.wp _ _ (Exit.then (Code.rounds _ _ _ 5) _) _ _
  refine wp_seq_k fun K6 hK6=>sgB kj <| cond_true kj <| wp_skip <| hK6 _ _ <| wp_seq_k fun K8 hK8=>wp_block <| sgC fun K9 hK9=>sg 3 kj <| Qad (.int .u64 q1_) 37 rfl kj (Qak 52 _ g 1 150 _ (.int .u64 q1_) _ r1_2 rfl kj kj kj) ?_
  refine sg 2 kj ?_
  obtain ⟨s2,d2,hs2,hd2,he2,ra2⟩:=add64 (q1_) (hi_) (d1) hq1_ hhi hd1
  refine Qad (.tuple #[.int .u64 (s2),.int .u64 (d2)]) 40 rfl kj (Qbk (f:=65) (args:=#[.int .u64 q1_,.int .u64 (hi_),.int .u64 (d1)]) _ _ _ rfl kj kj (ra2 _)) <| sg 4 kj <| Qah g _ (ints .u64 ([(s1),(s2),q2_,q3_,q4_,q5_])) 150 r1_2 rfl kj (Qaw 52 _ _ g 1 150 _ _ r1_2 rfl kj kj kj (show 1<6 by decide)) fun W3 p3 r1_3=>sg 1 kj <| sgN hK9 <| sgA kj <| hK8 _ _ <| sgA kj ?_
  show Code.rounds _ _ _ 5 _ _
  show Code.wp _ _ (Exit.then (Code.rounds _ _ _ 4) _) _ _
  refine wp_seq_k fun K10 hK10=>sgB kj <| cond_true kj <| wp_skip <| hK10 _ _ <| wp_seq_k fun K12 hK12=>wp_block <| sgC fun K13 hK13=>sg 3 kj <| Qad (.int .u64 q2_) 37 rfl kj (Qak 52 _ g 2 150 _ (.int .u64 q2_) _ r1_3 rfl kj kj kj) ?_
  refine sg 2 kj ?_
  obtain ⟨s3,d3,hs3,hd3,he3,ra3⟩:=add64 (q2_) (0) (d2) hq2_ zero_isW hd2
  refine Qad (.tuple #[.int .u64 (s3),.int .u64 (d3)]) 40 rfl kj (Qbk (f:=65) (args:=#[.int .u64 q2_,.int .u64 0,.int .u64 (d2)]) _ _ _ rfl kj kj (ra3 _)) <| sg 4 kj <| Qah g _ (ints .u64 ([(s1),(s2),(s3),q3_,q4_,q5_])) 150 r1_3 rfl kj (Qaw 52 _ _ g 2 150 _ _ r1_3 rfl kj kj kj (show 2<6 by decide)) fun W4 p4 r1_4=>sg 1 kj <| sgN hK13 <| sgA kj <| hK12 _ _ <| sgA kj ?_
  show Code.rounds _ _ _ 4 _ _
  show Code.wp _ _ (Exit.then (Code.rounds _ _ _ 3) _) _ _
  refine wp_seq_k fun K14 hK14=>sgB kj <| cond_true kj <| wp_skip <| hK14 _ _ <| wp_seq_k fun K16 hK16=>wp_block <| sgC fun K17 hK17=>sg 3 kj <| Qad (.int .u64 q3_) 37 rfl kj (Qak 52 _ g 3 150 _ (.int .u64 q3_) _ r1_4 rfl kj kj kj) ?_
  refine sg 2 kj ?_
  obtain ⟨s4,d4,hs4,hd4,he4,ra4⟩:=add64 (q3_) (0) (d3) hq3_ zero_isW hd3
  refine Qad (.tuple #[.int .u64 (s4),.int .u64 (d4)]) 40 rfl kj (Qbk (f:=65) (args:=#[.int .u64 q3_,.int .u64 0,.int .u64 (d3)]) _ _ _ rfl kj kj (ra4 _)) <| sg 4 kj <| Qah g _ (ints .u64 ([(s1),(s2),(s3),(s4),q4_,q5_])) 150 r1_4 rfl kj (Qaw 52 _ _ g 3 150 _ _ r1_4 rfl kj kj kj (show 3<6 by decide)) fun W5 p5 r1_5=>sg 1 kj <| sgN hK17 <| sgA kj <| hK16 _ _ <| sgA kj ?_
  show Code.rounds _ _ _ 3 _ _
  show Code.wp _ _ (Exit.then (Code.rounds _ _ _ 2) _) _ _
  refine wp_seq_k fun K18 hK18=>sgB kj <| cond_true kj <| wp_skip <| hK18 _ _ <| wp_seq_k fun K20 hK20=>wp_block <| sgC fun K21 hK21=>sg 3 kj <| Qad (.int .u64 q4_) 37 rfl kj (Qak 52 _ g 4 150 _ (.int .u64 q4_) _ r1_5 rfl kj kj kj) ?_
  refine sg 2 kj ?_
  obtain ⟨s5,d5,hs5,hd5,he5,ra5⟩:=add64 (q4_) (0) (d4) hq4_ zero_isW hd4
  refine Qad (.tuple #[.int .u64 (s5),.int .u64 (d5)]) 40 rfl kj (Qbk (f:=65) (args:=#[.int .u64 q4_,.int .u64 0,.int .u64 (d4)]) _ _ _ rfl kj kj (ra5 _)) <| sg 4 kj <| Qah g _ (ints .u64 ([(s1),(s2),(s3),(s4),(s5),q5_])) 150 r1_5 rfl kj (Qaw 52 _ _ g 4 150 _ _ r1_5 rfl kj kj kj (show 4<6 by decide)) fun W6 p6 r1_6=>sg 1 kj <| sgN hK21 <| sgA kj <| hK20 _ _ <| sgA kj ?_
  show Code.rounds _ _ _ 2 _ _
  show Code.wp _ _ (Exit.then (Code.rounds _ _ _ 1) _) _ _
  refine wp_seq_k fun K22 hK22=>sgB kj <| cond_true kj <| wp_skip <| hK22 _ _ <| wp_seq_k fun K24 hK24=>wp_block <| sgC fun K25 hK25=>sg 3 kj <| Qad (.int .u64 q5_) 37 rfl kj (Qak 52 _ g 5 150 _ (.int .u64 q5_) _ r1_6 rfl kj kj kj) ?_
  refine sg 2 kj ?_
  obtain ⟨s6,d6,hs6,hd6,he6,ra6⟩:=add64 (q5_) (0) (d5) hq5_ zero_isW hd5
  refine Qad (.tuple #[.int .u64 (s6),.int .u64 (d6)]) 40 rfl kj (Qbk (f:=65) (args:=#[.int .u64 q5_,.int .u64 0,.int .u64 (d5)]) _ _ _ rfl kj kj (ra6 _)) <| sg 4 kj <| Qah g _ (ints .u64 ([(s1),(s2),(s3),(s4),(s5),(s6)])) 150 r1_6 rfl kj (Qaw 52 _ _ g 5 150 _ _ r1_6 rfl kj kj kj (show 5<6 by decide)) fun W7 p7 r1_7=>sg 1 kj <| sgN hK25 <| sgA kj <| hK24 _ _ <| sgA kj ?_
  show Code.rounds _ _ _ 1 _ _
  show Code.wp _ _ (Exit.then (Code.rounds _ _ _ 0) _) _ _
  refine wp_seq_k fun K26 hK26=>sgB kj <| cond_false kj <| wp_exit ?_
  repeat (first | with_reducible refine goX1 ?_ | with_reducible refine goX2 ?_ | with_reducible refine goX3 ?_)
  exact (show bodyPost _ _ _ .normal _ _ from end0 rfl ⟨rfl,s1,s2,s3,s4,s5,s6,hs1,hs2,hs3,hs4,hs5,hs6,(by obtain ⟨u1,v1⟩:=id hs1; obtain ⟨u2,v2⟩:=id hs2; obtain ⟨u3,v3⟩:=id hs3; obtain ⟨u4,v4⟩:=id hs4; obtain ⟨u5,v5⟩:=id hs5; obtain ⟨u6,v6⟩:=id hs6; obtain ⟨uq0,vq0⟩:=id hq0_; obtain ⟨uq1,vq1⟩:=id hq1_; obtain ⟨uq2,vq2⟩:=id hq2_; obtain ⟨uq3,vq3⟩:=id hq3_; obtain ⟨uq4,vq4⟩:=id hq4_; obtain ⟨uq5,vq5⟩:=id hq5_; obtain ⟨ud1,vd1⟩:=id hd1; obtain ⟨ud2,vd2⟩:=id hd2; obtain ⟨ud3,vd3⟩:=id hd3; obtain ⟨ud4,vd4⟩:=id hd4; obtain ⟨ud5,vd5⟩:=id hd5; obtain ⟨ud6,vd6⟩:=id hd6; obtain ⟨uh1,uh2⟩:=id hhi; obtain ⟨ul1,ul2⟩:=id hlo; omega),(ExtB.puts (ExtB.puts (ExtB.puts (ExtB.puts (ExtB.puts (ExtB.puts (ExtB.ext (ExtB.refl g w) e1) p2) p3) p4) p5) p6) p7),r1_7⟩)
set_option maxRecDepth 100000 in
theorem QlB (g : Nat) (q0_ q1_ q2_ q3_ q4_ q5_ xx yy p:Int) (hq0_:isW q0_) (hq1_:isW q1_) (hq2_:isW q2_) (hq3_:isW q3_) (hq4_:isW q4_) (hq5_:isW q5_) (hxx:isW xx) (hyy:isW yy) (hp:xx*yy=p) (hlt:(q0_+18446744073709551616*q1_+340282366920938463463374607431768211456*q2_+6277101735386680763835789423207666416102355444464034512896*q3_+115792089237316195423570985008687907853269984665640564039457584007913129639936*q4_+2135987035920910082395021706169552114602704522356652769947041607822219725780640550022962086936576*q5_)+18446744073709551616*p<39402006196394479212279040100143613805079739270465446667948293404245721771497210611414266254884915640806627990306816) (w:World) (hg:w.heap[g]? = some (.cells (ints .u64 [q0_,q1_,q2_,q3_,q4_,q5_]) 150)) :
    Calls Tryd.prog 90 #[.int .i64 1,.int .u64 xx,.int .u64 yy,.pointer (some ⟨g,0,none⟩)] w (fun e W=>e=.returned (.tuple #[])∧∃ r0 r1 r2 r3 r4 r5:Int,isW r0∧isW r1∧isW r2∧isW r3∧isW r4∧isW r5∧(r0+18446744073709551616*r1+340282366920938463463374607431768211456*r2+6277101735386680763835789423207666416102355444464034512896*r3+115792089237316195423570985008687907853269984665640564039457584007913129639936*r4+2135987035920910082395021706169552114602704522356652769947041607822219725780640550022962086936576*r5)=(q0_+18446744073709551616*q1_+340282366920938463463374607431768211456*q2_+6277101735386680763835789423207666416102355444464034512896*q3_+115792089237316195423570985008687907853269984665640564039457584007913129639936*q4_+2135987035920910082395021706169552114602704522356652769947041607822219725780640550022962086936576*q5_)+18446744073709551616*p∧ExtB g w W∧W.heap[g]? = some (.cells (ints .u64 [r0,r1,r2,r3,r4,r5]) 150)):=by
  refine enter 44 [(0,.int .i64 1),(1,.int .u64 (xx)),(2,.int .u64 (yy)),(3,.pointer (some ⟨g,0,none⟩))] Tryd.func90 rfl rfl kj rfl <| sgC fun K2 hK2=>sg 2 kj ?_
  obtain ⟨hi_,lo_,hhi,hlo,hml,cml⟩:=mul64 xx yy hxx hyy
  rw [hp] at hml
  refine Qao (.tuple #[.int .u64 (hi_),.int .u64 (lo_)]) 80 #[.int .u64 (xx),.int .u64 (yy)] 14 rfl kj kj ((mulR (cml _))) fun W1 e1=>sg 5 kj <| sgN hK2 <| sgB kj <| sgC fun K4 hK4=>sg 3 kj ?_
  have r1_1:=(Qaa hg e1)
  refine Qad (.int .u64 q1_) 21 rfl kj (Qak 52 _ g 1 150 _ (.int .u64 q1_) _ r1_1 rfl kj kj kj) <| sg 1 kj ?_
  obtain ⟨s1,d1,hs1,hd1,he1,ra1⟩:=add64 (q1_) (lo_) (0) hq1_ hlo ⟨by decide,by decide⟩
  refine Qad (.tuple #[.int .u64 (s1),.int .u64 (d1)]) 23 rfl kj (Qbk (f:=65) (args:=#[.int .u64 q1_,.int .u64 (lo_),.int .u64 0]) _ _ _ rfl kj kj (ra1 _)) <| sg 4 kj <| Qah g _ (ints .u64 ([q0_,(s1),q2_,q3_,q4_,q5_])) 150 r1_1 rfl kj (Qaw 52 _ _ g 1 150 _ _ r1_1 rfl kj kj kj (show 1<6 by decide)) fun W2 p2 r1_2=>sg 1 kj <| sgN hK4 <| sgB kj <| wp_block <| wp_loop_rounds 5 ?_
  show Code.wp _ _ (Exit.then (Code.rounds _ _ _ 4) _) _ _
  refine wp_seq_k fun K6 hK6=>sgB kj <| cond_true kj <| wp_skip <| hK6 _ _ <| wp_seq_k fun K8 hK8=>wp_block <| sgC fun K9 hK9=>sg 3 kj <| Qad (.int .u64 q2_) 37 rfl kj (Qak 52 _ g 2 150 _ (.int .u64 q2_) _ r1_2 rfl kj kj kj) ?_
  refine sg 2 kj ?_
  obtain ⟨s2,d2,hs2,hd2,he2,ra2⟩:=add64 (q2_) (hi_) (d1) hq2_ hhi hd1
  refine Qad (.tuple #[.int .u64 (s2),.int .u64 (d2)]) 40 rfl kj (Qbk (f:=65) (args:=#[.int .u64 q2_,.int .u64 (hi_),.int .u64 (d1)]) _ _ _ rfl kj kj (ra2 _)) <| sg 4 kj <| Qah g _ (ints .u64 ([q0_,(s1),(s2),q3_,q4_,q5_])) 150 r1_2 rfl kj (Qaw 52 _ _ g 2 150 _ _ r1_2 rfl kj kj kj (show 2<6 by decide)) fun W3 p3 r1_3=>sg 1 kj <| sgN hK9 <| sgA kj <| hK8 _ _ <| sgA kj ?_
  show Code.rounds _ _ _ 4 _ _
  show Code.wp _ _ (Exit.then (Code.rounds _ _ _ 3) _) _ _
  refine wp_seq_k fun K10 hK10=>sgB kj <| cond_true kj <| wp_skip <| hK10 _ _ <| wp_seq_k fun K12 hK12=>wp_block <| sgC fun K13 hK13=>sg 3 kj <| Qad (.int .u64 q3_) 37 rfl kj (Qak 52 _ g 3 150 _ (.int .u64 q3_) _ r1_3 rfl kj kj kj) ?_
  refine sg 2 kj ?_
  obtain ⟨s3,d3,hs3,hd3,he3,ra3⟩:=add64 (q3_) (0) (d2) hq3_ zero_isW hd2
  refine Qad (.tuple #[.int .u64 (s3),.int .u64 (d3)]) 40 rfl kj (Qbk (f:=65) (args:=#[.int .u64 q3_,.int .u64 0,.int .u64 (d2)]) _ _ _ rfl kj kj (ra3 _)) <| sg 4 kj <| Qah g _ (ints .u64 ([q0_,(s1),(s2),(s3),q4_,q5_])) 150 r1_3 rfl kj (Qaw 52 _ _ g 3 150 _ _ r1_3 rfl kj kj kj (show 3<6 by decide)) fun W4 p4 r1_4=>sg 1 kj <| sgN hK13 <| sgA kj <| hK12 _ _ <| sgA kj ?_
  show Code.rounds _ _ _ 3 _ _
  show Code.wp _ _ (Exit.then (Code.rounds _ _ _ 2) _) _ _
  refine wp_seq_k fun K14 hK14=>sgB kj <| cond_true kj <| wp_skip <| hK14 _ _ <| wp_seq_k fun K16 hK16=>wp_block <| sgC fun K17 hK17=>sg 3 kj <| Qad (.int .u64 q4_) 37 rfl kj (Qak 52 _ g 4 150 _ (.int .u64 q4_) _ r1_4 rfl kj kj kj) ?_
  refine sg 2 kj ?_
  obtain ⟨s4,d4,hs4,hd4,he4,ra4⟩:=add64 (q4_) (0) (d3) hq4_ zero_isW hd3
  refine Qad (.tuple #[.int .u64 (s4),.int .u64 (d4)]) 40 rfl kj (Qbk (f:=65) (args:=#[.int .u64 q4_,.int .u64 0,.int .u64 (d3)]) _ _ _ rfl kj kj (ra4 _)) <| sg 4 kj <| Qah g _ (ints .u64 ([q0_,(s1),(s2),(s3),(s4),q5_])) 150 r1_4 rfl kj (Qaw 52 _ _ g 4 150 _ _ r1_4 rfl kj kj kj (show 4<6 by decide)) fun W5 p5 r1_5=>sg 1 kj <| sgN hK17 <| sgA kj <| hK16 _ _ <| sgA kj ?_
  show Code.rounds _ _ _ 2 _ _
  show Code.wp _ _ (Exit.then (Code.rounds _ _ _ 1) _) _ _
  refine wp_seq_k fun K18 hK18=>sgB kj <| cond_true kj <| wp_skip <| hK18 _ _ <| wp_seq_k fun K20 hK20=>wp_block <| sgC fun K21 hK21=>sg 3 kj <| Qad (.int .u64 q5_) 37 rfl kj (Qak 52 _ g 5 150 _ (.int .u64 q5_) _ r1_5 rfl kj kj kj) ?_
  refine sg 2 kj ?_
  obtain ⟨s5,d5,hs5,hd5,he5,ra5⟩:=add64 (q5_) (0) (d4) hq5_ zero_isW hd4
  refine Qad (.tuple #[.int .u64 (s5),.int .u64 (d5)]) 40 rfl kj (Qbk (f:=65) (args:=#[.int .u64 q5_,.int .u64 0,.int .u64 (d4)]) _ _ _ rfl kj kj (ra5 _)) <| sg 4 kj <| Qah g _ (ints .u64 ([q0_,(s1),(s2),(s3),(s4),(s5)])) 150 r1_5 rfl kj (Qaw 52 _ _ g 5 150 _ _ r1_5 rfl kj kj kj (show 5<6 by decide)) fun W6 p6 r1_6=>sg 1 kj <| sgN hK21 <| sgA kj <| hK20 _ _ <| sgA kj ?_
  show Code.rounds _ _ _ 1 _ _
  show Code.wp _ _ (Exit.then (Code.rounds _ _ _ 0) _) _ _
  refine wp_seq_k fun K22 hK22=>sgB kj <| cond_false kj <| wp_exit ?_
  repeat (first | with_reducible refine goX1 ?_ | with_reducible refine goX2 ?_ | with_reducible refine goX3 ?_)
  exact (show bodyPost _ _ _ .normal _ _ from end0 rfl ⟨rfl,q0_,s1,s2,s3,s4,s5,hq0_,hs1,hs2,hs3,hs4,hs5,(by obtain ⟨u1,v1⟩:=id hs1; obtain ⟨u2,v2⟩:=id hs2; obtain ⟨u3,v3⟩:=id hs3; obtain ⟨u4,v4⟩:=id hs4; obtain ⟨u5,v5⟩:=id hs5; obtain ⟨uq0,vq0⟩:=id hq0_; obtain ⟨uq1,vq1⟩:=id hq1_; obtain ⟨uq2,vq2⟩:=id hq2_; obtain ⟨uq3,vq3⟩:=id hq3_; obtain ⟨uq4,vq4⟩:=id hq4_; obtain ⟨uq5,vq5⟩:=id hq5_; obtain ⟨ud1,vd1⟩:=id hd1; obtain ⟨ud2,vd2⟩:=id hd2; obtain ⟨ud3,vd3⟩:=id hd3; obtain ⟨ud4,vd4⟩:=id hd4; obtain ⟨ud5,vd5⟩:=id hd5; obtain ⟨uh1,uh2⟩:=id hhi; obtain ⟨ul1,ul2⟩:=id hlo; omega),(ExtB.puts (ExtB.puts (ExtB.puts (ExtB.puts (ExtB.puts (ExtB.ext (ExtB.refl g w) e1) p2) p3) p4) p5) p6),r1_6⟩)
set_option maxRecDepth 100000 in
theorem QlA (g : Nat) (q0_ q1_ q2_ q3_ q4_ q5_ xx yy p:Int) (hq0_:isW q0_) (hq1_:isW q1_) (hq2_:isW q2_) (hq3_:isW q3_) (hq4_:isW q4_) (hq5_:isW q5_) (hxx:isW xx) (hyy:isW yy) (hp:xx*yy=p) (hlt:(q0_+18446744073709551616*q1_+340282366920938463463374607431768211456*q2_+6277101735386680763835789423207666416102355444464034512896*q3_+115792089237316195423570985008687907853269984665640564039457584007913129639936*q4_+2135987035920910082395021706169552114602704522356652769947041607822219725780640550022962086936576*q5_)+340282366920938463463374607431768211456*p<39402006196394479212279040100143613805079739270465446667948293404245721771497210611414266254884915640806627990306816) (w:World) (hg:w.heap[g]? = some (.cells (ints .u64 [q0_,q1_,q2_,q3_,q4_,q5_]) 150)) :
    Calls Tryd.prog 90 #[.int .i64 2,.int .u64 xx,.int .u64 yy,.pointer (some ⟨g,0,none⟩)] w (fun e W=>e=.returned (.tuple #[])∧∃ r0 r1 r2 r3 r4 r5:Int,isW r0∧isW r1∧isW r2∧isW r3∧isW r4∧isW r5∧(r0+18446744073709551616*r1+340282366920938463463374607431768211456*r2+6277101735386680763835789423207666416102355444464034512896*r3+115792089237316195423570985008687907853269984665640564039457584007913129639936*r4+2135987035920910082395021706169552114602704522356652769947041607822219725780640550022962086936576*r5)=(q0_+18446744073709551616*q1_+340282366920938463463374607431768211456*q2_+6277101735386680763835789423207666416102355444464034512896*q3_+115792089237316195423570985008687907853269984665640564039457584007913129639936*q4_+2135987035920910082395021706169552114602704522356652769947041607822219725780640550022962086936576*q5_)+340282366920938463463374607431768211456*p∧ExtB g w W∧W.heap[g]? = some (.cells (ints .u64 [r0,r1,r2,r3,r4,r5]) 150)):=by
  refine enter 44 [(0,.int .i64 2),(1,.int .u64 (xx)),(2,.int .u64 (yy)),(3,.pointer (some ⟨g,0,none⟩))] Tryd.func90 rfl rfl kj rfl <| sgC fun K2 hK2=>sg 2 kj ?_
  obtain ⟨hi_,lo_,hhi,hlo,hml,cml⟩:=mul64 xx yy hxx hyy
  rw [hp] at hml
  refine Qao (.tuple #[.int .u64 (hi_),.int .u64 (lo_)]) 80 #[.int .u64 (xx),.int .u64 (yy)] 14 rfl kj kj ((mulR (cml _))) fun W1 e1=>sg 5 kj <| sgN hK2 <| sgB kj <| sgC fun K4 hK4=>sg 3 kj ?_
  have r1_1:=(Qaa hg e1)
  refine Qad (.int .u64 q2_) 21 rfl kj (Qak 52 _ g 2 150 _ (.int .u64 q2_) _ r1_1 rfl kj kj kj) <| sg 1 kj ?_
  obtain ⟨s1,d1,hs1,hd1,he1,ra1⟩:=add64 (q2_) (lo_) (0) hq2_ hlo ⟨by decide,by decide⟩
  refine Qad (.tuple #[.int .u64 (s1),.int .u64 (d1)]) 23 rfl kj (Qbk (f:=65) (args:=#[.int .u64 q2_,.int .u64 (lo_),.int .u64 0]) _ _ _ rfl kj kj (ra1 _)) <| sg 4 kj <| Qah g _ (ints .u64 ([q0_,q1_,(s1),q3_,q4_,q5_])) 150 r1_1 rfl kj (Qaw 52 _ _ g 2 150 _ _ r1_1 rfl kj kj kj (show 2<6 by decide)) fun W2 p2 r1_2=>sg 1 kj <| sgN hK4 <| sgB kj <| wp_block <| wp_loop_rounds 4 ?_
  show Code.wp _ _ (Exit.then (Code.rounds _ _ _ 3) _) _ _
  refine wp_seq_k fun K6 hK6=>sgB kj <| cond_true kj <| wp_skip <| hK6 _ _ <| wp_seq_k fun K8 hK8=>wp_block <| sgC fun K9 hK9=>sg 3 kj <| Qad (.int .u64 q3_) 37 rfl kj (Qak 52 _ g 3 150 _ (.int .u64 q3_) _ r1_2 rfl kj kj kj) ?_
  refine sg 2 kj ?_
  obtain ⟨s2,d2,hs2,hd2,he2,ra2⟩:=add64 (q3_) (hi_) (d1) hq3_ hhi hd1
  refine Qad (.tuple #[.int .u64 (s2),.int .u64 (d2)]) 40 rfl kj (Qbk (f:=65) (args:=#[.int .u64 q3_,.int .u64 (hi_),.int .u64 (d1)]) _ _ _ rfl kj kj (ra2 _)) <| sg 4 kj <| Qah g _ (ints .u64 ([q0_,q1_,(s1),(s2),q4_,q5_])) 150 r1_2 rfl kj (Qaw 52 _ _ g 3 150 _ _ r1_2 rfl kj kj kj (show 3<6 by decide)) fun W3 p3 r1_3=>sg 1 kj <| sgN hK9 <| sgA kj <| hK8 _ _ <| sgA kj ?_
  show Code.rounds _ _ _ 3 _ _
  show Code.wp _ _ (Exit.then (Code.rounds _ _ _ 2) _) _ _
  refine wp_seq_k fun K10 hK10=>sgB kj <| cond_true kj <| wp_skip <| hK10 _ _ <| wp_seq_k fun K12 hK12=>wp_block <| sgC fun K13 hK13=>sg 3 kj <| Qad (.int .u64 q4_) 37 rfl kj (Qak 52 _ g 4 150 _ (.int .u64 q4_) _ r1_3 rfl kj kj kj) ?_
  refine sg 2 kj ?_
  obtain ⟨s3,d3,hs3,hd3,he3,ra3⟩:=add64 (q4_) (0) (d2) hq4_ zero_isW hd2
  refine Qad (.tuple #[.int .u64 (s3),.int .u64 (d3)]) 40 rfl kj (Qbk (f:=65) (args:=#[.int .u64 q4_,.int .u64 0,.int .u64 (d2)]) _ _ _ rfl kj kj (ra3 _)) <| sg 4 kj <| Qah g _ (ints .u64 ([q0_,q1_,(s1),(s2),(s3),q5_])) 150 r1_3 rfl kj (Qaw 52 _ _ g 4 150 _ _ r1_3 rfl kj kj kj (show 4<6 by decide)) fun W4 p4 r1_4=>sg 1 kj <| sgN hK13 <| sgA kj <| hK12 _ _ <| sgA kj ?_
  show Code.rounds _ _ _ 2 _ _
  show Code.wp _ _ (Exit.then (Code.rounds _ _ _ 1) _) _ _
  refine wp_seq_k fun K14 hK14=>sgB kj <| cond_true kj <| wp_skip <| hK14 _ _ <| wp_seq_k fun K16 hK16=>wp_block <| sgC fun K17 hK17=>sg 3 kj <| Qad (.int .u64 q5_) 37 rfl kj (Qak 52 _ g 5 150 _ (.int .u64 q5_) _ r1_4 rfl kj kj kj) ?_
  refine sg 2 kj ?_
  obtain ⟨s4,d4,hs4,hd4,he4,ra4⟩:=add64 (q5_) (0) (d3) hq5_ zero_isW hd3
  refine Qad (.tuple #[.int .u64 (s4),.int .u64 (d4)]) 40 rfl kj (Qbk (f:=65) (args:=#[.int .u64 q5_,.int .u64 0,.int .u64 (d3)]) _ _ _ rfl kj kj (ra4 _)) <| sg 4 kj <| Qah g _ (ints .u64 ([q0_,q1_,(s1),(s2),(s3),(s4)])) 150 r1_4 rfl kj (Qaw 52 _ _ g 5 150 _ _ r1_4 rfl kj kj kj (show 5<6 by decide)) fun W5 p5 r1_5=>sg 1 kj <| sgN hK17 <| sgA kj <| hK16 _ _ <| sgA kj ?_
  show Code.rounds _ _ _ 1 _ _
  show Code.wp _ _ (Exit.then (Code.rounds _ _ _ 0) _) _ _
  refine wp_seq_k fun K18 hK18=>sgB kj <| cond_false kj <| wp_exit ?_
  repeat (first | with_reducible refine goX1 ?_ | with_reducible refine goX2 ?_ | with_reducible refine goX3 ?_)
  exact (show bodyPost _ _ _ .normal _ _ from end0 rfl ⟨rfl,q0_,q1_,s1,s2,s3,s4,hq0_,hq1_,hs1,hs2,hs3,hs4,(by obtain ⟨u1,v1⟩:=id hs1; obtain ⟨u2,v2⟩:=id hs2; obtain ⟨u3,v3⟩:=id hs3; obtain ⟨u4,v4⟩:=id hs4; obtain ⟨uq0,vq0⟩:=id hq0_; obtain ⟨uq1,vq1⟩:=id hq1_; obtain ⟨uq2,vq2⟩:=id hq2_; obtain ⟨uq3,vq3⟩:=id hq3_; obtain ⟨uq4,vq4⟩:=id hq4_; obtain ⟨uq5,vq5⟩:=id hq5_; obtain ⟨ud1,vd1⟩:=id hd1; obtain ⟨ud2,vd2⟩:=id hd2; obtain ⟨ud3,vd3⟩:=id hd3; obtain ⟨ud4,vd4⟩:=id hd4; obtain ⟨uh1,uh2⟩:=id hhi; obtain ⟨ul1,ul2⟩:=id hlo; omega),(ExtB.puts (ExtB.puts (ExtB.puts (ExtB.puts (ExtB.ext (ExtB.refl g w) e1) p2) p3) p4) p5),r1_5⟩)
set_option maxRecDepth 100000 in
theorem QnT (g : Nat) (q0_ q1_ q2_ q3_ q4_ q5_ xx yy p:Int) (hq0_:isW q0_) (hq1_:isW q1_) (hq2_:isW q2_) (hq3_:isW q3_) (hq4_:isW q4_) (hq5_:isW q5_) (hxx:isW xx) (hyy:isW yy) (hp:xx*yy=p) (hlt:(q0_+18446744073709551616*q1_+340282366920938463463374607431768211456*q2_+6277101735386680763835789423207666416102355444464034512896*q3_+115792089237316195423570985008687907853269984665640564039457584007913129639936*q4_+2135987035920910082395021706169552114602704522356652769947041607822219725780640550022962086936576*q5_)+6277101735386680763835789423207666416102355444464034512896*p<39402006196394479212279040100143613805079739270465446667948293404245721771497210611414266254884915640806627990306816) (w:World) (hg:w.heap[g]? = some (.cells (ints .u64 [q0_,q1_,q2_,q3_,q4_,q5_]) 150)) :
    Calls Tryd.prog 90 #[.int .i64 3,.int .u64 xx,.int .u64 yy,.pointer (some ⟨g,0,none⟩)] w (fun e W=>e=.returned (.tuple #[])∧∃ r0 r1 r2 r3 r4 r5:Int,isW r0∧isW r1∧isW r2∧isW r3∧isW r4∧isW r5∧(r0+18446744073709551616*r1+340282366920938463463374607431768211456*r2+6277101735386680763835789423207666416102355444464034512896*r3+115792089237316195423570985008687907853269984665640564039457584007913129639936*r4+2135987035920910082395021706169552114602704522356652769947041607822219725780640550022962086936576*r5)=(q0_+18446744073709551616*q1_+340282366920938463463374607431768211456*q2_+6277101735386680763835789423207666416102355444464034512896*q3_+115792089237316195423570985008687907853269984665640564039457584007913129639936*q4_+2135987035920910082395021706169552114602704522356652769947041607822219725780640550022962086936576*q5_)+6277101735386680763835789423207666416102355444464034512896*p∧ExtB g w W∧W.heap[g]? = some (.cells (ints .u64 [r0,r1,r2,r3,r4,r5]) 150)):=by
  refine enter 44 [(0,.int .i64 3),(1,.int .u64 (xx)),(2,.int .u64 (yy)),(3,.pointer (some ⟨g,0,none⟩))] Tryd.func90 rfl rfl kj rfl <| sgC fun K2 hK2=>sg 2 kj ?_
  obtain ⟨hi_,lo_,hhi,hlo,hml,cml⟩:=mul64 xx yy hxx hyy
  rw [hp] at hml
  refine Qao (.tuple #[.int .u64 (hi_),.int .u64 (lo_)]) 80 #[.int .u64 (xx),.int .u64 (yy)] 14 rfl kj kj ((mulR (cml _))) fun W1 e1=>sg 5 kj <| sgN hK2 <| sgB kj <| sgC fun K4 hK4=>sg 3 kj ?_
  have r1_1:=(Qaa hg e1)
  refine Qad (.int .u64 q3_) 21 rfl kj (Qak 52 _ g 3 150 _ (.int .u64 q3_) _ r1_1 rfl kj kj kj) <| sg 1 kj ?_
  obtain ⟨s1,d1,hs1,hd1,he1,ra1⟩:=add64 (q3_) (lo_) (0) hq3_ hlo ⟨by decide,by decide⟩
  refine Qad (.tuple #[.int .u64 (s1),.int .u64 (d1)]) 23 rfl kj (Qbk (f:=65) (args:=#[.int .u64 q3_,.int .u64 (lo_),.int .u64 0]) _ _ _ rfl kj kj (ra1 _)) <| sg 4 kj <| Qah g _ (ints .u64 ([q0_,q1_,q2_,(s1),q4_,q5_])) 150 r1_1 rfl kj (Qaw 52 _ _ g 3 150 _ _ r1_1 rfl kj kj kj (show 3<6 by decide)) fun W2 p2 r1_2=>sg 1 kj <| sgN hK4 <| sgB kj <| wp_block <| wp_loop_rounds 3 ?_
  show Code.wp _ _ (Exit.then (Code.rounds _ _ _ 2) _) _ _
  refine wp_seq_k fun K6 hK6=>sgB kj <| cond_true kj <| wp_skip <| hK6 _ _ <| wp_seq_k fun K8 hK8=>wp_block <| sgC fun K9 hK9=>sg 3 kj <| Qad (.int .u64 q4_) 37 rfl kj (Qak 52 _ g 4 150 _ (.int .u64 q4_) _ r1_2 rfl kj kj kj) ?_
  refine sg 2 kj ?_
  obtain ⟨s2,d2,hs2,hd2,he2,ra2⟩:=add64 (q4_) (hi_) (d1) hq4_ hhi hd1
  refine Qad (.tuple #[.int .u64 (s2),.int .u64 (d2)]) 40 rfl kj (Qbk (f:=65) (args:=#[.int .u64 q4_,.int .u64 (hi_),.int .u64 (d1)]) _ _ _ rfl kj kj (ra2 _)) <| sg 4 kj <| Qah g _ (ints .u64 ([q0_,q1_,q2_,(s1),(s2),q5_])) 150 r1_2 rfl kj (Qaw 52 _ _ g 4 150 _ _ r1_2 rfl kj kj kj (show 4<6 by decide)) fun W3 p3 r1_3=>sg 1 kj <| sgN hK9 <| sgA kj <| hK8 _ _ <| sgA kj ?_
  show Code.rounds _ _ _ 2 _ _
  show Code.wp _ _ (Exit.then (Code.rounds _ _ _ 1) _) _ _
  refine wp_seq_k fun K10 hK10=>sgB kj <| cond_true kj <| wp_skip <| hK10 _ _ <| wp_seq_k fun K12 hK12=>wp_block <| sgC fun K13 hK13=>sg 3 kj <| Qad (.int .u64 q5_) 37 rfl kj (Qak 52 _ g 5 150 _ (.int .u64 q5_) _ r1_3 rfl kj kj kj) ?_
  refine sg 2 kj ?_
  obtain ⟨s3,d3,hs3,hd3,he3,ra3⟩:=add64 (q5_) (0) (d2) hq5_ zero_isW hd2
  refine Qad (.tuple #[.int .u64 (s3),.int .u64 (d3)]) 40 rfl kj (Qbk (f:=65) (args:=#[.int .u64 q5_,.int .u64 0,.int .u64 (d2)]) _ _ _ rfl kj kj (ra3 _)) <| sg 4 kj <| Qah g _ (ints .u64 ([q0_,q1_,q2_,(s1),(s2),(s3)])) 150 r1_3 rfl kj (Qaw 52 _ _ g 5 150 _ _ r1_3 rfl kj kj kj (show 5<6 by decide)) fun W4 p4 r1_4=>sg 1 kj <| sgN hK13 <| sgA kj <| hK12 _ _ <| sgA kj ?_
  show Code.rounds _ _ _ 1 _ _
  show Code.wp _ _ (Exit.then (Code.rounds _ _ _ 0) _) _ _
  refine wp_seq_k fun K14 hK14=>sgB kj <| cond_false kj <| wp_exit ?_
  repeat (first | with_reducible refine goX1 ?_ | with_reducible refine goX2 ?_ | with_reducible refine goX3 ?_)
  exact (show bodyPost _ _ _ .normal _ _ from end0 rfl ⟨rfl,q0_,q1_,q2_,s1,s2,s3,hq0_,hq1_,hq2_,hs1,hs2,hs3,(by obtain ⟨u1,v1⟩:=id hs1; obtain ⟨u2,v2⟩:=id hs2; obtain ⟨u3,v3⟩:=id hs3; obtain ⟨uq0,vq0⟩:=id hq0_; obtain ⟨uq1,vq1⟩:=id hq1_; obtain ⟨uq2,vq2⟩:=id hq2_; obtain ⟨uq3,vq3⟩:=id hq3_; obtain ⟨uq4,vq4⟩:=id hq4_; obtain ⟨uq5,vq5⟩:=id hq5_; obtain ⟨ud1,vd1⟩:=id hd1; obtain ⟨ud2,vd2⟩:=id hd2; obtain ⟨ud3,vd3⟩:=id hd3; obtain ⟨uh1,uh2⟩:=id hhi; obtain ⟨ul1,ul2⟩:=id hlo; omega),(ExtB.puts (ExtB.puts (ExtB.puts (ExtB.ext (ExtB.refl g w) e1) p2) p3) p4),r1_4⟩)
set_option maxRecDepth 100000 in
theorem QpH (g : Nat) (q0_ q1_ q2_ q3_ q4_ q5_ xx yy p:Int) (hq0_:isW q0_) (hq1_:isW q1_) (hq2_:isW q2_) (hq3_:isW q3_) (hq4_:isW q4_) (hq5_:isW q5_) (hxx:isW xx) (hyy:isW yy) (hp:xx*yy=p) (hlt:(q0_+18446744073709551616*q1_+340282366920938463463374607431768211456*q2_+6277101735386680763835789423207666416102355444464034512896*q3_+115792089237316195423570985008687907853269984665640564039457584007913129639936*q4_+2135987035920910082395021706169552114602704522356652769947041607822219725780640550022962086936576*q5_)+115792089237316195423570985008687907853269984665640564039457584007913129639936*p<39402006196394479212279040100143613805079739270465446667948293404245721771497210611414266254884915640806627990306816) (w:World) (hg:w.heap[g]? = some (.cells (ints .u64 [q0_,q1_,q2_,q3_,q4_,q5_]) 150)) :
    Calls Tryd.prog 90 #[.int .i64 4,.int .u64 xx,.int .u64 yy,.pointer (some ⟨g,0,none⟩)] w (fun e W=>e=.returned (.tuple #[])∧∃ r0 r1 r2 r3 r4 r5:Int,isW r0∧isW r1∧isW r2∧isW r3∧isW r4∧isW r5∧(r0+18446744073709551616*r1+340282366920938463463374607431768211456*r2+6277101735386680763835789423207666416102355444464034512896*r3+115792089237316195423570985008687907853269984665640564039457584007913129639936*r4+2135987035920910082395021706169552114602704522356652769947041607822219725780640550022962086936576*r5)=(q0_+18446744073709551616*q1_+340282366920938463463374607431768211456*q2_+6277101735386680763835789423207666416102355444464034512896*q3_+115792089237316195423570985008687907853269984665640564039457584007913129639936*q4_+2135987035920910082395021706169552114602704522356652769947041607822219725780640550022962086936576*q5_)+115792089237316195423570985008687907853269984665640564039457584007913129639936*p∧ExtB g w W∧W.heap[g]? = some (.cells (ints .u64 [r0,r1,r2,r3,r4,r5]) 150)):=by
  refine enter 44 [(0,.int .i64 4),(1,.int .u64 (xx)),(2,.int .u64 (yy)),(3,.pointer (some ⟨g,0,none⟩))] Tryd.func90 rfl rfl kj rfl <| sgC fun K2 hK2=>sg 2 kj ?_
  obtain ⟨hi_,lo_,hhi,hlo,hml,cml⟩:=mul64 xx yy hxx hyy
  rw [hp] at hml
  refine Qao (.tuple #[.int .u64 (hi_),.int .u64 (lo_)]) 80 #[.int .u64 (xx),.int .u64 (yy)] 14 rfl kj kj ((mulR (cml _))) fun W1 e1=>sg 5 kj <| sgN hK2 <| sgB kj <| sgC fun K4 hK4=>sg 3 kj ?_
  have r1_1:=(Qaa hg e1)
  refine Qad (.int .u64 q4_) 21 rfl kj (Qak 52 _ g 4 150 _ (.int .u64 q4_) _ r1_1 rfl kj kj kj) <| sg 1 kj ?_
  obtain ⟨s1,d1,hs1,hd1,he1,ra1⟩:=add64 (q4_) (lo_) (0) hq4_ hlo ⟨by decide,by decide⟩
  refine Qad (.tuple #[.int .u64 (s1),.int .u64 (d1)]) 23 rfl kj (Qbk (f:=65) (args:=#[.int .u64 q4_,.int .u64 (lo_),.int .u64 0]) _ _ _ rfl kj kj (ra1 _)) <| sg 4 kj <| Qah g _ (ints .u64 ([q0_,q1_,q2_,q3_,(s1),q5_])) 150 r1_1 rfl kj (Qaw 52 _ _ g 4 150 _ _ r1_1 rfl kj kj kj (show 4<6 by decide)) fun W2 p2 r1_2=>sg 1 kj <| sgN hK4 <| sgB kj <| wp_block <| wp_loop_rounds 2 ?_
  show Code.wp _ _ (Exit.then (Code.rounds _ _ _ 1) _) _ _
  refine wp_seq_k fun K6 hK6=>sgB kj <| cond_true kj <| wp_skip <| hK6 _ _ <| wp_seq_k fun K8 hK8=>wp_block <| sgC fun K9 hK9=>sg 3 kj <| Qad (.int .u64 q5_) 37 rfl kj (Qak 52 _ g 5 150 _ (.int .u64 q5_) _ r1_2 rfl kj kj kj) ?_
  refine sg 2 kj ?_
  obtain ⟨s2,d2,hs2,hd2,he2,ra2⟩:=add64 (q5_) (hi_) (d1) hq5_ hhi hd1
  refine Qad (.tuple #[.int .u64 (s2),.int .u64 (d2)]) 40 rfl kj (Qbk (f:=65) (args:=#[.int .u64 q5_,.int .u64 (hi_),.int .u64 (d1)]) _ _ _ rfl kj kj (ra2 _)) <| sg 4 kj <| Qah g _ (ints .u64 ([q0_,q1_,q2_,q3_,(s1),(s2)])) 150 r1_2 rfl kj (Qaw 52 _ _ g 5 150 _ _ r1_2 rfl kj kj kj (show 5<6 by decide)) fun W3 p3 r1_3=>sg 1 kj <| sgN hK9 <| sgA kj <| hK8 _ _ <| sgA kj ?_
  show Code.rounds _ _ _ 1 _ _
  show Code.wp _ _ (Exit.then (Code.rounds _ _ _ 0) _) _ _
  refine wp_seq_k fun K10 hK10=>sgB kj <| cond_false kj <| wp_exit ?_
  repeat (first | with_reducible refine goX1 ?_ | with_reducible refine goX2 ?_ | with_reducible refine goX3 ?_)
  exact (show bodyPost _ _ _ .normal _ _ from end0 rfl ⟨rfl,q0_,q1_,q2_,q3_,s1,s2,hq0_,hq1_,hq2_,hq3_,hs1,hs2,(by obtain ⟨u1,v1⟩:=id hs1; obtain ⟨u2,v2⟩:=id hs2; obtain ⟨uq0,vq0⟩:=id hq0_; obtain ⟨uq1,vq1⟩:=id hq1_; obtain ⟨uq2,vq2⟩:=id hq2_; obtain ⟨uq3,vq3⟩:=id hq3_; obtain ⟨uq4,vq4⟩:=id hq4_; obtain ⟨uq5,vq5⟩:=id hq5_; obtain ⟨ud1,vd1⟩:=id hd1; obtain ⟨ud2,vd2⟩:=id hd2; obtain ⟨uh1,uh2⟩:=id hhi; obtain ⟨ul1,ul2⟩:=id hlo; omega),(ExtB.puts (ExtB.puts (ExtB.ext (ExtB.refl g w) e1) p2) p3),r1_3⟩)
end Go.Proofs.YtmljnchhgkfemaaDoor.Ae
end
section
namespace Go.Proofs.YtmljnchhgkfemaaDoor.Ae
open Go Go.RowKit
open Rely Auto Own Sha
open Sha Cha
def mulV (v : Int):Int:=v%1361129467683753853853498429727072845824+5*(v/1361129467683753853853498429727072845824)
theorem shr2 (q : Int) (h:isW q):q.fdiv (2^min (2:Int).toNat IntKind.u64.bits)=q/4:=by
  have e:(2:Int)^min (2:Int).toNat IntKind.u64.bits=4:=by decide
  rw [e,Int.fdiv_eq_ediv_of_nonneg _ (by decide)]
theorem Qqy (q : Int) (h:isW q):IntKind.u64.wrap (q*2^min (62:Int).toNat IntKind.u64.bits)=q%4*4611686018427387904:=by
  have e:(2:Int)^min (62:Int).toNat IntKind.u64.bits=4611686018427387904:=by decide
  have h3:∀ z:Int,IntKind.u64.wrap z=z%18446744073709551616:=fun _=>rfl
  rw [e,h3]
  obtain ⟨h1,h2⟩:=h
  omega
theorem or62 (q r:Int) (hq:isW q) (hr:isW r):bits .or .u64 (q/4) (r%4*4611686018427387904)=q/4+r%4*4611686018427387904:=by
  obtain ⟨q0,q1⟩:=hq
  obtain ⟨r0,r1⟩:=hr
  obtain ⟨A,hA⟩:=Int.eq_ofNat_of_zero_le (show 0≤q/4 by omega)
  obtain ⟨C,hC⟩:=Int.eq_ofNat_of_zero_le (show 0≤r%4 by omega)
  rw [hA,hC]
  have hA2:A<2^62:=by omega
  have hC2:C<4:=by omega
  have e:((C:Nat):Int)*4611686018427387904=((C*4611686018427387904:Nat):Int):=by rw [Int.natCast_mul]; rfl
  rw [e,bits_or_u64_nat A (C*4611686018427387904) (by omega) (by omega)]
  have h:=Nat.shiftLeft_add_eq_or_of_lt hA2 C
  rw [Nat.shiftLeft_eq] at h
  rw [Nat.or_comm,←show C*2^62=C*4611686018427387904 from rfl,←h]
  rw [Int.natCast_add]; omega
theorem and3 (q : Int) (h:isW q):bits .and .u64 q 3=q%4:=by
  obtain ⟨A,rfl⟩:=Int.eq_ofNat_of_zero_le h.1
  have h:=bits_and_u64_nat A 3 (by have:=h.2; omega) (by omega)
  have e:A&&&3=A%4:=Nat.and_two_pow_sub_one_eq_mod A 2
  rw [e] at h
  exact h
theorem QoF {a0 a1 a2 a3 a4 a5 e0 e1 f0 f1 f2 f3 f4 f5 v:Int} (ha0:isW a0) (ha1:isW a1) (ha2:isW a2) (ha3:isW a3) (ha4:isW a4) (ha5:isW a5) (hf0:isW f0) (hf1:isW f1) (hf2:isW f2) (hf3:isW f3) (hf4:isW f4) (hf5:isW f5)
    (ha:(a0+18446744073709551616*a1+340282366920938463463374607431768211456*a2+6277101735386680763835789423207666416102355444464034512896*a3+115792089237316195423570985008687907853269984665640564039457584007913129639936*a4+2135987035920910082395021706169552114602704522356652769947041607822219725780640550022962086936576*a5)=v) (hv:v<115792089237316195423570985008687907853269984665640564039457584007913129639936) (h0:e0=a2/4+a3%4*4611686018427387904) (h1:e1=a3/4)
    (hf:(f0+18446744073709551616*f1+340282366920938463463374607431768211456*f2+6277101735386680763835789423207666416102355444464034512896*f3+115792089237316195423570985008687907853269984665640564039457584007913129639936*f4+2135987035920910082395021706169552114602704522356652769947041607822219725780640550022962086936576*f5)=(a0+18446744073709551616*a1+340282366920938463463374607431768211456*(a2%4))+5*e0+18446744073709551616*(5*e1)):f0+18446744073709551616*f1+340282366920938463463374607431768211456*f2=mulV v:=by
  obtain ⟨a0a,a0b⟩:=ha0
  obtain ⟨a1a,a1b⟩:=ha1
  obtain ⟨a2a,a2b⟩:=ha2
  obtain ⟨a3a,a3b⟩:=ha3
  obtain ⟨a4a,-⟩:=ha4
  obtain ⟨a5a,-⟩:=ha5
  obtain ⟨f0a,f0b⟩:=hf0
  obtain ⟨f1a,f1b⟩:=hf1
  obtain ⟨f2a,f2b⟩:=hf2
  obtain ⟨f3a,-⟩:=hf3
  obtain ⟨f4a,-⟩:=hf4
  obtain ⟨f5a,-⟩:=hf5
  have z5:a5=0:=by omega
  have z4:a4=0:=by omega
  subst z5 z4
  have e3:v=a0+18446744073709551616*a1+340282366920938463463374607431768211456*(a2%4)+1361129467683753853853498429727072845824*(a2/4+4611686018427387904*a3):=by omega
  have hl:0≤a0+18446744073709551616*a1+340282366920938463463374607431768211456*(a2%4)∧a0+18446744073709551616*a1+340282366920938463463374607431768211456*(a2%4)<1361129467683753853853498429727072845824:=by omega
  have hm:v%1361129467683753853853498429727072845824=a0+18446744073709551616*a1+340282366920938463463374607431768211456*(a2%4):=by omega
  have hd:v/1361129467683753853853498429727072845824=a2/4+4611686018427387904*a3:=by omega
  have he:e0+18446744073709551616*e1=a2/4+4611686018427387904*a3:=by omega
  have hlt:a2/4+4611686018427387904*a3<85070591730234615865843651857942052864:=by omega
  have hsum:(f0+18446744073709551616*f1+340282366920938463463374607431768211456*f2+6277101735386680763835789423207666416102355444464034512896*f3+115792089237316195423570985008687907853269984665640564039457584007913129639936*f4+2135987035920910082395021706169552114602704522356652769947041607822219725780640550022962086936576*f5)<2722258935367507707706996859454145691648:=by omega
  have y5:f5=0:=by omega
  have y4:f4=0:=by omega
  have y3:f3=0:=by omega
  subst y5 y4 y3
  unfold mulV
  rw [hm,hd]
  omega
theorem Qih {a b:Int} (ha:0≤a) (hb:0≤b) (ha2:a<5444517870735015415413993718908291383296) (hb2:b<21267647932558653966460912964485513216):a*b<115792089237316195423570985008687907853269984665640564039457584007913129639936:=by
  have h1:a*b≤a*21267647932558653966460912964485513216:=Int.mul_le_mul_of_nonneg_left (by omega) ha
  omega
set_option maxRecDepth 100000 in
theorem mulW (m0_ m1_ m2_ n0_ n1_ n2_ va vb:Int) (hm0_:isW m0_) (hm1_:isW m1_) (hm2_:isW m2_) (hn0_:isW n0_) (hn1_:isW n1_) (hn2_:isW n2_) (hva:(m0_+18446744073709551616*m1_+340282366920938463463374607431768211456*m2_)=va) (hvb:(n0_+18446744073709551616*n1_+340282366920938463463374607431768211456*n2_)=vb) (hal:va<5444517870735015415413993718908291383296) (hbl:vb<21267647932558653966460912964485513216) (w:World) :
    Calls Tryd.prog 89 #[.agg (ints .u64 [m0_,m1_,m2_]),.agg (ints .u64 [n0_,n1_,n2_])] w (Ret w (.agg (ints .u64 (nw3 (mulV (va*vb)))))):=by
  obtain ⟨p00,ep00⟩:∃ z,z=m0_*n0_:=⟨_,rfl⟩
  have hp00:0≤p00:=by rw [ep00]; exact Int.mul_nonneg hm0_.1 hn0_.1
  obtain ⟨p01,ep01⟩:∃ z,z=m0_*n1_:=⟨_,rfl⟩
  have hp01:0≤p01:=by rw [ep01]; exact Int.mul_nonneg hm0_.1 hn1_.1
  obtain ⟨p02,ep02⟩:∃ z,z=m0_*n2_:=⟨_,rfl⟩
  have hp02:0≤p02:=by rw [ep02]; exact Int.mul_nonneg hm0_.1 hn2_.1
  obtain ⟨p10,ep10⟩:∃ z,z=m1_*n0_:=⟨_,rfl⟩
  have hp10:0≤p10:=by rw [ep10]; exact Int.mul_nonneg hm1_.1 hn0_.1
  obtain ⟨p11,ep11⟩:∃ z,z=m1_*n1_:=⟨_,rfl⟩
  have hp11:0≤p11:=by rw [ep11]; exact Int.mul_nonneg hm1_.1 hn1_.1
  obtain ⟨p12,ep12⟩:∃ z,z=m1_*n2_:=⟨_,rfl⟩
  have hp12:0≤p12:=by rw [ep12]; exact Int.mul_nonneg hm1_.1 hn2_.1
  obtain ⟨p20,ep20⟩:∃ z,z=m2_*n0_:=⟨_,rfl⟩
  have hp20:0≤p20:=by rw [ep20]; exact Int.mul_nonneg hm2_.1 hn0_.1
  obtain ⟨p21,ep21⟩:∃ z,z=m2_*n1_:=⟨_,rfl⟩
  have hp21:0≤p21:=by rw [ep21]; exact Int.mul_nonneg hm2_.1 hn1_.1
  obtain ⟨p22,ep22⟩:∃ z,z=m2_*n2_:=⟨_,rfl⟩
  have hp22:0≤p22:=by rw [ep22]; exact Int.mul_nonneg hm2_.1 hn2_.1
  have hT:1*p00+18446744073709551616*p01+340282366920938463463374607431768211456*p02+18446744073709551616*p10+340282366920938463463374607431768211456*p11+6277101735386680763835789423207666416102355444464034512896*p12+340282366920938463463374607431768211456*p20+6277101735386680763835789423207666416102355444464034512896*p21+115792089237316195423570985008687907853269984665640564039457584007913129639936*p22=va*vb:=by rw [ep00,ep01,ep02,ep10,ep11,ep12,ep20,ep21,ep22,←hva,←hvb]; grind
  have hTl:1*p00+18446744073709551616*p01+340282366920938463463374607431768211456*p02+18446744073709551616*p10+340282366920938463463374607431768211456*p11+6277101735386680763835789423207666416102355444464034512896*p12+340282366920938463463374607431768211456*p20+6277101735386680763835789423207666416102355444464034512896*p21+115792089237316195423570985008687907853269984665640564039457584007913129639936*p22<115792089237316195423570985008687907853269984665640564039457584007913129639936:=by
    rw [hT]
    obtain ⟨a0,a1⟩:=id hm0_; obtain ⟨a2,a3⟩:=id hm1_; obtain ⟨a4,a5⟩:=id hm2_; obtain ⟨c0,c1⟩:=id hn0_; obtain ⟨c2,c3⟩:=id hn1_; obtain ⟨c4,c5⟩:=id hn2_
    exact Qih (by omega) (by omega) hal hbl
  refine enter 70 [(0,.agg (ints .u64 ([m0_,m1_,m2_]))),(1,.agg (ints .u64 ([n0_,n1_,n2_])))] Tryd.func89 rfl rfl kj rfl <| sgC fun K1 hK1=>Qaj (ints .u64 ([m0_,m1_,m2_])) 142 2 rfl kj kj fun g2 W1 l2 e1 r2_1=>?_
  have x1:=Ext.tr (Rely.Ext.refl w) e1
  have b2:=qT (Rely.Ext.refl w).size l2
  refine Qaj (ints .u64 ([n0_,n1_,n2_])) 142 3 rfl kj kj fun g3 W2 l3 e2 r3_2=>?_
  have x2:=Ext.tr x1 e2
  have b3:=qT x1.size l3
  refine Qaj (ints .u64 ([0,0,0])) 142 4 rfl kj kj fun g4 W3 l4 e3 r4_3=>?_
  have x3:=Ext.tr x2 e3
  refine sgN hK1 <| sgC fun K5 hK5=>Qaj (ints .u64 ([0,0,0,0,0,0])) 150 5 rfl kj kj fun g6 W4 l6 e4 r6_4=>?_
  have b6:=qT x3.size l6
  refine sgN hK5 <| sgB kj <| wp_seq_k fun K8 hK8=>sgC fun K9 hK9=>Qad (.agg (ints .u64 ([m0_,m1_,m2_]))) 15 rfl kj (Qae 142 _ g2 142 _ _ (Qaa (Qaa (Qaa r2_1 e2) e3) e4) rfl kj kj (isz (n:=3) kj kj)) <| sg 1 kj <| sgN hK9 <| wp_block <| wp_loop_rounds 4 ?_
  show Code.wp _ _ (Exit.then (Code.rounds _ _ _ 3) _) _ _
  refine sgB kj <| sgT kj <| wp_seq_k fun K12 hK12=>wp_block <| sgC fun K13 hK13=>sg 1 kj <| Qad (.int .u64 m0_) 19 rfl kj (Qa7 142 _ _ .i64 .u64 ([m0_,m1_,m2_]) 0 3 52 m0_ rfl kj kj kj kj kj rfl (by decide) rfl) <| sg 2 kj <| sgN hK13 <| sgC fun K14 hK14=>?_
  have r3_3:=(Qaa r3_2 e3)
  have r3_4:=(Qaa r3_3 e4)
  refine Qad (.agg (ints .u64 ([n0_,n1_,n2_]))) 20 rfl kj (Qae 142 _ g3 142 _ _ r3_4 rfl kj kj (isz (n:=3) kj kj)) <| sg 1 kj <| sgN hK14 <| wp_block <| wp_loop_rounds 4 ?_
  show Code.wp _ _ (Exit.then (Code.rounds _ _ _ 3) _) _ _
  refine sgB kj <| sgT kj <| wp_seq_k fun K17 hK17=>wp_block <| sgC fun K18 hK18=>sg 1 kj <| Qad (.int .u64 n0_) 24 rfl kj (Qa7 142 _ _ .i64 .u64 ([n0_,n1_,n2_]) 0 3 52 n0_ rfl kj kj kj kj kj rfl (by decide) rfl) <| sg 2 kj <| sgN hK18 <| Qan ?_
  refine sg 6 kj <| QaA (fun v W'=>v=.tuple #[]∧∃ r0 r1 r2 r3 r4 r5:Int,isW r0∧isW r1∧isW r2∧isW r3∧isW r4∧isW r5∧(r0+18446744073709551616*r1+340282366920938463463374607431768211456*r2+6277101735386680763835789423207666416102355444464034512896*r3+115792089237316195423570985008687907853269984665640564039457584007913129639936*r4+2135987035920910082395021706169552114602704522356652769947041607822219725780640550022962086936576*r5)=(0+18446744073709551616*0+340282366920938463463374607431768211456*0+6277101735386680763835789423207666416102355444464034512896*0+115792089237316195423570985008687907853269984665640564039457584007913129639936*0+2135987035920910082395021706169552114602704522356652769947041607822219725780640550022962086936576*0)+1*p00∧ExtB g6 W4 W'∧W'.heap[g6]? = some (.cells (ints .u64 [r0,r1,r2,r3,r4,r5]) 150)) 90 #[.int .i64 0,.int .u64 m0_,.int .u64 n0_,.pointer (some ⟨g6,0,none⟩)] 31 rfl kj kj ((QnU g6 0 0 0 0 0 0 m0_ n0_ p00 zero_isW zero_isW zero_isW zero_isW zero_isW zero_isW hm0_ hn0_ ep00.symm (by omega) _ r6_4).mono fun e w' h=>⟨_,h.1,rfl,h.2⟩) fun v W5 h=>?_
  obtain ⟨rfl,z1w0,z1w1,z1w2,z1w3,z1w4,z1w5,hz1w0,hz1w1,hz1w2,hz1w3,hz1w4,hz1w5,hV1,q5,r6_5⟩:=h
  have hS1:(z1w0+18446744073709551616*z1w1+340282366920938463463374607431768211456*z1w2+6277101735386680763835789423207666416102355444464034512896*z1w3+115792089237316195423570985008687907853269984665640564039457584007913129639936*z1w4+2135987035920910082395021706169552114602704522356652769947041607822219725780640550022962086936576*z1w5)=1*p00:=by omega
  refine Qaz <| hK17 _ _ <| sgA kj ?_
  show Code.rounds _ _ _ 3 _ _
  show Code.wp _ _ (Exit.then (Code.rounds _ _ _ 2) _) _ _
  refine sgB kj <| sgT kj <| wp_seq_k fun K21 hK21=>wp_block <| sgC fun K22 hK22=>sg 1 kj <| Qad (.int .u64 n1_) 24 rfl kj (Qa7 142 _ _ .i64 .u64 ([n0_,n1_,n2_]) 1 3 52 n1_ rfl kj kj kj kj kj rfl (by decide) rfl) <| sg 2 kj <| sgN hK22 <| Qan ?_
  refine sg 6 kj <| QaA (fun v W'=>v=.tuple #[]∧∃ r0 r1 r2 r3 r4 r5:Int,isW r0∧isW r1∧isW r2∧isW r3∧isW r4∧isW r5∧(r0+18446744073709551616*r1+340282366920938463463374607431768211456*r2+6277101735386680763835789423207666416102355444464034512896*r3+115792089237316195423570985008687907853269984665640564039457584007913129639936*r4+2135987035920910082395021706169552114602704522356652769947041607822219725780640550022962086936576*r5)=(z1w0+18446744073709551616*z1w1+340282366920938463463374607431768211456*z1w2+6277101735386680763835789423207666416102355444464034512896*z1w3+115792089237316195423570985008687907853269984665640564039457584007913129639936*z1w4+2135987035920910082395021706169552114602704522356652769947041607822219725780640550022962086936576*z1w5)+18446744073709551616*p01∧ExtB g6 W5 W'∧W'.heap[g6]? = some (.cells (ints .u64 [r0,r1,r2,r3,r4,r5]) 150)) 90 #[.int .i64 1,.int .u64 m0_,.int .u64 n1_,.pointer (some ⟨g6,0,none⟩)] 31 rfl kj kj ((QlB g6 z1w0 z1w1 z1w2 z1w3 z1w4 z1w5 m0_ n1_ p01 hz1w0 hz1w1 hz1w2 hz1w3 hz1w4 hz1w5 hm0_ hn1_ ep01.symm (by rw [hS1]; omega) _ r6_5).mono fun e w' h=>⟨_,h.1,rfl,h.2⟩) fun v W6 h=>?_
  obtain ⟨rfl,z2w0,z2w1,z2w2,z2w3,z2w4,z2w5,hz2w0,hz2w1,hz2w2,hz2w3,hz2w4,hz2w5,hV2,q6,r6_6⟩:=h
  have hS2:(z2w0+18446744073709551616*z2w1+340282366920938463463374607431768211456*z2w2+6277101735386680763835789423207666416102355444464034512896*z2w3+115792089237316195423570985008687907853269984665640564039457584007913129639936*z2w4+2135987035920910082395021706169552114602704522356652769947041607822219725780640550022962086936576*z2w5)=1*p00+18446744073709551616*p01:=by omega
  refine Qaz <| hK21 _ _ <| sgA kj ?_
  show Code.rounds _ _ _ 2 _ _
  show Code.wp _ _ (Exit.then (Code.rounds _ _ _ 1) _) _ _
  refine sgB kj <| sgT kj <| wp_seq_k fun K25 hK25=>wp_block <| sgC fun K26 hK26=>sg 1 kj <| Qad (.int .u64 n2_) 24 rfl kj (Qa7 142 _ _ .i64 .u64 ([n0_,n1_,n2_]) 2 3 52 n2_ rfl kj kj kj kj kj rfl (by decide) rfl) <| sg 2 kj <| sgN hK26 <| Qan ?_
  refine sg 6 kj <| QaA (fun v W'=>v=.tuple #[]∧∃ r0 r1 r2 r3 r4 r5:Int,isW r0∧isW r1∧isW r2∧isW r3∧isW r4∧isW r5∧(r0+18446744073709551616*r1+340282366920938463463374607431768211456*r2+6277101735386680763835789423207666416102355444464034512896*r3+115792089237316195423570985008687907853269984665640564039457584007913129639936*r4+2135987035920910082395021706169552114602704522356652769947041607822219725780640550022962086936576*r5)=(z2w0+18446744073709551616*z2w1+340282366920938463463374607431768211456*z2w2+6277101735386680763835789423207666416102355444464034512896*z2w3+115792089237316195423570985008687907853269984665640564039457584007913129639936*z2w4+2135987035920910082395021706169552114602704522356652769947041607822219725780640550022962086936576*z2w5)+340282366920938463463374607431768211456*p02∧ExtB g6 W6 W'∧W'.heap[g6]? = some (.cells (ints .u64 [r0,r1,r2,r3,r4,r5]) 150)) 90 #[.int .i64 2,.int .u64 m0_,.int .u64 n2_,.pointer (some ⟨g6,0,none⟩)] 31 rfl kj kj ((QlA g6 z2w0 z2w1 z2w2 z2w3 z2w4 z2w5 m0_ n2_ p02 hz2w0 hz2w1 hz2w2 hz2w3 hz2w4 hz2w5 hm0_ hn2_ ep02.symm (by rw [hS2]; omega) _ r6_6).mono fun e w' h=>⟨_,h.1,rfl,h.2⟩) fun v W7 h=>?_
  obtain ⟨rfl,z3w0,z3w1,z3w2,z3w3,z3w4,z3w5,hz3w0,hz3w1,hz3w2,hz3w3,hz3w4,hz3w5,hV3,q7,r6_7⟩:=h
  have hS3:(z3w0+18446744073709551616*z3w1+340282366920938463463374607431768211456*z3w2+6277101735386680763835789423207666416102355444464034512896*z3w3+115792089237316195423570985008687907853269984665640564039457584007913129639936*z3w4+2135987035920910082395021706169552114602704522356652769947041607822219725780640550022962086936576*z3w5)=1*p00+18446744073709551616*p01+340282366920938463463374607431768211456*p02:=by omega
  refine Qaz <| hK25 _ _ <| sgA kj ?_
  show Code.rounds _ _ _ 1 _ _
  show Code.wp _ _ (Exit.then (Code.rounds _ _ _ 0) _) _ _
  refine sgB kj <| wp_seq_k fun K28 hK28=>cond_false kj <| wp_exit <| hK12 _ _ <| sgA kj ?_
  show Code.rounds _ _ _ 3 _ _
  show Code.wp _ _ (Exit.then (Code.rounds _ _ _ 2) _) _ _
  refine sgB kj <| sgT kj <| wp_seq_k fun K31 hK31=>wp_block <| sgC fun K32 hK32=>sg 1 kj <| Qad (.int .u64 m1_) 19 rfl kj (Qa7 142 _ _ .i64 .u64 ([m0_,m1_,m2_]) 1 3 52 m1_ rfl kj kj kj kj kj rfl (by decide) rfl) <| sg 2 kj <| sgN hK32 <| sgC fun K33 hK33=>?_
  have r3_7:=(ExtB.row q7 (ExtB.row q6 (ExtB.row q5 r3_4 (Qab r3_3 l6)) (Qab r3_3 l6)) (Qab r3_3 l6))
  refine Qad (.agg (ints .u64 ([n0_,n1_,n2_]))) 20 rfl kj (Qae 142 _ g3 142 _ _ r3_7 rfl kj kj (isz (n:=3) kj kj)) <| sg 1 kj <| sgN hK33 <| wp_block <| wp_loop_rounds 4 ?_
  show Code.wp _ _ (Exit.then (Code.rounds _ _ _ 3) _) _ _
  refine sgB kj <| sgT kj <| wp_seq_k fun K36 hK36=>wp_block <| sgC fun K37 hK37=>sg 1 kj <| Qad (.int .u64 n0_) 24 rfl kj (Qa7 142 _ _ .i64 .u64 ([n0_,n1_,n2_]) 0 3 52 n0_ rfl kj kj kj kj kj rfl (by decide) rfl) <| sg 2 kj <| sgN hK37 <| Qan ?_
  refine sg 6 kj <| QaA (fun v W'=>v=.tuple #[]∧∃ r0 r1 r2 r3 r4 r5:Int,isW r0∧isW r1∧isW r2∧isW r3∧isW r4∧isW r5∧(r0+18446744073709551616*r1+340282366920938463463374607431768211456*r2+6277101735386680763835789423207666416102355444464034512896*r3+115792089237316195423570985008687907853269984665640564039457584007913129639936*r4+2135987035920910082395021706169552114602704522356652769947041607822219725780640550022962086936576*r5)=(z3w0+18446744073709551616*z3w1+340282366920938463463374607431768211456*z3w2+6277101735386680763835789423207666416102355444464034512896*z3w3+115792089237316195423570985008687907853269984665640564039457584007913129639936*z3w4+2135987035920910082395021706169552114602704522356652769947041607822219725780640550022962086936576*z3w5)+18446744073709551616*p10∧ExtB g6 W7 W'∧W'.heap[g6]? = some (.cells (ints .u64 [r0,r1,r2,r3,r4,r5]) 150)) 90 #[.int .i64 1,.int .u64 m1_,.int .u64 n0_,.pointer (some ⟨g6,0,none⟩)] 31 rfl kj kj ((QlB g6 z3w0 z3w1 z3w2 z3w3 z3w4 z3w5 m1_ n0_ p10 hz3w0 hz3w1 hz3w2 hz3w3 hz3w4 hz3w5 hm1_ hn0_ ep10.symm (by rw [hS3]; omega) _ r6_7).mono fun e w' h=>⟨_,h.1,rfl,h.2⟩) fun v W8 h=>?_
  obtain ⟨rfl,z4w0,z4w1,z4w2,z4w3,z4w4,z4w5,hz4w0,hz4w1,hz4w2,hz4w3,hz4w4,hz4w5,hV4,q8,r6_8⟩:=h
  have hS4:(z4w0+18446744073709551616*z4w1+340282366920938463463374607431768211456*z4w2+6277101735386680763835789423207666416102355444464034512896*z4w3+115792089237316195423570985008687907853269984665640564039457584007913129639936*z4w4+2135987035920910082395021706169552114602704522356652769947041607822219725780640550022962086936576*z4w5)=1*p00+18446744073709551616*p01+340282366920938463463374607431768211456*p02+18446744073709551616*p10:=by omega
  refine Qaz <| hK36 _ _ <| sgA kj ?_
  show Code.rounds _ _ _ 3 _ _
  show Code.wp _ _ (Exit.then (Code.rounds _ _ _ 2) _) _ _
  refine sgB kj <| sgT kj <| wp_seq_k fun K40 hK40=>wp_block <| sgC fun K41 hK41=>sg 1 kj <| Qad (.int .u64 n1_) 24 rfl kj (Qa7 142 _ _ .i64 .u64 ([n0_,n1_,n2_]) 1 3 52 n1_ rfl kj kj kj kj kj rfl (by decide) rfl) <| sg 2 kj <| sgN hK41 <| Qan ?_
  refine sg 6 kj <| QaA (fun v W'=>v=.tuple #[]∧∃ r0 r1 r2 r3 r4 r5:Int,isW r0∧isW r1∧isW r2∧isW r3∧isW r4∧isW r5∧(r0+18446744073709551616*r1+340282366920938463463374607431768211456*r2+6277101735386680763835789423207666416102355444464034512896*r3+115792089237316195423570985008687907853269984665640564039457584007913129639936*r4+2135987035920910082395021706169552114602704522356652769947041607822219725780640550022962086936576*r5)=(z4w0+18446744073709551616*z4w1+340282366920938463463374607431768211456*z4w2+6277101735386680763835789423207666416102355444464034512896*z4w3+115792089237316195423570985008687907853269984665640564039457584007913129639936*z4w4+2135987035920910082395021706169552114602704522356652769947041607822219725780640550022962086936576*z4w5)+340282366920938463463374607431768211456*p11∧ExtB g6 W8 W'∧W'.heap[g6]? = some (.cells (ints .u64 [r0,r1,r2,r3,r4,r5]) 150)) 90 #[.int .i64 2,.int .u64 m1_,.int .u64 n1_,.pointer (some ⟨g6,0,none⟩)] 31 rfl kj kj ((QlA g6 z4w0 z4w1 z4w2 z4w3 z4w4 z4w5 m1_ n1_ p11 hz4w0 hz4w1 hz4w2 hz4w3 hz4w4 hz4w5 hm1_ hn1_ ep11.symm (by rw [hS4]; omega) _ r6_8).mono fun e w' h=>⟨_,h.1,rfl,h.2⟩) fun v W9 h=>?_
  obtain ⟨rfl,z5w0,z5w1,z5w2,z5w3,z5w4,z5w5,hz5w0,hz5w1,hz5w2,hz5w3,hz5w4,hz5w5,hV5,q9,r6_9⟩:=h
  have hS5:(z5w0+18446744073709551616*z5w1+340282366920938463463374607431768211456*z5w2+6277101735386680763835789423207666416102355444464034512896*z5w3+115792089237316195423570985008687907853269984665640564039457584007913129639936*z5w4+2135987035920910082395021706169552114602704522356652769947041607822219725780640550022962086936576*z5w5)=1*p00+18446744073709551616*p01+340282366920938463463374607431768211456*p02+18446744073709551616*p10+340282366920938463463374607431768211456*p11:=by omega
  refine Qaz <| hK40 _ _ <| sgA kj ?_
  show Code.rounds _ _ _ 2 _ _
  show Code.wp _ _ (Exit.then (Code.rounds _ _ _ 1) _) _ _
  refine sgB kj <| sgT kj <| wp_seq_k fun K44 hK44=>wp_block <| sgC fun K45 hK45=>sg 1 kj <| Qad (.int .u64 n2_) 24 rfl kj (Qa7 142 _ _ .i64 .u64 ([n0_,n1_,n2_]) 2 3 52 n2_ rfl kj kj kj kj kj rfl (by decide) rfl) <| sg 2 kj <| sgN hK45 <| Qan ?_
  refine sg 6 kj <| QaA (fun v W'=>v=.tuple #[]∧∃ r0 r1 r2 r3 r4 r5:Int,isW r0∧isW r1∧isW r2∧isW r3∧isW r4∧isW r5∧(r0+18446744073709551616*r1+340282366920938463463374607431768211456*r2+6277101735386680763835789423207666416102355444464034512896*r3+115792089237316195423570985008687907853269984665640564039457584007913129639936*r4+2135987035920910082395021706169552114602704522356652769947041607822219725780640550022962086936576*r5)=(z5w0+18446744073709551616*z5w1+340282366920938463463374607431768211456*z5w2+6277101735386680763835789423207666416102355444464034512896*z5w3+115792089237316195423570985008687907853269984665640564039457584007913129639936*z5w4+2135987035920910082395021706169552114602704522356652769947041607822219725780640550022962086936576*z5w5)+6277101735386680763835789423207666416102355444464034512896*p12∧ExtB g6 W9 W'∧W'.heap[g6]? = some (.cells (ints .u64 [r0,r1,r2,r3,r4,r5]) 150)) 90 #[.int .i64 3,.int .u64 m1_,.int .u64 n2_,.pointer (some ⟨g6,0,none⟩)] 31 rfl kj kj ((QnT g6 z5w0 z5w1 z5w2 z5w3 z5w4 z5w5 m1_ n2_ p12 hz5w0 hz5w1 hz5w2 hz5w3 hz5w4 hz5w5 hm1_ hn2_ ep12.symm (by rw [hS5]; omega) _ r6_9).mono fun e w' h=>⟨_,h.1,rfl,h.2⟩) fun v W10 h=>?_
  obtain ⟨rfl,z6w0,z6w1,z6w2,z6w3,z6w4,z6w5,hz6w0,hz6w1,hz6w2,hz6w3,hz6w4,hz6w5,hV6,q10,r6_10⟩:=h
  have hS6:(z6w0+18446744073709551616*z6w1+340282366920938463463374607431768211456*z6w2+6277101735386680763835789423207666416102355444464034512896*z6w3+115792089237316195423570985008687907853269984665640564039457584007913129639936*z6w4+2135987035920910082395021706169552114602704522356652769947041607822219725780640550022962086936576*z6w5)=1*p00+18446744073709551616*p01+340282366920938463463374607431768211456*p02+18446744073709551616*p10+340282366920938463463374607431768211456*p11+6277101735386680763835789423207666416102355444464034512896*p12:=by omega
  refine Qaz <| hK44 _ _ <| sgA kj ?_
  show Code.rounds _ _ _ 1 _ _
  show Code.wp _ _ (Exit.then (Code.rounds _ _ _ 0) _) _ _
  refine sgB kj <| wp_seq_k fun K47 hK47=>cond_false kj <| wp_exit <| hK31 _ _ <| sgA kj ?_
  show Code.rounds _ _ _ 2 _ _
  show Code.wp _ _ (Exit.then (Code.rounds _ _ _ 1) _) _ _
  refine sgB kj <| sgT kj <| wp_seq_k fun K50 hK50=>wp_block <| sgC fun K51 hK51=>sg 1 kj <| Qad (.int .u64 m2_) 19 rfl kj (Qa7 142 _ _ .i64 .u64 ([m0_,m1_,m2_]) 2 3 52 m2_ rfl kj kj kj kj kj rfl (by decide) rfl) <| sg 2 kj <| sgN hK51 <| sgC fun K52 hK52=>?_
  refine Qad (.agg (ints .u64 ([n0_,n1_,n2_]))) 20 rfl kj (Qae 142 _ g3 142 _ _ (ExtB.row q10 (ExtB.row q9 (ExtB.row q8 r3_7 (Qab r3_3 l6)) (Qab r3_3 l6)) (Qab r3_3 l6)) rfl kj kj (isz (n:=3) kj kj)) <| sg 1 kj <| sgN hK52 <| wp_block <| wp_loop_rounds 4 ?_
  show Code.wp _ _ (Exit.then (Code.rounds _ _ _ 3) _) _ _
  refine sgB kj <| sgT kj <| wp_seq_k fun K55 hK55=>wp_block <| sgC fun K56 hK56=>sg 1 kj <| Qad (.int .u64 n0_) 24 rfl kj (Qa7 142 _ _ .i64 .u64 ([n0_,n1_,n2_]) 0 3 52 n0_ rfl kj kj kj kj kj rfl (by decide) rfl) <| sg 2 kj <| sgN hK56 <| Qan ?_
  refine sg 6 kj <| QaA (fun v W'=>v=.tuple #[]∧∃ r0 r1 r2 r3 r4 r5:Int,isW r0∧isW r1∧isW r2∧isW r3∧isW r4∧isW r5∧(r0+18446744073709551616*r1+340282366920938463463374607431768211456*r2+6277101735386680763835789423207666416102355444464034512896*r3+115792089237316195423570985008687907853269984665640564039457584007913129639936*r4+2135987035920910082395021706169552114602704522356652769947041607822219725780640550022962086936576*r5)=(z6w0+18446744073709551616*z6w1+340282366920938463463374607431768211456*z6w2+6277101735386680763835789423207666416102355444464034512896*z6w3+115792089237316195423570985008687907853269984665640564039457584007913129639936*z6w4+2135987035920910082395021706169552114602704522356652769947041607822219725780640550022962086936576*z6w5)+340282366920938463463374607431768211456*p20∧ExtB g6 W10 W'∧W'.heap[g6]? = some (.cells (ints .u64 [r0,r1,r2,r3,r4,r5]) 150)) 90 #[.int .i64 2,.int .u64 m2_,.int .u64 n0_,.pointer (some ⟨g6,0,none⟩)] 31 rfl kj kj ((QlA g6 z6w0 z6w1 z6w2 z6w3 z6w4 z6w5 m2_ n0_ p20 hz6w0 hz6w1 hz6w2 hz6w3 hz6w4 hz6w5 hm2_ hn0_ ep20.symm (by rw [hS6]; omega) _ r6_10).mono fun e w' h=>⟨_,h.1,rfl,h.2⟩) fun v W11 h=>?_
  obtain ⟨rfl,z7w0,z7w1,z7w2,z7w3,z7w4,z7w5,hz7w0,hz7w1,hz7w2,hz7w3,hz7w4,hz7w5,hV7,q11,r6_11⟩:=h
  have hS7:(z7w0+18446744073709551616*z7w1+340282366920938463463374607431768211456*z7w2+6277101735386680763835789423207666416102355444464034512896*z7w3+115792089237316195423570985008687907853269984665640564039457584007913129639936*z7w4+2135987035920910082395021706169552114602704522356652769947041607822219725780640550022962086936576*z7w5)=1*p00+18446744073709551616*p01+340282366920938463463374607431768211456*p02+18446744073709551616*p10+340282366920938463463374607431768211456*p11+6277101735386680763835789423207666416102355444464034512896*p12+340282366920938463463374607431768211456*p20:=by omega
  refine Qaz <| hK55 _ _ <| sgA kj ?_
  show Code.rounds _ _ _ 3 _ _
  show Code.wp _ _ (Exit.then (Code.rounds _ _ _ 2) _) _ _
  refine sgB kj <| sgT kj <| wp_seq_k fun K59 hK59=>wp_block <| sgC fun K60 hK60=>sg 1 kj <| Qad (.int .u64 n1_) 24 rfl kj (Qa7 142 _ _ .i64 .u64 ([n0_,n1_,n2_]) 1 3 52 n1_ rfl kj kj kj kj kj rfl (by decide) rfl) <| sg 2 kj <| sgN hK60 <| Qan ?_
  refine sg 6 kj <| QaA (fun v W'=>v=.tuple #[]∧∃ r0 r1 r2 r3 r4 r5:Int,isW r0∧isW r1∧isW r2∧isW r3∧isW r4∧isW r5∧(r0+18446744073709551616*r1+340282366920938463463374607431768211456*r2+6277101735386680763835789423207666416102355444464034512896*r3+115792089237316195423570985008687907853269984665640564039457584007913129639936*r4+2135987035920910082395021706169552114602704522356652769947041607822219725780640550022962086936576*r5)=(z7w0+18446744073709551616*z7w1+340282366920938463463374607431768211456*z7w2+6277101735386680763835789423207666416102355444464034512896*z7w3+115792089237316195423570985008687907853269984665640564039457584007913129639936*z7w4+2135987035920910082395021706169552114602704522356652769947041607822219725780640550022962086936576*z7w5)+6277101735386680763835789423207666416102355444464034512896*p21∧ExtB g6 W11 W'∧W'.heap[g6]? = some (.cells (ints .u64 [r0,r1,r2,r3,r4,r5]) 150)) 90 #[.int .i64 3,.int .u64 m2_,.int .u64 n1_,.pointer (some ⟨g6,0,none⟩)] 31 rfl kj kj ((QnT g6 z7w0 z7w1 z7w2 z7w3 z7w4 z7w5 m2_ n1_ p21 hz7w0 hz7w1 hz7w2 hz7w3 hz7w4 hz7w5 hm2_ hn1_ ep21.symm (by rw [hS7]; omega) _ r6_11).mono fun e w' h=>⟨_,h.1,rfl,h.2⟩) fun v W12 h=>?_
  obtain ⟨rfl,z8w0,z8w1,z8w2,z8w3,z8w4,z8w5,hz8w0,hz8w1,hz8w2,hz8w3,hz8w4,hz8w5,hV8,q12,r6_12⟩:=h
  have hS8:(z8w0+18446744073709551616*z8w1+340282366920938463463374607431768211456*z8w2+6277101735386680763835789423207666416102355444464034512896*z8w3+115792089237316195423570985008687907853269984665640564039457584007913129639936*z8w4+2135987035920910082395021706169552114602704522356652769947041607822219725780640550022962086936576*z8w5)=1*p00+18446744073709551616*p01+340282366920938463463374607431768211456*p02+18446744073709551616*p10+340282366920938463463374607431768211456*p11+6277101735386680763835789423207666416102355444464034512896*p12+340282366920938463463374607431768211456*p20+6277101735386680763835789423207666416102355444464034512896*p21:=by omega
  refine Qaz <| hK59 _ _ <| sgA kj ?_
  show Code.rounds _ _ _ 2 _ _
  show Code.wp _ _ (Exit.then (Code.rounds _ _ _ 1) _) _ _
  refine sgB kj <| sgT kj <| wp_seq_k fun K63 hK63=>wp_block <| sgC fun K64 hK64=>sg 1 kj <| Qad (.int .u64 n2_) 24 rfl kj (Qa7 142 _ _ .i64 .u64 ([n0_,n1_,n2_]) 2 3 52 n2_ rfl kj kj kj kj kj rfl (by decide) rfl) <| sg 2 kj <| sgN hK64 <| Qan ?_
  refine sg 6 kj <| QaA (fun v W'=>v=.tuple #[]∧∃ r0 r1 r2 r3 r4 r5:Int,isW r0∧isW r1∧isW r2∧isW r3∧isW r4∧isW r5∧(r0+18446744073709551616*r1+340282366920938463463374607431768211456*r2+6277101735386680763835789423207666416102355444464034512896*r3+115792089237316195423570985008687907853269984665640564039457584007913129639936*r4+2135987035920910082395021706169552114602704522356652769947041607822219725780640550022962086936576*r5)=(z8w0+18446744073709551616*z8w1+340282366920938463463374607431768211456*z8w2+6277101735386680763835789423207666416102355444464034512896*z8w3+115792089237316195423570985008687907853269984665640564039457584007913129639936*z8w4+2135987035920910082395021706169552114602704522356652769947041607822219725780640550022962086936576*z8w5)+115792089237316195423570985008687907853269984665640564039457584007913129639936*p22∧ExtB g6 W12 W'∧W'.heap[g6]? = some (.cells (ints .u64 [r0,r1,r2,r3,r4,r5]) 150)) 90 #[.int .i64 4,.int .u64 m2_,.int .u64 n2_,.pointer (some ⟨g6,0,none⟩)] 31 rfl kj kj ((QpH g6 z8w0 z8w1 z8w2 z8w3 z8w4 z8w5 m2_ n2_ p22 hz8w0 hz8w1 hz8w2 hz8w3 hz8w4 hz8w5 hm2_ hn2_ ep22.symm (by rw [hS8]; omega) _ r6_12).mono fun e w' h=>⟨_,h.1,rfl,h.2⟩) fun v W13 h=>?_
  obtain ⟨rfl,z9w0,z9w1,z9w2,z9w3,z9w4,z9w5,hz9w0,hz9w1,hz9w2,hz9w3,hz9w4,hz9w5,hV9,q13,r6_13⟩:=h
  have x13:=ExtB.up (ExtB.up (ExtB.up (ExtB.up (ExtB.up (ExtB.up (ExtB.up (ExtB.up (ExtB.up (Ext.tr x3 e4) q5 b6) q6 b6) q7 b6) q8 b6) q9 b6) q10 b6) q11 b6) q12 b6) q13 b6
  have hS9:(z9w0+18446744073709551616*z9w1+340282366920938463463374607431768211456*z9w2+6277101735386680763835789423207666416102355444464034512896*z9w3+115792089237316195423570985008687907853269984665640564039457584007913129639936*z9w4+2135987035920910082395021706169552114602704522356652769947041607822219725780640550022962086936576*z9w5)=1*p00+18446744073709551616*p01+340282366920938463463374607431768211456*p02+18446744073709551616*p10+340282366920938463463374607431768211456*p11+6277101735386680763835789423207666416102355444464034512896*p12+340282366920938463463374607431768211456*p20+6277101735386680763835789423207666416102355444464034512896*p21+115792089237316195423570985008687907853269984665640564039457584007913129639936*p22:=by omega
  refine Qaz <| hK63 _ _ <| sgA kj ?_
  show Code.rounds _ _ _ 1 _ _
  show Code.wp _ _ (Exit.then (Code.rounds _ _ _ 0) _) _ _
  refine sgB kj <| wp_seq_k fun K66 hK66=>cond_false kj <| wp_exit <| hK50 _ _ <| sgA kj ?_
  show Code.rounds _ _ _ 1 _ _
  show Code.wp _ _ (Exit.then (Code.rounds _ _ _ 0) _) _ _
  refine sgB kj <| wp_seq_k fun K68 hK68=>cond_false kj <| wp_exit <| hK8 _ _ <| sgC fun K69 hK69=>?_
  obtain ⟨e0_,ee0⟩:∃ z,z=z9w2/4+z9w3%4*4611686018427387904:=⟨_,rfl⟩
  obtain ⟨e1_,ee1⟩:∃ z,z=z9w3/4:=⟨_,rfl⟩
  have he0:isW e0_:=by obtain ⟨a1,a2⟩:=id hz9w2; obtain ⟨a3,a4⟩:=id hz9w3; exact ⟨by omega,by omega⟩
  have he1:isW e1_:=by obtain ⟨a3,a4⟩:=id hz9w3; exact ⟨by omega,by omega⟩
  refine sg 1 kj <| Qad (.int .u64 z9w2) 35 rfl kj (Qak 52 _ g6 2 150 _ (.int .u64 z9w2) _ r6_13 rfl kj kj kj) <| Qad (.int .u64 (z9w2/4)) 36 rfl kj (Qbc .shr _ _ _ _ .u64 .u64 _ _ _ rfl kj kj (Qdf _ _ _ _ _ _ (by decide) (shr2 _ hz9w2))) <| sg 1 kj <| Qad (.int .u64 z9w3) 38 rfl kj (Qak 52 _ g6 3 150 _ (.int .u64 z9w3) _ r6_13 rfl kj kj kj) <| Qad (.int .u64 (z9w3%4*4611686018427387904)) 39 rfl kj (Qbc .shl _ _ _ _ .u64 .u64 _ _ _ rfl kj kj (Qgw _ _ _ _ _ _ (by decide) (Qqy _ hz9w3))) <| Qad (.int .u64 (e0_)) 40 rfl kj (Qal (u:=.int .u64 (bits .or .u64 ((z9w2/4)) ((z9w3%4*4611686018427387904)))) kj (congrArg (Value.int .u64) ((or62 _ _ hz9w2 hz9w3).trans ee0.symm))) <| sg 1 kj <| Qad (.int .u64 z9w3) 42 rfl kj (Qak 52 _ g6 3 150 _ (.int .u64 z9w3) _ r6_13 rfl kj kj kj) <| Qad (.int .u64 (e1_)) 43 rfl kj (Qbc .shr _ _ _ _ .u64 .u64 _ _ _ rfl kj kj (Qdf _ _ _ _ _ _ (by decide) ((shr2 _ hz9w3).trans ee1.symm))) ?_
  refine sg 1 kj <| Qaj (ints .u64 ([0,0])) 152 11 rfl kj kj fun g70 W14 l70 e14 r70_14=>Qah g70 _ (ints .u64 ([(e0_),(e1_)])) 152 r70_14 rfl kj (Qaf 152 _ _ g70 152 _ _ r70_14 rfl kj kj (isz (n:=2) kj kj) (eqsz (n:=2) kj kj) (ints_one _ _)) fun W15 p15 r70_15=>sgN hK69 <| sgC fun K71 hK71=>sg 1 kj ?_
  have r6_15:=(Puts.row p15 (Qaa r6_13 e14) (Qab r6_13 l70))
  refine Qad (.int .u64 z9w0) 46 rfl kj (Qak 52 _ g6 0 150 _ (.int .u64 z9w0) _ r6_15 rfl kj kj kj) <| sg 1 kj <| Qad (.int .u64 z9w1) 48 rfl kj (Qak 52 _ g6 1 150 _ (.int .u64 z9w1) _ r6_15 rfl kj kj kj) <| sg 1 kj <| Qad (.int .u64 z9w2) 50 rfl kj (Qak 52 _ g6 2 150 _ (.int .u64 z9w2) _ r6_15 rfl kj kj kj) <| Qad (.int .u64 (z9w2%4)) 51 rfl kj (Qal (u:=.int .u64 (bits .and .u64 (z9w2) (3))) kj (congrArg (Value.int .u64) (and3 _ hz9w2))) <| sg 1 kj <| Qah g6 _ (ints .u64 ([z9w0,z9w1,(z9w2%4),0,0,0])) 150 r6_15 rfl kj (Qaf 150 _ _ g6 150 _ _ r6_15 rfl kj kj (isz (n:=6) kj kj) (eqsz (n:=6) kj kj) (ints_one _ _)) fun W16 p16 r6_16=>?_
  obtain ⟨aq0,bq0⟩:=id hz9w0
  obtain ⟨aq1,bq1⟩:=id hz9w1
  obtain ⟨aq2,bq2⟩:=id hz9w2
  obtain ⟨aq3,bq3⟩:=id hz9w3
  obtain ⟨aq4,bq4⟩:=id hz9w4
  obtain ⟨aq5,bq5⟩:=id hz9w5
  obtain ⟨ae0,be0⟩:=id he0
  obtain ⟨ae1,be1⟩:=id he1
  refine sgN hK71 <| wp_seq_k fun K72 hK72=>sgC fun K73 hK73=>Qad (.agg (ints .u64 ([(e0_),(e1_)]))) 53 rfl kj (Qae 152 _ g70 152 _ _ (Puts.row p16 r70_15 (Qav r6_13 l70)) rfl kj kj (isz (n:=2) kj kj)) <| sg 1 kj <| sgN hK73 <| wp_block <| wp_loop_rounds 3 ?_
  show Code.wp _ _ (Exit.then (Code.rounds _ _ _ 2) _) _ _
  refine sgB kj <| sgT kj <| wp_seq_k fun K76 hK76=>wp_block <| sgC fun K77 hK77=>sg 1 kj <| Qad (.int .u64 (e0_)) 57 rfl kj (Qa7 152 _ _ .i64 .u64 ([(e0_),(e1_)]) 0 2 52 (e0_) rfl kj kj kj kj kj rfl (by decide) rfl) <| sg 2 kj <| sgN hK77 <| Qan ?_
  refine sg 3 kj <| QaA (fun v W'=>v=.tuple #[]∧∃ r0 r1 r2 r3 r4 r5:Int,isW r0∧isW r1∧isW r2∧isW r3∧isW r4∧isW r5∧(r0+18446744073709551616*r1+340282366920938463463374607431768211456*r2+6277101735386680763835789423207666416102355444464034512896*r3+115792089237316195423570985008687907853269984665640564039457584007913129639936*r4+2135987035920910082395021706169552114602704522356652769947041607822219725780640550022962086936576*r5)=(z9w0+18446744073709551616*z9w1+340282366920938463463374607431768211456*(z9w2%4)+6277101735386680763835789423207666416102355444464034512896*0+115792089237316195423570985008687907853269984665640564039457584007913129639936*0+2135987035920910082395021706169552114602704522356652769947041607822219725780640550022962086936576*0)+1*(5*e0_)∧ExtB g6 W16 W'∧W'.heap[g6]? = some (.cells (ints .u64 [r0,r1,r2,r3,r4,r5]) 150)) 90 #[.int .i64 0,.int .u64 (e0_),.int .u64 5,.pointer (some ⟨g6,0,none⟩)] 61 rfl kj kj ((QnU g6 z9w0 z9w1 (z9w2%4) 0 0 0 e0_ 5 (5*e0_) hz9w0 hz9w1 ⟨by omega,by omega⟩ zero_isW zero_isW zero_isW he0 ⟨by decide,by decide⟩ (by omega) (by omega) _ r6_16).mono fun e w' h=>⟨_,h.1,rfl,h.2⟩) fun v W17 h=>?_
  obtain ⟨rfl,z10w0,z10w1,z10w2,z10w3,z10w4,z10w5,hz10w0,hz10w1,hz10w2,hz10w3,hz10w4,hz10w5,hV10,q17,r6_17⟩:=h
  have hS10:(z10w0+18446744073709551616*z10w1+340282366920938463463374607431768211456*z10w2+6277101735386680763835789423207666416102355444464034512896*z10w3+115792089237316195423570985008687907853269984665640564039457584007913129639936*z10w4+2135987035920910082395021706169552114602704522356652769947041607822219725780640550022962086936576*z10w5)=(z9w0+18446744073709551616*z9w1+340282366920938463463374607431768211456*(z9w2%4))+1*(5*e0_):=by omega
  refine Qaz <| hK76 _ _ <| sgA kj ?_
  show Code.rounds _ _ _ 2 _ _
  show Code.wp _ _ (Exit.then (Code.rounds _ _ _ 1) _) _ _
  refine sgB kj <| sgT kj <| wp_seq_k fun K80 hK80=>wp_block <| sgC fun K81 hK81=>sg 1 kj <| Qad (.int .u64 (e1_)) 57 rfl kj (Qa7 152 _ _ .i64 .u64 ([(e0_),(e1_)]) 1 2 52 (e1_) rfl kj kj kj kj kj rfl (by decide) rfl) <| sg 2 kj <| sgN hK81 <| Qan ?_
  refine sg 3 kj <| QaA (fun v W'=>v=.tuple #[]∧∃ r0 r1 r2 r3 r4 r5:Int,isW r0∧isW r1∧isW r2∧isW r3∧isW r4∧isW r5∧(r0+18446744073709551616*r1+340282366920938463463374607431768211456*r2+6277101735386680763835789423207666416102355444464034512896*r3+115792089237316195423570985008687907853269984665640564039457584007913129639936*r4+2135987035920910082395021706169552114602704522356652769947041607822219725780640550022962086936576*r5)=(z10w0+18446744073709551616*z10w1+340282366920938463463374607431768211456*z10w2+6277101735386680763835789423207666416102355444464034512896*z10w3+115792089237316195423570985008687907853269984665640564039457584007913129639936*z10w4+2135987035920910082395021706169552114602704522356652769947041607822219725780640550022962086936576*z10w5)+18446744073709551616*(5*e1_)∧ExtB g6 W17 W'∧W'.heap[g6]? = some (.cells (ints .u64 [r0,r1,r2,r3,r4,r5]) 150)) 90 #[.int .i64 1,.int .u64 (e1_),.int .u64 5,.pointer (some ⟨g6,0,none⟩)] 61 rfl kj kj ((QlB g6 z10w0 z10w1 z10w2 z10w3 z10w4 z10w5 e1_ 5 (5*e1_) hz10w0 hz10w1 hz10w2 hz10w3 hz10w4 hz10w5 he1 ⟨by decide,by decide⟩ (by omega) (by rw [hS10]; omega) _ r6_17).mono fun e w' h=>⟨_,h.1,rfl,h.2⟩) fun v W18 h=>?_
  obtain ⟨rfl,z11w0,z11w1,z11w2,z11w3,z11w4,z11w5,hz11w0,hz11w1,hz11w2,hz11w3,hz11w4,hz11w5,hV11,q18,r6_18⟩:=h
  have hS11:(z11w0+18446744073709551616*z11w1+340282366920938463463374607431768211456*z11w2+6277101735386680763835789423207666416102355444464034512896*z11w3+115792089237316195423570985008687907853269984665640564039457584007913129639936*z11w4+2135987035920910082395021706169552114602704522356652769947041607822219725780640550022962086936576*z11w5)=(z9w0+18446744073709551616*z9w1+340282366920938463463374607431768211456*(z9w2%4))+1*(5*e0_)+18446744073709551616*(5*e1_):=by omega
  refine Qaz <| hK80 _ _ <| sgA kj ?_
  show Code.rounds _ _ _ 1 _ _
  show Code.wp _ _ (Exit.then (Code.rounds _ _ _ 0) _) _ _
  refine sgB kj <| wp_seq_k fun K83 hK83=>cond_false kj <| wp_exit <| hK72 _ _ <| sgC fun K84 hK84=>sg 1 kj <| Qad (.int .u64 z11w0) 64 rfl kj (Qak 52 _ g6 0 150 _ (.int .u64 z11w0) _ r6_18 rfl kj kj kj) <| sg 1 kj <| Qad (.int .u64 z11w1) 66 rfl kj (Qak 52 _ g6 1 150 _ (.int .u64 z11w1) _ r6_18 rfl kj kj kj) ?_
  refine sg 1 kj <| Qad (.int .u64 z11w2) 68 rfl kj (Qak 52 _ g6 2 150 _ (.int .u64 z11w2) _ r6_18 rfl kj kj kj) <| sg 1 kj ?_
  have r4_13:=(ExtB.row q13 (ExtB.row q12 (ExtB.row q11 (ExtB.row q10 (ExtB.row q9 (ExtB.row q8 (ExtB.row q7 (ExtB.row q6 (ExtB.row q5 (Qaa r4_3 e4) (Qab r4_3 l6)) (Qab r4_3 l6)) (Qab r4_3 l6)) (Qab r4_3 l6)) (Qab r4_3 l6)) (Qab r4_3 l6)) (Qab r4_3 l6)) (Qab r4_3 l6)) (Qab r4_3 l6))
  have r4_18:=(ExtB.row q18 (ExtB.row q17 (Puts.row p16 (Puts.row p15 (Qaa r4_13 e14) (Qab r4_13 l70)) (Qab r4_3 l6)) (Qab r4_3 l6)) (Qab r4_3 l6))
  refine Qah g4 _ (ints .u64 ([z11w0,z11w1,z11w2])) 142 r4_18 rfl kj (Qaf 142 _ _ g4 142 _ _ r4_18 rfl kj kj (isz (n:=3) kj kj) (eqsz (n:=3) kj kj) (ints_one _ _)) fun W19 p19 r4_19=>sgN hK84 <| wp_ret ?_
  repeat (first | with_reducible refine goR1 ?_ | with_reducible refine goR2 ?_)
  exact (show bodyPost _ _ _ .ret _ _ from ret1 (.agg (ints .u64 ([z11w0,z11w1,z11w2]))) rfl (QaZ g4 142 _ r4_19 kj kj (isz (n:=3) kj kj)) ⟨by rw [QnS (v:=mulV (va*vb)) hz11w0 hz11w1 hz11w2 (QoF hz9w0 hz9w1 hz9w2 hz9w3 hz9w4 hz9w5 hz11w0 hz11w1 hz11w2 hz11w3 hz11w4 hz11w5 (hS9.trans hT) (by rw [←hT]; exact hTl) ee0 ee1 (by rw [hS11]; omega))],(Puts.ext p19 (ExtB.up (ExtB.up (Puts.ext p16 (Puts.ext p15 (Ext.tr x13 e14) (qT x13.size l70)) b6) q17 b6) q18 b6) (qT x2.size l4))⟩)
theorem Ql6 (a b:Int) (ha:0≤a) (hb:0≤b) (hal:a<5444517870735015415413993718908291383296) (hbl:b<21267647932558653966460912964485513216) (w:World) :
    Calls Tryd.prog 89 #[.agg (ints .u64 (nw3 a)),.agg (ints .u64 (nw3 b))] w (Ret w (.agg (ints .u64 (nw3 (mulV (a*b)))))) :=
  mulW _ _ _ _ _ _ a b (QcW _) (QcW _) (QcW _) (QcW _) (QcW _) (QcW _) (Qhn a ha (by omega)) (Qhn b hb (by omega)) hal hbl w
end Go.Proofs.YtmljnchhgkfemaaDoor.Ae
end
section
namespace Go.Proofs.YtmljnchhgkfemaaDoor.Ae
open Go Go.RowKit
open Rely Auto Own Sha
open Sha Cha
theorem run_storeQ {P : Program} {ρ:Operand→Value} {o:Oper} {w:World} (ty:TypeId) (x y:Operand) (g off:Nat) (t:TypeId) (pre post:List (Array Value)) (u v:Value) (hg:w.heap[g]? = some (.cells (cat (pre++([#[u]]++post))) t))
    (ho:o.op=.store ty x y) (hx:ρ x=.pointer (some ⟨g,off,none⟩)) (hy:ρ y=v) (hi:(P.info? ty).map (·.size)=some 1) (hp:(cat pre).size=off) (h1:v.oneCell'=true) (hcs:v.cells=#[v]) :
    (execOp ρ o).run P w=.ok .skip (w.setRow g (cat (pre++([#[v]]++post)))):=by
  subst hp
  have hs:Nat.blt (cat pre).size (cat (pre++([#[u]]++post))).size=true:=by
    have:(cat pre).size<(cat (pre++([#[u]]++post))).size:=by
      rw [QaF,QaF,qS,qS]
      have e1:(cat [#[u]]).size=1:=rfl
      omega
    simpa using this
  have e:(cat (pre++([#[u]]++post))).setIfInBounds (cat pre).size v=cat (pre++([#[v]]++post)):=by
    rw [QaF,QaF,QaF,QaF]
    have e1:∀ z,cat [#[z]]=#[z]:=fun z=>rfl
    rw [e1,e1,Array.setIfInBounds_append_right (qR _),Nat.sub_self,Array.setIfInBounds_append_left (by simp)]
    rfl
  rw [←e]
  exact QbP ty x y g _ t _ v hg ho hx hy hi hs h1 hcs
theorem Qor {k : IntKind} {T:TypeId} {g n0 n l h:Nat} {xs:List Int} (pre post:List (Array Value)) {W:World} (hp:(cat pre).size=n0) (hn:xs.length=n) (r:W.heap[g]? = some (.cells (cat (pre++([ints k xs]++post))) T)) (h1:l≤h) (h2:h≤n) (h3:n≤maxLen) :
    RdK k W.heap.size ((xs.drop l).take (h-l)) (.slice (some ⟨g,n0+l,none⟩) (h-l) (n-l)) W :=
  QiG (n0+l) (by rw [List.length_take,List.length_drop]; omega) r (fun i hi=>by
    rw [Qho _ _ _ hi,Qj6]
    exact QjH pre post xs n0 (l+i) _ hp (by omega) (by omega)) (Qa4 r) (by omega) (by omega)
theorem Qj9 (v : Int):mulV v%PP=v%PP:=by
  unfold mulV PP
  omega
theorem QoG (v : Int) (h0:0≤v) (h:v<115792089237316195423570985008687907853269984665640564039457584007913129639936):0≤mulV v∧mulV v<2041694201525630780780247644590609268736:=by
  unfold mulV
  omega
theorem Qin {c : List Int} (hb:Qag c) (hl:c.length≤16):0≤lev (c++[1])∧lev (c++[1])≤680564733841876926926749214863536422912:=by
  have h1:=Qio hb
  have h0:=Qd7 hb
  rw [Qhv]
  have h2:p256 16=p256 c.length*p256 (16-c.length):=by rw [←Qeq]; congr 1; omega
  have h3:=QdI (16-c.length)
  have h4:p256 c.length*1≤p256 c.length*p256 (16-c.length):=Int.mul_le_mul_of_nonneg_left (by omega) (Int.le_of_lt (QdI _))
  have h5:=QdI c.length
  rw [p16] at h2
  omega
theorem Qm8 (pl : List Int) (m:Nat) (h:m<pl.length):((pl.set m 1).drop 0).take (m+1-0)=pl.take m++[1]:=by
  show (pl.set m 1).take (m+1)=_
  rw [QfN _ m (by rw [List.length_set]; exact h)]
  congr 1
  · rw [List.take_set_of_le (qR _)]
  · simp [nth,h]
def QfM (r S:Int) (c:List Int):Int:=mulV ((S+lev (c++[1]))*r)
theorem Qjs {r S:Int} {c:List Int} (hS:0≤S∧S<2041694201525630780780247644590609268736) (hr:0≤r∧r<21267647932558653966460912964485513216) (hb:Qag c) (hl:c.length≤16):0≤QfM r S c∧QfM r S c<2041694201525630780780247644590609268736:=by
  obtain ⟨h0,h1⟩:=Qin hb hl
  exact QoG _ (Int.mul_nonneg (by omega) hr.1) (Qih (by omega) hr.1 (by omega) hr.2)
set_option maxRecDepth 100000 in
theorem Qpq (g : Nat) (r s S:Int) (pl:List Int) (m:Nat) (w:World) (hr:0≤r∧r<21267647932558653966460912964485513216) (hS:0≤S∧S<2041694201525630780780247644590609268736) (hpl:pl.length=17) (hpb:Qag pl) (hm:m≤16) (hg:w.heap[g]? = some (.cells (cat [ints .u64 (nw3 r),ints .u64 (nw3 s),ints .u64 (nw3 (S)),ints .u8 (pl),#[.int .i64 ((m:Nat):Int)]]) 147)) :
    Calls Tryd.prog 87 #[.pointer (some ⟨g,0,none⟩)] w (fun e W=>e=.returned (.tuple #[])∧ExtB g w W∧W.heap[g]? = some (.cells (cat [ints .u64 (nw3 r),ints .u64 (nw3 s),ints .u64 (nw3 (QfM r S (pl.take m))),ints .u8 (pl.set m 1),#[.int .i64 0]]) 147)):=by
  have hpl1:(pl.set m 1).length=17:=by rw [List.length_set,hpl]
  have hpb1:Qag (pl.set m 1):=Qcb hpb _ (by decide) (by decide)
  have hset:=Qm8 pl m (by omega)
  obtain ⟨hc0,hc1⟩:0≤lev (((pl.set m 1).drop 0).take (m+1-0))∧lev (((pl.set m 1).drop 0).take (m+1-0))≤680564733841876926926749214863536422912:=by rw [hset]; exact Qin (Qbd hpb m) (by rw [List.length_take]; omega)
  refine enter 36 [(0,.pointer (some ⟨g,0,none⟩))] Tryd.func87 rfl rfl kj rfl <| wp_seq_k fun K2 hK2=>QaY 8 [⟨none,[(0,none)]⟩,⟨none,[(0,none)]⟩,⟨none,[(3,some 1)]⟩,⟨none,[(4,some 2)]⟩,⟨none,[(5,some 3)]⟩,⟨none,[(2,some 0)]⟩,⟨none,[(7,some 5)]⟩,⟨none,[(8,some 6),(6,some 4)]⟩] kj kj fun F hF=>Qas (.pointer (some ⟨g,0,none⟩)) kj kj (fun W=>by kernel_rfl) <| Qas (.pointer (some ⟨g,0,none⟩)) kj kj (fun W=>by kernel_rfl) <| Qas (.pointer (some ⟨g,0,none⟩)) kj kj (fun W=>by kernel_rfl) <| Qas (.pointer (some ⟨g,26,none⟩)) kj kj (fun W=>by kernel_rfl) <| Qax (.int .i64 ((m:Nat):Int)) kj kj (fun W hR=>(Qak 3 _ g 26 147 _ (.int .i64 ((m:Nat):Int)) _ (Qaa (Qaa hg (Qai _)) hR) rfl kj (Qa8 [ints .u64 (nw3 r),ints .u64 (nw3 s),ints .u64 (nw3 (S)),ints .u8 (pl)] [#[.int .i64 ((m:Nat):Int)]] [] 26 (by rw [Qam,Qam,Qam,Qam]; simp only [qS,cat,((Qac _ _).trans (Qa1 _)),((Qac _ _).trans hpl)]; rfl) 0 _ rfl) kj)) ?_
  refine Qas (.pointer (some ⟨g,0,none⟩)) kj kj (fun W=>by kernel_rfl) <| Qas (.pointer (some ⟨g,9,none⟩)) kj kj (fun W=>by kernel_rfl) <| Qas (.pointer (some ⟨g,9+m*1,none⟩)) kj kj (fun W=>(Qc6 145 _ _ .i64 m g 9 17 5 1 rfl kj kj kj kj (show m<17 by omega))) <| QaT (hF _ kj fun W1 e1=>?_)
  simp only [ups,up,Kn.val,List.take_succ_cons,List.take_zero,List.drop_succ_cons,List.drop_zero,List.nil_append,List.cons_append]
  clear hF
  have r1_1:=(Qaa hg e1)
  refine Qah g _ (cat [ints .u64 (nw3 r),ints .u64 (nw3 s),ints .u64 (nw3 (S)),ints .u8 ((pl).set m 1),#[.int .i64 ((m:Nat):Int)]]) 147 r1_1 rfl kj (QeW 5 _ _ g (9+m*1) 147 [ints .u64 (nw3 r),ints .u64 (nw3 s),ints .u64 (nw3 (S))] [#[.int .i64 ((m:Nat):Int)]] pl 9 m _ r1_1 rfl kj kj kj (by rw [Qam,Qam,Qam]; simp only [qS,cat,((Qac _ _).trans (Qa1 _))]; rfl) (by omega) (Nat.lt_of_lt_of_eq (show m<17 by omega) hpl.symm)) fun W2 p2 r1_2=>?_
  refine sgN hK2 <| wp_seq_k fun K3 hK3=>QaY 23 [⟨none,[(0,none)]⟩,⟨none,[(0,none)]⟩,⟨none,[(11,some 1)]⟩,⟨none,[(12,some 2)]⟩,⟨none,[(13,some 3)]⟩,⟨none,[(0,none)]⟩,⟨none,[(15,some 5)]⟩,⟨none,[(16,some 6)]⟩,⟨none,[(0,none)]⟩,⟨none,[(18,some 8)]⟩,⟨none,[(19,some 9)]⟩,⟨none,[(20,some 10)]⟩,⟨none,[(21,some 11)]⟩,⟨none,[(17,some 7),(22,some 12)]⟩,⟨none,[(23,some 13)]⟩,⟨none,[(14,some 4),(24,some 14)]⟩,⟨none,[(0,none)]⟩,⟨none,[(26,some 16)]⟩,⟨none,[(27,some 17)]⟩,⟨none,[(28,some 18)]⟩,⟨none,[(25,some 15),(29,some 19)]⟩,⟨none,[(10,some 0)]⟩,⟨none,[(31,some 21)]⟩] kj kj fun F hF=>Qas (.pointer (some ⟨g,0,none⟩)) kj kj (fun W=>by kernel_rfl) <| Qas (.pointer (some ⟨g,0,none⟩)) kj kj (fun W=>by kernel_rfl) <| Qas (.pointer (some ⟨g,0,none⟩)) kj kj (fun W=>by kernel_rfl) <| Qas (.pointer (some ⟨g,6,none⟩)) kj kj (fun W=>by kernel_rfl) <| Qax (.agg (ints .u64 (nw3 (S)))) kj kj (fun W hR=>(Qat 142 _ g 6 147 _ _ _ (Qaa (Qaa r1_2 (Qai _)) hR) rfl kj (Qa8 [ints .u64 (nw3 r),ints .u64 (nw3 s)] [ints .u64 (nw3 (S))] [ints .u8 ((pl).set m 1),#[.int .i64 ((m:Nat):Int)]] 6 (by rw [Qam,Qam]; simp only [qS,cat,((Qac _ _).trans (Qa1 _))]; rfl)) kj (isz (n:=3) kj ((Qac _ _).trans (Qa1 _))))) ?_
  refine Qas (.pointer (some ⟨g,0,none⟩)) kj kj (fun W=>by kernel_rfl) <| Qas (.pointer (some ⟨g,0,none⟩)) kj kj (fun W=>by kernel_rfl) <| Qas (.pointer (some ⟨g,9,none⟩)) kj kj (fun W=>by kernel_rfl) <| Qas (.pointer (some ⟨g,0,none⟩)) kj kj (fun W=>by kernel_rfl) <| Qas (.pointer (some ⟨g,0,none⟩)) kj kj (fun W=>by kernel_rfl) <| Qas (.pointer (some ⟨g,26,none⟩)) kj kj (fun W=>by kernel_rfl) <| Qax (.int .i64 ((m:Nat):Int)) kj kj (fun W hR=>(Qak 3 _ g 26 147 _ (.int .i64 ((m:Nat):Int)) _ (Qaa (Qaa r1_2 (Qai _)) hR) rfl kj (Qa8 [ints .u64 (nw3 r),ints .u64 (nw3 s),ints .u64 (nw3 (S)),ints .u8 ((pl).set m 1)] [#[.int .i64 ((m:Nat):Int)]] [] 26 (by rw [Qam,Qam,Qam,Qam]; simp only [qS,cat,((Qac _ _).trans ((List.length_set ..).trans hpl)),((Qac _ _).trans (Qa1 _))]; rfl) 0 _ rfl) kj)) ?_
  refine Qas (.int .i64 (((m+1:Nat):Int))) kj kj (fun W=>(Qal (u:=.int .i64 (IntKind.i64.wrap (((m:Nat):Int)+1))) kj (congrArg (Value.int .i64) (IntWalk.i64_in _ (by omega))))) <| Qas (.slice (some ⟨g,9+0,none⟩) ((m+1)-0) (17-0)) kj kj (fun W=>(Qce 145 _ _ _ 0 (m+1) 17 g 9 5 rfl kj kj kj rfl ⟨.i64,by kernel_rfl⟩ (by omega) (by omega) (by omega))) <| QaD (.agg (ints .u64 (nw3 (lev (((pl.set m 1).drop 0).take (m+1-0)))))) 86 #[.slice (some ⟨g,9+0,none⟩) ((m+1)-0) (17-0)] kj kj (fun W=>by kernel_rfl) (fun W hR=>(QkO (((pl.set m 1).drop 0).take (m+1-0)) _ _ W (Qor (n0:=9) (l:=0) (h:=m+1) [ints .u64 (nw3 r),ints .u64 (nw3 s),ints .u64 (nw3 (S))] [#[.int .i64 ((m:Nat):Int)]] kj hpl1 (Qaa (Qaa r1_2 (Qai _)) hR) (by omega) (by omega) (by decide)) (by rw [List.length_take]; omega) (Qbd (Qb9 hpb1 0) _))) ?_
  refine QaD (.agg (ints .u64 (nw3 (S+lev (((pl.set m 1).drop 0).take (m+1-0)))))) 88 #[.agg (ints .u64 (nw3 (S))),.agg (ints .u64 (nw3 (lev (((pl.set m 1).drop 0).take (m+1-0)))))] kj kj (fun W=>by kernel_rfl) (fun W hR=>(QiK S (lev (((pl.set m 1).drop 0).take (m+1-0))) hS.1 hc0 (by omega) (by omega) (by omega)) W) <| Qas (.pointer (some ⟨g,0,none⟩)) kj kj (fun W=>by kernel_rfl) <| Qas (.pointer (some ⟨g,0,none⟩)) kj kj (fun W=>by kernel_rfl) <| Qas (.pointer (some ⟨g,0,none⟩)) kj kj (fun W=>by kernel_rfl) <| Qax (.agg (ints .u64 (nw3 r))) kj kj (fun W hR=>(Qat 142 _ g 0 147 _ _ _ (Qaa (Qaa r1_2 (Qai _)) hR) rfl kj (Qa8 [] [ints .u64 (nw3 r)] [ints .u64 (nw3 s),ints .u64 (nw3 (S)),ints .u8 ((pl).set m 1),#[.int .i64 ((m:Nat):Int)]] 0 kj) kj (isz (n:=3) kj ((Qac _ _).trans (Qa1 _))))) <| QaD (.agg (ints .u64 (nw3 (mulV ((S+lev (((pl.set m 1).drop 0).take (m+1-0)))*r))))) 89 #[.agg (ints .u64 (nw3 (S+lev (((pl.set m 1).drop 0).take (m+1-0))))),.agg (ints .u64 (nw3 r))] kj kj (fun W=>by kernel_rfl) (fun W hR=>(Ql6 (S+lev (((pl.set m 1).drop 0).take (m+1-0))) r (by omega) hr.1 (by omega) hr.2) W) <| Qas (.pointer (some ⟨g,0,none⟩)) kj kj (fun W=>by kernel_rfl) <| Qas (.pointer (some ⟨g,6,none⟩)) kj kj (fun W=>by kernel_rfl) <| QaT (hF _ kj fun W3 e3=>?_)
  simp only [ups,up,Kn.val,List.take_succ_cons,List.take_zero,List.drop_succ_cons,List.drop_zero,List.nil_append,List.cons_append]
  clear hF
  have r1_3:=(Qaa r1_2 e3)
  refine Qah g _ (cat [ints .u64 (nw3 r),ints .u64 (nw3 s),ints .u64 (nw3 (mulV ((S+lev (((pl.set m 1).drop 0).take (m+1-0)))*r))),ints .u8 ((pl).set m 1),#[.int .i64 ((m:Nat):Int)]]) 147 r1_3 rfl kj (Qc5 142 _ _ g 6 147 [ints .u64 (nw3 r),ints .u64 (nw3 s)] [ints .u64 (nw3 (S))] [ints .u64 (nw3 (mulV ((S+lev (((pl.set m 1).drop 0).take (m+1-0)))*r)))] [ints .u8 ((pl).set m 1),#[.int .i64 ((m:Nat):Int)]] r1_3 rfl kj kj (isz (n:=3) kj ((Qac _ _).trans (Qa1 _))) (by rw [Qam,Qam]; simp only [qS,cat,((Qac _ _).trans (Qa1 _))]; rfl) (eqsz (n:=3) ((Qac _ _).trans (Qa1 _)) ((Qac _ _).trans (Qa1 _))) (ints_one _ _)) fun W4 p4 r1_4=>?_
  refine sgN hK3 <| Qan <| sg 3 kj <| Qah g _ (cat [ints .u64 (nw3 r),ints .u64 (nw3 s),ints .u64 (nw3 (mulV ((S+lev (((pl.set m 1).drop 0).take (m+1-0)))*r))),ints .u8 ((pl).set m 1),#[.int .i64 0]]) 147 r1_4 rfl kj (run_storeQ 3 _ _ g 26 147 [ints .u64 (nw3 r),ints .u64 (nw3 s),ints .u64 (nw3 (mulV ((S+lev (((pl.set m 1).drop 0).take (m+1-0)))*r))),ints .u8 ((pl).set m 1)] [] _ (.int .i64 0) r1_4 rfl kj kj kj (by rw [Qam,Qam,Qam,Qam]; simp only [qS,cat,((Qac _ _).trans ((List.length_set ..).trans hpl)),((Qac _ _).trans (Qa1 _))]; rfl) rfl rfl) fun W5 p5 r1_5=>?_
  refine Qaz ?_
  repeat (first | with_reducible refine goX1 ?_ | with_reducible refine goX2 ?_ | with_reducible refine goX3 ?_)
  exact (show bodyPost _ _ _ .normal _ _ from end0 rfl ⟨rfl,(ExtB.puts (ExtB.puts (ExtB.ext (ExtB.puts (ExtB.ext (ExtB.refl g w) e1) p2) e3) p4) p5),by have h9:=r1_5; rw [hset] at h9; exact h9⟩)
end Go.Proofs.YtmljnchhgkfemaaDoor.Ae
end
section
namespace Go.Proofs.YtmljnchhgkfemaaDoor.Ae
open Go Go.RowKit
open Rely Auto Own Sha
open Sha Cha
section
variable {ds : List Deferred} {P : Program} {ops : Array Oper} {Q : Exit → Act → World → Prop} {rest : List Oper} {o : Oper} {N : Nat} {L : Env} {W : World}
theorem QhL {k : IntKind} {e:TypeId} (x y:Operand) (tx ty:TypeId) (d:Nat) (ho:o.op=.call { callee:=.builtin .copy,args:=#[x,y],argTypes:=#[tx,ty] }) (hu:P.underlying tx=some (.slice e)) (hsz:(P.info? e).map (·.size)=some 1) (hd:o.dst=some d) (hgd:Qcd ops o N L=some true)
    {g n0 off dl dc n B:Nat} (pre post:List (Array Value)) {xs z:List Int} {v:Value} {T:TypeId} (hp:(cat pre).size=n0) (hx:Rely.look (envN N L) x=.slice (some ⟨g,n0+off,none⟩) dl dc) (hy:Rely.look (envN N L) y=v) (hr:RdK k B z v W)
    (hg:W.heap[g]? = some (.cells (cat (pre++([ints k xs]++post))) T)) (hq:off+dl≤xs.length) (hn:n=min z.length dl) (h0:0<n)
    (kk:∀ W':World,Puts W g W'→W'.heap[g]? = some (.cells (cat (pre++([ints k (xs.take off++z.take n++xs.drop (off+n))]++post))) T)→WL P ops Q rest (Qap ds N ((d,.int .i64 ((n:Nat):Int))::L)) W'):WL P ops Q (o::rest) (Qap ds N L) W:=by
  obtain ⟨a,cap,rfl,y2,y3,y4,y5⟩:=hr
  have hgo:∀ W',(Builtin.copy_ #[tx,ty] o.type #[.slice (some ⟨g,n0+off,none⟩) dl dc,.slice a z.length cap]).run P W=.ok (goInt n) W'→(execOp (Rely.look (envN N L)) o).run P W=.ok (.value (.int .i64 ((n:Nat):Int))) W':=fun W' h=>by
    unfold execOp
    simp only [ho,resolve,invoke,builtin,Sem.run_bind,Sem.run_pure,Result.andThen_ok,List.map_toArray,List.map_cons,List.map_nil,hx,hy,h,goInt]
  obtain ⟨gz,oz,rfl,z2,z3,z4⟩:=y5.resolve_left (fun e=>by rw [e] at hn; simp at hn; omega)
  have hlen:((z.take n).map (Value.int k)).length=n:=by simp; omega
  have hsz2:(cat (pre++([ints k xs]++post))).size=n0+xs.length+(cat post).size:=by
    rw [QaF,QaF,qS,qS,hp]
    show n0+((cat [ints k xs]).size+(cat post).size)=_
    rw [show cat [ints k xs]=ints k xs by simp [cat],Qac]; omega
  have h:=run_copy_row (P:=P) W tx ty o.type e g (n0+off) dl dc ⟨gz,oz,none⟩ z.length cap (cat (pre++([ints k xs]++post))) T ((z.take n).map (Value.int k)) hu hsz hg (by rw [hlen]; exact hn)
    (Qif (k:=k) (ys:=z.take n) fun i hi=>by
      rw [List.length_take] at hi
      rw [z4 i (by omega)]
      simp [nth,show i<n by omega]) (by rw [hlen,hsz2]; omega) (Qks k _)
  rw [hlen] at h
  have hpl:(cat pre).toList.length=n0:=by rw [Array.length_toList,hp]
  have e1:((cat (pre++([ints k xs]++post))).toList.take (n0+off)++(z.take n).map (Value.int k)++(cat (pre++([ints k xs]++post))).toList.drop (n0+off+n)).toArray=cat (pre++([ints k (xs.take off++z.take n++xs.drop (off+n))]++post)):=by
    apply Array.ext'
    have ec:∀ ys:List Int,(cat (pre++([ints k ys]++post))).toList=(cat pre).toList++(ys.map (Value.int k)++(cat post).toList):=fun ys=>by
      rw [QaF,QaF]
      simp [cat,ints]
    show (cat (pre++([ints k xs]++post))).toList.take (n0+off)++(z.take n).map (Value.int k)++(cat (pre++([ints k xs]++post))).toList.drop (n0+off+n)=_
    rw [ec,ec,List.take_append,List.take_of_length_le (by omega),hpl,show n0+off-n0=off by omega,List.take_append_of_le_length (by rw [List.length_map]; omega),List.drop_append,List.drop_of_length_le (by omega),hpl,show n0+off+n-n0=off+n by omega,List.nil_append,List.drop_append_of_le_length (by rw [List.length_map]; omega)]
    simp only [List.map_append,List.map_take,List.map_drop,List.append_assoc]
  rw [e1] at h
  exact QbN _ _ d hd hgd (hgo _ h) (kk _ (Qb6 _ _ _) (setRow_heap _ _ _ _ _ _ hg))
end
theorem QfW (r : Int) (u z:List Int):∀ n,16*n≤u.length→QdW r (u++z) n=QdW r u n
  | 0,_=>rfl
  | n+1,h=>by
    unfold QdW
    rw [QfW r u z n (by omega),List.drop_append_of_le_length (by omega),List.take_append_of_le_length (by rw [List.length_drop]; omega)]
theorem Qqv {r S:Int} {u z:List Int} {q m:Nat} (hu:u.length=16*q+m) (hz:z.length=16-m) (hm:m<16) (hS:S%PP=QdW r u q):QfM r S (u.drop (16*q)++z)%PP=QdW r (u++z) (q+1):=by
  unfold QdW QfM
  rw [QfW r u z q (by omega),List.drop_append_of_le_length (by omega),List.take_of_length_le (by rw [List.length_append,List.length_drop]; omega)]
  exact Qgz hS (Qj9 _)
theorem into_take {pl z:List Int} {m n:Nat} (hm:m≤pl.length) (hz:z.length=n):(pl.take m++z++pl.drop (m+n)).take (m+n)=pl.take m++z:=by
  have h1:(pl.take m++z).length=m+n:=by rw [List.length_append,List.length_take,hz]; omega
  rw [List.take_append_of_le_length (by omega),List.take_of_length_le (by omega)]
theorem into_len {pl z:List Int} {m n:Nat} (hm:m+n≤pl.length) (hz:z.length=n):(pl.take m++z++pl.drop (m+n)).length=pl.length:=by
  rw [List.length_append,List.length_append,List.length_take,List.length_drop,hz]; omega
theorem QhF (ys : List Int) (k n:Nat):ys.take (k+n)=ys.take k++(ys.drop k).take n:=List.take_add ..
def Mk (g : Nat) (r s:Int) (t:List Int) (W:World):Prop:=∃ (S:Int) (pl:List Int) (q m:Nat),t.length=16*q+m∧m<16∧W.heap[g]? = some (.cells (cat [ints .u64 (nw3 r),ints .u64 (nw3 s),ints .u64 (nw3 (S)),ints .u8 (pl),#[.int .i64 ((m:Nat):Int)]]) 147)∧S%PP=QdW r t q∧(0≤S∧S<2041694201525630780780247644590609268736)∧pl.length=17∧Qag pl∧pl.take m=t.drop (16*q)
set_option maxRecDepth 100000 in
theorem addC (g : Nat) (r s:Int) (t ys:List Int) (v:Value) (B:Nat) (w:World) (hr:0≤r∧r<21267647932558653966460912964485513216) (hBg:B≤g) (hy:RdK .u8 B ys v w) (hyb:Qag ys) (hyl:ys.length≤3000000) (hM:Mk g r s t w) :
  Calls Tryd.prog 78 #[.pointer (some ⟨g,0,none⟩),v] w (fun e W=>e=.returned (.tuple #[])∧ExtB g w W∧Mk g r s (t++ys) W):=by
 obtain ⟨S0,pl0,q0,m0,hq0,hm0,hg,hSm0,hS0,hpl0,hpb0,hpt0⟩:=hM
 refine enter 36 [(0,.pointer (some ⟨g,0,none⟩)),(1,v)] Tryd.func78 rfl rfl kj rfl <| wp_block <| QaN (fun (s1:Nat×Nat×Nat×Int×List Int×Value)=>[(0,.pointer (some ⟨g,0,none⟩)),(1,s1.2.2.2.2.2)]) (fun (s1:Nat×Nat×Nat×Int×List Int×Value) W=>(s1.1≤ys.length)∧(RdK .u8 B (ys.drop s1.1) s1.2.2.2.2.2 W)∧(t.length+s1.1=16*s1.2.2.1+s1.2.1∧s1.2.1<16)∧(s1.2.2.2.1%PP=QdW r (t++ys.take s1.1) s1.2.2.1)∧(0≤s1.2.2.2.1∧s1.2.2.2.1<2041694201525630780780247644590609268736)∧(s1.2.2.2.2.1.length=17)∧(Qag s1.2.2.2.2.1)∧(s1.2.2.2.2.1.take s1.2.1=(t++ys.take s1.1).drop (16*s1.2.2.1))∧(W.heap[g]? = some (.cells (cat [ints .u64 (nw3 r),ints .u64 (nw3 s),ints .u64 (nw3 (s1.2.2.2.1)),ints .u8 (s1.2.2.2.2.1),#[.int .i64 ((s1.2.1:Nat):Int)]]) 147))∧(Qau [g] w W)∧(ExtB g w W)) (fun (s1:Nat×Nat×Nat×Int×List Int×Value)=>ys.length-s1.1) (0,m0,q0,S0,pl0,v) ⟨kj,kj,trivial⟩ ⟨(Nat.zero_le _),(show RdK .u8 B (ys.drop 0) v w from hy),⟨hq0,hm0⟩,(show S0%PP=QdW r (t++ys.take 0) q0 by rw [List.take_zero,List.append_nil]; exact hSm0),hS0,hpl0,hpb0,(show pl0.take m0=(t++ys.take 0).drop (16*q0) by rw [List.take_zero,List.append_nil]; exact hpt0),hg,(Qau.refl [g] w),(ExtB.refl g w)⟩ fun s1 X1 V1 hI1=>?_
 obtain ⟨k,m,q,S,pl,bv⟩:=s1
 obtain ⟨hk,hrb,hmq,hSm,hS,hpl,hpb,hpt,q1_1,kk1,xx1⟩:=hI1
 replace hk:k≤ys.length:=hk
 replace hrb:RdK .u8 B (ys.drop k) bv V1:=hrb
 replace hmq:t.length+k=16*q+m∧m<16:=hmq
 replace hSm:S%PP=QdW r (t++ys.take k) q:=hSm
 replace hS:0≤S∧S<2041694201525630780780247644590609268736:=hS
 replace hpl:pl.length=17:=hpl
 replace hpb:Qag pl:=hpb
 replace hpt:pl.take m=(t++ys.take k).drop (16*q):=hpt
 replace q1_1:V1.heap[g]? = some (.cells (cat [ints .u64 (nw3 r),ints .u64 (nw3 s),ints .u64 (nw3 (S)),ints .u8 (pl),#[.int .i64 ((m:Nat):Int)]]) 147):=q1_1
 replace kk1:Qau [g] w V1:=kk1
 replace xx1:ExtB g w V1:=xx1
 have q1:=kk1
 obtain ⟨ab,cb,rfl,hcb,-,-,-⟩:=id hrb
 have hld:(ys.drop k).length=ys.length-k:=List.length_drop ..
 refine wp_seq_k fun K2 hK2=>sgB kj <| Qa9 (t:=decide ((((ys.drop k).length:Nat):Int)>0)) kj (fun c4=>?_) (fun c4=>?_)
 ·skip
  have hlt:k<ys.length:=by have:=of_decide_eq_true c4; omega
  refine wp_skip <| hK2 _ _ <| wp_block <| wp_seq_k fun K5 hK5=>?_
  rcases (show 16-m≤ys.length-k∨ys.length-k<16-m by omega) with hq | hq
  ·skip
   obtain ⟨n,en⟩:∃ z,z=(16-m):=⟨_,rfl⟩
   have hn0:0<n∧m+n≤16∧k+n≤ys.length:=by omega
   have hnm:n=min (ys.drop k).length (16-m):=by omega
   refine Qbf 9 [⟨none,[(0,none)]⟩,⟨none,[(8,some 0)]⟩,⟨none,[(9,some 1)]⟩,⟨none,[(0,none)]⟩,⟨none,[(11,some 3)]⟩,⟨none,[(12,some 4)]⟩,⟨none,[(13,some 5)]⟩,⟨none,[(10,some 2),(14,some 6)]⟩,⟨none,[(1,none)]⟩] kj kj fun F hF=>QaL (Qaq _) (.pointer (some ⟨g,0,none⟩)) kj kj (fun W=>by kernel_rfl) <| QaL (Qaq _) (.pointer (some ⟨g,0,none⟩)) kj kj (fun W=>by kernel_rfl) <| QaL (Qaq _) (.pointer (some ⟨g,9,none⟩)) kj kj (fun W=>by kernel_rfl) <| QaL (Qaq _) (.pointer (some ⟨g,0,none⟩)) kj kj (fun W=>by kernel_rfl) <| QaL (Qaq _) (.pointer (some ⟨g,0,none⟩)) kj kj (fun W=>by kernel_rfl) <| QaL (Qaq _) (.pointer (some ⟨g,26,none⟩)) kj kj (fun W=>by kernel_rfl) <| Qc8 (Qaq _) (.int .i64 ((m:Nat):Int)) kj kj (fun W hR=>(Qak 3 _ g 26 147 _ (.int .i64 ((m:Nat):Int)) _ (Qaa (Qaa q1_1 (Qai _)) hR) rfl kj (Qa8 [ints .u64 (nw3 r),ints .u64 (nw3 s),ints .u64 (nw3 (S)),ints .u8 (pl)] [#[.int .i64 ((m:Nat):Int)]] [] 26 (by rw [Qam,Qam,Qam,Qam]; simp only [qS,cat,((Qac _ _).trans (Qa1 _)),((Qac _ _).trans hpl)]; rfl) 0 _ rfl) kj)) ?_
   refine QaL (Qaq _) (.slice (some ⟨g,9+m,none⟩) (16-m) (17-m)) kj kj (fun W=>(Qce 145 _ _ _ m 16 17 g 9 5 rfl kj kj kj ⟨.i64,by kernel_rfl⟩ ⟨.i64,by kernel_rfl⟩ (by omega) (by omega) (by omega))) <| QaL (Qaq _) (.slice ab ((ys.drop k).length) cb) kj kj (fun W=>by kernel_rfl) <| QdN (hF _ fun W2 e2=>?_)
   simp only [List.nil_append,List.cons_append,List.take_succ_cons,List.take_zero,List.drop_succ_cons,List.drop_zero,finE,up]
   clear hF
   have x2:=ExtB.ext xx1 e2
   have r1_2:=(Qaa q1_1 e2)
   have f6_2:=(hrb.ext e2)
   refine QhL (k:=.u8) (e:=5) (n0:=9) (off:=m) (dl:=16-m) (dc:=17-m) (n:=n) (.tmp 15) (.tmp 16) 24 24 17 rfl kj kj rfl kj [ints .u64 (nw3 r),ints .u64 (nw3 s),ints .u64 (nw3 (S))] [#[.int .i64 ((m:Nat):Int)]] (xs:=pl) (z:=ys.drop k) kj kj kj f6_2 r1_2 (by rw [hpl]; omega) hnm hn0.1 fun W3 p3 r1_3=>?_
   have x3:=ExtB.puts x2 p3
   obtain ⟨z,ez⟩:∃ z,z=(ys.drop k).take n:=⟨_,rfl⟩
   have hzl:z.length=n:=by rw [ez,List.length_take]; omega
   have hzb:Qag z:=ez▸Qbd (Qb9 hyb k) n
   rw [←ez] at r1_3
   obtain ⟨pl1,epl1⟩:∃ y,y=pl.take m++z++pl.drop (m+n):=⟨_,rfl⟩
   have hpl1:pl1.length=17:=by rw [epl1,into_len (by omega) hzl,hpl]
   have hpb1:Qag pl1:=epl1▸bytes_app (bytes_app (Qbd hpb m) hzb) (Qb9 hpb _)
   rw [←epl1] at r1_3
   have hpt1:pl1.take (m+n)=pl.take m++z:=by rw [epl1]; exact into_take (by omega) hzl
   refine sg 1 kj <| sgN hK5 <| sgC fun K7 hK7=>sg 2 kj <| Qad (.slice (restA ab cb n) ((ys.drop k).length-n) (cb-n)) 20 rfl kj (Qem (len:=(ys.drop k).length) 24 _ _ n 5 rfl kj kj kj .i64 kj (by omega) hcb) <| sg 1 kj <| sgN hK7 <| sgC fun K8 hK8=>sg 3 kj <| Qad (.int .i64 ((m:Nat):Int)) 24 rfl kj (Qak 3 _ g 26 147 _ (.int .i64 ((m:Nat):Int)) _ r1_3 rfl kj (Qa8 [ints .u64 (nw3 r),ints .u64 (nw3 s),ints .u64 (nw3 (S)),ints .u8 (pl1)] [#[.int .i64 ((m:Nat):Int)]] [] 26 (by rw [Qam,Qam,Qam,Qam]; simp only [qS,cat,((Qac _ _).trans (Qa1 _)),((Qac _ _).trans hpl1)]; rfl) 0 _ rfl) kj) ?_
   refine sg 1 kj <| Qad (.int .i64 ((m+n:Nat):Int)) 26 rfl kj (Qal (u:=.int .i64 (IntKind.i64.wrap (((m:Nat):Int)+((n:Nat):Int)))) kj (congrArg (Value.int .i64) (i64n _ _ (by omega) (by omega)))) <| sg 2 kj <| Qah g _ (cat [ints .u64 (nw3 r),ints .u64 (nw3 s),ints .u64 (nw3 (S)),ints .u8 (pl1),#[.int .i64 ((m+n:Nat):Int)]]) 147 r1_3 rfl kj (run_storeQ 3 _ _ g 26 147 [ints .u64 (nw3 r),ints .u64 (nw3 s),ints .u64 (nw3 (S)),ints .u8 (pl1)] [] _ (.int .i64 ((m+n:Nat):Int)) r1_3 rfl kj kj kj (by rw [Qam,Qam,Qam,Qam]; simp only [qS,cat,((Qac _ _).trans (Qa1 _)),((Qac _ _).trans hpl1)]; rfl) rfl rfl) fun W4 p4 r1_4=>?_
   have x4:=ExtB.puts x3 p4
   refine sgN hK8 <| sgC fun K9 hK9=>sg 3 kj <| Qad (.int .i64 ((m+n:Nat):Int)) 32 rfl kj (Qak 3 _ g 26 147 _ (.int .i64 ((m+n:Nat):Int)) _ r1_4 rfl kj (Qa8 [ints .u64 (nw3 r),ints .u64 (nw3 s),ints .u64 (nw3 (S)),ints .u8 (pl1)] [#[.int .i64 ((m+n:Nat):Int)]] [] 26 (by rw [Qam,Qam,Qam,Qam]; simp only [qS,cat,((Qac _ _).trans (Qa1 _)),((Qac _ _).trans hpl1)]; rfl) 0 _ rfl) kj) ?_
   refine Qad (.bool true) 33 rfl kj (Qal (u:=.bool ((((m+n:Nat):Int)==16))) kj (congrArg Value.bool (by rw [show m+n=16 by omega]; rfl))) ?_
   refine sgN hK9 <| cond_true kj <| Qan <| sg 1 kj <| QaA (fun v W'=>v=.tuple #[]∧ExtB g W4 W'∧W'.heap[g]? = some (.cells (cat [ints .u64 (nw3 r),ints .u64 (nw3 s),ints .u64 (nw3 (QfM r S (pl1.take (m+n)))),ints .u8 (pl1.set (m+n) 1),#[.int .i64 0]]) 147)) 87 #[.pointer (some ⟨g,0,none⟩)] 35 rfl kj kj ((Qpq g r s S pl1 (m+n) _ hr hS hpl1 hpb1 hn0.2.1 r1_4).mono fun e w' h=>⟨_,h.1,rfl,h.2⟩) fun v W5 h=>?_
   obtain ⟨rfl,q5,r1_5⟩:=h
   have hpl2:(pl1.set (m+n) 1).length=17:=by rw [List.length_set,hpl1]
   refine Qaz ?_
   have hu:(t++ys.take k).length=16*q+m:=by rw [List.length_append,List.length_take]; omega
   have htk:t++ys.take (k+n)=(t++ys.take k)++z:=by rw [QhF ys k n,←ez,List.append_assoc]
   repeat (first | with_reducible refine goX1 ?_ | with_reducible refine goX2 ?_ | with_reducible refine goX3 ?_)
   exact QaG ((k+n),0,(q+1),(QfM r S (pl1.take (m+n))),(pl1.set (m+n) 1),(.slice (restA ab cb n) ((ys.drop k).length-n) (cb-n))) ⟨kj,kj,trivial⟩ ⟨(show k+n≤ys.length by omega),(by rw [show ys.drop (k+n)=(ys.drop k).drop n from (List.drop_drop ..).symm]; exact Qf7 (((f6_2.puts p3 hBg).puts p4 hBg).extB q5 hBg) n (by omega)),(show t.length+(k+n)=16*(q+1)+0∧0<16 by omega),(show _=QdW r (t++ys.take (k+n)) (q+1) by rw [hpt1,hpt,htk]; exact Qqv hu (by omega) hmq.2 hSm),(Qjs hS hr (Qbd hpb1 _) (by rw [List.length_take]; omega)),hpl2,(Qcb hpb1 _ (by decide) (by decide)),(show (pl1.set (m+n) 1).take 0=(t++ys.take (k+n)).drop (16*(q+1)) by rw [htk,List.take_zero,List.drop_of_length_le (by rw [List.length_append,hu]; omega)]),r1_5,(Qau.but (Qau.puts (Qau.puts (Qau.step q1 e2) p3 (.inl (by simp))) p4 (.inl (by simp))) q5 (.inl (by simp))),(ExtB.trans x4 q5)⟩ (by show ys.length-(k+n)<ys.length-k; omega)
  ·skip
   obtain ⟨n,en⟩:∃ z,z=(ys.length-k):=⟨_,rfl⟩
   have hn0:0<n∧m+n≤16∧k+n≤ys.length:=by omega
   have hnm:n=min (ys.drop k).length (16-m):=by omega
   refine Qbf 9 [⟨none,[(0,none)]⟩,⟨none,[(8,some 0)]⟩,⟨none,[(9,some 1)]⟩,⟨none,[(0,none)]⟩,⟨none,[(11,some 3)]⟩,⟨none,[(12,some 4)]⟩,⟨none,[(13,some 5)]⟩,⟨none,[(10,some 2),(14,some 6)]⟩,⟨none,[(1,none)]⟩] kj kj fun F hF=>QaL (Qaq _) (.pointer (some ⟨g,0,none⟩)) kj kj (fun W=>by kernel_rfl) <| QaL (Qaq _) (.pointer (some ⟨g,0,none⟩)) kj kj (fun W=>by kernel_rfl) <| QaL (Qaq _) (.pointer (some ⟨g,9,none⟩)) kj kj (fun W=>by kernel_rfl) <| QaL (Qaq _) (.pointer (some ⟨g,0,none⟩)) kj kj (fun W=>by kernel_rfl) <| QaL (Qaq _) (.pointer (some ⟨g,0,none⟩)) kj kj (fun W=>by kernel_rfl) <| QaL (Qaq _) (.pointer (some ⟨g,26,none⟩)) kj kj (fun W=>by kernel_rfl) <| Qc8 (Qaq _) (.int .i64 ((m:Nat):Int)) kj kj (fun W hR=>(Qak 3 _ g 26 147 _ (.int .i64 ((m:Nat):Int)) _ (Qaa (Qaa q1_1 (Qai _)) hR) rfl kj (Qa8 [ints .u64 (nw3 r),ints .u64 (nw3 s),ints .u64 (nw3 (S)),ints .u8 (pl)] [#[.int .i64 ((m:Nat):Int)]] [] 26 (by rw [Qam,Qam,Qam,Qam]; simp only [qS,cat,((Qac _ _).trans (Qa1 _)),((Qac _ _).trans hpl)]; rfl) 0 _ rfl) kj)) ?_
   refine QaL (Qaq _) (.slice (some ⟨g,9+m,none⟩) (16-m) (17-m)) kj kj (fun W=>(Qce 145 _ _ _ m 16 17 g 9 5 rfl kj kj kj ⟨.i64,by kernel_rfl⟩ ⟨.i64,by kernel_rfl⟩ (by omega) (by omega) (by omega))) <| QaL (Qaq _) (.slice ab ((ys.drop k).length) cb) kj kj (fun W=>by kernel_rfl) <| QdN (hF _ fun W2 e2=>?_)
   simp only [List.nil_append,List.cons_append,List.take_succ_cons,List.take_zero,List.drop_succ_cons,List.drop_zero,finE,up]
   clear hF
   have x2:=ExtB.ext xx1 e2
   have r1_2:=(Qaa q1_1 e2)
   have f13_2:=(hrb.ext e2)
   refine QhL (k:=.u8) (e:=5) (n0:=9) (off:=m) (dl:=16-m) (dc:=17-m) (n:=n) (.tmp 15) (.tmp 16) 24 24 17 rfl kj kj rfl kj [ints .u64 (nw3 r),ints .u64 (nw3 s),ints .u64 (nw3 (S))] [#[.int .i64 ((m:Nat):Int)]] (xs:=pl) (z:=ys.drop k) kj kj kj f13_2 r1_2 (by rw [hpl]; omega) hnm hn0.1 fun W3 p3 r1_3=>?_
   have x3:=ExtB.puts x2 p3
   obtain ⟨z,ez⟩:∃ z,z=(ys.drop k).take n:=⟨_,rfl⟩
   have hzl:z.length=n:=by rw [ez,List.length_take]; omega
   have hzb:Qag z:=ez▸Qbd (Qb9 hyb k) n
   rw [←ez] at r1_3
   obtain ⟨pl1,epl1⟩:∃ y,y=pl.take m++z++pl.drop (m+n):=⟨_,rfl⟩
   have hpl1:pl1.length=17:=by rw [epl1,into_len (by omega) hzl,hpl]
   have hpb1:Qag pl1:=epl1▸bytes_app (bytes_app (Qbd hpb m) hzb) (Qb9 hpb _)
   rw [←epl1] at r1_3
   have hpt1:pl1.take (m+n)=pl.take m++z:=by rw [epl1]; exact into_take (by omega) hzl
   refine sg 1 kj <| sgN hK5 <| sgC fun K14 hK14=>sg 2 kj <| Qad (.slice (restA ab cb n) ((ys.drop k).length-n) (cb-n)) 20 rfl kj (Qem (len:=(ys.drop k).length) 24 _ _ n 5 rfl kj kj kj .i64 kj (by omega) hcb) <| sg 1 kj <| sgN hK14 <| sgC fun K15 hK15=>sg 3 kj <| Qad (.int .i64 ((m:Nat):Int)) 24 rfl kj (Qak 3 _ g 26 147 _ (.int .i64 ((m:Nat):Int)) _ r1_3 rfl kj (Qa8 [ints .u64 (nw3 r),ints .u64 (nw3 s),ints .u64 (nw3 (S)),ints .u8 (pl1)] [#[.int .i64 ((m:Nat):Int)]] [] 26 (by rw [Qam,Qam,Qam,Qam]; simp only [qS,cat,((Qac _ _).trans (Qa1 _)),((Qac _ _).trans hpl1)]; rfl) 0 _ rfl) kj) ?_
   refine sg 1 kj <| Qad (.int .i64 ((m+n:Nat):Int)) 26 rfl kj (Qal (u:=.int .i64 (IntKind.i64.wrap (((m:Nat):Int)+((n:Nat):Int)))) kj (congrArg (Value.int .i64) (i64n _ _ (by omega) (by omega)))) <| sg 2 kj <| Qah g _ (cat [ints .u64 (nw3 r),ints .u64 (nw3 s),ints .u64 (nw3 (S)),ints .u8 (pl1),#[.int .i64 ((m+n:Nat):Int)]]) 147 r1_3 rfl kj (run_storeQ 3 _ _ g 26 147 [ints .u64 (nw3 r),ints .u64 (nw3 s),ints .u64 (nw3 (S)),ints .u8 (pl1)] [] _ (.int .i64 ((m+n:Nat):Int)) r1_3 rfl kj kj kj (by rw [Qam,Qam,Qam,Qam]; simp only [qS,cat,((Qac _ _).trans (Qa1 _)),((Qac _ _).trans hpl1)]; rfl) rfl rfl) fun W4 p4 r1_4=>?_
   have x4:=ExtB.puts x3 p4
   refine sgN hK15 <| sgC fun K16 hK16=>sg 3 kj <| Qad (.int .i64 ((m+n:Nat):Int)) 32 rfl kj (Qak 3 _ g 26 147 _ (.int .i64 ((m+n:Nat):Int)) _ r1_4 rfl kj (Qa8 [ints .u64 (nw3 r),ints .u64 (nw3 s),ints .u64 (nw3 (S)),ints .u8 (pl1)] [#[.int .i64 ((m+n:Nat):Int)]] [] 26 (by rw [Qam,Qam,Qam,Qam]; simp only [qS,cat,((Qac _ _).trans (Qa1 _)),((Qac _ _).trans hpl1)]; rfl) 0 _ rfl) kj) ?_
   refine Qad (.bool false) 33 rfl kj (Qal (u:=.bool ((((m+n:Nat):Int)==16))) kj (congrArg Value.bool (beq_eq_false_iff_ne.2 (by omega)))) <| sgN hK16 <| cond_false kj <| wp_skip ?_
   have hu:(t++ys.take k).length=16*q+m:=by rw [List.length_append,List.length_take]; omega
   have htk:t++ys.take (k+n)=(t++ys.take k)++z:=by rw [QhF ys k n,←ez,List.append_assoc]
   repeat (first | with_reducible refine goX1 ?_ | with_reducible refine goX2 ?_ | with_reducible refine goX3 ?_)
   exact QaG ((k+n),(m+n),q,S,pl1,(.slice (restA ab cb n) ((ys.drop k).length-n) (cb-n))) ⟨kj,kj,trivial⟩ ⟨(show k+n≤ys.length by omega),(by rw [show ys.drop (k+n)=(ys.drop k).drop n from (List.drop_drop ..).symm]; exact Qf7 ((f13_2.puts p3 hBg).puts p4 hBg) n (by omega)),(show t.length+(k+n)=16*q+(m+n)∧m+n<16 by omega),(show _=QdW r (t++ys.take (k+n)) q by rw [htk,QfW _ _ _ _ (by omega)]; exact hSm),hS,hpl1,hpb1,(show pl1.take (m+n)=(t++ys.take (k+n)).drop (16*q) by rw [htk,hpt1,hpt]; exact (List.drop_append_of_le_length (by omega)).symm),r1_4,(Qau.puts (Qau.puts (Qau.step q1 e2) p3 (.inl (by simp))) p4 (.inl (by simp))),x4⟩ (by show ys.length-(k+n)<ys.length-k; omega)
 ·skip
  have hke:k=ys.length:=by have:=of_decide_eq_false c4; omega
  refine wp_exit ?_
  repeat (first | with_reducible refine goX1 ?_ | with_reducible refine goX2 ?_ | with_reducible refine goX3 ?_)
  exact (show bodyPost _ _ _ .normal _ _ from end0 rfl ⟨rfl,xx1,S,pl,q,m,by rw [List.length_append]; omega,hmq.2,q1_1,by rw [hke,List.take_length] at hSm; exact hSm,hS,hpl,hpb,by rw [hke,List.take_length] at hpt; exact hpt⟩)
end Go.Proofs.YtmljnchhgkfemaaDoor.Ae
end
section
namespace Go.Proofs.YtmljnchhgkfemaaDoor.Ae
open Go Go.RowKit
open Rely Auto Own Sha
open Sha Cha
def Qmm (b : List Int):List Int :=
  let b1:=b.set 3 (nth b 3%16)
  let b2:=b1.set 7 (nth b1 7%16)
  let b3:=b2.set 11 (nth b2 11%16)
  let b4:=b3.set 15 (nth b3 15%16)
  let b5:=b4.set 4 (nth b4 4/4*4)
  let b6:=b5.set 8 (nth b5 8/4*4)
  let b7:=b6.set 12 (nth b6 12/4*4)
  b7
theorem Qji : ∀ key:List Int,key.length=32→((Qmm key).drop 0).take (16-0)=Qfy ((key.drop 0).take (16-0))
  | [a0,a1,a2,a3,a4,a5,a6,a7,a8,a9,a10,a11,a12,a13,a14,a15,a16,a17,a18,a19,a20,a21,a22,a23,a24,a25,a26,a27,a28,a29,a30,a31],_=>by kernel_rfl
theorem QnD (x : Int) (h:0≤x∧x<256):bits .and .u8 x 15=x%16:=by
  have:∀ n:Fin 256,bits .and .u8 ((n.1:Nat):Int) 15=((n.1:Nat):Int)%16:=by decide +kernel
  obtain ⟨X,rfl⟩:=Int.eq_ofNat_of_zero_le h.1
  exact this ⟨X,by omega⟩
theorem Qmv (x : Int) (h:0≤x∧x<256):bits .and .u8 x 252=x/4*4:=by
  have:∀ n:Fin 256,bits .and .u8 ((n.1:Nat):Int) 252=((n.1:Nat):Int)/4*4:=by decide +kernel
  obtain ⟨X,rfl⟩:=Int.eq_ofNat_of_zero_le h.1
  exact this ⟨X,by omega⟩
theorem Qoz {r : Int} {t:List Int} {q:Nat} (h:t.length=16*q+0):Qe4 r t=QdW r t q:=by unfold Qe4; rw [show (t.length+15)/16=q by omega]
theorem Qqu {r S:Int} {t:List Int} {q m:Nat} (hu:t.length=16*q+m) (h0:0<m) (hm:m<16) (hS:S%PP=QdW r t q):QfM r S (t.drop (16*q))%PP=Qe4 r t:=by
  unfold Qe4
  rw [show (t.length+15)/16=q+1 by omega]
  unfold QdW QfM
  rw [List.take_of_length_le (by rw [List.length_drop]; omega)]
  exact Qgz hS (Qj9 _)
theorem geq4 (S : Int) (h0:0≤S) (h:S<2041694201525630780780247644590609268736):decide (nth (nw3 (S+5)) 2≥4)=decide (1361129467683753853853498429727072845824≤S+5):=by
  have e:nth (nw3 (S+5)) 2=(S+5)/340282366920938463463374607431768211456%18446744073709551616:=rfl
  rw [e]
  exact decide_eq_decide.2 (by omega)
theorem QjO (x : Int):by16 (x+1361129467683753853853498429727072845824)=by16 x:=by
  unfold by16
  refine List.map_congr_left fun i hi=>?_
  rw [List.mem_range] at hi
  have h1:(1361129467683753853853498429727072845824:Int)=p256 i*(256*(4*p256 (15-i))):=by
    have h2:p256 16=p256 i*p256 (16-i):=by rw [←Qeq]; congr 1; omega
    rw [show 16-i=(15-i)+1 by omega,QeJ (15-i),p16] at h2
    grind
  rw [h1,Int.add_mul_ediv_left _ _ (Int.ne_of_gt (QdI i))]
  omega
theorem Qn1 (a : Int) (b c:Nat):a/p256 b/p256 c=a/p256 (b+c):=by
  rw [Qeq,Int.ediv_ediv,if_neg (by have:=QdI b; omega)]; exact Int.sub_zero _
theorem out_byte (V : Int) (i:Nat) (hi:i<16):IntKind.u8.wrap (nth (nw3 V) (i/8)/p256 (i%8))=nth (by16 V) i:=by
  have h3:∀ z:Int,IntKind.u8.wrap z=z%256:=fun _=>rfl
  have hp8:p256 8=18446744073709551616:=by decide +kernel
  rw [h3,Qn8 _ _ hi]
  have hB:(18446744073709551616:Int)=p256 (i%8)*(256*p256 (7-i%8)):=by
    have h2:p256 8=p256 (i%8)*p256 (8-i%8):=by rw [←Qeq]; congr 1; omega
    rw [show 8-i%8=(7-i%8)+1 by omega,QeJ (7-i%8),hp8] at h2
    exact h2
  have key:∀ x:Int,x%18446744073709551616/p256 (i%8)%256=x/p256 (i%8)%256:=fun x=>by
    have h5:x=x%18446744073709551616+p256 (i%8)*(256*(p256 (7-i%8)*(x/18446744073709551616))):=by
      have h6:x=x%18446744073709551616+18446744073709551616*(x/18446744073709551616):=(Int.emod_add_mul_ediv x _).symm
      have h7:(18446744073709551616:Int)*(x/18446744073709551616)=p256 (i%8)*(256*(p256 (7-i%8)*(x/18446744073709551616))):=by
        generalize x/18446744073709551616=y at *
        rw [hB]; grind
      omega
    have h8:x/p256 (i%8)=x%18446744073709551616/p256 (i%8)+256*(p256 (7-i%8)*(x/18446744073709551616)):=by
      have h9:=Int.add_mul_ediv_left (x%18446744073709551616) (256*(p256 (7-i%8)*(x/18446744073709551616))) (Int.ne_of_gt (QdI (i%8)))
      rw [←h5] at h9
      exact h9
    omega
  rcases (show i/8=0∨i/8=1 by omega) with h | h
  · rw [h]
    show V%18446744073709551616/p256 (i%8)%256=_
    rw [key,show i%8=i by omega]
  · rw [h]
    show V/18446744073709551616%18446744073709551616/p256 (i%8)%256=_
    rw [key,←hp8,Qn1,show 8+i%8=i by omega]
theorem shr8 (q : Int) (t:Nat) (c:Int) (hc:c=((8*t:Nat):Int)) (ht:t<8):q.fdiv (2^min c.toNat IntKind.u64.bits)=q/p256 t:=by
  subst hc
  have hm:min (((8*t:Nat):Int)).toNat IntKind.u64.bits=8*t:=by show min (((8*t:Nat):Int)).toNat 64=8*t; omega
  have e:(2:Int)^(8*t)=p256 t:=by unfold p256; rw [Int.pow_mul]; rfl
  rw [hm,e,Int.fdiv_eq_ediv_of_nonneg _ (Int.le_of_lt (QdI t))]
theorem QjP {b : List Int} (h:Qag b) (i:Nat):Qag (b.set i (nth b i%16)):=Qcb h _ (by omega) (by omega)
theorem QoZ {b : List Int} (h:Qag b) (i:Nat):Qag (b.set i (nth b i/4*4)):=Qcb h _ (by have:=Qbi h i; omega) (by have:=Qbi h i; omega)
theorem Qg4 (key : List Int) (hkl:key.length=32) (hkb:Qag key):0≤rOf key∧rOf key<21267647932558653966460912964485513216:=by
  unfold rOf
  obtain ⟨b0,e0⟩:∃ z,z=(key.drop 0).take (16-0):=⟨_,rfl⟩
  have hl0:b0.length=16:=by rw [e0,List.length_take,List.length_drop,hkl]; rfl
  have hb0:Qag b0:=e0▸Qbd (Qb9 hkb 0) _
  rw [←e0]
  have hcb:Qag (Qfy b0):=by
    exact QoZ (QoZ (QoZ (QjP (QjP (QjP (QjP hb0 3) 7) 11) 15) 4) 8) 12
  have hl:(Qfy b0).length=16:=by unfold Qfy; simp only [List.length_set,hl0]
  have h15:nth (Qfy b0) 15≤15:=by
    obtain ⟨x15,e15⟩:∃ x,nth (Qfy b0) 15=x%16:=by
      match b0,hl0 with
      | [a0,a1,a2,a3,a4,a5,a6,a7,a8,a9,a10,a11,a12,a13,a14,a15],_=>exact ⟨a15,rfl⟩
    rw [e15]; omega
  have h1:=QeK (Qfy b0) 15 (by omega)
  rw [List.take_of_length_le (by omega)] at h1
  have h2:=Qio (Qbd hcb 15)
  have h3:=Qd7 hcb
  rw [List.length_take,Nat.min_eq_left (by omega)] at h2
  have hp15:p256 15=1329227995784915872903807060280344576:=by decide +kernel
  rw [hp15] at h1 h2
  omega
theorem Qpu (key : List Int) (hkl:key.length=32) (hkb:Qag key):0≤sOf key∧sOf key<340282366920938463463374607431768211456:=by
  unfold sOf
  have h1:=Qio (Qbd (Qb9 hkb 16) (32-16))
  rw [List.length_take,List.length_drop,hkl] at h1
  exact ⟨Qd7 (Qbd (Qb9 hkb 16) _),by rw [←p16]; exact h1⟩
set_option maxRecDepth 100000 in
theorem Qku (key : List Int) (w:World) (hkl:key.length=32) (hkb:Qag key):Calls Tryd.prog 77 #[.agg (ints .u8 key)] w (QcB w (fun v W=>∃ g,v=.pointer (some ⟨g,0,none⟩)∧w.heap.size≤g∧Mk g (rOf key) (sOf key) [] W)):=by
  refine enter 35 [(0,.agg (ints .u8 (key)))] Tryd.func77 rfl rfl kj rfl <| sgC fun K1 hK1=>Qaj (ints .u8 (key)) 23 1 rfl kj kj fun g2 W1 l2 e1 r2_1=>?_
  have b2:=qT (Rely.Ext.refl w).size l2
  refine sg 1 kj <| sgN hK1 <| sgC fun K3 hK3=>Qad (.slice (some ⟨g2,0+16,none⟩) (32-16) (32-16)) 8 rfl kj (Qce 23 _ _ _ 16 32 32 g2 0 5 rfl kj kj kj ⟨.i64,by kernel_rfl⟩ rfl (by omega) (by omega) (by omega)) <| Qao (.agg (ints .u64 (nw3 (lev ((key.drop 16).take (32-16)))))) 86 #[.slice (some ⟨g2,0+16,none⟩) (32-16) (32-16)] 9 rfl kj kj ((QkO ((key.drop 16).take (32-16)) _ _ _ (Qlm (l:=16) (h:=32) hkl r2_1 (by decide) (by decide) (by decide)) (by rw [List.length_take]; omega) (Qbd (Qb9 hkb 16) _))) fun W2 e2=>?_
  have x2:=Ext.tr (Ext.tr (Rely.Ext.refl w) e1) e2
  refine Qaj (ints .u64 ([0,0,0])) 142 3 rfl kj kj fun g4 W3 l4 e3 r4_3=>Qah g4 _ (ints .u64 (nw3 (lev ((key.drop 16).take (32-16))))) 142 r4_3 rfl kj (Qaf 142 _ _ g4 142 _ _ r4_3 rfl kj kj (isz (n:=3) kj ((Qac _ _).trans (Qa1 _))) (eqsz (n:=3) kj ((Qac _ _).trans (Qa1 _))) (ints_one _ _)) fun W4 p4 r4_4=>sgN hK3 <| wp_seq_k fun K5 hK5=>sgB kj <| wp_block <| wp_loop_rounds 5 ?_
  show Code.wp _ _ (Exit.then (Code.rounds _ _ _ 4) _) _ _
  refine sgB kj <| sgT kj <| wp_seq_k fun K9 hK9=>wp_block <| sgC fun K10 hK10=>Qad (.int .i64 3) 13 rfl kj (Qa7 137 _ _ .i64 .i64 ([3,7,11,15]) 0 4 3 3 rfl kj kj kj kj kj rfl (by decide) rfl) <| sg 1 kj <| sgN hK10 <| Qan <| sg 2 kj ?_
  have r2_2:=(Qaa r2_1 e2)
  have r2_4:=(Puts.row p4 (Qaa r2_2 e3) (Qab r2_2 l4))
  refine Qad (.int .u8 (nth (key) 3)) 16 rfl kj (Qak 5 _ g2 3 23 _ (.int .u8 (nth (key) 3)) _ r2_4 rfl kj (Qar _ _ _ (Nat.lt_of_lt_of_eq (by decide) hkl.symm)) kj) <| Qad (.int .u8 (nth key 3%16)) 17 rfl kj (Qal (u:=.int .u8 (bits .and .u8 ((nth (key) 3)) (15))) kj (congrArg (Value.int .u8) (QnD _ (Qbi hkb 3)))) <| sg 1 kj <| Qah g2 _ (ints .u8 ((key).set 3 (nth key 3%16))) 23 r2_4 rfl kj (Qaw 5 _ _ g2 3 23 _ _ r2_4 rfl kj kj kj (Nat.lt_of_lt_of_eq (show 3<32 by decide) hkl.symm)) fun W5 p5 r2_5=>?_
  obtain ⟨c1_,ec1_⟩:∃ z,z=(key).set 3 (nth key 3%16):=⟨_,rfl⟩
  have hlc1_:c1_.length=32:=by rw [ec1_,List.length_set,hkl]
  have hxc1_:=Qbi hkb 3
  have hbc1_:Qag c1_:=ec1_▸Qcb hkb _ (by omega) (by omega)
  have r2_5_11:W5.heap[g2]? = some (.cells (ints .u8 (c1_)) 23):=QaC r2_5 (by rw [ec1_])
  refine Qaz <| hK9 _ _ <| sgA kj ?_
  show Code.rounds _ _ _ 4 _ _
  show Code.wp _ _ (Exit.then (Code.rounds _ _ _ 3) _) _ _
  refine sgB kj <| sgT kj <| wp_seq_k fun K14 hK14=>wp_block <| sgC fun K15 hK15=>Qad (.int .i64 7) 13 rfl kj (Qa7 137 _ _ .i64 .i64 ([3,7,11,15]) 1 4 3 7 rfl kj kj kj kj kj rfl (by decide) rfl) <| sg 1 kj <| sgN hK15 <| Qan <| sg 2 kj ?_
  refine Qad (.int .u8 (nth (c1_) 7)) 16 rfl kj (Qak 5 _ g2 7 23 _ (.int .u8 (nth (c1_) 7)) _ r2_5_11 rfl kj (Qar _ _ _ (Nat.lt_of_lt_of_eq (by decide) hlc1_.symm)) kj) <| Qad (.int .u8 (nth c1_ 7%16)) 17 rfl kj (Qal (u:=.int .u8 (bits .and .u8 ((nth (c1_) 7)) (15))) kj (congrArg (Value.int .u8) (QnD _ (Qbi hbc1_ 7)))) <| sg 1 kj <| Qah g2 _ (ints .u8 ((c1_).set 7 (nth c1_ 7%16))) 23 r2_5_11 rfl kj (Qaw 5 _ _ g2 7 23 _ _ r2_5_11 rfl kj kj kj (Nat.lt_of_lt_of_eq (show 7<32 by decide) hlc1_.symm)) fun W6 p6 r2_6=>?_
  obtain ⟨c2_,ec2_⟩:∃ z,z=(c1_).set 7 (nth c1_ 7%16):=⟨_,rfl⟩
  have hlc2_:c2_.length=32:=by rw [ec2_,List.length_set,hlc1_]
  have hxc2_:=Qbi hbc1_ 7
  have hbc2_:Qag c2_:=ec2_▸Qcb hbc1_ _ (by omega) (by omega)
  have r2_6_16:W6.heap[g2]? = some (.cells (ints .u8 (c2_)) 23):=QaC r2_6 (by rw [ec2_])
  refine Qaz <| hK14 _ _ <| sgA kj ?_
  show Code.rounds _ _ _ 3 _ _
  show Code.wp _ _ (Exit.then (Code.rounds _ _ _ 2) _) _ _
  refine sgB kj <| sgT kj <| wp_seq_k fun K19 hK19=>wp_block <| sgC fun K20 hK20=>Qad (.int .i64 11) 13 rfl kj (Qa7 137 _ _ .i64 .i64 ([3,7,11,15]) 2 4 3 11 rfl kj kj kj kj kj rfl (by decide) rfl) <| sg 1 kj <| sgN hK20 <| Qan <| sg 2 kj ?_
  refine Qad (.int .u8 (nth (c2_) 11)) 16 rfl kj (Qak 5 _ g2 11 23 _ (.int .u8 (nth (c2_) 11)) _ r2_6_16 rfl kj (Qar _ _ _ (Nat.lt_of_lt_of_eq (by decide) hlc2_.symm)) kj) <| Qad (.int .u8 (nth c2_ 11%16)) 17 rfl kj (Qal (u:=.int .u8 (bits .and .u8 ((nth (c2_) 11)) (15))) kj (congrArg (Value.int .u8) (QnD _ (Qbi hbc2_ 11)))) <| sg 1 kj <| Qah g2 _ (ints .u8 ((c2_).set 11 (nth c2_ 11%16))) 23 r2_6_16 rfl kj (Qaw 5 _ _ g2 11 23 _ _ r2_6_16 rfl kj kj kj (Nat.lt_of_lt_of_eq (show 11<32 by decide) hlc2_.symm)) fun W7 p7 r2_7=>?_
  obtain ⟨c3_,ec3_⟩:∃ z,z=(c2_).set 11 (nth c2_ 11%16):=⟨_,rfl⟩
  have hlc3_:c3_.length=32:=by rw [ec3_,List.length_set,hlc2_]
  have hxc3_:=Qbi hbc2_ 11
  have hbc3_:Qag c3_:=ec3_▸Qcb hbc2_ _ (by omega) (by omega)
  have r2_7_21:W7.heap[g2]? = some (.cells (ints .u8 (c3_)) 23):=QaC r2_7 (by rw [ec3_])
  refine Qaz <| hK19 _ _ <| sgA kj ?_
  show Code.rounds _ _ _ 2 _ _
  show Code.wp _ _ (Exit.then (Code.rounds _ _ _ 1) _) _ _
  refine sgB kj <| sgT kj <| wp_seq_k fun K24 hK24=>wp_block <| sgC fun K25 hK25=>Qad (.int .i64 15) 13 rfl kj (Qa7 137 _ _ .i64 .i64 ([3,7,11,15]) 3 4 3 15 rfl kj kj kj kj kj rfl (by decide) rfl) <| sg 1 kj <| sgN hK25 <| Qan <| sg 2 kj ?_
  refine Qad (.int .u8 (nth (c3_) 15)) 16 rfl kj (Qak 5 _ g2 15 23 _ (.int .u8 (nth (c3_) 15)) _ r2_7_21 rfl kj (Qar _ _ _ (Nat.lt_of_lt_of_eq (by decide) hlc3_.symm)) kj) <| Qad (.int .u8 (nth c3_ 15%16)) 17 rfl kj (Qal (u:=.int .u8 (bits .and .u8 ((nth (c3_) 15)) (15))) kj (congrArg (Value.int .u8) (QnD _ (Qbi hbc3_ 15)))) <| sg 1 kj <| Qah g2 _ (ints .u8 ((c3_).set 15 (nth c3_ 15%16))) 23 r2_7_21 rfl kj (Qaw 5 _ _ g2 15 23 _ _ r2_7_21 rfl kj kj kj (Nat.lt_of_lt_of_eq (show 15<32 by decide) hlc3_.symm)) fun W8 p8 r2_8=>?_
  obtain ⟨c4_,ec4_⟩:∃ z,z=(c3_).set 15 (nth c3_ 15%16):=⟨_,rfl⟩
  have hlc4_:c4_.length=32:=by rw [ec4_,List.length_set,hlc3_]
  have hxc4_:=Qbi hbc3_ 15
  have hbc4_:Qag c4_:=ec4_▸Qcb hbc3_ _ (by omega) (by omega)
  have r2_8_26:W8.heap[g2]? = some (.cells (ints .u8 (c4_)) 23):=QaC r2_8 (by rw [ec4_])
  refine Qaz <| hK24 _ _ <| sgA kj ?_
  show Code.rounds _ _ _ 1 _ _
  show Code.wp _ _ (Exit.then (Code.rounds _ _ _ 0) _) _ _
  refine sgB kj <| wp_seq_k fun K28 hK28=>cond_false kj <| wp_exit <| hK5 _ _ <| wp_seq_k fun K29 hK29=>sgB kj <| wp_block <| wp_loop_rounds 4 ?_
  show Code.wp _ _ (Exit.then (Code.rounds _ _ _ 3) _) _ _
  refine sgB kj <| sgT kj <| wp_seq_k fun K33 hK33=>wp_block <| sgC fun K34 hK34=>Qad (.int .i64 4) 23 rfl kj (Qa7 144 _ _ .i64 .i64 ([4,8,12]) 0 3 3 4 rfl kj kj kj kj kj rfl (by decide) rfl) <| sg 1 kj <| sgN hK34 <| Qan <| sg 2 kj ?_
  refine Qad (.int .u8 (nth (c4_) 4)) 26 rfl kj (Qak 5 _ g2 4 23 _ (.int .u8 (nth (c4_) 4)) _ r2_8_26 rfl kj (Qar _ _ _ (Nat.lt_of_lt_of_eq (by decide) hlc4_.symm)) kj) <| Qad (.int .u8 (nth c4_ 4/4*4)) 27 rfl kj (Qal (u:=.int .u8 (bits .and .u8 ((nth (c4_) 4)) (252))) kj (congrArg (Value.int .u8) (Qmv _ (Qbi hbc4_ 4)))) <| sg 1 kj <| Qah g2 _ (ints .u8 ((c4_).set 4 (nth c4_ 4/4*4))) 23 r2_8_26 rfl kj (Qaw 5 _ _ g2 4 23 _ _ r2_8_26 rfl kj kj kj (Nat.lt_of_lt_of_eq (show 4<32 by decide) hlc4_.symm)) fun W9 p9 r2_9=>?_
  obtain ⟨c5_,ec5_⟩:∃ z,z=(c4_).set 4 (nth c4_ 4/4*4):=⟨_,rfl⟩
  have hlc5_:c5_.length=32:=by rw [ec5_,List.length_set,hlc4_]
  have hxc5_:=Qbi hbc4_ 4
  have hbc5_:Qag c5_:=ec5_▸Qcb hbc4_ _ (by omega) (by omega)
  have r2_9_35:W9.heap[g2]? = some (.cells (ints .u8 (c5_)) 23):=QaC r2_9 (by rw [ec5_])
  refine Qaz <| hK33 _ _ <| sgA kj ?_
  show Code.rounds _ _ _ 3 _ _
  show Code.wp _ _ (Exit.then (Code.rounds _ _ _ 2) _) _ _
  refine sgB kj <| sgT kj <| wp_seq_k fun K38 hK38=>wp_block <| sgC fun K39 hK39=>Qad (.int .i64 8) 23 rfl kj (Qa7 144 _ _ .i64 .i64 ([4,8,12]) 1 3 3 8 rfl kj kj kj kj kj rfl (by decide) rfl) <| sg 1 kj <| sgN hK39 <| Qan <| sg 2 kj ?_
  refine Qad (.int .u8 (nth (c5_) 8)) 26 rfl kj (Qak 5 _ g2 8 23 _ (.int .u8 (nth (c5_) 8)) _ r2_9_35 rfl kj (Qar _ _ _ (Nat.lt_of_lt_of_eq (by decide) hlc5_.symm)) kj) <| Qad (.int .u8 (nth c5_ 8/4*4)) 27 rfl kj (Qal (u:=.int .u8 (bits .and .u8 ((nth (c5_) 8)) (252))) kj (congrArg (Value.int .u8) (Qmv _ (Qbi hbc5_ 8)))) <| sg 1 kj <| Qah g2 _ (ints .u8 ((c5_).set 8 (nth c5_ 8/4*4))) 23 r2_9_35 rfl kj (Qaw 5 _ _ g2 8 23 _ _ r2_9_35 rfl kj kj kj (Nat.lt_of_lt_of_eq (show 8<32 by decide) hlc5_.symm)) fun W10 p10 r2_10=>?_
  obtain ⟨c6_,ec6_⟩:∃ z,z=(c5_).set 8 (nth c5_ 8/4*4):=⟨_,rfl⟩
  have hlc6_:c6_.length=32:=by rw [ec6_,List.length_set,hlc5_]
  have hxc6_:=Qbi hbc5_ 8
  have hbc6_:Qag c6_:=ec6_▸Qcb hbc5_ _ (by omega) (by omega)
  have r2_10_40:W10.heap[g2]? = some (.cells (ints .u8 (c6_)) 23):=QaC r2_10 (by rw [ec6_])
  refine Qaz <| hK38 _ _ <| sgA kj ?_
  show Code.rounds _ _ _ 2 _ _
  show Code.wp _ _ (Exit.then (Code.rounds _ _ _ 1) _) _ _
  refine sgB kj <| sgT kj <| wp_seq_k fun K43 hK43=>wp_block <| sgC fun K44 hK44=>Qad (.int .i64 12) 23 rfl kj (Qa7 144 _ _ .i64 .i64 ([4,8,12]) 2 3 3 12 rfl kj kj kj kj kj rfl (by decide) rfl) <| sg 1 kj <| sgN hK44 <| Qan <| sg 2 kj ?_
  refine Qad (.int .u8 (nth (c6_) 12)) 26 rfl kj (Qak 5 _ g2 12 23 _ (.int .u8 (nth (c6_) 12)) _ r2_10_40 rfl kj (Qar _ _ _ (Nat.lt_of_lt_of_eq (by decide) hlc6_.symm)) kj) <| Qad (.int .u8 (nth c6_ 12/4*4)) 27 rfl kj (Qal (u:=.int .u8 (bits .and .u8 ((nth (c6_) 12)) (252))) kj (congrArg (Value.int .u8) (Qmv _ (Qbi hbc6_ 12)))) <| sg 1 kj <| Qah g2 _ (ints .u8 ((c6_).set 12 (nth c6_ 12/4*4))) 23 r2_10_40 rfl kj (Qaw 5 _ _ g2 12 23 _ _ r2_10_40 rfl kj kj kj (Nat.lt_of_lt_of_eq (show 12<32 by decide) hlc6_.symm)) fun W11 p11 r2_11=>?_
  obtain ⟨c7_,ec7_⟩:∃ z,z=(c6_).set 12 (nth c6_ 12/4*4):=⟨_,rfl⟩
  have hlc7_:c7_.length=32:=by rw [ec7_,List.length_set,hlc6_]
  have hxc7_:=Qbi hbc6_ 12
  have hbc7_:Qag c7_:=ec7_▸Qcb hbc6_ _ (by omega) (by omega)
  have r2_11_45:W11.heap[g2]? = some (.cells (ints .u8 (c7_)) 23):=QaC r2_11 (by rw [ec7_])
  refine Qaz <| hK43 _ _ <| sgA kj ?_
  show Code.rounds _ _ _ 1 _ _
  show Code.wp _ _ (Exit.then (Code.rounds _ _ _ 0) _) _ _
  refine sgB kj <| wp_seq_k fun K47 hK47=>cond_false kj <| wp_exit <| hK29 _ _ <| wp_seq_k fun K48 hK48=>?_
  have hck:c7_=Qmm key:=by unfold Qmm; rw [ec7_,ec6_,ec5_,ec4_,ec3_,ec2_,ec1_]
  have hro:lev ((c7_.drop 0).take (16-0))=rOf key:=by unfold rOf; rw [hck,Qji key hkl]
  refine Qbf 3 [⟨none,[(1,none)]⟩,⟨none,[(30,some 0)]⟩,⟨none,[(3,none)]⟩] kj kj fun F hF=>QaL (Qaq _) (.slice (some ⟨g2,0+0,none⟩) (16-0) (32-0)) kj kj (fun W=>(Qce 23 _ _ _ 0 16 32 g2 0 5 rfl kj kj kj rfl ⟨.i64,by kernel_rfl⟩ (by omega) (by omega) (by omega))) <| QpQ (Qaq _) (.agg (ints .u64 (nw3 (lev ((c7_.drop 0).take (16-0)))))) 86 #[.slice (some ⟨g2,0+0,none⟩) (16-0) (32-0)] kj kj (fun W=>by kernel_rfl) (fun W hR=>(QkO ((c7_.drop 0).take (16-0)) _ _ W (Qlm (l:=0) (h:=16) hlc7_ (Qaa (Qaa r2_11_45 (Qai _)) hR) (by decide) (by decide) (by decide)) (by rw [List.length_take]; omega) (Qbd (Qb9 hbc7_ 0) _))) ?_
  refine Qc8 (Qaq _) (.agg (ints .u64 (nw3 (lev ((key.drop 16).take (32-16)))))) kj kj (fun W hR=>(Qae 142 _ g4 142 _ _ (Qaa (Qaa (Puts.row p11 (Puts.row p10 (Puts.row p9 (Puts.row p8 (Puts.row p7 (Puts.row p6 (Puts.row p5 r4_4 (Qav r2_2 l4)) (Qav r2_2 l4)) (Qav r2_2 l4)) (Qav r2_2 l4)) (Qav r2_2 l4)) (Qav r2_2 l4)) (Qav r2_2 l4)) (Qai _)) hR) rfl kj kj (isz (n:=3) kj ((Qac _ _).trans (Qa1 _))))) <| QdN (hF _ fun W12 e12=>?_)
  simp only [List.nil_append,List.cons_append,List.take_succ_cons,List.take_zero,List.drop_succ_cons,List.drop_zero,finE,up]
  clear hF
  have x12:=Ext.tr (Puts.ext p11 (Puts.ext p10 (Puts.ext p9 (Puts.ext p8 (Puts.ext p7 (Puts.ext p6 (Puts.ext p5 (Puts.ext p4 (Ext.tr x2 e3) (qT x2.size l4)) b2) b2) b2) b2) b2) b2) b2) e12
  refine sg 1 kj <| Qaj (cat [ints .u64 (nw3 (lev ((c7_.drop 0).take (16-0)))),ints .u64 (nw3 (lev ((key.drop 16).take (32-16)))),ints .u64 (nw3 (0)),ints .u8 (List.replicate 17 0),#[.int .i64 0]]) 147 34 rfl kj kj fun g49 W13 l49 e13 r49_13=>sg 1 kj <| sgN hK48 <| wp_ret ?_
  repeat (first | with_reducible refine goR1 ?_ | with_reducible refine goR2 ?_)
  exact (show bodyPost _ _ _ .ret _ _ from ret1 (.pointer (some ⟨g49,0,none⟩)) rfl (QaM kj) ⟨_,rfl,(Ext.tr x12 e13),g49,rfl,(qT x12.size l49),0,List.replicate 17 0,0,0,rfl,(by decide),(by have h9:=r49_13; rw [hro] at h9; exact h9),rfl,⟨by decide,by decide⟩,qZ ..,(fun x hx=>by rw [List.mem_replicate] at hx; omega),rfl⟩)
set_option maxRecDepth 100000 in
theorem endC (g : Nat) (r s:Int) (t:List Int) (w:World) (hr:0≤r∧r<21267647932558653966460912964485513216) (hs:0≤s∧s<340282366920938463463374607431768211456) (hM:Mk g r s t w) :
  Calls Tryd.prog 79 #[.pointer (some ⟨g,0,none⟩)] w (fun e W=>e=.returned (.agg (ints .u8 (tagV r s t)))∧ExtB g w W):=by
 obtain ⟨S,pl,q,m,hq,hm,hg,hSm,hS,hpl,hpb,hpt⟩:=hM
 refine enter 47 [(0,.pointer (some ⟨g,0,none⟩))] Tryd.func79 rfl rfl kj rfl <| sgC fun K2 hK2=>Qaj (ints .u8 (List.replicate 16 0)) 66 2 rfl kj kj fun g3 W1 l3 e1 r3_1=>?_
 have x1:=ExtB.ext (ExtB.refl g w) e1
 have b3:=qT (ExtB.refl g w).size l3
 refine sgN hK2 <| wp_seq_k fun K4 hK4=>sgC fun K5 hK5=>sg 3 kj ?_
 have r1_1:=(Qaa hg e1)
 refine Qad (.int .i64 ((m:Nat):Int)) 10 rfl kj (Qak 3 _ g 26 147 _ (.int .i64 ((m:Nat):Int)) _ r1_1 rfl kj (Qa8 [ints .u64 (nw3 r),ints .u64 (nw3 s),ints .u64 (nw3 (S)),ints .u8 (pl)] [#[.int .i64 ((m:Nat):Int)]] [] 26 (by rw [Qam,Qam,Qam,Qam]; simp only [qS,cat,((Qac _ _).trans (Qa1 _)),((Qac _ _).trans hpl)]; rfl) 0 _ rfl) kj) ?_
 refine sg 1 kj <| sgN hK5 <| Qa9 (t:=decide (((m:Nat):Int)>0)) kj (fun c6=>?_) (fun c6=>?_)
 ·skip
  have hm0:0<m:=by have:=of_decide_eq_true c6; omega
  refine Qan <| sg 1 kj <| QaA (fun v W'=>v=.tuple #[]∧ExtB g W1 W'∧W'.heap[g]? = some (.cells (cat [ints .u64 (nw3 r),ints .u64 (nw3 s),ints .u64 (nw3 (QfM r S (pl.take m))),ints .u8 (pl.set m 1),#[.int .i64 0]]) 147)) 87 #[.pointer (some ⟨g,0,none⟩)] 13 rfl kj kj ((Qpq g r s S pl m _ hr hS hpl hpb (by omega) r1_1).mono fun e w' h=>⟨_,h.1,rfl,h.2⟩) fun v W2 h=>?_
  obtain ⟨rfl,q2,r1_2⟩:=h
  have hpl2:(pl.set m 1).length=17:=by rw [List.length_set,hpl]
  have x2:=ExtB.trans x1 q2
  obtain ⟨SS,eSS⟩:∃ z,z=QfM r S (pl.take m):=⟨_,rfl⟩
  have hSS:SS%PP=Qe4 r t:=by rw [eSS,hpt]; exact Qqu hq (by omega) hm hSm
  have hSb:0≤SS∧SS<2041694201525630780780247644590609268736:=eSS▸Qjs hS hr (Qbd hpb m) (by rw [List.length_take]; omega)
  rw [←eSS] at r1_2
  refine Qaz <| hK4 _ _ <| sgC fun K7 hK7=>sg 3 kj <| Qad (.agg (ints .u64 (nw3 (SS)))) 17 rfl kj (Qat 142 _ g 6 147 _ _ _ r1_2 rfl kj (Qa8 [ints .u64 (nw3 r),ints .u64 (nw3 s)] [ints .u64 (nw3 (SS))] [ints .u8 (pl.set m 1),#[.int .i64 0]] 6 (by rw [Qam,Qam]; simp only [qS,cat,((Qac _ _).trans (Qa1 _))]; rfl)) kj (isz (n:=3) kj ((Qac _ _).trans (Qa1 _)))) ?_
  refine Qaj (ints .u64 ([0,0,0])) 142 3 rfl kj kj fun g8 W3 l8 e3 r8_3=>?_
  have x3:=ExtB.ext x2 e3
  have b8:=qT x2.size l8
  refine Qah g8 _ (ints .u64 (nw3 (SS))) 142 r8_3 rfl kj (Qaf 142 _ _ g8 142 _ _ r8_3 rfl kj kj (isz (n:=3) kj ((Qac _ _).trans (Qa1 _))) (eqsz (n:=3) kj ((Qac _ _).trans (Qa1 _))) (ints_one _ _)) fun W4 p4 r8_4=>?_
  have x4:=ExtB.putsN x3 p4 b8
  refine sgN hK7 <| wp_seq_k fun K9 hK9=>sgC fun K10 hK10=>Qad (.agg (ints .u64 (nw3 (SS)))) 18 rfl kj (Qae 142 _ g8 142 _ _ r8_4 rfl kj kj (isz (n:=3) kj ((Qac _ _).trans (Qa1 _)))) <| sg 1 kj <| Qao (.agg (ints .u64 (nw3 (SS+5)))) 88 #[.agg (ints .u64 (nw3 (SS))),.agg (ints .u64 (nw3 5))] 20 rfl kj kj ((QiK SS 5 hSb.1 (by decide) (by omega) (by decide) (by omega)) _) fun W5 e5=>?_
  have x5:=ExtB.ext x4 e5
  refine Qaj (ints .u64 ([0,0,0])) 142 4 rfl kj kj fun g11 W6 l11 e6 r11_6=>?_
  have x6:=ExtB.ext x5 e6
  refine Qah g11 _ (ints .u64 (nw3 (SS+5))) 142 r11_6 rfl kj (Qaf 142 _ _ g11 142 _ _ r11_6 rfl kj kj (isz (n:=3) kj ((Qac _ _).trans (Qa1 _))) (eqsz (n:=3) kj ((Qac _ _).trans (Qa1 _))) (ints_one _ _)) fun W7 p7 r11_7=>?_
  have x7:=ExtB.putsN x6 p7 (qT x5.size l11)
  refine sgN hK10 <| sgC fun K12 hK12=>sg 1 kj <| Qad (.int .u64 (nth (nw3 (SS+5)) 2)) 22 rfl kj (Qak 52 _ g11 2 142 _ (.int .u64 (nth (nw3 (SS+5)) 2)) _ r11_7 rfl kj (Qar _ _ _ (Nat.lt_of_lt_of_eq (by decide) (Qa1 _).symm)) kj) <| Qad (.bool (decide (1361129467683753853853498429727072845824≤SS+5))) 23 rfl kj (Qal (u:=.bool (decide ((nth (nw3 (SS+5)) 2)≥4))) kj (congrArg Value.bool (geq4 SS hSb.1 hSb.2))) <| sgN hK12 <| Qa9 (t:=decide (1361129467683753853853498429727072845824≤SS+5)) kj (fun c13=>?_) (fun c13=>?_)
  ·skip
   have hbig:1361129467683753853853498429727072845824≤SS+5:=of_decide_eq_true c13
   have hfin:by16 (SS+5+s)=by16 (Qe4 r t+s):=by
    have e:SS+5+s=(Qe4 r t+s)+1361129467683753853853498429727072845824:=by rw [←hSS]; unfold PP; omega
    rw [e,QjO]
   refine Qan <| Qad (.agg (ints .u64 (nw3 (SS+5)))) 24 rfl kj (Qae 142 _ g11 142 _ _ r11_7 rfl kj kj (isz (n:=3) kj ((Qac _ _).trans (Qa1 _)))) ?_
   have r8_5:=(Qaa r8_4 e5)
   have r8_6:=(Qaa r8_5 e6)
   have r8_7:=(Puts.row p7 r8_6 (Qab r8_5 l11))
   refine Qah g8 _ (ints .u64 (nw3 (SS+5))) 142 r8_7 rfl kj (Qaf 142 _ _ g8 142 _ _ r8_7 rfl kj kj (isz (n:=3) kj ((Qac _ _).trans (Qa1 _))) (eqsz (n:=3) ((Qac _ _).trans (Qa1 _)) ((Qac _ _).trans (Qa1 _))) (ints_one _ _)) fun W8 p8 r8_8=>?_
   have x8:=ExtB.putsN x7 p8 b8
   refine Qaz <| hK9 _ _ <| wp_seq_k fun K14 hK14=>QaY 6 [⟨none,[(3,none)]⟩,⟨none,[(0,none)]⟩,⟨none,[(26,some 1)]⟩,⟨none,[(27,some 2)]⟩,⟨none,[(28,some 3)]⟩,⟨none,[(25,some 0),(29,some 4)]⟩] kj kj fun F hF=>Qax (.agg (ints .u64 (nw3 (SS+5)))) kj kj (fun W hR=>(Qae 142 _ g8 142 _ _ (Qaa (Qaa r8_8 (Qai _)) hR) rfl kj kj (isz (n:=3) kj ((Qac _ _).trans (Qa1 _))))) <| Qas (.pointer (some ⟨g,0,none⟩)) kj kj (fun W=>by kernel_rfl) <| Qas (.pointer (some ⟨g,0,none⟩)) kj kj (fun W=>by kernel_rfl) <| Qas (.pointer (some ⟨g,3,none⟩)) kj kj (fun W=>by kernel_rfl) ?_
   have r1_3:=(Qaa r1_2 e3)
   have r1_4:=(Puts.row p4 r1_3 (Qab r1_2 l8))
   have r1_5:=(Qaa r1_4 e5)
   have r1_6:=(Qaa r1_5 e6)
   have r1_7:=(Puts.row p7 r1_6 (Qab r1_5 l11))
   refine Qax (.agg (ints .u64 (nw3 s))) kj kj (fun W hR=>(Qat 142 _ g 3 147 _ _ _ (Qaa (Qaa (Puts.row p8 r1_7 (Qab r1_2 l8)) (Qai _)) hR) rfl kj (Qa8 [ints .u64 (nw3 r)] [ints .u64 (nw3 s)] [ints .u64 (nw3 (SS)),ints .u8 (pl.set m 1),#[.int .i64 0]] 3 ((Qac _ _).trans (Qa1 _))) kj (isz (n:=3) kj ((Qac _ _).trans (Qa1 _))))) <| QaD (.agg (ints .u64 (nw3 (SS+5+s)))) 88 #[.agg (ints .u64 (nw3 (SS+5))),.agg (ints .u64 (nw3 s))] kj kj (fun W=>by kernel_rfl) (fun W hR=>(QiK (SS+5) s (by omega) hs.1 (by omega) (by omega) (by omega)) W) <| QaT (hF _ kj fun W9 e9=>?_)
   simp only [ups,up,Kn.val,List.take_succ_cons,List.take_zero,List.drop_succ_cons,List.drop_zero,List.nil_append,List.cons_append]
   clear hF
   have x9:=ExtB.ext x8 e9
   have r8_9:=(Qaa r8_8 e9)
   refine Qah g8 _ (ints .u64 (nw3 (SS+5+s))) 142 r8_9 rfl kj (Qaf 142 _ _ g8 142 _ _ r8_9 rfl kj kj (isz (n:=3) kj ((Qac _ _).trans (Qa1 _))) (eqsz (n:=3) ((Qac _ _).trans (Qa1 _)) ((Qac _ _).trans (Qa1 _))) (ints_one _ _)) fun W10 p10 r8_10=>?_
   have x10:=ExtB.putsN x9 p10 b8
   refine sgN hK14 <| sgC fun K15 hK15=>Qaj (ints .u8 (List.replicate 16 0)) 66 5 rfl kj kj fun g16 W11 l16 e11 r16_11=>?_
   have x11:=ExtB.ext x10 e11
   refine sgN hK15 <| wp_seq_k fun K17 hK17=>sgB kj <| wp_block <| QaN (fun (s1:Nat)=>[(2,.pointer (some ⟨g3,0,none⟩)),(3,.pointer (some ⟨g8,0,none⟩)),(5,.pointer (some ⟨g16,0,none⟩)),(31,.int .i64 ((s1:Nat):Int))]) (fun (s1:Nat) W=>(s1≤16)∧(W.heap[g16]? = some (.cells (ints .u8 (QbW (by16 (SS+5+s)) 16 s1)) 66))∧(Qau [g16] W11 W)∧(ExtB g w W)) (fun (s1:Nat)=>16-s1) 0 ⟨kj,kj,kj,kj,trivial⟩ ⟨(Nat.zero_le _),(QaC r16_11 (QcK _ 16)),(Qau.refl [g16] W11),x11⟩ fun s1 X1 V1 hI1=>?_
   obtain ⟨i,hs1⟩:∃ z,z=s1:=⟨_,rfl⟩
   subst hs1
   obtain ⟨hi,q16_1,kk1,xx1⟩:=hI1
   replace hi:i≤16:=hi
   replace q16_1:V1.heap[g16]? = some (.cells (ints .u8 (QbW (by16 (SS+5+s)) 16 i)) 66):=q16_1
   replace kk1:Qau [g16] W11 V1:=kk1
   replace xx1:ExtB g w V1:=xx1
   have q12:=kk1
   refine sgB kj <| wp_seq_k fun K20 hK20=>Qa9 (t:=decide (((i:Nat):Int)<16)) kj (fun c21=>?_) (fun c21=>?_)
   ·skip
    have hlt32:i<16:=by have:=of_decide_eq_true c21; omega
    refine wp_skip <| hK20 _ _ <| wp_seq_k fun K22 hK22=>wp_block <| sgB kj <| Qan <| sg 2 kj <| Qad (.int .i64 ((i/8:Nat):Int)) 36 rfl kj (Qal (u:=.int .i64 (IntKind.i64.wrap (Int.tdiv (((i:Nat):Int)) (8)))) kj (congrArg (Value.int .i64) (QdY _ 8 (by omega)))) <| Qad (.pointer (some ⟨g8,i/8,none⟩)) 37 rfl kj (Qa3 _ _ _ .i64 (i/8) _ 3 52 rfl kj kj kj kj (by omega)) ?_
    have r8_11:=(Qaa r8_10 e11)
    refine Qad (.int .u64 (nth (nw3 (SS+5+s)) (i/8))) 38 rfl kj (Qak 52 _ g8 (i/8) 142 _ (.int .u64 (nth (nw3 (SS+5+s)) (i/8))) _ (Qau.row q12 r8_11 (Qba (Qab r8_10 l16) Qbm)) rfl kj (Qar _ _ _ (Nat.lt_of_lt_of_eq (by omega) (Qa1 _).symm)) kj) <| sg 1 kj <| Qad (.int .i64 ((i%8:Nat):Int)) 40 rfl kj (Qal (u:=.int .i64 (Int.tmod (((i:Nat):Int)) (8))) kj (congrArg (Value.int .i64) (QcJ _ 8))) <| Qad (.int .i64 ((8*(i%8):Nat):Int)) 41 rfl kj (Qal (u:=.int .i64 (IntKind.i64.wrap (8*((i%8:Nat):Int)))) kj (congrArg (Value.int .i64) (i64n _ _ (by omega) (by omega)))) <| Qad (.int .u64 (nth (nw3 (SS+5+s)) (i/8)/p256 (i%8))) 42 rfl kj (Qbc .shr _ _ _ _ .u64 .i64 _ _ _ rfl kj kj (Qdf _ _ _ _ _ _ (by omega) (shr8 _ (i%8) _ rfl (by omega)))) <| Qad (.int .u8 (nth (by16 (SS+5+s)) i)) 43 rfl kj (Qal (u:=.int .u8 (IntKind.u8.wrap (nth (nw3 (SS+5+s)) (i/8)/p256 (i%8)))) kj (congrArg (Value.int .u8) (out_byte _ i hlt32))) <| Qad (.pointer (some ⟨g16,i,none⟩)) 44 rfl kj (Qa3 _ _ _ .i64 (i) _ 16 5 rfl kj kj kj kj (by omega)) <| Qah g16 _ (ints .u8 ((QbW (by16 (SS+5+s)) 16 i).set i (nth (by16 (SS+5+s)) i))) 66 q16_1 rfl kj (Qaw 5 _ _ g16 i 66 _ _ q16_1 rfl kj kj kj (Nat.lt_of_lt_of_eq (by omega) (Qdr _ 16 _ (QaX _) hi).symm)) fun W13 p13 r16_13=>?_
    have x13:=ExtB.putsN xx1 p13 (qT x10.size l16)
    refine Qaz <| hK22 _ _ <| Qan <| Qad (.int .i64 ((i+1:Nat):Int)) 45 rfl kj (Qal (u:=.int .i64 (IntKind.i64.wrap (((i:Nat):Int)+1))) kj (congrArg (Value.int .i64) (i64n _ _ (by omega) (by omega)))) <| sg 1 kj <| Qaz ?_
    repeat (first | with_reducible refine goX1 ?_ | with_reducible refine goX2 ?_ | with_reducible refine goX3 ?_)
    exact QaG (i+1) ⟨kj,kj,kj,kj,trivial⟩ ⟨(show i+1≤16 by omega),(QaC r16_13 (QcL _ 16 i (QaX _) hlt32)),(Qau.puts q12 p13 (.inl (by simp))),x13⟩ (by show 16-(i+1)<16-i; omega)
   ·skip
    have heq32:i=16:=by have:=of_decide_eq_false c21; omega
    subst heq32
    have r16_12_24:V1.heap[g16]? = some (.cells (ints .u8 (by16 (SS+5+s))) 66):=QaC q16_1 (Qc3 _ 16 (QaX _))
    refine wp_exit <| hK17 _ _ <| sgC fun K25 hK25=>Qad (.agg (ints .u8 (by16 (SS+5+s)))) 46 rfl kj (Qae 66 _ g16 66 _ _ r16_12_24 rfl kj kj (isz (n:=16) kj ((Qac _ _).trans (QaX _)))) ?_
    have r3_2:=(ExtB.row q2 r3_1 (Qav hg l3))
    have r3_3:=(Qaa r3_2 e3)
    have r3_4:=(Puts.row p4 r3_3 (Qab r3_2 l8))
    have r3_5:=(Qaa r3_4 e5)
    have r3_6:=(Qaa r3_5 e6)
    have r3_7:=(Puts.row p7 r3_6 (Qab r3_5 l11))
    have r3_8:=(Puts.row p8 r3_7 (Qab r3_2 l8))
    have r3_9:=(Qaa r3_8 e9)
    have r3_10:=(Puts.row p10 r3_9 (Qab r3_2 l8))
    have r3_11:=(Qaa r3_10 e11)
    have r3_12:=(Qau.row q12 r3_11 (Qba (Qab r3_10 l16) Qbm))
    refine Qah g3 _ (ints .u8 (by16 (SS+5+s))) 66 r3_12 rfl kj (Qaf 66 _ _ g3 66 _ _ r3_12 rfl kj kj (isz (n:=16) kj ((Qac _ _).trans (QaX _))) (eqsz (n:=16) ((Qac _ _).trans (qZ (n:=16))) ((Qac _ _).trans (QaX _))) (ints_one _ _)) fun W13 p13 r3_13=>?_
    have x13:=ExtB.putsN xx1 p13 b3
    refine sgN hK25 <| wp_ret ?_
    repeat (first | with_reducible refine goR1 ?_ | with_reducible refine goR2 ?_)
    exact (show bodyPost _ _ _ .ret _ _ from ret1 (.agg (ints .u8 (by16 (SS+5+s)))) rfl (QaZ g3 66 _ r3_13 kj kj (isz (n:=16) kj ((Qac _ _).trans (QaX _)))) ⟨by unfold tagV; rw [hfin],x13⟩)
  ·skip
   have hbig:¬ 1361129467683753853853498429727072845824≤SS+5:=of_decide_eq_false c13
   have hfin:by16 (SS+s)=by16 (Qe4 r t+s):=by
    have e:SS+s=Qe4 r t+s:=by rw [←hSS]; unfold PP; omega
    rw [e]
   refine wp_skip <| hK9 _ _ <| wp_seq_k fun K26 hK26=>QaY 6 [⟨none,[(3,none)]⟩,⟨none,[(0,none)]⟩,⟨none,[(26,some 1)]⟩,⟨none,[(27,some 2)]⟩,⟨none,[(28,some 3)]⟩,⟨none,[(25,some 0),(29,some 4)]⟩] kj kj fun F hF=>?_
   have r8_5:=(Qaa r8_4 e5)
   have r8_6:=(Qaa r8_5 e6)
   have r8_7:=(Puts.row p7 r8_6 (Qab r8_5 l11))
   refine Qax (.agg (ints .u64 (nw3 (SS)))) kj kj (fun W hR=>(Qae 142 _ g8 142 _ _ (Qaa (Qaa r8_7 (Qai _)) hR) rfl kj kj (isz (n:=3) kj ((Qac _ _).trans (Qa1 _))))) <| Qas (.pointer (some ⟨g,0,none⟩)) kj kj (fun W=>by kernel_rfl) <| Qas (.pointer (some ⟨g,0,none⟩)) kj kj (fun W=>by kernel_rfl) <| Qas (.pointer (some ⟨g,3,none⟩)) kj kj (fun W=>by kernel_rfl) ?_
   have r1_3:=(Qaa r1_2 e3)
   have r1_4:=(Puts.row p4 r1_3 (Qab r1_2 l8))
   have r1_5:=(Qaa r1_4 e5)
   have r1_6:=(Qaa r1_5 e6)
   have r1_7:=(Puts.row p7 r1_6 (Qab r1_5 l11))
   refine Qax (.agg (ints .u64 (nw3 s))) kj kj (fun W hR=>(Qat 142 _ g 3 147 _ _ _ (Qaa (Qaa r1_7 (Qai _)) hR) rfl kj (Qa8 [ints .u64 (nw3 r)] [ints .u64 (nw3 s)] [ints .u64 (nw3 (SS)),ints .u8 (pl.set m 1),#[.int .i64 0]] 3 ((Qac _ _).trans (Qa1 _))) kj (isz (n:=3) kj ((Qac _ _).trans (Qa1 _))))) <| QaD (.agg (ints .u64 (nw3 (SS+s)))) 88 #[.agg (ints .u64 (nw3 (SS))),.agg (ints .u64 (nw3 s))] kj kj (fun W=>by kernel_rfl) (fun W hR=>(QiK (SS) s (by omega) hs.1 (by omega) (by omega) (by omega)) W) <| QaT (hF _ kj fun W8 e8=>?_)
   simp only [ups,up,Kn.val,List.take_succ_cons,List.take_zero,List.drop_succ_cons,List.drop_zero,List.nil_append,List.cons_append]
   clear hF
   have x8:=ExtB.ext x7 e8
   have r8_8:=(Qaa r8_7 e8)
   refine Qah g8 _ (ints .u64 (nw3 (SS+s))) 142 r8_8 rfl kj (Qaf 142 _ _ g8 142 _ _ r8_8 rfl kj kj (isz (n:=3) kj ((Qac _ _).trans (Qa1 _))) (eqsz (n:=3) ((Qac _ _).trans (Qa1 _)) ((Qac _ _).trans (Qa1 _))) (ints_one _ _)) fun W9 p9 r8_9=>?_
   have x9:=ExtB.putsN x8 p9 b8
   refine sgN hK26 <| sgC fun K27 hK27=>Qaj (ints .u8 (List.replicate 16 0)) 66 5 rfl kj kj fun g28 W10 l28 e10 r28_10=>?_
   have x10:=ExtB.ext x9 e10
   refine sgN hK27 <| wp_seq_k fun K29 hK29=>sgB kj <| wp_block <| QaN (fun (s2:Nat)=>[(2,.pointer (some ⟨g3,0,none⟩)),(3,.pointer (some ⟨g8,0,none⟩)),(5,.pointer (some ⟨g28,0,none⟩)),(31,.int .i64 ((s2:Nat):Int))]) (fun (s2:Nat) W=>(s2≤16)∧(W.heap[g28]? = some (.cells (ints .u8 (QbW (by16 (SS+s)) 16 s2)) 66))∧(Qau [g28] W10 W)∧(ExtB g w W)) (fun (s2:Nat)=>16-s2) 0 ⟨kj,kj,kj,kj,trivial⟩ ⟨(Nat.zero_le _),(QaC r28_10 (QcK _ 16)),(Qau.refl [g28] W10),x10⟩ fun s2 X2 V2 hI2=>?_
   obtain ⟨i,hs2⟩:∃ z,z=s2:=⟨_,rfl⟩
   subst hs2
   obtain ⟨hi,q28_2,kk2,xx2⟩:=hI2
   replace hi:i≤16:=hi
   replace q28_2:V2.heap[g28]? = some (.cells (ints .u8 (QbW (by16 (SS+s)) 16 i)) 66):=q28_2
   replace kk2:Qau [g28] W10 V2:=kk2
   replace xx2:ExtB g w V2:=xx2
   have q11:=kk2
   refine sgB kj <| wp_seq_k fun K32 hK32=>Qa9 (t:=decide (((i:Nat):Int)<16)) kj (fun c33=>?_) (fun c33=>?_)
   ·skip
    have hlt32:i<16:=by have:=of_decide_eq_true c33; omega
    refine wp_skip <| hK32 _ _ <| wp_seq_k fun K34 hK34=>wp_block <| sgB kj <| Qan <| sg 2 kj <| Qad (.int .i64 ((i/8:Nat):Int)) 36 rfl kj (Qal (u:=.int .i64 (IntKind.i64.wrap (Int.tdiv (((i:Nat):Int)) (8)))) kj (congrArg (Value.int .i64) (QdY _ 8 (by omega)))) <| Qad (.pointer (some ⟨g8,i/8,none⟩)) 37 rfl kj (Qa3 _ _ _ .i64 (i/8) _ 3 52 rfl kj kj kj kj (by omega)) ?_
    have r8_10:=(Qaa r8_9 e10)
    have r8_11:=(Qau.row q11 r8_10 (Qba (Qab r8_9 l28) Qbm))
    refine Qad (.int .u64 (nth (nw3 (SS+s)) (i/8))) 38 rfl kj (Qak 52 _ g8 (i/8) 142 _ (.int .u64 (nth (nw3 (SS+s)) (i/8))) _ r8_11 rfl kj (Qar _ _ _ (Nat.lt_of_lt_of_eq (by omega) (Qa1 _).symm)) kj) <| sg 1 kj <| Qad (.int .i64 ((i%8:Nat):Int)) 40 rfl kj (Qal (u:=.int .i64 (Int.tmod (((i:Nat):Int)) (8))) kj (congrArg (Value.int .i64) (QcJ _ 8))) <| Qad (.int .i64 ((8*(i%8):Nat):Int)) 41 rfl kj (Qal (u:=.int .i64 (IntKind.i64.wrap (8*((i%8:Nat):Int)))) kj (congrArg (Value.int .i64) (i64n _ _ (by omega) (by omega)))) <| Qad (.int .u64 (nth (nw3 (SS+s)) (i/8)/p256 (i%8))) 42 rfl kj (Qbc .shr _ _ _ _ .u64 .i64 _ _ _ rfl kj kj (Qdf _ _ _ _ _ _ (by omega) (shr8 _ (i%8) _ rfl (by omega)))) <| Qad (.int .u8 (nth (by16 (SS+s)) i)) 43 rfl kj (Qal (u:=.int .u8 (IntKind.u8.wrap (nth (nw3 (SS+s)) (i/8)/p256 (i%8)))) kj (congrArg (Value.int .u8) (out_byte _ i hlt32))) <| Qad (.pointer (some ⟨g28,i,none⟩)) 44 rfl kj (Qa3 _ _ _ .i64 (i) _ 16 5 rfl kj kj kj kj (by omega)) <| Qah g28 _ (ints .u8 ((QbW (by16 (SS+s)) 16 i).set i (nth (by16 (SS+s)) i))) 66 q28_2 rfl kj (Qaw 5 _ _ g28 i 66 _ _ q28_2 rfl kj kj kj (Nat.lt_of_lt_of_eq (by omega) (Qdr _ 16 _ (QaX _) hi).symm)) fun W12 p12 r28_12=>?_
    have x12:=ExtB.putsN xx2 p12 (qT x9.size l28)
    refine Qaz <| hK34 _ _ <| Qan <| Qad (.int .i64 ((i+1:Nat):Int)) 45 rfl kj (Qal (u:=.int .i64 (IntKind.i64.wrap (((i:Nat):Int)+1))) kj (congrArg (Value.int .i64) (i64n _ _ (by omega) (by omega)))) <| sg 1 kj <| Qaz ?_
    repeat (first | with_reducible refine goX1 ?_ | with_reducible refine goX2 ?_ | with_reducible refine goX3 ?_)
    exact QaG (i+1) ⟨kj,kj,kj,kj,trivial⟩ ⟨(show i+1≤16 by omega),(QaC r28_12 (QcL _ 16 i (QaX _) hlt32)),(Qau.puts q11 p12 (.inl (by simp))),x12⟩ (by show 16-(i+1)<16-i; omega)
   ·skip
    have heq32:i=16:=by have:=of_decide_eq_false c33; omega
    subst heq32
    have r28_11_36:V2.heap[g28]? = some (.cells (ints .u8 (by16 (SS+s))) 66):=QaC q28_2 (Qc3 _ 16 (QaX _))
    refine wp_exit <| hK29 _ _ <| sgC fun K37 hK37=>Qad (.agg (ints .u8 (by16 (SS+s)))) 46 rfl kj (Qae 66 _ g28 66 _ _ r28_11_36 rfl kj kj (isz (n:=16) kj ((Qac _ _).trans (QaX _)))) ?_
    have r3_2:=(ExtB.row q2 r3_1 (Qav hg l3))
    have r3_3:=(Qaa r3_2 e3)
    have r3_4:=(Puts.row p4 r3_3 (Qab r3_2 l8))
    have r3_5:=(Qaa r3_4 e5)
    have r3_6:=(Qaa r3_5 e6)
    have r3_7:=(Puts.row p7 r3_6 (Qab r3_5 l11))
    have r3_8:=(Qaa r3_7 e8)
    have r3_9:=(Puts.row p9 r3_8 (Qab r3_2 l8))
    have r3_10:=(Qaa r3_9 e10)
    have r3_11:=(Qau.row q11 r3_10 (Qba (Qab r3_9 l28) Qbm))
    refine Qah g3 _ (ints .u8 (by16 (SS+s))) 66 r3_11 rfl kj (Qaf 66 _ _ g3 66 _ _ r3_11 rfl kj kj (isz (n:=16) kj ((Qac _ _).trans (QaX _))) (eqsz (n:=16) ((Qac _ _).trans (qZ (n:=16))) ((Qac _ _).trans (QaX _))) (ints_one _ _)) fun W12 p12 r3_12=>?_
    have x12:=ExtB.putsN xx2 p12 b3
    refine sgN hK37 <| wp_ret ?_
    repeat (first | with_reducible refine goR1 ?_ | with_reducible refine goR2 ?_)
    exact (show bodyPost _ _ _ .ret _ _ from ret1 (.agg (ints .u8 (by16 (SS+s)))) rfl (QaZ g3 66 _ r3_12 kj kj (isz (n:=16) kj ((Qac _ _).trans (QaX _)))) ⟨by unfold tagV; rw [hfin],x12⟩)
 ·skip
  have hm0:m=0:=by have:=of_decide_eq_false c6; omega
  obtain ⟨SS,eSS⟩:∃ z,z=S:=⟨_,rfl⟩
  have hSS:SS%PP=Qe4 r t:=by rw [eSS,Qoz (hm0▸hq)]; exact hSm
  have hSb:0≤SS∧SS<2041694201525630780780247644590609268736:=eSS▸hS
  have r1_1_n:=r1_1
  rw [←eSS] at r1_1_n
  refine wp_skip <| hK4 _ _ <| sgC fun K38 hK38=>sg 3 kj <| Qad (.agg (ints .u64 (nw3 (SS)))) 17 rfl kj (Qat 142 _ g 6 147 _ _ _ r1_1_n rfl kj (Qa8 [ints .u64 (nw3 r),ints .u64 (nw3 s)] [ints .u64 (nw3 (SS))] [ints .u8 (pl),#[.int .i64 ((m:Nat):Int)]] 6 (by rw [Qam,Qam]; simp only [qS,cat,((Qac _ _).trans (Qa1 _))]; rfl)) kj (isz (n:=3) kj ((Qac _ _).trans (Qa1 _)))) ?_
  refine Qaj (ints .u64 ([0,0,0])) 142 3 rfl kj kj fun g39 W2 l39 e2 r39_2=>?_
  have x2:=ExtB.ext x1 e2
  have b39:=qT x1.size l39
  refine Qah g39 _ (ints .u64 (nw3 (SS))) 142 r39_2 rfl kj (Qaf 142 _ _ g39 142 _ _ r39_2 rfl kj kj (isz (n:=3) kj ((Qac _ _).trans (Qa1 _))) (eqsz (n:=3) kj ((Qac _ _).trans (Qa1 _))) (ints_one _ _)) fun W3 p3 r39_3=>?_
  have x3:=ExtB.putsN x2 p3 b39
  refine sgN hK38 <| wp_seq_k fun K40 hK40=>sgC fun K41 hK41=>Qad (.agg (ints .u64 (nw3 (SS)))) 18 rfl kj (Qae 142 _ g39 142 _ _ r39_3 rfl kj kj (isz (n:=3) kj ((Qac _ _).trans (Qa1 _)))) <| sg 1 kj <| Qao (.agg (ints .u64 (nw3 (SS+5)))) 88 #[.agg (ints .u64 (nw3 (SS))),.agg (ints .u64 (nw3 5))] 20 rfl kj kj ((QiK SS 5 hSb.1 (by decide) (by omega) (by decide) (by omega)) _) fun W4 e4=>?_
  have x4:=ExtB.ext x3 e4
  refine Qaj (ints .u64 ([0,0,0])) 142 4 rfl kj kj fun g42 W5 l42 e5 r42_5=>?_
  have x5:=ExtB.ext x4 e5
  refine Qah g42 _ (ints .u64 (nw3 (SS+5))) 142 r42_5 rfl kj (Qaf 142 _ _ g42 142 _ _ r42_5 rfl kj kj (isz (n:=3) kj ((Qac _ _).trans (Qa1 _))) (eqsz (n:=3) kj ((Qac _ _).trans (Qa1 _))) (ints_one _ _)) fun W6 p6 r42_6=>?_
  have x6:=ExtB.putsN x5 p6 (qT x4.size l42)
  refine sgN hK41 <| sgC fun K43 hK43=>sg 1 kj <| Qad (.int .u64 (nth (nw3 (SS+5)) 2)) 22 rfl kj (Qak 52 _ g42 2 142 _ (.int .u64 (nth (nw3 (SS+5)) 2)) _ r42_6 rfl kj (Qar _ _ _ (Nat.lt_of_lt_of_eq (by decide) (Qa1 _).symm)) kj) <| Qad (.bool (decide (1361129467683753853853498429727072845824≤SS+5))) 23 rfl kj (Qal (u:=.bool (decide ((nth (nw3 (SS+5)) 2)≥4))) kj (congrArg Value.bool (geq4 SS hSb.1 hSb.2))) <| sgN hK43 <| Qa9 (t:=decide (1361129467683753853853498429727072845824≤SS+5)) kj (fun c44=>?_) (fun c44=>?_)
  ·skip
   have hbig:1361129467683753853853498429727072845824≤SS+5:=of_decide_eq_true c44
   have hfin:by16 (SS+5+s)=by16 (Qe4 r t+s):=by
    have e:SS+5+s=(Qe4 r t+s)+1361129467683753853853498429727072845824:=by rw [←hSS]; unfold PP; omega
    rw [e,QjO]
   refine Qan <| Qad (.agg (ints .u64 (nw3 (SS+5)))) 24 rfl kj (Qae 142 _ g42 142 _ _ r42_6 rfl kj kj (isz (n:=3) kj ((Qac _ _).trans (Qa1 _)))) ?_
   have r39_4:=(Qaa r39_3 e4)
   have r39_5:=(Qaa r39_4 e5)
   have r39_6:=(Puts.row p6 r39_5 (Qab r39_4 l42))
   refine Qah g39 _ (ints .u64 (nw3 (SS+5))) 142 r39_6 rfl kj (Qaf 142 _ _ g39 142 _ _ r39_6 rfl kj kj (isz (n:=3) kj ((Qac _ _).trans (Qa1 _))) (eqsz (n:=3) ((Qac _ _).trans (Qa1 _)) ((Qac _ _).trans (Qa1 _))) (ints_one _ _)) fun W7 p7 r39_7=>?_
   have x7:=ExtB.putsN x6 p7 b39
   refine Qaz <| hK40 _ _ <| wp_seq_k fun K45 hK45=>QaY 6 [⟨none,[(3,none)]⟩,⟨none,[(0,none)]⟩,⟨none,[(26,some 1)]⟩,⟨none,[(27,some 2)]⟩,⟨none,[(28,some 3)]⟩,⟨none,[(25,some 0),(29,some 4)]⟩] kj kj fun F hF=>Qax (.agg (ints .u64 (nw3 (SS+5)))) kj kj (fun W hR=>(Qae 142 _ g39 142 _ _ (Qaa (Qaa r39_7 (Qai _)) hR) rfl kj kj (isz (n:=3) kj ((Qac _ _).trans (Qa1 _))))) <| Qas (.pointer (some ⟨g,0,none⟩)) kj kj (fun W=>by kernel_rfl) <| Qas (.pointer (some ⟨g,0,none⟩)) kj kj (fun W=>by kernel_rfl) <| Qas (.pointer (some ⟨g,3,none⟩)) kj kj (fun W=>by kernel_rfl) ?_
   have r1_2:=(Qaa r1_1_n e2)
   have r1_3:=(Puts.row p3 r1_2 (Qab r1_1_n l39))
   have r1_4:=(Qaa r1_3 e4)
   have r1_5:=(Qaa r1_4 e5)
   have r1_6:=(Puts.row p6 r1_5 (Qab r1_4 l42))
   have r1_7:=(Puts.row p7 r1_6 (Qab r1_1_n l39))
   refine Qax (.agg (ints .u64 (nw3 s))) kj kj (fun W hR=>(Qat 142 _ g 3 147 _ _ _ (Qaa (Qaa r1_7 (Qai _)) hR) rfl kj (Qa8 [ints .u64 (nw3 r)] [ints .u64 (nw3 s)] [ints .u64 (nw3 (SS)),ints .u8 (pl),#[.int .i64 ((m:Nat):Int)]] 3 ((Qac _ _).trans (Qa1 _))) kj (isz (n:=3) kj ((Qac _ _).trans (Qa1 _))))) <| QaD (.agg (ints .u64 (nw3 (SS+5+s)))) 88 #[.agg (ints .u64 (nw3 (SS+5))),.agg (ints .u64 (nw3 s))] kj kj (fun W=>by kernel_rfl) (fun W hR=>(QiK (SS+5) s (by omega) hs.1 (by omega) (by omega) (by omega)) W) <| QaT (hF _ kj fun W8 e8=>?_)
   simp only [ups,up,Kn.val,List.take_succ_cons,List.take_zero,List.drop_succ_cons,List.drop_zero,List.nil_append,List.cons_append]
   clear hF
   have x8:=ExtB.ext x7 e8
   have r39_8:=(Qaa r39_7 e8)
   refine Qah g39 _ (ints .u64 (nw3 (SS+5+s))) 142 r39_8 rfl kj (Qaf 142 _ _ g39 142 _ _ r39_8 rfl kj kj (isz (n:=3) kj ((Qac _ _).trans (Qa1 _))) (eqsz (n:=3) ((Qac _ _).trans (Qa1 _)) ((Qac _ _).trans (Qa1 _))) (ints_one _ _)) fun W9 p9 r39_9=>?_
   have x9:=ExtB.putsN x8 p9 b39
   refine sgN hK45 <| sgC fun K46 hK46=>Qaj (ints .u8 (List.replicate 16 0)) 66 5 rfl kj kj fun g47 W10 l47 e10 r47_10=>?_
   have x10:=ExtB.ext x9 e10
   refine sgN hK46 <| wp_seq_k fun K48 hK48=>sgB kj <| wp_block <| QaN (fun (s3:Nat)=>[(2,.pointer (some ⟨g3,0,none⟩)),(3,.pointer (some ⟨g39,0,none⟩)),(5,.pointer (some ⟨g47,0,none⟩)),(31,.int .i64 ((s3:Nat):Int))]) (fun (s3:Nat) W=>(s3≤16)∧(W.heap[g47]? = some (.cells (ints .u8 (QbW (by16 (SS+5+s)) 16 s3)) 66))∧(Qau [g47] W10 W)∧(ExtB g w W)) (fun (s3:Nat)=>16-s3) 0 ⟨kj,kj,kj,kj,trivial⟩ ⟨(Nat.zero_le _),(QaC r47_10 (QcK _ 16)),(Qau.refl [g47] W10),x10⟩ fun s3 X3 V3 hI3=>?_
   obtain ⟨i,hs3⟩:∃ z,z=s3:=⟨_,rfl⟩
   subst hs3
   obtain ⟨hi,q47_3,kk3,xx3⟩:=hI3
   replace hi:i≤16:=hi
   replace q47_3:V3.heap[g47]? = some (.cells (ints .u8 (QbW (by16 (SS+5+s)) 16 i)) 66):=q47_3
   replace kk3:Qau [g47] W10 V3:=kk3
   replace xx3:ExtB g w V3:=xx3
   have q11:=kk3
   refine sgB kj <| wp_seq_k fun K51 hK51=>Qa9 (t:=decide (((i:Nat):Int)<16)) kj (fun c52=>?_) (fun c52=>?_)
   ·skip
    have hlt32:i<16:=by have:=of_decide_eq_true c52; omega
    refine wp_skip <| hK51 _ _ <| wp_seq_k fun K53 hK53=>wp_block <| sgB kj <| Qan <| sg 2 kj <| Qad (.int .i64 ((i/8:Nat):Int)) 36 rfl kj (Qal (u:=.int .i64 (IntKind.i64.wrap (Int.tdiv (((i:Nat):Int)) (8)))) kj (congrArg (Value.int .i64) (QdY _ 8 (by omega)))) <| Qad (.pointer (some ⟨g39,i/8,none⟩)) 37 rfl kj (Qa3 _ _ _ .i64 (i/8) _ 3 52 rfl kj kj kj kj (by omega)) ?_
    have r39_10:=(Qaa r39_9 e10)
    refine Qad (.int .u64 (nth (nw3 (SS+5+s)) (i/8))) 38 rfl kj (Qak 52 _ g39 (i/8) 142 _ (.int .u64 (nth (nw3 (SS+5+s)) (i/8))) _ (Qau.row q11 r39_10 (Qba (Qab r39_9 l47) Qbm)) rfl kj (Qar _ _ _ (Nat.lt_of_lt_of_eq (by omega) (Qa1 _).symm)) kj) <| sg 1 kj <| Qad (.int .i64 ((i%8:Nat):Int)) 40 rfl kj (Qal (u:=.int .i64 (Int.tmod (((i:Nat):Int)) (8))) kj (congrArg (Value.int .i64) (QcJ _ 8))) <| Qad (.int .i64 ((8*(i%8):Nat):Int)) 41 rfl kj (Qal (u:=.int .i64 (IntKind.i64.wrap (8*((i%8:Nat):Int)))) kj (congrArg (Value.int .i64) (i64n _ _ (by omega) (by omega)))) <| Qad (.int .u64 (nth (nw3 (SS+5+s)) (i/8)/p256 (i%8))) 42 rfl kj (Qbc .shr _ _ _ _ .u64 .i64 _ _ _ rfl kj kj (Qdf _ _ _ _ _ _ (by omega) (shr8 _ (i%8) _ rfl (by omega)))) <| Qad (.int .u8 (nth (by16 (SS+5+s)) i)) 43 rfl kj (Qal (u:=.int .u8 (IntKind.u8.wrap (nth (nw3 (SS+5+s)) (i/8)/p256 (i%8)))) kj (congrArg (Value.int .u8) (out_byte _ i hlt32))) <| Qad (.pointer (some ⟨g47,i,none⟩)) 44 rfl kj (Qa3 _ _ _ .i64 (i) _ 16 5 rfl kj kj kj kj (by omega)) <| Qah g47 _ (ints .u8 ((QbW (by16 (SS+5+s)) 16 i).set i (nth (by16 (SS+5+s)) i))) 66 q47_3 rfl kj (Qaw 5 _ _ g47 i 66 _ _ q47_3 rfl kj kj kj (Nat.lt_of_lt_of_eq (by omega) (Qdr _ 16 _ (QaX _) hi).symm)) fun W12 p12 r47_12=>?_
    have x12:=ExtB.putsN xx3 p12 (qT x9.size l47)
    refine Qaz <| hK53 _ _ <| Qan <| Qad (.int .i64 ((i+1:Nat):Int)) 45 rfl kj (Qal (u:=.int .i64 (IntKind.i64.wrap (((i:Nat):Int)+1))) kj (congrArg (Value.int .i64) (i64n _ _ (by omega) (by omega)))) <| sg 1 kj <| Qaz ?_
    repeat (first | with_reducible refine goX1 ?_ | with_reducible refine goX2 ?_ | with_reducible refine goX3 ?_)
    exact QaG (i+1) ⟨kj,kj,kj,kj,trivial⟩ ⟨(show i+1≤16 by omega),(QaC r47_12 (QcL _ 16 i (QaX _) hlt32)),(Qau.puts q11 p12 (.inl (by simp))),x12⟩ (by show 16-(i+1)<16-i; omega)
   ·skip
    have heq32:i=16:=by have:=of_decide_eq_false c52; omega
    subst heq32
    have r47_11_55:V3.heap[g47]? = some (.cells (ints .u8 (by16 (SS+5+s))) 66):=QaC q47_3 (Qc3 _ 16 (QaX _))
    refine wp_exit <| hK48 _ _ <| sgC fun K56 hK56=>Qad (.agg (ints .u8 (by16 (SS+5+s)))) 46 rfl kj (Qae 66 _ g47 66 _ _ r47_11_55 rfl kj kj (isz (n:=16) kj ((Qac _ _).trans (QaX _)))) ?_
    have r3_2:=(Qaa r3_1 e2)
    have r3_3:=(Puts.row p3 r3_2 (Qab r3_1 l39))
    have r3_4:=(Qaa r3_3 e4)
    have r3_5:=(Qaa r3_4 e5)
    have r3_6:=(Puts.row p6 r3_5 (Qab r3_4 l42))
    have r3_7:=(Puts.row p7 r3_6 (Qab r3_1 l39))
    have r3_8:=(Qaa r3_7 e8)
    have r3_9:=(Puts.row p9 r3_8 (Qab r3_1 l39))
    have r3_10:=(Qaa r3_9 e10)
    have r3_11:=(Qau.row q11 r3_10 (Qba (Qab r3_9 l47) Qbm))
    refine Qah g3 _ (ints .u8 (by16 (SS+5+s))) 66 r3_11 rfl kj (Qaf 66 _ _ g3 66 _ _ r3_11 rfl kj kj (isz (n:=16) kj ((Qac _ _).trans (QaX _))) (eqsz (n:=16) ((Qac _ _).trans (qZ (n:=16))) ((Qac _ _).trans (QaX _))) (ints_one _ _)) fun W12 p12 r3_12=>?_
    have x12:=ExtB.putsN xx3 p12 b3
    refine sgN hK56 <| wp_ret ?_
    repeat (first | with_reducible refine goR1 ?_ | with_reducible refine goR2 ?_)
    exact (show bodyPost _ _ _ .ret _ _ from ret1 (.agg (ints .u8 (by16 (SS+5+s)))) rfl (QaZ g3 66 _ r3_12 kj kj (isz (n:=16) kj ((Qac _ _).trans (QaX _)))) ⟨by unfold tagV; rw [hfin],x12⟩)
  ·skip
   have hbig:¬ 1361129467683753853853498429727072845824≤SS+5:=of_decide_eq_false c44
   have hfin:by16 (SS+s)=by16 (Qe4 r t+s):=by
    have e:SS+s=Qe4 r t+s:=by rw [←hSS]; unfold PP; omega
    rw [e]
   refine wp_skip <| hK40 _ _ <| wp_seq_k fun K57 hK57=>QaY 6 [⟨none,[(3,none)]⟩,⟨none,[(0,none)]⟩,⟨none,[(26,some 1)]⟩,⟨none,[(27,some 2)]⟩,⟨none,[(28,some 3)]⟩,⟨none,[(25,some 0),(29,some 4)]⟩] kj kj fun F hF=>?_
   have r39_4:=(Qaa r39_3 e4)
   have r39_5:=(Qaa r39_4 e5)
   have r39_6:=(Puts.row p6 r39_5 (Qab r39_4 l42))
   refine Qax (.agg (ints .u64 (nw3 (SS)))) kj kj (fun W hR=>(Qae 142 _ g39 142 _ _ (Qaa (Qaa r39_6 (Qai _)) hR) rfl kj kj (isz (n:=3) kj ((Qac _ _).trans (Qa1 _))))) <| Qas (.pointer (some ⟨g,0,none⟩)) kj kj (fun W=>by kernel_rfl) <| Qas (.pointer (some ⟨g,0,none⟩)) kj kj (fun W=>by kernel_rfl) <| Qas (.pointer (some ⟨g,3,none⟩)) kj kj (fun W=>by kernel_rfl) ?_
   have r1_2:=(Qaa r1_1_n e2)
   have r1_3:=(Puts.row p3 r1_2 (Qab r1_1_n l39))
   have r1_4:=(Qaa r1_3 e4)
   have r1_5:=(Qaa r1_4 e5)
   have r1_6:=(Puts.row p6 r1_5 (Qab r1_4 l42))
   refine Qax (.agg (ints .u64 (nw3 s))) kj kj (fun W hR=>(Qat 142 _ g 3 147 _ _ _ (Qaa (Qaa r1_6 (Qai _)) hR) rfl kj (Qa8 [ints .u64 (nw3 r)] [ints .u64 (nw3 s)] [ints .u64 (nw3 (SS)),ints .u8 (pl),#[.int .i64 ((m:Nat):Int)]] 3 ((Qac _ _).trans (Qa1 _))) kj (isz (n:=3) kj ((Qac _ _).trans (Qa1 _))))) <| QaD (.agg (ints .u64 (nw3 (SS+s)))) 88 #[.agg (ints .u64 (nw3 (SS))),.agg (ints .u64 (nw3 s))] kj kj (fun W=>by kernel_rfl) (fun W hR=>(QiK (SS) s (by omega) hs.1 (by omega) (by omega) (by omega)) W) <| QaT (hF _ kj fun W7 e7=>?_)
   simp only [ups,up,Kn.val,List.take_succ_cons,List.take_zero,List.drop_succ_cons,List.drop_zero,List.nil_append,List.cons_append]
   clear hF
   have x7:=ExtB.ext x6 e7
   have r39_7:=(Qaa r39_6 e7)
   refine Qah g39 _ (ints .u64 (nw3 (SS+s))) 142 r39_7 rfl kj (Qaf 142 _ _ g39 142 _ _ r39_7 rfl kj kj (isz (n:=3) kj ((Qac _ _).trans (Qa1 _))) (eqsz (n:=3) ((Qac _ _).trans (Qa1 _)) ((Qac _ _).trans (Qa1 _))) (ints_one _ _)) fun W8 p8 r39_8=>?_
   have x8:=ExtB.putsN x7 p8 b39
   refine sgN hK57 <| sgC fun K58 hK58=>Qaj (ints .u8 (List.replicate 16 0)) 66 5 rfl kj kj fun g59 W9 l59 e9 r59_9=>?_
   have x9:=ExtB.ext x8 e9
   refine sgN hK58 <| wp_seq_k fun K60 hK60=>sgB kj <| wp_block <| QaN (fun (s4:Nat)=>[(2,.pointer (some ⟨g3,0,none⟩)),(3,.pointer (some ⟨g39,0,none⟩)),(5,.pointer (some ⟨g59,0,none⟩)),(31,.int .i64 ((s4:Nat):Int))]) (fun (s4:Nat) W=>(s4≤16)∧(W.heap[g59]? = some (.cells (ints .u8 (QbW (by16 (SS+s)) 16 s4)) 66))∧(Qau [g59] W9 W)∧(ExtB g w W)) (fun (s4:Nat)=>16-s4) 0 ⟨kj,kj,kj,kj,trivial⟩ ⟨(Nat.zero_le _),(QaC r59_9 (QcK _ 16)),(Qau.refl [g59] W9),x9⟩ fun s4 X4 V4 hI4=>?_
   obtain ⟨i,hs4⟩:∃ z,z=s4:=⟨_,rfl⟩
   subst hs4
   obtain ⟨hi,q59_4,kk4,xx4⟩:=hI4
   replace hi:i≤16:=hi
   replace q59_4:V4.heap[g59]? = some (.cells (ints .u8 (QbW (by16 (SS+s)) 16 i)) 66):=q59_4
   replace kk4:Qau [g59] W9 V4:=kk4
   replace xx4:ExtB g w V4:=xx4
   have q10:=kk4
   refine sgB kj <| wp_seq_k fun K63 hK63=>Qa9 (t:=decide (((i:Nat):Int)<16)) kj (fun c64=>?_) (fun c64=>?_)
   ·skip
    have hlt32:i<16:=by have:=of_decide_eq_true c64; omega
    refine wp_skip <| hK63 _ _ <| wp_seq_k fun K65 hK65=>wp_block <| sgB kj <| Qan <| sg 2 kj <| Qad (.int .i64 ((i/8:Nat):Int)) 36 rfl kj (Qal (u:=.int .i64 (IntKind.i64.wrap (Int.tdiv (((i:Nat):Int)) (8)))) kj (congrArg (Value.int .i64) (QdY _ 8 (by omega)))) <| Qad (.pointer (some ⟨g39,i/8,none⟩)) 37 rfl kj (Qa3 _ _ _ .i64 (i/8) _ 3 52 rfl kj kj kj kj (by omega)) ?_
    have r39_9:=(Qaa r39_8 e9)
    have r39_10:=(Qau.row q10 r39_9 (Qba (Qab r39_8 l59) Qbm))
    refine Qad (.int .u64 (nth (nw3 (SS+s)) (i/8))) 38 rfl kj (Qak 52 _ g39 (i/8) 142 _ (.int .u64 (nth (nw3 (SS+s)) (i/8))) _ r39_10 rfl kj (Qar _ _ _ (Nat.lt_of_lt_of_eq (by omega) (Qa1 _).symm)) kj) <| sg 1 kj <| Qad (.int .i64 ((i%8:Nat):Int)) 40 rfl kj (Qal (u:=.int .i64 (Int.tmod (((i:Nat):Int)) (8))) kj (congrArg (Value.int .i64) (QcJ _ 8))) <| Qad (.int .i64 ((8*(i%8):Nat):Int)) 41 rfl kj (Qal (u:=.int .i64 (IntKind.i64.wrap (8*((i%8:Nat):Int)))) kj (congrArg (Value.int .i64) (i64n _ _ (by omega) (by omega)))) <| Qad (.int .u64 (nth (nw3 (SS+s)) (i/8)/p256 (i%8))) 42 rfl kj (Qbc .shr _ _ _ _ .u64 .i64 _ _ _ rfl kj kj (Qdf _ _ _ _ _ _ (by omega) (shr8 _ (i%8) _ rfl (by omega)))) <| Qad (.int .u8 (nth (by16 (SS+s)) i)) 43 rfl kj (Qal (u:=.int .u8 (IntKind.u8.wrap (nth (nw3 (SS+s)) (i/8)/p256 (i%8)))) kj (congrArg (Value.int .u8) (out_byte _ i hlt32))) <| Qad (.pointer (some ⟨g59,i,none⟩)) 44 rfl kj (Qa3 _ _ _ .i64 (i) _ 16 5 rfl kj kj kj kj (by omega)) <| Qah g59 _ (ints .u8 ((QbW (by16 (SS+s)) 16 i).set i (nth (by16 (SS+s)) i))) 66 q59_4 rfl kj (Qaw 5 _ _ g59 i 66 _ _ q59_4 rfl kj kj kj (Nat.lt_of_lt_of_eq (by omega) (Qdr _ 16 _ (QaX _) hi).symm)) fun W11 p11 r59_11=>?_
    have x11:=ExtB.putsN xx4 p11 (qT x8.size l59)
    refine Qaz <| hK65 _ _ <| Qan <| Qad (.int .i64 ((i+1:Nat):Int)) 45 rfl kj (Qal (u:=.int .i64 (IntKind.i64.wrap (((i:Nat):Int)+1))) kj (congrArg (Value.int .i64) (i64n _ _ (by omega) (by omega)))) <| sg 1 kj <| Qaz ?_
    repeat (first | with_reducible refine goX1 ?_ | with_reducible refine goX2 ?_ | with_reducible refine goX3 ?_)
    exact QaG (i+1) ⟨kj,kj,kj,kj,trivial⟩ ⟨(show i+1≤16 by omega),(QaC r59_11 (QcL _ 16 i (QaX _) hlt32)),(Qau.puts q10 p11 (.inl (by simp))),x11⟩ (by show 16-(i+1)<16-i; omega)
   ·skip
    have heq32:i=16:=by have:=of_decide_eq_false c64; omega
    subst heq32
    have r59_10_67:V4.heap[g59]? = some (.cells (ints .u8 (by16 (SS+s))) 66):=QaC q59_4 (Qc3 _ 16 (QaX _))
    refine wp_exit <| hK60 _ _ <| sgC fun K68 hK68=>Qad (.agg (ints .u8 (by16 (SS+s)))) 46 rfl kj (Qae 66 _ g59 66 _ _ r59_10_67 rfl kj kj (isz (n:=16) kj ((Qac _ _).trans (QaX _)))) ?_
    have r3_2:=(Qaa r3_1 e2)
    have r3_3:=(Puts.row p3 r3_2 (Qab r3_1 l39))
    have r3_4:=(Qaa r3_3 e4)
    have r3_5:=(Qaa r3_4 e5)
    have r3_6:=(Puts.row p6 r3_5 (Qab r3_4 l42))
    have r3_7:=(Qaa r3_6 e7)
    have r3_8:=(Puts.row p8 r3_7 (Qab r3_1 l39))
    have r3_9:=(Qaa r3_8 e9)
    have r3_10:=(Qau.row q10 r3_9 (Qba (Qab r3_8 l59) Qbm))
    refine Qah g3 _ (ints .u8 (by16 (SS+s))) 66 r3_10 rfl kj (Qaf 66 _ _ g3 66 _ _ r3_10 rfl kj kj (isz (n:=16) kj ((Qac _ _).trans (QaX _))) (eqsz (n:=16) ((Qac _ _).trans (qZ (n:=16))) ((Qac _ _).trans (QaX _))) (ints_one _ _)) fun W11 p11 r3_11=>?_
    have x11:=ExtB.putsN xx4 p11 b3
    refine sgN hK68 <| wp_ret ?_
    repeat (first | with_reducible refine goR1 ?_ | with_reducible refine goR2 ?_)
    exact (show bodyPost _ _ _ .ret _ _ from ret1 (.agg (ints .u8 (by16 (SS+s)))) rfl (QaZ g3 66 _ r3_11 kj kj (isz (n:=16) kj ((Qac _ _).trans (QaX _)))) ⟨by unfold tagV; rw [hfin],x11⟩)
end Go.Proofs.YtmljnchhgkfemaaDoor.Ae
end
section
namespace Go.Proofs.YtmljnchhgkfemaaDoor.Ae
open Go Go.RowKit
open Rely Auto Own Sha
open Sha Cha
def by8 (n : Int):List Int:=(List.range 8).map fun i=>n/p256 i%256
theorem Qd1 (n : Int):(by8 n).length=8:=by simp [by8]
theorem Qiz (n : Int):Qag (by8 n):=fun x hx=>by
  unfold by8 at hx
  obtain ⟨i,-,rfl⟩:=List.mem_map.1 hx
  omega
theorem QoY (n : Int) (i:Nat) (h:i<8):nth (by8 n) i=n/p256 i%256:=by
  unfold by8 nth
  rw [List.getD_eq_getElem?_getD,List.getElem?_map,List.getElem?_range h]
  rfl
theorem QiY (n : Int) (i:Nat) (h:i<8):IntKind.u8.wrap (n/p256 i)=nth (by8 n) i:=by
  have h3:∀ z:Int,IntKind.u8.wrap z=z%256:=fun _=>rfl
  rw [h3,QoY n i h]
theorem or8 (x y:Int):bits .or .u8 x y=(((BitVec.ofInt 8 x)|||(BitVec.ofInt 8 y)).toNat:Int):=by
  have h:bits .or .u8 x y=IntKind.u8.wrap (((BitVec.ofInt 8 x)|||(BitVec.ofInt 8 y)).toNat:Int):=rfl
  have h3:∀ z:Int,IntKind.u8.wrap z=z%256:=fun _=>rfl
  rw [h,h3]
  have:=((BitVec.ofInt 8 x)|||(BitVec.ofInt 8 y)).isLt
  omega
theorem Qp9 (x y:Int):0≤bits .or .u8 x y∧bits .or .u8 x y<256:=by
  rw [or8]
  have:=((BitVec.ofInt 8 x)|||(BitVec.ofInt 8 y)).isLt
  omega
theorem Qoe (x y:Int):0≤bits .xor .u8 x y∧bits .xor .u8 x y<256:=by
  rw [Qmq]
  have:=((BitVec.ofInt 8 x)^^^(BitVec.ofInt 8 y)).isLt
  omega
theorem QmT (x y:Int) (hx:0≤x∧x<256) (hy:0≤y∧y<256):bits .or .u8 x y=0↔x=0∧y=0:=by
  rw [or8,BitVec.toNat_or,BitVec.toNat_ofInt,BitVec.toNat_ofInt]
  have h:=@Nat.or_eq_zero_iff (x%((2^8:Nat):Int)).toNat (y%((2^8:Nat):Int)).toNat
  omega
theorem QhC (y : Int):bits .xor .u8 y y=0:=by rw [Qmq,BitVec.xor_self]; rfl
theorem QkJ (x y:Int) (hx:0≤x∧x≤255) (hy:0≤y∧y≤255):bits .xor .u8 x y=0↔x=y:=by
  constructor
  · intro h
    have h1:=Qfl x y hx.1 hx.2
    have h2:=Qfl y y hy.1 hy.2
    rw [QhC] at h2
    rw [h] at h1
    exact h1.symm.trans h2
  · intro h; subst h; exact QhC x
theorem Qok (xs ys:List Int) (i:Nat) (h1:i<xs.length) (h2:i<ys.length):xs.take (i+1)=ys.take (i+1)↔xs.take i=ys.take i∧nth xs i=nth ys i:=by
  rw [QfN xs i h1,QfN ys i h2]
  constructor
  · intro h
    have h3:=List.append_inj h (by rw [List.length_take,List.length_take]; omega)
    exact ⟨h3.1,by simpa using h3.2⟩
  · rintro ⟨a,b⟩; rw [a,b]
theorem Qlb {xs ys:List Int} {i:Nat} {d:Int} (h1:i<xs.length) (h2:i<ys.length) (hx:Qag xs) (hy:Qag ys) (hd:0≤d∧d<256) (h:d=0↔xs.take i=ys.take i) :
    bits .or .u8 d (bits .xor .u8 (nth xs i) (nth ys i))=0↔xs.take (i+1)=ys.take (i+1):=by
  have bx:=Qbi hx i
  have by_:=Qbi hy i
  rw [QmT _ _ hd (Qoe _ _),QkJ _ _ (by omega) (by omega),Qok xs ys i h1 h2,h]
theorem Qpa (d : Int) (p:Prop) [Decidable p] (h:d=0↔p):(d==0)=decide p:=by
  by_cases e:d=0
  · rw [decide_eq_true (h.1 e),e]; rfl
  · rw [decide_eq_false (fun hp=>e (h.2 hp))]; exact beq_eq_false_iff_ne.2 e
theorem Mk.ext {g : Nat} {r s:Int} {t:List Int} {W W':World} (h:Mk g r s t W) (e:Ext W W'):Mk g r s t W':=by
  obtain ⟨S,pl,q,m,h1,h2,h3,h4⟩:=h
  exact ⟨S,pl,q,m,h1,h2,Qaa h3 e,h4⟩
theorem QiZ (n : Nat) (w:World):Calls Tryd.prog 32 #[.int .i64 ((n:Nat):Int)] w (QcB w (OwnN .u8 5 w.heap.size (by8 (n:Int)))):=by
 refine enter 21 [(0,.int .i64 ((n:Nat):Int))] Tryd.func32 rfl rfl kj rfl <| sgB kj <| sgC fun K2 hK2=>Qbw (ints .u8 (List.replicate 8 0)) 5 8 5 rfl kj (QeF 24 _ _ .i64 .i64 8 5 rfl kj kj kj (.inr kj) (by decide)) fun g3 W1 l3 e1 r3_1=>?_
 have b3:=qT (Rely.Ext.refl w).size l3
 refine sg 1 kj <| sgN hK2 <| wp_seq_k fun K4 hK4=>sgB kj <| wp_block <| QaN (fun (s1:Nat)=>[(0,.int .i64 ((n:Nat):Int)),(2,.slice none 0 0),(3,.slice (some ⟨g3,0,none⟩) 8 8),(6,.slice (some ⟨g3,0,none⟩) 8 8),(7,.int .i64 8),(8,.int .i64 ((s1:Nat):Int))]) (fun (s1:Nat) W=>(s1≤8)∧(W.heap[g3]? = some (.cells (ints .u8 (QbW (by8 (n:Int)) 8 s1)) 5))∧(Qau [g3] W1 W)∧(Ext w W)) (fun (s1:Nat)=>8-s1) 0 ⟨kj,kj,kj,kj,kj,kj,trivial⟩ ⟨(Nat.zero_le _),(QaC r3_1 (QcK _ 8)),(Qau.refl [g3] W1),(Ext.tr (Rely.Ext.refl w) e1)⟩ fun s1 X1 V1 hI1=>?_
 obtain ⟨i,hs1⟩:∃ z,z=s1:=⟨_,rfl⟩
 subst hs1
 obtain ⟨hi,q3_1,kk1,xx1⟩:=hI1
 replace hi:i≤8:=hi
 replace q3_1:V1.heap[g3]? = some (.cells (ints .u8 (QbW (by8 (n:Int)) 8 i)) 5):=q3_1
 replace kk1:Qau [g3] W1 V1:=kk1
 replace xx1:Ext w V1:=xx1
 have q2:=kk1
 refine sgB kj <| wp_seq_k fun K7 hK7=>Qa9 (t:=decide (((i:Nat):Int)<8)) kj (fun c8=>?_) (fun c8=>?_)
 ·skip
  have hlt9:i<8:=by have:=of_decide_eq_true c8; omega
  refine wp_skip <| hK7 _ _ <| wp_seq_k fun K9 hK9=>wp_block <| sgB kj <| Qan <| sg 4 kj <| Qad (.int .i64 ((8*i:Nat):Int)) 15 rfl kj (Qal (u:=.int .i64 (IntKind.i64.wrap (8*((i:Nat):Int)))) kj (congrArg (Value.int .i64) (i64n _ _ (by omega) (by omega)))) <| Qad (.int .i64 ((n:Int)/p256 i)) 16 rfl kj (Qbc .shr _ _ _ _ .i64 .i64 _ _ _ rfl kj kj (Qdf _ _ _ _ _ _ (by omega) (shr8 _ i _ rfl (by omega)))) <| Qad (.int .u8 (nth (by8 (n:Int)) i)) 17 rfl kj (Qal (u:=.int .u8 (IntKind.u8.wrap ((n:Int)/p256 i))) kj (congrArg (Value.int .u8) (QiY _ i hlt9))) ?_
  refine Qad (.pointer (some ⟨g3,i,none⟩)) 18 rfl kj (QbE 24 _ _ .i64 (i) g3 8 8 5 rfl kj kj kj kj (by omega)) <| Qah g3 _ (ints .u8 ((QbW (by8 (n:Int)) 8 i).set i (nth (by8 (n:Int)) i))) 5 q3_1 rfl kj (Qaw 5 _ _ g3 i 5 _ _ q3_1 rfl kj kj kj (Nat.lt_of_lt_of_eq (by omega) (Qdr _ 8 _ (Qd1 _) hi).symm)) fun W3 p3 r3_3=>Qaz <| hK9 _ _ <| Qan <| Qad (.int .i64 ((i+1:Nat):Int)) 19 rfl kj (Qal (u:=.int .i64 (IntKind.i64.wrap (((i:Nat):Int)+1))) kj (congrArg (Value.int .i64) (i64n _ _ (by omega) (by omega)))) <| sg 1 kj <| Qaz ?_
  repeat (first | with_reducible refine goX1 ?_ | with_reducible refine goX2 ?_ | with_reducible refine goX3 ?_)
  exact QaG (i+1) ⟨kj,kj,kj,kj,kj,kj,trivial⟩ ⟨(show i+1≤8 by omega),(QaC r3_3 (QcL _ 8 i (Qd1 _) hlt9)),(Qau.puts q2 p3 (.inl (by simp))),(Puts.ext p3 xx1 b3)⟩ (by show 8-(i+1)<8-i; omega)
 ·skip
  have heq9:i=8:=by have:=of_decide_eq_false c8; omega
  subst heq9
  have r3_2_11:V1.heap[g3]? = some (.cells (ints .u8 (by8 (n:Int))) 5):=QaC q3_1 (Qc3 _ 8 (Qd1 _))
  refine wp_exit <| hK4 _ _ <| sgB kj <| wp_ret ?_
  repeat (first | with_reducible refine goR1 ?_ | with_reducible refine goR2 ?_)
  exact (show bodyPost _ _ _ .ret _ _ from ret1 (.slice (some ⟨g3,0,none⟩) 8 8) rfl (QaM kj) ⟨_,rfl,xx1,Qdy (xs:=by8 (n:Int)) (Qd1 _) b3 r3_2_11 (by decide)⟩)
theorem Qph (xs : List Int) (v:Value) (B:Nat) (w:World) (h:RdK .u8 B xs v w):Calls Tryd.prog 57 #[v] w (QcB w (OwnN .u8 5 w.heap.size (List.replicate ((16-xs.length%16)%16) 0))):=by
  obtain ⟨a_x,c_x,rfl,-⟩:=id h
  refine enter 9 [(0,.slice a_x xs.length c_x)] Tryd.func57 rfl rfl kj rfl <| sgB kj <| sgC fun K2 hK2=>sg 2 kj <| Qad (.int .i64 ((xs.length%16:Nat):Int)) 5 rfl kj (Qal (u:=.int .i64 (Int.tmod (((xs.length:Nat):Int)) (16))) kj (congrArg (Value.int .i64) (QcJ _ 16))) <| Qad (.int .i64 ((16-(xs.length%16):Nat):Int)) 6 rfl kj (Qal (u:=.int .i64 (IntKind.i64.wrap (16-((xs.length%16:Nat):Int)))) kj (congrArg (Value.int .i64) (i64n _ _ (by omega) (by omega)))) <| Qad (.int .i64 (((16-(xs.length%16))%16:Nat):Int)) 7 rfl kj (Qal (u:=.int .i64 (Int.tmod (((16-(xs.length%16):Nat):Int)) (16))) kj (congrArg (Value.int .i64) (QcJ _ 16))) <| Qbw (ints .u8 (List.replicate ((16-(xs.length%16))%16) 0)) 5 ((16-(xs.length%16))%16) 8 rfl kj (QeF 24 _ _ .i64 .i64 ((16-(xs.length%16))%16) 5 rfl kj kj kj (.inr kj) (by omega)) fun g3 W1 l3 e1 r3_1=>sg 1 kj <| sgN hK2 ?_
  refine wp_ret ?_
  repeat (first | with_reducible refine goR1 ?_ | with_reducible refine goR2 ?_)
  exact (show bodyPost _ _ _ .ret _ _ from ret1 (.slice (some ⟨g3,0,none⟩) ((16-(xs.length%16))%16) ((16-(xs.length%16))%16)) rfl (QaM kj) ⟨_,rfl,(Ext.tr (Rely.Ext.refl w) e1),Qdy (qZ ..) (qT (Rely.Ext.refl w).size l3) r3_1 (by rw [maxLen]; omega)⟩)
theorem QnK (xs ys:List Int) (v v2:Value) (B B2:Nat) (w:World) (hx:RdK .u8 B xs v w) (hy:RdK .u8 B2 ys v2 w) (hxb:Qag xs) (hyb:Qag ys) (hl:ys.length=xs.length) (hxl:xs.length≤2000000):Calls Tryd.prog 33 #[v,v2] w (Ret w (.bool (decide (xs=ys)))):=by
 obtain ⟨a_x,c_x,rfl,-⟩:=id hx
 obtain ⟨a_y,c_y,rfl,-⟩:=id hy
 refine enter 26 [(0,.slice a_x xs.length c_x),(1,.slice a_y ys.length c_y)] Tryd.func33 rfl rfl kj rfl <| sgB kj <| sgB kj <| wp_seq_k fun K3 hK3=>sgB kj <| wp_block <| QaN (fun (s1:Nat×Int)=>[(0,.slice a_x xs.length c_x),(1,.slice a_y ys.length c_y),(4,.bool false),(5,.int .u8 (s1.2)),(7,.slice a_x xs.length c_x),(8,.int .i64 ((xs.length:Nat):Int)),(9,.int .i64 ((s1.1:Nat):Int))]) (fun (s1:Nat×Int) W=>(s1.1≤xs.length)∧(0≤s1.2∧s1.2<256)∧(s1.2=0↔xs.take s1.1=ys.take s1.1)∧(Ext w W)∧(Ext w W)) (fun (s1:Nat×Int)=>xs.length-s1.1) (0,0) ⟨kj,kj,kj,kj,kj,kj,kj,trivial⟩ ⟨(Nat.zero_le _),⟨by decide,by decide⟩,(by simp),(Rely.Ext.refl w),(Rely.Ext.refl w)⟩ fun s1 X1 V1 hI1=>?_
 obtain ⟨i,d⟩:=s1
 obtain ⟨hi,hdb,hd,kk1,xx1⟩:=hI1
 replace hi:i≤xs.length:=hi
 replace hdb:0≤d∧d<256:=hdb
 replace hd:d=0↔xs.take i=ys.take i:=hd
 replace kk1:Ext w V1:=kk1
 replace xx1:Ext w V1:=xx1
 have e1:=kk1
 refine sgB kj <| wp_seq_k fun K6 hK6=>Qa9 (t:=decide (((i:Nat):Int)<((xs.length:Nat):Int))) kj (fun c7=>?_) (fun c7=>?_)
 ·skip
  have hlt:i<xs.length:=by have:=of_decide_eq_true c7; omega
  obtain ⟨grx8,orx8,harx8,-,hlrx8,hcrx8⟩:=Qfr (RdK.ext hx xx1) (by omega)
  obtain ⟨gry9,ory9,hary9,-,hlry9,hcry9⟩:=Qfr (RdK.ext hy xx1) (by omega)
  refine wp_skip <| hK6 _ _ <| wp_seq_k fun K10 hK10=>wp_block <| sgB kj <| Qbf 10 [⟨none,[(5,none)]⟩,⟨none,[(0,none)]⟩,⟨none,[(6,none)]⟩,⟨none,[(13,some 1),(14,some 2)]⟩,⟨none,[(15,some 3)]⟩,⟨none,[(1,none)]⟩,⟨none,[(6,none)]⟩,⟨none,[(17,some 5),(18,some 6)]⟩,⟨none,[(19,some 7)]⟩,⟨none,[(16,some 4),(20,some 8)]⟩] kj kj fun F hF=>QaL (Qaq _) (.int .u8 (d)) kj kj (fun W=>by kernel_rfl) <| QaL (Qaq _) (.slice a_x xs.length c_x) kj kj (fun W=>by kernel_rfl) <| QaL (Qaq _) (.int .i64 ((i:Nat):Int)) kj kj (fun W=>by kernel_rfl) <| QaL (Qaq _) (.pointer (some ⟨grx8,orx8+i,none⟩)) kj kj (fun W=>(Qen 24 _ _ .i64 i grx8 orx8 xs.length c_x 5 a_x _ harx8 rfl rfl kj kj kj kj (Nat.lt_of_lt_of_eq (show i<(xs).length by omega) (rfl:(xs).length=(xs).length).symm))) ?_
  refine Qc8 (Qaq _) (.int .u8 (nth (xs) (i))) kj kj (fun W hR=>(Qb1 5 _ _ (.int .u8 (nth (xs) (i))) ((Below.cell (Rely.Ext.trans (Qai _) hR) hlrx8).trans (hcrx8 i (Nat.lt_of_lt_of_eq (show i<(xs).length by omega) (rfl:(xs).length=(xs).length).symm))) rfl kj kj)) <| QaL (Qaq _) (.slice a_y ys.length c_y) kj kj (fun W=>by kernel_rfl) <| QaL (Qaq _) (.int .i64 ((i:Nat):Int)) kj kj (fun W=>by kernel_rfl) <| QaL (Qaq _) (.pointer (some ⟨gry9,ory9+i,none⟩)) kj kj (fun W=>(Qen 24 _ _ .i64 i gry9 ory9 ys.length c_y 5 a_y _ hary9 rfl rfl kj kj kj kj (Nat.lt_of_lt_of_eq (show i<(ys).length by omega) (rfl:(ys).length=(ys).length).symm))) <| Qc8 (Qaq _) (.int .u8 (nth (ys) (i))) kj kj (fun W hR=>(Qb1 5 _ _ (.int .u8 (nth (ys) (i))) ((Below.cell (Rely.Ext.trans (Qai _) hR) hlry9).trans (hcry9 i (Nat.lt_of_lt_of_eq (show i<(ys).length by omega) (rfl:(ys).length=(ys).length).symm))) rfl kj kj)) <| QaL (Qaq _) (.int .u8 (bits .xor .u8 ((nth (xs) (i))) ((nth (ys) (i))))) kj kj (fun W=>by kernel_rfl) <| QdN (hF _ fun W2 e2=>?_)
  simp only [List.nil_append,List.cons_append,List.take_succ_cons,List.take_zero,List.drop_succ_cons,List.drop_zero,finE,up]
  clear hF
  refine sg 2 kj <| Qaz <| hK10 _ _ <| Qan <| Qad (.int .i64 ((i+1:Nat):Int)) 23 rfl kj (Qal (u:=.int .i64 (IntKind.i64.wrap (((i:Nat):Int)+1))) kj (congrArg (Value.int .i64) (i64n _ _ (by omega) (by omega)))) <| sg 1 kj <| Qaz ?_
  repeat (first | with_reducible refine goX1 ?_ | with_reducible refine goX2 ?_ | with_reducible refine goX3 ?_)
  exact QaG ((i+1),(bits .or .u8 (d) ((bits .xor .u8 ((nth (xs) (i))) ((nth (ys) (i))))))) ⟨kj,kj,kj,kj,kj,kj,kj,trivial⟩ ⟨(by omega),(Qp9 _ _),(Qlb hlt (by omega) hxb hyb hdb hd),(Rely.Ext.trans e1 e2),(Ext.tr xx1 e2)⟩ (by show xs.length-(i+1)<xs.length-i; omega)
 ·skip
  have hie:i=xs.length:=by have:=of_decide_eq_false c7; omega
  have hall:d=0↔xs=ys:=by rw [hie,List.take_length,List.take_of_length_le (by omega)] at hd; exact hd
  refine wp_exit <| hK3 _ _ <| sgC fun K12 hK12=>sg 1 kj <| Qad (.bool (decide (xs=ys))) 25 rfl kj (Qal (u:=.bool ((d==0))) kj (congrArg Value.bool (Qpa _ _ hall))) <| sg 1 kj <| sgN hK12 <| wp_ret ?_
  repeat (first | with_reducible refine goR1 ?_ | with_reducible refine goR2 ?_)
  exact (show bodyPost _ _ _ .ret _ _ from ret1 (.bool (decide (xs=ys))) rfl (QaM kj) ⟨rfl,xx1⟩)
set_option maxRecDepth 100000 in
theorem QpG (key y0 y1 y2 y3 y4:List Int) (v0 v1 v2 v3 v4:Value) (gp B:Nat) (w:World) (hkl:key.length=32) (hkb:Qag key) (hB:B≤w.heap.size) (hy0:RdK .u8 B y0 v0 w) (hb0:Qag y0) (hl0:y0.length≤3000000) (hy1:RdK .u8 B y1 v1 w) (hb1:Qag y1) (hl1:y1.length≤3000000) (hy2:RdK .u8 B y2 v2 w) (hb2:Qag y2) (hl2:y2.length≤3000000) (hy3:RdK .u8 B y3 v3 w) (hb3:Qag y3) (hl3:y3.length≤3000000) (hy4:RdK .u8 B y4 v4 w) (hb4:Qag y4) (hl4:y4.length≤3000000) (hp0:w.heap[gp]? = some (.cells #[v0,v1,v2,v3,v4] 24)) :
    Calls Tryd.prog 56 #[.agg (ints .u8 key),.slice (some ⟨gp,0,none⟩) 5 5] w (Ret w (.agg (ints .u8 (tagV (rOf key) (sOf key) (y0++y1++y2++y3++y4))))):=by
  obtain ⟨a_y0,c_y0,rfl,-⟩:=id hy0
  obtain ⟨a_y1,c_y1,rfl,-⟩:=id hy1
  obtain ⟨a_y2,c_y2,rfl,-⟩:=id hy2
  obtain ⟨a_y3,c_y3,rfl,-⟩:=id hy3
  obtain ⟨a_y4,c_y4,rfl,-⟩:=id hy4
  have hp:w.heap[gp]? = some (.cells (cat [#[.slice a_y0 y0.length c_y0],#[.slice a_y1 y1.length c_y1],#[.slice a_y2 y2.length c_y2],#[.slice a_y3 y3.length c_y3],#[.slice a_y4 y4.length c_y4]]) 24):=hp0
  refine enter 22 [(0,.agg (ints .u8 (key))),(1,.slice (some ⟨gp,0,none⟩) 5 5)] Tryd.func56 rfl rfl kj rfl <| sgC fun K2 hK2=>Qaj (ints .u8 (key)) 23 2 rfl kj kj fun g3 W1 l3 e1 r3_1=>?_
  have x1:=Ext.tr (Rely.Ext.refl w) e1
  have b3:=qT (Rely.Ext.refl w).size l3
  refine Qaj (ints .u8 (List.replicate 16 0)) 66 4 rfl kj kj fun g4 W2 l4 e2 r4_2=>?_
  have x2:=Ext.tr x1 e2
  refine sgN hK2 <| sgC fun K5 hK5=>Qad (.agg (ints .u8 (key))) 8 rfl kj (Qae 23 _ g3 23 _ _ (Qaa r3_1 e2) rfl kj kj (isz (n:=32) kj ((Qac _ _).trans hkl))) <| QaA (fun v W'=>(fun v W=>∃ g,v=.pointer (some ⟨g,0,none⟩)∧W2.heap.size≤g∧Mk g (rOf key) (sOf key) [] W) v W'∧Ext W2 W') 77 #[.agg (ints .u8 (key))] 9 rfl kj kj ((Qku key _ hkl hkb).mono (by rintro e w' ⟨v,rfl,e1,hv⟩; exact ⟨v,rfl,hv,e1⟩)) fun vv6 W3 hh6=>?_
  obtain ⟨hv6,e3⟩:=hh6
  have x3:=Ext.tr x2 e3
  obtain ⟨gm,rfl,lm,hM0⟩:=hv6
  have hgm:w.heap.size≤gm:=qT x2.size lm
  refine sg 1 kj <| sgN hK5 <| wp_seq_k fun K8 hK8=>sgB kj <| wp_block <| wp_loop_rounds 6 ?_
  show Code.wp _ _ (Exit.then (Code.rounds _ _ _ 5) _) _ _
  refine sgB kj <| sgT kj <| wp_seq_k fun K12 hK12=>wp_block <| sgC fun K13 hK13=>Qad (.pointer (some ⟨gp,0,none⟩)) 14 rfl kj (QbE 87 _ _ .i64 (0) gp 5 5 24 rfl kj kj kj kj (by decide)) ?_
  have r1_2:=(Qaa (Qaa hp e1) e2)
  have r1_3:=(Qaa r1_2 e3)
  refine Qad (.slice a_y0 y0.length c_y0) 15 rfl kj (Qak 24 _ gp 0 24 _ (.slice a_y0 y0.length c_y0) _ r1_3 rfl kj kj kj) <| sg 1 kj <| sgN hK13 <| Qan <| sg 2 kj <| QaA (fun v W'=>v=.tuple #[]∧ExtB gm W3 W'∧Mk gm (rOf key) (sOf key) (y0) W') 78 #[.pointer (some ⟨gm,0,none⟩),.slice a_y0 y0.length c_y0] 18 rfl kj kj ((addC gm (rOf key) (sOf key) ([]) y0 _ B _ (Qg4 key hkl hkb) (qT hB hgm) (RdK.ext hy0 x3) hb0 hl0 hM0).mono fun e w' h=>⟨_,h.1,rfl,h.2⟩) fun v W4 h4=>?_
  obtain ⟨rfl,q4,M4⟩:=h4
  have x4:=ExtB.up x3 q4 hgm
  refine Qaz <| hK12 _ _ <| sgA kj ?_
  show Code.rounds _ _ _ 5 _ _
  show Code.wp _ _ (Exit.then (Code.rounds _ _ _ 4) _) _ _
  refine sgB kj <| sgT kj <| wp_seq_k fun K16 hK16=>wp_block <| sgC fun K17 hK17=>Qad (.pointer (some ⟨gp,1,none⟩)) 14 rfl kj (QbE 87 _ _ .i64 (1) gp 5 5 24 rfl kj kj kj kj (by decide)) ?_
  have r1_4:=(ExtB.row q4 r1_3 (Qab r1_2 lm))
  refine Qad (.slice a_y1 y1.length c_y1) 15 rfl kj (Qak 24 _ gp 1 24 _ (.slice a_y1 y1.length c_y1) _ r1_4 rfl kj kj kj) <| sg 1 kj <| sgN hK17 <| Qan <| sg 2 kj <| QaA (fun v W'=>v=.tuple #[]∧ExtB gm W4 W'∧Mk gm (rOf key) (sOf key) (y0++y1) W') 78 #[.pointer (some ⟨gm,0,none⟩),.slice a_y1 y1.length c_y1] 18 rfl kj kj ((addC gm (rOf key) (sOf key) (y0) y1 _ B _ (Qg4 key hkl hkb) (qT hB hgm) (RdK.ext hy1 x4) hb1 hl1 M4).mono fun e w' h=>⟨_,h.1,rfl,h.2⟩) fun v W5 h5=>?_
  obtain ⟨rfl,q5,M5⟩:=h5
  have x5:=ExtB.up x4 q5 hgm
  refine Qaz <| hK16 _ _ <| sgA kj ?_
  show Code.rounds _ _ _ 4 _ _
  show Code.wp _ _ (Exit.then (Code.rounds _ _ _ 3) _) _ _
  refine sgB kj <| sgT kj <| wp_seq_k fun K20 hK20=>wp_block <| sgC fun K21 hK21=>Qad (.pointer (some ⟨gp,2,none⟩)) 14 rfl kj (QbE 87 _ _ .i64 (2) gp 5 5 24 rfl kj kj kj kj (by decide)) ?_
  have r1_5:=(ExtB.row q5 r1_4 (Qab r1_2 lm))
  refine Qad (.slice a_y2 y2.length c_y2) 15 rfl kj (Qak 24 _ gp 2 24 _ (.slice a_y2 y2.length c_y2) _ r1_5 rfl kj kj kj) <| sg 1 kj <| sgN hK21 <| Qan <| sg 2 kj <| QaA (fun v W'=>v=.tuple #[]∧ExtB gm W5 W'∧Mk gm (rOf key) (sOf key) (y0++y1++y2) W') 78 #[.pointer (some ⟨gm,0,none⟩),.slice a_y2 y2.length c_y2] 18 rfl kj kj ((addC gm (rOf key) (sOf key) (y0++y1) y2 _ B _ (Qg4 key hkl hkb) (qT hB hgm) (RdK.ext hy2 x5) hb2 hl2 M5).mono fun e w' h=>⟨_,h.1,rfl,h.2⟩) fun v W6 h6=>?_
  obtain ⟨rfl,q6,M6⟩:=h6
  have x6:=ExtB.up x5 q6 hgm
  refine Qaz <| hK20 _ _ <| sgA kj ?_
  show Code.rounds _ _ _ 3 _ _
  show Code.wp _ _ (Exit.then (Code.rounds _ _ _ 2) _) _ _
  refine sgB kj <| sgT kj <| wp_seq_k fun K24 hK24=>wp_block <| sgC fun K25 hK25=>Qad (.pointer (some ⟨gp,3,none⟩)) 14 rfl kj (QbE 87 _ _ .i64 (3) gp 5 5 24 rfl kj kj kj kj (by decide)) ?_
  have r1_6:=(ExtB.row q6 r1_5 (Qab r1_2 lm))
  refine Qad (.slice a_y3 y3.length c_y3) 15 rfl kj (Qak 24 _ gp 3 24 _ (.slice a_y3 y3.length c_y3) _ r1_6 rfl kj kj kj) <| sg 1 kj <| sgN hK25 <| Qan <| sg 2 kj <| QaA (fun v W'=>v=.tuple #[]∧ExtB gm W6 W'∧Mk gm (rOf key) (sOf key) (y0++y1++y2++y3) W') 78 #[.pointer (some ⟨gm,0,none⟩),.slice a_y3 y3.length c_y3] 18 rfl kj kj ((addC gm (rOf key) (sOf key) (y0++y1++y2) y3 _ B _ (Qg4 key hkl hkb) (qT hB hgm) (RdK.ext hy3 x6) hb3 hl3 M6).mono fun e w' h=>⟨_,h.1,rfl,h.2⟩) fun v W7 h7=>?_
  obtain ⟨rfl,q7,M7⟩:=h7
  have x7:=ExtB.up x6 q7 hgm
  refine Qaz <| hK24 _ _ <| sgA kj ?_
  show Code.rounds _ _ _ 2 _ _
  show Code.wp _ _ (Exit.then (Code.rounds _ _ _ 1) _) _ _
  refine sgB kj <| sgT kj <| wp_seq_k fun K28 hK28=>wp_block <| sgC fun K29 hK29=>Qad (.pointer (some ⟨gp,4,none⟩)) 14 rfl kj (QbE 87 _ _ .i64 (4) gp 5 5 24 rfl kj kj kj kj (by decide)) <| Qad (.slice a_y4 y4.length c_y4) 15 rfl kj (Qak 24 _ gp 4 24 _ (.slice a_y4 y4.length c_y4) _ (ExtB.row q7 r1_6 (Qab r1_2 lm)) rfl kj kj kj) <| sg 1 kj <| sgN hK29 <| Qan ?_
  refine sg 2 kj <| QaA (fun v W'=>v=.tuple #[]∧ExtB gm W7 W'∧Mk gm (rOf key) (sOf key) (y0++y1++y2++y3++y4) W') 78 #[.pointer (some ⟨gm,0,none⟩),.slice a_y4 y4.length c_y4] 18 rfl kj kj ((addC gm (rOf key) (sOf key) (y0++y1++y2++y3) y4 _ B _ (Qg4 key hkl hkb) (qT hB hgm) (RdK.ext hy4 x7) hb4 hl4 M7).mono fun e w' h=>⟨_,h.1,rfl,h.2⟩) fun v W8 h8=>?_
  obtain ⟨rfl,q8,M8⟩:=h8
  refine Qaz <| hK28 _ _ <| sgA kj ?_
  show Code.rounds _ _ _ 1 _ _
  show Code.wp _ _ (Exit.then (Code.rounds _ _ _ 0) _) _ _
  refine sgB kj <| wp_seq_k fun K31 hK31=>cond_false kj <| wp_exit <| hK8 _ _ <| sgC fun K32 hK32=>sg 1 kj <| QaA (fun v W'=>v=.agg (ints .u8 (tagV (rOf key) (sOf key) (y0++y1++y2++y3++y4)))∧ExtB gm W8 W') 79 #[.pointer (some ⟨gm,0,none⟩)] 21 rfl kj kj ((endC gm (rOf key) (sOf key) (y0++y1++y2++y3++y4) _ (Qg4 key hkl hkb) (Qpu key hkl hkb) M8).mono fun e w' h=>⟨_,h.1,rfl,h.2⟩) fun v W9 h9=>?_
  obtain ⟨rfl,q9⟩:=h9
  have r4_9:=(ExtB.row q9 (ExtB.row q8 (ExtB.row q7 (ExtB.row q6 (ExtB.row q5 (ExtB.row q4 (Qaa r4_2 e3) (Qab r4_2 lm)) (Qab r4_2 lm)) (Qab r4_2 lm)) (Qab r4_2 lm)) (Qab r4_2 lm)) (Qab r4_2 lm))
  refine Qah g4 _ (ints .u8 (tagV (rOf key) (sOf key) (y0++y1++y2++y3++y4))) 66 r4_9 rfl kj (Qaf 66 _ _ g4 66 _ _ r4_9 rfl kj kj (isz (n:=16) kj ((Qac _ _).trans (QaX _))) (eqsz (n:=16) ((Qac _ _).trans (qZ (n:=16))) ((Qac _ _).trans (QaX _))) (ints_one _ _)) fun W10 p10 r4_10=>sgN hK32 <| wp_ret ?_
  repeat (first | with_reducible refine goR1 ?_ | with_reducible refine goR2 ?_)
  exact (show bodyPost _ _ _ .ret _ _ from ret1 (.agg (ints .u8 (tagV (rOf key) (sOf key) (y0++y1++y2++y3++y4)))) rfl (QaZ g4 66 _ r4_10 kj kj (isz (n:=16) kj ((Qac _ _).trans (QaX _)))) ⟨rfl,(Puts.ext p10 (ExtB.up (ExtB.up x7 q8 hgm) q9 hgm) (qT x1.size l4))⟩)
end Go.Proofs.YtmljnchhgkfemaaDoor.Ae
end
section
namespace Go.Proofs.YtmljnchhgkfemaaDoor.Ae
open Go Go.RowKit
open Rely Auto Own Sha
open Sha Cha
theorem Qpv {P : Program} {ρ:Operand→Value} {o:Oper} {w:World} (t:TypeId) (n:Nat) (parts:Array (Nat×Operand)) (vs:Array (Nat×Value)) (ho:o.op=.buildSlice t n parts) (hv:(parts.map fun (i,x)=>(i,ρ x))=vs) {s:Value} {w':World} (h:(Instr.buildSlice t n vs).run P w=.ok s w') :
    (execOp ρ o).run P w=.ok (.value s) w':=by
  unfold execOp
  simp only [ho,hv,Sem.run_bind,h,Result.andThen_ok,Sem.run_pure]
theorem run_sap {P : Program} {ρ:Operand→Value} {o:Oper} {w:World} (t:TypeId) (x:Operand) (n:Nat) (e:TypeId) {a:Option Addr} {len cap:Nat} (ho:o.op=.sliceToArrayPointer t x) (hx:ρ x=.slice a len cap) (hu:P.underlying t=some (.array n e)) (h:n≤len) :
    (execOp ρ o).run P w=.ok (.value (.pointer a)) w:=by
  unfold execOp
  simp [ho,hx,Instr.arrayAt,run_underlying hu,Nat.not_lt.2 h]
theorem Qnp {k : IntKind} {xs:List Int} {n:Nat}:∀ j v,(ints k (xs.take n))[j]? = some v→(ints k xs)[0+j]? = some v:=fun j v hv=>by
  rw [Nat.zero_add]
  have hj:j<(xs.take n).length:=by
    have:=(Array.getElem?_eq_some_iff.1 hv).1
    rwa [Qac] at this
  have hj2:j<n∧j<xs.length:=by rw [List.length_take] at hj; omega
  rw [←hv,Qar _ _ _ hj,Qar _ _ _ hj2.2,Qho _ _ _ hj2.1]
theorem Qia (ws : List Wd) (n:Int):Qag (Qbu ws n):=fun x hx=>by
  unfold Qbu QcC at hx
  obtain ⟨i,-,rfl⟩:=List.mem_map.1 hx
  omega
def otk (key nonce:List Int):List Int:=(Qbu (Qbb key nonce) 0).take 32
theorem Qlw (key nonce:List Int):(otk key nonce).length=32:=by unfold otk; rw [List.length_take,QbU]; rfl
theorem Qlx (key nonce:List Int):Qag (otk key nonce):=Qbd (Qia _ _) 32
def padV (xs : List Int):List Int:=List.replicate ((16-xs.length%16)%16) 0
theorem Qj1 (xs : List Int):(padV xs).length=(16-xs.length%16)%16:=qZ
theorem Qg7 (xs : List Int):Qag (padV xs):=fun x hx=>by
  have:=List.eq_of_mem_replicate hx
  subst this
  exact ⟨by decide,by decide⟩
def QqK (ctx mixed:List Int):List Int:=ctx++padV ctx++mixed++padV mixed++(by8 ((ctx.length:Nat):Int)++by8 ((mixed.length:Nat):Int))
def QcV (key nonce ctx mixed:List Int):List Int:=tagV (rOf (otk key nonce)) (sOf (otk key nonce)) (QqK ctx mixed)
theorem Qbn (key nonce ctx mixed:List Int):(QcV key nonce ctx mixed).length=16:=QaX _
theorem QnF (n0 : Nat) (xs:List Int) (v:Value) (B:Nat) (w:World) (h:RdK .u8 B xs v w) (hn0:n0≤w.heap.size):Calls Tryd.prog 57 #[v] w (QcB w (OwnN .u8 5 n0 (padV xs))) :=
  (Qph xs v B w h).mono fun e W' hg=>by
    obtain ⟨v',e1,e2,e3⟩:=hg
    exact ⟨v',e1,e2,e3.base hn0⟩
set_option maxRecDepth 100000 in
theorem QiW (key nonce ctx mixed:List Int) (v v2 v3:Value) (B B2 B3:Nat) (th tq:TypeId) (w:World) (hh:w.heap[2]? = some (.cells (ints .u32 qH) th)) (hq:w.heap[3]? = some (.cells (ints .i64 qQ) tq)) (hkl:key.length=32) (hn:RdK .u8 B nonce v w) (hc:RdK .u8 B2 ctx v2 w) (hm:RdK .u8 B3 mixed v3 w) (h:nonce.length=12) (hcb:Qag ctx) (hmb:Qag mixed) (hcl:ctx.length≤2000000) (hml:mixed.length≤2000000) :
  Calls Tryd.prog 31 #[.agg (ints .u8 key),v,v2,v3] w (Ret w (.tuple #[.agg (ints .u8 (QcV key nonce ctx mixed)),.nilIface])):=by
 obtain ⟨a_n,c_n,rfl,-⟩:=id hn
 obtain ⟨a_c,c_c,rfl,-⟩:=id hc
 obtain ⟨a_m,c_m,rfl,-⟩:=id hm
 refine enter 42 [(0,.agg (ints .u8 (key))),(1,.slice a_n nonce.length c_n),(2,.slice a_c ctx.length c_c),(3,.slice a_m mixed.length c_m)] Tryd.func31 rfl rfl kj rfl <| sgC fun K3 hK3=>Qaj (ints .u8 (key)) 23 4 rfl kj kj fun g4 W1 l4 e1 r4_1=>?_
 have x1:=Ext.tr (Rely.Ext.refl w) e1
 have b4:=qT (Rely.Ext.refl w).size l4
 refine Qaj (ints .u8 (List.replicate 16 0)) 66 8 rfl kj kj fun g5 W2 l5 e2 r5_2=>?_
 have x2:=Ext.tr x1 e2
 refine sg 1 kj <| sgN hK3 <| sgC fun K6 hK6=>Qad (.agg (ints .u8 (key))) 14 rfl kj (Qae 23 _ g4 23 _ _ (Qaa r4_1 e2) rfl kj kj (isz (n:=32) kj ((Qac _ _).trans hkl))) <| sg 1 kj <| Qao (.tuple #[.agg (ints .u8 (Qbu (Qbb key nonce) (0))),.nilIface]) 55 #[.agg (ints .u8 (key)),.slice a_n nonce.length c_n,.int .i64 0] 16 rfl kj kj ((Qpd key nonce _ _ 0 th tq _ (Qaa (Qaa hh e1) e2) (Qaa (Qaa hq e1) e2) hkl (RdK.ext hn x2) h (by decide) (by decide))) fun W3 e3=>?_
 have x3:=Ext.tr x2 e3
 refine sg 3 kj <| Qaj (ints .u8 (List.replicate 64 0)) 98 10 rfl kj kj fun g7 W4 l7 e4 r7_4=>Qah g7 _ (ints .u8 (Qbu (Qbb key nonce) (0))) 98 r7_4 rfl kj (Qaf 98 _ _ g7 98 _ _ r7_4 rfl kj kj (isz (n:=64) kj ((Qac _ _).trans (QbU _ _))) (eqsz (n:=64) ((Qac _ _).trans (qZ (n:=64))) ((Qac _ _).trans (QbU _ _))) (ints_one _ _)) fun W5 p5 r7_5=>?_
 have x5:=Puts.ext p5 (Ext.tr x3 e4) (qT x3.size l7)
 refine sg 1 kj <| sgN hK6 <| wp_seq_k fun K8 hK8=>sgB kj <| cond_false kj <| wp_skip <| hK8 _ _ <| sgC fun K10 hK10=>sg 2 kj <| QaA (fun v W'=>(OwnN .u8 5 W5.heap.size (by8 ((ctx.length:Nat):Int))) v W'∧Ext W5 W') 32 #[.int .i64 ((ctx.length:Nat):Int)] 25 rfl kj kj ((QiZ (ctx.length) _).mono (by rintro e w' ⟨v,rfl,e1,hv⟩; exact ⟨v,rfl,hv,e1⟩)) fun vv11 W6 hh11=>?_
 obtain ⟨hv11,e6⟩:=hh11
 obtain ⟨a25_,c25_,rfl,-⟩:=id (OwnN.rd hv11)
 refine sg 2 kj <| QaA (fun v W'=>(OwnN .u8 5 W6.heap.size (by8 ((mixed.length:Nat):Int))) v W'∧Ext W6 W') 32 #[.int .i64 ((mixed.length:Nat):Int)] 28 rfl kj kj ((QiZ (mixed.length) _).mono (by rintro e w' ⟨v,rfl,e1,hv⟩; exact ⟨v,rfl,hv,e1⟩)) fun vv12 W7 hh12=>?_
 obtain ⟨hv12,e7⟩:=hh12
 obtain ⟨a28_,c28_,rfl,-⟩:=id (OwnN.rd hv12)
 refine QbO (k:=.u8) (T:=5) (xs:=by8 ((ctx.length:Nat):Int)) (ys:=by8 ((mixed.length:Nat):Int)) (V:=W5) 1 (.tmp 25) (.tmp 28) 24 rfl kj kj (by decide) 29 rfl kj kj kj (hv11.ext e7) (OwnN.rd hv12) (by rw [Qd1,Qd1]; decide) (Rely.Ext.trans (Rely.Ext.trans (Rely.Ext.refl W5) e6) e7) fun zl W8 f14 y8 l8=>?_
 have x8:=Ext.low (Ext.tr (Ext.tr x5 e6) e7) l8 x5.size
 obtain ⟨a29_,c29_,rfl,-⟩:=id (OwnN.rd f14)
 refine sg 1 kj <| sgN hK10 <| wp_seq_k fun K16 hK16=>Qbf 11 [⟨none,[(10,none)]⟩,⟨none,[(30,some 0)]⟩,⟨none,[(31,some 1)]⟩,⟨none,[(2,none)]⟩,⟨none,[(2,none)]⟩,⟨none,[(34,some 4)]⟩,⟨none,[(3,none)]⟩,⟨none,[(3,none)]⟩,⟨none,[(37,some 7)]⟩,⟨none,[(12,none)]⟩,⟨none,[(33,some 3),(35,some 5),(36,some 6),(38,some 8),(39,some 9)]⟩] kj kj fun F hF=>QaL (Qaq _) (.slice (some ⟨g7,0+0,none⟩) (32-0) (64-0)) kj kj (fun W=>(Qce 98 _ _ _ 0 32 64 g7 0 5 rfl kj kj kj rfl ⟨.i64,by kernel_rfl⟩ (by omega) (by omega) (by omega))) <| QaL (Qaq _) (.pointer (some ⟨g7,0,none⟩)) kj kj (fun W=>(run_sap 23 _ 32 5 (len:=32) (cap:=64) rfl kj kj (by decide))) <| Qc8 (Qaq _) (.agg (ints .u8 (otk key nonce))) kj kj (fun W hR=>(Qat 23 _ g7 0 98 _ (ints .u8 (otk key nonce)) _ (Qaa (Qaa (Qb7 l8 (Qaa (Qaa r7_5 e6) e7) (Qa4 r7_5)) (Qai _)) hR) rfl kj (Qnp (xs:=Qbu (Qbb key nonce) (0)) (n:=32)) kj (isz (n:=32) kj ((Qac _ _).trans (Qlw _ _))))) <| QaL (Qaq _) (.slice a_c ctx.length c_c) kj kj (fun W=>by kernel_rfl) <| QaL (Qaq _) (.slice a_c ctx.length c_c) kj kj (fun W=>by kernel_rfl) <| Qfi (Qaq _) (OwnN .u8 5 W8.heap.size (padV ctx)) (OwnN.stable _ _ _ _) 57 #[.slice a_c ctx.length c_c] kj kj (fun W=>by kernel_rfl) (fun W hR=>(QnF W8.heap.size ctx _ _ _ (RdK.ext (RdK.ext hc x8) (Rely.Ext.trans (Qai _) hR)) (Rely.Ext.trans (Qai _) hR).size)) ?_
 refine QaL (Qaq _) (.slice a_m mixed.length c_m) kj kj (fun W=>by kernel_rfl) <| QaL (Qaq _) (.slice a_m mixed.length c_m) kj kj (fun W=>by kernel_rfl) <| Qfi (Qaq _) (OwnN .u8 5 W8.heap.size (padV mixed)) (OwnN.stable _ _ _ _) 57 #[.slice a_m mixed.length c_m] kj kj (fun W=>by kernel_rfl) (fun W hR=>(QnF W8.heap.size mixed _ _ _ (RdK.ext (RdK.ext hm x8) (Rely.Ext.trans (Qai _) hR)) (Rely.Ext.trans (Qai _) hR).size)) <| QaL (Qaq _) (.slice a29_ ((by8 ((ctx.length:Nat):Int)++by8 ((mixed.length:Nat):Int)).length) c29_) kj kj (fun W=>by kernel_rfl) <| QeP (Qaq _) (fun v W=>∃ g za35_19 za38_19,v=.slice (some ⟨g,0,none⟩) 5 5∧W8.heap.size≤g∧W.heap[g]? = some (.cells #[.slice a_c ctx.length c_c,za35_19,.slice a_m mixed.length c_m,za38_19,.slice a29_ ((by8 ((ctx.length:Nat):Int)++by8 ((mixed.length:Nat):Int)).length) c29_] 24)∧(OwnN .u8 5 W8.heap.size (padV ctx)) za35_19 W∧(OwnN .u8 5 W8.heap.size (padV mixed)) za38_19 W) (fun _ _ _ hR ⟨g,za35_19,za38_19,h1,h2,h3,qza35_19,qza38_19⟩=>⟨g,za35_19,za38_19,h1,h2,Qaa h3 hR,(OwnN.stable _ _ _ _) _ _ _ hR qza35_19,(OwnN.stable _ _ _ _) _ _ _ hR qza38_19⟩) (fun ρ W hR hh=>?_) ?_
 ·skip
  have e33:ρ 33=.slice a_c ctx.length c_c:=hh.1
  obtain ⟨ar35,cr35,e35,-⟩:=id (OwnN.rd hh.2.1)
  have e36:ρ 36=.slice a_m mixed.length c_m:=hh.2.2.1
  obtain ⟨ar38,cr38,e38,-⟩:=id (OwnN.rd hh.2.2.2.1)
  have e39:ρ 39=.slice a29_ ((by8 ((ctx.length:Nat):Int)++by8 ((mixed.length:Nat):Int)).length) c29_:=hh.2.2.2.2.1
  refine ⟨_,_,Qpv 87 5 _ _ rfl (Eq.trans (b:=#[(0,ρ 33),(1,ρ 35),(2,ρ 36),(3,ρ 38),(4,ρ 39)]) kj (by rw [e33,e35,e36,e38,e39])) (s:=.slice (some ⟨W.heap.size,0,none⟩) 5 5) (w':=W.alloc (.cells #[.slice a_c ctx.length c_c,.slice ar35 (padV ctx).length cr35,.slice a_m mixed.length c_m,.slice ar38 (padV mixed).length cr38,.slice a29_ ((by8 ((ctx.length:Nat):Int)++by8 ((mixed.length:Nat):Int)).length) c29_] 24)) kj,QaH _ _,⟨W.heap.size,ρ 35,ρ 38,rfl,(Rely.Ext.trans (Qai _) hR).size,?_,(OwnN.stable _ _ _ _) _ _ _ (QaH _ _) hh.2.1,(OwnN.stable _ _ _ _) _ _ _ (QaH _ _) hh.2.2.2.1⟩⟩
  rw [e35,e38]; exact heap_alloc_new _ _
 refine QdN (hF _ fun W9 e9=>?_)
 simp only [List.nil_append,List.cons_append,List.take_succ_cons,List.take_zero,List.drop_succ_cons,List.drop_zero,finE,up]
 intro vv17 hv17 vv18 hv18 vv19 hv19
 clear hF
 have x9:=Ext.tr x8 e9
 obtain ⟨g20,za35_19,za38_19,rfl,l20,r20_9,qza35_19,qza38_19⟩:=hv19
 have b20:=qT x8.size l20
 obtain ⟨a35b_,c35b_,rfl,-⟩:=id (OwnN.rd qza35_19)
 obtain ⟨a38b_,c38b_,rfl,-⟩:=id (OwnN.rd qza38_19)
 refine Qao (.agg (ints .u8 (QcV key nonce ctx mixed))) 56 #[.agg (ints .u8 (otk key nonce)),.slice (some ⟨g20,0,none⟩) 5 5] 41 rfl kj kj ((QpG (otk key nonce) ctx (padV ctx) mixed (padV mixed) (by8 ((ctx.length:Nat):Int)++by8 ((mixed.length:Nat):Int)) _ _ _ _ _ _ _ _ (Qlw _ _) (Qlx _ _) (qR _) (RdK.here (RdK.ext hc x9)) hcb (by omega) (RdK.here (OwnN.rd qza35_19)) (Qg7 _) (by rw [Qj1]; omega) (RdK.here (RdK.ext hm x9)) hmb (by omega) (RdK.here (OwnN.rd qza38_19)) (Qg7 _) (by rw [Qj1]; omega) (RdK.here (OwnN.rd (f14.ext e9))) (bytes_app (Qiz _) (Qiz _)) (by rw [List.length_append,Qd1,Qd1]; decide) r20_9)) fun W10 e10=>?_
 have r5_3:=(Qaa r5_2 e3)
 have r5_5:=(Puts.row p5 (Qaa r5_3 e4) (Qab r5_3 l7))
 have r5_10:=(Qaa (Qaa (Qb7 l8 (Qaa (Qaa r5_5 e6) e7) (Qa4 r5_5)) e9) e10)
 refine Qah g5 _ (ints .u8 (QcV key nonce ctx mixed)) 66 r5_10 rfl kj (Qaf 66 _ _ g5 66 _ _ r5_10 rfl kj kj (isz (n:=16) kj ((Qac _ _).trans (Qbn _ _ _ _))) (eqsz (n:=16) ((Qac _ _).trans (qZ (n:=16))) ((Qac _ _).trans (Qbn _ _ _ _))) (ints_one _ _)) fun W11 p11 r5_11=>sg 1 kj <| sgN hK16 <| wp_ret ?_
 repeat (first | with_reducible refine goR1 ?_ | with_reducible refine goR2 ?_)
 exact (show bodyPost _ _ _ .ret _ _ from ret2 (.agg (ints .u8 (QcV key nonce ctx mixed))) (.nilIface) rfl (QaZ g5 66 _ r5_11 kj kj (isz (n:=16) kj ((Qac _ _).trans (Qbn _ _ _ _)))) (QaM kj) ⟨rfl,(Puts.ext p11 (Ext.tr x9 e10) (qT x1.size l5))⟩)
end Go.Proofs.YtmljnchhgkfemaaDoor.Ae
end
section
namespace Go.Proofs.YtmljnchhgkfemaaDoor.Ae
open Go Go.RowKit
open Rely Auto Own Sha
open Sha Cha
def QdU (key nonce ctx text:List Int):List Int:=mixV (Qbb key nonce) 1 text++QcV key nonce ctx (mixV (Qbb key nonce) 1 text)
theorem QdT (key nonce ctx text:List Int):(QdU key nonce ctx text).length=text.length+16:=by unfold QdU; rw [List.length_append,Qcg,Qbn]
theorem QmB (xs ys:List Int) (v v2:Value) (B B2:Nat) (w:World) (e:xs=ys) (hx:RdK .u8 B xs v w) (hy:RdK .u8 B2 ys v2 w) (hxb:Qag xs) (hyb:Qag ys) (hl:ys.length=xs.length) (hxl:xs.length≤2000000):Calls Tryd.prog 33 #[v,v2] w (Ret w (.bool true)):=by
  have h:=QnK xs ys v v2 B B2 w hx hy hxb hyb hl hxl
  rw [decide_eq_true e] at h
  exact h
theorem Qon (xs ys:List Int) (v v2:Value) (B B2:Nat) (w:World) (e:xs≠ys) (hx:RdK .u8 B xs v w) (hy:RdK .u8 B2 ys v2 w) (hxb:Qag xs) (hyb:Qag ys) (hl:ys.length=xs.length) (hxl:xs.length≤2000000):Calls Tryd.prog 33 #[v,v2] w (Ret w (.bool false)):=by
  have h:=QnK xs ys v v2 B B2 w hx hy hxb hyb hl hxl
  rw [decide_eq_false e] at h
  exact h
theorem Qe9 (key nonce ctx mixed:List Int):Qag (QcV key nonce ctx mixed):=QkB _
theorem QfQ (key nonce ctx text:List Int):Qag (QdU key nonce ctx text):=bytes_app (QgA _ _ _) (Qe9 _ _ _ _)
theorem MixE (key nonce text fm:List Int) (v v2:Value) (B B2:Nat) (th tq:TypeId) (w:World) (hh:w.heap[2]? = some (.cells (ints .u32 qH) th)) (hq:w.heap[3]? = some (.cells (ints .i64 qQ) tq)) (hkl:key.length=32) (hn:RdK .u8 B nonce v w) (ht:RdK .u8 B2 text v2 w) (h:nonce.length=12) (hl:text.length≤2000000) (em:mixV (Qbb key nonce) 1 text=fm) :
    Calls Tryd.prog 30 #[.agg (ints .u8 key),v,.int .i64 1,v2] w (QcB w (MixR w.heap.size fm)):=by
  subst em
  exact MixG w.heap.size key nonce text v v2 B B2 1 th tq w hh hq hkl hn ht h 4294967295 (by decide) (by decide) (by decide) (by omega) hl (qR _)
set_option maxRecDepth 100000 in
theorem Qqe (key nonce ctx text:List Int) (v v2 v3:Value) (B B2 B3:Nat) (th tq:TypeId) (w:World) (hh:w.heap[2]? = some (.cells (ints .u32 qH) th)) (hq:w.heap[3]? = some (.cells (ints .i64 qQ) tq)) (hkl:key.length=32) (hn:RdK .u8 B nonce v w) (hc:RdK .u8 B2 ctx v2 w) (ht:RdK .u8 B3 text v3 w) (hcb:Qag ctx) (h:nonce.length=12) (hcl:ctx.length≤1048576) (hxl:text.length≤1048576) :
    Calls Tryd.prog 15 #[.agg (ints .u8 key),v,v2,v3] w (QcB w (MixR w.heap.size (QdU key nonce ctx text))):=by
  obtain ⟨a_n,c_n,rfl,-⟩:=id hn
  obtain ⟨a_c,c_c,rfl,-⟩:=id hc
  obtain ⟨a_t,c_t,rfl,-⟩:=id ht
  obtain ⟨fm,em⟩:∃ z:List Int,mixV (Qbb key nonce) 1 text=z:=⟨_,rfl⟩
  have lfm:fm.length=text.length:=by rw [←em,Qcg]
  have hfb:Qag fm:=by rw [←em]; exact QgA _ _ _
  refine enter 51 [(0,.agg (ints .u8 (key))),(1,.slice a_n nonce.length c_n),(2,.slice a_c ctx.length c_c),(3,.slice a_t text.length c_t)] Tryd.func15 rfl rfl kj rfl <| sgC fun K3 hK3=>Qaj (ints .u8 (key)) 23 4 rfl kj kj fun g4 W1 l4 e1 r4_1=>?_
  have x1:=Ext.tr (Rely.Ext.refl w) e1
  have b4:=qT (Rely.Ext.refl w).size l4
  refine sg 2 kj <| sgN hK3 <| wp_seq_k fun K5 hK5=>sgC fun K6 hK6=>sg 2 kj <| Qad (.bool false) 15 rfl kj (Qal (u:=.bool ((((nonce.length:Nat):Int) != 12))) kj (congrArg Value.bool (by rw [h]; rfl))) ?_
  refine sg 3 kj <| Qad (.bool false) 19 rfl kj (Qal (u:=.bool (decide (((ctx.length:Nat):Int)>1048576))) kj (congrArg Value.bool (decide_eq_false (by omega)))) <| sg 4 kj <| Qad (.bool false) 24 rfl kj (Qal (u:=.bool (decide (((text.length:Nat):Int)>1048576))) kj (congrArg Value.bool (decide_eq_false (by omega)))) <| sg 1 kj <| sgN hK6 <| cond_false kj <| wp_skip <| hK5 _ _ <| sgC fun K7 hK7=>?_
  refine Qad (.agg (ints .u8 (key))) 28 rfl kj (Qae 23 _ g4 23 _ _ r4_1 rfl kj kj (isz (n:=32) kj ((Qac _ _).trans hkl))) <| sg 2 kj ?_
  have r2_1:=(Qaa hh e1)
  have r1_1:=(Qaa hq e1)
  refine QaA (fun v W'=>(MixR W1.heap.size (fm)) v W'∧Ext W1 W') 30 #[.agg (ints .u8 (key)),.slice a_n nonce.length c_n,.int .i64 1,.slice a_t text.length c_t] 31 rfl kj kj ((MixE key nonce (text) (fm) _ _ _ _ th tq _ r2_1 r1_1 hkl (RdK.ext hn x1) (RdK.ext ht x1) h (by omega) em).mono (by rintro e w' ⟨v,rfl,e1,hv⟩; exact ⟨v,rfl,hv,e1⟩)) fun vv8 W2 hh8=>?_
  obtain ⟨hv8,e2⟩:=hh8
  have x2:=Ext.tr x1 e2
  obtain ⟨u31_,rfl,hu31_⟩:=hv8
  obtain ⟨a31_,c31_,rfl,-⟩:=id (OwnN.rd hu31_)
  refine sg 5 kj <| sgN hK7 <| wp_seq_k fun K9 hK9=>sgB kj <| cond_false kj <| wp_skip <| hK9 _ _ <| sgC fun K11 hK11=>Qad (.agg (ints .u8 (key))) 38 rfl kj (Qae 23 _ g4 23 _ _ (Qaa r4_1 e2) rfl kj kj (isz (n:=32) kj ((Qac _ _).trans hkl))) <| sg 3 kj ?_
  refine Qao (.tuple #[.agg (ints .u8 (QcV key nonce ctx fm)),.nilIface]) 31 #[.agg (ints .u8 (key)),.slice a_n nonce.length c_n,.slice a_c ctx.length c_c,.slice a31_ ((fm).length) c31_] 42 rfl kj kj ((QiW key nonce ctx fm _ _ _ _ _ _ th tq _ (Qaa r2_1 e2) (Qaa r1_1 e2) hkl (RdK.ext hn x2) (RdK.ext hc x2) (OwnN.rd hu31_) h hcb hfb (by omega) (by omega))) fun W3 e3=>?_
  have x3:=Ext.tr x2 e3
  refine sg 3 kj <| Qaj (ints .u8 (List.replicate 16 0)) 66 12 rfl kj kj fun g12 W4 l12 e4 r12_4=>Qah g12 _ (ints .u8 (QcV key nonce ctx fm)) 66 r12_4 rfl kj (Qaf 66 _ _ g12 66 _ _ r12_4 rfl kj kj (isz (n:=16) kj ((Qac _ _).trans (Qbn _ _ _ _))) (eqsz (n:=16) ((Qac _ _).trans (qZ (n:=16))) ((Qac _ _).trans (Qbn _ _ _ _))) (ints_one _ _)) fun W5 p5 r12_5=>sg 1 kj <| sgN hK11 <| wp_seq_k fun K13 hK13=>sgB kj <| cond_false kj <| wp_skip <| hK13 _ _ ?_
  refine sgC fun K15 hK15=>sg 2 kj ?_
  have f16_3:=(hu31_.ext e3)
  have y1_3:=(Rely.Ext.trans (Rely.Ext.trans (Rely.Ext.refl W1) e2) e3)
  refine QbO (k:=.u8) (T:=5) (xs:=fm) (ys:=QcV key nonce ctx fm) (V:=W1) 1 (.tmp 48) (.tmp 49) 24 rfl kj kj (by decide) 50 rfl kj kj kj ((f16_3.ext e4).puts p5 (QpE f16_3 l12)) (QbB (xs:=QcV key nonce ctx fm) (n:=16) (Qbn _ _ _ _) r12_5 (Qa4 r12_5) (show 16≤maxLen from by decide)) (by rw [Qbn]; omega) (Puts.ext p5 (Rely.Ext.trans y1_3 e4) (qT y1_3.size l12)) fun zs W6 f19 y6 l6=>?_
  refine sg 2 kj <| sgN hK15 <| wp_ret ?_
  repeat (first | with_reducible refine goR1 ?_ | with_reducible refine goR2 ?_)
  exact (show bodyPost _ _ _ .ret _ _ from ret2 (zs) (.nilIface) rfl (QaM kj) (QaM kj) ⟨_,rfl,(Ext.low (Puts.ext p5 (Ext.tr x3 e4) (qT x3.size l12)) l6 x1.size),zs,rfl,by unfold QdU; rw [em]; exact OwnN.base x1.size f19⟩)
end Go.Proofs.YtmljnchhgkfemaaDoor.Ae
end
section
namespace Go.Proofs.YtmljnchhgkfemaaDoor.Ae
open Go Go.RowKit
open Rely Auto Own Sha
open Sha Cha
theorem QeM (n : Nat) (h:16≤n) (hm:n≤maxLen):IntKind.i64.wrap (((n:Nat):Int)-16)=((n-16:Nat):Int):=by
  rw [show ((n:Nat):Int)-16=((n-16:Nat):Int) by omega]
  exact IntWalk.i64_in _ (by rw [maxLen] at hm; omega)
set_option maxRecDepth 100000 in
theorem Qqh (key nonce ctx sl:List Int) (v v2 v3:Value) (B B2 B3:Nat) (th tq:TypeId) (w:World) (hh:w.heap[2]? = some (.cells (ints .u32 qH) th)) (hq:w.heap[3]? = some (.cells (ints .i64 qQ) tq)) (hkl:key.length=32) (hn:RdK .u8 B nonce v w) (hc:RdK .u8 B2 ctx v2 w) (ht:RdK .u8 B3 sl v3 w) (hcb:Qag ctx) (htb:Qag sl) (h:nonce.length=12) (hcl:ctx.length≤1048592) (hxl:sl.length≤1048592) (hsh:16≤sl.length) (hne:QcV key nonce ctx (sl.take (sl.length-16))≠sl.drop (sl.length-16)) :
    Calls Tryd.prog 17 #[.agg (ints .u8 key),v,v2,v3] w (Ret w (.tuple #[.slice none 0 0,.iface 40 (.int .i64 2)])):=by
  obtain ⟨a_n,c_n,rfl,-⟩:=id hn
  obtain ⟨a_c,c_c,rfl,-⟩:=id hc
  obtain ⟨a_t,c_t,rfl,-⟩:=id ht
  have ctk:sl.length≤c_t:=by
    obtain ⟨_,_,e,q2,_⟩:=id ht
    simp only [Value.slice.injEq] at e
    obtain ⟨-,-,rfl⟩:=e
    exact q2
  have htm:sl.length≤maxLen:=RdK.len ht
  have hlt_:(sl.take (sl.length-16)).length=sl.length-16:=by rw [List.length_take]; omega
  refine enter 64 [(0,.agg (ints .u8 (key))),(1,.slice a_n nonce.length c_n),(2,.slice a_c ctx.length c_c),(3,.slice a_t sl.length c_t)] Tryd.func17 rfl rfl kj rfl <| sgC fun K3 hK3=>Qaj (ints .u8 (key)) 23 4 rfl kj kj fun g4 W1 l4 e1 r4_1=>?_
  have b4:=qT (Rely.Ext.refl w).size l4
  refine sg 2 kj <| sgN hK3 <| wp_seq_k fun K5 hK5=>sgC fun K6 hK6=>sg 2 kj <| Qad (.bool false) 16 rfl kj (Qal (u:=.bool ((((nonce.length:Nat):Int) != 12))) kj (congrArg Value.bool (by rw [h]; rfl))) ?_
  refine sg 3 kj <| Qad (.bool false) 20 rfl kj (Qal (u:=.bool (decide (((ctx.length:Nat):Int)>1048592))) kj (congrArg Value.bool (decide_eq_false (by omega)))) <| sg 4 kj <| Qad (.bool false) 25 rfl kj (Qal (u:=.bool (decide (((sl.length:Nat):Int)>1048592))) kj (congrArg Value.bool (decide_eq_false (by omega)))) <| sg 1 kj <| sgN hK6 <| cond_false kj <| wp_skip <| hK5 _ _ <| wp_seq_k fun K7 hK7=>?_
  refine sgC fun K8 hK8=>sg 2 kj <| Qad (.bool false) 30 rfl kj (Qal (u:=.bool (decide (((sl.length:Nat):Int)<16))) kj (congrArg Value.bool (decide_eq_false (by omega)))) <| sgN hK8 <| cond_false kj <| wp_skip <| hK7 _ _ <| wp_seq_k fun K9 hK9=>Qbf 11 [⟨none,[(3,none)]⟩,⟨none,[(3,none)]⟩,⟨none,[(33,some 1)]⟩,⟨none,[(34,some 2)]⟩,⟨none,[(32,some 0),(35,some 3)]⟩,⟨none,[(3,none)]⟩,⟨none,[(3,none)]⟩,⟨none,[(38,some 6)]⟩,⟨none,[(39,some 7)]⟩,⟨none,[(37,some 5),(40,some 8)]⟩,⟨none,[(36,some 4)]⟩] kj kj fun F hF=>QaL (Qaq _) (.slice a_t sl.length c_t) kj kj (fun W=>by kernel_rfl) ?_
  refine QaL (Qaq _) (.slice a_t sl.length c_t) kj kj (fun W=>by kernel_rfl) <| QaL (Qaq _) (.int .i64 ((sl.length:Nat):Int)) kj kj (fun W=>by kernel_rfl) <| QaL (Qaq _) (.int .i64 (((sl.length-16:Nat):Int))) kj kj (fun W=>(Qal (u:=.int .i64 (IntKind.i64.wrap (((sl.length:Nat):Int)-16))) kj (congrArg (Value.int .i64) (QeM _ hsh htm)))) <| QaL (Qaq _) (.slice a_t (sl.length-16) c_t) kj kj (fun W=>(Qg1 (len:=sl.length) 24 _ _ (sl.length-16) 5 rfl kj kj kj .i64 kj (qT (Nat.sub_le _ _) ctk))) <| QaL (Qaq _) (.slice a_t sl.length c_t) kj kj (fun W=>by kernel_rfl) <| QaL (Qaq _) (.slice a_t sl.length c_t) kj kj (fun W=>by kernel_rfl) <| QaL (Qaq _) (.int .i64 ((sl.length:Nat):Int)) kj kj (fun W=>by kernel_rfl) <| QaL (Qaq _) (.int .i64 (((sl.length-16:Nat):Int))) kj kj (fun W=>(Qal (u:=.int .i64 (IntKind.i64.wrap (((sl.length:Nat):Int)-16))) kj (congrArg (Value.int .i64) (QeM _ hsh htm)))) <| QaL (Qaq _) (.slice (restA a_t c_t (sl.length-16)) (sl.length-(sl.length-16)) (c_t-(sl.length-16))) kj kj (fun W=>(Qem 24 _ _ (sl.length-16) 5 rfl kj kj kj .i64 kj (Nat.sub_le _ _) ctk)) <| QaL (Qaq _) (.slice a_t (sl.length-16) c_t) kj kj (fun W=>by kernel_rfl) ?_
  refine QdN (hF _ fun W2 e2=>?_)
  simp only [List.nil_append,List.cons_append,List.take_succ_cons,List.take_zero,List.drop_succ_cons,List.drop_zero,finE,up]
  clear hF
  have x2:=Ext.tr (Ext.tr (Rely.Ext.refl w) e1) e2
  refine sg 1 kj <| sgN hK9 <| sgC fun K10 hK10=>Qad (.agg (ints .u8 (key))) 43 rfl kj (Qae 23 _ g4 23 _ _ (Qaa r4_1 e2) rfl kj kj (isz (n:=32) kj ((Qac _ _).trans hkl))) <| sg 3 kj <| Qao (.tuple #[.agg (ints .u8 (QcV key nonce ctx (sl.take (sl.length-16)))),.nilIface]) 31 #[.agg (ints .u8 (key)),.slice a_n nonce.length c_n,.slice a_c ctx.length c_c,.slice a_t (sl.length-16) c_t] 47 rfl kj kj ((QiW key nonce ctx (sl.take (sl.length-16)) _ _ _ _ _ _ th tq _ (Qaa (Qaa hh e1) e2) (Qaa (Qaa hq e1) e2) hkl (RdK.ext hn x2) (RdK.ext hc x2) (Qhb (RdK.ext ht x2) (sl.length-16) (Nat.sub_le _ _)) h hcb (Qbd htb _) (by omega) (by omega))) fun W3 e3=>?_
  have x3:=Ext.tr x2 e3
  refine sg 3 kj <| Qaj (ints .u8 (List.replicate 16 0)) 66 12 rfl kj kj fun g11 W4 l11 e4 r11_4=>Qah g11 _ (ints .u8 (QcV key nonce ctx (sl.take (sl.length-16)))) 66 r11_4 rfl kj (Qaf 66 _ _ g11 66 _ _ r11_4 rfl kj kj (isz (n:=16) kj ((Qac _ _).trans (Qbn _ _ _ _))) (eqsz (n:=16) ((Qac _ _).trans (qZ (n:=16))) ((Qac _ _).trans (Qbn _ _ _ _))) (ints_one _ _)) fun W5 p5 r11_5=>?_
  have x5:=Puts.ext p5 (Ext.tr x3 e4) (qT x3.size l11)
  refine sg 1 kj <| sgN hK10 <| wp_seq_k fun K12 hK12=>sgB kj <| cond_false kj <| wp_skip <| hK12 _ _ <| wp_seq_k fun K14 hK14=>sgC fun K15 hK15=>sg 2 kj ?_
  refine Qao (.bool false) 33 #[.slice (some ⟨g11,0,none⟩) 16 16,.slice (restA a_t c_t (sl.length-16)) (sl.length-(sl.length-16)) (c_t-(sl.length-16))] 55 rfl kj kj ((Qon (QcV key nonce ctx (sl.take (sl.length-16))) (sl.drop (sl.length-16)) _ _ W5.heap.size _ W5 hne (QbB (xs:=QcV key nonce ctx (sl.take (sl.length-16))) (n:=16) (Qbn _ _ _ _) r11_5 (Qa4 r11_5) (show 16≤maxLen from by decide)) (Qf7 (RdK.ext ht x5) (sl.length-16) (Nat.sub_le _ _)) (Qe9 _ _ _ _) (Qb9 htb _) (by rw [List.length_drop,Qbn]; omega) (by rw [Qbn]; decide))) fun W6 e6=>?_
  refine sg 1 kj <| sgN hK15 <| cond_true kj <| sgB kj <| wp_ret ?_
  repeat (first | with_reducible refine goR1 ?_ | with_reducible refine goR2 ?_)
  exact (show bodyPost _ _ _ .ret _ _ from ret2 (.slice none 0 0) (.iface 40 (.int .i64 2)) rfl (QaM kj) (QaM kj) ⟨rfl,(Ext.tr x5 e6)⟩)
set_option maxRecDepth 100000 in
theorem Qqi (key nonce ctx sl:List Int) (v v2 v3:Value) (B B2 B3:Nat) (th tq:TypeId) (w:World) (hh:w.heap[2]? = some (.cells (ints .u32 qH) th)) (hq:w.heap[3]? = some (.cells (ints .i64 qQ) tq)) (hkl:key.length=32) (hn:RdK .u8 B nonce v w) (hc:RdK .u8 B2 ctx v2 w) (ht:RdK .u8 B3 sl v3 w) (hcb:Qag ctx) (htb:Qag sl) (h:nonce.length=12) (hcl:ctx.length≤1048592) (hxl:sl.length≤1048592) (hsh:16≤sl.length) (hne:QcV key nonce ctx (sl.take (sl.length-16))=sl.drop (sl.length-16)) :
    Calls Tryd.prog 17 #[.agg (ints .u8 key),v,v2,v3] w (QcB w (MixR w.heap.size (mixV (Qbb key nonce) 1 (sl.take (sl.length-16))))):=by
  obtain ⟨a_n,c_n,rfl,-⟩:=id hn
  obtain ⟨a_c,c_c,rfl,-⟩:=id hc
  obtain ⟨a_t,c_t,rfl,-⟩:=id ht
  have ctk:sl.length≤c_t:=by
    obtain ⟨_,_,e,q2,_⟩:=id ht
    simp only [Value.slice.injEq] at e
    obtain ⟨-,-,rfl⟩:=e
    exact q2
  have htm:sl.length≤maxLen:=RdK.len ht
  have hlt_:(sl.take (sl.length-16)).length=sl.length-16:=by rw [List.length_take]; omega
  obtain ⟨fm,em⟩:∃ z:List Int,mixV (Qbb key nonce) 1 (sl.take (sl.length-16))=z:=⟨_,rfl⟩
  refine enter 64 [(0,.agg (ints .u8 (key))),(1,.slice a_n nonce.length c_n),(2,.slice a_c ctx.length c_c),(3,.slice a_t sl.length c_t)] Tryd.func17 rfl rfl kj rfl <| sgC fun K3 hK3=>Qaj (ints .u8 (key)) 23 4 rfl kj kj fun g4 W1 l4 e1 r4_1=>?_
  have b4:=qT (Rely.Ext.refl w).size l4
  refine sg 2 kj <| sgN hK3 <| wp_seq_k fun K5 hK5=>sgC fun K6 hK6=>sg 2 kj <| Qad (.bool false) 16 rfl kj (Qal (u:=.bool ((((nonce.length:Nat):Int) != 12))) kj (congrArg Value.bool (by rw [h]; rfl))) ?_
  refine sg 3 kj <| Qad (.bool false) 20 rfl kj (Qal (u:=.bool (decide (((ctx.length:Nat):Int)>1048592))) kj (congrArg Value.bool (decide_eq_false (by omega)))) <| sg 4 kj <| Qad (.bool false) 25 rfl kj (Qal (u:=.bool (decide (((sl.length:Nat):Int)>1048592))) kj (congrArg Value.bool (decide_eq_false (by omega)))) <| sg 1 kj <| sgN hK6 <| cond_false kj <| wp_skip <| hK5 _ _ <| wp_seq_k fun K7 hK7=>?_
  refine sgC fun K8 hK8=>sg 2 kj <| Qad (.bool false) 30 rfl kj (Qal (u:=.bool (decide (((sl.length:Nat):Int)<16))) kj (congrArg Value.bool (decide_eq_false (by omega)))) <| sgN hK8 <| cond_false kj <| wp_skip <| hK7 _ _ <| wp_seq_k fun K9 hK9=>Qbf 11 [⟨none,[(3,none)]⟩,⟨none,[(3,none)]⟩,⟨none,[(33,some 1)]⟩,⟨none,[(34,some 2)]⟩,⟨none,[(32,some 0),(35,some 3)]⟩,⟨none,[(3,none)]⟩,⟨none,[(3,none)]⟩,⟨none,[(38,some 6)]⟩,⟨none,[(39,some 7)]⟩,⟨none,[(37,some 5),(40,some 8)]⟩,⟨none,[(36,some 4)]⟩] kj kj fun F hF=>QaL (Qaq _) (.slice a_t sl.length c_t) kj kj (fun W=>by kernel_rfl) ?_
  refine QaL (Qaq _) (.slice a_t sl.length c_t) kj kj (fun W=>by kernel_rfl) <| QaL (Qaq _) (.int .i64 ((sl.length:Nat):Int)) kj kj (fun W=>by kernel_rfl) <| QaL (Qaq _) (.int .i64 (((sl.length-16:Nat):Int))) kj kj (fun W=>(Qal (u:=.int .i64 (IntKind.i64.wrap (((sl.length:Nat):Int)-16))) kj (congrArg (Value.int .i64) (QeM _ hsh htm)))) <| QaL (Qaq _) (.slice a_t (sl.length-16) c_t) kj kj (fun W=>(Qg1 (len:=sl.length) 24 _ _ (sl.length-16) 5 rfl kj kj kj .i64 kj (qT (Nat.sub_le _ _) ctk))) <| QaL (Qaq _) (.slice a_t sl.length c_t) kj kj (fun W=>by kernel_rfl) <| QaL (Qaq _) (.slice a_t sl.length c_t) kj kj (fun W=>by kernel_rfl) <| QaL (Qaq _) (.int .i64 ((sl.length:Nat):Int)) kj kj (fun W=>by kernel_rfl) <| QaL (Qaq _) (.int .i64 (((sl.length-16:Nat):Int))) kj kj (fun W=>(Qal (u:=.int .i64 (IntKind.i64.wrap (((sl.length:Nat):Int)-16))) kj (congrArg (Value.int .i64) (QeM _ hsh htm)))) <| QaL (Qaq _) (.slice (restA a_t c_t (sl.length-16)) (sl.length-(sl.length-16)) (c_t-(sl.length-16))) kj kj (fun W=>(Qem 24 _ _ (sl.length-16) 5 rfl kj kj kj .i64 kj (Nat.sub_le _ _) ctk)) <| QaL (Qaq _) (.slice a_t (sl.length-16) c_t) kj kj (fun W=>by kernel_rfl) ?_
  refine QdN (hF _ fun W2 e2=>?_)
  simp only [List.nil_append,List.cons_append,List.take_succ_cons,List.take_zero,List.drop_succ_cons,List.drop_zero,finE,up]
  clear hF
  have x2:=Ext.tr (Ext.tr (Rely.Ext.refl w) e1) e2
  refine sg 1 kj <| sgN hK9 <| sgC fun K10 hK10=>?_
  have r4_2:=(Qaa r4_1 e2)
  refine Qad (.agg (ints .u8 (key))) 43 rfl kj (Qae 23 _ g4 23 _ _ r4_2 rfl kj kj (isz (n:=32) kj ((Qac _ _).trans hkl))) <| sg 3 kj ?_
  have r2_2:=(Qaa (Qaa hh e1) e2)
  have r1_2:=(Qaa (Qaa hq e1) e2)
  refine Qao (.tuple #[.agg (ints .u8 (QcV key nonce ctx (sl.take (sl.length-16)))),.nilIface]) 31 #[.agg (ints .u8 (key)),.slice a_n nonce.length c_n,.slice a_c ctx.length c_c,.slice a_t (sl.length-16) c_t] 47 rfl kj kj ((QiW key nonce ctx (sl.take (sl.length-16)) _ _ _ _ _ _ th tq _ r2_2 r1_2 hkl (RdK.ext hn x2) (RdK.ext hc x2) (Qhb (RdK.ext ht x2) (sl.length-16) (Nat.sub_le _ _)) h hcb (Qbd htb _) (by omega) (by omega))) fun W3 e3=>?_
  have x3:=Ext.tr x2 e3
  refine sg 3 kj <| Qaj (ints .u8 (List.replicate 16 0)) 66 12 rfl kj kj fun g11 W4 l11 e4 r11_4=>Qah g11 _ (ints .u8 (QcV key nonce ctx (sl.take (sl.length-16)))) 66 r11_4 rfl kj (Qaf 66 _ _ g11 66 _ _ r11_4 rfl kj kj (isz (n:=16) kj ((Qac _ _).trans (Qbn _ _ _ _))) (eqsz (n:=16) ((Qac _ _).trans (qZ (n:=16))) ((Qac _ _).trans (Qbn _ _ _ _))) (ints_one _ _)) fun W5 p5 r11_5=>?_
  have x5:=Puts.ext p5 (Ext.tr x3 e4) (qT x3.size l11)
  refine sg 1 kj <| sgN hK10 <| wp_seq_k fun K12 hK12=>sgB kj <| cond_false kj <| wp_skip <| hK12 _ _ <| wp_seq_k fun K14 hK14=>sgC fun K15 hK15=>sg 2 kj ?_
  refine Qao (.bool true) 33 #[.slice (some ⟨g11,0,none⟩) 16 16,.slice (restA a_t c_t (sl.length-16)) (sl.length-(sl.length-16)) (c_t-(sl.length-16))] 55 rfl kj kj ((QmB (QcV key nonce ctx (sl.take (sl.length-16))) (sl.drop (sl.length-16)) _ _ W5.heap.size _ W5 hne (QbB (xs:=QcV key nonce ctx (sl.take (sl.length-16))) (n:=16) (Qbn _ _ _ _) r11_5 (Qa4 r11_5) (show 16≤maxLen from by decide)) (Qf7 (RdK.ext ht x5) (sl.length-16) (Nat.sub_le _ _)) (Qe9 _ _ _ _) (Qb9 htb _) (by rw [List.length_drop,Qbn]; omega) (by rw [Qbn]; decide))) fun W6 e6=>?_
  have x6:=Ext.tr x5 e6
  refine sg 1 kj <| sgN hK15 <| cond_false kj <| wp_skip <| hK14 _ _ <| sgC fun K16 hK16=>?_
  have r4_3:=(Qaa r4_2 e3)
  refine Qad (.agg (ints .u8 (key))) 58 rfl kj (Qae 23 _ g4 23 _ _ (Qaa (Puts.row p5 (Qaa r4_3 e4) (Qab r4_3 l11)) e6) rfl kj kj (isz (n:=32) kj ((Qac _ _).trans hkl))) <| sg 2 kj ?_
  have r2_3:=(Qaa r2_2 e3)
  have r1_3:=(Qaa r1_2 e3)
  refine QaA (fun v W'=>(MixR W6.heap.size (fm)) v W'∧Ext W6 W') 30 #[.agg (ints .u8 (key)),.slice a_n nonce.length c_n,.int .i64 1,.slice a_t (sl.length-16) c_t] 61 rfl kj kj ((MixE key nonce (sl.take (sl.length-16)) (fm) _ _ _ _ th tq _ (Qaa (Puts.row p5 (Qaa r2_3 e4) (Qab r2_3 l11)) e6) (Qaa (Puts.row p5 (Qaa r1_3 e4) (Qab r1_3 l11)) e6) hkl (RdK.ext hn x6) (Qhb (RdK.ext ht x6) (sl.length-16) (Nat.sub_le _ _)) h (by omega) em).mono (by rintro e w' ⟨v,rfl,e1,hv⟩; exact ⟨v,rfl,hv,e1⟩)) fun vv17 W7 hh17=>?_
  obtain ⟨hv17,e7⟩:=hh17
  obtain ⟨u61_,rfl,hu61_⟩:=hv17
  refine sg 4 kj <| sgN hK16 <| wp_ret ?_
  repeat (first | with_reducible refine goR1 ?_ | with_reducible refine goR2 ?_)
  exact (show bodyPost _ _ _ .ret _ _ from ret2 (u61_) (.nilIface) rfl (QaM kj) (QaM kj) ⟨_,rfl,(Ext.tr x6 e7),u61_,rfl,by rw [em]; exact OwnN.base x6.size hu61_⟩)
end Go.Proofs.YtmljnchhgkfemaaDoor.Ae
end
section
namespace Go.Proofs.YtmljnchhgkfemaaDoor.Ae
open Go Go.RowKit
open Rely Auto Own Sha
open Sha Cha
theorem QoL (n0 n:Nat) (w:World) (hn0:n0≤w.heap.size):Calls Tryd.prog 32 #[.int .i64 ((n:Nat):Int)] w (QcB w (OwnN .u8 5 n0 (by8 ((n:Nat):Int)))) :=
  (QiZ n w).mono fun e W' hg=>by
    obtain ⟨v',e1,e2,e3⟩:=hg
    exact ⟨v',e1,e2,e3.base hn0⟩
theorem QpD (n : Nat) (w:World):Calls Tryd.prog 16 #[.int .i64 ((n:Nat):Int)] w (QcB w (OwnN .u8 5 w.heap.size ([0,0,0,0]++by8 ((n:Nat):Int)))):=by
  refine enter 7 [(0,.int .i64 ((n:Nat):Int))] Tryd.func16 rfl rfl kj rfl <| sgB kj <| wp_seq_k fun K2 hK2=>Qbf 3 [⟨none,[]⟩,⟨none,[(0,none)]⟩,⟨none,[(4,some 1)]⟩] kj kj fun F hF=>QnW (Qaq _) (ints .u8 ([0,0,0,0])) 5 4 (NewS.stable _ _ _ _) kj kj (fun W=>by kernel_rfl) <| QaL (Qaq _) (.int .i64 ((n:Nat):Int)) kj kj (fun W=>by kernel_rfl) <| Qfi (Qaq _) (OwnN .u8 5 w.heap.size (by8 ((n:Nat):Int))) (OwnN.stable _ _ _ _) 32 #[.int .i64 ((n:Nat):Int)] kj kj (fun W=>by kernel_rfl) (fun W hR=>(QoL w.heap.size n _ (Rely.Ext.trans (Qai _) hR).size)) <| QdN (hF _ fun W1 e1=>?_)
  simp only [List.nil_append,List.cons_append,List.take_succ_cons,List.take_zero,List.drop_succ_cons,List.drop_zero,finE,up]
  intro vv3 hv3 vv4 hv4
  clear hF
  obtain ⟨g3,rfl,l3,r3_1⟩:=hv3
  have b3:=qT (Rely.Ext.refl w).size l3
  obtain ⟨a5_,c5_,rfl,-⟩:=id (OwnN.rd hv4)
  refine QbO (k:=.u8) (T:=5) (xs:=[0,0,0,0]) (ys:=by8 ((n:Nat):Int)) (V:=w) 1 (.tmp 3) (.tmp 5) 24 rfl kj kj (by decide) 6 rfl kj kj kj (Qdy (xs:=[0,0,0,0]) rfl l3 r3_1 (by decide)) (OwnN.rd hv4) (by rw [Qd1]; decide) (Rely.Ext.trans (Rely.Ext.refl w) e1) fun zn W2 f5 y2 l2=>?_
  refine sg 1 kj <| sgN hK2 <| wp_ret ?_
  repeat (first | with_reducible refine goR1 ?_ | with_reducible refine goR2 ?_)
  exact (show bodyPost _ _ _ .ret _ _ from ret1 (zn) rfl (QaM kj) ⟨zn,rfl,(Ext.low (Ext.tr (Rely.Ext.refl w) e1) l2 (Rely.Ext.refl w).size),OwnN.base (qR _) f5⟩)
theorem QqC (w : World):Calls Tryd.prog 18 #[.iface 40 (.int .i64 2)] w (Ret w (.int .i64 2)):=by
  refine enter 19 [(0,.iface 40 (.int .i64 2))] Tryd.func18 rfl rfl kj rfl <| sgB kj <| wp_seq_k fun K2 hK2=>sgB kj <| cond_false kj <| wp_skip <| hK2 _ _ <| sgB kj <| wp_seq_k fun K5 hK5=>sgB kj ?_
  refine cond_false kj <| wp_skip <| hK5 _ _ <| sgB kj <| wp_ret ?_
  repeat (first | with_reducible refine goR1 ?_ | with_reducible refine goR2 ?_)
  exact (show bodyPost _ _ _ .ret _ _ from ret1 (.int .i64 2) rfl (QaM kj) ⟨rfl,(Rely.Ext.refl w)⟩)
theorem QqD (w : World):Calls Tryd.prog 18 #[.iface 40 (.int .i64 1)] w (Ret w (.int .i64 1)):=by
  refine enter 19 [(0,.iface 40 (.int .i64 1))] Tryd.func18 rfl rfl kj rfl <| sgB kj <| wp_seq_k fun K2 hK2=>sgB kj <| cond_false kj <| wp_skip <| hK2 _ _ <| sgB kj <| wp_seq_k fun K5 hK5=>sgB kj ?_
  refine cond_false kj <| wp_skip <| hK5 _ _ <| sgB kj <| wp_ret ?_
  repeat (first | with_reducible refine goR1 ?_ | with_reducible refine goR2 ?_)
  exact (show bodyPost _ _ _ .ret _ _ from ret1 (.int .i64 1) rfl (QaM kj) ⟨rfl,(Rely.Ext.refl w)⟩)
theorem is2 (w : World):Calls Tryd.prog 10 #[.iface 40 (.int .i64 2),.int .i64 2] w (Ret w (.bool true)):=by
  refine enter 9 [(0,.iface 40 (.int .i64 2)),(1,.int .i64 2)] Tryd.func10 rfl rfl kj rfl <| sgB kj <| sgC fun K2 hK2=>sg 1 kj <| Qao (.int .i64 2) 18 #[.iface 40 (.int .i64 2)] 6 rfl kj kj ((QqC) _) fun W1 e1=>sg 3 kj <| sgN hK2 <| wp_ret ?_
  repeat (first | with_reducible refine goR1 ?_ | with_reducible refine goR2 ?_)
  exact (show bodyPost _ _ _ .ret _ _ from ret1 (.bool true) rfl (QaM kj) ⟨rfl,(Ext.tr (Rely.Ext.refl w) e1)⟩)
theorem is1 (w : World):Calls Tryd.prog 10 #[.iface 40 (.int .i64 1),.int .i64 1] w (Ret w (.bool true)):=by
  refine enter 9 [(0,.iface 40 (.int .i64 1)),(1,.int .i64 1)] Tryd.func10 rfl rfl kj rfl <| sgB kj <| sgC fun K2 hK2=>sg 1 kj <| Qao (.int .i64 1) 18 #[.iface 40 (.int .i64 1)] 6 rfl kj kj ((QqD) _) fun W1 e1=>sg 3 kj <| sgN hK2 <| wp_ret ?_
  repeat (first | with_reducible refine goR1 ?_ | with_reducible refine goR2 ?_)
  exact (show bodyPost _ _ _ .ret _ _ from ret1 (.bool true) rfl (QaM kj) ⟨rfl,(Ext.tr (Rely.Ext.refl w) e1)⟩)
theorem QfP (key nonce ctx text:List Int):(QdU key nonce ctx text).take ((QdU key nonce ctx text).length-16)=mixV (Qbb key nonce) 1 text:=by
  rw [QdT]; unfold QdU
  rw [List.take_append_of_le_length (by rw [Qcg]; omega),List.take_of_length_le (by rw [Qcg]; omega)]
theorem QhN (key nonce ctx text:List Int):(QdU key nonce ctx text).drop ((QdU key nonce ctx text).length-16)=QcV key nonce ctx (mixV (Qbb key nonce) 1 text):=by
  rw [QdT]; unfold QdU
  rw [List.drop_append_of_le_length (by rw [Qcg]; omega),List.drop_of_length_le (by rw [Qcg]; omega),List.nil_append]
theorem Qmz (key nonce ctx text:List Int) (v v2 v3:Value) (B B2 B3:Nat) (th tq:TypeId) (w:World) (hh:w.heap[2]? = some (.cells (ints .u32 qH) th)) (hq:w.heap[3]? = some (.cells (ints .i64 qQ) tq)) (hkl:key.length=32) (hn:RdK .u8 B nonce v w) (hc:RdK .u8 B2 ctx v2 w) (ht:RdK .u8 B3 (QdU key nonce ctx text) v3 w) (hcb:Qag ctx) (htb:Qag text) (h:nonce.length=12) (hcl:ctx.length≤1048576) (hxl:text.length≤1048576) :
    Calls Tryd.prog 17 #[.agg (ints .u8 key),v,v2,v3] w (QcB w (MixR w.heap.size text)):=by
  have h1:=Qqi key nonce ctx (QdU key nonce ctx text) v v2 v3 B B2 B3 th tq w hh hq hkl hn hc ht hcb (QfQ _ _ _ _) h (by omega) (by rw [QdT]; omega) (by rw [QdT]; omega) (by rw [QfP,QhN])
  rw [QfP,QoH _ _ _ htb] at h1
  exact h1
end Go.Proofs.YtmljnchhgkfemaaDoor.Ae
end
