/- Texts of this claim, joined (R2). -/
import Derived.Test.YtophlgnnjjkkiaaDoorZR1
import Derived.Laws.Externs
import Derived.Shelf.Spec.BitsCarry
import Derived.Shelf.Bits.Mul64
import Derived.Laws.Bits64b

set_option linter.unusedVariables false
set_option linter.unusedSimpArgs false
set_option maxHeartbeats 4000000
section
namespace Go.Proofs.YtophlgnnjjkkiaaDoor.Cha
open Go Go.RowKit
open Rely Auto Own Sha
open Sha
def pg (pre : List Nat) (j:Nat):Nat:=pre.getD j 0
theorem QlF (pre : List Nat) (x:Nat):pg (pre++[x]) pre.length=x:=by simp [pg]
theorem Qnu (pre : List Nat) (x j:Nat) (h:j<pre.length):pg (pre++[x]) j=pg pre j:=by
  unfold pg
  rw [List.getD_eq_getElem?_getD,List.getD_eq_getElem?_getD,List.getElem?_append_left h]
theorem Qk1 (k j:Nat) (h:j<k):pg (List.range k) j=j:=by
  unfold pg
  rw [List.getD_eq_getElem?_getD,List.getElem?_range h]; rfl
theorem Qic (text : List Int) (ws:List Wd) (num:Int) (f g:Nat→Nat) (n m:Nat) (h:∀ i,i<m→f (i/64)=g (i/64)):(mxv text ws num f n).take m=(mxv text ws num g n).take m:=by
  unfold mxv
  rw [←List.map_take,←List.map_take,List.take_range]
  refine List.map_congr_left fun i hi=>?_
  rw [List.mem_range] at hi
  rw [h i (by omega)]
theorem Qj3 (text : List Int) (ws:List Wd) (num:Int) (f:Nat→Nat) (n m:Nat) (h:m<n):nth (mxv text ws num f n) m=bits .xor .u8 (nth text m) (nth (Qbb ws (num+((f (m/64):Nat):Int))) (m%64)):=by
  rw [show nth (mxv text ws num f n) m=(mxv text ws num f n).getD m 0 from rfl]
  unfold mxv
  rw [List.getD_eq_getElem?_getD,List.getElem?_map,List.getElem?_range h]; rfl
theorem QlJ (text : List Int) (ws:List Wd) (num:Int) (pre:List Nat) (x n:Nat):Qby (mxv text ws num (pg pre) n) n (64*pre.length)=Qby (mxv text ws num (pg (pre++[x])) n) n (64*pre.length):=by
  unfold Qby
  rw [Qic text ws num (pg pre) (pg (pre++[x])) n _ fun i hi=>(Qnu pre x (i/64) (by omega)).symm]
theorem QmL (text : List Int) (ws:List Wd) (num:Int) (pre:List Nat) (x n j:Nat) (hj:j<64) (h:64*pre.length+j<n):nth (mxv text ws num (pg (pre++[x])) n) (64*pre.length+j)=bits .xor .u8 (nth text (64*pre.length+j)) (nth (Qbb ws (num+((x:Nat):Int))) j):=by
  rw [Qj3 _ _ _ _ _ _ h,show (64*pre.length+j)/64=pre.length by omega,show (64*pre.length+j)%64=j by omega,QlF]
theorem Qj4 (text : List Int) (ws:List Wd) (num:Int) (k:Nat) (h:text.length≤64*k):mxv text ws num (pg (List.range k)) text.length=mixV ws num text:=by
  have h2:=Qic text ws num (pg (List.range k)) id text.length text.length fun i hi=>Qk1 k (i/64) (by omega)
  rw [List.take_of_length_le (by rw [QdI]; omega),List.take_of_length_le (by rw [QdI]; omega)] at h2
  exact h2
theorem QbZ (ws : List Wd) (num:Int) (text:List Int):(mixV ws num text).length=text.length:=QdI _ _ _ _ _
set_option maxRecDepth 100000 in
theorem Qn3 (key nonce text:List Int) (v v2:Value) (B B2:Nat) (number:Int) (th tq:TypeId) (w:World) (hh:w.heap[2]? = some (.cells (ints .u32 [1634760805,857760878,2036477234,1797285236]) th)) (hq:w.heap[3]? = some (.cells (ints .i64 [0,4,8,12,1,5,9,13,2,6,10,14,3,7,11,15,0,5,10,15,1,6,11,12,2,7,8,13,3,4,9,14]) tq)) (hkl:key.length=32) (hn:RdK .u8 B nonce v w) (ht:RdK .u8 B2 text v2 w) (h:nonce.length=12) (r:Nat) (hr:number+(r:Int)=4294967296) (h1:0≤number) (h2:number≤4294967295) (hfit:text.length≤64*r) (htl:text.length≤2000000):Calls Tryd.prog 47 #[.agg (ints .u8 key),v,.int .i64 number,v2] w (Qb8 w (fun v W=>∃ u,v=.tuple #[u,.nilIface]∧OwnN .u8 5 w.heap.size (mixV (QaO key nonce) number text) u W)):=by
 obtain ⟨a_n,c_n,rfl,-⟩:=id hn
 obtain ⟨a_t,c_t,rfl,-⟩:=id ht
 refine Qlo 64 [(0,.agg (ints .u8 (key))),(1,.slice a_n nonce.length c_n),(2,.int .i64 number),(3,.slice a_t text.length c_t)] Tryd.func47 rfl rfl kj rfl <| sgC fun K3 hK3=>Qaq (ints .u8 (key)) 23 4 rfl kj kj fun g4 W1 l4 e1 r4_1=>?_
 have x1:=Ext.tr (Rely.Ext.refl w) e1
 have b4:=qT (Rely.Ext.refl w).size l4
 refine Qaq (#[.slice a_t text.length c_t]) 33 7 rfl kj kj fun g5 W2 l5 e2 r5_2=>?_
 have x2:=Ext.tr x1 e2
 have b5:=qT x1.size l5
 refine sg 2 kj <| sgN hK3 <| wp_scope_straight <| wp_seq_k fun K6 hK6=>sgC fun K7 hK7=>sg 2 kj <| Qa6 (.nilIface) 57 #[.slice a_n nonce.length c_n,.int .i64 number] 19 rfl kj kj ((QhF nonce _ _ number _ (RdK.ext hn x2) h h1 h2)) fun W3 e3=>?_
 have x3:=Ext.tr x2 e3
 refine sg 1 kj <| sgN hK7 <| sgB kj <| cond_false kj <| wp_skip <| hK6 _ _ <| wp_seq_k fun K9 hK9=>sgC fun K10 hK10=>?_
 have r5_3:=(Qaa r5_2 e3)
 refine Qab (.slice a_t text.length c_t) 23 rfl kj (Qah 33 _ g5 0 33 _ (.slice a_t text.length c_t) _ r5_3 rfl kj kj kj) <| sg 1 kj <| Qab (.int .i64 ((text.length+64:Nat):Int)) 25 rfl kj (Qaf (u:=.int .i64 (IntKind.i64.wrap (((text.length:Nat):Int)+64))) kj (congrArg (Value.int .i64) (i64n _ _ (by omega) (by omega)))) <| Qab (.int .i64 (((text.length+64)-1:Nat):Int)) 26 rfl kj (Qaf (u:=.int .i64 (IntKind.i64.wrap (((text.length+64:Nat):Int)-1))) kj (congrArg (Value.int .i64) (i64n _ _ (by omega) (by omega)))) <| Qab (.int .i64 ((((text.length+64)-1)/64:Nat):Int)) 27 rfl kj (Qaf (u:=.int .i64 (IntKind.i64.wrap (Int.tdiv ((((text.length+64)-1:Nat):Int)) (64)))) kj (congrArg (Value.int .i64) (Qd5 _ 64 (by omega)))) <| sg 1 kj <| sgN hK10 <| sgC fun K11 hK11=>sg 2 kj <| Qab (.int .i64 (((r-1:Nat):Int))) 30 rfl kj (Qaf (u:=.int .i64 (IntKind.i64.wrap (4294967295-number))) kj (congrArg (Value.int .i64) (by rw [show (4294967295-number:Int)=((r-1:Nat):Int) by omega]; exact IntWalk.i64_in _ (by omega)))) ?_
 refine Qab (.int .i64 (((r-1)+1:Nat):Int)) 31 rfl kj (Qaf (u:=.int .i64 (IntKind.i64.wrap ((((r-1:Nat):Int))+1))) kj (congrArg (Value.int .i64) (i64n _ _ (by omega) (by omega)))) <| Qab (.bool false) 32 rfl kj (Qaf (u:=.bool (decide (((((text.length+64)-1)/64:Nat):Int)>(((r-1)+1:Nat):Int)))) kj (congrArg Value.bool (decide_eq_false (by omega)))) <| sgN hK11 <| cond_false kj <| wp_skip <| hK9 _ _ <| sgC fun K12 hK12=>Qab (.slice a_t text.length c_t) 34 rfl kj (Qah 33 _ g5 0 33 _ (.slice a_t text.length c_t) _ r5_3 rfl kj kj kj) <| sg 1 kj <| Qjf (ints .u8 (List.replicate (text.length) 0)) 5 0 (text.length) 36 rfl kj (Qjk 33 _ _ .i64 .i64 0 (text.length) 5 rfl kj kj kj (.inr kj) (Nat.zero_le _) (by omega)) fun g13 W4 l13 e4 r13_4=>?_
 have x4:=Ext.tr x3 e4
 have b13:=qT x3.size l13
 refine Qaq (#[.slice none 0 0]) 33 12 rfl kj kj fun g14 W5 l14 e5 r14_5=>?_
 have b14:=qT x4.size l14
 refine Qal g14 _ (#[.slice (some ⟨g13,0,none⟩) 0 text.length]) 33 r14_5 rfl kj (Qb0 33 _ _ g14 0 33 _ (.slice (some ⟨g13,0,none⟩) 0 text.length) r14_5 rfl kj kj kj kj kj rfl) fun W6 p6 r14_6=>?_
 have x6:=Puts.ext p6 (Ext.tr x4 e5) b14
 refine sgN hK12 <| wp_seq_k fun K15 hK15=>wp_label <| hK15 _ _ <| wp_seq_k fun K16 hK16=>sgC fun K17 hK17=>?_
 have r4_4:=(Qaa (Qaa (Qaa r4_1 e2) e3) e4)
 refine Qab (.agg (ints .u8 (key))) 37 rfl kj (Qap 23 _ g4 23 _ _ (Puts.row p6 (Qaa r4_4 e5) (Qae r4_4 l14)) rfl kj kj (isz (n:=32) kj ((Qac _ _).trans hkl))) <| sg 2 kj ?_
 have r2_4:=(Qaa (Qaa (Qaa (Qaa hh e1) e2) e3) e4)
 have r1_4:=(Qaa (Qaa (Qaa (Qaa hq e1) e2) e3) e4)
 have r1_6:=(Puts.row p6 (Qaa r1_4 e5) (Qae r1_4 l14))
 refine Qat (fun v W'=>(fun v W=>∃ g1 g2,v=.func (.func 71) #[] #[.pointer (some ⟨g1,0,none⟩),.pointer (some ⟨g2,0,none⟩)]∧W6.heap.size≤g1∧W6.heap.size≤g2∧W.heap[g1]? = some (.cells #[.int .i64 number] 3)∧W.heap[g2]? = some (.cells (ints .u32 ((QaO key nonce).map wv)) 118)) v W'∧Ext W6 W') 58 #[.agg (ints .u8 (key)),.slice a_n nonce.length c_n,.int .i64 number] 40 rfl kj kj ((Qk0 key nonce _ _ number th tq _ (Puts.row p6 (Qaa r2_4 e5) (Qae r2_4 l14)) r1_6 hkl (RdK.ext hn x6) h h1 h2).mono (by rintro e w' ⟨v,rfl,e1,hv⟩; exact ⟨v,rfl,hv,e1⟩)) fun vv18 W7 hh18=>?_
 obtain ⟨hv18,e7⟩:=hh18
 have x7:=Ext.tr x6 e7
 obtain ⟨gp1,gp2,rfl,lp1,lp2,rp1,rp2⟩:=hv18
 refine sgN hK17 <| wp_block ?_
 have r5_4:=(Qaa r5_3 e4)
 have r5_7:=(Qaa (Puts.row p6 (Qaa r5_4 e5) (Qae r5_4 l14)) e7)
 have r14_7:=(Qaa r14_6 e7)
 have r13_6:=(Puts.row p6 (Qaa r13_4 e5) (Qae r13_4 l14))
 have r13_7:=(Qaa r13_6 e7)
 have nb712:g5≠g14:=(Qae r5_4 l14)
 have nb7O:g5≠g13:=(Qae r5_3 l13)
 have nb127:g14≠g5:=(Qa2 r5_4 l14)
 have nb12O:g14≠g13:=(Qa2 r13_4 l14)
 have nbO7:g13≠g5:=(Qa2 r5_3 l13)
 have nbO12:g13≠g14:=(Qae r13_4 l14)
 have hgs:∀ c∈([g14,g13]:List Nat),w.heap.size≤c:=(fun c hc=>by simp only [List.mem_cons,List.not_mem_nil,or_false] at hc; rcases hc with rfl | rfl; exact b14; exact b13)
 have hgp:∀ c∈([g14,g13]:List Nat),c<W6.heap.size:=(fun c hc=>by simp only [List.mem_cons,List.not_mem_nil,or_false] at hc; rcases hc with rfl | rfl; exact Qau r14_6; exact Qau r13_6)
 refine Qht (gf:=71) (lb:=#[.pointer (some ⟨gp1,0,none⟩),.pointer (some ⟨gp2,0,none⟩)]) (enc:=fun x:Nat=>.int .i64 (number+((x:Nat):Int))) (enc2:=fun x:Nat=>.agg (ints .u8 (Qbb (QaO key nonce) (number+((x:Nat):Int))))) kj (enters_of Tryd.func71 kj rfl) (QgM 2 [g14,g13] gp1 gp2 (QaO key nonce) number r tq W7 hr h1 h2 (QdP _ _) (Qaa r1_6 e7) rp1 rp2 (fun hm=>by have:=hgp _ hm; omega) (fun hm=>by have:=hgp _ hm; omega) (fun hm=>by have h1:=hgs _ hm; have h2:=Qau hq; omega)) (fun h k=>Qca.trans h k) Qca.book (Below.refl _ _)
   (fun pre W=>((W.heap[g5]? = some (.cells (#[.slice a_t text.length c_t]) 33))∧(W.heap[g14]? = some (.cells (#[.slice (some ⟨g13,0,none⟩) (64*pre.length) text.length]) 33))∧(W.heap[g13]? = some (.cells (ints .u8 (Qby (mxv text (QaO key nonce) number (pg pre) text.length) text.length (64*pre.length))) 5))∧64*pre.length≤text.length∧W7.heap.size≤W.heap.size)∧Ext w W)
   (fun c pre W=>(c=.exit 0∧text.length≤64*pre.length∧(W.heap[g14]? = some (.cells (#[.slice (some ⟨g13,0,none⟩) (text.length) text.length]) 33))∧(W.heap[g13]? = some (.cells (ints .u8 (Qby (mxv text (QaO key nonce) number (pg pre) text.length) text.length (text.length))) 5)))∧Ext w W) (OwnFrom.and (Own.from (fun s A B row hs hg hr=>⟨QbX hs.1 hg hr,QbX hs.2.1 hg hr,QbX hs.2.2.1 hg hr,hs.2.2.2.1,qT hs.2.2.2.2 hg.size⟩) _) (ownFrom_below (qR _) x7.size)) (fun c=>OwnFrom.and (Own.from (fun s A B row hs hg hr=>⟨hs.1,hs.2.1,QbX hs.2.2.1 hg hr,QbX hs.2.2.2 hg hr⟩) _) (ownFrom_below (qR _) x7.size)) ⟨⟨r5_7,r14_7,QaF r13_7 (QbG _ _),Nat.zero_le _,qR _⟩,x7⟩ (fun e=>Qca.ext e) (fun pre A B h e=>⟨⟨Qaa h.1.1 e,Qaa h.1.2.1 e,Qaa h.1.2.2.1 e,h.1.2.2.2.1,qT h.1.2.2.2.2 e.size⟩,Rely.Ext.trans h.2 e⟩) (fun pre W h=>h.1.2.2.2.2) (fun x g=>[(14,.pointer (some ⟨g,0,none⟩)),(42,.agg (ints .u8 (Qbb (QaO key nonce) (number+((x:Nat):Int))))),(41,.int .i64 (number+((x:Nat):Int)))]) (fun x=>ints .u8 (Qbb (QaO key nonce) (number+((x:Nat):Int)))) 90 (fun l x W K hK=>?_) (fun l pre x gP Wr hgP hI rP hp=>?_) (fun D ys W lD hS hI rD=>?_) (fun D c pre W lD hSp hIx rD=>?_)
 ·skip
  refine QbA <| Qik (ints .u8 (List.replicate 64 0)) 90 14 rfl (Qba l 1 _) rfl kj kj fun g301 W1 l301 e1 r301_1=>?_
  have x1:=Ext.tr (Rely.Ext.refl W) e1
  refine Qfb g301 _ (ints .u8 (Qbb (QaO key nonce) (number+((x:Nat):Int)))) 90 r301_1 rfl (Qba l 1 _) rfl kj (Qan 90 _ _ g301 90 _ _ r301_1 rfl kj kj (isz (n:=64) kj ((Qac _ _).trans (Qbk _ _))) (eqsz (n:=64) ((Qac _ _).trans (List.length_replicate (n:=64))) ((Qac _ _).trans (Qbk _ _))) (Qav _ _)) fun W2 p2 r301_2=>?_
  have x2:=Puts.ext p2 x1 (qT (Rely.Ext.refl W).size l301)
  refine Qdb ?_
  exact hK _ _ l301 (Puts.ext p2 (Rely.Ext.trans (Rely.Ext.refl W) e1) l301) r301_2
 ·skip
  obtain ⟨⟨q7,q12,qO,hml,hsz⟩,xx⟩:=hI
  replace qO:=QaF qO (QlJ text (QaO key nonce) number pre x text.length)
  have hl1:(pre++[x]).length=pre.length+1:=by simp
  have n147:gP≠g5:=by have h1:=Qau r5_7; omega
  have n1412:gP≠g14:=by have h1:=Qau r14_7; omega
  have n14O:gP≠g13:=by have h1:=Qau r13_7; omega
  refine wpIn_block <| wpIn_seq_k fun K505 hK505=>QbA <| QbV (.agg (ints .u8 (Qbb (QaO key nonce) (number+((x:Nat):Int))))) 43 rfl (Qba l 1 _) rfl kj (Qap 90 _ gP 90 _ _ rP rfl kj kj (isz (n:=64) kj ((Qac _ _).trans (Qbk _ _)))) <| QbV (.int .i64 0) 44 rfl (Qba l 1 _) rfl kj kj <| Qdb <| hK505 _ _ <| wpIn_block <| Qh4 (fun (s1:Nat)=>[(7,.pointer (some ⟨g5,0,none⟩)),(12,.pointer (some ⟨g14,0,none⟩)),(43,.agg (ints .u8 (Qbb (QaO key nonce) (number+((x:Nat):Int))))),(44,.int .i64 ((s1:Nat):Int))]) (fun (s1:Nat) W=>(s1≤64)∧(64*pre.length+s1≤text.length)∧(W.heap[g14]? = some (.cells (#[.slice (some ⟨g13,0,none⟩) (64*pre.length+s1) text.length]) 33))∧(W.heap[g13]? = some (.cells (ints .u8 (Qby (mxv text (QaO key nonce) number (pg (pre++[x])) text.length) text.length (64*pre.length+s1))) 5))∧(Qas [g14,g13] Wr W)∧(Ext w W)) (fun (s1:Nat)=>64-s1) 0 ⟨rfl,rfl,rfl,rfl,trivial⟩ ⟨(Nat.zero_le _),(by omega),q12,qO,(Qas.refl [g14,g13] Wr),xx⟩ fun s1 X1 V1 hI1=>?_
  obtain ⟨j,hs1⟩:∃ z,z=s1:=⟨_,rfl⟩
  subst hs1
  obtain ⟨hj,hmj,q503_1,q501_1,kk1,xx1⟩:=hI1
  replace hj:j≤64:=hj
  replace hmj:64*pre.length+j≤text.length:=hmj
  replace q503_1:V1.heap[g14]? = some (.cells (#[.slice (some ⟨g13,0,none⟩) (64*pre.length+j) text.length]) 33):=q503_1
  replace q501_1:V1.heap[g13]? = some (.cells (ints .u8 (Qby (mxv text (QaO key nonce) number (pg (pre++[x])) text.length) text.length (64*pre.length+j))) 5):=q501_1
  replace kk1:Qas [g14,g13] Wr V1:=kk1
  replace xx1:Ext w V1:=xx1
  have q1:=kk1
  refine wpIn_seq_k fun K506 hK506=>QbA <| QbV (.bool (decide (((j:Nat):Int)<64))) 45 rfl (Qba l 1 _) rfl kj kj <| Qdb <| hK506 _ _ <| wpIn_seq_k fun K507 hK507=>Qd4 (t:=decide (((j:Nat):Int)<64)) kj (fun c508=>?_) (fun c508=>?_)
  ·skip
   have hlt45:j<64:=by have:=of_decide_eq_true c508; omega
   refine wpIn_skip <| hK507 _ _ <| wpIn_seq_k fun K509 hK509=>wpIn_block <| wpIn_seq_k fun K510 hK510=>QbA <| QbV (.int .u8 (nth (Qbb (QaO key nonce) (number+((x:Nat):Int))) j)) 46 rfl (Qba l 1 _) rfl kj (QaK 90 _ _ .i64 .u8 (Qbb (QaO key nonce) (number+((x:Nat):Int))) j 64 5 (nth (Qbb (QaO key nonce) (number+((x:Nat):Int))) j) rfl kj kj kj kj kj (Qbk _ _) (by omega) rfl) <| QbV (.int .u8 (nth (Qbb (QaO key nonce) (number+((x:Nat):Int))) j)) 16 rfl (Qba l 1 _) rfl kj kj <| Qdb <| hK510 _ _ ?_
   refine wpIn_seq_k fun K511 hK511=>wpIn_seq_k fun K512 hK512=>QbA <| QbV (.slice (some ⟨g13,0,none⟩) (64*pre.length+j) text.length) 47 rfl (Qba l 1 _) rfl kj (Qah 33 _ g14 0 33 _ (.slice (some ⟨g13,0,none⟩) (64*pre.length+j) text.length) _ q503_1 rfl kj kj kj) <| QbV (.int .i64 ((64*pre.length+j:Nat):Int)) 48 rfl (Qba l 1 _) rfl kj kj ?_
   have r502_1:=(Qas.row q1 q7 (QaC nb712 (QaC nb7O QaS)))
   refine QbV (.slice a_t text.length c_t) 49 rfl (Qba l 1 _) rfl kj (Qah 33 _ g5 0 33 _ (.slice a_t text.length c_t) _ r502_1 rfl kj kj kj) <| QbV (.int .i64 ((text.length:Nat):Int)) 50 rfl (Qba l 1 _) rfl kj kj <| QbV (.bool ((((64*pre.length+j:Nat):Int)==((text.length:Nat):Int)))) 51 rfl (Qba l 1 _) rfl kj kj <| Qdb <| hK512 _ _ <| Qd4 (t:=(((64*pre.length+j:Nat):Int)==((text.length:Nat):Int))) kj (fun c513=>?_) (fun c513=>?_)
   ·skip
    have hmn:64*pre.length+j=text.length:=by have:=eq_of_beq c513; omega
    refine wpIn_exit ?_
    repeat (first | with_reducible refine goX1 ?_ | with_reducible refine goXj (by decide) ?_)
    have hq12:=q503_1
    have hqO:=q501_1
    rw [hmn] at hq12 hqO
    exact ⟨(QeL q1 (fun c hc=>by simp only [List.mem_cons,List.not_mem_nil,or_false] at hc; rcases hc with rfl | rfl; exact ⟨_,_,q12⟩; exact ⟨_,_,qO⟩)),⟨rfl,by rw [hl1]; omega,hq12,hqO⟩,xx1⟩
   ·skip
    have hmn:64*pre.length+j<text.length:=by
     rcases Nat.lt_or_ge (64*pre.length+j) text.length with hh | hh
     ·exact hh
     ·exfalso; have e:(((64*pre.length+j:Nat):Int)==((text.length:Nat):Int))=true:=by rw [beq_iff_eq]; omega
      rw [e] at c513; cases c513
    obtain ⟨gt,ot,hat,-,hlt_,hct⟩:=QbF (RdK.ext ht xx1) (by omega)
    refine wpIn_skip <| hK511 _ _ <| QiP 9 [⟨none,[(12,none)]⟩,⟨none,[(7,none)]⟩,⟨none,[(12,none)]⟩,⟨none,[(54,some 2)]⟩,⟨none,[(53,some 1),(55,some 3)]⟩,⟨none,[(56,some 4)]⟩,⟨none,[(16,none)]⟩,⟨none,[(57,some 5),(58,some 6)]⟩,⟨none,[(59,some 7)]⟩] (Qba l 1 _) rfl kj kj fun F hF=>QaR (Qag _) (.slice (some ⟨g13,0,none⟩) (64*pre.length+j) text.length) kj kj (fun W hR=>(Qah 33 _ g14 0 33 _ (.slice (some ⟨g13,0,none⟩) (64*pre.length+j) text.length) _ (Qaa (Qaa q503_1 (Qak _)) hR) rfl kj kj kj)) <| QaR (Qag _) (.slice a_t text.length c_t) kj kj (fun W hR=>(Qah 33 _ g5 0 33 _ (.slice a_t text.length c_t) _ (Qaa (Qaa r502_1 (Qak _)) hR) rfl kj kj kj)) <| QaR (Qag _) (.slice (some ⟨g13,0,none⟩) (64*pre.length+j) text.length) kj kj (fun W hR=>(Qah 33 _ g14 0 33 _ (.slice (some ⟨g13,0,none⟩) (64*pre.length+j) text.length) _ (Qaa (Qaa q503_1 (Qak _)) hR) rfl kj kj kj)) <| Qar (Qag _) (.int .i64 ((64*pre.length+j:Nat):Int)) kj kj (fun W=>by kernel_rfl) <| Qar (Qag _) (.pointer (some ⟨gt,ot+(64*pre.length+j),none⟩)) kj kj (fun W=>(QaN 33 _ _ .i64 (64*pre.length+j) gt ot text.length c_t 5 a_t _ hat rfl rfl kj kj kj kj (Nat.lt_of_lt_of_eq (show 64*pre.length+j<text.length by omega) (rfl:text.length=text.length).symm))) <| QaR (Qag _) (.int .u8 (nth (text) ((64*pre.length+j)))) kj kj (fun W hR=>(Qaz 5 _ _ (.int .u8 (nth (text) ((64*pre.length+j)))) ((Below.cell (Rely.Ext.trans (Qak _) hR) hlt_).trans (hct (64*pre.length+j) (Nat.lt_of_lt_of_eq (show 64*pre.length+j<text.length by omega) (rfl:text.length=text.length).symm))) rfl kj kj)) <| Qar (Qag _) (.int .u8 (nth (Qbb (QaO key nonce) (number+((x:Nat):Int))) j)) kj kj (fun W=>by kernel_rfl) ?_
    refine Qar (Qag _) (.int .u8 (bits .xor .u8 ((nth (text) ((64*pre.length+j)))) ((nth (Qbb (QaO key nonce) (number+((x:Nat):Int))) j)))) kj kj (fun W=>by kernel_rfl) <| Qiq (Qag _) (ints .u8 ([(bits .xor .u8 ((nth (text) ((64*pre.length+j)))) ((nth (Qbb (QaO key nonce) (number+((x:Nat):Int))) j)))])) 5 1 (NewS.stable _ _ _ _) kj kj (fun W=>by kernel_rfl) <| QbN (hF _ fun W2 e2=>?_)
    simp only [List.nil_append,List.cons_append,List.take_succ_cons,List.take_zero,List.drop_succ_cons,List.drop_zero,finE,up]
    intro vv514 hv514
    clear hF
    have x2:=Ext.tr xx1 e2
    obtain ⟨g514,rfl,l514,r514_2⟩:=hv514
    have b514:=qT xx1.size l514
    have r501_2:=(Qaa q501_1 e2)
    refine QlZ (.slice (some ⟨g13,0,none⟩) (64*pre.length+j+1) text.length) 61 rfl (Qba l 1 _) rfl kj r501_2 (QgF (k:=.u8) (b:=1) (.tmp 52) (.tmp 60) 33 rfl kj kj kj kj r501_2 (QbK _ _ _ (QdI _ _ _ _ _) (by omega)) (by omega) r514_2) fun W3 p3 r501_3=>?_
    have x3:=Puts.ext p3 x2 b13
    have r501_3_515:W3.heap[g13]? = some (.cells (ints .u8 (Qby (mxv text (QaO key nonce) number (pg (pre++[x])) text.length) text.length (64*pre.length+(j+1)))) 5):=QaF r501_3 (by rw [←QmL text (QaO key nonce) number pre x text.length j hlt45 hmn]; exact QbH _ text.length (64*pre.length+j) (QdI _ _ _ _ _) hmn)
    have r503_3:=(Puts.row p3 (Qaa q503_1 e2) nb12O)
    refine Qfb g14 _ (#[.slice (some ⟨g13,0,none⟩) (64*pre.length+j+1) text.length]) 33 r503_3 rfl (Qba l 1 _) rfl kj (Qb0 33 _ _ g14 0 33 _ (.slice (some ⟨g13,0,none⟩) (64*pre.length+j+1) text.length) r503_3 rfl kj kj kj kj kj rfl) fun W4 p4 r503_4=>?_
    have x4:=Puts.ext p4 x3 b14
    refine Qdb <| hK509 _ _ <| QbA <| QbV (.int .i64 ((j+1:Nat):Int)) 62 rfl (Qba l 1 _) rfl kj (Qaf (u:=.int .i64 (IntKind.i64.wrap (((j:Nat):Int)+1))) kj (congrArg (Value.int .i64) (i64n _ _ (by omega) (by omega)))) <| QbV (.int .i64 ((j+1:Nat):Int)) 44 rfl (Qba l 1 _) rfl kj kj <| Qdb ?_
    repeat (first | with_reducible refine goX1 ?_ | with_reducible refine goX2 ?_ | with_reducible refine goX3 ?_)
    exact Qax (j+1) ⟨kj,kj,kj,kj,trivial⟩ ⟨(by omega),(by omega),r503_4,(Puts.row p4 r501_3_515 nbO12),(Qas.puts (Qas.puts (Qas.step q1 e2) p3 (.inl (by simp))) p4 (.inl (by simp))),x4⟩ (by show 64-(j+1)<64-j; omega)
  ·skip
   have heq45:j=64:=by have:=of_decide_eq_false c508; omega
   refine wpIn_exit ?_
   subst heq45
   repeat (first | with_reducible refine goX1 ?_ | with_reducible refine goX2 ?_ | with_reducible refine goX3 ?_)
   have r502_1:=(Qas.row q1 q7 (QaC nb712 (QaC nb7O QaS)))
   exact ⟨(QeL q1 (fun c hc=>by simp only [List.mem_cons,List.not_mem_nil,or_false] at hc; rcases hc with rfl | rfl; exact ⟨_,_,q12⟩; exact ⟨_,_,qO⟩)),(Qca.keeps q1),⟨r502_1,by rw [hl1,Nat.mul_add]; exact q503_1,by rw [hl1,Nat.mul_add]; exact q501_1,by rw [hl1]; omega,qT hsz (qT (qR _) (Qas.size q1))⟩,xx1⟩
 ·obtain ⟨⟨-,q12,qO,hml,-⟩,xx⟩:=hI
  subst hS
  rw [List.length_range] at q12 qO hml
  have hge:text.length≤64*r:=by omega
  have hee:64*r=text.length:=by omega
  rw [hee] at q12 qO
  have qO2:=QaF (QaF qO (Qcd _ _ (QdI _ _ _ _ _))) (Qj4 text (QaO key nonce) number r hge)
  have bD:w.heap.size≤D:=qT x7.size lD
  refine hK16 _ _ <| sgC fun K20 hK20=>Qab (.slice (some ⟨g13,0,none⟩) text.length text.length) 63 rfl kj (Qah 33 _ g14 0 33 _ (.slice (some ⟨g13,0,none⟩) text.length text.length) _ q12 rfl kj kj kj) <| sg 2 kj <| sgN hK20 <| wp_ret ?_
  repeat (first | with_reducible refine goR1 ?_ | with_reducible refine goR2 ?_)
  exact (show bodyPostM _ _ _ _ _ .ret _ _ from Ql3 (.slice (some ⟨g13,0,none⟩) text.length text.length) (.nilIface) rfl rD (Qa0 kj) (Qa0 kj) ⟨_,rfl,Qgg xx bD rD _,_,rfl,Qcr (QbZ _ _ _) b13 (Qgf qO2 rD _) (by simp only [maxLen]; omega)⟩)
 ·obtain ⟨⟨rfl,hge,q12,qO⟩,xx⟩:=hIx
  obtain ⟨kR,rfl,-⟩:=hSp
  rw [List.length_range] at hge
  have qO2:=QaF (QaF qO (Qcd _ _ (QdI _ _ _ _ _))) (Qj4 text (QaO key nonce) number kR hge)
  have bD:w.heap.size≤D:=qT x7.size lD
  refine wp_exit <| hK16 _ _ <| sgC fun K22 hK22=>Qab (.slice (some ⟨g13,0,none⟩) text.length text.length) 63 rfl kj (Qah 33 _ g14 0 33 _ (.slice (some ⟨g13,0,none⟩) text.length text.length) _ q12 rfl kj kj kj) <| sg 2 kj <| sgN hK22 <| wp_ret ?_
  repeat (first | with_reducible refine goR1 ?_ | with_reducible refine goR2 ?_)
  exact (show bodyPostM _ _ _ _ _ .ret _ _ from Ql3 (.slice (some ⟨g13,0,none⟩) text.length text.length) (.nilIface) rfl rD (Qa0 kj) (Qa0 kj) ⟨_,rfl,Qgg xx bD rD _,_,rfl,Qcr (QbZ _ _ _) b13 (Qgf qO2 rD _) (by simp only [maxLen]; omega)⟩)
end Go.Proofs.YtophlgnnjjkkiaaDoor.Cha
end
section
namespace Go.Proofs.YtophlgnnjjkkiaaDoor.Sha
open Go Go.RowKit
open Rely Auto Own
section
variable {P : Program} {ρ : Operand → Value} {o : Oper} {w : World}
theorem QiB {k : IntKind} (t:TypeId) (x y:Operand) (kl kc:IntKind) (n:Nat) (e:TypeId) (ho:o.op=.makeSlice t x y) (hx:ρ x=.int kl 0) (hy:ρ y=.int kc n)
    (hu:P.underlying t=some (.slice e)) (hi:(P.info? e).map (fun i=>(i.zero,i.size,i.bytes))=some (some (.int k 0),1,1)) (hn:n≤1000000000) :
    (execOp ρ o).run P w=.ok (.value (.slice (some ⟨w.heap.size,0,none⟩) 0 n)) (w.alloc (.cells (ints k (List.replicate n 0)) e)):=by
  cases hq:P.info? e with
  | none=>simp [hq] at hi
  | some i =>
    have hz:i.zero=some (.int k 0)∧i.size=1∧i.bytes=1:=by simpa [hq] using hi
    have hb:(i.bytes:Int)*(n:Int)≤281474976710656:=by rw [hz.2.2]; omega
    have h:=run_make w t e i (.int k 0) hu hq hz.1 kl kc 0 (n:Int) (by omega) (by omega) hb (by omega)
    rw [hz.2.1,Int.toNat_natCast,Qfs] at h
    unfold execOp
    simp only [ho,hx,hy,Sem.run_bind,Sem.run_pure,h,Result.andThen_ok]
    rfl
theorem Qcm (t : TypeId) (x z:Operand) (h:Nat) (e:TypeId) (ho:o.op=.slice t x none (some z) none) {a:Option Addr} {len cap:Nat} (hx:ρ x=.slice a len cap)
    (hu:P.underlying t=some (.slice e)) (hs:(P.info? e).map (·.size)=some 1) (kz:IntKind) (hz:ρ z=.int kz (h:Int)) (h2:h≤cap) :
    (execOp ρ o).run P w=.ok (.value (.slice a h cap)) w:=by
  cases hq:P.info? e with
  | none=>simp [hq] at hs
  | some i =>
    have hs':i.size=1:=by simpa [hq] using hs
    unfold execOp
    have hadd:∀ a:Option Addr,Option.map (fun x=>x.add 0) a=a:=fun a=>by
      cases a with
      | none=>rfl
      | some a=>obtain ⟨b,o,s⟩:=a; cases s <;> simp [Addr.add]
    simp [ho,hx,hz,Instr.sliceAt,Instr.slice,Instr.sliceBounds,run_sliceBound,run_underlying hu,sizeOf,typeInfo,hq,hs',h2,hadd]
end
section
variable {ds : List Deferred} {P : Program} {ops : Array Oper} {Q : Exit → Act → World → Prop} {rest : List Oper} {o : Oper} {N : Nat} {L : Env} {w : World}
theorem Qi7 (cs : Array Value) (T:TypeId) (n d:Nat) (hd:o.dst=some d) (hg:Qce ops o N L=some true) (h:(execOp (Rely.look (envN N L)) o).run P w=.ok (.value (.slice (some ⟨w.heap.size,0,none⟩) 0 n)) (w.alloc (.cells cs T)))
    (k:∀ (g:Nat) (W:World),w.heap.size≤g→Ext w W→W.heap[g]? = some (.cells cs T)→WL P ops Q rest (Qa4 ds N ((d,.slice (some ⟨g,0,none⟩) 0 n)::L)) W):WL P ops Q (o::rest) (Qa4 ds N L) w :=
  QbW _ _ d hd hg h (k _ _ (qR _) (Qck _ _) (heap_alloc_new _ _))
end
def Qbn (T : TypeId) (base:Nat) (t:List Int) (v:Value) (W:World):Prop:=∃ g c,v=.slice (some ⟨g,0,none⟩) t.length c∧OwnN .u8 T base (t++[165,90]) (.slice (some ⟨g,0,none⟩) (t++[165,90]).length c) W
theorem Qbn.ext {T : TypeId} {base:Nat} {t:List Int} {v:Value} {W W':World} (h:Qbn T base t v W) (e:Ext W W'):Qbn T base t v W':=by
  obtain ⟨g,c,rfl,h2⟩:=h
  exact ⟨g,c,rfl,h2.ext e⟩
theorem Qbn.rd {T : TypeId} {base:Nat} {t:List Int} {v:Value} {W:World} (h:Qbn T base t v W):RdK .u8 W.heap.size t v W:=by
  obtain ⟨g,c,rfl,h2⟩:=h
  obtain ⟨a,cap,e,q2,q3,q4,q5⟩:=OwnN.rd h2
  simp only [Value.slice.injEq] at e
  obtain ⟨rfl,-,rfl⟩:=e
  rw [List.length_append] at q2
  refine ⟨_,_,rfl,by omega,q3,q4,.inr ?_⟩
  rcases q5 with q5 | ⟨g',o,e1,e2,e3,e4⟩
  · simp at q5
  · refine ⟨g',o,e1,e2,e3,fun i hi=>?_⟩
    rw [e4 i (by rw [List.length_append]; omega)]
    simp [nth,List.getElem?_append_left hi]
theorem Qjz (t : List Int):nth (t++[165,90]) t.length=165:=by simp [nth]
theorem Qjy (t : List Int):nth (t++[165,90]) (t.length+1)=90:=by simp [nth]
theorem Qmn (t : List Int) (v:Value) (B:Nat) (w:World) (hlen:t.length≤900000000) (hr:RdK .u8 B t v w):Calls Tryd.prog 11 #[v] w (Qb8 w (Qbn 5 w.heap.size t)):=by
  obtain ⟨a_t,c_t,rfl,-⟩:=id hr
  refine enter 14 [(0,.slice a_t t.length c_t)] Tryd.func11 rfl rfl kj rfl <| sgB kj <| sgC fun K2 hK2=>sg 2 kj <| Qab (.int .i64 ((t.length+2:Nat):Int)) 5 rfl kj (Qaf (u:=.int .i64 (IntKind.i64.wrap (((t.length:Nat):Int)+2))) kj (congrArg (Value.int .i64) (i64n _ _ (by omega) (by omega)))) <| Qi7 (ints .u8 (List.replicate (t.length+2) 0)) 5 (t.length+2) 6 rfl kj (QiB 33 _ _ .i64 .i64 (t.length+2) 5 rfl kj kj kj kj (by omega)) fun g3 W1 l3 e1 r3_1=>?_
  have x1:=Ext.tr (Rely.Ext.refl w) e1
  have b3:=qT (Rely.Ext.refl w).size l3
  have hz0:OwnN .u8 5 w.heap.size [] (.slice (some ⟨g3,0,none⟩) 0 (t.length+2)) W1:=Qhw (n:=0) rfl l3 r3_1 (by rw [Qac,List.length_replicate]) (Nat.zero_le _) (by simp only [maxLen]; omega) rfl
  refine sg 1 kj <| QaH (k:=.u8) (T:=5) (xs:=[]) (ys:=t) (V:=w) 1 (.tmp 6) (.tmp 7) 33 rfl kj kj (by decide) 8 rfl kj kj kj hz0 (RdK.ext hr x1) (by simp only [List.length_nil]; omega) (Rely.Ext.trans (Rely.Ext.refl w) e1) fun z1 W2 f4 y2 l2=>?_
  have x2:=Ext.low x1 l2 (Rely.Ext.refl w).size
  have hu6:OwnN .u8 5 w.heap.size (t) z1 W2:=f4
  refine Qa7 (ints .u8 ([165,90])) 5 2 9 rfl kj kj fun g7 W3 l7 e3 r7_3=>?_
  have b7:=qT x2.size l7
  refine QaH (k:=.u8) (T:=5) (xs:=t) (ys:=[165,90]) (V:=w) 1 (.tmp 8) (.tmp 9) 33 rfl kj kj (by decide) 10 rfl kj kj kj (hu6.ext e3) (QaI (xs:=[165,90]) (n:=2) rfl r7_3 (Qau r7_3) (show 2≤maxLen from by decide)) (by simp only [List.length_cons,List.length_nil]; omega) (Rely.Ext.trans y2 e3) fun z2 W4 f9 y4 l4=>?_
  have hu11:OwnN .u8 5 w.heap.size (t++[165,90]) z2 W4:=f9
  refine sg 2 kj ?_
  obtain ⟨gz,cz,cur,hzz,hz3,hz4,hz5,hz6,-,-⟩:=QdH hu11 (by simp)
  subst hzz
  rw [List.length_append] at hz6
  refine Qab (.slice (some ⟨gz,0,none⟩) t.length cz) 13 rfl kj (Qcm (len:=(t++[165,90]).length) 33 _ _ t.length 5 rfl kj kj kj .i64 kj (by omega)) <| sg 1 kj <| sgN hK2 <| wp_ret ?_
  repeat (first | with_reducible refine goR1 ?_ | with_reducible refine goR2 ?_)
  exact (show bodyPost _ _ _ .ret _ _ from ret1 (.slice (some ⟨gz,0,none⟩) t.length cz) rfl (Qa0 kj) ⟨_,rfl,(Ext.low (Ext.tr x2 e3) l4 (Rely.Ext.refl w).size),gz,cz,rfl,hu11⟩)
theorem Qns (x y:Value) (xs ys:List Int) (w:World) (hx:QcV w x xs) (hy:QcV w y ys):Calls Tryd.prog 17 #[x,y] w (Ret w (.bool (decide (xs=ys)))):=by
  have hse:((Qc5 xs).toList==(Qc5 ys).toList)=decide (xs=ys):=by
    obtain ⟨_,_,_,_,bx,_⟩:=hx
    obtain ⟨_,_,_,_,by',_⟩:=hy
    exact Qfh bx by'
  refine enter 10 [(0,x),(1,y)] Tryd.func17 rfl rfl kj rfl <| sgB kj <| sgC fun K2 hK2=>sg 1 kj <| Qab (.string (Qc5 xs)) 6 rfl kj (Qc1 _ x rfl kj xs hx) <| sg 1 kj <| Qab (.string (Qc5 ys)) 8 rfl kj (Qc1 _ y rfl kj ys hy) <| Qab (.bool (decide (xs=ys))) 9 rfl kj (Qaf (u:=.bool ((Qc5 xs).toList==(Qc5 ys).toList)) kj (congrArg Value.bool hse)) <| sg 1 kj <| sgN hK2 ?_
  refine wp_ret ?_
  repeat (first | with_reducible refine goR1 ?_ | with_reducible refine goR2 ?_)
  exact (show bodyPost _ _ _ .ret _ _ from ret1 (.bool (decide (xs=ys))) rfl (Qa0 kj) ⟨rfl,(Rely.Ext.refl w)⟩)
theorem Qi8 (x y:Value) (xs ys:List Int) (w:World) (e:xs=ys) (hx:QcV w x xs) (hy:QcV w y ys):Calls Tryd.prog 17 #[x,y] w (Ret w (.bool true)):=by
  have h:=Qns x y xs ys w hx hy
  rw [decide_eq_true e] at h
  exact h
def Qde (a : Option Addr) (c l:Nat):Option Addr:=if c=l then a else a.map fun z=>z.add l
theorem QcP {P : Program} {ρ:Operand→Value} {o:Oper} {w:World} (t:TypeId) (x z:Operand) (l:Nat) (e:TypeId) (ho:o.op=.slice t x (some z) none none) {a:Option Addr} {len cap:Nat} (hx:ρ x=.slice a len cap)
    (hu:P.underlying t=some (.slice e)) (hs:(P.info? e).map (·.size)=some 1) (kz:IntKind) (hz:ρ z=.int kz (l:Int)) (h1:l≤len) (h2:len≤cap) :
    (execOp ρ o).run P w=.ok (.value (.slice (Qde a cap l) (len-l) (cap-l))) w:=by
  cases hq:P.info? e with
  | none=>simp [hq] at hs
  | some i =>
    have hs':i.size=1:=by simpa [hq] using hs
    unfold execOp Qde
    have hadd:∀ a:Option Addr,Option.map (fun x=>x.add 0) a=a:=fun a=>by
      cases a with
      | none=>rfl
      | some a=>obtain ⟨b,o,s⟩:=a; cases s <;> simp [Addr.add]
    by_cases hc:cap=l
    · simp [ho,hx,hz,Instr.sliceAt,Instr.slice,Instr.sliceBounds,run_sliceBound,run_underlying hu,sizeOf,typeInfo,hq,hs',h1,h2,hadd,hc]
    · simp [ho,hx,hz,Instr.sliceAt,Instr.slice,Instr.sliceBounds,run_sliceBound,run_underlying hu,sizeOf,typeInfo,hq,hs',h1,h2,hadd,hc]
theorem Qda {k : IntKind} {B n c:Nat} {ys:List Int} {a:Option Addr} {W:World} (h:RdK k B ys (.slice a n c) W) (l:Nat) (hl:l≤ys.length):RdK k B (ys.drop l) (.slice (Qde a c l) (n-l) (c-l)) W:=by
  obtain ⟨a',cap,e,h2,h3,h4,h5⟩:=h
  simp only [Value.slice.injEq] at e
  obtain ⟨rfl,rfl,rfl⟩:=e
  refine ⟨_,_,by rw [List.length_drop],by rw [List.length_drop]; omega,by omega,?_,?_⟩
  · intro e
    unfold Qde at e
    split at e
    · omega
    · have:=h4 (by cases a <;> simp_all); omega
  · rcases h5 with h5 | ⟨g,o,rfl,q2,q3,q4⟩
    · left; rw [h5]; simp
    · rcases Nat.lt_or_ge l ys.length with hlt | hge
      · right
        refine ⟨g,o+l,?_,q2,q3,fun i hi=>?_⟩
        · unfold Qde
          rw [if_neg (by omega),Option.map_some]
          simp [Addr.add]
        · rw [List.length_drop] at hi
          rw [Nat.add_assoc,q4 (l+i) (by omega)]
          simp [nth]
      · left; exact List.drop_of_length_le hge
theorem Qcg {k : IntKind} {B n c:Nat} {ys:List Int} {a:Option Addr} {W:World} (h:RdK k B ys (.slice a n c) W) (l:Nat) (hl:l≤ys.length):RdK k B (ys.take l) (.slice a l c) W:=by
  obtain ⟨a',cap,e,h2,h3,h4,h5⟩:=h
  simp only [Value.slice.injEq] at e
  obtain ⟨rfl,rfl,rfl⟩:=e
  have hlen:(ys.take l).length=l:=by rw [List.length_take]; omega
  refine ⟨_,_,by rw [hlen],by omega,h3,h4,?_⟩
  rcases h5 with rfl | ⟨g,off,rfl,q2,q3,q4⟩
  · exact .inl (by simp)
  · refine .inr ⟨g,off,rfl,q2,q3,fun i hi=>?_⟩
    rw [hlen] at hi
    rw [q4 i (by omega)]
    simp [nth,List.getElem?_take,hi]
theorem QiN (t : List Int) (v y:Value) (B base:Nat) (w:World) (hlen:t.length≤900000000) (hb:Qaj t) (hv:Qbn 5 base t v w) (hr:RdK .u8 B t y w):Calls Tryd.prog 19 #[v,y] w (Ret w (.bool true)):=by
  have hrc:=hv.rd
  obtain ⟨g,c,rfl,hK⟩:=hv
  obtain ⟨a_t,c_t,rfl,-⟩:=id hr
  have hl2:(t++[165,90]).length=t.length+2:=by simp
  have hcap:(t++[165,90]).length≤c:=by
    obtain ⟨_,_,e,q2,_⟩:=OwnN.rd hK
    simp only [Value.slice.injEq] at e
    obtain ⟨-,-,rfl⟩:=e
    exact q2
  have hcap2:t.length+2≤c:=by rw [←hl2]; exact hcap
  refine enter 39 [(0,.slice (some ⟨g,0,none⟩) t.length c),(1,.slice a_t t.length c_t)] Tryd.func19 rfl rfl kj rfl <| sgB kj <| wp_seq_k fun K2 hK2=>sgC fun K3 hK3=>sg 1 kj <| Qab (.string (Qc5 t)) 7 rfl kj (Qc1 _ _ rfl kj t (hrc.bytes hb)) <| sg 1 kj <| Qab (.string (Qc5 t)) 9 rfl kj (Qc1 _ _ rfl kj t (hr.bytes hb)) <| Qab (.bool false) 10 rfl kj (Qaf (u:=.bool (!((Qc5 t).toList==(Qc5 t).toList))) kj (congrArg Value.bool (by simp))) <| sg 5 kj ?_
  refine Qab (.int .i64 ((t.length+2:Nat):Int)) 16 rfl kj (Qaf (u:=.int .i64 (IntKind.i64.wrap (((t.length:Nat):Int)+2))) kj (congrArg (Value.int .i64) (i64n _ _ (by omega) (by omega)))) <| Qab (.bool false) 17 rfl kj (Qaf (u:=.bool (decide (((c:Nat):Int)<((t.length+2:Nat):Int)))) kj (congrArg Value.bool (decide_eq_false (by omega)))) <| sg 1 kj <| sgN hK3 <| cond_false kj <| wp_skip <| hK2 _ _ <| sgC fun K4 hK4=>sg 3 kj <| Qab (.int .i64 ((((t++[165,90]).length:Nat):Int))) 22 rfl kj (Qaf (u:=.int .i64 (IntKind.i64.wrap (((t.length:Nat):Int)+2))) kj (congrArg (Value.int .i64) (i64n _ _ (by rw [hl2]; omega) (by rw [hl2]; omega)))) ?_
  refine Qab (.slice (some ⟨g,0,none⟩) (t++[165,90]).length c) 23 rfl kj (Qcm (len:=t.length) 33 _ _ (t++[165,90]).length 5 rfl kj kj kj .i64 kj hcap) <| sg 1 kj ?_
  have hns_5:(t++[165,90]).length=t.length+2:=hl2
  obtain ⟨gcs_5,ocs_5,has_5,hls_5,hcs_5⟩:=QhU (OwnN.rd hK) (by rw [hns_5]; omega)
  refine sgN hK4 <| sgC fun K6 hK6=>sg 3 kj <| Qab (.pointer (some ⟨gcs_5,ocs_5+t.length,none⟩)) 27 rfl kj (QaN 33 _ _ .i64 t.length gcs_5 ocs_5 ((t++[165,90]).length) c 5 (some ⟨g,0,none⟩) _ has_5 rfl rfl kj kj kj kj (Nat.lt_of_lt_of_eq (show t.length<t.length+2 by omega) hns_5.symm)) <| Qab (.int .u8 (165)) 28 rfl kj (Qaz 5 _ _ (.int .u8 (165)) ((hcs_5 t.length (Nat.lt_of_lt_of_eq (show t.length<t.length+2 by omega) hns_5.symm)).trans (congrArg (fun z=>some (Value.int .u8 z)) (Qjz t))) rfl kj kj) <| sg 5 kj <| Qab (.int .i64 ((t.length+1:Nat):Int)) 34 rfl kj (Qaf (u:=.int .i64 (IntKind.i64.wrap (((t.length:Nat):Int)+1))) kj (congrArg (Value.int .i64) (i64n _ _ (by omega) (by omega)))) <| Qab (.pointer (some ⟨gcs_5,ocs_5+(t.length+1),none⟩)) 35 rfl kj (QaN 33 _ _ .i64 (t.length+1) gcs_5 ocs_5 ((t++[165,90]).length) c 5 (some ⟨g,0,none⟩) _ has_5 rfl rfl kj kj kj kj (Nat.lt_of_lt_of_eq (show t.length+1<t.length+2 by omega) hns_5.symm)) <| Qab (.int .u8 (90)) 36 rfl kj (Qaz 5 _ _ (.int .u8 (90)) ((hcs_5 (t.length+1) (Nat.lt_of_lt_of_eq (show t.length+1<t.length+2 by omega) hns_5.symm)).trans (congrArg (fun z=>some (Value.int .u8 z)) (Qjy t))) rfl kj kj) <| sg 3 kj ?_
  refine sgN hK6 <| wp_ret ?_
  repeat (first | with_reducible refine goR1 ?_ | with_reducible refine goR2 ?_)
  exact (show bodyPost _ _ _ .ret _ _ from ret1 (.bool true) rfl (Qa0 kj) ⟨rfl,(Rely.Ext.refl w)⟩)
theorem numZ (w : World):Calls Tryd.prog 16 #[.nilIface] w (Ret w (.int .i64 0)):=by
  refine enter 19 [(0,.nilIface)] Tryd.func16 rfl rfl kj rfl <| sgB kj <| wp_seq_k fun K2 hK2=>sgB kj <| cond_true kj <| sgB kj <| wp_ret ?_
  repeat (first | with_reducible refine goR1 ?_ | with_reducible refine goR2 ?_)
  exact (show bodyPost _ _ _ .ret _ _ from ret1 (.int .i64 0) rfl (Qa0 kj) ⟨rfl,(Rely.Ext.refl w)⟩)
theorem numE (n : Int) (h0:n≠0) (w:World):Calls Tryd.prog 16 #[.iface 60 (.int .i64 n)] w (Ret w (.int .i64 n)):=by
  refine enter 19 [(0,.iface 60 (.int .i64 n))] Tryd.func16 rfl rfl kj rfl <| sgB kj <| wp_seq_k fun K2 hK2=>sgB kj <| cond_false kj <| wp_skip <| hK2 _ _ <| sgB kj <| wp_seq_k fun K5 hK5=>sgC fun K6 hK6=>?_
  refine sg 4 kj <| Qab (.bool false) 16 rfl kj (Qaf (u:=.bool ((n==0))) kj (congrArg Value.bool (beq_eq_false_iff_ne.2 h0))) <| sg 1 kj <| sgN hK6 <| cond_false kj <| wp_skip <| hK5 _ _ <| sgB kj <| wp_ret ?_
  repeat (first | with_reducible refine goR1 ?_ | with_reducible refine goR2 ?_)
  exact (show bodyPost _ _ _ .ret _ _ from ret1 (.int .i64 n) rfl (Qa0 kj) ⟨rfl,(Rely.Ext.refl w)⟩)
end Go.Proofs.YtophlgnnjjkkiaaDoor.Sha
end
section
namespace Go.Proofs.YtophlgnnjjkkiaaDoor.Cha
open Go Go.RowKit
open Rely Auto Own Sha
open Sha
theorem QjY (x y:Int):bits .xor .u8 x y=(((BitVec.ofInt 8 x)^^^(BitVec.ofInt 8 y)).toNat:Int):=by
  have h:bits .xor .u8 x y=IntKind.u8.wrap (((BitVec.ofInt 8 x)^^^(BitVec.ofInt 8 y)).toNat:Int):=rfl
  have h3:∀ z:Int,IntKind.u8.wrap z=z%256:=fun _=>rfl
  rw [h,h3]
  have:=((BitVec.ofInt 8 x)^^^(BitVec.ofInt 8 y)).isLt
  omega
theorem QeD (a b:Int) (h0:0≤a) (h1:a≤255):bits .xor .u8 (bits .xor .u8 a b) b=a:=by
  rw [QjY,QjY]
  have e:BitVec.ofInt 8 (((BitVec.ofInt 8 a)^^^(BitVec.ofInt 8 b)).toNat:Int)=(BitVec.ofInt 8 a)^^^(BitVec.ofInt 8 b):=by
    apply BitVec.eq_of_toNat_eq
    rw [BitVec.toNat_ofInt]
    have:=((BitVec.ofInt 8 a)^^^(BitVec.ofInt 8 b)).isLt
    omega
  rw [e,BitVec.xor_assoc,BitVec.xor_self,BitVec.xor_zero,BitVec.toNat_ofInt]
  omega
theorem QdY (ws : List Wd) (num:Int) (text:List Int):Qaj (mixV ws num text):=fun n hn=>by
  unfold mixV mxv at hn
  obtain ⟨i,-,rfl⟩:=List.mem_map.1 hn
  rw [QjY]
  have:=((BitVec.ofInt 8 (nth text i))^^^(BitVec.ofInt 8 (nth (Qbb ws (num+((id (i/64):Nat):Int))) (i%64)))).isLt
  omega
theorem Qie (ws : List Wd) (num:Int) (text:List Int) (i:Nat) (h:i<text.length):nth (mixV ws num text) i=bits .xor .u8 (nth text i) (nth (Qbb ws (num+((i/64:Nat):Int))) (i%64)):=Qj3 text ws num id text.length i h
theorem Qh1 {xs ys:List Int} (hl:xs.length=ys.length) (h:∀ i,i<xs.length→nth xs i=nth ys i):xs=ys:=by
  apply List.ext_getElem? 
  intro i
  rcases Nat.lt_or_ge i xs.length with hi | hi
  · have h1:=h i hi
    unfold nth at h1
    rw [List.getD_eq_getElem?_getD,List.getD_eq_getElem?_getD,List.getElem?_eq_getElem hi,List.getElem?_eq_getElem (by omega)] at h1
    rw [List.getElem?_eq_getElem hi,List.getElem?_eq_getElem (by omega)]
    exact congrArg some h1
  · rw [List.getElem?_eq_none hi,List.getElem?_eq_none (by omega)]
theorem QlN (ws : List Wd) (num:Int) (text:List Int) (hb:Qaj text):mixV ws num (mixV ws num text)=text:=by
  refine Qh1 (by rw [QbZ,QbZ]) fun i hi=>?_
  rw [QbZ,QbZ] at hi
  rw [Qie _ _ _ _ (by rw [QbZ]; exact hi),Qie _ _ _ _ hi]
  have h:=Qa8 hb i
  exact QeD _ _ (by omega) (by omega)
theorem QdW (xs : List Int) (k i:Nat) (h:i<k):nth (xs.take k) i=nth xs i:=by
  unfold nth; rw [List.getD_eq_getElem?_getD,List.getD_eq_getElem?_getD,List.getElem?_take,if_pos h]
theorem Qer (xs : List Int) (k i:Nat):nth (xs.drop k) i=nth xs (k+i):=by
  unfold nth; rw [List.getD_eq_getElem?_getD,List.getD_eq_getElem?_getD,List.getElem?_drop]
def MixR (base : Nat) (xs:List Int):Value→World→Prop:=fun v W=>∃ u,v=.tuple #[u,.nilIface]∧OwnN .u8 5 base xs u W
theorem Qcj (base : Nat) (xs:List Int):QbB Ext (MixR base xs):=fun _ _ _ hR ⟨u,e,h⟩=>⟨u,e,h.ext hR⟩
theorem MixG (n0 : Nat) (key nonce text:List Int) (v v2:Value) (B B2:Nat) (number:Int) (th tq:TypeId) (w:World) (hh:w.heap[2]? = some (.cells (ints .u32 [1634760805,857760878,2036477234,1797285236]) th)) (hq:w.heap[3]? = some (.cells (ints .i64 [0,4,8,12,1,5,9,13,2,6,10,14,3,7,11,15,0,5,10,15,1,6,11,12,2,7,8,13,3,4,9,14]) tq)) (hkl:key.length=32) (hn:RdK .u8 B nonce v w) (ht:RdK .u8 B2 text v2 w) (h:nonce.length=12) (r:Nat) (hr:number+(r:Int)=4294967296) (h1:0≤number) (h2:number≤4294967295) (hfit:text.length≤64*r) (htl:text.length≤2000000) (hn0:n0≤w.heap.size) :
    Calls Tryd.prog 47 #[.agg (ints .u8 key),v,.int .i64 number,v2] w (Qb8 w (MixR n0 (mixV (QaO key nonce) number text))) :=
  (Qn3 key nonce text v v2 B B2 number th tq w hh hq hkl hn ht h r hr h1 h2 hfit htl).mono fun e W' hg=>by
    obtain ⟨v',e1,e2,u,e3,e4⟩:=hg
    exact ⟨v',e1,e2,u,e3,e4.base hn0⟩
theorem u64n (n : Nat) (hn:n<18446744073709551616):IntKind.u64.wrap ((n:Nat):Int)=((n:Nat):Int):=by
  have:∀ z:Int,IntKind.u64.wrap z=z%2^64:=fun _=>rfl
  rw [this]; omega
end Go.Proofs.YtophlgnnjjkkiaaDoor.Cha
end
section
namespace Go.Proofs.YtophlgnnjjkkiaaDoor.Ae
open Go Go.RowKit
open Rely Auto Own Sha Cha
def lev : List Int→Int
  | []=>0
  | a::t=>a+256*lev t
def p256 (n : Nat):Int:=256^n
theorem QfD : p256 0=1:=rfl
theorem Qcb (n : Nat):p256 (n+1)=256*p256 n:=by unfold p256; rw [Int.pow_succ,Int.mul_comm]
theorem QcM (m n:Nat):p256 (m+n)=p256 m*p256 n:=by unfold p256; rw [Int.pow_add]
theorem Qcp (n : Nat):0<p256 n:=Int.pow_pos (by decide)
theorem Qd3 : ∀ (xs:List Int) (x:Int),lev (xs++[x])=lev xs+x*p256 xs.length
  | [],x=>by simp [lev,QfD]
  | a::t,x=>by
    rw [List.cons_append,lev,Qd3 t x,lev,List.length_cons,Qcb]
    grind
theorem Qh8 : ∀ (xs ys:List Int),lev (xs++ys)=lev xs+p256 xs.length*lev ys
  | [],ys=>by simp [lev,QfD]
  | a::t,ys=>by
    rw [List.cons_append,lev,Qh8 t ys,lev,List.length_cons,Qcb]
    grind
theorem Qbu : ∀ {xs:List Int},Qaj xs→0≤lev xs
  | [],_=>by simp [lev]
  | a::t,h=>by
    have h1:=h a (List.mem_cons_self ..)
    have h2:=Qbu (xs:=t) fun x hx=>h x (List.mem_cons_of_mem _ hx)
    rw [lev]; omega
theorem Qed : ∀ {xs:List Int},Qaj xs→lev xs<p256 xs.length
  | [],_=>by simp [lev,QfD]
  | a::t,h=>by
    have h1:=h a (List.mem_cons_self ..)
    have h2:=Qed (xs:=t) fun x hx=>h x (List.mem_cons_of_mem _ hx)
    rw [lev,List.length_cons,Qcb]; omega
theorem Qbo (xs : List Int) (i:Nat) (h:i<xs.length):lev (xs.take (i+1))=lev (xs.take i)+nth xs i*p256 i:=by
  have e:xs.take (i+1)=xs.take i++[nth xs i]:=by
    rw [List.take_add_one,List.getElem?_eq_getElem h]
    simp [nth,h]
  rw [e,Qd3,List.length_take,Nat.min_eq_left (by omega)]
theorem QcT (xs : List Int) (i:Nat) (h:xs.length≤i):lev (xs.take i)=lev xs:=by rw [List.take_of_length_le h]
theorem Qh7 : ∀ (xs:List Int) (m:Nat) (d:Int),m<xs.length→lev (xs.set m d)=lev xs+(d-nth xs m)*p256 m
  | [],m,d,h=>by simp at h
  | a::t,0,d,_=>by simp only [List.set_cons_zero,lev,QfD]; show d+256*lev t=a+256*lev t+(d-a)*1; omega
  | a::t,m+1,d,h=>by
    rw [List.set_cons_succ,lev,Qh7 t m d (by simpa using h),lev,Qcb]
    show a+256*(lev t+(d-nth t m)*p256 m)=a+256*lev t+(d-nth t m)*(256*p256 m)
    grind
theorem QjB (n : Nat):lev (List.replicate n 0)=0:=by
  induction n with
  | zero=>rfl
  | succ n ih=>rw [List.replicate_succ,lev,ih]; rfl
theorem QkQ (a b:Int):a/256/b=a/(256*b):=by rw [Int.ediv_ediv,if_neg (by omega)]; exact Int.sub_zero _
theorem Qds : ∀ (xs:List Int) (i:Nat),Qaj xs→nth xs i=lev xs/p256 i%256
  | [],i,_=>by
    have:nth ([]:List Int) i=0:=by simp [nth]
    rw [this]; simp [lev]
  | a::t,0,h=>by
    have h1:=h a (List.mem_cons_self ..)
    show a=lev (a::t)/1%256
    rw [lev]; omega
  | a::t,i+1,h=>by
    have h1:=h a (List.mem_cons_self ..)
    show nth t i=_
    rw [Qds t i fun x hx=>h x (List.mem_cons_of_mem _ hx),lev,Qcb,←QkQ,show (a+256*lev t)/256=lev t by omega]
theorem bytes_app {a b:List Int} (ha:Qaj a) (hb:Qaj b):Qaj (a++b):=fun x hx=>by
  rcases List.mem_append.1 hx with h | h
  · exact ha x h
  · exact hb x h
theorem QbE {x : Int} (h0:0≤x) (h1:x≤255):Qaj [x]:=fun y hy=>by rw [List.mem_singleton] at hy; subst hy; exact ⟨h0,h1⟩
theorem Qa9 {a : List Int} (ha:Qaj a) (n:Nat):Qaj (a.take n):=fun x hx=>ha x (List.mem_of_mem_take hx)
theorem QaQ {a : List Int} (ha:Qaj a) (n:Nat):Qaj (a.drop n):=fun x hx=>ha x (List.mem_of_mem_drop hx)
theorem Qbm {a : List Int} (ha:Qaj a) (n:Nat) {x:Int} (h0:0≤x) (h1:x≤255):Qaj (a.set n x):=fun y hy=>by
  rcases List.mem_or_eq_of_mem_set hy with h | h
  · exact ha y h
  · subst h; exact ⟨h0,h1⟩
def PP : Int:=1361129467683753853853498429727072845819
def QcR (r : Int) (t:List Int):Nat→Int
  | 0=>0
  | n+1=>(QcR r t n+lev (((t.drop (16*n)).take 16)++[1]))*r%PP
def QdA (r : Int) (t:List Int):Int:=QcR r t ((t.length+15)/16)
def by16 (v : Int):List Int:=(List.range 16).map fun i=>v/p256 i%256
def tagV (r s:Int) (t:List Int):List Int:=by16 (QdA r t+s)
theorem QaA (v : Int):(by16 v).length=16:=by simp [by16]
theorem QiS (v : Int):Qaj (by16 v):=fun x hx=>by
  obtain ⟨i,-,rfl⟩:=List.mem_map.1 hx
  omega
theorem Qgo (v : Int) (i:Nat) (h:i<16):nth (by16 v) i=v/p256 i%256:=by
  unfold nth by16
  rw [List.getD_eq_getElem?_getD,List.getElem?_map,List.getElem?_range h]; rfl
end Go.Proofs.YtophlgnnjjkkiaaDoor.Ae
end
section
namespace Go.Proofs.YtophlgnnjjkkiaaDoor.Ae
open Go Go.RowKit
open Rely Auto Own Sha
open Sha Cha
theorem QcS (a : List Int) (i:Nat) (h:a.length≤i):lev (a.take (i+1))=lev (a.take i)+0*p256 i:=by
  rw [QcT a i h,QcT a (i+1) (by omega)]; omega
theorem Qen {zs a b:List Int} {c n da db:Int} {i:Nat} (hl:zs.length=i) (hv:lev zs+c*p256 i=lev (a.take i)+lev (b.take i)) (hn:n=c+da+db) (ha:lev (a.take (i+1))=lev (a.take i)+da*p256 i) (hb:lev (b.take (i+1))=lev (b.take i)+db*p256 i) :
    lev (zs++[n%256])+n/256*p256 (i+1)=lev (a.take (i+1))+lev (b.take (i+1)):=by
  rw [ha,hb,Qd3,hl,Qcb]
  have h1:n=256*(n/256)+n%256:=by omega
  have h2:n*p256 i=256*(n/256)*p256 i+n%256*p256 i:=by rw [←Int.add_mul,←h1]
  have h3:n*p256 i=c*p256 i+da*p256 i+db*p256 i:=by rw [hn,Int.add_mul,Int.add_mul]
  grind
def DigR (base : Nat) (n:Int) (m:Nat):Value→World→Prop:=fun v W=>∃ zs:List Int,Qaj zs∧lev zs=n∧zs.length≤m∧OwnN .i64 3 base zs v W
theorem Qdi (b : List Int) (i:Nat) (h:i<b.length):b.take (i+1)=b.take i++[nth b i]:=by
  rw [List.take_add_one,List.getElem?_eq_getElem h]
  simp [nth,h]
theorem QdV (b : List Int) (v:Value) (B:Nat) (w:World) (hb:RdK .u8 B b v w) (hl:b.length≤1000000) (hbb:Qaj b):Calls Tryd.prog 78 #[v] w (Qb8 w (OwnN .i64 3 w.heap.size b)):=by
 obtain ⟨a_b,c_b,rfl,-⟩:=id hb
 refine enter 20 [(0,.slice a_b b.length c_b)] Tryd.func78 rfl rfl kj rfl <| sgB kj <| sgB kj <| wp_seq_k fun K3 hK3=>sgB kj <| wp_block <| Qa5 (fun (s1:Nat×Value)=>[(0,.slice a_b b.length c_b),(3,s1.2),(4,.int .i64 ((s1.1:Nat):Int))]) (fun (s1:Nat×Value) W=>(s1.1≤b.length)∧(OwnN .i64 3 w.heap.size (b.take s1.1) s1.2 W)∧(Ext w W)∧(Ext w W)) (fun (s1:Nat×Value)=>b.length-s1.1) (0,(.slice none 0 0)) ⟨kj,kj,kj,trivial⟩ ⟨(Nat.zero_le _),(by rw [List.take_zero]; exact Qbz _ _ _ _),(Rely.Ext.refl w),(Rely.Ext.refl w)⟩ fun s1 X1 V1 hI1=>?_
 obtain ⟨i,u⟩:=s1
 obtain ⟨hi,hu,kk1,xx1⟩:=hI1
 replace hi:i≤b.length:=hi
 replace hu:OwnN .i64 3 w.heap.size (b.take i) u V1:=hu
 replace kk1:Ext w V1:=kk1
 replace xx1:Ext w V1:=xx1
 have e1:=kk1
 refine wp_seq_k fun K5 hK5=>sgB kj <| Qay (t:=decide (((i:Nat):Int)<((b.length:Nat):Int))) kj (fun c7=>?_) (fun c7=>?_)
 ·skip
  have hlt8:i<b.length:=by have:=of_decide_eq_true c7; omega
  obtain ⟨grb8,orb8,harb8,-,hlrb8,hcrb8⟩:=QbF (RdK.ext hb xx1) (by omega)
  have hbi:=Qa8 hbb i
  refine wp_skip <| hK5 _ _ <| wp_seq_k fun K9 hK9=>wp_block <| Qai <| sg 3 kj <| Qab (.pointer (some ⟨grb8,orb8+i,none⟩)) 14 rfl kj (QaN 33 _ _ .i64 i grb8 orb8 b.length c_b 5 a_b _ harb8 rfl rfl kj kj kj kj (Nat.lt_of_lt_of_eq (show i<(b).length by omega) (rfl:(b).length=(b).length).symm)) <| Qab (.int .u8 (nth (b) (i))) 15 rfl kj (Qaz 5 _ _ (.int .u8 (nth (b) (i))) (hcrb8 i (Nat.lt_of_lt_of_eq (show i<(b).length by omega) (rfl:(b).length=(b).length).symm)) rfl kj kj) <| Qab (.int .i64 (nth b i)) 16 rfl kj (Qaf (u:=.int .i64 (IntKind.i64.wrap (nth (b) (i)))) kj (congrArg (Value.int .i64) (IntWalk.i64_in _ (by omega)))) <| Qa7 (ints .i64 ([(nth b i)])) 3 1 17 rfl kj kj fun g10 W2 l10 e2 r10_2=>?_
  have b10:=qT xx1.size l10
  refine QaH (k:=.i64) (T:=3) (xs:=b.take i) (ys:=[(nth b i)]) (V:=w) 8 (.tmp 11) (.tmp 17) 127 rfl kj kj (by decide) 18 rfl kj kj kj (hu.ext e2) (QaI (xs:=[(nth b i)]) (n:=1) rfl r10_2 (Qau r10_2) (show 1≤maxLen from by decide)) (by rw [List.length_take]; show _+1≤_; omega) (Rely.Ext.trans e1 e2) fun z1 W3 f12 y3 l3=>?_
  refine sg 1 kj <| Qao <| hK9 _ _ <| Qai <| sg 1 kj <| Qab (.int .i64 ((i+1:Nat):Int)) 10 rfl kj (Qaf (u:=.int .i64 (IntKind.i64.wrap (((i:Nat):Int)+1))) kj (congrArg (Value.int .i64) (i64n _ _ (by omega) (by omega)))) <| sg 1 kj <| Qao ?_
  repeat (first | with_reducible refine goX1 ?_ | with_reducible refine goX2 ?_ | with_reducible refine goX3 ?_)
  exact Qax ((i+1),z1) ⟨kj,kj,kj,trivial⟩ ⟨(by omega),(by rw [Qdi b i hlt8]; exact f12),y3,(Ext.low (Ext.tr xx1 e2) l3 (Rely.Ext.refl w).size)⟩ (by show b.length-(i+1)<b.length-i; omega)
 ·skip
  have heq8:i=b.length:=by have:=of_decide_eq_false c7; omega
  refine wp_exit <| hK3 _ _ <| sgB kj <| wp_ret ?_
  repeat (first | with_reducible refine goR1 ?_ | with_reducible refine goR2 ?_)
  exact (show bodyPost _ _ _ .ret _ _ from ret1 (u) rfl (Qa0 kj) ⟨u,rfl,xx1,OwnN.base (Rely.Ext.refl w).size (by have h9:=hu; rw [heq8,List.take_length] at h9; exact h9)⟩)
theorem QeI (a b:List Int) (v v2:Value) (B B2:Nat) (w:World) (ha:RdK .i64 B a v w) (hb:RdK .i64 B2 b v2 w) (hal:a.length≤1000000) (hbl:b.length≤1000000) (haa:Qaj a) (hbb:Qaj b) :
  Calls Tryd.prog 82 #[v,v2] w (Qb8 w (DigR w.heap.size (lev a+lev b) (max a.length b.length+1))):=by
 obtain ⟨a_a,c_a,rfl,-⟩:=id ha
 obtain ⟨a_b,c_b,rfl,-⟩:=id hb
 refine enter 54 [(0,.slice a_a a.length c_a),(1,.slice a_b b.length c_b)] Tryd.func82 rfl rfl kj rfl <| sgB kj <| sgB kj <| sgB kj <| wp_seq_k fun K4 hK4=>sgB kj <| wp_block <| Qa5 (fun (s1:Nat×Int×List Int×Value)=>[(0,.slice a_a a.length c_a),(1,.slice a_b b.length c_b),(5,s1.2.2.2),(6,.int .i64 (s1.2.1)),(7,.int .i64 ((s1.1:Nat):Int))]) (fun (s1:Nat×Int×List Int×Value) W=>(s1.2.2.1.length=s1.1)∧(Qaj s1.2.2.1)∧(lev s1.2.2.1+s1.2.1*p256 s1.1=lev (a.take s1.1)+lev (b.take s1.1))∧(0≤s1.2.1∧s1.2.1≤1)∧(s1.1≤max a.length b.length+1)∧(s1.1=max a.length b.length+1→s1.2.1=0)∧(OwnN .i64 3 w.heap.size s1.2.2.1 s1.2.2.2 W)∧(Ext w W)∧(Ext w W)) (fun (s1:Nat×Int×List Int×Value)=>max a.length b.length+1-s1.1) (0,0,[],(.slice none 0 0)) ⟨kj,kj,kj,kj,kj,trivial⟩ ⟨rfl,(fun x hx=>by cases hx),(by simp [lev]),⟨Int.le_refl _,by decide⟩,(Nat.zero_le _),(fun _=>rfl),(Qbz _ _ _ _),(Rely.Ext.refl w),(Rely.Ext.refl w)⟩ fun s1 X1 V1 hI1=>?_
 obtain ⟨i,c,zs,u⟩:=s1
 obtain ⟨hzl,hzb,hv,hc,him,hm0,hu,kk1,xx1⟩:=hI1
 replace hzl:zs.length=i:=hzl
 replace hzb:Qaj zs:=hzb
 replace hv:lev zs+c*p256 i=lev (a.take i)+lev (b.take i):=hv
 replace hc:0≤c∧c≤1:=hc
 replace him:i≤max a.length b.length+1:=him
 replace hm0:i=max a.length b.length+1→c=0:=hm0
 replace hu:OwnN .i64 3 w.heap.size zs u V1:=hu
 replace kk1:Ext w V1:=kk1
 replace xx1:Ext w V1:=xx1
 have e1:=kk1
 refine wp_seq_k fun K6 hK6=>wp_seq_k fun K7 hK7=>?_
 rcases (show i<a.length∨(a.length≤i∧i<b.length)∨(a.length≤i∧b.length≤i∧0<c)∨(a.length≤i∧b.length≤i∧¬ 0<c) by omega) with hq | hq | hq | hq
 ·skip
  have hia:i<a.length:=hq
  have hai:=Qa8 haa i
  refine Qai <| sg 3 kj <| Qab (.bool true) 12 rfl kj (Qaf (u:=.bool (decide (((i:Nat):Int)<((a.length:Nat):Int)))) kj (congrArg Value.bool (decide_eq_true (by omega)))) <| sg 10 kj <| sgN hK7 <| cond_true kj <| wp_skip <| hK6 _ _ <| wp_seq_k fun K8 hK8=>wp_block ?_
  refine sgB kj <| wp_seq_k fun K10 hK10=>sgC fun K11 hK11=>sg 3 kj <| Qab (.bool true) 29 rfl kj (Qaf (u:=.bool (decide (((i:Nat):Int)<((a.length:Nat):Int)))) kj (congrArg Value.bool (decide_eq_true (by omega)))) <| sgN hK11 <| cond_true kj <| Qai <| sg 1 kj ?_
  obtain ⟨gra12,ora12,hara12,-,hlra12,hcra12⟩:=QbF (RdK.ext ha xx1) (by omega)
  refine sg 2 kj <| Qab (.pointer (some ⟨gra12,ora12+i,none⟩)) 33 rfl kj (QaN 127 _ _ .i64 i gra12 ora12 a.length c_a 3 a_a _ hara12 rfl rfl kj kj kj kj (Nat.lt_of_lt_of_eq (show i<(a).length by omega) (rfl:(a).length=(a).length).symm)) <| Qab (.int .i64 (nth (a) (i))) 34 rfl kj (Qaz 3 _ _ (.int .i64 (nth (a) (i))) (hcra12 i (Nat.lt_of_lt_of_eq (show i<(a).length by omega) (rfl:(a).length=(a).length).symm)) rfl kj kj) <| Qab (.int .i64 (c+nth (a) (i))) 35 rfl kj (Qaf (u:=.int .i64 (IntKind.i64.wrap (c+(nth (a) (i))))) kj (congrArg (Value.int .i64) (IntWalk.i64_in _ (by omega)))) <| sg 1 kj <| Qao <| hK10 _ _ <| wp_seq_k fun K13 hK13=>sgB kj <| Qay (t:=decide (((i:Nat):Int)<((b.length:Nat):Int))) kj (fun c15=>?_) (fun c15=>?_)
  ·skip
   have hib:i<b.length:=by have:=of_decide_eq_true c15; omega
   have hbi:=Qa8 hbb i
   refine Qai <| sg 1 kj ?_
   obtain ⟨grb16,orb16,harb16,-,hlrb16,hcrb16⟩:=QbF (RdK.ext hb xx1) (by omega)
   refine sg 2 kj <| Qab (.pointer (some ⟨grb16,orb16+i,none⟩)) 43 rfl kj (QaN 127 _ _ .i64 i grb16 orb16 b.length c_b 3 a_b _ harb16 rfl rfl kj kj kj kj (Nat.lt_of_lt_of_eq (show i<(b).length by omega) (rfl:(b).length=(b).length).symm)) <| Qab (.int .i64 (nth (b) (i))) 44 rfl kj (Qaz 3 _ _ (.int .i64 (nth (b) (i))) (hcrb16 i (Nat.lt_of_lt_of_eq (show i<(b).length by omega) (rfl:(b).length=(b).length).symm)) rfl kj kj) <| Qab (.int .i64 (c+nth (a) (i)+nth (b) (i))) 45 rfl kj (Qaf (u:=.int .i64 (IntKind.i64.wrap ((c+nth (a) (i))+(nth (b) (i))))) kj (congrArg (Value.int .i64) (IntWalk.i64_in _ (by omega)))) <| sg 1 kj <| Qao <| hK13 _ _ <| sgC fun K17 hK17=>sg 2 kj <| Qab (.int .i64 ((c+nth (a) (i)+nth (b) (i))%256)) 48 rfl kj (Qaf (u:=.int .i64 (Int.tmod ((c+nth (a) (i)+nth (b) (i))) (256))) kj (congrArg (Value.int .i64) (show Int.tmod (c+nth (a) (i)+nth (b) (i)) 256=(c+nth (a) (i)+nth (b) (i))%256 from Int.tmod_eq_emod_of_nonneg (by omega)))) ?_
   refine Qa7 (ints .i64 ([((c+nth (a) (i)+nth (b) (i))%256)])) 3 1 49 rfl kj kj fun g18 W2 l18 e2 r18_2=>?_
   have x2:=Ext.tr xx1 e2
   have b18:=qT xx1.size l18
   have y0_2:=(Rely.Ext.trans e1 e2)
   refine QaH (k:=.i64) (T:=3) (xs:=zs) (ys:=[((c+nth (a) (i)+nth (b) (i))%256)]) (V:=w) 8 (.tmp 46) (.tmp 49) 127 rfl kj kj (by decide) 50 rfl kj kj kj (hu.ext e2) (QaI (xs:=[((c+nth (a) (i)+nth (b) (i))%256)]) (n:=1) rfl r18_2 (Qau r18_2) (show 1≤maxLen from by decide)) (by show zs.length+1≤_; omega) y0_2 fun z1 W3 f20 y3 l3=>?_
   have x3:=Ext.low x2 l3 (Rely.Ext.refl w).size
   refine sg 1 kj <| sgN hK17 <| Qai <| sg 1 kj <| Qab (.int .i64 ((c+nth (a) (i)+nth (b) (i))/256)) 52 rfl kj (Qaf (u:=.int .i64 (IntKind.i64.wrap (Int.tdiv ((c+nth (a) (i)+nth (b) (i))) (256)))) kj (congrArg (Value.int .i64) (by rw [show Int.tdiv (c+nth (a) (i)+nth (b) (i)) 256=(c+nth (a) (i)+nth (b) (i))/256 from Int.tdiv_eq_ediv_of_nonneg (by omega)]; exact IntWalk.i64_in _ (by omega)))) ?_
   refine sg 1 kj <| Qao <| hK8 _ _ <| Qai <| sg 1 kj <| Qab (.int .i64 ((i+1:Nat):Int)) 24 rfl kj (Qaf (u:=.int .i64 (IntKind.i64.wrap (((i:Nat):Int)+1))) kj (congrArg (Value.int .i64) (i64n _ _ (by omega) (by omega)))) <| sg 1 kj <| Qao ?_
   repeat (first | with_reducible refine goX1 ?_ | with_reducible refine goX2 ?_ | with_reducible refine goX3 ?_)
   exact Qax ((i+1),((c+nth (a) (i)+nth (b) (i))/256),(zs++[(c+nth (a) (i)+nth (b) (i))%256]),z1) ⟨kj,kj,kj,kj,kj,trivial⟩ ⟨(by rw [List.length_append,hzl]; rfl),(bytes_app hzb (QbE (by omega) (by omega))),(Qen (c:=c) (n:=c+nth (a) (i)+nth (b) (i)) (da:=nth a i) (db:=nth b i) hzl hv (by omega) (Qbo a i hia) (Qbo b i hib)),(show 0≤(c+nth (a) (i)+nth (b) (i))/256∧(c+nth (a) (i)+nth (b) (i))/256≤1 by omega),(show i+1≤max a.length b.length+1 by omega),(show i+1=max a.length b.length+1→(c+nth (a) (i)+nth (b) (i))/256=0 by intro h8; omega),f20,y3,x3⟩ (by show max a.length b.length+1-(i+1)<max a.length b.length+1-i; omega)
  ·skip
   have hnb:b.length≤i:=by have:=of_decide_eq_false c15; omega
   refine wp_skip <| hK13 _ _ <| sgC fun K22 hK22=>sg 2 kj <| Qab (.int .i64 ((c+nth (a) (i))%256)) 48 rfl kj (Qaf (u:=.int .i64 (Int.tmod ((c+nth (a) (i))) (256))) kj (congrArg (Value.int .i64) (show Int.tmod (c+nth (a) (i)) 256=(c+nth (a) (i))%256 from Int.tmod_eq_emod_of_nonneg (by omega)))) <| Qa7 (ints .i64 ([((c+nth (a) (i))%256)])) 3 1 49 rfl kj kj fun g23 W2 l23 e2 r23_2=>?_
   have x2:=Ext.tr xx1 e2
   have b23:=qT xx1.size l23
   have y0_2:=(Rely.Ext.trans e1 e2)
   refine QaH (k:=.i64) (T:=3) (xs:=zs) (ys:=[((c+nth (a) (i))%256)]) (V:=w) 8 (.tmp 46) (.tmp 49) 127 rfl kj kj (by decide) 50 rfl kj kj kj (hu.ext e2) (QaI (xs:=[((c+nth (a) (i))%256)]) (n:=1) rfl r23_2 (Qau r23_2) (show 1≤maxLen from by decide)) (by show zs.length+1≤_; omega) y0_2 fun z2 W3 f25 y3 l3=>?_
   have x3:=Ext.low x2 l3 (Rely.Ext.refl w).size
   refine sg 1 kj <| sgN hK22 <| Qai <| sg 1 kj <| Qab (.int .i64 ((c+nth (a) (i))/256)) 52 rfl kj (Qaf (u:=.int .i64 (IntKind.i64.wrap (Int.tdiv ((c+nth (a) (i))) (256)))) kj (congrArg (Value.int .i64) (by rw [show Int.tdiv (c+nth (a) (i)) 256=(c+nth (a) (i))/256 from Int.tdiv_eq_ediv_of_nonneg (by omega)]; exact IntWalk.i64_in _ (by omega)))) ?_
   refine sg 1 kj <| Qao <| hK8 _ _ <| Qai <| sg 1 kj <| Qab (.int .i64 ((i+1:Nat):Int)) 24 rfl kj (Qaf (u:=.int .i64 (IntKind.i64.wrap (((i:Nat):Int)+1))) kj (congrArg (Value.int .i64) (i64n _ _ (by omega) (by omega)))) <| sg 1 kj <| Qao ?_
   repeat (first | with_reducible refine goX1 ?_ | with_reducible refine goX2 ?_ | with_reducible refine goX3 ?_)
   exact Qax ((i+1),((c+nth (a) (i))/256),(zs++[(c+nth (a) (i))%256]),z2) ⟨kj,kj,kj,kj,kj,trivial⟩ ⟨(by rw [List.length_append,hzl]; rfl),(bytes_app hzb (QbE (by omega) (by omega))),(Qen (c:=c) (n:=c+nth (a) (i)) (da:=nth a i) (db:=0) hzl hv (by omega) (Qbo a i hia) (QcS b i hnb)),(show 0≤(c+nth (a) (i))/256∧(c+nth (a) (i))/256≤1 by omega),(show i+1≤max a.length b.length+1 by omega),(show i+1=max a.length b.length+1→(c+nth (a) (i))/256=0 by intro h8; omega),f25,y3,x3⟩ (by show max a.length b.length+1-(i+1)<max a.length b.length+1-i; omega)
 ·skip
  have hna:a.length≤i:=hq.1
  have hib:i<b.length:=hq.2
  have hbi:=Qa8 hbb i
  refine Qai <| sg 3 kj <| Qab (.bool false) 12 rfl kj (Qaf (u:=.bool (decide (((i:Nat):Int)<((a.length:Nat):Int)))) kj (congrArg Value.bool (decide_eq_false (by omega)))) <| sg 4 kj <| Qab (.bool true) 17 rfl kj (Qaf (u:=.bool (decide (((i:Nat):Int)<((b.length:Nat):Int)))) kj (congrArg Value.bool (decide_eq_true (by omega)))) <| sg 5 kj <| sgN hK7 <| cond_true kj <| wp_skip <| hK6 _ _ ?_
  refine wp_seq_k fun K27 hK27=>wp_block <| sgB kj <| wp_seq_k fun K29 hK29=>sgC fun K30 hK30=>sg 3 kj <| Qab (.bool false) 29 rfl kj (Qaf (u:=.bool (decide (((i:Nat):Int)<((a.length:Nat):Int)))) kj (congrArg Value.bool (decide_eq_false (by omega)))) <| sgN hK30 <| cond_false kj <| wp_skip ?_
  refine hK29 _ _ <| wp_seq_k fun K31 hK31=>sgC fun K32 hK32=>sg 3 kj <| Qab (.bool true) 39 rfl kj (Qaf (u:=.bool (decide (((i:Nat):Int)<((b.length:Nat):Int)))) kj (congrArg Value.bool (decide_eq_true (by omega)))) <| sgN hK32 <| cond_true kj <| Qai <| sg 1 kj ?_
  obtain ⟨grb33,orb33,harb33,-,hlrb33,hcrb33⟩:=QbF (RdK.ext hb xx1) (by omega)
  refine sg 2 kj <| Qab (.pointer (some ⟨grb33,orb33+i,none⟩)) 43 rfl kj (QaN 127 _ _ .i64 i grb33 orb33 b.length c_b 3 a_b _ harb33 rfl rfl kj kj kj kj (Nat.lt_of_lt_of_eq (show i<(b).length by omega) (rfl:(b).length=(b).length).symm)) <| Qab (.int .i64 (nth (b) (i))) 44 rfl kj (Qaz 3 _ _ (.int .i64 (nth (b) (i))) (hcrb33 i (Nat.lt_of_lt_of_eq (show i<(b).length by omega) (rfl:(b).length=(b).length).symm)) rfl kj kj) <| Qab (.int .i64 (c+nth (b) (i))) 45 rfl kj (Qaf (u:=.int .i64 (IntKind.i64.wrap (c+(nth (b) (i))))) kj (congrArg (Value.int .i64) (IntWalk.i64_in _ (by omega)))) <| sg 1 kj <| Qao <| hK31 _ _ <| sgC fun K34 hK34=>sg 2 kj <| Qab (.int .i64 ((c+nth (b) (i))%256)) 48 rfl kj (Qaf (u:=.int .i64 (Int.tmod ((c+nth (b) (i))) (256))) kj (congrArg (Value.int .i64) (show Int.tmod (c+nth (b) (i)) 256=(c+nth (b) (i))%256 from Int.tmod_eq_emod_of_nonneg (by omega)))) ?_
  refine Qa7 (ints .i64 ([((c+nth (b) (i))%256)])) 3 1 49 rfl kj kj fun g35 W2 l35 e2 r35_2=>?_
  have x2:=Ext.tr xx1 e2
  have b35:=qT xx1.size l35
  have y0_2:=(Rely.Ext.trans e1 e2)
  refine QaH (k:=.i64) (T:=3) (xs:=zs) (ys:=[((c+nth (b) (i))%256)]) (V:=w) 8 (.tmp 46) (.tmp 49) 127 rfl kj kj (by decide) 50 rfl kj kj kj (hu.ext e2) (QaI (xs:=[((c+nth (b) (i))%256)]) (n:=1) rfl r35_2 (Qau r35_2) (show 1≤maxLen from by decide)) (by show zs.length+1≤_; omega) y0_2 fun z3 W3 f37 y3 l3=>?_
  have x3:=Ext.low x2 l3 (Rely.Ext.refl w).size
  refine sg 1 kj <| sgN hK34 <| Qai <| sg 1 kj <| Qab (.int .i64 ((c+nth (b) (i))/256)) 52 rfl kj (Qaf (u:=.int .i64 (IntKind.i64.wrap (Int.tdiv ((c+nth (b) (i))) (256)))) kj (congrArg (Value.int .i64) (by rw [show Int.tdiv (c+nth (b) (i)) 256=(c+nth (b) (i))/256 from Int.tdiv_eq_ediv_of_nonneg (by omega)]; exact IntWalk.i64_in _ (by omega)))) ?_
  refine sg 1 kj <| Qao <| hK27 _ _ <| Qai <| sg 1 kj <| Qab (.int .i64 ((i+1:Nat):Int)) 24 rfl kj (Qaf (u:=.int .i64 (IntKind.i64.wrap (((i:Nat):Int)+1))) kj (congrArg (Value.int .i64) (i64n _ _ (by omega) (by omega)))) <| sg 1 kj <| Qao ?_
  repeat (first | with_reducible refine goX1 ?_ | with_reducible refine goX2 ?_ | with_reducible refine goX3 ?_)
  exact Qax ((i+1),((c+nth (b) (i))/256),(zs++[(c+nth (b) (i))%256]),z3) ⟨kj,kj,kj,kj,kj,trivial⟩ ⟨(by rw [List.length_append,hzl]; rfl),(bytes_app hzb (QbE (by omega) (by omega))),(Qen (c:=c) (n:=c+nth (b) (i)) (da:=0) (db:=nth b i) hzl hv (by omega) (QcS a i hna) (Qbo b i hib)),(show 0≤(c+nth (b) (i))/256∧(c+nth (b) (i))/256≤1 by omega),(show i+1≤max a.length b.length+1 by omega),(show i+1=max a.length b.length+1→(c+nth (b) (i))/256=0 by intro h8; omega),f37,y3,x3⟩ (by show max a.length b.length+1-(i+1)<max a.length b.length+1-i; omega)
 ·skip
  have hna:a.length≤i:=hq.1
  have hnb:b.length≤i:=hq.2.1
  have hc0:0<c:=hq.2.2
  refine Qai <| sg 3 kj <| Qab (.bool false) 12 rfl kj (Qaf (u:=.bool (decide (((i:Nat):Int)<((a.length:Nat):Int)))) kj (congrArg Value.bool (decide_eq_false (by omega)))) <| sg 4 kj <| Qab (.bool false) 17 rfl kj (Qaf (u:=.bool (decide (((i:Nat):Int)<((b.length:Nat):Int)))) kj (congrArg Value.bool (decide_eq_false (by omega)))) <| sg 3 kj <| Qab (.bool true) 21 rfl kj (Qaf (u:=.bool (decide (c>0))) kj (congrArg Value.bool (decide_eq_true (by omega)))) <| sg 1 kj <| sgN hK7 <| cond_true kj ?_
  refine wp_skip <| hK6 _ _ <| wp_seq_k fun K39 hK39=>wp_block <| sgB kj <| wp_seq_k fun K41 hK41=>sgC fun K42 hK42=>sg 3 kj <| Qab (.bool false) 29 rfl kj (Qaf (u:=.bool (decide (((i:Nat):Int)<((a.length:Nat):Int)))) kj (congrArg Value.bool (decide_eq_false (by omega)))) <| sgN hK42 ?_
  refine cond_false kj <| wp_skip <| hK41 _ _ <| wp_seq_k fun K43 hK43=>sgC fun K44 hK44=>sg 3 kj <| Qab (.bool false) 39 rfl kj (Qaf (u:=.bool (decide (((i:Nat):Int)<((b.length:Nat):Int)))) kj (congrArg Value.bool (decide_eq_false (by omega)))) <| sgN hK44 <| cond_false kj <| wp_skip ?_
  refine hK43 _ _ <| sgC fun K45 hK45=>sg 2 kj <| Qab (.int .i64 ((c)%256)) 48 rfl kj (Qaf (u:=.int .i64 (Int.tmod (c) (256))) kj (congrArg (Value.int .i64) (show Int.tmod (c) 256=(c)%256 from Int.tmod_eq_emod_of_nonneg (by omega)))) <| Qa7 (ints .i64 ([((c)%256)])) 3 1 49 rfl kj kj fun g46 W2 l46 e2 r46_2=>?_
  have x2:=Ext.tr xx1 e2
  have b46:=qT xx1.size l46
  have y0_2:=(Rely.Ext.trans e1 e2)
  refine QaH (k:=.i64) (T:=3) (xs:=zs) (ys:=[((c)%256)]) (V:=w) 8 (.tmp 46) (.tmp 49) 127 rfl kj kj (by decide) 50 rfl kj kj kj (hu.ext e2) (QaI (xs:=[((c)%256)]) (n:=1) rfl r46_2 (Qau r46_2) (show 1≤maxLen from by decide)) (by show zs.length+1≤_; omega) y0_2 fun z4 W3 f48 y3 l3=>?_
  have x3:=Ext.low x2 l3 (Rely.Ext.refl w).size
  refine sg 1 kj <| sgN hK45 <| Qai <| sg 1 kj <| Qab (.int .i64 ((c)/256)) 52 rfl kj (Qaf (u:=.int .i64 (IntKind.i64.wrap (Int.tdiv (c) (256)))) kj (congrArg (Value.int .i64) (by rw [show Int.tdiv (c) 256=(c)/256 from Int.tdiv_eq_ediv_of_nonneg (by omega)]; exact IntWalk.i64_in _ (by omega)))) ?_
  refine sg 1 kj <| Qao <| hK39 _ _ <| Qai <| sg 1 kj <| Qab (.int .i64 ((i+1:Nat):Int)) 24 rfl kj (Qaf (u:=.int .i64 (IntKind.i64.wrap (((i:Nat):Int)+1))) kj (congrArg (Value.int .i64) (i64n _ _ (by omega) (by omega)))) <| sg 1 kj <| Qao ?_
  repeat (first | with_reducible refine goX1 ?_ | with_reducible refine goX2 ?_ | with_reducible refine goX3 ?_)
  exact Qax ((i+1),((c)/256),(zs++[(c)%256]),z4) ⟨kj,kj,kj,kj,kj,trivial⟩ ⟨(by rw [List.length_append,hzl]; rfl),(bytes_app hzb (QbE (by omega) (by omega))),(Qen (c:=c) (n:=c) (da:=0) (db:=0) hzl hv (by omega) (QcS a i hna) (QcS b i hnb)),(show 0≤(c)/256∧(c)/256≤1 by omega),(show i+1≤max a.length b.length+1 by omega),(show i+1=max a.length b.length+1→(c)/256=0 by intro h8; omega),f48,y3,x3⟩ (by show max a.length b.length+1-(i+1)<max a.length b.length+1-i; omega)
 ·skip
  have hna:a.length≤i:=hq.1
  have hnb:b.length≤i:=hq.2.1
  have hc0:c=0:=by omega
  refine Qai <| sg 3 kj <| Qab (.bool false) 12 rfl kj (Qaf (u:=.bool (decide (((i:Nat):Int)<((a.length:Nat):Int)))) kj (congrArg Value.bool (decide_eq_false (by omega)))) <| sg 4 kj <| Qab (.bool false) 17 rfl kj (Qaf (u:=.bool (decide (((i:Nat):Int)<((b.length:Nat):Int)))) kj (congrArg Value.bool (decide_eq_false (by omega)))) <| sg 3 kj <| Qab (.bool false) 21 rfl kj (Qaf (u:=.bool (decide (c>0))) kj (congrArg Value.bool (decide_eq_false (by omega)))) <| sg 1 kj <| sgN hK7 <| cond_false kj ?_
  refine wp_exit <| hK4 _ _ <| sgB kj <| wp_ret ?_
  repeat (first | with_reducible refine goR1 ?_ | with_reducible refine goR2 ?_)
  exact (show bodyPost _ _ _ .ret _ _ from ret1 (u) rfl (Qa0 kj) ⟨u,rfl,xx1,zs,hzb,(by rw [hc0,QcT a i hna,QcT b i hnb] at hv; omega),(by omega),OwnN.base (Rely.Ext.refl w).size hu⟩)
theorem QfA (a : List Int) (a_a:Option Addr) (c_a:Nat) (B:Nat) (w:World) (ha:RdK .i64 B a (.slice a_a a.length c_a) w) (hal:a.length≤1000000) :
  Calls Tryd.prog 80 #[.slice a_a a.length c_a] w (Qb8 w (fun v W=>∃ m,m≤a.length∧v=.slice a_a m c_a∧lev (a.take m)=lev a∧(m=0∨nth a (m-1)≠0))):=by
 have hcap:a.length≤c_a:=by
  obtain ⟨_,_,e,q2,_⟩:=id ha
  simp only [Value.slice.injEq] at e
  obtain ⟨-,-,rfl⟩:=e
  exact q2
 refine enter 21 [(0,.slice a_a a.length c_a)] Tryd.func80 rfl rfl kj rfl <| sgB kj <| wp_seq_k fun K2 hK2=>wp_block <| Qa5 (fun (s1:Nat)=>[(0,.slice a_a s1 c_a)]) (fun (s1:Nat) W=>(s1≤a.length)∧(lev (a.take s1)=lev a)∧(Ext w W)∧(Ext w W)) (fun (s1:Nat)=>s1) a.length ⟨kj,trivial⟩ ⟨(qR _),(by rw [List.take_length]),(Rely.Ext.refl w),(Rely.Ext.refl w)⟩ fun s1 X1 V1 hI1=>?_
 obtain ⟨m,hs1⟩:∃ z,z=s1:=⟨_,rfl⟩
 subst hs1
 obtain ⟨hm,hv,kk1,xx1⟩:=hI1
 replace hm:m≤a.length:=hm
 replace hv:lev (a.take m)=lev a:=hv
 replace kk1:Ext w V1:=kk1
 replace xx1:Ext w V1:=xx1
 have e1:=kk1
 refine wp_seq_k fun K3 hK3=>wp_seq_k fun K4 hK4=>?_
 rcases (show m=0∨(0<m∧nth a (m-1)=0)∨(0<m∧nth a (m-1)≠0) by by_cases h1:nth a (m-1)=0 <;> omega) with hq | hq | hq
 ·skip
  have hm0:m=0:=hq
  refine Qai <| sg 2 kj <| Qab (.bool false) 5 rfl kj (Qaf (u:=.bool (decide (((m:Nat):Int)>0))) kj (congrArg Value.bool (decide_eq_false (by omega)))) <| sg 9 kj <| sgN hK4 <| cond_false kj <| wp_exit <| hK2 _ _ <| sgB kj <| wp_ret ?_
  repeat (first | with_reducible refine goR1 ?_ | with_reducible refine goR2 ?_)
  exact (show bodyPost _ _ _ .ret _ _ from ret1 (.slice a_a m c_a) rfl (Qa0 kj) ⟨_,rfl,xx1,m,hm,rfl,hv,.inl hm0⟩)
 ·skip
  have hm1:0<m:=hq.1
  obtain ⟨gx,ox,hax,-,hlx,hcx⟩:=QbF (RdK.ext ha xx1) (by omega)
  refine Qai <| sg 2 kj <| Qab (.bool true) 5 rfl kj (Qaf (u:=.bool (decide (((m:Nat):Int)>0))) kj (congrArg Value.bool (decide_eq_true (by omega)))) <| sg 4 kj <| Qab (.int .i64 (((m-1:Nat):Int))) 10 rfl kj (Qaf (u:=.int .i64 (IntKind.i64.wrap (((m:Nat):Int)-1))) kj (congrArg (Value.int .i64) (by rw [show (((m:Nat):Int)-1)=((m-1:Nat):Int) by omega]; exact IntWalk.i64_in _ (by omega)))) ?_
  refine Qab (.pointer (some ⟨gx,ox+(m-1),none⟩)) 11 rfl kj (QaN 127 _ _ .i64 (m-1) gx ox m c_a 3 a_a _ hax rfl rfl kj kj kj kj (by omega)) <| Qab (.int .i64 (nth a (m-1))) 12 rfl kj (Qaz 3 _ _ (.int .i64 (nth a (m-1))) (hcx (m-1) (by omega)) rfl kj kj) <| Qab (.bool true) 13 rfl kj (Qaf (u:=.bool (((nth a (m-1))==0))) kj (congrArg Value.bool (by rw [hq.2]; rfl))) ?_
  refine sg 1 kj <| sgN hK4 <| cond_true kj <| wp_skip <| hK3 _ _ <| wp_block <| Qai <| sg 3 kj <| Qab (.int .i64 (((m-1:Nat):Int))) 18 rfl kj (Qaf (u:=.int .i64 (IntKind.i64.wrap (((m:Nat):Int)-1))) kj (congrArg (Value.int .i64) (by rw [show (((m:Nat):Int)-1)=((m-1:Nat):Int) by omega]; exact IntWalk.i64_in _ (by omega)))) ?_
  refine Qab (.slice a_a (m-1) c_a) 19 rfl kj (Qcm (len:=m) 127 _ _ (m-1) 3 rfl kj kj kj .i64 kj (by omega)) <| sg 1 kj <| Qao ?_
  repeat (first | with_reducible refine goX1 ?_ | with_reducible refine goX2 ?_ | with_reducible refine goX3 ?_)
  exact Qax (m-1) ⟨kj,trivial⟩ ⟨(by omega),(by have h9:=Qbo a (m-1) (by omega); rw [show m-1+1=m by omega,hq.2] at h9; rw [←hv,h9]; omega),e1,xx1⟩ (by show m-1<m; omega)
 ·skip
  have hm1:0<m:=hq.1
  obtain ⟨gx,ox,hax,-,hlx,hcx⟩:=QbF (RdK.ext ha xx1) (by omega)
  refine Qai <| sg 2 kj <| Qab (.bool true) 5 rfl kj (Qaf (u:=.bool (decide (((m:Nat):Int)>0))) kj (congrArg Value.bool (decide_eq_true (by omega)))) <| sg 4 kj <| Qab (.int .i64 (((m-1:Nat):Int))) 10 rfl kj (Qaf (u:=.int .i64 (IntKind.i64.wrap (((m:Nat):Int)-1))) kj (congrArg (Value.int .i64) (by rw [show (((m:Nat):Int)-1)=((m-1:Nat):Int) by omega]; exact IntWalk.i64_in _ (by omega)))) ?_
  refine Qab (.pointer (some ⟨gx,ox+(m-1),none⟩)) 11 rfl kj (QaN 127 _ _ .i64 (m-1) gx ox m c_a 3 a_a _ hax rfl rfl kj kj kj kj (by omega)) <| Qab (.int .i64 (nth a (m-1))) 12 rfl kj (Qaz 3 _ _ (.int .i64 (nth a (m-1))) (hcx (m-1) (by omega)) rfl kj kj) <| Qab (.bool false) 13 rfl kj (Qaf (u:=.bool (((nth a (m-1))==0))) kj (congrArg Value.bool (beq_eq_false_iff_ne.2 hq.2))) <| sg 1 kj <| sgN hK4 <| cond_false kj <| wp_exit <| hK2 _ _ <| sgB kj <| wp_ret ?_
  repeat (first | with_reducible refine goR1 ?_ | with_reducible refine goR2 ?_)
  exact (show bodyPost _ _ _ .ret _ _ from ret1 (.slice a_a m c_a) rfl (Qa0 kj) ⟨_,rfl,xx1,m,hm,rfl,hv,.inr hq.2⟩)
end Go.Proofs.YtophlgnnjjkkiaaDoor.Ae
end
section
namespace Go.Proofs.YtophlgnnjjkkiaaDoor.Ae
open Go Go.RowKit
open Rely Auto Own Sha
open Sha Cha
theorem Qj6 {x y:Int} (hx:0≤x∧x<256) (hy:0≤y∧y<256):0≤x*y∧x*y≤65025:=by
  refine ⟨Int.mul_nonneg hx.1 hy.1,?_⟩
  have h1:x*y≤255*y:=Int.mul_le_mul_of_nonneg_right (by omega) hy.1
  omega
theorem Qf6 {qs os b:List Int} {c n x y:Int} {i j:Nat} (hl:i+j<qs.length) (hv:lev qs+c*p256 (i+j)=lev os+x*p256 i*lev (b.take j)) (hn:n=nth qs (i+j)+c+x*y) (hb:lev (b.take (j+1))=lev (b.take j)+y*p256 j) :
    lev (qs.set (i+j) (n%256))+n/256*p256 (i+(j+1))=lev os+x*p256 i*lev (b.take (j+1)):=by
  rw [Qh7 qs (i+j) _ hl,hb,←Nat.add_assoc,Qcb]
  have hp:=QcM i j
  have h1:n=256*(n/256)+n%256:=by omega
  have h2:n*p256 (i+j)=256*(n/256)*p256 (i+j)+n%256*p256 (i+j):=by rw [←Int.add_mul,←h1]
  have h3:n*p256 (i+j)=nth qs (i+j)*p256 (i+j)+c*p256 (i+j)+x*y*p256 (i+j):=by rw [hn,Int.add_mul,Int.add_mul]
  have h4:x*y*p256 (i+j)=x*p256 i*(y*p256 j):=by rw [hp]; grind
  have h5:x*p256 i*(lev (b.take j)+y*p256 j)=x*p256 i*lev (b.take j)+x*p256 i*(y*p256 j):=Int.mul_add ..
  rw [h5,Int.sub_mul]
  grind
theorem Qiy {a b os:List Int} {i:Nat} (ha:Qaj a) (hb:Qaj b) (ho:Qaj os) (hi:i≤a.length) (hv:lev os=lev (a.take i)*lev b):nth os (i+b.length)=0:=by
  rw [Qds os _ ho]
  have h1:=Qed (Qa9 ha i)
  have h2:=Qed hb
  have h3:=Qbu (Qa9 ha i)
  have h4:=Qbu hb
  rw [List.length_take,Nat.min_eq_left hi] at h1
  have h5:lev os<p256 (i+b.length):=by
    rw [hv,QcM]
    exact Int.lt_of_le_of_lt (Int.mul_le_mul_of_nonneg_left (Int.le_of_lt h2) h3) (Int.mul_lt_mul_of_pos_right h1 (Qcp _))
  rw [Int.ediv_eq_zero_of_lt (Qbu ho) h5]; rfl
theorem Qja {a b os qs:List Int} {c:Int} {i j:Nat} (hi:i<a.length) (ho:lev os=lev (a.take i)*lev b) (hq:lev qs+c*p256 (i+j)=lev os+nth a i*p256 i*lev (b.take j)) (hc:c=0) (hj:b.length≤j):lev qs=lev (a.take (i+1))*lev b:=by
  rw [QcT b j hj,hc,ho] at hq
  rw [Qbo a i hi,Int.add_mul]
  omega
theorem Qeq (xs : List Int) (m k:Nat) (d:Int) (h:m≠k):nth (xs.set m d) k=nth xs k:=by
  unfold nth; rw [List.getD_eq_getElem?_getD,List.getD_eq_getElem?_getD,List.getElem?_set_ne h]
theorem QfZ (a b:List Int) (v v2:Value) (B B2:Nat) (w:World) (ha:RdK .i64 B a v w) (hb:RdK .i64 B2 b v2 w) (hal:a.length≤1000000) (hbl:b.length≤1000000) (haa:Qaj a) (hbb:Qaj b) :
  Calls Tryd.prog 81 #[v,v2] w (Qb8 w (DigR w.heap.size (lev a*lev b) (a.length+b.length+1))):=by
 obtain ⟨a_a,c_a,rfl,-⟩:=id ha
 obtain ⟨a_b,c_b,rfl,-⟩:=id hb
 refine enter 66 [(0,.slice a_a a.length c_a),(1,.slice a_b b.length c_b)] Tryd.func81 rfl rfl kj rfl <| sgB kj <| sgC fun K2 hK2=>sg 4 kj <| Qab (.int .i64 ((a.length+b.length:Nat):Int)) 14 rfl kj (Qaf (u:=.int .i64 (IntKind.i64.wrap (((a.length:Nat):Int)+((b.length:Nat):Int)))) kj (congrArg (Value.int .i64) (i64n _ _ (by omega) (by omega)))) <| Qab (.int .i64 (((a.length+b.length)+1:Nat):Int)) 15 rfl kj (Qaf (u:=.int .i64 (IntKind.i64.wrap (((a.length+b.length:Nat):Int)+1))) kj (congrArg (Value.int .i64) (i64n _ _ (by omega) (by omega)))) <| Qa7 (ints .i64 (List.replicate ((a.length+b.length)+1) 0)) 3 ((a.length+b.length)+1) 16 rfl kj (QdE 127 _ _ .i64 .i64 ((a.length+b.length)+1) 3 rfl kj kj kj (.inl kj) (by omega)) fun g3 W1 l3 e1 r3_1=>?_
 have b3:=qT (Rely.Ext.refl w).size l3
 refine sg 1 kj <| sgN hK2 <| wp_seq_k fun K4 hK4=>sgB kj <| wp_block <| Qa5 (fun (s1:Nat×List Int)=>[(0,.slice a_a a.length c_a),(1,.slice a_b b.length c_b),(5,.slice (some ⟨g3,0,none⟩) ((a.length+b.length)+1) ((a.length+b.length)+1)),(6,.int .i64 ((s1.1:Nat):Int))]) (fun (s1:Nat×List Int) W=>(s1.2.length=(a.length+b.length)+1)∧(Qaj s1.2)∧(lev s1.2=lev (a.take s1.1)*lev b)∧(s1.1≤a.length)∧(W.heap[g3]? = some (.cells (ints .i64 (s1.2)) 3))∧(Qas [g3] W1 W)∧(Ext w W)) (fun (s1:Nat×List Int)=>a.length-s1.1) (0,(List.replicate ((a.length+b.length)+1) 0)) ⟨kj,kj,kj,kj,trivial⟩ ⟨(List.length_replicate),(fun x hx=>by rw [List.mem_replicate] at hx; omega),(by rw [QjB,List.take_zero]; simp [lev]),(Nat.zero_le _),r3_1,(Qas.refl [g3] W1),(Ext.tr (Rely.Ext.refl w) e1)⟩ fun s1 X1 V1 hI1=>?_
 obtain ⟨i,os⟩:=s1
 obtain ⟨hol,hob,hov,hi,q3_1,kk1,xx1⟩:=hI1
 replace hol:os.length=(a.length+b.length)+1:=hol
 replace hob:Qaj os:=hob
 replace hov:lev os=lev (a.take i)*lev b:=hov
 replace hi:i≤a.length:=hi
 replace q3_1:V1.heap[g3]? = some (.cells (ints .i64 (os)) 3):=q3_1
 replace kk1:Qas [g3] W1 V1:=kk1
 replace xx1:Ext w V1:=xx1
 have q2:=kk1
 refine wp_seq_k fun K6 hK6=>sgB kj <| Qay (t:=decide (((i:Nat):Int)<((a.length:Nat):Int))) kj (fun c8=>?_) (fun c8=>?_)
 ·skip
  have hlt20:i<a.length:=by have:=of_decide_eq_true c8; omega
  obtain ⟨gra9,ora9,hara9,-,hlra9,hcra9⟩:=QbF (RdK.ext ha xx1) (by omega)
  have hai:=Qa8 haa i
  refine wp_skip <| hK6 _ _ <| wp_seq_k fun K10 hK10=>wp_block <| sgB kj <| sgB kj <| wp_block <| Qa5 (fun (s2:Nat×Int×List Int)=>[(0,.slice a_a a.length c_a),(1,.slice a_b b.length c_b),(5,.slice (some ⟨g3,0,none⟩) ((a.length+b.length)+1) ((a.length+b.length)+1)),(6,.int .i64 ((i:Nat):Int)),(7,.int .i64 (s2.2.1)),(8,.int .i64 ((s2.1:Nat):Int))]) (fun (s2:Nat×Int×List Int) W=>(s2.2.2.length=(a.length+b.length)+1)∧(Qaj s2.2.2)∧(0≤s2.2.1∧s2.2.1≤255)∧(s2.1≤b.length+1)∧(s2.1=b.length+1→s2.2.1=0)∧(lev s2.2.2+s2.2.1*p256 (i+s2.1)=lev os+nth a i*p256 i*lev (b.take s2.1))∧(s2.1≤b.length→nth s2.2.2 (i+b.length)=0)∧(W.heap[g3]? = some (.cells (ints .i64 (s2.2.2)) 3))∧(Qas [g3] V1 W)∧(Ext w W)) (fun (s2:Nat×Int×List Int)=>b.length+1-s2.1) (0,0,os) ⟨kj,kj,kj,kj,kj,kj,trivial⟩ ⟨hol,hob,(show (0:Int)≤0∧(0:Int)≤255 by decide),(Nat.zero_le _),(fun _=>rfl),(by simp [lev]),(fun _=>Qiy haa hbb hob hi hov),q3_1,(Qas.refl [g3] V1),xx1⟩ fun s2 X2 V2 hI2=>?_
  obtain ⟨j,c,qs⟩:=s2
  obtain ⟨hql,hqb,hc,hj,hjc,hqv,hqz,q3_2,kk2,xx2⟩:=hI2
  replace hql:qs.length=(a.length+b.length)+1:=hql
  replace hqb:Qaj qs:=hqb
  replace hc:0≤c∧c≤255:=hc
  replace hj:j≤b.length+1:=hj
  replace hjc:j=b.length+1→c=0:=hjc
  replace hqv:lev qs+c*p256 (i+j)=lev os+nth a i*p256 i*lev (b.take j):=hqv
  replace hqz:j≤b.length→nth qs (i+b.length)=0:=hqz
  replace q3_2:V2.heap[g3]? = some (.cells (ints .i64 (qs)) 3):=q3_2
  replace kk2:Qas [g3] V1 V2:=kk2
  replace xx2:Ext w V2:=xx2
  have q3:=kk2
  refine wp_seq_k fun K13 hK13=>wp_seq_k fun K14 hK14=>?_
  rcases (show j<b.length∨(b.length≤j∧0<c)∨(b.length≤j∧¬ 0<c) by omega) with hq | hq | hq
  ·skip
   have hjb:j<b.length:=hq
   have hbj:=Qa8 hbb j
   have hxy:=Qj6 hai hbj
   have hqi:=Qa8 hqb (i+j)
   refine Qai <| sg 3 kj <| Qab (.bool true) 26 rfl kj (Qaf (u:=.bool (decide (((j:Nat):Int)<((b.length:Nat):Int)))) kj (congrArg Value.bool (decide_eq_true (by omega)))) <| sg 4 kj <| sgN hK14 <| cond_true kj <| wp_skip <| hK13 _ _ <| wp_seq_k fun K15 hK15=>wp_block ?_
   refine sgC fun K16 hK16=>sg 3 kj <| Qab (.int .i64 ((i+j:Nat):Int)) 36 rfl kj (Qaf (u:=.int .i64 (IntKind.i64.wrap (((i:Nat):Int)+((j:Nat):Int)))) kj (congrArg (Value.int .i64) (i64n _ _ (by omega) (by omega)))) <| Qab (.pointer (some ⟨g3,(i+j),none⟩)) 37 rfl kj (Qaw 127 _ _ .i64 (i+j) g3 ((a.length+b.length)+1) ((a.length+b.length)+1) 3 rfl kj kj kj kj (by omega)) <| Qab (.int .i64 (nth (qs) (i+j))) 38 rfl kj (Qah 3 _ g3 (i+j) 3 _ (.int .i64 (nth (qs) (i+j))) _ q3_2 rfl kj (QaM _ _ _ (Nat.lt_of_lt_of_eq (by omega) hql.symm)) kj) <| sg 1 kj <| Qab (.int .i64 (nth qs (i+j)+c)) 40 rfl kj (Qaf (u:=.int .i64 (IntKind.i64.wrap ((nth (qs) (i+j))+c))) kj (congrArg (Value.int .i64) (IntWalk.i64_in _ (by omega)))) <| sg 1 kj <| sgN hK16 <| wp_seq_k fun K17 hK17=>?_
   refine sgC fun K18 hK18=>sg 3 kj <| Qab (.bool true) 44 rfl kj (Qaf (u:=.bool (decide (((j:Nat):Int)<((b.length:Nat):Int)))) kj (congrArg Value.bool (decide_eq_true (by omega)))) <| sgN hK18 <| cond_true kj ?_
   obtain ⟨gra19,ora19,hara19,-,hlra19,hcra19⟩:=QbF (RdK.ext ha xx2) (by omega)
   obtain ⟨grb20,orb20,harb20,-,hlrb20,hcrb20⟩:=QbF (RdK.ext hb xx2) (by omega)
   refine QaD 10 [⟨none,[(9,none)]⟩,⟨none,[(0,none)]⟩,⟨none,[(6,none)]⟩,⟨none,[(46,some 1),(47,some 2)]⟩,⟨none,[(48,some 3)]⟩,⟨none,[(1,none)]⟩,⟨none,[(8,none)]⟩,⟨none,[(50,some 5),(51,some 6)]⟩,⟨none,[(52,some 7)]⟩,⟨none,[(49,some 4),(53,some 8)]⟩] kj kj fun F hF=>Qar (Qag _) (.int .i64 (nth qs (i+j)+c)) kj kj (fun W=>by kernel_rfl) <| Qar (Qag _) (.slice a_a a.length c_a) kj kj (fun W=>by kernel_rfl) <| Qar (Qag _) (.int .i64 ((i:Nat):Int)) kj kj (fun W=>by kernel_rfl) <| Qar (Qag _) (.pointer (some ⟨gra19,ora19+i,none⟩)) kj kj (fun W=>(QaN 127 _ _ .i64 i gra19 ora19 a.length c_a 3 a_a _ hara19 rfl rfl kj kj kj kj (Nat.lt_of_lt_of_eq (show i<(a).length by omega) (rfl:(a).length=(a).length).symm))) <| QaR (Qag _) (.int .i64 (nth (a) (i))) kj kj (fun W hR=>(Qaz 3 _ _ (.int .i64 (nth (a) (i))) ((Below.cell (Rely.Ext.trans (Qak _) hR) hlra19).trans (hcra19 i (Nat.lt_of_lt_of_eq (show i<(a).length by omega) (rfl:(a).length=(a).length).symm))) rfl kj kj)) <| Qar (Qag _) (.slice a_b b.length c_b) kj kj (fun W=>by kernel_rfl) <| Qar (Qag _) (.int .i64 ((j:Nat):Int)) kj kj (fun W=>by kernel_rfl) <| Qar (Qag _) (.pointer (some ⟨grb20,orb20+j,none⟩)) kj kj (fun W=>(QaN 127 _ _ .i64 j grb20 orb20 b.length c_b 3 a_b _ harb20 rfl rfl kj kj kj kj (Nat.lt_of_lt_of_eq (show j<(b).length by omega) (rfl:(b).length=(b).length).symm))) <| QaR (Qag _) (.int .i64 (nth (b) (j))) kj kj (fun W hR=>(Qaz 3 _ _ (.int .i64 (nth (b) (j))) ((Below.cell (Rely.Ext.trans (Qak _) hR) hlrb20).trans (hcrb20 j (Nat.lt_of_lt_of_eq (show j<(b).length by omega) (rfl:(b).length=(b).length).symm))) rfl kj kj)) ?_
   refine Qar (Qag _) (.int .i64 (nth a i*nth b j)) kj kj (fun W=>(Qaf (u:=.int .i64 (IntKind.i64.wrap ((nth (a) (i))*(nth (b) (j))))) kj (congrArg (Value.int .i64) (IntWalk.i64_in _ (by omega))))) <| QbN (hF _ fun W4 e4=>?_)
   simp only [List.nil_append,List.cons_append,List.take_succ_cons,List.take_zero,List.drop_succ_cons,List.drop_zero,finE,up]
   clear hF
   have x4:=Ext.tr xx2 e4
   refine Qab (.int .i64 (nth qs (i+j)+c+nth a i*nth b j)) 55 rfl kj (Qaf (u:=.int .i64 (IntKind.i64.wrap ((nth qs (i+j)+c)+(nth a i*nth b j)))) kj (congrArg (Value.int .i64) (IntWalk.i64_in _ (by omega)))) <| sg 1 kj <| Qao <| hK17 _ _ <| sgC fun K21 hK21=>sg 3 kj <| Qab (.int .i64 ((i+j:Nat):Int)) 59 rfl kj (Qaf (u:=.int .i64 (IntKind.i64.wrap (((i:Nat):Int)+((j:Nat):Int)))) kj (congrArg (Value.int .i64) (i64n _ _ (by omega) (by omega)))) <| sg 1 kj <| Qab (.int .i64 ((nth qs (i+j)+c+nth a i*nth b j)%256)) 61 rfl kj (Qaf (u:=.int .i64 (Int.tmod ((nth qs (i+j)+c+nth a i*nth b j)) (256))) kj (congrArg (Value.int .i64) (show Int.tmod (nth qs (i+j)+c+nth a i*nth b j) 256=(nth qs (i+j)+c+nth a i*nth b j)%256 from Int.tmod_eq_emod_of_nonneg (by omega)))) <| Qab (.pointer (some ⟨g3,(i+j),none⟩)) 62 rfl kj (Qaw 127 _ _ .i64 (i+j) g3 ((a.length+b.length)+1) ((a.length+b.length)+1) 3 rfl kj kj kj kj (by omega)) ?_
   have r3_4:=(Qaa q3_2 e4)
   refine Qal g3 _ (ints .i64 ((qs).set (i+j) ((nth qs (i+j)+c+nth a i*nth b j)%256))) 3 r3_4 rfl kj (Qa1 3 _ _ g3 (i+j) 3 _ _ r3_4 rfl kj kj kj (Nat.lt_of_lt_of_eq (by omega) hql.symm)) fun W5 p5 r3_5=>sgN hK21 <| Qai <| sg 1 kj <| Qab (.int .i64 ((nth qs (i+j)+c+nth a i*nth b j)/256)) 64 rfl kj (Qaf (u:=.int .i64 (IntKind.i64.wrap (Int.tdiv ((nth qs (i+j)+c+nth a i*nth b j)) (256)))) kj (congrArg (Value.int .i64) (by rw [show Int.tdiv (nth qs (i+j)+c+nth a i*nth b j) 256=(nth qs (i+j)+c+nth a i*nth b j)/256 from Int.tdiv_eq_ediv_of_nonneg (by omega)]; exact IntWalk.i64_in _ (by omega)))) ?_
   refine sg 1 kj <| Qao <| hK15 _ _ <| Qai <| sg 1 kj <| Qab (.int .i64 ((j+1:Nat):Int)) 32 rfl kj (Qaf (u:=.int .i64 (IntKind.i64.wrap (((j:Nat):Int)+1))) kj (congrArg (Value.int .i64) (i64n _ _ (by omega) (by omega)))) <| sg 1 kj <| Qao ?_
   repeat (first | with_reducible refine goX1 ?_ | with_reducible refine goX2 ?_ | with_reducible refine goX3 ?_)
   exact Qax ((j+1),((nth qs (i+j)+c+nth a i*nth b j)/256),((qs).set (i+j) ((nth qs (i+j)+c+nth a i*nth b j)%256))) ⟨kj,kj,kj,kj,kj,kj,trivial⟩ ⟨(by rw [List.length_set]; exact hql),(Qbm hqb _ (by omega) (by omega)),(show 0≤(nth qs (i+j)+c+nth a i*nth b j)/256∧(nth qs (i+j)+c+nth a i*nth b j)/256≤255 by omega),(show j+1≤b.length+1 by omega),(show j+1=b.length+1→(nth qs (i+j)+c+nth a i*nth b j)/256=0 by intro h8; omega),(Qf6 (c:=c) (n:=nth qs (i+j)+c+nth a i*nth b j) (x:=nth a i) (y:=nth b j) (by omega) hqv (by omega) (Qbo b j hjb)),(show j+1≤b.length→nth ((qs).set (i+j) ((nth qs (i+j)+c+nth a i*nth b j)%256)) (i+b.length)=0 by intro h8; rw [Qeq qs _ _ _ (by omega)]; exact hqz (by omega)),r3_5,(Qas.puts (Qas.step q3 e4) p5 (.inl (by simp))),(Puts.ext p5 x4 b3)⟩ (by show b.length+1-(j+1)<b.length+1-j; omega)
  ·skip
   have hjb:b.length≤j:=hq.1
   have hc0:0<c:=hq.2
   have hje:j=b.length:=by omega
   have hqi:nth qs (i+j)=0:=by rw [hje]; exact hqz (by omega)
   refine Qai <| sg 3 kj <| Qab (.bool false) 26 rfl kj (Qaf (u:=.bool (decide (((j:Nat):Int)<((b.length:Nat):Int)))) kj (congrArg Value.bool (decide_eq_false (by omega)))) <| sg 2 kj <| Qab (.bool true) 29 rfl kj (Qaf (u:=.bool (decide (c>0))) kj (congrArg Value.bool (decide_eq_true (by omega)))) <| sg 1 kj <| sgN hK14 <| cond_true kj <| wp_skip <| hK13 _ _ ?_
   refine wp_seq_k fun K22 hK22=>wp_block <| sgC fun K23 hK23=>sg 3 kj <| Qab (.int .i64 ((i+j:Nat):Int)) 36 rfl kj (Qaf (u:=.int .i64 (IntKind.i64.wrap (((i:Nat):Int)+((j:Nat):Int)))) kj (congrArg (Value.int .i64) (i64n _ _ (by omega) (by omega)))) <| Qab (.pointer (some ⟨g3,(i+j),none⟩)) 37 rfl kj (Qaw 127 _ _ .i64 (i+j) g3 ((a.length+b.length)+1) ((a.length+b.length)+1) 3 rfl kj kj kj kj (by omega)) <| Qab (.int .i64 (nth (qs) (i+j))) 38 rfl kj (Qah 3 _ g3 (i+j) 3 _ (.int .i64 (nth (qs) (i+j))) _ q3_2 rfl kj (QaM _ _ _ (Nat.lt_of_lt_of_eq (by omega) hql.symm)) kj) <| sg 1 kj <| Qab (.int .i64 (nth qs (i+j)+c)) 40 rfl kj (Qaf (u:=.int .i64 (IntKind.i64.wrap ((nth (qs) (i+j))+c))) kj (congrArg (Value.int .i64) (IntWalk.i64_in _ (by omega)))) <| sg 1 kj ?_
   refine sgN hK23 <| wp_seq_k fun K24 hK24=>sgC fun K25 hK25=>sg 3 kj <| Qab (.bool false) 44 rfl kj (Qaf (u:=.bool (decide (((j:Nat):Int)<((b.length:Nat):Int)))) kj (congrArg Value.bool (decide_eq_false (by omega)))) <| sgN hK25 <| cond_false kj <| wp_skip <| hK24 _ _ <| sgC fun K26 hK26=>?_
   refine sg 3 kj <| Qab (.int .i64 ((i+j:Nat):Int)) 59 rfl kj (Qaf (u:=.int .i64 (IntKind.i64.wrap (((i:Nat):Int)+((j:Nat):Int)))) kj (congrArg (Value.int .i64) (i64n _ _ (by omega) (by omega)))) <| sg 1 kj <| Qab (.int .i64 ((nth qs (i+j)+c)%256)) 61 rfl kj (Qaf (u:=.int .i64 (Int.tmod ((nth qs (i+j)+c)) (256))) kj (congrArg (Value.int .i64) (show Int.tmod (nth qs (i+j)+c) 256=(nth qs (i+j)+c)%256 from Int.tmod_eq_emod_of_nonneg (by omega)))) <| Qab (.pointer (some ⟨g3,(i+j),none⟩)) 62 rfl kj (Qaw 127 _ _ .i64 (i+j) g3 ((a.length+b.length)+1) ((a.length+b.length)+1) 3 rfl kj kj kj kj (by omega)) <| Qal g3 _ (ints .i64 ((qs).set (i+j) ((nth qs (i+j)+c)%256))) 3 q3_2 rfl kj (Qa1 3 _ _ g3 (i+j) 3 _ _ q3_2 rfl kj kj kj (Nat.lt_of_lt_of_eq (by omega) hql.symm)) fun W4 p4 r3_4=>?_
   have x4:=Puts.ext p4 xx2 b3
   refine sgN hK26 <| Qai <| sg 1 kj <| Qab (.int .i64 ((nth qs (i+j)+c)/256)) 64 rfl kj (Qaf (u:=.int .i64 (IntKind.i64.wrap (Int.tdiv ((nth qs (i+j)+c)) (256)))) kj (congrArg (Value.int .i64) (by rw [show Int.tdiv (nth qs (i+j)+c) 256=(nth qs (i+j)+c)/256 from Int.tdiv_eq_ediv_of_nonneg (by omega)]; exact IntWalk.i64_in _ (by omega)))) ?_
   refine sg 1 kj <| Qao <| hK22 _ _ <| Qai <| sg 1 kj <| Qab (.int .i64 ((j+1:Nat):Int)) 32 rfl kj (Qaf (u:=.int .i64 (IntKind.i64.wrap (((j:Nat):Int)+1))) kj (congrArg (Value.int .i64) (i64n _ _ (by omega) (by omega)))) <| sg 1 kj <| Qao ?_
   repeat (first | with_reducible refine goX1 ?_ | with_reducible refine goX2 ?_ | with_reducible refine goX3 ?_)
   exact Qax ((j+1),((nth qs (i+j)+c)/256),((qs).set (i+j) ((nth qs (i+j)+c)%256))) ⟨kj,kj,kj,kj,kj,kj,trivial⟩ ⟨(by rw [List.length_set]; exact hql),(Qbm hqb _ (by omega) (by omega)),(show 0≤(nth qs (i+j)+c)/256∧(nth qs (i+j)+c)/256≤255 by omega),(show j+1≤b.length+1 by omega),(show j+1=b.length+1→(nth qs (i+j)+c)/256=0 by intro h8; omega),(Qf6 (c:=c) (n:=nth qs (i+j)+c) (x:=nth a i) (y:=0) (by omega) hqv (by omega) (QcS b j hjb)),(show j+1≤b.length→nth ((qs).set (i+j) ((nth qs (i+j)+c)%256)) (i+b.length)=0 by intro h8; rw [Qeq qs _ _ _ (by omega)]; exact hqz (by omega)),r3_4,(Qas.puts q3 p4 (.inl (by simp))),x4⟩ (by show b.length+1-(j+1)<b.length+1-j; omega)
  ·skip
   have hjb:b.length≤j:=hq.1
   have hc0:c=0:=by omega
   have hend:=Qja hlt20 hov hqv hc0 hjb
   refine Qai <| sg 3 kj <| Qab (.bool false) 26 rfl kj (Qaf (u:=.bool (decide (((j:Nat):Int)<((b.length:Nat):Int)))) kj (congrArg Value.bool (decide_eq_false (by omega)))) <| sg 2 kj <| Qab (.bool false) 29 rfl kj (Qaf (u:=.bool (decide (c>0))) kj (congrArg Value.bool (decide_eq_false (by omega)))) <| sg 1 kj <| sgN hK14 <| cond_false kj <| wp_exit <| hK10 _ _ ?_
   refine Qai <| sg 1 kj <| Qab (.int .i64 ((i+1:Nat):Int)) 22 rfl kj (Qaf (u:=.int .i64 (IntKind.i64.wrap (((i:Nat):Int)+1))) kj (congrArg (Value.int .i64) (i64n _ _ (by omega) (by omega)))) <| sg 1 kj <| Qao ?_
   repeat (first | with_reducible refine goX1 ?_ | with_reducible refine goX2 ?_ | with_reducible refine goX3 ?_)
   exact Qax ((i+1),qs) ⟨kj,kj,kj,kj,trivial⟩ ⟨hql,hqb,hend,(show i+1≤a.length by omega),q3_2,(Qas.keeps q2 q3 (Qfn (.inl (by simp)) QgR)),xx2⟩ (by show a.length-(i+1)<a.length-i; omega)
 ·skip
  have heq20:i=a.length:=by have:=of_decide_eq_false c8; omega
  refine wp_exit <| hK4 _ _ <| sgB kj <| wp_ret ?_
  repeat (first | with_reducible refine goR1 ?_ | with_reducible refine goR2 ?_)
  exact (show bodyPost _ _ _ .ret _ _ from ret1 (.slice (some ⟨g3,0,none⟩) ((a.length+b.length)+1) ((a.length+b.length)+1)) rfl (Qa0 kj) ⟨_,rfl,xx1,os,hob,(by rw [hov,heq20,List.take_length]),(by omega),Qcr hol b3 q3_1 (by simp only [maxLen]; omega)⟩)
end Go.Proofs.YtophlgnnjjkkiaaDoor.Ae
end
section
namespace Go.Proofs.YtophlgnnjjkkiaaDoor.Ae
open Go Go.RowKit
open Rely Auto Own Sha
open Sha Cha
theorem p16 : p256 16=340282366920938463463374607431768211456:=by decide +kernel
theorem Qig (xs : List Int) (i:Nat) (h:i<16) (hi:i<xs.length):xs.take (min (i+1) 16)=xs.take (min i 16)++[nth xs i]:=by
  rw [show min (i+1) 16=i+1 by omega,show min i 16=i by omega,Qdi xs i hi]
theorem Qih (xs : List Int) (i:Nat) (h:16≤i):xs.take (min (i+1) 16)=xs.take (min i 16):=by
  rw [show min (i+1) 16=16 by omega,show min i 16=16 by omega]
theorem QfF (xs : List Int) (i:Nat) (h:xs.length≤i):nth xs i=0:=by
  unfold nth; rw [List.getD_eq_getElem?_getD,List.getElem?_eq_none h]; rfl
theorem Qeu {xs hs:List Int} {k:Nat} {x y d:Int} (hx:x=nth xs (16+k)) (hy:y=nth xs (16+(k+1))) (hl:hs.length=k) (hk:16+k<xs.length) (hd:d=x/4+y%4*64)
    (hv:4*lev hs+nth xs 16%4=lev ((xs.drop 16).take k)+x%4*p256 k):4*lev (hs++[d])+nth xs 16%4=lev ((xs.drop 16).take (k+1))+y%4*p256 (k+1):=by
  rw [Qd3,hl,Qbo _ k (by rw [List.length_drop]; omega),Qer,←hx,Qcb]
  have h1:x=4*(x/4)+x%4:=by omega
  have h2:x*p256 k=4*(x/4)*p256 k+x%4*p256 k:=by rw [←Int.add_mul,←h1]
  have h3:d*p256 k=x/4*p256 k+y%4*64*p256 k:=by rw [hd,Int.add_mul]
  grind
theorem Qfi {xs low hs:List Int} (hl:17≤xs.length) (hlow:low=xs.take 16++[nth xs 16%4]) (hv:4*lev hs+nth xs 16%4=lev (xs.drop 16)):lev xs=lev low+1361129467683753853853498429727072845824*lev hs:=by
  have h1:lev xs=lev (xs.take 16)+p256 16*lev (xs.drop 16):=by
    have h:=Qh8 (xs.take 16) (xs.drop 16)
    rwa [List.take_append_drop,List.length_take,Nat.min_eq_left (by omega)] at h
  have h2:lev low=lev (xs.take 16)+nth xs 16%4*p256 16:=by rw [hlow,Qd3,List.length_take,Nat.min_eq_left (by omega)]
  rw [p16] at h1 h2
  omega
theorem Qg2 {xs low:List Int} (hb:Qaj xs) (hl:17≤xs.length) (hlow:low=xs.take 16++[nth xs 16%4]):0≤lev low∧lev low<1361129467683753853853498429727072845824:=by
  have h2:lev low=lev (xs.take 16)+nth xs 16%4*p256 16:=by rw [hlow,Qd3,List.length_take,Nat.min_eq_left (by omega)]
  have h3:=Qed (Qa9 hb 16)
  have h4:=Qbu (Qa9 hb 16)
  rw [List.length_take,Nat.min_eq_left (by omega)] at h3
  rw [p16] at h2 h3
  omega
theorem Qg4 {xs : List Int} (hb:Qaj xs) (ht:xs=[]∨nth xs (xs.length-1)≠0) (h:17<xs.length∨(xs.length=17∧3<nth xs 16)):1361129467683753853853498429727072845824≤lev xs:=by
  have h1:lev xs=lev (xs.take 16)+p256 16*lev (xs.drop 16):=by
    have h:=Qh8 (xs.take 16) (xs.drop 16)
    rwa [List.take_append_drop,List.length_take,Nat.min_eq_left (by omega)] at h
  have h4:=Qbu (Qa9 hb 16)
  have h5:4≤lev (xs.drop 16):=by
    rcases h with h | ⟨h,h6⟩
    · have h7:nth xs (xs.length-1)≠0:=by
        rcases ht with e | e
        · rw [e] at h; simp at h
        · exact e
      have h8:lev (xs.drop 16)=lev ((xs.drop 16).take (xs.length-17))+nth (xs.drop 16) (xs.length-17)*p256 (xs.length-17):=by
        have h9:=Qbo (xs.drop 16) (xs.length-17) (by rw [List.length_drop]; omega)
        rw [←h9,List.take_of_length_le (by rw [List.length_drop]; omega)]
      rw [Qer,show 16+(xs.length-17)=xs.length-1 by omega] at h8
      have h10:=Qa8 hb (xs.length-1)
      have h11:=Qbu (Qa9 (QaQ hb 16) (xs.length-17))
      have h12:p256 (xs.length-17)=256*p256 (xs.length-18):=by rw [show xs.length-17=(xs.length-18)+1 by omega,Qcb]
      have h13:=Qcp (xs.length-18)
      have h14:1*p256 (xs.length-17)≤nth xs (xs.length-1)*p256 (xs.length-17):=Int.mul_le_mul_of_nonneg_right (by omega) (by omega)
      omega
    · have h8:xs.drop 16=[nth xs 16]:=by
        apply Qh1
        · rw [List.length_drop,h]; rfl
        · intro i hi
          rw [List.length_drop] at hi
          obtain rfl:i=0:=by omega
          rw [Qer]; rfl
      rw [h8]; simp only [lev]; omega
  rw [p16] at h1
  omega
theorem Qg3 {xs : List Int} (hb:Qaj xs) (h:xs.length<17∨(xs.length=17∧nth xs 16≤3)):lev xs<1361129467683753853853498429727072845824:=by
  rcases h with h | ⟨h,h6⟩
  · have h1:=Qed hb
    have h2:p256 16=p256 xs.length*p256 (16-xs.length):=by rw [←QcM]; congr 1; omega
    have h3:=Qcp (16-xs.length)
    have h4:p256 xs.length*1≤p256 xs.length*p256 (16-xs.length):=Int.mul_le_mul_of_nonneg_left (by omega) (Int.le_of_lt (Qcp _))
    rw [p16] at h2
    omega
  · have h1:=Qbo xs 16 (by omega)
    rw [List.take_of_length_le (by omega)] at h1
    have h3:=Qed (Qa9 hb 16)
    have h7:=Qa8 hb 16
    rw [List.length_take,Nat.min_eq_left (by omega),p16] at h3
    rw [p16] at h1
    omega
theorem Qg1 {x n h v:Int} (e:x=n+1361129467683753853853498429727072845819*h) (hv:x%PP=v%PP):n%PP=v%PP:=by
  rw [←hv,e]
  unfold PP
  omega
theorem QcW {ys : List Int} {m:Nat} (hm:m≤ys.length) (h:m=0∨nth ys (m-1)≠0):ys.take m=[]∨nth (ys.take m) ((ys.take m).length-1)≠0:=by
  rcases Nat.eq_zero_or_pos m with h0 | h0
  · left; rw [h0]; rfl
  · right
    rw [List.length_take,Nat.min_eq_left hm,QdW _ _ _ (by omega)]
    rcases h with h | h
    · omega
    · exact h
set_option maxRecDepth 100000 in
theorem Qjm (a : List Int) (v:Value) (B:Nat) (w:World) (ha:RdK .i64 B a v w) (hal:a.length≤1000) (hab:Qaj a) (hat:a=[]∨nth a (a.length-1)≠0) :
  Calls Tryd.prog 79 #[v] w (Qb8 w (fun v W=>∃ zs:List Int,Qaj zs∧lev zs%PP=lev a%PP∧lev zs<1361129467683753853853498429727072845824∧zs.length≤17∧RdK .i64 W.heap.size zs v W)):=by
 obtain ⟨a_a,c_a,rfl,-⟩:=id ha
 refine enter 80 [(0,.slice a_a a.length c_a)] Tryd.func79 rfl rfl kj rfl <| sgB kj <| wp_seq_k fun K2 hK2=>wp_block <| Qa5 (fun (s1:List Int×Value)=>[(0,s1.2)]) (fun (s1:List Int×Value) W=>(Qaj s1.1)∧(s1.1=[]∨nth s1.1 (s1.1.length-1)≠0)∧(lev s1.1%PP=lev a%PP)∧(s1.1.length≤max 18 a.length)∧(RdK .i64 W.heap.size s1.1 s1.2 W)∧(Ext w W)∧(Ext w W)) (fun (s1:List Int×Value)=>(lev s1.1).toNat) (a,.slice a_a a.length c_a) ⟨kj,trivial⟩ ⟨hab,hat,rfl,(Nat.le_max_right _ _),(RdK.here (RdK.ext ha (Rely.Ext.refl w))),(Rely.Ext.refl w),(Rely.Ext.refl w)⟩ fun s1 X1 V1 hI1=>?_
 obtain ⟨xs,v⟩:=s1
 obtain ⟨hxb,hxt,hxm,hxl,hrx,kk1,xx1⟩:=hI1
 replace hxb:Qaj xs:=hxb
 replace hxt:xs=[]∨nth xs (xs.length-1)≠0:=hxt
 replace hxm:lev xs%PP=lev a%PP:=hxm
 replace hxl:xs.length≤max 18 a.length:=hxl
 replace hrx:RdK .i64 V1.heap.size xs v V1:=hrx
 replace kk1:Ext w V1:=kk1
 replace xx1:Ext w V1:=xx1
 have e1:=kk1
 obtain ⟨ax,cx,rfl,-⟩:=id hrx
 refine wp_seq_k fun K3 hK3=>wp_seq_k fun K4 hK4=>?_
 rcases (show 17<xs.length∨(xs.length=17∧3<nth xs 16)∨(xs.length=17∧nth xs 16≤3)∨xs.length<17 by omega) with hq | hq | hq | hq
 ·skip
  have h17:17≤xs.length:=by omega
  have hbig:=Qg4 hxb hxt (.inl hq)
  refine Qai <| sg 2 kj <| Qab (.bool true) 10 rfl kj (Qaf (u:=.bool (decide (((xs.length:Nat):Int)>17))) kj (congrArg Value.bool (decide_eq_true (by omega)))) <| sg 11 kj <| sgN hK4 <| cond_true kj <| wp_skip <| hK3 _ _ <| wp_block <| sgB kj ?_
  refine sgB kj <| wp_seq_k fun K7 hK7=>sgB kj <| wp_block <| Qa5 (fun (s2:Nat×Value)=>[(0,.slice ax xs.length cx),(3,s2.2),(4,.slice none 0 0),(5,.int .i64 ((s2.1:Nat):Int))]) (fun (s2:Nat×Value) W=>(s2.1≤xs.length)∧(OwnN .i64 3 V1.heap.size (xs.take (min s2.1 16)) s2.2 W)∧(Ext V1 W)∧(Ext w W)) (fun (s2:Nat×Value)=>xs.length-s2.1) (0,(.slice none 0 0)) ⟨kj,kj,kj,kj,trivial⟩ ⟨(Nat.zero_le _),(by rw [show min 0 16=0 from rfl,List.take_zero]; exact Qbz _ _ _ _),(Rely.Ext.refl V1),xx1⟩ fun s2 X2 V2 hI2=>?_
  obtain ⟨i,u⟩:=s2
  obtain ⟨hi,hu,kk2,xx2⟩:=hI2
  replace hi:i≤xs.length:=hi
  replace hu:OwnN .i64 3 V1.heap.size (xs.take (min i 16)) u V2:=hu
  replace kk2:Ext V1 V2:=kk2
  replace xx2:Ext w V2:=xx2
  have e2:=kk2
  refine wp_seq_k fun K9 hK9=>sgB kj <| Qay (t:=decide (((i:Nat):Int)<((xs.length:Nat):Int))) kj (fun c11=>?_) (fun c11=>?_)
  ·skip
   have hlt25:i<xs.length:=by have:=of_decide_eq_true c11; omega
   refine wp_skip <| hK9 _ _ <| wp_seq_k fun K12 hK12=>wp_block <| sgB kj <| Qay (t:=decide (((i:Nat):Int)<16)) kj (fun c14=>?_) (fun c14=>?_)
   ·skip
    have hi16:i<16:=by have:=of_decide_eq_true c14; omega
    obtain ⟨grx15,orx15,harx15,-,hlrx15,hcrx15⟩:=QbF (hrx.ext e2) (by omega)
    refine Qai <| sg 3 kj <| Qab (.pointer (some ⟨grx15,orx15+i,none⟩)) 33 rfl kj (QaN 127 _ _ .i64 i grx15 orx15 xs.length cx 3 ax _ harx15 rfl rfl kj kj kj kj (Nat.lt_of_lt_of_eq (show i<(xs).length by omega) (rfl:(xs).length=(xs).length).symm)) <| Qab (.int .i64 (nth (xs) (i))) 34 rfl kj (Qaz 3 _ _ (.int .i64 (nth (xs) (i))) (hcrx15 i (Nat.lt_of_lt_of_eq (show i<(xs).length by omega) (rfl:(xs).length=(xs).length).symm)) rfl kj kj) <| Qa7 (ints .i64 ([(nth (xs) (i))])) 3 1 35 rfl kj kj fun g17 W3 l17 e3 r17_3=>?_
    have x3:=Ext.tr xx2 e3
    have b17:=qT xx2.size l17
    have y1_3:=(Rely.Ext.trans e2 e3)
    refine QaH (k:=.i64) (T:=3) (xs:=xs.take (min i 16)) (ys:=[(nth (xs) (i))]) (V:=V1) 8 (.tmp 30) (.tmp 35) 127 rfl kj kj (by decide) 36 rfl kj kj kj (hu.ext e3) (QaI (xs:=[(nth (xs) (i))]) (n:=1) rfl r17_3 (Qau r17_3) (show 1≤maxLen from by decide)) (by rw [List.length_take]; show _+1≤_; omega) y1_3 fun y1_ W4 f19 y4 l4=>?_
    have x4:=Ext.low x3 l4 xx1.size
    refine sg 1 kj <| Qao <| hK12 _ _ <| Qai <| sg 1 kj <| Qab (.int .i64 ((i+1:Nat):Int)) 27 rfl kj (Qaf (u:=.int .i64 (IntKind.i64.wrap (((i:Nat):Int)+1))) kj (congrArg (Value.int .i64) (i64n _ _ (by omega) (by omega)))) <| sg 1 kj <| Qao ?_
    repeat (first | with_reducible refine goX1 ?_ | with_reducible refine goX2 ?_ | with_reducible refine goX3 ?_)
    exact Qax ((i+1),y1_) ⟨kj,kj,kj,kj,trivial⟩ ⟨(show i+1≤xs.length by omega),(by rw [Qig xs i hi16 hlt25]; exact f19),y4,x4⟩ (by show xs.length-(i+1)<xs.length-i; omega)
   ·skip
    have hi16:16≤i:=by have:=of_decide_eq_false c14; omega
    refine wp_skip <| hK12 _ _ <| Qai <| sg 1 kj <| Qab (.int .i64 ((i+1:Nat):Int)) 27 rfl kj (Qaf (u:=.int .i64 (IntKind.i64.wrap (((i:Nat):Int)+1))) kj (congrArg (Value.int .i64) (i64n _ _ (by omega) (by omega)))) <| sg 1 kj <| Qao ?_
    repeat (first | with_reducible refine goX1 ?_ | with_reducible refine goX2 ?_ | with_reducible refine goX3 ?_)
    exact Qax ((i+1),u) ⟨kj,kj,kj,kj,trivial⟩ ⟨(show i+1≤xs.length by omega),(by rw [Qih xs i hi16]; exact hu),e2,xx2⟩ (by show xs.length-(i+1)<xs.length-i; omega)
  ·skip
   have heq25:i=xs.length:=by have:=of_decide_eq_false c11; omega
   have hu16:OwnN .i64 3 V1.heap.size (xs.take 16) u V2:=by have h9:=hu; rw [show min i 16=16 by omega] at h9; exact h9
   refine wp_exit <| hK7 _ _ <| sgC fun K21 hK21=>?_
   have f23_2:=(hrx.ext e2)
   obtain ⟨grx22,orx22,harx22,-,hlrx22,hcrx22⟩:=QbF f23_2 (by omega)
   refine sg 2 kj <| Qab (.pointer (some ⟨grx22,orx22+16,none⟩)) 39 rfl kj (QaN 127 _ _ .i64 16 grx22 orx22 xs.length cx 3 ax _ harx22 rfl rfl kj kj kj kj (Nat.lt_of_lt_of_eq (show 16<(xs).length by omega) (rfl:(xs).length=(xs).length).symm)) <| Qab (.int .i64 (nth (xs) (16))) 40 rfl kj (Qaz 3 _ _ (.int .i64 (nth (xs) (16))) (hcrx22 16 (Nat.lt_of_lt_of_eq (show 16<(xs).length by omega) (rfl:(xs).length=(xs).length).symm)) rfl kj kj) <| Qab (.int .i64 (nth xs 16%4)) 41 rfl kj (Qaf (u:=.int .i64 (Int.tmod ((nth (xs) (16))) (4))) kj (congrArg (Value.int .i64) (show Int.tmod (nth xs 16) 4=nth xs 16%4 from Int.tmod_eq_emod_of_nonneg (by have:=Qa8 hxb 16; omega)))) ?_
   refine Qa7 (ints .i64 ([(nth xs 16%4)])) 3 1 42 rfl kj kj fun g24 W3 l24 e3 r24_3=>?_
   have x3:=Ext.tr xx2 e3
   have b24:=qT xx2.size l24
   have y1_3:=(Rely.Ext.trans e2 e3)
   refine QaH (k:=.i64) (T:=3) (xs:=xs.take 16) (ys:=[(nth xs 16%4)]) (V:=V1) 8 (.tmp 37) (.tmp 42) 127 rfl kj kj (by decide) 43 rfl kj kj kj (hu16.ext e3) (QaI (xs:=[(nth xs 16%4)]) (n:=1) rfl r24_3 (Qau r24_3) (show 1≤maxLen from by decide)) (by rw [List.length_take]; show _+1≤_; omega) y1_3 fun y2_ W4 f26 y4 l4=>?_
   have x4:=Ext.low x3 l4 xx1.size
   refine sg 1 kj <| sgN hK21 <| wp_seq_k fun K28 hK28=>sgB kj <| wp_block <| Qa5 (fun (s3:Nat×List Int×Value)=>[(0,.slice ax xs.length cx),(3,y2_),(4,s3.2.2),(6,.int .i64 ((16+s3.1:Nat):Int))]) (fun (s3:Nat×List Int×Value) W=>(16+s3.1≤xs.length)∧(s3.2.1.length=s3.1)∧(Qaj s3.2.1)∧(4*lev s3.2.1+nth xs 16%4=lev ((xs.drop 16).take s3.1)+nth xs (16+s3.1)%4*p256 s3.1)∧(OwnN .i64 3 W4.heap.size s3.2.1 s3.2.2 W)∧(Ext W4 W)∧(Ext w W)) (fun (s3:Nat×List Int×Value)=>xs.length-(16+s3.1)) (0,[],(.slice none 0 0)) ⟨kj,kj,kj,kj,trivial⟩ ⟨(show 16+0≤xs.length by omega),rfl,(fun x hx=>by cases hx),(by show 4*0+nth xs 16%4=0+nth xs 16%4*1; omega),(Qbz _ _ _ _),(Rely.Ext.refl W4),x4⟩ fun s3 X3 V3 hI3=>?_
   obtain ⟨k,hs,u2⟩:=s3
   obtain ⟨hk,hhl,hhb,hhv,hu2,kk3,xx3⟩:=hI3
   replace hk:16+k≤xs.length:=hk
   replace hhl:hs.length=k:=hhl
   replace hhb:Qaj hs:=hhb
   replace hhv:4*lev hs+nth xs 16%4=lev ((xs.drop 16).take k)+nth xs (16+k)%4*p256 k:=hhv
   replace hu2:OwnN .i64 3 W4.heap.size hs u2 V3:=hu2
   replace kk3:Ext W4 V3:=kk3
   replace xx3:Ext w V3:=xx3
   have e5:=kk3
   refine wp_seq_k fun K30 hK30=>sgB kj <| Qay (t:=decide (((16+k:Nat):Int)<((xs.length:Nat):Int))) kj (fun c32=>?_) (fun c32=>?_)
   ·skip
    have hlt47:16+k<xs.length:=by have:=of_decide_eq_true c32; omega
    have f36_5:=((RdK.low (f23_2.ext e3) hrx l4).ext e5)
    obtain ⟨grx33,orx33,harx33,-,hlrx33,hcrx33⟩:=QbF f36_5 (by omega)
    have hxk:=Qa8 hxb (16+k)
    have hxk1:=Qa8 hxb (16+(k+1))
    have hxk2:=Qa8 hxb ((16+k)+1)
    refine wp_skip <| hK30 _ _ <| wp_seq_k fun K37 hK37=>wp_block <| sgC fun K38 hK38=>sg 2 kj <| Qab (.pointer (some ⟨grx33,orx33+(16+k),none⟩)) 52 rfl kj (QaN 127 _ _ .i64 (16+k) grx33 orx33 xs.length cx 3 ax _ harx33 rfl rfl kj kj kj kj (Nat.lt_of_lt_of_eq (show 16+k<(xs).length by omega) (rfl:(xs).length=(xs).length).symm)) <| Qab (.int .i64 (nth (xs) ((16+k)))) 53 rfl kj (Qaz 3 _ _ (.int .i64 (nth (xs) ((16+k)))) (hcrx33 (16+k) (Nat.lt_of_lt_of_eq (show 16+k<(xs).length by omega) (rfl:(xs).length=(xs).length).symm)) rfl kj kj) <| Qab (.int .i64 (nth xs (16+k)/4)) 54 rfl kj (Qaf (u:=.int .i64 (IntKind.i64.wrap (Int.tdiv ((nth (xs) ((16+k)))) (4)))) kj (congrArg (Value.int .i64) (by rw [show Int.tdiv (nth xs (16+k)) 4=(nth xs (16+k))/4 from Int.tdiv_eq_ediv_of_nonneg (by omega)]; exact IntWalk.i64_in _ (by omega)))) ?_
    refine sg 1 kj <| sgN hK38 <| wp_seq_k fun K39 hK39=>sgC fun K40 hK40=>sg 1 kj <| Qab (.int .i64 (((16+k)+1:Nat):Int)) 56 rfl kj (Qaf (u:=.int .i64 (IntKind.i64.wrap (((16+k:Nat):Int)+1))) kj (congrArg (Value.int .i64) (i64n _ _ (by omega) (by omega)))) <| sg 3 kj <| sgN hK40 <| Qay (t:=decide ((((16+k)+1:Nat):Int)<((xs.length:Nat):Int))) kj (fun c41=>?_) (fun c41=>?_)
    ·skip
     have hk1:16+(k+1)<xs.length:=by have:=of_decide_eq_true c41; omega
     obtain ⟨grx42,orx42,harx42,-,hlrx42,hcrx42⟩:=QbF f36_5 (by omega)
     refine Qai <| sg 3 kj <| Qab (.int .i64 (((16+k)+1:Nat):Int)) 63 rfl kj (Qaf (u:=.int .i64 (IntKind.i64.wrap (((16+k:Nat):Int)+1))) kj (congrArg (Value.int .i64) (i64n _ _ (by omega) (by omega)))) <| Qab (.pointer (some ⟨grx42,orx42+((16+k)+1),none⟩)) 64 rfl kj (QaN 127 _ _ .i64 ((16+k)+1) grx42 orx42 xs.length cx 3 ax _ harx42 rfl rfl kj kj kj kj (Nat.lt_of_lt_of_eq (show (16+k)+1<(xs).length by omega) (rfl:(xs).length=(xs).length).symm)) <| Qab (.int .i64 (nth (xs) (((16+k)+1)))) 65 rfl kj (Qaz 3 _ _ (.int .i64 (nth (xs) (((16+k)+1)))) (hcrx42 ((16+k)+1) (Nat.lt_of_lt_of_eq (show (16+k)+1<(xs).length by omega) (rfl:(xs).length=(xs).length).symm)) rfl kj kj) <| Qab (.int .i64 (nth xs ((16+k)+1)%4)) 66 rfl kj (Qaf (u:=.int .i64 (Int.tmod ((nth (xs) (((16+k)+1)))) (4))) kj (congrArg (Value.int .i64) (show Int.tmod (nth xs ((16+k)+1)) 4=(nth xs ((16+k)+1))%4 from Int.tmod_eq_emod_of_nonneg (by omega)))) <| Qab (.int .i64 (nth xs ((16+k)+1)%4*64)) 67 rfl kj (Qaf (u:=.int .i64 (IntKind.i64.wrap ((nth xs ((16+k)+1)%4)*64))) kj (congrArg (Value.int .i64) (IntWalk.i64_in _ (by omega)))) <| Qab (.int .i64 (nth xs (16+k)/4+nth xs ((16+k)+1)%4*64)) 68 rfl kj (Qaf (u:=.int .i64 (IntKind.i64.wrap ((nth xs (16+k)/4)+(nth xs ((16+k)+1)%4*64)))) kj (congrArg (Value.int .i64) (IntWalk.i64_in _ (by omega)))) <| sg 1 kj <| Qao ?_
     refine hK39 _ _ <| Qai <| sg 2 kj <| Qa7 (ints .i64 ([(nth xs (16+k)/4+nth xs ((16+k)+1)%4*64)])) 3 1 71 rfl kj kj fun g43 W6 l43 e6 r43_6=>?_
     have x6:=Ext.tr xx3 e6
     have b43:=qT xx3.size l43
     have y4_6:=(Rely.Ext.trans e5 e6)
     refine QaH (k:=.i64) (T:=3) (xs:=hs) (ys:=[(nth xs (16+k)/4+nth xs ((16+k)+1)%4*64)]) (V:=W4) 8 (.tmp 69) (.tmp 71) 127 rfl kj kj (by decide) 72 rfl kj kj kj (hu2.ext e6) (QaI (xs:=[(nth xs (16+k)/4+nth xs ((16+k)+1)%4*64)]) (n:=1) rfl r43_6 (Qau r43_6) (show 1≤maxLen from by decide)) (by show hs.length+1≤_; omega) y4_6 fun y3_ W7 f45 y7 l7=>?_
     have x7:=Ext.low x6 l7 x4.size
     refine sg 1 kj <| Qao <| hK37 _ _ <| Qai <| sg 1 kj <| Qab (.int .i64 (((16+k)+1:Nat):Int)) 49 rfl kj (Qaf (u:=.int .i64 (IntKind.i64.wrap (((16+k:Nat):Int)+1))) kj (congrArg (Value.int .i64) (i64n _ _ (by omega) (by omega)))) <| sg 1 kj <| Qao ?_
     repeat (first | with_reducible refine goX1 ?_ | with_reducible refine goX2 ?_ | with_reducible refine goX3 ?_)
     exact Qax ((k+1),hs++[(nth xs (16+k)/4+nth xs ((16+k)+1)%4*64)],y3_) ⟨kj,kj,kj,kj,trivial⟩ ⟨(show 16+(k+1)≤xs.length by omega),(show (hs++[(nth xs (16+k)/4+nth xs ((16+k)+1)%4*64)]).length=k+1 by rw [List.length_append,hhl]; rfl),(show Qaj (hs++[(nth xs (16+k)/4+nth xs ((16+k)+1)%4*64)]) from bytes_app hhb (QbE (by omega) (by omega))),(Qeu (d:=(nth xs (16+k)/4+nth xs ((16+k)+1)%4*64)) rfl rfl hhl hlt47 (by first | rfl | (rw [hy0]; omega)) hhv),f45,y7,x7⟩ (by show xs.length-(16+(k+1))<xs.length-(16+k); omega)
    ·skip
     have hk1:xs.length≤16+(k+1):=by have:=of_decide_eq_false c41; omega
     have hy0:=QfF xs _ hk1
     refine wp_skip <| hK39 _ _ <| Qai <| sg 2 kj <| Qa7 (ints .i64 ([(nth xs (16+k)/4)])) 3 1 71 rfl kj kj fun g47 W6 l47 e6 r47_6=>?_
     have x6:=Ext.tr xx3 e6
     have b47:=qT xx3.size l47
     have y4_6:=(Rely.Ext.trans e5 e6)
     refine QaH (k:=.i64) (T:=3) (xs:=hs) (ys:=[(nth xs (16+k)/4)]) (V:=W4) 8 (.tmp 69) (.tmp 71) 127 rfl kj kj (by decide) 72 rfl kj kj kj (hu2.ext e6) (QaI (xs:=[(nth xs (16+k)/4)]) (n:=1) rfl r47_6 (Qau r47_6) (show 1≤maxLen from by decide)) (by show hs.length+1≤_; omega) y4_6 fun y4_ W7 f49 y7 l7=>?_
     have x7:=Ext.low x6 l7 x4.size
     refine sg 1 kj <| Qao <| hK37 _ _ <| Qai <| sg 1 kj <| Qab (.int .i64 (((16+k)+1:Nat):Int)) 49 rfl kj (Qaf (u:=.int .i64 (IntKind.i64.wrap (((16+k:Nat):Int)+1))) kj (congrArg (Value.int .i64) (i64n _ _ (by omega) (by omega)))) <| sg 1 kj <| Qao ?_
     repeat (first | with_reducible refine goX1 ?_ | with_reducible refine goX2 ?_ | with_reducible refine goX3 ?_)
     exact Qax ((k+1),hs++[(nth xs (16+k)/4)],y4_) ⟨kj,kj,kj,kj,trivial⟩ ⟨(show 16+(k+1)≤xs.length by omega),(show (hs++[(nth xs (16+k)/4)]).length=k+1 by rw [List.length_append,hhl]; rfl),(show Qaj (hs++[(nth xs (16+k)/4)]) from bytes_app hhb (QbE (by omega) (by omega))),(Qeu (d:=(nth xs (16+k)/4)) rfl rfl hhl hlt47 (by first | rfl | (rw [hy0]; omega)) hhv),f49,y7,x7⟩ (by show xs.length-(16+(k+1))<xs.length-(16+k); omega)
   ·skip
    have heq47:16+k=xs.length:=by have:=of_decide_eq_false c32; omega
    have hhe:4*lev hs+nth xs 16%4=lev (xs.drop 16):=by
     rw [hhv,List.take_of_length_le (by rw [List.length_drop]; omega),QfF xs _ (by omega)]; omega
    refine wp_exit <| hK28 _ _ <| Qai ?_
    obtain ⟨low,elow⟩:∃ z,z=xs.take 16++[nth xs 16%4]:=⟨_,rfl⟩
    have hlw:OwnN .i64 3 V1.heap.size low y2_ V3:=elow▸(f26.ext e5)
    obtain ⟨al,cl,rfl,-⟩:=id (OwnN.rd hlw)
    have hll:low.length=17:=by rw [elow,List.length_append,List.length_take]; show min 16 xs.length+1=17; omega
    have hlb:Qaj low:=elow▸bytes_app (Qa9 hxb 16) (QbE (by have:=Qa8 hxb 16; omega) (by omega))
    have hsp:=Qfi h17 elow hhe
    have hlo:=Qg2 hxb h17 elow
    obtain ⟨ah,ch,rfl,-⟩:=id (OwnN.rd hu2)
    refine sg 2 kj <| Qa7 (ints .i64 ([5])) 3 1 75 rfl kj kj fun g52 W6 l52 e6 r52_6=>?_
    have x6:=Ext.tr xx3 e6
    have b52:=qT xx3.size l52
    refine Qat (fun v W'=>(DigR W6.heap.size (lev hs*lev [5]) (hs.length+1+1)) v W'∧Ext W6 W') 81 #[.slice ah hs.length ch,.slice (some ⟨g52,0,none⟩) 1 1] 76 rfl kj kj ((QfZ hs [5] _ _ _ _ _ (OwnN.rd (hu2.ext e6)) (QaI (xs:=[5]) (n:=1) rfl r52_6 (Qau r52_6) (show 1≤maxLen from by decide)) (by omega) (by decide) hhb (QbE (by decide) (by decide))).mono (by rintro e w' ⟨v,rfl,e1,hv⟩; exact ⟨v,rfl,hv,e1⟩)) fun vv55 W7 hh55=>?_
    obtain ⟨hv55,e7⟩:=hh55
    have x7:=Ext.tr x6 e7
    obtain ⟨zs53,hzb53,hzv53,hzl53,hzo53⟩:=hv55
    obtain ⟨az53,cz53,rfl,-⟩:=id (OwnN.rd hzo53)
    refine Qat (fun v W'=>(DigR W7.heap.size (lev low+lev zs53) (max low.length zs53.length+1)) v W'∧Ext W7 W') 82 #[.slice al low.length cl,.slice az53 zs53.length cz53] 77 rfl kj kj ((QeI low zs53 _ _ _ _ _ (OwnN.rd ((hlw.ext e6).ext e7)) (OwnN.rd hzo53) (by omega) (by omega) hlb hzb53).mono (by rintro e w' ⟨v,rfl,e1,hv⟩; exact ⟨v,rfl,hv,e1⟩)) fun vv59 W8 hh59=>?_
    obtain ⟨hv59,e8⟩:=hh59
    have x8:=Ext.tr x7 e8
    obtain ⟨zs56,hzb56,hzv56,hzl56,hzo56⟩:=hv59
    obtain ⟨az56,cz56,rfl,-⟩:=id (OwnN.rd hzo56)
    refine Qat (fun v W'=>(fun v W=>∃ m,m≤zs56.length∧v=.slice az56 m cz56∧lev (zs56.take m)=lev zs56∧(m=0∨nth zs56 (m-1)≠0)) v W'∧Ext W8 W') 80 #[.slice az56 zs56.length cz56] 78 rfl kj kj ((QfA zs56 _ _ _ _ (OwnN.rd hzo56) (by omega)).mono (by rintro e w' ⟨v,rfl,e1,hv⟩; exact ⟨v,rfl,hv,e1⟩)) fun vv61 W9 hh61=>?_
    obtain ⟨hv61,e9⟩:=hh61
    have x9:=Ext.tr x8 e9
    obtain ⟨m60,hm60,rfl,hv60,ht60⟩:=hv61
    have htl60:(zs56.take m60).length=m60:=by rw [List.length_take]; omega
    refine sg 1 kj <| Qao ?_
    have hnew:lev (zs56.take m60)=lev low+5*lev hs:=by rw [hv60,hzv56,hzv53]; simp only [lev]; omega
    have hhp:=Qbu hhb
    have y0_2:=(Rely.Ext.trans e1 e2)
    have y0_3:=(Rely.Ext.trans y0_2 e3)
    have y0_4:=(Ext.low y0_3 l4 e1.size)
    have y0_5:=(Rely.Ext.trans y0_4 e5)
    have y0_6:=(Rely.Ext.trans y0_5 e6)
    have y0_7:=(Rely.Ext.trans y0_6 e7)
    have y0_8:=(Rely.Ext.trans y0_7 e8)
    have y0_9:=(Rely.Ext.trans y0_8 e9)
    repeat (first | with_reducible refine goX1 ?_ | with_reducible refine goX2 ?_ | with_reducible refine goX3 ?_)
    exact Qax ((zs56.take m60),(.slice az56 m60 cz56)) ⟨kj,trivial⟩ ⟨(Qa9 hzb56 m60),(QcW hm60 ht60),(Qg1 (h:=lev hs) (by rw [hnew]; omega) hxm),(by show (zs56.take m60).length≤_; rw [List.length_take]; omega),(RdK.here (Qcg (OwnN.rd (hzo56.ext e9)) m60 hm60)),y0_9,x9⟩ (by show (lev (zs56.take m60)).toNat<(lev xs).toNat; omega)
 ·skip
  obtain ⟨grx63,orx63,harx63,-,hlrx63,hcrx63⟩:=QbF hrx (by omega)
  have h17:17≤xs.length:=by omega
  have hbig:=Qg4 hxb hxt (.inr hq)
  refine Qai <| sg 2 kj <| Qab (.bool false) 10 rfl kj (Qaf (u:=.bool (decide (((xs.length:Nat):Int)>17))) kj (congrArg Value.bool (decide_eq_false (by omega)))) <| sg 3 kj <| Qab (.bool true) 14 rfl kj (Qaf (u:=.bool ((((xs.length:Nat):Int)==17))) kj (congrArg Value.bool (by rw [hq.1]; rfl))) ?_
  refine sg 2 kj <| Qab (.pointer (some ⟨grx63,orx63+16,none⟩)) 17 rfl kj (QaN 127 _ _ .i64 16 grx63 orx63 xs.length cx 3 ax _ harx63 rfl rfl kj kj kj kj (Nat.lt_of_lt_of_eq (show 16<(xs).length by omega) (rfl:(xs).length=(xs).length).symm)) <| Qab (.int .i64 (nth (xs) (16))) 18 rfl kj (Qaz 3 _ _ (.int .i64 (nth (xs) (16))) (hcrx63 16 (Nat.lt_of_lt_of_eq (show 16<(xs).length by omega) (rfl:(xs).length=(xs).length).symm)) rfl kj kj) <| Qab (.bool true) 19 rfl kj (Qaf (u:=.bool (decide ((nth (xs) (16))>3))) kj (congrArg Value.bool (decide_eq_true (by omega)))) <| sg 2 kj <| sgN hK4 <| cond_true kj <| wp_skip <| hK3 _ _ <| wp_block ?_
  refine sgB kj <| sgB kj <| wp_seq_k fun K66 hK66=>sgB kj <| wp_block <| Qa5 (fun (s4:Nat×Value)=>[(0,.slice ax xs.length cx),(3,s4.2),(4,.slice none 0 0),(5,.int .i64 ((s4.1:Nat):Int))]) (fun (s4:Nat×Value) W=>(s4.1≤xs.length)∧(OwnN .i64 3 V1.heap.size (xs.take (min s4.1 16)) s4.2 W)∧(Ext V1 W)∧(Ext w W)) (fun (s4:Nat×Value)=>xs.length-s4.1) (0,(.slice none 0 0)) ⟨kj,kj,kj,kj,trivial⟩ ⟨(Nat.zero_le _),(by rw [show min 0 16=0 from rfl,List.take_zero]; exact Qbz _ _ _ _),(Rely.Ext.refl V1),xx1⟩ fun s4 X4 V4 hI4=>?_
  obtain ⟨i,u⟩:=s4
  obtain ⟨hi,hu,kk4,xx4⟩:=hI4
  replace hi:i≤xs.length:=hi
  replace hu:OwnN .i64 3 V1.heap.size (xs.take (min i 16)) u V4:=hu
  replace kk4:Ext V1 V4:=kk4
  replace xx4:Ext w V4:=xx4
  have e2:=kk4
  refine wp_seq_k fun K68 hK68=>sgB kj <| Qay (t:=decide (((i:Nat):Int)<((xs.length:Nat):Int))) kj (fun c70=>?_) (fun c70=>?_)
  ·skip
   have hlt25:i<xs.length:=by have:=of_decide_eq_true c70; omega
   refine wp_skip <| hK68 _ _ <| wp_seq_k fun K71 hK71=>wp_block <| sgB kj <| Qay (t:=decide (((i:Nat):Int)<16)) kj (fun c73=>?_) (fun c73=>?_)
   ·skip
    have hi16:i<16:=by have:=of_decide_eq_true c73; omega
    obtain ⟨grx74,orx74,harx74,-,hlrx74,hcrx74⟩:=QbF (hrx.ext e2) (by omega)
    refine Qai <| sg 3 kj <| Qab (.pointer (some ⟨grx74,orx74+i,none⟩)) 33 rfl kj (QaN 127 _ _ .i64 i grx74 orx74 xs.length cx 3 ax _ harx74 rfl rfl kj kj kj kj (Nat.lt_of_lt_of_eq (show i<(xs).length by omega) (rfl:(xs).length=(xs).length).symm)) <| Qab (.int .i64 (nth (xs) (i))) 34 rfl kj (Qaz 3 _ _ (.int .i64 (nth (xs) (i))) (hcrx74 i (Nat.lt_of_lt_of_eq (show i<(xs).length by omega) (rfl:(xs).length=(xs).length).symm)) rfl kj kj) <| Qa7 (ints .i64 ([(nth (xs) (i))])) 3 1 35 rfl kj kj fun g76 W3 l76 e3 r76_3=>?_
    have x3:=Ext.tr xx4 e3
    have b76:=qT xx4.size l76
    have y1_3:=(Rely.Ext.trans e2 e3)
    refine QaH (k:=.i64) (T:=3) (xs:=xs.take (min i 16)) (ys:=[(nth (xs) (i))]) (V:=V1) 8 (.tmp 30) (.tmp 35) 127 rfl kj kj (by decide) 36 rfl kj kj kj (hu.ext e3) (QaI (xs:=[(nth (xs) (i))]) (n:=1) rfl r76_3 (Qau r76_3) (show 1≤maxLen from by decide)) (by rw [List.length_take]; show _+1≤_; omega) y1_3 fun y5_ W4 f78 y4 l4=>?_
    have x4:=Ext.low x3 l4 xx1.size
    refine sg 1 kj <| Qao <| hK71 _ _ <| Qai <| sg 1 kj <| Qab (.int .i64 ((i+1:Nat):Int)) 27 rfl kj (Qaf (u:=.int .i64 (IntKind.i64.wrap (((i:Nat):Int)+1))) kj (congrArg (Value.int .i64) (i64n _ _ (by omega) (by omega)))) <| sg 1 kj <| Qao ?_
    repeat (first | with_reducible refine goX1 ?_ | with_reducible refine goX2 ?_ | with_reducible refine goX3 ?_)
    exact Qax ((i+1),y5_) ⟨kj,kj,kj,kj,trivial⟩ ⟨(show i+1≤xs.length by omega),(by rw [Qig xs i hi16 hlt25]; exact f78),y4,x4⟩ (by show xs.length-(i+1)<xs.length-i; omega)
   ·skip
    have hi16:16≤i:=by have:=of_decide_eq_false c73; omega
    refine wp_skip <| hK71 _ _ <| Qai <| sg 1 kj <| Qab (.int .i64 ((i+1:Nat):Int)) 27 rfl kj (Qaf (u:=.int .i64 (IntKind.i64.wrap (((i:Nat):Int)+1))) kj (congrArg (Value.int .i64) (i64n _ _ (by omega) (by omega)))) <| sg 1 kj <| Qao ?_
    repeat (first | with_reducible refine goX1 ?_ | with_reducible refine goX2 ?_ | with_reducible refine goX3 ?_)
    exact Qax ((i+1),u) ⟨kj,kj,kj,kj,trivial⟩ ⟨(show i+1≤xs.length by omega),(by rw [Qih xs i hi16]; exact hu),e2,xx4⟩ (by show xs.length-(i+1)<xs.length-i; omega)
  ·skip
   have heq25:i=xs.length:=by have:=of_decide_eq_false c70; omega
   have hu16:OwnN .i64 3 V1.heap.size (xs.take 16) u V4:=by have h9:=hu; rw [show min i 16=16 by omega] at h9; exact h9
   refine wp_exit <| hK66 _ _ <| sgC fun K80 hK80=>?_
   have f82_2:=(hrx.ext e2)
   obtain ⟨grx81,orx81,harx81,-,hlrx81,hcrx81⟩:=QbF f82_2 (by omega)
   refine sg 2 kj <| Qab (.pointer (some ⟨grx81,orx81+16,none⟩)) 39 rfl kj (QaN 127 _ _ .i64 16 grx81 orx81 xs.length cx 3 ax _ harx81 rfl rfl kj kj kj kj (Nat.lt_of_lt_of_eq (show 16<(xs).length by omega) (rfl:(xs).length=(xs).length).symm)) <| Qab (.int .i64 (nth (xs) (16))) 40 rfl kj (Qaz 3 _ _ (.int .i64 (nth (xs) (16))) (hcrx81 16 (Nat.lt_of_lt_of_eq (show 16<(xs).length by omega) (rfl:(xs).length=(xs).length).symm)) rfl kj kj) <| Qab (.int .i64 (nth xs 16%4)) 41 rfl kj (Qaf (u:=.int .i64 (Int.tmod ((nth (xs) (16))) (4))) kj (congrArg (Value.int .i64) (show Int.tmod (nth xs 16) 4=nth xs 16%4 from Int.tmod_eq_emod_of_nonneg (by have:=Qa8 hxb 16; omega)))) ?_
   refine Qa7 (ints .i64 ([(nth xs 16%4)])) 3 1 42 rfl kj kj fun g83 W3 l83 e3 r83_3=>?_
   have x3:=Ext.tr xx4 e3
   have b83:=qT xx4.size l83
   have y1_3:=(Rely.Ext.trans e2 e3)
   refine QaH (k:=.i64) (T:=3) (xs:=xs.take 16) (ys:=[(nth xs 16%4)]) (V:=V1) 8 (.tmp 37) (.tmp 42) 127 rfl kj kj (by decide) 43 rfl kj kj kj (hu16.ext e3) (QaI (xs:=[(nth xs 16%4)]) (n:=1) rfl r83_3 (Qau r83_3) (show 1≤maxLen from by decide)) (by rw [List.length_take]; show _+1≤_; omega) y1_3 fun y6_ W4 f85 y4 l4=>?_
   have x4:=Ext.low x3 l4 xx1.size
   refine sg 1 kj <| sgN hK80 <| wp_seq_k fun K87 hK87=>sgB kj <| wp_block <| Qa5 (fun (s5:Nat×List Int×Value)=>[(0,.slice ax xs.length cx),(3,y6_),(4,s5.2.2),(6,.int .i64 ((16+s5.1:Nat):Int))]) (fun (s5:Nat×List Int×Value) W=>(16+s5.1≤xs.length)∧(s5.2.1.length=s5.1)∧(Qaj s5.2.1)∧(4*lev s5.2.1+nth xs 16%4=lev ((xs.drop 16).take s5.1)+nth xs (16+s5.1)%4*p256 s5.1)∧(OwnN .i64 3 W4.heap.size s5.2.1 s5.2.2 W)∧(Ext W4 W)∧(Ext w W)) (fun (s5:Nat×List Int×Value)=>xs.length-(16+s5.1)) (0,[],(.slice none 0 0)) ⟨kj,kj,kj,kj,trivial⟩ ⟨(show 16+0≤xs.length by omega),rfl,(fun x hx=>by cases hx),(by show 4*0+nth xs 16%4=0+nth xs 16%4*1; omega),(Qbz _ _ _ _),(Rely.Ext.refl W4),x4⟩ fun s5 X5 V5 hI5=>?_
   obtain ⟨k,hs,u2⟩:=s5
   obtain ⟨hk,hhl,hhb,hhv,hu2,kk5,xx5⟩:=hI5
   replace hk:16+k≤xs.length:=hk
   replace hhl:hs.length=k:=hhl
   replace hhb:Qaj hs:=hhb
   replace hhv:4*lev hs+nth xs 16%4=lev ((xs.drop 16).take k)+nth xs (16+k)%4*p256 k:=hhv
   replace hu2:OwnN .i64 3 W4.heap.size hs u2 V5:=hu2
   replace kk5:Ext W4 V5:=kk5
   replace xx5:Ext w V5:=xx5
   have e5:=kk5
   refine wp_seq_k fun K89 hK89=>sgB kj <| Qay (t:=decide (((16+k:Nat):Int)<((xs.length:Nat):Int))) kj (fun c91=>?_) (fun c91=>?_)
   ·skip
    have hlt47:16+k<xs.length:=by have:=of_decide_eq_true c91; omega
    have f95_5:=((RdK.low (f82_2.ext e3) hrx l4).ext e5)
    obtain ⟨grx92,orx92,harx92,-,hlrx92,hcrx92⟩:=QbF f95_5 (by omega)
    have hxk:=Qa8 hxb (16+k)
    have hxk1:=Qa8 hxb (16+(k+1))
    have hxk2:=Qa8 hxb ((16+k)+1)
    refine wp_skip <| hK89 _ _ <| wp_seq_k fun K96 hK96=>wp_block <| sgC fun K97 hK97=>sg 2 kj <| Qab (.pointer (some ⟨grx92,orx92+(16+k),none⟩)) 52 rfl kj (QaN 127 _ _ .i64 (16+k) grx92 orx92 xs.length cx 3 ax _ harx92 rfl rfl kj kj kj kj (Nat.lt_of_lt_of_eq (show 16+k<(xs).length by omega) (rfl:(xs).length=(xs).length).symm)) <| Qab (.int .i64 (nth (xs) ((16+k)))) 53 rfl kj (Qaz 3 _ _ (.int .i64 (nth (xs) ((16+k)))) (hcrx92 (16+k) (Nat.lt_of_lt_of_eq (show 16+k<(xs).length by omega) (rfl:(xs).length=(xs).length).symm)) rfl kj kj) <| Qab (.int .i64 (nth xs (16+k)/4)) 54 rfl kj (Qaf (u:=.int .i64 (IntKind.i64.wrap (Int.tdiv ((nth (xs) ((16+k)))) (4)))) kj (congrArg (Value.int .i64) (by rw [show Int.tdiv (nth xs (16+k)) 4=(nth xs (16+k))/4 from Int.tdiv_eq_ediv_of_nonneg (by omega)]; exact IntWalk.i64_in _ (by omega)))) ?_
    refine sg 1 kj <| sgN hK97 <| wp_seq_k fun K98 hK98=>sgC fun K99 hK99=>sg 1 kj <| Qab (.int .i64 (((16+k)+1:Nat):Int)) 56 rfl kj (Qaf (u:=.int .i64 (IntKind.i64.wrap (((16+k:Nat):Int)+1))) kj (congrArg (Value.int .i64) (i64n _ _ (by omega) (by omega)))) <| sg 3 kj <| sgN hK99 <| Qay (t:=decide ((((16+k)+1:Nat):Int)<((xs.length:Nat):Int))) kj (fun c100=>?_) (fun c100=>?_)
    ·skip
     have hk1:16+(k+1)<xs.length:=by have:=of_decide_eq_true c100; omega
     obtain ⟨grx101,orx101,harx101,-,hlrx101,hcrx101⟩:=QbF f95_5 (by omega)
     refine Qai <| sg 3 kj <| Qab (.int .i64 (((16+k)+1:Nat):Int)) 63 rfl kj (Qaf (u:=.int .i64 (IntKind.i64.wrap (((16+k:Nat):Int)+1))) kj (congrArg (Value.int .i64) (i64n _ _ (by omega) (by omega)))) <| Qab (.pointer (some ⟨grx101,orx101+((16+k)+1),none⟩)) 64 rfl kj (QaN 127 _ _ .i64 ((16+k)+1) grx101 orx101 xs.length cx 3 ax _ harx101 rfl rfl kj kj kj kj (Nat.lt_of_lt_of_eq (show (16+k)+1<(xs).length by omega) (rfl:(xs).length=(xs).length).symm)) <| Qab (.int .i64 (nth (xs) (((16+k)+1)))) 65 rfl kj (Qaz 3 _ _ (.int .i64 (nth (xs) (((16+k)+1)))) (hcrx101 ((16+k)+1) (Nat.lt_of_lt_of_eq (show (16+k)+1<(xs).length by omega) (rfl:(xs).length=(xs).length).symm)) rfl kj kj) <| Qab (.int .i64 (nth xs ((16+k)+1)%4)) 66 rfl kj (Qaf (u:=.int .i64 (Int.tmod ((nth (xs) (((16+k)+1)))) (4))) kj (congrArg (Value.int .i64) (show Int.tmod (nth xs ((16+k)+1)) 4=(nth xs ((16+k)+1))%4 from Int.tmod_eq_emod_of_nonneg (by omega)))) <| Qab (.int .i64 (nth xs ((16+k)+1)%4*64)) 67 rfl kj (Qaf (u:=.int .i64 (IntKind.i64.wrap ((nth xs ((16+k)+1)%4)*64))) kj (congrArg (Value.int .i64) (IntWalk.i64_in _ (by omega)))) <| Qab (.int .i64 (nth xs (16+k)/4+nth xs ((16+k)+1)%4*64)) 68 rfl kj (Qaf (u:=.int .i64 (IntKind.i64.wrap ((nth xs (16+k)/4)+(nth xs ((16+k)+1)%4*64)))) kj (congrArg (Value.int .i64) (IntWalk.i64_in _ (by omega)))) <| sg 1 kj <| Qao ?_
     refine hK98 _ _ <| Qai <| sg 2 kj <| Qa7 (ints .i64 ([(nth xs (16+k)/4+nth xs ((16+k)+1)%4*64)])) 3 1 71 rfl kj kj fun g102 W6 l102 e6 r102_6=>?_
     have x6:=Ext.tr xx5 e6
     have b102:=qT xx5.size l102
     have y4_6:=(Rely.Ext.trans e5 e6)
     refine QaH (k:=.i64) (T:=3) (xs:=hs) (ys:=[(nth xs (16+k)/4+nth xs ((16+k)+1)%4*64)]) (V:=W4) 8 (.tmp 69) (.tmp 71) 127 rfl kj kj (by decide) 72 rfl kj kj kj (hu2.ext e6) (QaI (xs:=[(nth xs (16+k)/4+nth xs ((16+k)+1)%4*64)]) (n:=1) rfl r102_6 (Qau r102_6) (show 1≤maxLen from by decide)) (by show hs.length+1≤_; omega) y4_6 fun y7_ W7 f104 y7 l7=>?_
     have x7:=Ext.low x6 l7 x4.size
     refine sg 1 kj <| Qao <| hK96 _ _ <| Qai <| sg 1 kj <| Qab (.int .i64 (((16+k)+1:Nat):Int)) 49 rfl kj (Qaf (u:=.int .i64 (IntKind.i64.wrap (((16+k:Nat):Int)+1))) kj (congrArg (Value.int .i64) (i64n _ _ (by omega) (by omega)))) <| sg 1 kj <| Qao ?_
     repeat (first | with_reducible refine goX1 ?_ | with_reducible refine goX2 ?_ | with_reducible refine goX3 ?_)
     exact Qax ((k+1),hs++[(nth xs (16+k)/4+nth xs ((16+k)+1)%4*64)],y7_) ⟨kj,kj,kj,kj,trivial⟩ ⟨(show 16+(k+1)≤xs.length by omega),(show (hs++[(nth xs (16+k)/4+nth xs ((16+k)+1)%4*64)]).length=k+1 by rw [List.length_append,hhl]; rfl),(show Qaj (hs++[(nth xs (16+k)/4+nth xs ((16+k)+1)%4*64)]) from bytes_app hhb (QbE (by omega) (by omega))),(Qeu (d:=(nth xs (16+k)/4+nth xs ((16+k)+1)%4*64)) rfl rfl hhl hlt47 (by first | rfl | (rw [hy0]; omega)) hhv),f104,y7,x7⟩ (by show xs.length-(16+(k+1))<xs.length-(16+k); omega)
    ·skip
     have hk1:xs.length≤16+(k+1):=by have:=of_decide_eq_false c100; omega
     have hy0:=QfF xs _ hk1
     refine wp_skip <| hK98 _ _ <| Qai <| sg 2 kj <| Qa7 (ints .i64 ([(nth xs (16+k)/4)])) 3 1 71 rfl kj kj fun g106 W6 l106 e6 r106_6=>?_
     have x6:=Ext.tr xx5 e6
     have b106:=qT xx5.size l106
     have y4_6:=(Rely.Ext.trans e5 e6)
     refine QaH (k:=.i64) (T:=3) (xs:=hs) (ys:=[(nth xs (16+k)/4)]) (V:=W4) 8 (.tmp 69) (.tmp 71) 127 rfl kj kj (by decide) 72 rfl kj kj kj (hu2.ext e6) (QaI (xs:=[(nth xs (16+k)/4)]) (n:=1) rfl r106_6 (Qau r106_6) (show 1≤maxLen from by decide)) (by show hs.length+1≤_; omega) y4_6 fun y8_ W7 f108 y7 l7=>?_
     have x7:=Ext.low x6 l7 x4.size
     refine sg 1 kj <| Qao <| hK96 _ _ <| Qai <| sg 1 kj <| Qab (.int .i64 (((16+k)+1:Nat):Int)) 49 rfl kj (Qaf (u:=.int .i64 (IntKind.i64.wrap (((16+k:Nat):Int)+1))) kj (congrArg (Value.int .i64) (i64n _ _ (by omega) (by omega)))) <| sg 1 kj <| Qao ?_
     repeat (first | with_reducible refine goX1 ?_ | with_reducible refine goX2 ?_ | with_reducible refine goX3 ?_)
     exact Qax ((k+1),hs++[(nth xs (16+k)/4)],y8_) ⟨kj,kj,kj,kj,trivial⟩ ⟨(show 16+(k+1)≤xs.length by omega),(show (hs++[(nth xs (16+k)/4)]).length=k+1 by rw [List.length_append,hhl]; rfl),(show Qaj (hs++[(nth xs (16+k)/4)]) from bytes_app hhb (QbE (by omega) (by omega))),(Qeu (d:=(nth xs (16+k)/4)) rfl rfl hhl hlt47 (by first | rfl | (rw [hy0]; omega)) hhv),f108,y7,x7⟩ (by show xs.length-(16+(k+1))<xs.length-(16+k); omega)
   ·skip
    have heq47:16+k=xs.length:=by have:=of_decide_eq_false c91; omega
    have hhe:4*lev hs+nth xs 16%4=lev (xs.drop 16):=by
     rw [hhv,List.take_of_length_le (by rw [List.length_drop]; omega),QfF xs _ (by omega)]; omega
    refine wp_exit <| hK87 _ _ <| Qai ?_
    obtain ⟨low,elow⟩:∃ z,z=xs.take 16++[nth xs 16%4]:=⟨_,rfl⟩
    have hlw:OwnN .i64 3 V1.heap.size low y6_ V5:=elow▸(f85.ext e5)
    obtain ⟨al,cl,rfl,-⟩:=id (OwnN.rd hlw)
    have hll:low.length=17:=by rw [elow,List.length_append,List.length_take]; show min 16 xs.length+1=17; omega
    have hlb:Qaj low:=elow▸bytes_app (Qa9 hxb 16) (QbE (by have:=Qa8 hxb 16; omega) (by omega))
    have hsp:=Qfi h17 elow hhe
    have hlo:=Qg2 hxb h17 elow
    obtain ⟨ah,ch,rfl,-⟩:=id (OwnN.rd hu2)
    refine sg 2 kj <| Qa7 (ints .i64 ([5])) 3 1 75 rfl kj kj fun g111 W6 l111 e6 r111_6=>?_
    have x6:=Ext.tr xx5 e6
    have b111:=qT xx5.size l111
    refine Qat (fun v W'=>(DigR W6.heap.size (lev hs*lev [5]) (hs.length+1+1)) v W'∧Ext W6 W') 81 #[.slice ah hs.length ch,.slice (some ⟨g111,0,none⟩) 1 1] 76 rfl kj kj ((QfZ hs [5] _ _ _ _ _ (OwnN.rd (hu2.ext e6)) (QaI (xs:=[5]) (n:=1) rfl r111_6 (Qau r111_6) (show 1≤maxLen from by decide)) (by omega) (by decide) hhb (QbE (by decide) (by decide))).mono (by rintro e w' ⟨v,rfl,e1,hv⟩; exact ⟨v,rfl,hv,e1⟩)) fun vv114 W7 hh114=>?_
    obtain ⟨hv114,e7⟩:=hh114
    have x7:=Ext.tr x6 e7
    obtain ⟨zs112,hzb112,hzv112,hzl112,hzo112⟩:=hv114
    obtain ⟨az112,cz112,rfl,-⟩:=id (OwnN.rd hzo112)
    refine Qat (fun v W'=>(DigR W7.heap.size (lev low+lev zs112) (max low.length zs112.length+1)) v W'∧Ext W7 W') 82 #[.slice al low.length cl,.slice az112 zs112.length cz112] 77 rfl kj kj ((QeI low zs112 _ _ _ _ _ (OwnN.rd ((hlw.ext e6).ext e7)) (OwnN.rd hzo112) (by omega) (by omega) hlb hzb112).mono (by rintro e w' ⟨v,rfl,e1,hv⟩; exact ⟨v,rfl,hv,e1⟩)) fun vv118 W8 hh118=>?_
    obtain ⟨hv118,e8⟩:=hh118
    have x8:=Ext.tr x7 e8
    obtain ⟨zs115,hzb115,hzv115,hzl115,hzo115⟩:=hv118
    obtain ⟨az115,cz115,rfl,-⟩:=id (OwnN.rd hzo115)
    refine Qat (fun v W'=>(fun v W=>∃ m,m≤zs115.length∧v=.slice az115 m cz115∧lev (zs115.take m)=lev zs115∧(m=0∨nth zs115 (m-1)≠0)) v W'∧Ext W8 W') 80 #[.slice az115 zs115.length cz115] 78 rfl kj kj ((QfA zs115 _ _ _ _ (OwnN.rd hzo115) (by omega)).mono (by rintro e w' ⟨v,rfl,e1,hv⟩; exact ⟨v,rfl,hv,e1⟩)) fun vv120 W9 hh120=>?_
    obtain ⟨hv120,e9⟩:=hh120
    have x9:=Ext.tr x8 e9
    obtain ⟨m119,hm119,rfl,hv119,ht119⟩:=hv120
    have htl119:(zs115.take m119).length=m119:=by rw [List.length_take]; omega
    refine sg 1 kj <| Qao ?_
    have hnew:lev (zs115.take m119)=lev low+5*lev hs:=by rw [hv119,hzv115,hzv112]; simp only [lev]; omega
    have hhp:=Qbu hhb
    have y0_2:=(Rely.Ext.trans e1 e2)
    have y0_3:=(Rely.Ext.trans y0_2 e3)
    have y0_4:=(Ext.low y0_3 l4 e1.size)
    have y0_5:=(Rely.Ext.trans y0_4 e5)
    have y0_6:=(Rely.Ext.trans y0_5 e6)
    have y0_7:=(Rely.Ext.trans y0_6 e7)
    have y0_8:=(Rely.Ext.trans y0_7 e8)
    have y0_9:=(Rely.Ext.trans y0_8 e9)
    repeat (first | with_reducible refine goX1 ?_ | with_reducible refine goX2 ?_ | with_reducible refine goX3 ?_)
    exact Qax ((zs115.take m119),(.slice az115 m119 cz115)) ⟨kj,trivial⟩ ⟨(Qa9 hzb115 m119),(QcW hm119 ht119),(Qg1 (h:=lev hs) (by rw [hnew]; omega) hxm),(by show (zs115.take m119).length≤_; rw [List.length_take]; omega),(RdK.here (Qcg (OwnN.rd (hzo115.ext e9)) m119 hm119)),y0_9,x9⟩ (by show (lev (zs115.take m119)).toNat<(lev xs).toNat; omega)
 ·skip
  obtain ⟨grx122,orx122,harx122,-,hlrx122,hcrx122⟩:=QbF hrx (by omega)
  have h17:17≤xs.length:=by omega
  have hend:=Qg3 hxb (.inr hq)
  refine Qai <| sg 2 kj <| Qab (.bool false) 10 rfl kj (Qaf (u:=.bool (decide (((xs.length:Nat):Int)>17))) kj (congrArg Value.bool (decide_eq_false (by omega)))) <| sg 3 kj <| Qab (.bool true) 14 rfl kj (Qaf (u:=.bool ((((xs.length:Nat):Int)==17))) kj (congrArg Value.bool (by rw [hq.1]; rfl))) ?_
  refine sg 2 kj <| Qab (.pointer (some ⟨grx122,orx122+16,none⟩)) 17 rfl kj (QaN 127 _ _ .i64 16 grx122 orx122 xs.length cx 3 ax _ harx122 rfl rfl kj kj kj kj (Nat.lt_of_lt_of_eq (show 16<(xs).length by omega) (rfl:(xs).length=(xs).length).symm)) <| Qab (.int .i64 (nth (xs) (16))) 18 rfl kj (Qaz 3 _ _ (.int .i64 (nth (xs) (16))) (hcrx122 16 (Nat.lt_of_lt_of_eq (show 16<(xs).length by omega) (rfl:(xs).length=(xs).length).symm)) rfl kj kj) <| Qab (.bool false) 19 rfl kj (Qaf (u:=.bool (decide ((nth (xs) (16))>3))) kj (congrArg Value.bool (decide_eq_false (by omega)))) <| sg 2 kj <| sgN hK4 <| cond_false kj <| wp_exit <| hK2 _ _ <| sgB kj ?_
  refine wp_ret ?_
  repeat (first | with_reducible refine goR1 ?_ | with_reducible refine goR2 ?_)
  exact (show bodyPost _ _ _ .ret _ _ from ret1 (.slice ax xs.length cx) rfl (Qa0 kj) ⟨_,rfl,xx1,xs,hxb,hxm,hend,(by omega),RdK.here hrx⟩)
 ·skip
  have hend:=Qg3 hxb (.inl hq)
  refine Qai <| sg 2 kj <| Qab (.bool false) 10 rfl kj (Qaf (u:=.bool (decide (((xs.length:Nat):Int)>17))) kj (congrArg Value.bool (decide_eq_false (by omega)))) <| sg 3 kj <| Qab (.bool false) 14 rfl kj (Qaf (u:=.bool ((((xs.length:Nat):Int)==17))) kj (congrArg Value.bool (beq_eq_false_iff_ne.2 (by omega)))) <| sg 7 kj <| sgN hK4 <| cond_false kj <| wp_exit <| hK2 _ _ ?_
  refine sgB kj <| wp_ret ?_
  repeat (first | with_reducible refine goR1 ?_ | with_reducible refine goR2 ?_)
  exact (show bodyPost _ _ _ .ret _ _ from ret1 (.slice ax xs.length cx) rfl (Qa0 kj) ⟨_,rfl,xx1,xs,hxb,hxm,hend,(by omega),RdK.here hrx⟩)
end Go.Proofs.YtophlgnnjjkkiaaDoor.Ae
end
section
namespace Go.Proofs.YtophlgnnjjkkiaaDoor.Ae
open Go Go.RowKit
open Rely Auto Own Sha
open Sha Cha
theorem Qf9 {P : Program} {ρ:Operand→Value} {o:Oper} {w:World} (t:TypeId) (x y z:Operand) (l h:Nat) (e:TypeId) (ho:o.op=.slice t x (some y) (some z) none) {a:Option Addr} {len cap:Nat} (hx:ρ x=.slice a len cap)
    (hu:P.underlying t=some (.slice e)) (hs:(P.info? e).map (·.size)=some 1) (ky kz:IntKind) (hy:ρ y=.int ky (l:Int)) (hz:ρ z=.int kz (h:Int)) (h1:l≤h) (h2:h≤cap) :
    (execOp ρ o).run P w=.ok (.value (.slice (Qde a cap l) (h-l) (cap-l))) w:=by
  cases hq:P.info? e with
  | none=>simp [hq] at hs
  | some i =>
    have hs':i.size=1:=by simpa [hq] using hs
    unfold execOp Qde
    have hadd:∀ a:Option Addr,Option.map (fun x=>x.add 0) a=a:=fun a=>by
      cases a with
      | none=>rfl
      | some a=>obtain ⟨b,o,s⟩:=a; cases s <;> simp [Addr.add]
    by_cases hc:cap=l
    · have h3:h=l:=by omega
      subst h3
      simp [ho,hx,hy,hz,Instr.sliceAt,Instr.slice,Instr.sliceBounds,run_sliceBound,run_underlying hu,sizeOf,typeInfo,hq,hs',hadd,hc]
    · simp [ho,hx,hy,hz,Instr.sliceAt,Instr.slice,Instr.sliceBounds,run_sliceBound,run_underlying hu,sizeOf,typeInfo,hq,hs',h1,h2,hadd,hc]
theorem Qe7 {k : IntKind} {T:TypeId} {g n l h:Nat} {xs:List Int} {W:World} (hn:xs.length=n) (r:W.heap[g]? = some (.cells (ints k xs) T)) (h1:l≤h) (h2:h≤n) (h3:n≤maxLen):RdK k W.heap.size ((xs.drop l).take (h-l)) (.slice (some ⟨g,l,none⟩) (h-l) (n-l)) W :=
  QdG l (by rw [List.length_take,List.length_drop]; omega) r (fun i hi=>by rw [QdW _ _ _ hi,Qer]; exact QaM k xs (l+i) (by omega)) (Qau r) (by omega) (by omega)
def Qey (b : List Int):List Int :=
  let b1:=b.set 3 (nth b 3%16)
  let b2:=b1.set 7 (nth b1 7%16)
  let b3:=b2.set 11 (nth b2 11%16)
  let b4:=b3.set 15 (nth b3 15%16)
  let b5:=b4.set 4 (nth b4 4/4*4)
  let b6:=b5.set 8 (nth b5 8/4*4)
  b6.set 12 (nth b6 12/4*4)
def rOf (key : List Int):Int:=lev (Qey ((key.drop 0).take (16-0)))
def sOf (key : List Int):Int:=lev ((key.drop 16).take (32-16))
theorem QdQ {x c r q y:Int} (h:x%PP=q) (hy:y%PP=(x+c)*r%PP):y%PP=(q+c)*r%PP:=by
  rw [hy,←h,Int.mul_emod (x+c),Int.add_emod x c,Int.mul_emod (x%PP+c),Int.add_emod (x%PP) c,Int.emod_emod_of_dvd x (Int.dvd_refl PP)]
theorem QmM {xs zs:List Int} (hx:lev xs<1361129467683753853853498429727072845824) (hb:Qaj zs) (hv:lev zs=lev xs+lev [5]) (h17:17≤zs.length) (h4:4≤nth zs 16):lev (zs.set 16 (nth zs 16%4))=lev xs%PP:=by
  have h1:=Qds zs 16 hb
  rw [p16] at h1
  have h2:lev [5]=5:=rfl
  rw [h2] at hv
  have h3:=Qbu hb
  have h6:nth zs 16=4:=by omega
  have h7:1361129467683753853853498429727072845819≤lev xs:=by omega
  rw [Qh7 zs 16 _ (by omega),p16,h6]
  unfold PP
  omega
theorem Qli {xs zs:List Int} (hx0:0≤lev xs) (hb:Qaj zs) (hv:lev zs=lev xs+lev [5]) (hlt:lev xs<1361129467683753853853498429727072845824) (h:zs.length<17∨nth zs 16<4):lev xs=lev xs%PP:=by
  have h2:lev [5]=5:=rfl
  rw [h2] at hv
  have h1:=Qds zs 16 hb
  rw [p16] at h1
  have h5:zs.length<17→nth zs 16=0:=fun h=>QfF zs 16 (by omega)
  unfold PP
  rcases h with h | h
  · have:=h5 h; omega
  · omega
theorem Qdw {zs : List Int} (hb:Qaj zs) {i:Nat} (hi:i≤16) (h:i=16∨zs.length≤i):Qby (by16 (lev zs)) 16 i=by16 (lev zs):=by
  apply Qh1
  · rw [QbK _ 16 _ (QaA _) hi,QaA]
  · intro j hj
    rw [QbK _ 16 _ (QaA _) hi] at hj
    unfold Qby
    rcases Nat.lt_or_ge j i with hji | hji
    · have e:nth ((by16 (lev zs)).take i++List.replicate (16-i) 0) j=nth ((by16 (lev zs)).take i) j:=by
        unfold nth; rw [List.getD_eq_getElem?_getD,List.getD_eq_getElem?_getD,List.getElem?_append_left (by rw [List.length_take,QaA]; omega)]
      rw [e,QdW _ _ _ hji]
    · rcases h with h | h
      · omega
      · rw [Qgo _ _ hj,←Qds zs j hb,QfF zs j (by omega)]
        unfold nth
        rw [List.getD_eq_getElem?_getD,List.getElem?_append_right (by rw [List.length_take,QaA]; omega),List.getElem?_replicate]
        split <;> rfl
theorem Qf0 {zs : List Int} (hb:Qaj zs) {i:Nat} (hi:i<16):IntKind.u8.wrap (nth zs i)=nth (by16 (lev zs)) i:=by
  have h:=Qa8 hb i
  have h3:∀ z:Int,IntKind.u8.wrap z=z%256:=fun _=>rfl
  rw [Qgo _ _ hi,←Qds zs i hb,h3]
  omega
theorem Qju (t : List Int) (n e:Nat) (h:e=16*n+16∨(e=t.length∧t.length<16*n+16)):(t.drop (16*n)).take (e-16*n)=(t.drop (16*n)).take 16:=by
  rcases h with h | ⟨h,h2⟩
  · rw [h,show 16*n+16-16*n=16 by omega]
  · rw [List.take_of_length_le (by rw [List.length_drop]; omega),List.take_of_length_le (by rw [List.length_drop]; omega)]
set_option maxRecDepth 100000 in
theorem QmD (key text:List Int) (v:Value) (B:Nat) (w:World) (hkl:key.length=32) (hkb:Qaj key) (htb:Qaj text) (ht:RdK .u8 B text v w) (hl:text.length≤3000000) :
  Calls Tryd.prog 64 #[.agg (ints .u8 key),v] w (Ret w (.agg (ints .u8 (tagV (rOf key) (sOf key) text)))):=by
 obtain ⟨a_t,c_t,rfl,-⟩:=id ht
 have hcap:text.length≤c_t:=by
  obtain ⟨_,_,e,q2,_⟩:=id ht
  simp only [Value.slice.injEq] at e
  obtain ⟨-,-,rfl⟩:=e
  exact q2
 refine enter 113 [(0,.agg (ints .u8 (key))),(1,.slice a_t text.length c_t)] Tryd.func64 rfl rfl kj rfl <| sgC fun K1 hK1=>Qaq (ints .u8 (key)) 23 2 rfl kj kj fun g2 W1 l2 e1 r2_1=>?_
 have x1:=Ext.tr (Rely.Ext.refl w) e1
 have b2:=qT (Rely.Ext.refl w).size l2
 refine Qaq (ints .u8 (List.replicate 16 0)) 82 4 rfl kj kj fun g3 W2 l3 e2 r3_2=>?_
 have x2:=Ext.tr x1 e2
 have b3:=qT x1.size l3
 refine sgN hK1 <| sgC fun K4 hK4=>Qab (.slice (some ⟨g2,0+0,none⟩) (16-0) (32-0)) 16 rfl kj (QbC 23 _ _ _ 0 16 32 g2 0 5 rfl kj kj kj rfl ⟨.i64,by kernel_rfl⟩ (by omega) (by omega) (by omega)) ?_
 have r2_2:=(Qaa r2_1 e2)
 refine Qat (fun v W'=>(OwnN .i64 3 W2.heap.size ((key.drop 0).take (16-0))) v W'∧Ext W2 W') 78 #[.slice (some ⟨g2,0+0,none⟩) (16-0) (32-0)] 17 rfl kj kj ((QdV ((key.drop 0).take (16-0)) _ _ _ (Qe7 (l:=0) (h:=16) hkl r2_2 (by decide) (by decide) (by decide)) (by rw [List.length_take]; omega) (Qa9 (QaQ hkb 0) _)).mono (by rintro e w' ⟨v,rfl,e1,hv⟩; exact ⟨v,rfl,hv,e1⟩)) fun vv6 W3 hh6=>?_
 obtain ⟨hv6,e3⟩:=hh6
 obtain ⟨an5,cn5,hvn5,-⟩:=id (OwnN.rd hv6)
 subst hvn5
 refine sg 1 kj ?_
 obtain ⟨r0,er0⟩:∃ z,z=(key.drop 0).take (16-0):=⟨_,rfl⟩
 have hr0:r0.length=16:=by rw [er0,List.length_take,List.length_drop,hkl]; rfl
 have hr0b:Qaj r0:=er0▸Qa9 (QaQ hkb 0) _
 have hor:OwnN .i64 3 W2.heap.size r0 (.slice an5 (((key.drop 0).take (16-0)).length) cn5) W3:=er0▸hv6
 obtain ⟨gr,cr,rr_,evr,lr,rowr,hcr⟩:=Qep hor hr0 (by decide)
 rw [evr]
 refine sgN hK4 <| wp_seq_k fun K8 hK8=>sgB kj <| wp_block <| wp_loop_rounds 5 ?_
 show Code.wp _ _ (Exit.then (Code.rounds _ _ _ 4) _) _ _
 refine wp_seq_k fun K10 hK10=>sgB kj <| cond_true kj <| wp_skip <| hK10 _ _ <| wp_seq_k fun K12 hK12=>wp_block ?_
 have hxr0:=Qa8 hr0b 3
 refine Qai <| sg 4 kj <| Qab (.pointer (some ⟨gr,3,none⟩)) 26 rfl kj (Qaw 127 _ _ .i64 (3) gr 16 cr 3 rfl kj kj kj kj (by decide)) <| Qab (.int .i64 (nth (r0) 3)) 27 rfl kj (Qah 3 _ gr 3 3 _ (.int .i64 (nth (r0) 3)) _ rowr rfl kj (Qbc (Nat.lt_of_lt_of_eq (by decide) hr0.symm)) kj) <| Qab (.int .i64 (nth r0 3%16)) 28 rfl kj (Qaf (u:=.int .i64 (Int.tmod ((nth (r0) 3)) (16))) kj (congrArg (Value.int .i64) (show Int.tmod (nth r0 3) 16=nth r0 3%16 from Int.tmod_eq_emod_of_nonneg (by omega)))) <| Qab (.pointer (some ⟨gr,3,none⟩)) 29 rfl kj (Qaw 127 _ _ .i64 (3) gr 16 cr 3 rfl kj kj kj kj (by decide)) <| Qal gr _ (ints .i64 ((r0).set 3 (nth r0 3%16))++rr_) 3 rowr rfl kj (Qb6 3 _ _ gr 3 3 _ _ _ rowr rfl kj kj kj (Nat.lt_of_lt_of_eq (by decide) hr0.symm)) fun W4 p4 r7_4=>?_
 obtain ⟨r1,er1⟩:∃ z,z=(r0).set 3 (nth r0 3%16):=⟨_,rfl⟩
 have hr1:r1.length=16:=by rw [er1,List.length_set,hr0]
 have hbr1:=Qa8 hr0b 3
 have hr1b:Qaj r1:=er1▸Qbm hr0b _ (by omega) (by omega)
 have r7_4_13:W4.heap[gr]? = some (.cells (ints .i64 (r1)++rr_) 3):=Qbw r7_4 (by rw [er1])
 refine Qao <| hK12 _ _ <| sgA kj ?_
 show Code.rounds _ _ _ 4 _ _
 show Code.wp _ _ (Exit.then (Code.rounds _ _ _ 3) _) _ _
 refine wp_seq_k fun K14 hK14=>sgB kj <| cond_true kj <| wp_skip <| hK14 _ _ <| wp_seq_k fun K16 hK16=>wp_block ?_
 have hxr1:=Qa8 hr1b 7
 refine Qai <| sg 4 kj <| Qab (.pointer (some ⟨gr,7,none⟩)) 26 rfl kj (Qaw 127 _ _ .i64 (7) gr 16 cr 3 rfl kj kj kj kj (by decide)) <| Qab (.int .i64 (nth (r1) 7)) 27 rfl kj (Qah 3 _ gr 7 3 _ (.int .i64 (nth (r1) 7)) _ r7_4_13 rfl kj (Qbc (Nat.lt_of_lt_of_eq (by decide) hr1.symm)) kj) <| Qab (.int .i64 (nth r1 7%16)) 28 rfl kj (Qaf (u:=.int .i64 (Int.tmod ((nth (r1) 7)) (16))) kj (congrArg (Value.int .i64) (show Int.tmod (nth r1 7) 16=nth r1 7%16 from Int.tmod_eq_emod_of_nonneg (by omega)))) <| Qab (.pointer (some ⟨gr,7,none⟩)) 29 rfl kj (Qaw 127 _ _ .i64 (7) gr 16 cr 3 rfl kj kj kj kj (by decide)) <| Qal gr _ (ints .i64 ((r1).set 7 (nth r1 7%16))++rr_) 3 r7_4_13 rfl kj (Qb6 3 _ _ gr 7 3 _ _ _ r7_4_13 rfl kj kj kj (Nat.lt_of_lt_of_eq (by decide) hr1.symm)) fun W5 p5 r7_5=>?_
 obtain ⟨r2,er2⟩:∃ z,z=(r1).set 7 (nth r1 7%16):=⟨_,rfl⟩
 have hr2:r2.length=16:=by rw [er2,List.length_set,hr1]
 have hbr2:=Qa8 hr1b 7
 have hr2b:Qaj r2:=er2▸Qbm hr1b _ (by omega) (by omega)
 have r7_5_17:W5.heap[gr]? = some (.cells (ints .i64 (r2)++rr_) 3):=Qbw r7_5 (by rw [er2])
 refine Qao <| hK16 _ _ <| sgA kj ?_
 show Code.rounds _ _ _ 3 _ _
 show Code.wp _ _ (Exit.then (Code.rounds _ _ _ 2) _) _ _
 refine wp_seq_k fun K18 hK18=>sgB kj <| cond_true kj <| wp_skip <| hK18 _ _ <| wp_seq_k fun K20 hK20=>wp_block ?_
 have hxr2:=Qa8 hr2b 11
 refine Qai <| sg 4 kj <| Qab (.pointer (some ⟨gr,11,none⟩)) 26 rfl kj (Qaw 127 _ _ .i64 (11) gr 16 cr 3 rfl kj kj kj kj (by decide)) <| Qab (.int .i64 (nth (r2) 11)) 27 rfl kj (Qah 3 _ gr 11 3 _ (.int .i64 (nth (r2) 11)) _ r7_5_17 rfl kj (Qbc (Nat.lt_of_lt_of_eq (by decide) hr2.symm)) kj) <| Qab (.int .i64 (nth r2 11%16)) 28 rfl kj (Qaf (u:=.int .i64 (Int.tmod ((nth (r2) 11)) (16))) kj (congrArg (Value.int .i64) (show Int.tmod (nth r2 11) 16=nth r2 11%16 from Int.tmod_eq_emod_of_nonneg (by omega)))) <| Qab (.pointer (some ⟨gr,11,none⟩)) 29 rfl kj (Qaw 127 _ _ .i64 (11) gr 16 cr 3 rfl kj kj kj kj (by decide)) <| Qal gr _ (ints .i64 ((r2).set 11 (nth r2 11%16))++rr_) 3 r7_5_17 rfl kj (Qb6 3 _ _ gr 11 3 _ _ _ r7_5_17 rfl kj kj kj (Nat.lt_of_lt_of_eq (by decide) hr2.symm)) fun W6 p6 r7_6=>?_
 obtain ⟨r3,er3⟩:∃ z,z=(r2).set 11 (nth r2 11%16):=⟨_,rfl⟩
 have hr3:r3.length=16:=by rw [er3,List.length_set,hr2]
 have hbr3:=Qa8 hr2b 11
 have hr3b:Qaj r3:=er3▸Qbm hr2b _ (by omega) (by omega)
 have r7_6_21:W6.heap[gr]? = some (.cells (ints .i64 (r3)++rr_) 3):=Qbw r7_6 (by rw [er3])
 refine Qao <| hK20 _ _ <| sgA kj ?_
 show Code.rounds _ _ _ 2 _ _
 show Code.wp _ _ (Exit.then (Code.rounds _ _ _ 1) _) _ _
 refine wp_seq_k fun K22 hK22=>sgB kj <| cond_true kj <| wp_skip <| hK22 _ _ <| wp_seq_k fun K24 hK24=>wp_block ?_
 have hxr3:=Qa8 hr3b 15
 refine Qai <| sg 4 kj <| Qab (.pointer (some ⟨gr,15,none⟩)) 26 rfl kj (Qaw 127 _ _ .i64 (15) gr 16 cr 3 rfl kj kj kj kj (by decide)) <| Qab (.int .i64 (nth (r3) 15)) 27 rfl kj (Qah 3 _ gr 15 3 _ (.int .i64 (nth (r3) 15)) _ r7_6_21 rfl kj (Qbc (Nat.lt_of_lt_of_eq (by decide) hr3.symm)) kj) <| Qab (.int .i64 (nth r3 15%16)) 28 rfl kj (Qaf (u:=.int .i64 (Int.tmod ((nth (r3) 15)) (16))) kj (congrArg (Value.int .i64) (show Int.tmod (nth r3 15) 16=nth r3 15%16 from Int.tmod_eq_emod_of_nonneg (by omega)))) <| Qab (.pointer (some ⟨gr,15,none⟩)) 29 rfl kj (Qaw 127 _ _ .i64 (15) gr 16 cr 3 rfl kj kj kj kj (by decide)) <| Qal gr _ (ints .i64 ((r3).set 15 (nth r3 15%16))++rr_) 3 r7_6_21 rfl kj (Qb6 3 _ _ gr 15 3 _ _ _ r7_6_21 rfl kj kj kj (Nat.lt_of_lt_of_eq (by decide) hr3.symm)) fun W7 p7 r7_7=>?_
 obtain ⟨r4,er4⟩:∃ z,z=(r3).set 15 (nth r3 15%16):=⟨_,rfl⟩
 have hr4:r4.length=16:=by rw [er4,List.length_set,hr3]
 have hbr4:=Qa8 hr3b 15
 have hr4b:Qaj r4:=er4▸Qbm hr3b _ (by omega) (by omega)
 have r7_7_25:W7.heap[gr]? = some (.cells (ints .i64 (r4)++rr_) 3):=Qbw r7_7 (by rw [er4])
 refine Qao <| hK24 _ _ <| sgA kj ?_
 show Code.rounds _ _ _ 1 _ _
 show Code.wp _ _ (Exit.then (Code.rounds _ _ _ 0) _) _ _
 refine wp_seq_k fun K26 hK26=>sgB kj <| cond_false kj <| wp_exit <| hK8 _ _ <| wp_seq_k fun K28 hK28=>sgB kj <| wp_block <| wp_loop_rounds 4 ?_
 show Code.wp _ _ (Exit.then (Code.rounds _ _ _ 3) _) _ _
 refine wp_seq_k fun K30 hK30=>sgB kj <| cond_true kj <| wp_skip <| hK30 _ _ <| wp_seq_k fun K32 hK32=>wp_block ?_
 have hxr4:=Qa8 hr4b 4
 refine Qai <| sg 4 kj <| Qab (.pointer (some ⟨gr,4,none⟩)) 38 rfl kj (Qaw 127 _ _ .i64 (4) gr 16 cr 3 rfl kj kj kj kj (by decide)) <| Qab (.int .i64 (nth (r4) 4)) 39 rfl kj (Qah 3 _ gr 4 3 _ (.int .i64 (nth (r4) 4)) _ r7_7_25 rfl kj (Qbc (Nat.lt_of_lt_of_eq (by decide) hr4.symm)) kj) <| Qab (.int .i64 (nth r4 4/4)) 40 rfl kj (Qaf (u:=.int .i64 (IntKind.i64.wrap (Int.tdiv ((nth (r4) 4)) (4)))) kj (congrArg (Value.int .i64) (by rw [show Int.tdiv (nth r4 4) 4=nth r4 4/4 from Int.tdiv_eq_ediv_of_nonneg (by omega)]; exact IntWalk.i64_in _ (by omega)))) ?_
 refine Qab (.int .i64 (nth r4 4/4*4)) 41 rfl kj (Qaf (u:=.int .i64 (IntKind.i64.wrap ((nth r4 4/4)*4))) kj (congrArg (Value.int .i64) (IntWalk.i64_in _ (by omega)))) <| Qab (.pointer (some ⟨gr,4,none⟩)) 42 rfl kj (Qaw 127 _ _ .i64 (4) gr 16 cr 3 rfl kj kj kj kj (by decide)) <| Qal gr _ (ints .i64 ((r4).set 4 (nth r4 4/4*4))++rr_) 3 r7_7_25 rfl kj (Qb6 3 _ _ gr 4 3 _ _ _ r7_7_25 rfl kj kj kj (Nat.lt_of_lt_of_eq (by decide) hr4.symm)) fun W8 p8 r7_8=>?_
 obtain ⟨r5,er5⟩:∃ z,z=(r4).set 4 (nth r4 4/4*4):=⟨_,rfl⟩
 have hr5:r5.length=16:=by rw [er5,List.length_set,hr4]
 have hbr5:=Qa8 hr4b 4
 have hr5b:Qaj r5:=er5▸Qbm hr4b _ (by omega) (by omega)
 have r7_8_33:W8.heap[gr]? = some (.cells (ints .i64 (r5)++rr_) 3):=Qbw r7_8 (by rw [er5])
 refine Qao <| hK32 _ _ <| sgA kj ?_
 show Code.rounds _ _ _ 3 _ _
 show Code.wp _ _ (Exit.then (Code.rounds _ _ _ 2) _) _ _
 refine wp_seq_k fun K34 hK34=>sgB kj <| cond_true kj <| wp_skip <| hK34 _ _ <| wp_seq_k fun K36 hK36=>wp_block ?_
 have hxr5:=Qa8 hr5b 8
 refine Qai <| sg 4 kj <| Qab (.pointer (some ⟨gr,8,none⟩)) 38 rfl kj (Qaw 127 _ _ .i64 (8) gr 16 cr 3 rfl kj kj kj kj (by decide)) <| Qab (.int .i64 (nth (r5) 8)) 39 rfl kj (Qah 3 _ gr 8 3 _ (.int .i64 (nth (r5) 8)) _ r7_8_33 rfl kj (Qbc (Nat.lt_of_lt_of_eq (by decide) hr5.symm)) kj) <| Qab (.int .i64 (nth r5 8/4)) 40 rfl kj (Qaf (u:=.int .i64 (IntKind.i64.wrap (Int.tdiv ((nth (r5) 8)) (4)))) kj (congrArg (Value.int .i64) (by rw [show Int.tdiv (nth r5 8) 4=nth r5 8/4 from Int.tdiv_eq_ediv_of_nonneg (by omega)]; exact IntWalk.i64_in _ (by omega)))) ?_
 refine Qab (.int .i64 (nth r5 8/4*4)) 41 rfl kj (Qaf (u:=.int .i64 (IntKind.i64.wrap ((nth r5 8/4)*4))) kj (congrArg (Value.int .i64) (IntWalk.i64_in _ (by omega)))) <| Qab (.pointer (some ⟨gr,8,none⟩)) 42 rfl kj (Qaw 127 _ _ .i64 (8) gr 16 cr 3 rfl kj kj kj kj (by decide)) <| Qal gr _ (ints .i64 ((r5).set 8 (nth r5 8/4*4))++rr_) 3 r7_8_33 rfl kj (Qb6 3 _ _ gr 8 3 _ _ _ r7_8_33 rfl kj kj kj (Nat.lt_of_lt_of_eq (by decide) hr5.symm)) fun W9 p9 r7_9=>?_
 obtain ⟨r6,er6⟩:∃ z,z=(r5).set 8 (nth r5 8/4*4):=⟨_,rfl⟩
 have hr6:r6.length=16:=by rw [er6,List.length_set,hr5]
 have hbr6:=Qa8 hr5b 8
 have hr6b:Qaj r6:=er6▸Qbm hr5b _ (by omega) (by omega)
 have r7_9_37:W9.heap[gr]? = some (.cells (ints .i64 (r6)++rr_) 3):=Qbw r7_9 (by rw [er6])
 refine Qao <| hK36 _ _ <| sgA kj ?_
 show Code.rounds _ _ _ 2 _ _
 show Code.wp _ _ (Exit.then (Code.rounds _ _ _ 1) _) _ _
 refine wp_seq_k fun K38 hK38=>sgB kj <| cond_true kj <| wp_skip <| hK38 _ _ <| wp_seq_k fun K40 hK40=>wp_block ?_
 have hxr6:=Qa8 hr6b 12
 refine Qai <| sg 4 kj <| Qab (.pointer (some ⟨gr,12,none⟩)) 38 rfl kj (Qaw 127 _ _ .i64 (12) gr 16 cr 3 rfl kj kj kj kj (by decide)) <| Qab (.int .i64 (nth (r6) 12)) 39 rfl kj (Qah 3 _ gr 12 3 _ (.int .i64 (nth (r6) 12)) _ r7_9_37 rfl kj (Qbc (Nat.lt_of_lt_of_eq (by decide) hr6.symm)) kj) <| Qab (.int .i64 (nth r6 12/4)) 40 rfl kj (Qaf (u:=.int .i64 (IntKind.i64.wrap (Int.tdiv ((nth (r6) 12)) (4)))) kj (congrArg (Value.int .i64) (by rw [show Int.tdiv (nth r6 12) 4=nth r6 12/4 from Int.tdiv_eq_ediv_of_nonneg (by omega)]; exact IntWalk.i64_in _ (by omega)))) ?_
 refine Qab (.int .i64 (nth r6 12/4*4)) 41 rfl kj (Qaf (u:=.int .i64 (IntKind.i64.wrap ((nth r6 12/4)*4))) kj (congrArg (Value.int .i64) (IntWalk.i64_in _ (by omega)))) <| Qab (.pointer (some ⟨gr,12,none⟩)) 42 rfl kj (Qaw 127 _ _ .i64 (12) gr 16 cr 3 rfl kj kj kj kj (by decide)) <| Qal gr _ (ints .i64 ((r6).set 12 (nth r6 12/4*4))++rr_) 3 r7_9_37 rfl kj (Qb6 3 _ _ gr 12 3 _ _ _ r7_9_37 rfl kj kj kj (Nat.lt_of_lt_of_eq (by decide) hr6.symm)) fun W10 p10 r7_10=>?_
 obtain ⟨r7,er7⟩:∃ z,z=(r6).set 12 (nth r6 12/4*4):=⟨_,rfl⟩
 have hr7:r7.length=16:=by rw [er7,List.length_set,hr6]
 have hbr7:=Qa8 hr6b 12
 have hr7b:Qaj r7:=er7▸Qbm hr6b _ (by omega) (by omega)
 have r7_10_41:W10.heap[gr]? = some (.cells (ints .i64 (r7)++rr_) 3):=Qbw r7_10 (by rw [er7])
 refine Qao <| hK40 _ _ <| sgA kj ?_
 show Code.rounds _ _ _ 1 _ _
 show Code.wp _ _ (Exit.then (Code.rounds _ _ _ 0) _) _ _
 refine wp_seq_k fun K42 hK42=>sgB kj <| cond_false kj <| wp_exit <| hK28 _ _ <| sgB kj <| wp_seq_k fun K45 hK45=>sgB kj <| wp_block ?_
 obtain ⟨rl,erl⟩:∃ z,z=r7:=⟨_,rfl⟩
 have hrl:rl.length=16:=erl▸hr7
 have hrlb:Qaj rl:=erl▸hr7b
 have hrOf:lev rl=rOf key:=by unfold rOf Qey; rw [←er0,erl,er7,er6,er5,er4,er3,er2,er1]
 have r7_10_47:W10.heap[gr]? = some (.cells (ints .i64 (rl)++rr_) 3):=Qbw r7_10_41 (by rw [erl])
 refine Qa5 (fun (s1:Nat×List Int×Value)=>[(1,.slice a_t text.length c_t),(2,.pointer (some ⟨g2,0,none⟩)),(4,.pointer (some ⟨g3,0,none⟩)),(5,.slice (some ⟨gr,0,none⟩) 16 cr),(8,s1.2.2),(9,.int .i64 ((16*s1.1:Nat):Int))]) (fun (s1:Nat×List Int×Value) W=>(Qaj s1.2.1)∧(lev s1.2.1%PP=QcR (rOf key) text s1.1)∧(lev s1.2.1<1361129467683753853853498429727072845824)∧(s1.2.1.length≤17)∧(16*s1.1<text.length+16)∧(RdK .i64 W.heap.size s1.2.1 s1.2.2 W)∧(Ext W10 W)∧(Ext w W)) (fun (s1:Nat×List Int×Value)=>text.length+16-16*s1.1) (0,[],(.slice none 0 0)) ⟨kj,kj,kj,kj,kj,kj,trivial⟩ ⟨(fun x hx=>by cases hx),(by show (0:Int)%PP=0; rfl),(by show (0:Int)<_; decide),(Nat.zero_le _),(show 16*0<text.length+16 by omega),(OwnN.rd (Qbz .i64 0 0 _)),(Rely.Ext.refl W10),(Puts.ext p10 (Puts.ext p9 (Puts.ext p8 (Puts.ext p7 (Puts.ext p6 (Puts.ext p5 (Puts.ext p4 (Ext.tr x2 e3) (qT x2.size lr)) (qT x2.size lr)) (qT x2.size lr)) (qT x2.size lr)) (qT x2.size lr)) (qT x2.size lr)) (qT x2.size lr))⟩ fun s1 X1 V1 hI1=>?_
 obtain ⟨n,xs,v⟩:=s1
 obtain ⟨hsb,hsm,hslt,hsl,hn,hrs,kk1,xx1⟩:=hI1
 replace hsb:Qaj xs:=hsb
 replace hsm:lev xs%PP=QcR (rOf key) text n:=hsm
 replace hslt:lev xs<1361129467683753853853498429727072845824:=hslt
 replace hsl:xs.length≤17:=hsl
 replace hn:16*n<text.length+16:=hn
 replace hrs:RdK .i64 V1.heap.size xs v V1:=hrs
 replace kk1:Ext W10 V1:=kk1
 replace xx1:Ext w V1:=xx1
 have e11:=kk1
 obtain ⟨ax,cx,rfl,-⟩:=id hrs
 refine wp_seq_k fun K48 hK48=>sgB kj <| Qay (t:=decide (((16*n:Nat):Int)<((text.length:Nat):Int))) kj (fun c50=>?_) (fun c50=>?_)
 ·skip
  have hlt46:16*n<text.length:=by have:=of_decide_eq_true c50; omega
  refine wp_skip <| hK48 _ _ <| wp_seq_k fun K51 hK51=>wp_block <| sgC fun K52 hK52=>sg 1 kj <| Qab (.int .i64 (((16*n)+16:Nat):Int)) 50 rfl kj (Qaf (u:=.int .i64 (IntKind.i64.wrap (((16*n:Nat):Int)+16))) kj (congrArg (Value.int .i64) (i64n _ _ (by omega) (by omega)))) <| sg 1 kj <| sgN hK52 <| wp_seq_k fun K53 hK53=>?_
  refine sgB kj <| Qay (t:=decide ((((16*n)+16:Nat):Int)>((text.length:Nat):Int))) kj (fun c55=>?_) (fun c55=>?_)
  ·skip
   have hpe:text.length<16*n+16:=by have:=of_decide_eq_true c55; omega
   have hpart:=Qju text n text.length (.inr ⟨rfl,hpe⟩)
   refine sgA kj <| hK53 _ _ <| sgC fun K56 hK56=>sg 3 kj <| Qab (.slice (Qde a_t c_t (16*n)) (text.length-16*n) (c_t-16*n)) 60 rfl kj (Qf9 (len:=text.length) 33 _ _ _ (16*n) (text.length) 5 rfl kj kj kj .i64 .i64 kj kj (by omega) (by omega)) <| Qat (fun v W'=>(OwnN .i64 3 V1.heap.size ((text.drop (16*n)).take (text.length-(16*n)))) v W'∧Ext V1 W') 78 #[.slice (Qde a_t c_t (16*n)) (text.length-16*n) (c_t-16*n)] 61 rfl kj kj ((QdV ((text.drop (16*n)).take (text.length-(16*n))) _ _ _ (Qcg (Qda (RdK.ext ht xx1) (16*n) (by omega)) (text.length-(16*n)) (by rw [List.length_drop]; omega)) (by rw [List.length_take]; omega) (Qa9 (QaQ htb _) _)).mono (by rintro e w' ⟨v,rfl,e1,hv⟩; exact ⟨v,rfl,hv,e1⟩)) fun vv58 W12 hh58=>?_
   obtain ⟨hv58,e12⟩:=hh58
   have x12:=Ext.tr xx1 e12
   obtain ⟨an57,cn57,hvn57,-⟩:=id (OwnN.rd hv58)
   subst hvn57
   refine Qa7 (ints .i64 ([1])) 3 1 62 rfl kj kj fun g59 W13 l59 e13 r59_13=>?_
   have x13:=Ext.tr x12 e13
   have b59:=qT x12.size l59
   have y11_12:=(Rely.Ext.trans (Rely.Ext.refl V1) e12)
   have y11_13:=(Rely.Ext.trans y11_12 e13)
   refine QaH (k:=.i64) (T:=3) (xs:=(text.drop (16*n)).take (text.length-(16*n))) (ys:=[1]) (V:=V1) 8 (.tmp 61) (.tmp 62) 127 rfl kj kj (by decide) 63 rfl kj kj kj (hv58.ext e13) (QaI (xs:=[1]) (n:=1) rfl r59_13 (Qau r59_13) (show 1≤maxLen from by decide)) (by rw [List.length_take]; show _+1≤_; omega) y11_13 fun y1_ W14 f61 y14 l14=>?_
   have x14:=Ext.low x13 l14 xx1.size
   obtain ⟨pc,epc⟩:∃ z:List Int,z=(text.drop (16*n)).take (text.length-(16*n))++[1]:=⟨_,rfl⟩
   have hpcb:Qaj pc:=epc▸bytes_app (Qa9 (QaQ htb _) _) (QbE (by decide) (by decide))
   have hpcl:pc.length≤17:=by rw [epc,List.length_append,List.length_take]; show _+1≤17; omega
   have hap63:OwnN .i64 3 V1.heap.size pc y1_ W14:=epc▸f61
   obtain ⟨ap63,cp63,hvp63,-⟩:=id (OwnN.rd hap63)
   subst hvp63
   refine sg 1 kj <| sgN hK56 <| Qai <| sg 2 kj <| Qat (fun v W'=>(DigR W14.heap.size (lev (xs)+lev (pc)) (max (xs).length (pc).length+1)) v W'∧Ext W14 W') 82 #[.slice ax xs.length cx,.slice ap63 pc.length cp63] 66 rfl kj kj ((QeI (xs) (pc) _ _ _ _ _ (RdK.low ((hrs.ext e12).ext e13) hrs l14) (OwnN.rd hap63) (by first | omega | (rw [List.length_take]; omega)) (by first | omega | (rw [List.length_take]; omega)) hsb hpcb).mono (by rintro e w' ⟨v,rfl,e1,hv⟩; exact ⟨v,rfl,hv,e1⟩)) fun vv68 W15 hh68=>?_
   obtain ⟨hv68,e15⟩:=hh68
   have x15:=Ext.tr x14 e15
   obtain ⟨zs64,hzb64,hzv64,hzl64,hzo64⟩:=hv68
   obtain ⟨az64,cz64,rfl,-⟩:=id (OwnN.rd hzo64)
   refine Qat (fun v W'=>(fun v W=>∃ m,m≤zs64.length∧v=.slice az64 m cz64∧lev (zs64.take m)=lev zs64∧(m=0∨nth zs64 (m-1)≠0)) v W'∧Ext W15 W') 80 #[.slice az64 zs64.length cz64] 67 rfl kj kj ((QfA zs64 _ _ _ _ (OwnN.rd hzo64) (by omega)).mono (by rintro e w' ⟨v,rfl,e1,hv⟩; exact ⟨v,rfl,hv,e1⟩)) fun vv70 W16 hh70=>?_
   obtain ⟨hv70,e16⟩:=hh70
   have x16:=Ext.tr x15 e16
   obtain ⟨m69,hm69,rfl,hv69,ht69⟩:=hv70
   have htl69:(zs64.take m69).length=m69:=by rw [List.length_take]; omega
   refine sg 1 kj ?_
   have r7_11:=(Qaa r7_10_47 e11)
   have r7_12:=(Qaa r7_11 e12)
   have r7_13:=(Qaa r7_12 e13)
   have r7_14:=(Qbf l14 r7_13 (Qau r7_11))
   have r7_15:=(Qaa r7_14 e15)
   have r7_16:=(Qaa r7_15 e16)
   refine Qat (fun v W'=>(DigR W16.heap.size (lev (zs64.take m69)*lev rl) ((zs64.take m69).length+rl.length+1)) v W'∧Ext W16 W') 81 #[.slice az64 m69 cz64,.slice (some ⟨gr,0,none⟩) 16 cr] 69 rfl kj kj ((QfZ (zs64.take m69) rl _ _ _ _ _ (Qcg (OwnN.rd (hzo64.ext e16)) m69 hm69) (Qgd hrl r7_16 hcr) (by first | omega | (rw [List.length_take]; omega)) (by omega) (Qa9 hzb64 m69) hrlb).mono (by rintro e w' ⟨v,rfl,e1,hv⟩; exact ⟨v,rfl,hv,e1⟩)) fun vv73 W17 hh73=>?_
   obtain ⟨hv73,e17⟩:=hh73
   have x17:=Ext.tr x16 e17
   obtain ⟨zs71,hzb71,hzv71,hzl71,hzo71⟩:=hv73
   obtain ⟨az71,cz71,rfl,-⟩:=id (OwnN.rd hzo71)
   refine Qat (fun v W'=>(fun v W=>∃ m,m≤zs71.length∧v=.slice az71 m cz71∧lev (zs71.take m)=lev zs71∧(m=0∨nth zs71 (m-1)≠0)) v W'∧Ext W17 W') 80 #[.slice az71 zs71.length cz71] 70 rfl kj kj ((QfA zs71 _ _ _ _ (OwnN.rd hzo71) (by omega)).mono (by rintro e w' ⟨v,rfl,e1,hv⟩; exact ⟨v,rfl,hv,e1⟩)) fun vv75 W18 hh75=>?_
   obtain ⟨hv75,e18⟩:=hh75
   have x18:=Ext.tr x17 e18
   obtain ⟨m74,hm74,rfl,hv74,ht74⟩:=hv75
   have htl74:(zs71.take m74).length=m74:=by rw [List.length_take]; omega
   refine Qat (fun v W'=>(fun v W=>∃ zs:List Int,Qaj zs∧lev zs%PP=lev (zs71.take m74)%PP∧lev zs<1361129467683753853853498429727072845824∧zs.length≤17∧RdK .i64 W.heap.size zs v W) v W'∧Ext W18 W') 79 #[.slice az71 m74 cz71] 71 rfl kj kj ((Qjm (zs71.take m74) _ _ _ (Qcg (OwnN.rd (hzo71.ext e18)) m74 hm74) (by rw [List.length_take]; omega) (Qa9 hzb71 m74) (QcW hm74 ht74)).mono (by rintro e w' ⟨v,rfl,e1,hv⟩; exact ⟨v,rfl,hv,e1⟩)) fun vv78 W19 hh78=>?_
   obtain ⟨hv78,e19⟩:=hh78
   have x19:=Ext.tr x18 e19
   obtain ⟨xs2,hsb2,hsm2,hslt2,hsl2,hrs2⟩:=hv78
   refine sg 1 kj <| Qao <| hK51 _ _ <| Qai <| sg 1 kj <| Qab (.int .i64 (((16*n)+16:Nat):Int)) 48 rfl kj (Qaf (u:=.int .i64 (IntKind.i64.wrap (((16*n:Nat):Int)+16))) kj (congrArg (Value.int .i64) (i64n _ _ (by omega) (by omega)))) <| sg 1 kj <| Qao ?_
   have hstep:lev xs2%PP=QcR (rOf key) text (n+1):=by
    unfold QcR
    refine QdQ hsm ?_
    rw [hsm2]
    congr 1
    rw [hv74,hzv71,hv69,hzv64,hrOf,epc,hpart]
   have y10_12:=(Rely.Ext.trans e11 e12)
   have y10_13:=(Rely.Ext.trans y10_12 e13)
   have y10_14:=(Ext.low y10_13 l14 e11.size)
   have y10_15:=(Rely.Ext.trans y10_14 e15)
   have y10_16:=(Rely.Ext.trans y10_15 e16)
   have y10_17:=(Rely.Ext.trans y10_16 e17)
   have y10_18:=(Rely.Ext.trans y10_17 e18)
   have y10_19:=(Rely.Ext.trans y10_18 e19)
   repeat (first | with_reducible refine goX1 ?_ | with_reducible refine goX2 ?_ | with_reducible refine goX3 ?_)
   exact Qax ((n+1),xs2,vv78) ⟨kj,kj,kj,kj,kj,kj,trivial⟩ ⟨hsb2,hstep,hslt2,hsl2,(show 16*(n+1)<text.length+16 by omega),(RdK.here (RdK.ext hrs2 (Rely.Ext.refl W19))),y10_19,x19⟩ (by show text.length+16-16*(n+1)<text.length+16-16*n; omega)
  ·skip
   have hpe:16*n+16≤text.length:=by have:=of_decide_eq_false c55; omega
   have hpart:=Qju text n (16*n+16) (.inl rfl)
   refine wp_skip <| hK53 _ _ <| sgC fun K79 hK79=>sg 3 kj <| Qab (.slice (Qde a_t c_t (16*n)) ((16*n)+16-16*n) (c_t-16*n)) 60 rfl kj (Qf9 (len:=text.length) 33 _ _ _ (16*n) ((16*n)+16) 5 rfl kj kj kj .i64 .i64 kj kj (by omega) (by omega)) <| Qat (fun v W'=>(OwnN .i64 3 V1.heap.size ((text.drop (16*n)).take (((16*n)+16)-(16*n)))) v W'∧Ext V1 W') 78 #[.slice (Qde a_t c_t (16*n)) ((16*n)+16-16*n) (c_t-16*n)] 61 rfl kj kj ((QdV ((text.drop (16*n)).take (((16*n)+16)-(16*n))) _ _ _ (Qcg (Qda (RdK.ext ht xx1) (16*n) (by omega)) (((16*n)+16)-(16*n)) (by rw [List.length_drop]; omega)) (by rw [List.length_take]; omega) (Qa9 (QaQ htb _) _)).mono (by rintro e w' ⟨v,rfl,e1,hv⟩; exact ⟨v,rfl,hv,e1⟩)) fun vv81 W12 hh81=>?_
   obtain ⟨hv81,e12⟩:=hh81
   have x12:=Ext.tr xx1 e12
   obtain ⟨an80,cn80,hvn80,-⟩:=id (OwnN.rd hv81)
   subst hvn80
   refine Qa7 (ints .i64 ([1])) 3 1 62 rfl kj kj fun g82 W13 l82 e13 r82_13=>?_
   have x13:=Ext.tr x12 e13
   have b82:=qT x12.size l82
   have y11_12:=(Rely.Ext.trans (Rely.Ext.refl V1) e12)
   have y11_13:=(Rely.Ext.trans y11_12 e13)
   refine QaH (k:=.i64) (T:=3) (xs:=(text.drop (16*n)).take (((16*n)+16)-(16*n))) (ys:=[1]) (V:=V1) 8 (.tmp 61) (.tmp 62) 127 rfl kj kj (by decide) 63 rfl kj kj kj (hv81.ext e13) (QaI (xs:=[1]) (n:=1) rfl r82_13 (Qau r82_13) (show 1≤maxLen from by decide)) (by rw [List.length_take]; show _+1≤_; omega) y11_13 fun y2_ W14 f84 y14 l14=>?_
   have x14:=Ext.low x13 l14 xx1.size
   obtain ⟨pc,epc⟩:∃ z:List Int,z=(text.drop (16*n)).take (((16*n)+16)-(16*n))++[1]:=⟨_,rfl⟩
   have hpcb:Qaj pc:=epc▸bytes_app (Qa9 (QaQ htb _) _) (QbE (by decide) (by decide))
   have hpcl:pc.length≤17:=by rw [epc,List.length_append,List.length_take]; show _+1≤17; omega
   have hap86:OwnN .i64 3 V1.heap.size pc y2_ W14:=epc▸f84
   obtain ⟨ap86,cp86,hvp86,-⟩:=id (OwnN.rd hap86)
   subst hvp86
   refine sg 1 kj <| sgN hK79 <| Qai <| sg 2 kj <| Qat (fun v W'=>(DigR W14.heap.size (lev (xs)+lev (pc)) (max (xs).length (pc).length+1)) v W'∧Ext W14 W') 82 #[.slice ax xs.length cx,.slice ap86 pc.length cp86] 66 rfl kj kj ((QeI (xs) (pc) _ _ _ _ _ (RdK.low ((hrs.ext e12).ext e13) hrs l14) (OwnN.rd hap86) (by first | omega | (rw [List.length_take]; omega)) (by first | omega | (rw [List.length_take]; omega)) hsb hpcb).mono (by rintro e w' ⟨v,rfl,e1,hv⟩; exact ⟨v,rfl,hv,e1⟩)) fun vv91 W15 hh91=>?_
   obtain ⟨hv91,e15⟩:=hh91
   have x15:=Ext.tr x14 e15
   obtain ⟨zs87,hzb87,hzv87,hzl87,hzo87⟩:=hv91
   obtain ⟨az87,cz87,rfl,-⟩:=id (OwnN.rd hzo87)
   refine Qat (fun v W'=>(fun v W=>∃ m,m≤zs87.length∧v=.slice az87 m cz87∧lev (zs87.take m)=lev zs87∧(m=0∨nth zs87 (m-1)≠0)) v W'∧Ext W15 W') 80 #[.slice az87 zs87.length cz87] 67 rfl kj kj ((QfA zs87 _ _ _ _ (OwnN.rd hzo87) (by omega)).mono (by rintro e w' ⟨v,rfl,e1,hv⟩; exact ⟨v,rfl,hv,e1⟩)) fun vv93 W16 hh93=>?_
   obtain ⟨hv93,e16⟩:=hh93
   have x16:=Ext.tr x15 e16
   obtain ⟨m92,hm92,rfl,hv92,ht92⟩:=hv93
   have htl92:(zs87.take m92).length=m92:=by rw [List.length_take]; omega
   refine sg 1 kj ?_
   have r7_11:=(Qaa r7_10_47 e11)
   have r7_12:=(Qaa r7_11 e12)
   have r7_13:=(Qaa r7_12 e13)
   have r7_14:=(Qbf l14 r7_13 (Qau r7_11))
   have r7_15:=(Qaa r7_14 e15)
   have r7_16:=(Qaa r7_15 e16)
   refine Qat (fun v W'=>(DigR W16.heap.size (lev (zs87.take m92)*lev rl) ((zs87.take m92).length+rl.length+1)) v W'∧Ext W16 W') 81 #[.slice az87 m92 cz87,.slice (some ⟨gr,0,none⟩) 16 cr] 69 rfl kj kj ((QfZ (zs87.take m92) rl _ _ _ _ _ (Qcg (OwnN.rd (hzo87.ext e16)) m92 hm92) (Qgd hrl r7_16 hcr) (by first | omega | (rw [List.length_take]; omega)) (by omega) (Qa9 hzb87 m92) hrlb).mono (by rintro e w' ⟨v,rfl,e1,hv⟩; exact ⟨v,rfl,hv,e1⟩)) fun vv96 W17 hh96=>?_
   obtain ⟨hv96,e17⟩:=hh96
   have x17:=Ext.tr x16 e17
   obtain ⟨zs94,hzb94,hzv94,hzl94,hzo94⟩:=hv96
   obtain ⟨az94,cz94,rfl,-⟩:=id (OwnN.rd hzo94)
   refine Qat (fun v W'=>(fun v W=>∃ m,m≤zs94.length∧v=.slice az94 m cz94∧lev (zs94.take m)=lev zs94∧(m=0∨nth zs94 (m-1)≠0)) v W'∧Ext W17 W') 80 #[.slice az94 zs94.length cz94] 70 rfl kj kj ((QfA zs94 _ _ _ _ (OwnN.rd hzo94) (by omega)).mono (by rintro e w' ⟨v,rfl,e1,hv⟩; exact ⟨v,rfl,hv,e1⟩)) fun vv98 W18 hh98=>?_
   obtain ⟨hv98,e18⟩:=hh98
   have x18:=Ext.tr x17 e18
   obtain ⟨m97,hm97,rfl,hv97,ht97⟩:=hv98
   have htl97:(zs94.take m97).length=m97:=by rw [List.length_take]; omega
   refine Qat (fun v W'=>(fun v W=>∃ zs:List Int,Qaj zs∧lev zs%PP=lev (zs94.take m97)%PP∧lev zs<1361129467683753853853498429727072845824∧zs.length≤17∧RdK .i64 W.heap.size zs v W) v W'∧Ext W18 W') 79 #[.slice az94 m97 cz94] 71 rfl kj kj ((Qjm (zs94.take m97) _ _ _ (Qcg (OwnN.rd (hzo94.ext e18)) m97 hm97) (by rw [List.length_take]; omega) (Qa9 hzb94 m97) (QcW hm97 ht97)).mono (by rintro e w' ⟨v,rfl,e1,hv⟩; exact ⟨v,rfl,hv,e1⟩)) fun vv101 W19 hh101=>?_
   obtain ⟨hv101,e19⟩:=hh101
   have x19:=Ext.tr x18 e19
   obtain ⟨xs2,hsb2,hsm2,hslt2,hsl2,hrs2⟩:=hv101
   refine sg 1 kj <| Qao <| hK51 _ _ <| Qai <| sg 1 kj <| Qab (.int .i64 (((16*n)+16:Nat):Int)) 48 rfl kj (Qaf (u:=.int .i64 (IntKind.i64.wrap (((16*n:Nat):Int)+16))) kj (congrArg (Value.int .i64) (i64n _ _ (by omega) (by omega)))) <| sg 1 kj <| Qao ?_
   have hstep:lev xs2%PP=QcR (rOf key) text (n+1):=by
    unfold QcR
    refine QdQ hsm ?_
    rw [hsm2]
    congr 1
    rw [hv97,hzv94,hv92,hzv87,hrOf,epc,hpart]
   have y10_12:=(Rely.Ext.trans e11 e12)
   have y10_13:=(Rely.Ext.trans y10_12 e13)
   have y10_14:=(Ext.low y10_13 l14 e11.size)
   have y10_15:=(Rely.Ext.trans y10_14 e15)
   have y10_16:=(Rely.Ext.trans y10_15 e16)
   have y10_17:=(Rely.Ext.trans y10_16 e17)
   have y10_18:=(Rely.Ext.trans y10_17 e18)
   have y10_19:=(Rely.Ext.trans y10_18 e19)
   repeat (first | with_reducible refine goX1 ?_ | with_reducible refine goX2 ?_ | with_reducible refine goX3 ?_)
   exact Qax ((n+1),xs2,vv101) ⟨kj,kj,kj,kj,kj,kj,trivial⟩ ⟨hsb2,hstep,hslt2,hsl2,(show 16*(n+1)<text.length+16 by omega),(RdK.here (RdK.ext hrs2 (Rely.Ext.refl W19))),y10_19,x19⟩ (by show text.length+16-16*(n+1)<text.length+16-16*n; omega)
 ·skip
  have heq46:text.length≤16*n:=by have:=of_decide_eq_false c50; omega
  have hnn:n=(text.length+15)/16:=by omega
  refine wp_exit <| hK45 _ _ <| wp_seq_k fun K102 hK102=>sgC fun K103 hK103=>sg 1 kj <| Qa7 (ints .i64 ([5])) 3 1 73 rfl kj kj fun g104 W12 l104 e12 r104_12=>?_
  have x12:=Ext.tr xx1 e12
  have b104:=qT xx1.size l104
  have h5l:([5]:List Int).length=1:=rfl
  have f106_12:=(hrs.ext e12)
  refine Qat (fun v W'=>(DigR W12.heap.size (lev (xs)+lev ([5])) (max (xs).length ([5]).length+1)) v W'∧Ext W12 W') 82 #[.slice ax xs.length cx,.slice (some ⟨g104,0,none⟩) 1 1] 74 rfl kj kj ((QeI (xs) ([5]) _ _ _ _ _ f106_12 (QaI (xs:=[5]) (n:=1) rfl r104_12 (Qau r104_12) (show 1≤maxLen from by decide)) (by first | omega | (rw [List.length_take]; omega)) (by decide) hsb (QbE (by decide) (by decide))).mono (by rintro e w' ⟨v,rfl,e1,hv⟩; exact ⟨v,rfl,hv,e1⟩)) fun vv107 W13 hh107=>?_
  obtain ⟨hv107,e13⟩:=hh107
  have x13:=Ext.tr x12 e13
  obtain ⟨zs105,hzb105,hzv105,hzl105,hzo105⟩:=hv107
  obtain ⟨az105,cz105,rfl,-⟩:=id (OwnN.rd hzo105)
  refine sg 1 kj <| sgN hK103 <| wp_seq_k fun K108 hK108=>?_
  rcases (show (17≤zs105.length∧4≤nth zs105 16)∨(17≤zs105.length∧nth zs105 16<4)∨zs105.length<17 by omega) with hq | hq | hq
  ·skip
   obtain ⟨gm,cm,rm_,evm,lm,rowm,hcm⟩:=Qep hzo105 (rfl:zs105.length=zs105.length) (by omega)
   rw [evm]
   have hys:=QmM hslt hzb105 hzv105 hq.1 hq.2
   have hzb16:=Qa8 hzb105 16
   have hysb:Qaj (zs105.set 16 (nth zs105 16%4)):=Qbm hzb105 _ (by omega) (by omega)
   have hysl:(zs105.set 16 (nth zs105 16%4)).length≤1000:=by rw [List.length_set]; omega
   refine Qai <| sg 2 kj <| Qab (.bool true) 77 rfl kj (Qaf (u:=.bool (decide (((zs105.length:Nat):Int)≥17))) kj (congrArg Value.bool (decide_eq_true (by omega)))) <| sg 2 kj <| Qab (.pointer (some ⟨gm,16,none⟩)) 80 rfl kj (Qaw 127 _ _ .i64 (16) gm zs105.length cm 3 rfl kj kj kj kj (by omega)) <| Qab (.int .i64 (nth (zs105) 16)) 81 rfl kj (Qah 3 _ gm 16 3 _ (.int .i64 (nth (zs105) 16)) _ rowm rfl kj (Qbc (Nat.lt_of_lt_of_eq (by omega) (rfl).symm)) kj) <| Qab (.bool true) 82 rfl kj (Qaf (u:=.bool (decide ((nth (zs105) 16)≥4))) kj (congrArg Value.bool (decide_eq_true (by omega)))) <| sg 1 kj <| sgN hK108 <| cond_true kj ?_
   refine sgC fun K110 hK110=>sg 2 kj <| Qab (.pointer (some ⟨gm,16,none⟩)) 86 rfl kj (Qaw 127 _ _ .i64 (16) gm zs105.length cm 3 rfl kj kj kj kj (by omega)) <| Qab (.int .i64 (nth (zs105) 16)) 87 rfl kj (Qah 3 _ gm 16 3 _ (.int .i64 (nth (zs105) 16)) _ rowm rfl kj (Qbc (Nat.lt_of_lt_of_eq (by omega) (rfl).symm)) kj) <| Qab (.int .i64 (nth zs105 16%4)) 88 rfl kj (Qaf (u:=.int .i64 (Int.tmod ((nth (zs105) 16)) (4))) kj (congrArg (Value.int .i64) (show Int.tmod (nth zs105 16) 4=nth zs105 16%4 from Int.tmod_eq_emod_of_nonneg (by omega)))) <| Qab (.pointer (some ⟨gm,16,none⟩)) 89 rfl kj (Qaw 127 _ _ .i64 (16) gm zs105.length cm 3 rfl kj kj kj kj (by omega)) <| Qal gm _ (ints .i64 ((zs105).set 16 (nth zs105 16%4))++rm_) 3 rowm rfl kj (Qb6 3 _ _ gm 16 3 _ _ _ rowm rfl kj kj kj (Nat.lt_of_lt_of_eq (by omega) (rfl).symm)) fun W14 p14 r109_14=>?_
   have x14:=Puts.ext p14 x13 (qT x12.size lm)
   refine sgN hK110 <| sgA kj <| hK102 _ _ <| sgC fun K111 hK111=>sg 1 kj <| Qab (.slice (some ⟨g2,0+16,none⟩) (32-16) (32-16)) 92 rfl kj (QbC 23 _ _ _ 16 32 32 g2 0 5 rfl kj kj kj ⟨.i64,by kernel_rfl⟩ rfl (by omega) (by omega) (by omega)) ?_
   have r2_3:=(Qaa r2_2 e3)
   have r2_4:=(Puts.row p4 r2_3 (Qae r2_2 lr))
   have r2_5:=(Puts.row p5 r2_4 (Qae r2_2 lr))
   have r2_6:=(Puts.row p6 r2_5 (Qae r2_2 lr))
   have r2_7:=(Puts.row p7 r2_6 (Qae r2_2 lr))
   have r2_8:=(Puts.row p8 r2_7 (Qae r2_2 lr))
   have r2_9:=(Puts.row p9 r2_8 (Qae r2_2 lr))
   have r2_10:=(Puts.row p10 r2_9 (Qae r2_2 lr))
   have r2_11:=(Qaa r2_10 e11)
   have r2_12:=(Qaa r2_11 e12)
   have r2_13:=(Qaa r2_12 e13)
   refine Qat (fun v W'=>(OwnN .i64 3 W14.heap.size ((key.drop 16).take (32-16))) v W'∧Ext W14 W') 78 #[.slice (some ⟨g2,0+16,none⟩) (32-16) (32-16)] 93 rfl kj kj ((QdV ((key.drop 16).take (32-16)) _ _ _ (Qe7 (l:=16) (h:=32) hkl (Puts.row p14 r2_13 (Qae r2_12 lm)) (by decide) (by decide) (by decide)) (by rw [List.length_take]; omega) (Qa9 (QaQ hkb 16) _)).mono (by rintro e w' ⟨v,rfl,e1,hv⟩; exact ⟨v,rfl,hv,e1⟩)) fun vv113 W15 hh113=>?_
   obtain ⟨hv113,e15⟩:=hh113
   have x15:=Ext.tr x14 e15
   obtain ⟨an112,cn112,hvn112,-⟩:=id (OwnN.rd hv113)
   subst hvn112
   refine Qat (fun v W'=>(DigR W15.heap.size (lev ((zs105).set 16 (nth zs105 16%4))+lev ((key.drop 16).take (32-16))) (max ((zs105).set 16 (nth zs105 16%4)).length ((key.drop 16).take (32-16)).length+1)) v W'∧Ext W15 W') 82 #[.slice (some ⟨gm,0,none⟩) zs105.length cm,.slice an112 (((key.drop 16).take (32-16)).length) cn112] 94 rfl kj kj ((QeI ((zs105).set 16 (nth zs105 16%4)) ((key.drop 16).take (32-16)) _ _ _ _ _ (Qgd ((List.length_set ..).trans (rfl)) (Qaa r109_14 e15) hcm) (OwnN.rd hv113) (by omega) (by first | omega | (rw [List.length_take]; omega)) hysb (Qa9 (QaQ hkb 16) _)).mono (by rintro e w' ⟨v,rfl,e1,hv⟩; exact ⟨v,rfl,hv,e1⟩)) fun vv115 W16 hh115=>?_
   obtain ⟨hv115,e16⟩:=hh115
   have x16:=Ext.tr x15 e16
   obtain ⟨zs114,hzb114,hzv114,hzl114,hzo114⟩:=hv115
   obtain ⟨az114,cz114,rfl,-⟩:=id (OwnN.rd hzo114)
   refine sg 1 kj <| sgN hK111 <| sgC fun K116 hK116=>Qaq (ints .u8 (List.replicate 16 0)) 82 14 rfl kj kj fun g117 W17 l117 e17 r117_17=>?_
   have x17:=Ext.tr x16 e17
   refine sgN hK116 <| wp_seq_k fun K118 hK118=>sgB kj <| wp_block ?_
   have hal:lev zs114=QdA (rOf key) text+sOf key:=by rw [hzv114,hys,hsm,hnn]; rfl
   refine Qa5 (fun (s2:Nat)=>[(4,.pointer (some ⟨g3,0,none⟩)),(13,.slice az114 zs114.length cz114),(14,.pointer (some ⟨g117,0,none⟩)),(15,.int .i64 ((s2:Nat):Int))]) (fun (s2:Nat) W=>(s2≤16)∧(W.heap[g117]? = some (.cells (ints .u8 (Qby (by16 (lev zs114)) 16 s2)) 82))∧(Qas [g117] W17 W)∧(Ext w W)) (fun (s2:Nat)=>16-s2) 0 ⟨kj,kj,kj,kj,trivial⟩ ⟨(Nat.zero_le _),(QaF r117_17 (QbG _ 16)),(Qas.refl [g117] W17),x17⟩ fun s2 X2 V2 hI2=>?_
   obtain ⟨i,hs2⟩:∃ z,z=s2:=⟨_,rfl⟩
   subst hs2
   obtain ⟨hi,q117_2,kk2,xx2⟩:=hI2
   replace hi:i≤16:=hi
   replace q117_2:V2.heap[g117]? = some (.cells (ints .u8 (Qby (by16 (lev zs114)) 16 i)) 82):=q117_2
   replace kk2:Qas [g117] W17 V2:=kk2
   replace xx2:Ext w V2:=xx2
   have q18:=kk2
   refine wp_seq_k fun K121 hK121=>wp_seq_k fun K122 hK122=>?_
   rcases (show (i<16∧i<zs114.length)∨(i<16∧zs114.length≤i)∨i=16 by omega) with hq | hq | hq
   ·skip
    have hi16:i<16:=hq.1
    have hil:i<zs114.length:=hq.2
    obtain ⟨gro123,oro123,haro123,-,hlro123,hcro123⟩:=QbF (OwnN.rd (OwnN.keepsL (hzo114.ext e17) q18 (Qfr (QfG hzo114 l117) QgU))) (by omega)
    refine Qai <| sg 1 kj <| Qab (.bool true) 96 rfl kj (Qaf (u:=.bool (decide (((i:Nat):Int)<16))) kj (congrArg Value.bool (decide_eq_true (by omega)))) <| sg 4 kj <| Qab (.bool true) 101 rfl kj (Qaf (u:=.bool (decide (((i:Nat):Int)<((zs114.length:Nat):Int)))) kj (congrArg Value.bool (decide_eq_true (by omega)))) <| sg 1 kj <| sgN hK122 <| cond_true kj <| wp_skip <| hK121 _ _ ?_
    refine wp_seq_k fun K125 hK125=>wp_block <| Qai <| sg 3 kj <| Qab (.pointer (some ⟨gro123,oro123+i,none⟩)) 108 rfl kj (QaN 127 _ _ .i64 i gro123 oro123 zs114.length cz114 3 az114 _ haro123 rfl rfl kj kj kj kj (Nat.lt_of_lt_of_eq (show i<(zs114).length by omega) (rfl:(zs114).length=(zs114).length).symm)) <| Qab (.int .i64 (nth (zs114) (i))) 109 rfl kj (Qaz 3 _ _ (.int .i64 (nth (zs114) (i))) (hcro123 i (Nat.lt_of_lt_of_eq (show i<(zs114).length by omega) (rfl:(zs114).length=(zs114).length).symm)) rfl kj kj) <| Qab (.int .u8 (nth (by16 (lev zs114)) i)) 110 rfl kj (Qaf (u:=.int .u8 (IntKind.u8.wrap (nth (zs114) (i)))) kj (congrArg (Value.int .u8) (Qf0 hzb114 hi16))) <| Qab (.pointer (some ⟨g117,i,none⟩)) 111 rfl kj (QaE _ _ _ .i64 (i) _ 16 5 rfl kj kj kj kj (by omega)) <| Qal g117 _ (ints .u8 ((Qby (by16 (lev zs114)) 16 i).set i (nth (by16 (lev zs114)) i))) 82 q117_2 rfl kj (Qa1 5 _ _ g117 i 82 _ _ q117_2 rfl kj kj kj (Nat.lt_of_lt_of_eq (by omega) (QbK _ 16 _ (QaA _) hi).symm)) fun W19 p19 r117_19=>?_
    have x19:=Puts.ext p19 xx2 (qT x16.size l117)
    refine Qao <| hK125 _ _ <| Qai <| sg 1 kj <| Qab (.int .i64 ((i+1:Nat):Int)) 104 rfl kj (Qaf (u:=.int .i64 (IntKind.i64.wrap (((i:Nat):Int)+1))) kj (congrArg (Value.int .i64) (i64n _ _ (by omega) (by omega)))) <| sg 1 kj <| Qao ?_
    repeat (first | with_reducible refine goX1 ?_ | with_reducible refine goX2 ?_ | with_reducible refine goX3 ?_)
    exact Qax (i+1) ⟨kj,kj,kj,kj,trivial⟩ ⟨(show i+1≤16 by omega),(QaF r117_19 (QbH _ 16 i (QaA _) hi16)),(Qas.puts q18 p19 (.inl (by simp))),x19⟩ (by show 16-(i+1)<16-i; omega)
   ·skip
    have r117_18_126:V2.heap[g117]? = some (.cells (ints .u8 (by16 (lev zs114))) 82):=QaF q117_2 (Qdw hzb114 hi (.inr hq.2))
    refine Qai <| sg 1 kj <| Qab (.bool true) 96 rfl kj (Qaf (u:=.bool (decide (((i:Nat):Int)<16))) kj (congrArg Value.bool (decide_eq_true (by omega)))) <| sg 4 kj <| Qab (.bool false) 101 rfl kj (Qaf (u:=.bool (decide (((i:Nat):Int)<((zs114.length:Nat):Int)))) kj (congrArg Value.bool (decide_eq_false (by omega)))) <| sg 1 kj <| sgN hK122 <| cond_false kj <| wp_exit <| hK118 _ _ ?_
    refine sgC fun K127 hK127=>Qab (.agg (ints .u8 (by16 (lev zs114)))) 112 rfl kj (Qap 82 _ g117 82 _ _ r117_18_126 rfl kj kj (isz (n:=16) kj ((Qac _ _).trans (QaA _)))) ?_
    have r3_3:=(Qaa r3_2 e3)
    have r3_4:=(Puts.row p4 r3_3 (Qae r3_2 lr))
    have r3_5:=(Puts.row p5 r3_4 (Qae r3_2 lr))
    have r3_6:=(Puts.row p6 r3_5 (Qae r3_2 lr))
    have r3_7:=(Puts.row p7 r3_6 (Qae r3_2 lr))
    have r3_8:=(Puts.row p8 r3_7 (Qae r3_2 lr))
    have r3_9:=(Puts.row p9 r3_8 (Qae r3_2 lr))
    have r3_10:=(Puts.row p10 r3_9 (Qae r3_2 lr))
    have r3_11:=(Qaa r3_10 e11)
    have r3_12:=(Qaa r3_11 e12)
    have r3_13:=(Qaa r3_12 e13)
    have r3_14:=(Puts.row p14 r3_13 (Qae r3_12 lm))
    have r3_15:=(Qaa r3_14 e15)
    have r3_16:=(Qaa r3_15 e16)
    have r3_17:=(Qaa r3_16 e17)
    have r3_18:=(Qas.row q18 r3_17 (QaC (Qae r3_16 l117) QaS))
    refine Qal g3 _ (ints .u8 (by16 (lev zs114))) 82 r3_18 rfl kj (Qan 82 _ _ g3 82 _ _ r3_18 rfl kj kj (isz (n:=16) kj ((Qac _ _).trans (QaA _))) (eqsz (n:=16) ((Qac _ _).trans (List.length_replicate (n:=16))) ((Qac _ _).trans (QaA _))) (Qav _ _)) fun W19 p19 r3_19=>?_
    have x19:=Puts.ext p19 xx2 b3
    refine sgN hK127 <| wp_ret ?_
    repeat (first | with_reducible refine goR1 ?_ | with_reducible refine goR2 ?_)
    exact (show bodyPost _ _ _ .ret _ _ from ret1 (.agg (ints .u8 (by16 (lev zs114)))) rfl (QaU g3 82 _ r3_19 kj kj (isz (n:=16) kj ((Qac _ _).trans (QaA _)))) ⟨by unfold tagV; rw [hal],x19⟩)
   ·skip
    have r117_18_128:V2.heap[g117]? = some (.cells (ints .u8 (by16 (lev zs114))) 82):=QaF q117_2 (Qdw hzb114 hi (.inl hq))
    refine Qai <| sg 1 kj <| Qab (.bool false) 96 rfl kj (Qaf (u:=.bool (decide (((i:Nat):Int)<16))) kj (congrArg Value.bool (decide_eq_false (by omega)))) <| sg 6 kj <| sgN hK122 <| cond_false kj <| wp_exit <| hK118 _ _ <| sgC fun K129 hK129=>Qab (.agg (ints .u8 (by16 (lev zs114)))) 112 rfl kj (Qap 82 _ g117 82 _ _ r117_18_128 rfl kj kj (isz (n:=16) kj ((Qac _ _).trans (QaA _)))) ?_
    have r3_3:=(Qaa r3_2 e3)
    have r3_4:=(Puts.row p4 r3_3 (Qae r3_2 lr))
    have r3_5:=(Puts.row p5 r3_4 (Qae r3_2 lr))
    have r3_6:=(Puts.row p6 r3_5 (Qae r3_2 lr))
    have r3_7:=(Puts.row p7 r3_6 (Qae r3_2 lr))
    have r3_8:=(Puts.row p8 r3_7 (Qae r3_2 lr))
    have r3_9:=(Puts.row p9 r3_8 (Qae r3_2 lr))
    have r3_10:=(Puts.row p10 r3_9 (Qae r3_2 lr))
    have r3_11:=(Qaa r3_10 e11)
    have r3_12:=(Qaa r3_11 e12)
    have r3_13:=(Qaa r3_12 e13)
    have r3_14:=(Puts.row p14 r3_13 (Qae r3_12 lm))
    have r3_15:=(Qaa r3_14 e15)
    have r3_16:=(Qaa r3_15 e16)
    have r3_17:=(Qaa r3_16 e17)
    have r3_18:=(Qas.row q18 r3_17 (QaC (Qae r3_16 l117) QaS))
    refine Qal g3 _ (ints .u8 (by16 (lev zs114))) 82 r3_18 rfl kj (Qan 82 _ _ g3 82 _ _ r3_18 rfl kj kj (isz (n:=16) kj ((Qac _ _).trans (QaA _))) (eqsz (n:=16) ((Qac _ _).trans (List.length_replicate (n:=16))) ((Qac _ _).trans (QaA _))) (Qav _ _)) fun W19 p19 r3_19=>?_
    have x19:=Puts.ext p19 xx2 b3
    refine sgN hK129 <| wp_ret ?_
    repeat (first | with_reducible refine goR1 ?_ | with_reducible refine goR2 ?_)
    exact (show bodyPost _ _ _ .ret _ _ from ret1 (.agg (ints .u8 (by16 (lev zs114)))) rfl (QaU g3 82 _ r3_19 kj kj (isz (n:=16) kj ((Qac _ _).trans (QaA _)))) ⟨by unfold tagV; rw [hal],x19⟩)
  ·skip
   obtain ⟨gm,cm,rm_,evm,lm,rowm,hcm⟩:=Qep hzo105 (rfl:zs105.length=zs105.length) (by omega)
   rw [evm]
   have hys:=Qli (Qbu hsb) hzb105 hzv105 hslt (.inr hq.2)
   refine Qai <| sg 2 kj <| Qab (.bool true) 77 rfl kj (Qaf (u:=.bool (decide (((zs105.length:Nat):Int)≥17))) kj (congrArg Value.bool (decide_eq_true (by omega)))) <| sg 2 kj <| Qab (.pointer (some ⟨gm,16,none⟩)) 80 rfl kj (Qaw 127 _ _ .i64 (16) gm zs105.length cm 3 rfl kj kj kj kj (by omega)) <| Qab (.int .i64 (nth (zs105) 16)) 81 rfl kj (Qah 3 _ gm 16 3 _ (.int .i64 (nth (zs105) 16)) _ rowm rfl kj (Qbc (Nat.lt_of_lt_of_eq (by omega) (rfl).symm)) kj) <| Qab (.bool false) 82 rfl kj (Qaf (u:=.bool (decide ((nth (zs105) 16)≥4))) kj (congrArg Value.bool (decide_eq_false (by omega)))) <| sg 1 kj <| sgN hK108 <| cond_false kj ?_
   refine wp_skip <| hK102 _ _ <| sgC fun K131 hK131=>sg 1 kj <| Qab (.slice (some ⟨g2,0+16,none⟩) (32-16) (32-16)) 92 rfl kj (QbC 23 _ _ _ 16 32 32 g2 0 5 rfl kj kj kj ⟨.i64,by kernel_rfl⟩ rfl (by omega) (by omega) (by omega)) ?_
   have r2_3:=(Qaa r2_2 e3)
   have r2_4:=(Puts.row p4 r2_3 (Qae r2_2 lr))
   have r2_5:=(Puts.row p5 r2_4 (Qae r2_2 lr))
   have r2_6:=(Puts.row p6 r2_5 (Qae r2_2 lr))
   have r2_7:=(Puts.row p7 r2_6 (Qae r2_2 lr))
   have r2_8:=(Puts.row p8 r2_7 (Qae r2_2 lr))
   have r2_9:=(Puts.row p9 r2_8 (Qae r2_2 lr))
   have r2_10:=(Puts.row p10 r2_9 (Qae r2_2 lr))
   have r2_11:=(Qaa r2_10 e11)
   have r2_12:=(Qaa r2_11 e12)
   have r2_13:=(Qaa r2_12 e13)
   refine Qat (fun v W'=>(OwnN .i64 3 W13.heap.size ((key.drop 16).take (32-16))) v W'∧Ext W13 W') 78 #[.slice (some ⟨g2,0+16,none⟩) (32-16) (32-16)] 93 rfl kj kj ((QdV ((key.drop 16).take (32-16)) _ _ _ (Qe7 (l:=16) (h:=32) hkl r2_13 (by decide) (by decide) (by decide)) (by rw [List.length_take]; omega) (Qa9 (QaQ hkb 16) _)).mono (by rintro e w' ⟨v,rfl,e1,hv⟩; exact ⟨v,rfl,hv,e1⟩)) fun vv133 W14 hh133=>?_
   obtain ⟨hv133,e14⟩:=hh133
   have x14:=Ext.tr x13 e14
   obtain ⟨an132,cn132,hvn132,-⟩:=id (OwnN.rd hv133)
   subst hvn132
   refine Qat (fun v W'=>(DigR W14.heap.size (lev (xs)+lev ((key.drop 16).take (32-16))) (max (xs).length ((key.drop 16).take (32-16)).length+1)) v W'∧Ext W14 W') 82 #[.slice ax xs.length cx,.slice an132 (((key.drop 16).take (32-16)).length) cn132] 94 rfl kj kj ((QeI (xs) ((key.drop 16).take (32-16)) _ _ _ _ _ ((f106_12.ext e13).ext e14) (OwnN.rd hv133) (by first | omega | (rw [List.length_take]; omega)) (by first | omega | (rw [List.length_take]; omega)) hsb (Qa9 (QaQ hkb 16) _)).mono (by rintro e w' ⟨v,rfl,e1,hv⟩; exact ⟨v,rfl,hv,e1⟩)) fun vv137 W15 hh137=>?_
   obtain ⟨hv137,e15⟩:=hh137
   have x15:=Ext.tr x14 e15
   obtain ⟨zs134,hzb134,hzv134,hzl134,hzo134⟩:=hv137
   obtain ⟨az134,cz134,rfl,-⟩:=id (OwnN.rd hzo134)
   refine sg 1 kj <| sgN hK131 <| sgC fun K138 hK138=>Qaq (ints .u8 (List.replicate 16 0)) 82 14 rfl kj kj fun g139 W16 l139 e16 r139_16=>?_
   have x16:=Ext.tr x15 e16
   refine sgN hK138 <| wp_seq_k fun K140 hK140=>sgB kj <| wp_block ?_
   have hal:lev zs134=QdA (rOf key) text+sOf key:=by rw [hzv134,hys,hsm,hnn]; rfl
   refine Qa5 (fun (s3:Nat)=>[(4,.pointer (some ⟨g3,0,none⟩)),(13,.slice az134 zs134.length cz134),(14,.pointer (some ⟨g139,0,none⟩)),(15,.int .i64 ((s3:Nat):Int))]) (fun (s3:Nat) W=>(s3≤16)∧(W.heap[g139]? = some (.cells (ints .u8 (Qby (by16 (lev zs134)) 16 s3)) 82))∧(Qas [g139] W16 W)∧(Ext w W)) (fun (s3:Nat)=>16-s3) 0 ⟨kj,kj,kj,kj,trivial⟩ ⟨(Nat.zero_le _),(QaF r139_16 (QbG _ 16)),(Qas.refl [g139] W16),x16⟩ fun s3 X3 V3 hI3=>?_
   obtain ⟨i,hs3⟩:∃ z,z=s3:=⟨_,rfl⟩
   subst hs3
   obtain ⟨hi,q139_3,kk3,xx3⟩:=hI3
   replace hi:i≤16:=hi
   replace q139_3:V3.heap[g139]? = some (.cells (ints .u8 (Qby (by16 (lev zs134)) 16 i)) 82):=q139_3
   replace kk3:Qas [g139] W16 V3:=kk3
   replace xx3:Ext w V3:=xx3
   have q17:=kk3
   refine wp_seq_k fun K143 hK143=>wp_seq_k fun K144 hK144=>?_
   rcases (show (i<16∧i<zs134.length)∨(i<16∧zs134.length≤i)∨i=16 by omega) with hq | hq | hq
   ·skip
    have hi16:i<16:=hq.1
    have hil:i<zs134.length:=hq.2
    obtain ⟨gro145,oro145,haro145,-,hlro145,hcro145⟩:=QbF (OwnN.rd (OwnN.keepsL (hzo134.ext e16) q17 (Qfr (QfG hzo134 l139) QgU))) (by omega)
    refine Qai <| sg 1 kj <| Qab (.bool true) 96 rfl kj (Qaf (u:=.bool (decide (((i:Nat):Int)<16))) kj (congrArg Value.bool (decide_eq_true (by omega)))) <| sg 4 kj <| Qab (.bool true) 101 rfl kj (Qaf (u:=.bool (decide (((i:Nat):Int)<((zs134.length:Nat):Int)))) kj (congrArg Value.bool (decide_eq_true (by omega)))) <| sg 1 kj <| sgN hK144 <| cond_true kj <| wp_skip <| hK143 _ _ ?_
    refine wp_seq_k fun K147 hK147=>wp_block <| Qai <| sg 3 kj <| Qab (.pointer (some ⟨gro145,oro145+i,none⟩)) 108 rfl kj (QaN 127 _ _ .i64 i gro145 oro145 zs134.length cz134 3 az134 _ haro145 rfl rfl kj kj kj kj (Nat.lt_of_lt_of_eq (show i<(zs134).length by omega) (rfl:(zs134).length=(zs134).length).symm)) <| Qab (.int .i64 (nth (zs134) (i))) 109 rfl kj (Qaz 3 _ _ (.int .i64 (nth (zs134) (i))) (hcro145 i (Nat.lt_of_lt_of_eq (show i<(zs134).length by omega) (rfl:(zs134).length=(zs134).length).symm)) rfl kj kj) <| Qab (.int .u8 (nth (by16 (lev zs134)) i)) 110 rfl kj (Qaf (u:=.int .u8 (IntKind.u8.wrap (nth (zs134) (i)))) kj (congrArg (Value.int .u8) (Qf0 hzb134 hi16))) <| Qab (.pointer (some ⟨g139,i,none⟩)) 111 rfl kj (QaE _ _ _ .i64 (i) _ 16 5 rfl kj kj kj kj (by omega)) <| Qal g139 _ (ints .u8 ((Qby (by16 (lev zs134)) 16 i).set i (nth (by16 (lev zs134)) i))) 82 q139_3 rfl kj (Qa1 5 _ _ g139 i 82 _ _ q139_3 rfl kj kj kj (Nat.lt_of_lt_of_eq (by omega) (QbK _ 16 _ (QaA _) hi).symm)) fun W18 p18 r139_18=>?_
    have x18:=Puts.ext p18 xx3 (qT x15.size l139)
    refine Qao <| hK147 _ _ <| Qai <| sg 1 kj <| Qab (.int .i64 ((i+1:Nat):Int)) 104 rfl kj (Qaf (u:=.int .i64 (IntKind.i64.wrap (((i:Nat):Int)+1))) kj (congrArg (Value.int .i64) (i64n _ _ (by omega) (by omega)))) <| sg 1 kj <| Qao ?_
    repeat (first | with_reducible refine goX1 ?_ | with_reducible refine goX2 ?_ | with_reducible refine goX3 ?_)
    exact Qax (i+1) ⟨kj,kj,kj,kj,trivial⟩ ⟨(show i+1≤16 by omega),(QaF r139_18 (QbH _ 16 i (QaA _) hi16)),(Qas.puts q17 p18 (.inl (by simp))),x18⟩ (by show 16-(i+1)<16-i; omega)
   ·skip
    have r139_17_148:V3.heap[g139]? = some (.cells (ints .u8 (by16 (lev zs134))) 82):=QaF q139_3 (Qdw hzb134 hi (.inr hq.2))
    refine Qai <| sg 1 kj <| Qab (.bool true) 96 rfl kj (Qaf (u:=.bool (decide (((i:Nat):Int)<16))) kj (congrArg Value.bool (decide_eq_true (by omega)))) <| sg 4 kj <| Qab (.bool false) 101 rfl kj (Qaf (u:=.bool (decide (((i:Nat):Int)<((zs134.length:Nat):Int)))) kj (congrArg Value.bool (decide_eq_false (by omega)))) <| sg 1 kj <| sgN hK144 <| cond_false kj <| wp_exit <| hK140 _ _ ?_
    refine sgC fun K149 hK149=>Qab (.agg (ints .u8 (by16 (lev zs134)))) 112 rfl kj (Qap 82 _ g139 82 _ _ r139_17_148 rfl kj kj (isz (n:=16) kj ((Qac _ _).trans (QaA _)))) ?_
    have r3_3:=(Qaa r3_2 e3)
    have r3_4:=(Puts.row p4 r3_3 (Qae r3_2 lr))
    have r3_5:=(Puts.row p5 r3_4 (Qae r3_2 lr))
    have r3_6:=(Puts.row p6 r3_5 (Qae r3_2 lr))
    have r3_7:=(Puts.row p7 r3_6 (Qae r3_2 lr))
    have r3_8:=(Puts.row p8 r3_7 (Qae r3_2 lr))
    have r3_9:=(Puts.row p9 r3_8 (Qae r3_2 lr))
    have r3_10:=(Puts.row p10 r3_9 (Qae r3_2 lr))
    have r3_11:=(Qaa r3_10 e11)
    have r3_12:=(Qaa r3_11 e12)
    have r3_13:=(Qaa r3_12 e13)
    have r3_14:=(Qaa r3_13 e14)
    have r3_15:=(Qaa r3_14 e15)
    have r3_16:=(Qaa r3_15 e16)
    have r3_17:=(Qas.row q17 r3_16 (QaC (Qae r3_15 l139) QaS))
    refine Qal g3 _ (ints .u8 (by16 (lev zs134))) 82 r3_17 rfl kj (Qan 82 _ _ g3 82 _ _ r3_17 rfl kj kj (isz (n:=16) kj ((Qac _ _).trans (QaA _))) (eqsz (n:=16) ((Qac _ _).trans (List.length_replicate (n:=16))) ((Qac _ _).trans (QaA _))) (Qav _ _)) fun W18 p18 r3_18=>?_
    have x18:=Puts.ext p18 xx3 b3
    refine sgN hK149 <| wp_ret ?_
    repeat (first | with_reducible refine goR1 ?_ | with_reducible refine goR2 ?_)
    exact (show bodyPost _ _ _ .ret _ _ from ret1 (.agg (ints .u8 (by16 (lev zs134)))) rfl (QaU g3 82 _ r3_18 kj kj (isz (n:=16) kj ((Qac _ _).trans (QaA _)))) ⟨by unfold tagV; rw [hal],x18⟩)
   ·skip
    have r139_17_150:V3.heap[g139]? = some (.cells (ints .u8 (by16 (lev zs134))) 82):=QaF q139_3 (Qdw hzb134 hi (.inl hq))
    refine Qai <| sg 1 kj <| Qab (.bool false) 96 rfl kj (Qaf (u:=.bool (decide (((i:Nat):Int)<16))) kj (congrArg Value.bool (decide_eq_false (by omega)))) <| sg 6 kj <| sgN hK144 <| cond_false kj <| wp_exit <| hK140 _ _ <| sgC fun K151 hK151=>Qab (.agg (ints .u8 (by16 (lev zs134)))) 112 rfl kj (Qap 82 _ g139 82 _ _ r139_17_150 rfl kj kj (isz (n:=16) kj ((Qac _ _).trans (QaA _)))) ?_
    have r3_3:=(Qaa r3_2 e3)
    have r3_4:=(Puts.row p4 r3_3 (Qae r3_2 lr))
    have r3_5:=(Puts.row p5 r3_4 (Qae r3_2 lr))
    have r3_6:=(Puts.row p6 r3_5 (Qae r3_2 lr))
    have r3_7:=(Puts.row p7 r3_6 (Qae r3_2 lr))
    have r3_8:=(Puts.row p8 r3_7 (Qae r3_2 lr))
    have r3_9:=(Puts.row p9 r3_8 (Qae r3_2 lr))
    have r3_10:=(Puts.row p10 r3_9 (Qae r3_2 lr))
    have r3_11:=(Qaa r3_10 e11)
    have r3_12:=(Qaa r3_11 e12)
    have r3_13:=(Qaa r3_12 e13)
    have r3_14:=(Qaa r3_13 e14)
    have r3_15:=(Qaa r3_14 e15)
    have r3_16:=(Qaa r3_15 e16)
    have r3_17:=(Qas.row q17 r3_16 (QaC (Qae r3_15 l139) QaS))
    refine Qal g3 _ (ints .u8 (by16 (lev zs134))) 82 r3_17 rfl kj (Qan 82 _ _ g3 82 _ _ r3_17 rfl kj kj (isz (n:=16) kj ((Qac _ _).trans (QaA _))) (eqsz (n:=16) ((Qac _ _).trans (List.length_replicate (n:=16))) ((Qac _ _).trans (QaA _))) (Qav _ _)) fun W18 p18 r3_18=>?_
    have x18:=Puts.ext p18 xx3 b3
    refine sgN hK151 <| wp_ret ?_
    repeat (first | with_reducible refine goR1 ?_ | with_reducible refine goR2 ?_)
    exact (show bodyPost _ _ _ .ret _ _ from ret1 (.agg (ints .u8 (by16 (lev zs134)))) rfl (QaU g3 82 _ r3_18 kj kj (isz (n:=16) kj ((Qac _ _).trans (QaA _)))) ⟨by unfold tagV; rw [hal],x18⟩)
  ·skip
   have hys:=Qli (Qbu hsb) hzb105 hzv105 hslt (.inl hq)
   refine Qai <| sg 2 kj <| Qab (.bool false) 77 rfl kj (Qaf (u:=.bool (decide (((zs105.length:Nat):Int)≥17))) kj (congrArg Value.bool (decide_eq_false (by omega)))) <| sg 6 kj <| sgN hK108 <| cond_false kj <| wp_skip <| hK102 _ _ <| sgC fun K152 hK152=>sg 1 kj ?_
   refine Qab (.slice (some ⟨g2,0+16,none⟩) (32-16) (32-16)) 92 rfl kj (QbC 23 _ _ _ 16 32 32 g2 0 5 rfl kj kj kj ⟨.i64,by kernel_rfl⟩ rfl (by omega) (by omega) (by omega)) ?_
   have r2_3:=(Qaa r2_2 e3)
   have r2_4:=(Puts.row p4 r2_3 (Qae r2_2 lr))
   have r2_5:=(Puts.row p5 r2_4 (Qae r2_2 lr))
   have r2_6:=(Puts.row p6 r2_5 (Qae r2_2 lr))
   have r2_7:=(Puts.row p7 r2_6 (Qae r2_2 lr))
   have r2_8:=(Puts.row p8 r2_7 (Qae r2_2 lr))
   have r2_9:=(Puts.row p9 r2_8 (Qae r2_2 lr))
   have r2_10:=(Puts.row p10 r2_9 (Qae r2_2 lr))
   have r2_11:=(Qaa r2_10 e11)
   have r2_12:=(Qaa r2_11 e12)
   have r2_13:=(Qaa r2_12 e13)
   refine Qat (fun v W'=>(OwnN .i64 3 W13.heap.size ((key.drop 16).take (32-16))) v W'∧Ext W13 W') 78 #[.slice (some ⟨g2,0+16,none⟩) (32-16) (32-16)] 93 rfl kj kj ((QdV ((key.drop 16).take (32-16)) _ _ _ (Qe7 (l:=16) (h:=32) hkl r2_13 (by decide) (by decide) (by decide)) (by rw [List.length_take]; omega) (Qa9 (QaQ hkb 16) _)).mono (by rintro e w' ⟨v,rfl,e1,hv⟩; exact ⟨v,rfl,hv,e1⟩)) fun vv154 W14 hh154=>?_
   obtain ⟨hv154,e14⟩:=hh154
   have x14:=Ext.tr x13 e14
   obtain ⟨an153,cn153,hvn153,-⟩:=id (OwnN.rd hv154)
   subst hvn153
   refine Qat (fun v W'=>(DigR W14.heap.size (lev (xs)+lev ((key.drop 16).take (32-16))) (max (xs).length ((key.drop 16).take (32-16)).length+1)) v W'∧Ext W14 W') 82 #[.slice ax xs.length cx,.slice an153 (((key.drop 16).take (32-16)).length) cn153] 94 rfl kj kj ((QeI (xs) ((key.drop 16).take (32-16)) _ _ _ _ _ ((f106_12.ext e13).ext e14) (OwnN.rd hv154) (by first | omega | (rw [List.length_take]; omega)) (by first | omega | (rw [List.length_take]; omega)) hsb (Qa9 (QaQ hkb 16) _)).mono (by rintro e w' ⟨v,rfl,e1,hv⟩; exact ⟨v,rfl,hv,e1⟩)) fun vv158 W15 hh158=>?_
   obtain ⟨hv158,e15⟩:=hh158
   have x15:=Ext.tr x14 e15
   obtain ⟨zs155,hzb155,hzv155,hzl155,hzo155⟩:=hv158
   obtain ⟨az155,cz155,rfl,-⟩:=id (OwnN.rd hzo155)
   refine sg 1 kj <| sgN hK152 <| sgC fun K159 hK159=>Qaq (ints .u8 (List.replicate 16 0)) 82 14 rfl kj kj fun g160 W16 l160 e16 r160_16=>?_
   have x16:=Ext.tr x15 e16
   refine sgN hK159 <| wp_seq_k fun K161 hK161=>sgB kj <| wp_block ?_
   have hal:lev zs155=QdA (rOf key) text+sOf key:=by rw [hzv155,hys,hsm,hnn]; rfl
   refine Qa5 (fun (s4:Nat)=>[(4,.pointer (some ⟨g3,0,none⟩)),(13,.slice az155 zs155.length cz155),(14,.pointer (some ⟨g160,0,none⟩)),(15,.int .i64 ((s4:Nat):Int))]) (fun (s4:Nat) W=>(s4≤16)∧(W.heap[g160]? = some (.cells (ints .u8 (Qby (by16 (lev zs155)) 16 s4)) 82))∧(Qas [g160] W16 W)∧(Ext w W)) (fun (s4:Nat)=>16-s4) 0 ⟨kj,kj,kj,kj,trivial⟩ ⟨(Nat.zero_le _),(QaF r160_16 (QbG _ 16)),(Qas.refl [g160] W16),x16⟩ fun s4 X4 V4 hI4=>?_
   obtain ⟨i,hs4⟩:∃ z,z=s4:=⟨_,rfl⟩
   subst hs4
   obtain ⟨hi,q160_4,kk4,xx4⟩:=hI4
   replace hi:i≤16:=hi
   replace q160_4:V4.heap[g160]? = some (.cells (ints .u8 (Qby (by16 (lev zs155)) 16 i)) 82):=q160_4
   replace kk4:Qas [g160] W16 V4:=kk4
   replace xx4:Ext w V4:=xx4
   have q17:=kk4
   refine wp_seq_k fun K164 hK164=>wp_seq_k fun K165 hK165=>?_
   rcases (show (i<16∧i<zs155.length)∨(i<16∧zs155.length≤i)∨i=16 by omega) with hq | hq | hq
   ·skip
    have hi16:i<16:=hq.1
    have hil:i<zs155.length:=hq.2
    obtain ⟨gro166,oro166,haro166,-,hlro166,hcro166⟩:=QbF (OwnN.rd (OwnN.keepsL (hzo155.ext e16) q17 (Qfr (QfG hzo155 l160) QgU))) (by omega)
    refine Qai <| sg 1 kj <| Qab (.bool true) 96 rfl kj (Qaf (u:=.bool (decide (((i:Nat):Int)<16))) kj (congrArg Value.bool (decide_eq_true (by omega)))) <| sg 4 kj <| Qab (.bool true) 101 rfl kj (Qaf (u:=.bool (decide (((i:Nat):Int)<((zs155.length:Nat):Int)))) kj (congrArg Value.bool (decide_eq_true (by omega)))) <| sg 1 kj <| sgN hK165 <| cond_true kj <| wp_skip <| hK164 _ _ ?_
    refine wp_seq_k fun K168 hK168=>wp_block <| Qai <| sg 3 kj <| Qab (.pointer (some ⟨gro166,oro166+i,none⟩)) 108 rfl kj (QaN 127 _ _ .i64 i gro166 oro166 zs155.length cz155 3 az155 _ haro166 rfl rfl kj kj kj kj (Nat.lt_of_lt_of_eq (show i<(zs155).length by omega) (rfl:(zs155).length=(zs155).length).symm)) <| Qab (.int .i64 (nth (zs155) (i))) 109 rfl kj (Qaz 3 _ _ (.int .i64 (nth (zs155) (i))) (hcro166 i (Nat.lt_of_lt_of_eq (show i<(zs155).length by omega) (rfl:(zs155).length=(zs155).length).symm)) rfl kj kj) <| Qab (.int .u8 (nth (by16 (lev zs155)) i)) 110 rfl kj (Qaf (u:=.int .u8 (IntKind.u8.wrap (nth (zs155) (i)))) kj (congrArg (Value.int .u8) (Qf0 hzb155 hi16))) <| Qab (.pointer (some ⟨g160,i,none⟩)) 111 rfl kj (QaE _ _ _ .i64 (i) _ 16 5 rfl kj kj kj kj (by omega)) <| Qal g160 _ (ints .u8 ((Qby (by16 (lev zs155)) 16 i).set i (nth (by16 (lev zs155)) i))) 82 q160_4 rfl kj (Qa1 5 _ _ g160 i 82 _ _ q160_4 rfl kj kj kj (Nat.lt_of_lt_of_eq (by omega) (QbK _ 16 _ (QaA _) hi).symm)) fun W18 p18 r160_18=>?_
    have x18:=Puts.ext p18 xx4 (qT x15.size l160)
    refine Qao <| hK168 _ _ <| Qai <| sg 1 kj <| Qab (.int .i64 ((i+1:Nat):Int)) 104 rfl kj (Qaf (u:=.int .i64 (IntKind.i64.wrap (((i:Nat):Int)+1))) kj (congrArg (Value.int .i64) (i64n _ _ (by omega) (by omega)))) <| sg 1 kj <| Qao ?_
    repeat (first | with_reducible refine goX1 ?_ | with_reducible refine goX2 ?_ | with_reducible refine goX3 ?_)
    exact Qax (i+1) ⟨kj,kj,kj,kj,trivial⟩ ⟨(show i+1≤16 by omega),(QaF r160_18 (QbH _ 16 i (QaA _) hi16)),(Qas.puts q17 p18 (.inl (by simp))),x18⟩ (by show 16-(i+1)<16-i; omega)
   ·skip
    have r160_17_169:V4.heap[g160]? = some (.cells (ints .u8 (by16 (lev zs155))) 82):=QaF q160_4 (Qdw hzb155 hi (.inr hq.2))
    refine Qai <| sg 1 kj <| Qab (.bool true) 96 rfl kj (Qaf (u:=.bool (decide (((i:Nat):Int)<16))) kj (congrArg Value.bool (decide_eq_true (by omega)))) <| sg 4 kj <| Qab (.bool false) 101 rfl kj (Qaf (u:=.bool (decide (((i:Nat):Int)<((zs155.length:Nat):Int)))) kj (congrArg Value.bool (decide_eq_false (by omega)))) <| sg 1 kj <| sgN hK165 <| cond_false kj <| wp_exit <| hK161 _ _ ?_
    refine sgC fun K170 hK170=>Qab (.agg (ints .u8 (by16 (lev zs155)))) 112 rfl kj (Qap 82 _ g160 82 _ _ r160_17_169 rfl kj kj (isz (n:=16) kj ((Qac _ _).trans (QaA _)))) ?_
    have r3_3:=(Qaa r3_2 e3)
    have r3_4:=(Puts.row p4 r3_3 (Qae r3_2 lr))
    have r3_5:=(Puts.row p5 r3_4 (Qae r3_2 lr))
    have r3_6:=(Puts.row p6 r3_5 (Qae r3_2 lr))
    have r3_7:=(Puts.row p7 r3_6 (Qae r3_2 lr))
    have r3_8:=(Puts.row p8 r3_7 (Qae r3_2 lr))
    have r3_9:=(Puts.row p9 r3_8 (Qae r3_2 lr))
    have r3_10:=(Puts.row p10 r3_9 (Qae r3_2 lr))
    have r3_11:=(Qaa r3_10 e11)
    have r3_12:=(Qaa r3_11 e12)
    have r3_13:=(Qaa r3_12 e13)
    have r3_14:=(Qaa r3_13 e14)
    have r3_15:=(Qaa r3_14 e15)
    have r3_16:=(Qaa r3_15 e16)
    have r3_17:=(Qas.row q17 r3_16 (QaC (Qae r3_15 l160) QaS))
    refine Qal g3 _ (ints .u8 (by16 (lev zs155))) 82 r3_17 rfl kj (Qan 82 _ _ g3 82 _ _ r3_17 rfl kj kj (isz (n:=16) kj ((Qac _ _).trans (QaA _))) (eqsz (n:=16) ((Qac _ _).trans (List.length_replicate (n:=16))) ((Qac _ _).trans (QaA _))) (Qav _ _)) fun W18 p18 r3_18=>?_
    have x18:=Puts.ext p18 xx4 b3
    refine sgN hK170 <| wp_ret ?_
    repeat (first | with_reducible refine goR1 ?_ | with_reducible refine goR2 ?_)
    exact (show bodyPost _ _ _ .ret _ _ from ret1 (.agg (ints .u8 (by16 (lev zs155)))) rfl (QaU g3 82 _ r3_18 kj kj (isz (n:=16) kj ((Qac _ _).trans (QaA _)))) ⟨by unfold tagV; rw [hal],x18⟩)
   ·skip
    have r160_17_171:V4.heap[g160]? = some (.cells (ints .u8 (by16 (lev zs155))) 82):=QaF q160_4 (Qdw hzb155 hi (.inl hq))
    refine Qai <| sg 1 kj <| Qab (.bool false) 96 rfl kj (Qaf (u:=.bool (decide (((i:Nat):Int)<16))) kj (congrArg Value.bool (decide_eq_false (by omega)))) <| sg 6 kj <| sgN hK165 <| cond_false kj <| wp_exit <| hK161 _ _ <| sgC fun K172 hK172=>Qab (.agg (ints .u8 (by16 (lev zs155)))) 112 rfl kj (Qap 82 _ g160 82 _ _ r160_17_171 rfl kj kj (isz (n:=16) kj ((Qac _ _).trans (QaA _)))) ?_
    have r3_3:=(Qaa r3_2 e3)
    have r3_4:=(Puts.row p4 r3_3 (Qae r3_2 lr))
    have r3_5:=(Puts.row p5 r3_4 (Qae r3_2 lr))
    have r3_6:=(Puts.row p6 r3_5 (Qae r3_2 lr))
    have r3_7:=(Puts.row p7 r3_6 (Qae r3_2 lr))
    have r3_8:=(Puts.row p8 r3_7 (Qae r3_2 lr))
    have r3_9:=(Puts.row p9 r3_8 (Qae r3_2 lr))
    have r3_10:=(Puts.row p10 r3_9 (Qae r3_2 lr))
    have r3_11:=(Qaa r3_10 e11)
    have r3_12:=(Qaa r3_11 e12)
    have r3_13:=(Qaa r3_12 e13)
    have r3_14:=(Qaa r3_13 e14)
    have r3_15:=(Qaa r3_14 e15)
    have r3_16:=(Qaa r3_15 e16)
    have r3_17:=(Qas.row q17 r3_16 (QaC (Qae r3_15 l160) QaS))
    refine Qal g3 _ (ints .u8 (by16 (lev zs155))) 82 r3_17 rfl kj (Qan 82 _ _ g3 82 _ _ r3_17 rfl kj kj (isz (n:=16) kj ((Qac _ _).trans (QaA _))) (eqsz (n:=16) ((Qac _ _).trans (List.length_replicate (n:=16))) ((Qac _ _).trans (QaA _))) (Qav _ _)) fun W18 p18 r3_18=>?_
    have x18:=Puts.ext p18 xx4 b3
    refine sgN hK172 <| wp_ret ?_
    repeat (first | with_reducible refine goR1 ?_ | with_reducible refine goR2 ?_)
    exact (show bodyPost _ _ _ .ret _ _ from ret1 (.agg (ints .u8 (by16 (lev zs155)))) rfl (QaU g3 82 _ r3_18 kj kj (isz (n:=16) kj ((Qac _ _).trans (QaA _)))) ⟨by unfold tagV; rw [hal],x18⟩)
end Go.Proofs.YtophlgnnjjkkiaaDoor.Ae
end
section
namespace Go.Proofs.YtophlgnnjjkkiaaDoor.Ae
open Go Go.RowKit
open Rely Auto Own Sha
open Sha Cha
def isW (x : Int):Prop:=0≤x∧x<18446744073709551616
theorem QcU (x y c:Int) (hx:isW x) (hy:isW y) (hc:0≤c∧c≤1) :
    ∃ s d:Int,isW s∧(0≤d∧d≤1)∧s+18446744073709551616*d=x+y+c ∧
      ∀ W,(callFunc 91 #[.int .u64 x,.int .u64 y,.int .u64 c]).run Tryd.prog W=.ok (.value (.tuple #[.int .u64 s,.int .u64 d])) W:=by
  unfold isW at hx hy
  refine ⟨(x+y+c)%18446744073709551616,(x+y+c)/18446744073709551616,⟨by omega,by omega⟩,by omega,by omega,fun W=>?_⟩
  rw [run_callFunc_extern Tryd.func91 kj kj kj (e:=add64Entry) kj,run_add64 x y c hx.1 hy.1 hc.1 hc.2]
  rfl
theorem maskN (a : Int) (h:isW a):bits .and .u64 a 4294967295=a%4294967296:=by
  obtain ⟨A,rfl⟩:=Int.eq_ofNat_of_zero_le h.1
  have h:=bits_and_u64_nat A 4294967295 (by have:=h.2; omega) (by omega)
  have e:A&&&4294967295=A%4294967296:=Nat.and_two_pow_sub_one_eq_mod A 32
  rw [e] at h
  exact h
theorem QkY (a : Int) (h:isW a):IntKind.u64.wrap a=a:=by rw [IntKind.wrap_u64]; have:=h.1; have:=h.2; omega
theorem Qj7 (x y:Int) (hx:isW x) (hy:isW y) :
    ∃ hi lo:Int,isW hi∧isW lo∧lo+18446744073709551616*hi=x*y∧∀ w,Calls Tryd.prog 93 #[.int .u64 x,.int .u64 y] w (fun e w'=>e=.returned (.tuple #[.int .u64 hi,.int .u64 lo])∧w'=w):=by
  obtain ⟨X,rfl⟩:=Int.eq_ofNat_of_zero_le hx.1
  obtain ⟨Y,rfl⟩:=Int.eq_ofNat_of_zero_le hy.1
  have hX:X<18446744073709551616:=by have:=hx.2; omega
  have hY:Y<18446744073709551616:=by have:=hy.2; omega
  have hXY:X*Y<18446744073709551616*18446744073709551616:=Nat.mul_lt_mul'' hX hY
  refine ⟨((X*Y/18446744073709551616:Nat):Int),((X*Y%18446744073709551616:Nat):Int),⟨by omega,by omega⟩,⟨by omega,by omega⟩,?_,fun w=>?_⟩
  · rw [←Int.natCast_mul]; omega
  obtain ⟨bd,bt,bw,hhi⟩:=Lib.mul64_hi X Y hX hY
  have ba:=Lib.half_mul_le (a:=X/4294967296) (b:=Y/4294967296) (by omega) (by omega)
  have bb:=Lib.half_mul_le (a:=X/4294967296) (b:=Y%4294967296) (by omega) (by omega)
  have bc:=Lib.half_mul_le (a:=X%4294967296) (b:=Y/4294967296) (by omega) (by omega)
  have ba':X/4294967296*(Y/4294967296)<18446744073709551616:=by omega
  have bb':X/4294967296*(Y%4294967296)<18446744073709551616:=by omega
  have bc':X%4294967296*(Y/4294967296)<18446744073709551616:=by omega
  have bh1:X/4294967296*(Y/4294967296)+(X/4294967296*(Y%4294967296)+X%4294967296*(Y%4294967296)/4294967296)/4294967296<18446744073709551616:=by omega
  have bh:X/4294967296*(Y/4294967296)+(X/4294967296*(Y%4294967296)+X%4294967296*(Y%4294967296)/4294967296)/4294967296+((X/4294967296*(Y%4294967296)+X%4294967296*(Y%4294967296)/4294967296)%4294967296+X%4294967296*(Y/4294967296))/4294967296<18446744073709551616:=by omega
  go_enter Tryd.func93,Tryd.ntmps93
  go_wp2
  simp only [Mul64.maskN X hX,Mul64.maskN Y hY,Mul64.divN,Mul64.mulN,Mul64.addN,Mul64.wrapN _ bd,Mul64.wrapN _ bb',Mul64.wrapN _ bt,Mul64.maskN _ bt,Mul64.wrapN _ bc',Mul64.wrapN _ bw,Mul64.wrapN _ ba',Mul64.wrapN _ bh1,Mul64.wrapN _ bh,Mul64.wrapM (X*Y)]
  rw [hhi]
  go_ret2
  exact ⟨rfl,rfl⟩
theorem Qb5 : isW 0:=⟨by decide,by decide⟩
def nw3 (v : Int):List Int:=[v%18446744073709551616,v/18446744073709551616%18446744073709551616,v/340282366920938463463374607431768211456%18446744073709551616]
theorem Qlh {a b c v:Int} (ha:isW a) (hb:isW b) (hc:isW c) (h:a+18446744073709551616*b+340282366920938463463374607431768211456*c=v):[a,b,c]=nw3 v:=by
  obtain ⟨a0,a1⟩:=ha
  obtain ⟨b0,b1⟩:=hb
  obtain ⟨c0,c1⟩:=hc
  subst h
  unfold nw3
  have e1:(a+18446744073709551616*b+340282366920938463463374607431768211456*c)%18446744073709551616=a:=by omega
  have e2:(a+18446744073709551616*b+340282366920938463463374607431768211456*c)/18446744073709551616%18446744073709551616=b:=by omega
  have e3:(a+18446744073709551616*b+340282366920938463463374607431768211456*c)/340282366920938463463374607431768211456%18446744073709551616=c:=by omega
  rw [e1,e2,e3]
theorem QcE (v : Int):isW (v%18446744073709551616):=⟨by omega,by omega⟩
theorem Qgi (v : Int) (h0:0≤v) (h:v<6277101735386680763835789423207666416102355444464034512896):v%18446744073709551616+18446744073709551616*(v/18446744073709551616%18446744073709551616)+340282366920938463463374607431768211456*(v/340282366920938463463374607431768211456%18446744073709551616)=v:=by omega
theorem QlG (t : Nat) (ht:t<8):0<p256 t∧256*p256 t≤18446744073709551616:=by
  have:∀ t:Fin 8,0<p256 t.1∧256*p256 t.1≤18446744073709551616:=by decide +kernel
  exact this ⟨t,ht⟩
theorem Qjx (u x:Int) (t:Nat) (h0:0≤u) (h1:u<p256 t) (hx:0≤x∧x<256) (ht:t<8):bits .or .u64 u (x*p256 t)=u+x*p256 t:=by
  obtain ⟨U,rfl⟩:=Int.eq_ofNat_of_zero_le h0
  obtain ⟨X,rfl⟩:=Int.eq_ofNat_of_zero_le hx.1
  obtain ⟨q0,q1⟩:=QlG t ht
  have e:p256 t=((2^(8*t):Nat):Int):=by unfold p256; rw [Nat.pow_mul]; simp
  have hX:X<256:=by omega
  rw [e] at h1 q0 q1 ⊢
  have hU:U<2^(8*t):=by omega
  have q2:256*2^(8*t)≤18446744073709551616:=by omega
  have hm:X*2^(8*t)+2^(8*t)≤18446744073709551616:=by
    have:(X+1)*2^(8*t)≤256*2^(8*t):=Nat.mul_le_mul_right _ hX
    rw [Nat.succ_mul] at this; omega
  rw [←Int.natCast_mul,bits_or_u64_nat U (X*2^(8*t)) (by omega) (by omega)]
  have h:=Nat.shiftLeft_add_eq_or_of_lt hU X
  rw [Nat.shiftLeft_eq] at h
  rw [Nat.or_comm,←h]
  rw [Int.natCast_add]; omega
theorem Qnq (x : Int) (t:Nat) (c:Int) (hc:c=((8*t:Nat):Int)) (hx:0≤x∧x<256) (ht:t<8):IntKind.u64.wrap (x*2^min c.toNat IntKind.u64.bits)=x*p256 t:=by
  subst hc
  have hm:min (((8*t:Nat):Int)).toNat IntKind.u64.bits=8*t:=by show min (((8*t:Nat):Int)).toNat 64=8*t; omega
  have e:(2:Int)^(8*t)=p256 t:=by unfold p256; rw [Int.pow_mul]; rfl
  obtain ⟨q0,q1⟩:=QlG t ht
  rw [hm,e]
  have h1:0≤x*p256 t:=Int.mul_nonneg hx.1 (by omega)
  have h2:x*p256 t≤255*p256 t:=Int.mul_le_mul_of_nonneg_right (by omega) (by omega)
  exact QkY _ ⟨h1,by omega⟩
theorem Qix (v x:Int) (i:Nat) (hi:i<24) (h0:0≤v) (h1:v<p256 i) (hx:0≤x∧x<256) :
    bits .or .u64 (nth (nw3 v) (i/8)) (x*p256 (i%8))=nth (nw3 (v+x*p256 i)) (i/8)∧(nw3 v).set (i/8) (nth (nw3 (v+x*p256 i)) (i/8))=nw3 (v+x*p256 i):=by
  obtain ⟨t,et⟩:∃ t,t=i%8:=⟨_,rfl⟩
  have ht:t<8:=by omega
  obtain ⟨q0,q1⟩:=QlG t ht
  obtain ⟨z,ez⟩:∃ z,z=x*p256 t:=⟨_,rfl⟩
  have hz0:0≤z:=by rw [ez]; exact Int.mul_nonneg hx.1 (by omega)
  have hz1:z≤255*p256 t:=by rw [ez]; exact Int.mul_le_mul_of_nonneg_right (by omega) (by omega)
  rw [←et]
  have hp8:p256 8=18446744073709551616:=by decide +kernel
  have hp16:p256 16=340282366920938463463374607431768211456:=p16
  rcases (show i=t∨i=8+t∨i=16+t by omega) with e | e | e
  · have hd:i/8=0:=by omega
    have hv:v<p256 t:=by rw [e] at h1; exact h1
    have hxp:x*p256 i=z:=by rw [e,ez]
    rw [hd,hxp]
    have e1:nth (nw3 v) 0=v:=by show v%_=v; omega
    have e2:nth (nw3 (v+z)) 0=v+z:=by show (v+z)%_=v+z; omega
    rw [e1,e2]
    refine ⟨by rw [Qjx v x t h0 hv hx ht,ez],?_⟩
    show [v+z,v/18446744073709551616%18446744073709551616,v/340282366920938463463374607431768211456%18446744073709551616]=[(v+z)%18446744073709551616,(v+z)/18446744073709551616%18446744073709551616,(v+z)/340282366920938463463374607431768211456%18446744073709551616]
    congr 1
    · omega
    · congr 1
      · omega
      · congr 1; omega
  · have hd:i/8=1:=by omega
    have hpi:p256 i=18446744073709551616*p256 t:=by rw [e,QcM,hp8]
    have hv:v<18446744073709551616*p256 t:=by rw [hpi] at h1; exact h1
    have hxp:x*p256 i=18446744073709551616*z:=by rw [hpi,ez]; grind
    rw [hd,hxp]
    have e1:nth (nw3 v) 1=v/18446744073709551616:=by show v/_%_=v/_; omega
    have e2:nth (nw3 (v+18446744073709551616*z)) 1=v/18446744073709551616+z:=by show (v+_*z)/_%_=_; omega
    rw [e1,e2]
    refine ⟨by rw [Qjx (v/18446744073709551616) x t (by omega) (by omega) hx ht,ez],?_⟩
    show [v%18446744073709551616,v/18446744073709551616+z,v/340282366920938463463374607431768211456%18446744073709551616]=[(v+18446744073709551616*z)%18446744073709551616,(v+18446744073709551616*z)/18446744073709551616%18446744073709551616,(v+18446744073709551616*z)/340282366920938463463374607431768211456%18446744073709551616]
    congr 1
    · omega
    · congr 1
      · omega
      · congr 1; omega
  · have hd:i/8=2:=by omega
    have hpi:p256 i=340282366920938463463374607431768211456*p256 t:=by rw [e,QcM,hp16]
    have hv:v<340282366920938463463374607431768211456*p256 t:=by rw [hpi] at h1; exact h1
    have hxp:x*p256 i=340282366920938463463374607431768211456*z:=by rw [hpi,ez]; grind
    rw [hd,hxp]
    have e1:nth (nw3 v) 2=v/340282366920938463463374607431768211456:=by show v/_%_=v/_; omega
    have e2:nth (nw3 (v+340282366920938463463374607431768211456*z)) 2=v/340282366920938463463374607431768211456+z:=by show (v+_*z)/_%_=_; omega
    rw [e1,e2]
    refine ⟨by rw [Qjx (v/340282366920938463463374607431768211456) x t (by omega) (by omega) hx ht,ez],?_⟩
    show [v%18446744073709551616,v/18446744073709551616%18446744073709551616,v/340282366920938463463374607431768211456+z]=[(v+340282366920938463463374607431768211456*z)%18446744073709551616,(v+340282366920938463463374607431768211456*z)/18446744073709551616%18446744073709551616,(v+340282366920938463463374607431768211456*z)/340282366920938463463374607431768211456%18446744073709551616]
    congr 1
    · omega
    · congr 1
      · omega
      · congr 1; omega
theorem QaB (v : Int):(nw3 v).length=3:=rfl
theorem Qnt (m0_ m1_ m2_ n0_ n1_ n2_ v:Int) (hm0_:isW m0_) (hm1_:isW m1_) (hm2_:isW m2_) (hn0_:isW n0_) (hn1_:isW n1_) (hn2_:isW n2_) (hv:(m0_+18446744073709551616*m1_+340282366920938463463374607431768211456*m2_)+(n0_+18446744073709551616*n1_+340282366920938463463374607431768211456*n2_)=v) (hlt:v<6277101735386680763835789423207666416102355444464034512896) (w:World) :
    Calls Tryd.prog 88 #[.agg (ints .u64 [m0_,m1_,m2_]),.agg (ints .u64 [n0_,n1_,n2_])] w (Ret w (.agg (ints .u64 (nw3 v)))):=by
  refine enter 25 [(0,.agg (ints .u64 ([m0_,m1_,m2_]))),(1,.agg (ints .u64 ([n0_,n1_,n2_])))] Tryd.func88 rfl rfl kj rfl <| sgC fun K1 hK1=>Qaq (ints .u64 ([m0_,m1_,m2_])) 139 2 rfl kj kj fun g2 W1 l2 e1 r2_1=>?_
  have x1:=Ext.tr (Rely.Ext.refl w) e1
  have b2:=qT (Rely.Ext.refl w).size l2
  refine Qaq (ints .u64 ([n0_,n1_,n2_])) 139 3 rfl kj kj fun g3 W2 l3 e2 r3_2=>?_
  have x2:=Ext.tr x1 e2
  have b3:=qT x1.size l3
  refine Qaq (ints .u64 ([0,0,0])) 139 4 rfl kj kj fun g4 W3 l4 e3 r4_3=>sgN hK1 <| sgB kj <| wp_seq_k fun K6 hK6=>sgB kj <| wp_block <| wp_loop_rounds 4 ?_
  show Code.wp _ _ (Exit.then (Code.rounds _ _ _ 3) _) _ _
  refine sgB kj <| sgT kj <| wp_seq_k fun K10 hK10=>wp_block <| sgB kj <| Qb2 (fun W=>True) [⟨none,[(6,none)]⟩,⟨none,[(6,none)]⟩,⟨none,[(2,none),(12,some 1)]⟩,⟨none,[(13,some 2)]⟩,⟨none,[(6,none)]⟩,⟨none,[(3,none),(15,some 4)]⟩,⟨none,[(16,some 5)]⟩,⟨none,[(5,none)]⟩,⟨none,[(14,some 3),(17,some 6),(18,some 7)]⟩,⟨none,[(19,some 8)]⟩,⟨none,[(10,some 9)]⟩,⟨none,[(10,some 9)]⟩,⟨none,[(2,none),(11,some 0)]⟩,⟨none,[(22,some 12),(20,some 10)]⟩,⟨none,[(21,some 11)]⟩] [] [11,14] kj kj kj (fun W hR=>trivial) fun F hF=>QaY (.int .i64 0) kj kj rfl (fun W=>by kernel_rfl) <| QaY (.int .i64 0) kj kj rfl (fun W=>by kernel_rfl) <| QaY (.pointer (some ⟨g2,0,none⟩)) kj kj rfl (fun W=>by kernel_rfl) ?_
  have r2_2:=(Qaa r2_1 e2)
  have r2_3:=(Qaa r2_2 e3)
  refine Qch (.int .u64 m0_) kj kj kj rfl (fun W hR=>(Qah 87 _ g2 0 139 _ (.int .u64 m0_) _ (Qaa (Qaa r2_3 (Qak _)) hR) rfl kj kj kj)) <| QaY (.int .i64 0) kj kj rfl (fun W=>by kernel_rfl) <| QaY (.pointer (some ⟨g3,0,none⟩)) kj kj rfl (fun W=>by kernel_rfl) ?_
  have r3_3:=(Qaa r3_2 e3)
  refine Qch (.int .u64 n0_) kj kj kj rfl (fun W hR=>(Qah 87 _ g3 0 139 _ (.int .u64 n0_) _ (Qaa (Qaa r3_3 (Qak _)) hR) rfl kj kj kj)) <| QaY (.int .u64 0) kj kj rfl (fun W=>by kernel_rfl) ?_
  obtain ⟨s1,d1,hs1,hd1,he1,ra1⟩:=QcU (m0_) (n0_) (0) hm0_ hn0_ ⟨by decide,by decide⟩
  refine QaY (.tuple #[.int .u64 (s1),.int .u64 (d1)]) kj kj rfl (fun W=>(Qbs (f:=91) (args:=#[.int .u64 m0_,.int .u64 n0_,.int .u64 0]) _ _ _ rfl kj kj (ra1 _))) <| QaY (.tuple #[.int .u64 (s1),.int .u64 (d1)]) kj kj rfl (fun W=>by kernel_rfl) <| QaY (.int .u64 (s1)) kj kj rfl (fun W=>by kernel_rfl) <| QaY (.int .u64 (d1)) kj kj rfl (fun W=>by kernel_rfl) <| QaY (.pointer (some ⟨g2,0,none⟩)) kj kj rfl (fun W=>by kernel_rfl) <| Qcf rfl <| QaY (.int .u64 (d1)) kj kj rfl (fun W=>by kernel_rfl) <| QeS (hF _ kj fun W4 e4=>?_)
  simp only [List.nil_append,List.cons_append,fins,up]
  clear hF
  have r2_4:=(Qaa r2_3 e4)
  refine QbO _ g2 _ (ints .u64 ([(s1),m1_,m2_])) 139 r2_4 rfl (Qa1 87 _ _ g2 0 139 _ _ r2_4 rfl kj kj kj (show 0<3 by decide)) (fun W hp=>trivial) fun W5 p5 r2_5=>Qd8 <| hK10 _ _ <| sgA kj ?_
  show Code.rounds _ _ _ 3 _ _
  show Code.wp _ _ (Exit.then (Code.rounds _ _ _ 2) _) _ _
  refine sgB kj <| sgT kj <| wp_seq_k fun K14 hK14=>wp_block <| sgB kj <| Qb2 (fun W=>True) [⟨none,[(6,none)]⟩,⟨none,[(6,none)]⟩,⟨none,[(2,none),(12,some 1)]⟩,⟨none,[(13,some 2)]⟩,⟨none,[(6,none)]⟩,⟨none,[(3,none),(15,some 4)]⟩,⟨none,[(16,some 5)]⟩,⟨none,[(5,none)]⟩,⟨none,[(14,some 3),(17,some 6),(18,some 7)]⟩,⟨none,[(19,some 8)]⟩,⟨none,[(10,some 9)]⟩,⟨none,[(10,some 9)]⟩,⟨none,[(2,none),(11,some 0)]⟩,⟨none,[(22,some 12),(20,some 10)]⟩,⟨none,[(21,some 11)]⟩] [] [11,14] kj kj kj (fun W hR=>trivial) fun F hF=>QaY (.int .i64 1) kj kj rfl (fun W=>by kernel_rfl) <| QaY (.int .i64 1) kj kj rfl (fun W=>by kernel_rfl) <| QaY (.pointer (some ⟨g2,1,none⟩)) kj kj rfl (fun W=>by kernel_rfl) <| Qch (.int .u64 m1_) kj kj kj rfl (fun W hR=>(Qah 87 _ g2 1 139 _ (.int .u64 m1_) _ (Qaa (Qaa r2_5 (Qak _)) hR) rfl kj kj kj)) ?_
  refine QaY (.int .i64 1) kj kj rfl (fun W=>by kernel_rfl) <| QaY (.pointer (some ⟨g3,1,none⟩)) kj kj rfl (fun W=>by kernel_rfl) ?_
  have r3_5:=(Puts.row p5 (Qaa r3_3 e4) (Qa2 r2_1 l3))
  refine Qch (.int .u64 n1_) kj kj kj rfl (fun W hR=>(Qah 87 _ g3 1 139 _ (.int .u64 n1_) _ (Qaa (Qaa r3_5 (Qak _)) hR) rfl kj kj kj)) <| QaY (.int .u64 (d1)) kj kj rfl (fun W=>by kernel_rfl) ?_
  obtain ⟨s2,d2,hs2,hd2,he2,ra2⟩:=QcU (m1_) (n1_) (d1) hm1_ hn1_ hd1
  refine QaY (.tuple #[.int .u64 (s2),.int .u64 (d2)]) kj kj rfl (fun W=>(Qbs (f:=91) (args:=#[.int .u64 m1_,.int .u64 n1_,.int .u64 (d1)]) _ _ _ rfl kj kj (ra2 _))) <| QaY (.tuple #[.int .u64 (s2),.int .u64 (d2)]) kj kj rfl (fun W=>by kernel_rfl) <| QaY (.int .u64 (s2)) kj kj rfl (fun W=>by kernel_rfl) <| QaY (.int .u64 (d2)) kj kj rfl (fun W=>by kernel_rfl) <| QaY (.pointer (some ⟨g2,1,none⟩)) kj kj rfl (fun W=>by kernel_rfl) <| Qcf rfl <| QaY (.int .u64 (d2)) kj kj rfl (fun W=>by kernel_rfl) <| QeS (hF _ kj fun W6 e6=>?_)
  simp only [List.nil_append,List.cons_append,fins,up]
  clear hF
  have r2_6:=(Qaa r2_5 e6)
  refine QbO _ g2 _ (ints .u64 ([(s1),(s2),m2_])) 139 r2_6 rfl (Qa1 87 _ _ g2 1 139 _ _ r2_6 rfl kj kj kj (show 1<3 by decide)) (fun W hp=>trivial) fun W7 p7 r2_7=>Qd8 <| hK14 _ _ <| sgA kj ?_
  show Code.rounds _ _ _ 2 _ _
  show Code.wp _ _ (Exit.then (Code.rounds _ _ _ 1) _) _ _
  refine sgB kj <| sgT kj <| wp_seq_k fun K18 hK18=>wp_block <| sgB kj <| Qb2 (fun W=>True) [⟨none,[(6,none)]⟩,⟨none,[(6,none)]⟩,⟨none,[(2,none),(12,some 1)]⟩,⟨none,[(13,some 2)]⟩,⟨none,[(6,none)]⟩,⟨none,[(3,none),(15,some 4)]⟩,⟨none,[(16,some 5)]⟩,⟨none,[(5,none)]⟩,⟨none,[(14,some 3),(17,some 6),(18,some 7)]⟩,⟨none,[(19,some 8)]⟩,⟨none,[(10,some 9)]⟩,⟨none,[(10,some 9)]⟩,⟨none,[(2,none),(11,some 0)]⟩,⟨none,[(22,some 12),(20,some 10)]⟩,⟨none,[(21,some 11)]⟩] [] [11,14] kj kj kj (fun W hR=>trivial) fun F hF=>QaY (.int .i64 2) kj kj rfl (fun W=>by kernel_rfl) <| QaY (.int .i64 2) kj kj rfl (fun W=>by kernel_rfl) <| QaY (.pointer (some ⟨g2,2,none⟩)) kj kj rfl (fun W=>by kernel_rfl) <| Qch (.int .u64 m2_) kj kj kj rfl (fun W hR=>(Qah 87 _ g2 2 139 _ (.int .u64 m2_) _ (Qaa (Qaa r2_7 (Qak _)) hR) rfl kj kj kj)) ?_
  refine QaY (.int .i64 2) kj kj rfl (fun W=>by kernel_rfl) <| QaY (.pointer (some ⟨g3,2,none⟩)) kj kj rfl (fun W=>by kernel_rfl) <| Qch (.int .u64 n2_) kj kj kj rfl (fun W hR=>(Qah 87 _ g3 2 139 _ (.int .u64 n2_) _ (Qaa (Qaa (Puts.row p7 (Qaa r3_5 e6) (Qa2 r2_1 l3)) (Qak _)) hR) rfl kj kj kj)) <| QaY (.int .u64 (d2)) kj kj rfl (fun W=>by kernel_rfl) ?_
  obtain ⟨s3,d3,hs3,hd3,he3,ra3⟩:=QcU (m2_) (n2_) (d2) hm2_ hn2_ hd2
  refine QaY (.tuple #[.int .u64 (s3),.int .u64 (d3)]) kj kj rfl (fun W=>(Qbs (f:=91) (args:=#[.int .u64 m2_,.int .u64 n2_,.int .u64 (d2)]) _ _ _ rfl kj kj (ra3 _))) <| QaY (.tuple #[.int .u64 (s3),.int .u64 (d3)]) kj kj rfl (fun W=>by kernel_rfl) <| QaY (.int .u64 (s3)) kj kj rfl (fun W=>by kernel_rfl) <| QaY (.int .u64 (d3)) kj kj rfl (fun W=>by kernel_rfl) <| QaY (.pointer (some ⟨g2,2,none⟩)) kj kj rfl (fun W=>by kernel_rfl) <| Qcf rfl <| QaY (.int .u64 (d3)) kj kj rfl (fun W=>by kernel_rfl) <| QeS (hF _ kj fun W8 e8=>?_)
  simp only [List.nil_append,List.cons_append,fins,up]
  clear hF
  have r2_8:=(Qaa r2_7 e8)
  refine QbO _ g2 _ (ints .u64 ([(s1),(s2),(s3)])) 139 r2_8 rfl (Qa1 87 _ _ g2 2 139 _ _ r2_8 rfl kj kj kj (show 2<3 by decide)) (fun W hp=>trivial) fun W9 p9 r2_9=>Qd8 <| hK18 _ _ <| sgA kj ?_
  show Code.rounds _ _ _ 1 _ _
  show Code.wp _ _ (Exit.then (Code.rounds _ _ _ 0) _) _ _
  refine sgB kj <| wp_seq_k fun K21 hK21=>cond_false kj <| wp_exit <| hK6 _ _ <| sgC fun K22 hK22=>Qab (.agg (ints .u64 ([(s1),(s2),(s3)]))) 24 rfl kj (Qap 139 _ g2 139 _ _ r2_9 rfl kj kj (isz (n:=3) kj kj)) ?_
  have r4_9:=(Puts.row p9 (Qaa (Puts.row p7 (Qaa (Puts.row p5 (Qaa r4_3 e4) (Qa2 r2_2 l4)) e6) (Qa2 r2_2 l4)) e8) (Qa2 r2_2 l4))
  refine Qal g4 _ (ints .u64 ([(s1),(s2),(s3)])) 139 r4_9 rfl kj (Qan 139 _ _ g4 139 _ _ r4_9 rfl kj kj (isz (n:=3) kj kj) (eqsz (n:=3) kj kj) (Qav _ _)) fun W10 p10 r4_10=>sgN hK22 <| wp_ret ?_
  repeat (first | with_reducible refine goR1 ?_ | with_reducible refine goR2 ?_)
  exact (show bodyPost _ _ _ .ret _ _ from ret1 (.agg (ints .u64 ([(s1),(s2),(s3)]))) rfl (QaU g4 139 _ r4_10 kj kj (isz (n:=3) kj kj)) ⟨by rw [Qlh (v:=v) hs1 hs2 hs3 (by obtain ⟨hs10,hs11⟩:=hs1; obtain ⟨hs20,hs21⟩:=hs2; obtain ⟨hs30,hs31⟩:=hs3; omega)],(Puts.ext p10 (Puts.ext p9 (Ext.tr (Puts.ext p7 (Ext.tr (Puts.ext p5 (Ext.tr (Ext.tr x2 e3) e4) b2) e6) b2) e8) b2) (qT x2.size l4))⟩)
theorem Qhv (a b:Int) (ha:0≤a) (hb:0≤b) (ha2:a<6277101735386680763835789423207666416102355444464034512896) (hb2:b<6277101735386680763835789423207666416102355444464034512896) (hlt:a+b<6277101735386680763835789423207666416102355444464034512896) (w:World) :
    Calls Tryd.prog 88 #[.agg (ints .u64 (nw3 a)),.agg (ints .u64 (nw3 b))] w (Ret w (.agg (ints .u64 (nw3 (a+b))))) :=
  Qnt _ _ _ _ _ _ (a+b) (QcE _) (QcE _) (QcE _) (QcE _) (QcE _) (QcE _) (by rw [Qgi a ha ha2,Qgi b hb hb2]) hlt w
theorem QiZ (b : List Int) (v:Value) (B:Nat) (w:World) (hb:RdK .u8 B b v w) (hl:b.length≤24) (hbb:Qaj b):Calls Tryd.prog 86 #[v] w (Ret w (.agg (ints .u64 (nw3 (lev b))))):=by
 obtain ⟨a_b,c_b,rfl,-⟩:=id hb
 refine enter 27 [(0,.slice a_b b.length c_b)] Tryd.func86 rfl rfl kj rfl <| sgC fun K1 hK1=>Qaq (ints .u64 ([0,0,0])) 139 2 rfl kj kj fun g2 W1 l2 e1 r2_1=>?_
 have x1:=Ext.tr (Rely.Ext.refl w) e1
 refine sgN hK1 <| sgC fun K3 hK3=>Qaq (ints .u64 ([0,0,0])) 139 3 rfl kj kj fun g4 W2 l4 e2 r4_2=>sgN hK3 <| wp_seq_k fun K5 hK5=>sgB kj <| wp_block ?_
 have r4_2_7:W2.heap[g4]? = some (.cells (ints .u64 (nw3 (lev (b.take 0)))) 139):=QaF r4_2 (by rw [List.take_zero]; rfl)
 refine Qa5 (fun (s1:Nat)=>[(2,.pointer (some ⟨g2,0,none⟩)),(3,.pointer (some ⟨g4,0,none⟩)),(6,.slice a_b b.length c_b),(7,.int .i64 ((b.length:Nat):Int)),(8,.int .i64 ((s1:Nat):Int))]) (fun (s1:Nat) W=>(s1≤b.length)∧(W.heap[g4]? = some (.cells (ints .u64 (nw3 (lev (b.take s1)))) 139))∧(Qas [g4] W2 W)∧(Ext w W)) (fun (s1:Nat)=>b.length-s1) 0 ⟨kj,kj,kj,kj,kj,trivial⟩ ⟨(Nat.zero_le _),r4_2_7,(Qas.refl [g4] W2),(Ext.tr x1 e2)⟩ fun s1 X1 V1 hI1=>?_
 obtain ⟨i,hs1⟩:∃ z,z=s1:=⟨_,rfl⟩
 subst hs1
 obtain ⟨hi,q4_1,kk1,xx1⟩:=hI1
 replace hi:i≤b.length:=hi
 replace q4_1:V1.heap[g4]? = some (.cells (ints .u64 (nw3 (lev (b.take i)))) 139):=q4_1
 replace kk1:Qas [g4] W2 V1:=kk1
 replace xx1:Ext w V1:=xx1
 have q3:=kk1
 refine sgB kj <| wp_seq_k fun K9 hK9=>Qay (t:=decide (((i:Nat):Int)<((b.length:Nat):Int))) kj (fun c10=>?_) (fun c10=>?_)
 ·skip
  have hlt9:i<b.length:=by have:=of_decide_eq_true c10; omega
  obtain ⟨grb11,orb11,harb11,-,hlrb11,hcrb11⟩:=QbF (RdK.ext hb xx1) (by omega)
  have hbi:=Qa8 hbb i
  have hn0:=Qbu (Qa9 hbb i)
  have hn1:=Qed (Qa9 hbb i)
  rw [List.length_take,Nat.min_eq_left (by omega)] at hn1
  obtain ⟨hst1,hst2⟩:=Qix (lev (b.take i)) (nth b i) i (by omega) hn0 hn1 hbi
  rw [←Qbo b i hlt9] at hst1 hst2
  refine wp_skip <| hK9 _ _ <| wp_seq_k fun K12 hK12=>wp_block <| sgC fun K13 hK13=>sg 1 kj <| Qab (.pointer (some ⟨grb11,orb11+i,none⟩)) 11 rfl kj (QaN 33 _ _ .i64 i grb11 orb11 b.length c_b 5 a_b _ harb11 rfl rfl kj kj kj kj (Nat.lt_of_lt_of_eq (show i<(b).length by omega) (rfl:(b).length=(b).length).symm)) <| Qab (.int .u8 (nth (b) (i))) 12 rfl kj (Qaz 5 _ _ (.int .u8 (nth (b) (i))) (hcrb11 i (Nat.lt_of_lt_of_eq (show i<(b).length by omega) (rfl:(b).length=(b).length).symm)) rfl kj kj) <| sg 2 kj <| sgN hK13 ?_
  refine QaD 10 [⟨none,[(4,none)]⟩,⟨none,[(13,some 0)]⟩,⟨none,[(3,none),(14,some 1)]⟩,⟨none,[(15,some 2)]⟩,⟨none,[(5,none)]⟩,⟨none,[(17,some 4)]⟩,⟨none,[(4,none)]⟩,⟨none,[(19,some 6)]⟩,⟨none,[(20,some 7)]⟩,⟨none,[(18,some 5),(21,some 8)]⟩] kj kj fun F hF=>Qar (Qag _) (.int .i64 ((i:Nat):Int)) kj kj (fun W=>by kernel_rfl) <| Qar (Qag _) (.int .i64 ((i/8:Nat):Int)) kj kj (fun W=>(Qaf (u:=.int .i64 (IntKind.i64.wrap (Int.tdiv (((i:Nat):Int)) (8)))) kj (congrArg (Value.int .i64) (Qd5 _ 8 (by omega))))) <| Qar (Qag _) (.pointer (some ⟨g4,i/8,none⟩)) kj kj (fun W=>(QaE _ _ _ .i64 (i/8) _ 3 87 rfl kj kj kj kj (by omega))) <| QaR (Qag _) (.int .u64 (nth (nw3 (lev (b.take i))) (i/8))) kj kj (fun W hR=>(Qah 87 _ g4 (i/8) 139 _ (.int .u64 (nth (nw3 (lev (b.take i))) (i/8))) _ (Qaa (Qaa q4_1 (Qak _)) hR) rfl kj (QaM _ _ _ (Nat.lt_of_lt_of_eq (by omega) (QaB _).symm)) kj)) <| Qar (Qag _) (.int .u8 (nth (b) (i))) kj kj (fun W=>by kernel_rfl) <| Qar (Qag _) (.int .u64 (nth b i)) kj kj (fun W=>(Qaf (u:=.int .u64 (IntKind.u64.wrap (nth (b) (i)))) kj (congrArg (Value.int .u64) (QkY _ ⟨hbi.1,by omega⟩)))) <| Qar (Qag _) (.int .i64 ((i:Nat):Int)) kj kj (fun W=>by kernel_rfl) <| Qar (Qag _) (.int .i64 ((i%8:Nat):Int)) kj kj (fun W=>(Qaf (u:=.int .i64 (Int.tmod (((i:Nat):Int)) (8))) kj (congrArg (Value.int .i64) (Qct _ 8)))) <| Qar (Qag _) (.int .i64 ((8*(i%8):Nat):Int)) kj kj (fun W=>(Qaf (u:=.int .i64 (IntKind.i64.wrap (8*((i%8:Nat):Int)))) kj (congrArg (Value.int .i64) (i64n _ _ (by omega) (by omega))))) ?_
  refine Qar (Qag _) (.int .u64 (nth b i*p256 (i%8))) kj kj (fun W=>(Qbp .shl _ _ _ _ .u64 .i64 _ _ _ rfl kj kj (Qf1 _ _ _ _ _ _ (by omega) (Qnq _ (i%8) _ rfl hbi (by omega))))) <| QbN (hF _ fun W4 e4=>?_)
  simp only [List.nil_append,List.cons_append,List.take_succ_cons,List.take_zero,List.drop_succ_cons,List.drop_zero,finE,up]
  clear hF
  have x4:=Ext.tr xx1 e4
  refine Qab (.int .u64 (nth (nw3 (lev (b.take (i+1)))) (i/8))) 23 rfl kj (Qaf (u:=.int .u64 (bits .or .u64 ((nth (nw3 (lev (b.take i))) (i/8))) ((nth b i*p256 (i%8))))) kj (congrArg (Value.int .u64) hst1)) <| Qab (.pointer (some ⟨g4,i/8,none⟩)) 24 rfl kj (QaE _ _ _ .i64 (i/8) _ 3 87 rfl kj kj kj kj (by omega)) ?_
  have r4_4:=(Qaa q4_1 e4)
  refine Qal g4 _ (ints .u64 ((nw3 (lev (b.take i))).set (i/8) (nth (nw3 (lev (b.take (i+1)))) (i/8)))) 139 r4_4 rfl kj (Qa1 87 _ _ g4 (i/8) 139 _ _ r4_4 rfl kj kj kj (Nat.lt_of_lt_of_eq (by omega) (QaB _).symm)) fun W5 p5 r4_5=>Qao <| hK12 _ _ <| Qai <| Qab (.int .i64 ((i+1:Nat):Int)) 25 rfl kj (Qaf (u:=.int .i64 (IntKind.i64.wrap (((i:Nat):Int)+1))) kj (congrArg (Value.int .i64) (i64n _ _ (by omega) (by omega)))) <| sg 1 kj <| Qao ?_
  repeat (first | with_reducible refine goX1 ?_ | with_reducible refine goX2 ?_ | with_reducible refine goX3 ?_)
  exact Qax (i+1) ⟨kj,kj,kj,kj,kj,trivial⟩ ⟨(show i+1≤b.length by omega),(QaF r4_5 hst2),(Qas.puts (Qas.step q3 e4) p5 (.inl (by simp))),(Puts.ext p5 x4 (qT x1.size l4))⟩ (by show b.length-(i+1)<b.length-i; omega)
 ·skip
  have heq9:i=b.length:=by have:=of_decide_eq_false c10; omega
  subst heq9
  have r4_3_14:V1.heap[g4]? = some (.cells (ints .u64 (nw3 (lev b))) 139):=QaF q4_1 (by rw [List.take_length])
  refine wp_exit <| hK5 _ _ <| sgC fun K15 hK15=>Qab (.agg (ints .u64 (nw3 (lev b)))) 26 rfl kj (Qap 139 _ g4 139 _ _ r4_3_14 rfl kj kj (isz (n:=3) kj ((Qac _ _).trans (QaB _)))) ?_
  have r2_3:=(Qas.row q3 (Qaa r2_1 e2) (QaC (Qae r2_1 l4) QaS))
  refine Qal g2 _ (ints .u64 (nw3 (lev b))) 139 r2_3 rfl kj (Qan 139 _ _ g2 139 _ _ r2_3 rfl kj kj (isz (n:=3) kj ((Qac _ _).trans (QaB _))) (eqsz (n:=3) kj ((Qac _ _).trans (QaB _))) (Qav _ _)) fun W4 p4 r2_4=>?_
  have x4:=Puts.ext p4 xx1 (qT (Rely.Ext.refl w).size l2)
  refine sgN hK15 <| wp_ret ?_
  repeat (first | with_reducible refine goR1 ?_ | with_reducible refine goR2 ?_)
  exact (show bodyPost _ _ _ .ret _ _ from ret1 (.agg (ints .u64 (nw3 (lev b)))) rfl (QaU g2 139 _ r2_4 kj kj (isz (n:=3) kj ((Qac _ _).trans (QaB _)))) ⟨rfl,x4⟩)
end Go.Proofs.YtophlgnnjjkkiaaDoor.Ae
end
section
namespace Go.Proofs.YtophlgnnjjkkiaaDoor.Ae
open Go Go.RowKit
open Rely Auto Own Sha
open Sha Cha
theorem mulR {x y hi lo:Int} {w:World} (h:Calls Tryd.prog 93 #[.int .u64 x,.int .u64 y] w (fun e w'=>e=.returned (.tuple #[.int .u64 hi,.int .u64 lo])∧w'=w)):Calls Tryd.prog 93 #[.int .u64 x,.int .u64 y] w (Ret w (.tuple #[.int .u64 hi,.int .u64 lo])) :=
  h.mono fun e w' h=>⟨h.1,h.2▸Rely.Ext.refl _⟩
set_option maxRecDepth 100000 in
theorem Qlk (g : Nat) (q0_ q1_ q2_ q3_ q4_ q5_ xx yy p:Int) (hq0_:isW q0_) (hq1_:isW q1_) (hq2_:isW q2_) (hq3_:isW q3_) (hq4_:isW q4_) (hq5_:isW q5_) (hxx:isW xx) (hyy:isW yy) (hp:xx*yy=p) (hlt:(q0_+18446744073709551616*q1_+340282366920938463463374607431768211456*q2_+6277101735386680763835789423207666416102355444464034512896*q3_+115792089237316195423570985008687907853269984665640564039457584007913129639936*q4_+2135987035920910082395021706169552114602704522356652769947041607822219725780640550022962086936576*q5_)+1*p<39402006196394479212279040100143613805079739270465446667948293404245721771497210611414266254884915640806627990306816) (w:World) (hg:w.heap[g]? = some (.cells (ints .u64 [q0_,q1_,q2_,q3_,q4_,q5_]) 151)) :
    Calls Tryd.prog 92 #[.int .i64 0,.int .u64 xx,.int .u64 yy,.pointer (some ⟨g,0,none⟩)] w (fun e W=>e=.returned (.tuple #[])∧∃ r0 r1 r2 r3 r4 r5:Int,isW r0∧isW r1∧isW r2∧isW r3∧isW r4∧isW r5∧(r0+18446744073709551616*r1+340282366920938463463374607431768211456*r2+6277101735386680763835789423207666416102355444464034512896*r3+115792089237316195423570985008687907853269984665640564039457584007913129639936*r4+2135987035920910082395021706169552114602704522356652769947041607822219725780640550022962086936576*r5)=(q0_+18446744073709551616*q1_+340282366920938463463374607431768211456*q2_+6277101735386680763835789423207666416102355444464034512896*q3_+115792089237316195423570985008687907853269984665640564039457584007913129639936*q4_+2135987035920910082395021706169552114602704522356652769947041607822219725780640550022962086936576*q5_)+1*p∧ExtB g w W∧W.heap[g]? = some (.cells (ints .u64 [r0,r1,r2,r3,r4,r5]) 151)):=by
  refine enter 44 [(0,.int .i64 0),(1,.int .u64 (xx)),(2,.int .u64 (yy)),(3,.pointer (some ⟨g,0,none⟩))] Tryd.func92 rfl rfl kj rfl <| sgC fun K2 hK2=>sg 2 kj ?_
  obtain ⟨hi_,lo_,hhi,hlo,hml,cml⟩:=Qj7 xx yy hxx hyy
  rw [hp] at hml
  refine Qa6 (.tuple #[.int .u64 (hi_),.int .u64 (lo_)]) 93 #[.int .u64 (xx),.int .u64 (yy)] 14 rfl kj kj ((mulR (cml _))) fun W1 e1=>sg 5 kj <| sgN hK2 <| sgB kj <| sgC fun K4 hK4=>sg 3 kj ?_
  have r1_1:=(Qaa hg e1)
  refine Qab (.int .u64 q0_) 21 rfl kj (Qah 87 _ g 0 151 _ (.int .u64 q0_) _ r1_1 rfl kj kj kj) <| sg 1 kj ?_
  obtain ⟨s1,d1,hs1,hd1,he1,ra1⟩:=QcU (q0_) (lo_) (0) hq0_ hlo ⟨by decide,by decide⟩
  refine Qab (.tuple #[.int .u64 (s1),.int .u64 (d1)]) 23 rfl kj (Qbs (f:=91) (args:=#[.int .u64 q0_,.int .u64 (lo_),.int .u64 0]) _ _ _ rfl kj kj (ra1 _)) <| sg 4 kj <| Qal g _ (ints .u64 ([(s1),q1_,q2_,q3_,q4_,q5_])) 151 r1_1 rfl kj (Qa1 87 _ _ g 0 151 _ _ r1_1 rfl kj kj kj (show 0<6 by decide)) fun W2 p2 r1_2=>sg 1 kj <| sgN hK4 <| sgB kj <| wp_block <| wp_loop_rounds 6 ?_
  show Code.wp _ _ (Exit.then (Code.rounds _ _ _ 5) _) _ _
  refine wp_seq_k fun K6 hK6=>sgB kj <| cond_true kj <| wp_skip <| hK6 _ _ <| wp_seq_k fun K8 hK8=>wp_block <| sgC fun K9 hK9=>sg 3 kj <| Qab (.int .u64 q1_) 37 rfl kj (Qah 87 _ g 1 151 _ (.int .u64 q1_) _ r1_2 rfl kj kj kj) ?_
  refine sg 2 kj ?_
  obtain ⟨s2,d2,hs2,hd2,he2,ra2⟩:=QcU (q1_) (hi_) (d1) hq1_ hhi hd1
  refine Qab (.tuple #[.int .u64 (s2),.int .u64 (d2)]) 40 rfl kj (Qbs (f:=91) (args:=#[.int .u64 q1_,.int .u64 (hi_),.int .u64 (d1)]) _ _ _ rfl kj kj (ra2 _)) <| sg 4 kj <| Qal g _ (ints .u64 ([(s1),(s2),q2_,q3_,q4_,q5_])) 151 r1_2 rfl kj (Qa1 87 _ _ g 1 151 _ _ r1_2 rfl kj kj kj (show 1<6 by decide)) fun W3 p3 r1_3=>sg 1 kj <| sgN hK9 <| sgA kj <| hK8 _ _ <| sgA kj ?_
  show Code.rounds _ _ _ 5 _ _
  show Code.wp _ _ (Exit.then (Code.rounds _ _ _ 4) _) _ _
  refine wp_seq_k fun K10 hK10=>sgB kj <| cond_true kj <| wp_skip <| hK10 _ _ <| wp_seq_k fun K12 hK12=>wp_block <| sgC fun K13 hK13=>sg 3 kj <| Qab (.int .u64 q2_) 37 rfl kj (Qah 87 _ g 2 151 _ (.int .u64 q2_) _ r1_3 rfl kj kj kj) ?_
  refine sg 2 kj ?_
  obtain ⟨s3,d3,hs3,hd3,he3,ra3⟩:=QcU (q2_) (0) (d2) hq2_ Qb5 hd2
  refine Qab (.tuple #[.int .u64 (s3),.int .u64 (d3)]) 40 rfl kj (Qbs (f:=91) (args:=#[.int .u64 q2_,.int .u64 0,.int .u64 (d2)]) _ _ _ rfl kj kj (ra3 _)) <| sg 4 kj <| Qal g _ (ints .u64 ([(s1),(s2),(s3),q3_,q4_,q5_])) 151 r1_3 rfl kj (Qa1 87 _ _ g 2 151 _ _ r1_3 rfl kj kj kj (show 2<6 by decide)) fun W4 p4 r1_4=>sg 1 kj <| sgN hK13 <| sgA kj <| hK12 _ _ <| sgA kj ?_
  show Code.rounds _ _ _ 4 _ _
  show Code.wp _ _ (Exit.then (Code.rounds _ _ _ 3) _) _ _
  refine wp_seq_k fun K14 hK14=>sgB kj <| cond_true kj <| wp_skip <| hK14 _ _ <| wp_seq_k fun K16 hK16=>wp_block <| sgC fun K17 hK17=>sg 3 kj <| Qab (.int .u64 q3_) 37 rfl kj (Qah 87 _ g 3 151 _ (.int .u64 q3_) _ r1_4 rfl kj kj kj) ?_
  refine sg 2 kj ?_
  obtain ⟨s4,d4,hs4,hd4,he4,ra4⟩:=QcU (q3_) (0) (d3) hq3_ Qb5 hd3
  refine Qab (.tuple #[.int .u64 (s4),.int .u64 (d4)]) 40 rfl kj (Qbs (f:=91) (args:=#[.int .u64 q3_,.int .u64 0,.int .u64 (d3)]) _ _ _ rfl kj kj (ra4 _)) <| sg 4 kj <| Qal g _ (ints .u64 ([(s1),(s2),(s3),(s4),q4_,q5_])) 151 r1_4 rfl kj (Qa1 87 _ _ g 3 151 _ _ r1_4 rfl kj kj kj (show 3<6 by decide)) fun W5 p5 r1_5=>sg 1 kj <| sgN hK17 <| sgA kj <| hK16 _ _ <| sgA kj ?_
  show Code.rounds _ _ _ 3 _ _
  show Code.wp _ _ (Exit.then (Code.rounds _ _ _ 2) _) _ _
  refine wp_seq_k fun K18 hK18=>sgB kj <| cond_true kj <| wp_skip <| hK18 _ _ <| wp_seq_k fun K20 hK20=>wp_block <| sgC fun K21 hK21=>sg 3 kj <| Qab (.int .u64 q4_) 37 rfl kj (Qah 87 _ g 4 151 _ (.int .u64 q4_) _ r1_5 rfl kj kj kj) ?_
  refine sg 2 kj ?_
  obtain ⟨s5,d5,hs5,hd5,he5,ra5⟩:=QcU (q4_) (0) (d4) hq4_ Qb5 hd4
  refine Qab (.tuple #[.int .u64 (s5),.int .u64 (d5)]) 40 rfl kj (Qbs (f:=91) (args:=#[.int .u64 q4_,.int .u64 0,.int .u64 (d4)]) _ _ _ rfl kj kj (ra5 _)) <| sg 4 kj <| Qal g _ (ints .u64 ([(s1),(s2),(s3),(s4),(s5),q5_])) 151 r1_5 rfl kj (Qa1 87 _ _ g 4 151 _ _ r1_5 rfl kj kj kj (show 4<6 by decide)) fun W6 p6 r1_6=>sg 1 kj <| sgN hK21 <| sgA kj <| hK20 _ _ <| sgA kj ?_
  show Code.rounds _ _ _ 2 _ _
  show Code.wp _ _ (Exit.then (Code.rounds _ _ _ 1) _) _ _
  refine wp_seq_k fun K22 hK22=>sgB kj <| cond_true kj <| wp_skip <| hK22 _ _ <| wp_seq_k fun K24 hK24=>wp_block <| sgC fun K25 hK25=>sg 3 kj <| Qab (.int .u64 q5_) 37 rfl kj (Qah 87 _ g 5 151 _ (.int .u64 q5_) _ r1_6 rfl kj kj kj) ?_
  refine sg 2 kj ?_
  obtain ⟨s6,d6,hs6,hd6,he6,ra6⟩:=QcU (q5_) (0) (d5) hq5_ Qb5 hd5
  refine Qab (.tuple #[.int .u64 (s6),.int .u64 (d6)]) 40 rfl kj (Qbs (f:=91) (args:=#[.int .u64 q5_,.int .u64 0,.int .u64 (d5)]) _ _ _ rfl kj kj (ra6 _)) <| sg 4 kj <| Qal g _ (ints .u64 ([(s1),(s2),(s3),(s4),(s5),(s6)])) 151 r1_6 rfl kj (Qa1 87 _ _ g 5 151 _ _ r1_6 rfl kj kj kj (show 5<6 by decide)) fun W7 p7 r1_7=>sg 1 kj <| sgN hK25 <| sgA kj <| hK24 _ _ <| sgA kj ?_
  show Code.rounds _ _ _ 1 _ _
  show Code.wp _ _ (Exit.then (Code.rounds _ _ _ 0) _) _ _
  refine wp_seq_k fun K26 hK26=>sgB kj <| cond_false kj <| wp_exit ?_
  repeat (first | with_reducible refine goX1 ?_ | with_reducible refine goX2 ?_ | with_reducible refine goX3 ?_)
  exact (show bodyPost _ _ _ .normal _ _ from end0 rfl ⟨rfl,s1,s2,s3,s4,s5,s6,hs1,hs2,hs3,hs4,hs5,hs6,(by obtain ⟨u1,v1⟩:=id hs1; obtain ⟨u2,v2⟩:=id hs2; obtain ⟨u3,v3⟩:=id hs3; obtain ⟨u4,v4⟩:=id hs4; obtain ⟨u5,v5⟩:=id hs5; obtain ⟨u6,v6⟩:=id hs6; obtain ⟨uq0,vq0⟩:=id hq0_; obtain ⟨uq1,vq1⟩:=id hq1_; obtain ⟨uq2,vq2⟩:=id hq2_; obtain ⟨uq3,vq3⟩:=id hq3_; obtain ⟨uq4,vq4⟩:=id hq4_; obtain ⟨uq5,vq5⟩:=id hq5_; obtain ⟨ud1,vd1⟩:=id hd1; obtain ⟨ud2,vd2⟩:=id hd2; obtain ⟨ud3,vd3⟩:=id hd3; obtain ⟨ud4,vd4⟩:=id hd4; obtain ⟨ud5,vd5⟩:=id hd5; obtain ⟨ud6,vd6⟩:=id hd6; obtain ⟨uh1,uh2⟩:=id hhi; obtain ⟨ul1,ul2⟩:=id hlo; omega),(ExtB.puts (ExtB.puts (ExtB.puts (ExtB.puts (ExtB.puts (ExtB.puts (ExtB.ext (ExtB.refl g w) e1) p2) p3) p4) p5) p6) p7),r1_7⟩)
set_option maxRecDepth 100000 in
theorem QjA (g : Nat) (q0_ q1_ q2_ q3_ q4_ q5_ xx yy p:Int) (hq0_:isW q0_) (hq1_:isW q1_) (hq2_:isW q2_) (hq3_:isW q3_) (hq4_:isW q4_) (hq5_:isW q5_) (hxx:isW xx) (hyy:isW yy) (hp:xx*yy=p) (hlt:(q0_+18446744073709551616*q1_+340282366920938463463374607431768211456*q2_+6277101735386680763835789423207666416102355444464034512896*q3_+115792089237316195423570985008687907853269984665640564039457584007913129639936*q4_+2135987035920910082395021706169552114602704522356652769947041607822219725780640550022962086936576*q5_)+18446744073709551616*p<39402006196394479212279040100143613805079739270465446667948293404245721771497210611414266254884915640806627990306816) (w:World) (hg:w.heap[g]? = some (.cells (ints .u64 [q0_,q1_,q2_,q3_,q4_,q5_]) 151)) :
    Calls Tryd.prog 92 #[.int .i64 1,.int .u64 xx,.int .u64 yy,.pointer (some ⟨g,0,none⟩)] w (fun e W=>e=.returned (.tuple #[])∧∃ r0 r1 r2 r3 r4 r5:Int,isW r0∧isW r1∧isW r2∧isW r3∧isW r4∧isW r5∧(r0+18446744073709551616*r1+340282366920938463463374607431768211456*r2+6277101735386680763835789423207666416102355444464034512896*r3+115792089237316195423570985008687907853269984665640564039457584007913129639936*r4+2135987035920910082395021706169552114602704522356652769947041607822219725780640550022962086936576*r5)=(q0_+18446744073709551616*q1_+340282366920938463463374607431768211456*q2_+6277101735386680763835789423207666416102355444464034512896*q3_+115792089237316195423570985008687907853269984665640564039457584007913129639936*q4_+2135987035920910082395021706169552114602704522356652769947041607822219725780640550022962086936576*q5_)+18446744073709551616*p∧ExtB g w W∧W.heap[g]? = some (.cells (ints .u64 [r0,r1,r2,r3,r4,r5]) 151)):=by
  refine enter 44 [(0,.int .i64 1),(1,.int .u64 (xx)),(2,.int .u64 (yy)),(3,.pointer (some ⟨g,0,none⟩))] Tryd.func92 rfl rfl kj rfl <| sgC fun K2 hK2=>sg 2 kj ?_
  obtain ⟨hi_,lo_,hhi,hlo,hml,cml⟩:=Qj7 xx yy hxx hyy
  rw [hp] at hml
  refine Qa6 (.tuple #[.int .u64 (hi_),.int .u64 (lo_)]) 93 #[.int .u64 (xx),.int .u64 (yy)] 14 rfl kj kj ((mulR (cml _))) fun W1 e1=>sg 5 kj <| sgN hK2 <| sgB kj <| sgC fun K4 hK4=>sg 3 kj ?_
  have r1_1:=(Qaa hg e1)
  refine Qab (.int .u64 q1_) 21 rfl kj (Qah 87 _ g 1 151 _ (.int .u64 q1_) _ r1_1 rfl kj kj kj) <| sg 1 kj ?_
  obtain ⟨s1,d1,hs1,hd1,he1,ra1⟩:=QcU (q1_) (lo_) (0) hq1_ hlo ⟨by decide,by decide⟩
  refine Qab (.tuple #[.int .u64 (s1),.int .u64 (d1)]) 23 rfl kj (Qbs (f:=91) (args:=#[.int .u64 q1_,.int .u64 (lo_),.int .u64 0]) _ _ _ rfl kj kj (ra1 _)) <| sg 4 kj <| Qal g _ (ints .u64 ([q0_,(s1),q2_,q3_,q4_,q5_])) 151 r1_1 rfl kj (Qa1 87 _ _ g 1 151 _ _ r1_1 rfl kj kj kj (show 1<6 by decide)) fun W2 p2 r1_2=>sg 1 kj <| sgN hK4 <| sgB kj <| wp_block <| wp_loop_rounds 5 ?_
  show Code.wp _ _ (Exit.then (Code.rounds _ _ _ 4) _) _ _
  refine wp_seq_k fun K6 hK6=>sgB kj <| cond_true kj <| wp_skip <| hK6 _ _ <| wp_seq_k fun K8 hK8=>wp_block <| sgC fun K9 hK9=>sg 3 kj <| Qab (.int .u64 q2_) 37 rfl kj (Qah 87 _ g 2 151 _ (.int .u64 q2_) _ r1_2 rfl kj kj kj) ?_
  refine sg 2 kj ?_
  obtain ⟨s2,d2,hs2,hd2,he2,ra2⟩:=QcU (q2_) (hi_) (d1) hq2_ hhi hd1
  refine Qab (.tuple #[.int .u64 (s2),.int .u64 (d2)]) 40 rfl kj (Qbs (f:=91) (args:=#[.int .u64 q2_,.int .u64 (hi_),.int .u64 (d1)]) _ _ _ rfl kj kj (ra2 _)) <| sg 4 kj <| Qal g _ (ints .u64 ([q0_,(s1),(s2),q3_,q4_,q5_])) 151 r1_2 rfl kj (Qa1 87 _ _ g 2 151 _ _ r1_2 rfl kj kj kj (show 2<6 by decide)) fun W3 p3 r1_3=>sg 1 kj <| sgN hK9 <| sgA kj <| hK8 _ _ <| sgA kj ?_
  show Code.rounds _ _ _ 4 _ _
  show Code.wp _ _ (Exit.then (Code.rounds _ _ _ 3) _) _ _
  refine wp_seq_k fun K10 hK10=>sgB kj <| cond_true kj <| wp_skip <| hK10 _ _ <| wp_seq_k fun K12 hK12=>wp_block <| sgC fun K13 hK13=>sg 3 kj <| Qab (.int .u64 q3_) 37 rfl kj (Qah 87 _ g 3 151 _ (.int .u64 q3_) _ r1_3 rfl kj kj kj) ?_
  refine sg 2 kj ?_
  obtain ⟨s3,d3,hs3,hd3,he3,ra3⟩:=QcU (q3_) (0) (d2) hq3_ Qb5 hd2
  refine Qab (.tuple #[.int .u64 (s3),.int .u64 (d3)]) 40 rfl kj (Qbs (f:=91) (args:=#[.int .u64 q3_,.int .u64 0,.int .u64 (d2)]) _ _ _ rfl kj kj (ra3 _)) <| sg 4 kj <| Qal g _ (ints .u64 ([q0_,(s1),(s2),(s3),q4_,q5_])) 151 r1_3 rfl kj (Qa1 87 _ _ g 3 151 _ _ r1_3 rfl kj kj kj (show 3<6 by decide)) fun W4 p4 r1_4=>sg 1 kj <| sgN hK13 <| sgA kj <| hK12 _ _ <| sgA kj ?_
  show Code.rounds _ _ _ 3 _ _
  show Code.wp _ _ (Exit.then (Code.rounds _ _ _ 2) _) _ _
  refine wp_seq_k fun K14 hK14=>sgB kj <| cond_true kj <| wp_skip <| hK14 _ _ <| wp_seq_k fun K16 hK16=>wp_block <| sgC fun K17 hK17=>sg 3 kj <| Qab (.int .u64 q4_) 37 rfl kj (Qah 87 _ g 4 151 _ (.int .u64 q4_) _ r1_4 rfl kj kj kj) ?_
  refine sg 2 kj ?_
  obtain ⟨s4,d4,hs4,hd4,he4,ra4⟩:=QcU (q4_) (0) (d3) hq4_ Qb5 hd3
  refine Qab (.tuple #[.int .u64 (s4),.int .u64 (d4)]) 40 rfl kj (Qbs (f:=91) (args:=#[.int .u64 q4_,.int .u64 0,.int .u64 (d3)]) _ _ _ rfl kj kj (ra4 _)) <| sg 4 kj <| Qal g _ (ints .u64 ([q0_,(s1),(s2),(s3),(s4),q5_])) 151 r1_4 rfl kj (Qa1 87 _ _ g 4 151 _ _ r1_4 rfl kj kj kj (show 4<6 by decide)) fun W5 p5 r1_5=>sg 1 kj <| sgN hK17 <| sgA kj <| hK16 _ _ <| sgA kj ?_
  show Code.rounds _ _ _ 2 _ _
  show Code.wp _ _ (Exit.then (Code.rounds _ _ _ 1) _) _ _
  refine wp_seq_k fun K18 hK18=>sgB kj <| cond_true kj <| wp_skip <| hK18 _ _ <| wp_seq_k fun K20 hK20=>wp_block <| sgC fun K21 hK21=>sg 3 kj <| Qab (.int .u64 q5_) 37 rfl kj (Qah 87 _ g 5 151 _ (.int .u64 q5_) _ r1_5 rfl kj kj kj) ?_
  refine sg 2 kj ?_
  obtain ⟨s5,d5,hs5,hd5,he5,ra5⟩:=QcU (q5_) (0) (d4) hq5_ Qb5 hd4
  refine Qab (.tuple #[.int .u64 (s5),.int .u64 (d5)]) 40 rfl kj (Qbs (f:=91) (args:=#[.int .u64 q5_,.int .u64 0,.int .u64 (d4)]) _ _ _ rfl kj kj (ra5 _)) <| sg 4 kj <| Qal g _ (ints .u64 ([q0_,(s1),(s2),(s3),(s4),(s5)])) 151 r1_5 rfl kj (Qa1 87 _ _ g 5 151 _ _ r1_5 rfl kj kj kj (show 5<6 by decide)) fun W6 p6 r1_6=>sg 1 kj <| sgN hK21 <| sgA kj <| hK20 _ _ <| sgA kj ?_
  show Code.rounds _ _ _ 1 _ _
  show Code.wp _ _ (Exit.then (Code.rounds _ _ _ 0) _) _ _
  refine wp_seq_k fun K22 hK22=>sgB kj <| cond_false kj <| wp_exit ?_
  repeat (first | with_reducible refine goX1 ?_ | with_reducible refine goX2 ?_ | with_reducible refine goX3 ?_)
  exact (show bodyPost _ _ _ .normal _ _ from end0 rfl ⟨rfl,q0_,s1,s2,s3,s4,s5,hq0_,hs1,hs2,hs3,hs4,hs5,(by obtain ⟨u1,v1⟩:=id hs1; obtain ⟨u2,v2⟩:=id hs2; obtain ⟨u3,v3⟩:=id hs3; obtain ⟨u4,v4⟩:=id hs4; obtain ⟨u5,v5⟩:=id hs5; obtain ⟨uq0,vq0⟩:=id hq0_; obtain ⟨uq1,vq1⟩:=id hq1_; obtain ⟨uq2,vq2⟩:=id hq2_; obtain ⟨uq3,vq3⟩:=id hq3_; obtain ⟨uq4,vq4⟩:=id hq4_; obtain ⟨uq5,vq5⟩:=id hq5_; obtain ⟨ud1,vd1⟩:=id hd1; obtain ⟨ud2,vd2⟩:=id hd2; obtain ⟨ud3,vd3⟩:=id hd3; obtain ⟨ud4,vd4⟩:=id hd4; obtain ⟨ud5,vd5⟩:=id hd5; obtain ⟨uh1,uh2⟩:=id hhi; obtain ⟨ul1,ul2⟩:=id hlo; omega),(ExtB.puts (ExtB.puts (ExtB.puts (ExtB.puts (ExtB.puts (ExtB.ext (ExtB.refl g w) e1) p2) p3) p4) p5) p6),r1_6⟩)
set_option maxRecDepth 100000 in
theorem Qj9 (g : Nat) (q0_ q1_ q2_ q3_ q4_ q5_ xx yy p:Int) (hq0_:isW q0_) (hq1_:isW q1_) (hq2_:isW q2_) (hq3_:isW q3_) (hq4_:isW q4_) (hq5_:isW q5_) (hxx:isW xx) (hyy:isW yy) (hp:xx*yy=p) (hlt:(q0_+18446744073709551616*q1_+340282366920938463463374607431768211456*q2_+6277101735386680763835789423207666416102355444464034512896*q3_+115792089237316195423570985008687907853269984665640564039457584007913129639936*q4_+2135987035920910082395021706169552114602704522356652769947041607822219725780640550022962086936576*q5_)+340282366920938463463374607431768211456*p<39402006196394479212279040100143613805079739270465446667948293404245721771497210611414266254884915640806627990306816) (w:World) (hg:w.heap[g]? = some (.cells (ints .u64 [q0_,q1_,q2_,q3_,q4_,q5_]) 151)) :
    Calls Tryd.prog 92 #[.int .i64 2,.int .u64 xx,.int .u64 yy,.pointer (some ⟨g,0,none⟩)] w (fun e W=>e=.returned (.tuple #[])∧∃ r0 r1 r2 r3 r4 r5:Int,isW r0∧isW r1∧isW r2∧isW r3∧isW r4∧isW r5∧(r0+18446744073709551616*r1+340282366920938463463374607431768211456*r2+6277101735386680763835789423207666416102355444464034512896*r3+115792089237316195423570985008687907853269984665640564039457584007913129639936*r4+2135987035920910082395021706169552114602704522356652769947041607822219725780640550022962086936576*r5)=(q0_+18446744073709551616*q1_+340282366920938463463374607431768211456*q2_+6277101735386680763835789423207666416102355444464034512896*q3_+115792089237316195423570985008687907853269984665640564039457584007913129639936*q4_+2135987035920910082395021706169552114602704522356652769947041607822219725780640550022962086936576*q5_)+340282366920938463463374607431768211456*p∧ExtB g w W∧W.heap[g]? = some (.cells (ints .u64 [r0,r1,r2,r3,r4,r5]) 151)):=by
  refine enter 44 [(0,.int .i64 2),(1,.int .u64 (xx)),(2,.int .u64 (yy)),(3,.pointer (some ⟨g,0,none⟩))] Tryd.func92 rfl rfl kj rfl <| sgC fun K2 hK2=>sg 2 kj ?_
  obtain ⟨hi_,lo_,hhi,hlo,hml,cml⟩:=Qj7 xx yy hxx hyy
  rw [hp] at hml
  refine Qa6 (.tuple #[.int .u64 (hi_),.int .u64 (lo_)]) 93 #[.int .u64 (xx),.int .u64 (yy)] 14 rfl kj kj ((mulR (cml _))) fun W1 e1=>sg 5 kj <| sgN hK2 <| sgB kj <| sgC fun K4 hK4=>sg 3 kj ?_
  have r1_1:=(Qaa hg e1)
  refine Qab (.int .u64 q2_) 21 rfl kj (Qah 87 _ g 2 151 _ (.int .u64 q2_) _ r1_1 rfl kj kj kj) <| sg 1 kj ?_
  obtain ⟨s1,d1,hs1,hd1,he1,ra1⟩:=QcU (q2_) (lo_) (0) hq2_ hlo ⟨by decide,by decide⟩
  refine Qab (.tuple #[.int .u64 (s1),.int .u64 (d1)]) 23 rfl kj (Qbs (f:=91) (args:=#[.int .u64 q2_,.int .u64 (lo_),.int .u64 0]) _ _ _ rfl kj kj (ra1 _)) <| sg 4 kj <| Qal g _ (ints .u64 ([q0_,q1_,(s1),q3_,q4_,q5_])) 151 r1_1 rfl kj (Qa1 87 _ _ g 2 151 _ _ r1_1 rfl kj kj kj (show 2<6 by decide)) fun W2 p2 r1_2=>sg 1 kj <| sgN hK4 <| sgB kj <| wp_block <| wp_loop_rounds 4 ?_
  show Code.wp _ _ (Exit.then (Code.rounds _ _ _ 3) _) _ _
  refine wp_seq_k fun K6 hK6=>sgB kj <| cond_true kj <| wp_skip <| hK6 _ _ <| wp_seq_k fun K8 hK8=>wp_block <| sgC fun K9 hK9=>sg 3 kj <| Qab (.int .u64 q3_) 37 rfl kj (Qah 87 _ g 3 151 _ (.int .u64 q3_) _ r1_2 rfl kj kj kj) ?_
  refine sg 2 kj ?_
  obtain ⟨s2,d2,hs2,hd2,he2,ra2⟩:=QcU (q3_) (hi_) (d1) hq3_ hhi hd1
  refine Qab (.tuple #[.int .u64 (s2),.int .u64 (d2)]) 40 rfl kj (Qbs (f:=91) (args:=#[.int .u64 q3_,.int .u64 (hi_),.int .u64 (d1)]) _ _ _ rfl kj kj (ra2 _)) <| sg 4 kj <| Qal g _ (ints .u64 ([q0_,q1_,(s1),(s2),q4_,q5_])) 151 r1_2 rfl kj (Qa1 87 _ _ g 3 151 _ _ r1_2 rfl kj kj kj (show 3<6 by decide)) fun W3 p3 r1_3=>sg 1 kj <| sgN hK9 <| sgA kj <| hK8 _ _ <| sgA kj ?_
  show Code.rounds _ _ _ 3 _ _
  show Code.wp _ _ (Exit.then (Code.rounds _ _ _ 2) _) _ _
  refine wp_seq_k fun K10 hK10=>sgB kj <| cond_true kj <| wp_skip <| hK10 _ _ <| wp_seq_k fun K12 hK12=>wp_block <| sgC fun K13 hK13=>sg 3 kj <| Qab (.int .u64 q4_) 37 rfl kj (Qah 87 _ g 4 151 _ (.int .u64 q4_) _ r1_3 rfl kj kj kj) ?_
  refine sg 2 kj ?_
  obtain ⟨s3,d3,hs3,hd3,he3,ra3⟩:=QcU (q4_) (0) (d2) hq4_ Qb5 hd2
  refine Qab (.tuple #[.int .u64 (s3),.int .u64 (d3)]) 40 rfl kj (Qbs (f:=91) (args:=#[.int .u64 q4_,.int .u64 0,.int .u64 (d2)]) _ _ _ rfl kj kj (ra3 _)) <| sg 4 kj <| Qal g _ (ints .u64 ([q0_,q1_,(s1),(s2),(s3),q5_])) 151 r1_3 rfl kj (Qa1 87 _ _ g 4 151 _ _ r1_3 rfl kj kj kj (show 4<6 by decide)) fun W4 p4 r1_4=>sg 1 kj <| sgN hK13 <| sgA kj <| hK12 _ _ <| sgA kj ?_
  show Code.rounds _ _ _ 2 _ _
  show Code.wp _ _ (Exit.then (Code.rounds _ _ _ 1) _) _ _
  refine wp_seq_k fun K14 hK14=>sgB kj <| cond_true kj <| wp_skip <| hK14 _ _ <| wp_seq_k fun K16 hK16=>wp_block <| sgC fun K17 hK17=>sg 3 kj <| Qab (.int .u64 q5_) 37 rfl kj (Qah 87 _ g 5 151 _ (.int .u64 q5_) _ r1_4 rfl kj kj kj) ?_
  refine sg 2 kj ?_
  obtain ⟨s4,d4,hs4,hd4,he4,ra4⟩:=QcU (q5_) (0) (d3) hq5_ Qb5 hd3
  refine Qab (.tuple #[.int .u64 (s4),.int .u64 (d4)]) 40 rfl kj (Qbs (f:=91) (args:=#[.int .u64 q5_,.int .u64 0,.int .u64 (d3)]) _ _ _ rfl kj kj (ra4 _)) <| sg 4 kj <| Qal g _ (ints .u64 ([q0_,q1_,(s1),(s2),(s3),(s4)])) 151 r1_4 rfl kj (Qa1 87 _ _ g 5 151 _ _ r1_4 rfl kj kj kj (show 5<6 by decide)) fun W5 p5 r1_5=>sg 1 kj <| sgN hK17 <| sgA kj <| hK16 _ _ <| sgA kj ?_
  show Code.rounds _ _ _ 1 _ _
  show Code.wp _ _ (Exit.then (Code.rounds _ _ _ 0) _) _ _
  refine wp_seq_k fun K18 hK18=>sgB kj <| cond_false kj <| wp_exit ?_
  repeat (first | with_reducible refine goX1 ?_ | with_reducible refine goX2 ?_ | with_reducible refine goX3 ?_)
  exact (show bodyPost _ _ _ .normal _ _ from end0 rfl ⟨rfl,q0_,q1_,s1,s2,s3,s4,hq0_,hq1_,hs1,hs2,hs3,hs4,(by obtain ⟨u1,v1⟩:=id hs1; obtain ⟨u2,v2⟩:=id hs2; obtain ⟨u3,v3⟩:=id hs3; obtain ⟨u4,v4⟩:=id hs4; obtain ⟨uq0,vq0⟩:=id hq0_; obtain ⟨uq1,vq1⟩:=id hq1_; obtain ⟨uq2,vq2⟩:=id hq2_; obtain ⟨uq3,vq3⟩:=id hq3_; obtain ⟨uq4,vq4⟩:=id hq4_; obtain ⟨uq5,vq5⟩:=id hq5_; obtain ⟨ud1,vd1⟩:=id hd1; obtain ⟨ud2,vd2⟩:=id hd2; obtain ⟨ud3,vd3⟩:=id hd3; obtain ⟨ud4,vd4⟩:=id hd4; obtain ⟨uh1,uh2⟩:=id hhi; obtain ⟨ul1,ul2⟩:=id hlo; omega),(ExtB.puts (ExtB.puts (ExtB.puts (ExtB.puts (ExtB.ext (ExtB.refl g w) e1) p2) p3) p4) p5),r1_5⟩)
set_option maxRecDepth 100000 in
theorem Qlj (g : Nat) (q0_ q1_ q2_ q3_ q4_ q5_ xx yy p:Int) (hq0_:isW q0_) (hq1_:isW q1_) (hq2_:isW q2_) (hq3_:isW q3_) (hq4_:isW q4_) (hq5_:isW q5_) (hxx:isW xx) (hyy:isW yy) (hp:xx*yy=p) (hlt:(q0_+18446744073709551616*q1_+340282366920938463463374607431768211456*q2_+6277101735386680763835789423207666416102355444464034512896*q3_+115792089237316195423570985008687907853269984665640564039457584007913129639936*q4_+2135987035920910082395021706169552114602704522356652769947041607822219725780640550022962086936576*q5_)+6277101735386680763835789423207666416102355444464034512896*p<39402006196394479212279040100143613805079739270465446667948293404245721771497210611414266254884915640806627990306816) (w:World) (hg:w.heap[g]? = some (.cells (ints .u64 [q0_,q1_,q2_,q3_,q4_,q5_]) 151)) :
    Calls Tryd.prog 92 #[.int .i64 3,.int .u64 xx,.int .u64 yy,.pointer (some ⟨g,0,none⟩)] w (fun e W=>e=.returned (.tuple #[])∧∃ r0 r1 r2 r3 r4 r5:Int,isW r0∧isW r1∧isW r2∧isW r3∧isW r4∧isW r5∧(r0+18446744073709551616*r1+340282366920938463463374607431768211456*r2+6277101735386680763835789423207666416102355444464034512896*r3+115792089237316195423570985008687907853269984665640564039457584007913129639936*r4+2135987035920910082395021706169552114602704522356652769947041607822219725780640550022962086936576*r5)=(q0_+18446744073709551616*q1_+340282366920938463463374607431768211456*q2_+6277101735386680763835789423207666416102355444464034512896*q3_+115792089237316195423570985008687907853269984665640564039457584007913129639936*q4_+2135987035920910082395021706169552114602704522356652769947041607822219725780640550022962086936576*q5_)+6277101735386680763835789423207666416102355444464034512896*p∧ExtB g w W∧W.heap[g]? = some (.cells (ints .u64 [r0,r1,r2,r3,r4,r5]) 151)):=by
  refine enter 44 [(0,.int .i64 3),(1,.int .u64 (xx)),(2,.int .u64 (yy)),(3,.pointer (some ⟨g,0,none⟩))] Tryd.func92 rfl rfl kj rfl <| sgC fun K2 hK2=>sg 2 kj ?_
  obtain ⟨hi_,lo_,hhi,hlo,hml,cml⟩:=Qj7 xx yy hxx hyy
  rw [hp] at hml
  refine Qa6 (.tuple #[.int .u64 (hi_),.int .u64 (lo_)]) 93 #[.int .u64 (xx),.int .u64 (yy)] 14 rfl kj kj ((mulR (cml _))) fun W1 e1=>sg 5 kj <| sgN hK2 <| sgB kj <| sgC fun K4 hK4=>sg 3 kj ?_
  have r1_1:=(Qaa hg e1)
  refine Qab (.int .u64 q3_) 21 rfl kj (Qah 87 _ g 3 151 _ (.int .u64 q3_) _ r1_1 rfl kj kj kj) <| sg 1 kj ?_
  obtain ⟨s1,d1,hs1,hd1,he1,ra1⟩:=QcU (q3_) (lo_) (0) hq3_ hlo ⟨by decide,by decide⟩
  refine Qab (.tuple #[.int .u64 (s1),.int .u64 (d1)]) 23 rfl kj (Qbs (f:=91) (args:=#[.int .u64 q3_,.int .u64 (lo_),.int .u64 0]) _ _ _ rfl kj kj (ra1 _)) <| sg 4 kj <| Qal g _ (ints .u64 ([q0_,q1_,q2_,(s1),q4_,q5_])) 151 r1_1 rfl kj (Qa1 87 _ _ g 3 151 _ _ r1_1 rfl kj kj kj (show 3<6 by decide)) fun W2 p2 r1_2=>sg 1 kj <| sgN hK4 <| sgB kj <| wp_block <| wp_loop_rounds 3 ?_
  show Code.wp _ _ (Exit.then (Code.rounds _ _ _ 2) _) _ _
  refine wp_seq_k fun K6 hK6=>sgB kj <| cond_true kj <| wp_skip <| hK6 _ _ <| wp_seq_k fun K8 hK8=>wp_block <| sgC fun K9 hK9=>sg 3 kj <| Qab (.int .u64 q4_) 37 rfl kj (Qah 87 _ g 4 151 _ (.int .u64 q4_) _ r1_2 rfl kj kj kj) ?_
  refine sg 2 kj ?_
  obtain ⟨s2,d2,hs2,hd2,he2,ra2⟩:=QcU (q4_) (hi_) (d1) hq4_ hhi hd1
  refine Qab (.tuple #[.int .u64 (s2),.int .u64 (d2)]) 40 rfl kj (Qbs (f:=91) (args:=#[.int .u64 q4_,.int .u64 (hi_),.int .u64 (d1)]) _ _ _ rfl kj kj (ra2 _)) <| sg 4 kj <| Qal g _ (ints .u64 ([q0_,q1_,q2_,(s1),(s2),q5_])) 151 r1_2 rfl kj (Qa1 87 _ _ g 4 151 _ _ r1_2 rfl kj kj kj (show 4<6 by decide)) fun W3 p3 r1_3=>sg 1 kj <| sgN hK9 <| sgA kj <| hK8 _ _ <| sgA kj ?_
  show Code.rounds _ _ _ 2 _ _
  show Code.wp _ _ (Exit.then (Code.rounds _ _ _ 1) _) _ _
  refine wp_seq_k fun K10 hK10=>sgB kj <| cond_true kj <| wp_skip <| hK10 _ _ <| wp_seq_k fun K12 hK12=>wp_block <| sgC fun K13 hK13=>sg 3 kj <| Qab (.int .u64 q5_) 37 rfl kj (Qah 87 _ g 5 151 _ (.int .u64 q5_) _ r1_3 rfl kj kj kj) ?_
  refine sg 2 kj ?_
  obtain ⟨s3,d3,hs3,hd3,he3,ra3⟩:=QcU (q5_) (0) (d2) hq5_ Qb5 hd2
  refine Qab (.tuple #[.int .u64 (s3),.int .u64 (d3)]) 40 rfl kj (Qbs (f:=91) (args:=#[.int .u64 q5_,.int .u64 0,.int .u64 (d2)]) _ _ _ rfl kj kj (ra3 _)) <| sg 4 kj <| Qal g _ (ints .u64 ([q0_,q1_,q2_,(s1),(s2),(s3)])) 151 r1_3 rfl kj (Qa1 87 _ _ g 5 151 _ _ r1_3 rfl kj kj kj (show 5<6 by decide)) fun W4 p4 r1_4=>sg 1 kj <| sgN hK13 <| sgA kj <| hK12 _ _ <| sgA kj ?_
  show Code.rounds _ _ _ 1 _ _
  show Code.wp _ _ (Exit.then (Code.rounds _ _ _ 0) _) _ _
  refine wp_seq_k fun K14 hK14=>sgB kj <| cond_false kj <| wp_exit ?_
  repeat (first | with_reducible refine goX1 ?_ | with_reducible refine goX2 ?_ | with_reducible refine goX3 ?_)
  exact (show bodyPost _ _ _ .normal _ _ from end0 rfl ⟨rfl,q0_,q1_,q2_,s1,s2,s3,hq0_,hq1_,hq2_,hs1,hs2,hs3,(by obtain ⟨u1,v1⟩:=id hs1; obtain ⟨u2,v2⟩:=id hs2; obtain ⟨u3,v3⟩:=id hs3; obtain ⟨uq0,vq0⟩:=id hq0_; obtain ⟨uq1,vq1⟩:=id hq1_; obtain ⟨uq2,vq2⟩:=id hq2_; obtain ⟨uq3,vq3⟩:=id hq3_; obtain ⟨uq4,vq4⟩:=id hq4_; obtain ⟨uq5,vq5⟩:=id hq5_; obtain ⟨ud1,vd1⟩:=id hd1; obtain ⟨ud2,vd2⟩:=id hd2; obtain ⟨ud3,vd3⟩:=id hd3; obtain ⟨uh1,uh2⟩:=id hhi; obtain ⟨ul1,ul2⟩:=id hlo; omega),(ExtB.puts (ExtB.puts (ExtB.puts (ExtB.ext (ExtB.refl g w) e1) p2) p3) p4),r1_4⟩)
set_option maxRecDepth 100000 in
theorem QmO (g : Nat) (q0_ q1_ q2_ q3_ q4_ q5_ xx yy p:Int) (hq0_:isW q0_) (hq1_:isW q1_) (hq2_:isW q2_) (hq3_:isW q3_) (hq4_:isW q4_) (hq5_:isW q5_) (hxx:isW xx) (hyy:isW yy) (hp:xx*yy=p) (hlt:(q0_+18446744073709551616*q1_+340282366920938463463374607431768211456*q2_+6277101735386680763835789423207666416102355444464034512896*q3_+115792089237316195423570985008687907853269984665640564039457584007913129639936*q4_+2135987035920910082395021706169552114602704522356652769947041607822219725780640550022962086936576*q5_)+115792089237316195423570985008687907853269984665640564039457584007913129639936*p<39402006196394479212279040100143613805079739270465446667948293404245721771497210611414266254884915640806627990306816) (w:World) (hg:w.heap[g]? = some (.cells (ints .u64 [q0_,q1_,q2_,q3_,q4_,q5_]) 151)) :
    Calls Tryd.prog 92 #[.int .i64 4,.int .u64 xx,.int .u64 yy,.pointer (some ⟨g,0,none⟩)] w (fun e W=>e=.returned (.tuple #[])∧∃ r0 r1 r2 r3 r4 r5:Int,isW r0∧isW r1∧isW r2∧isW r3∧isW r4∧isW r5∧(r0+18446744073709551616*r1+340282366920938463463374607431768211456*r2+6277101735386680763835789423207666416102355444464034512896*r3+115792089237316195423570985008687907853269984665640564039457584007913129639936*r4+2135987035920910082395021706169552114602704522356652769947041607822219725780640550022962086936576*r5)=(q0_+18446744073709551616*q1_+340282366920938463463374607431768211456*q2_+6277101735386680763835789423207666416102355444464034512896*q3_+115792089237316195423570985008687907853269984665640564039457584007913129639936*q4_+2135987035920910082395021706169552114602704522356652769947041607822219725780640550022962086936576*q5_)+115792089237316195423570985008687907853269984665640564039457584007913129639936*p∧ExtB g w W∧W.heap[g]? = some (.cells (ints .u64 [r0,r1,r2,r3,r4,r5]) 151)):=by
  refine enter 44 [(0,.int .i64 4),(1,.int .u64 (xx)),(2,.int .u64 (yy)),(3,.pointer (some ⟨g,0,none⟩))] Tryd.func92 rfl rfl kj rfl <| sgC fun K2 hK2=>sg 2 kj ?_
  obtain ⟨hi_,lo_,hhi,hlo,hml,cml⟩:=Qj7 xx yy hxx hyy
  rw [hp] at hml
  refine Qa6 (.tuple #[.int .u64 (hi_),.int .u64 (lo_)]) 93 #[.int .u64 (xx),.int .u64 (yy)] 14 rfl kj kj ((mulR (cml _))) fun W1 e1=>sg 5 kj <| sgN hK2 <| sgB kj <| sgC fun K4 hK4=>sg 3 kj ?_
  have r1_1:=(Qaa hg e1)
  refine Qab (.int .u64 q4_) 21 rfl kj (Qah 87 _ g 4 151 _ (.int .u64 q4_) _ r1_1 rfl kj kj kj) <| sg 1 kj ?_
  obtain ⟨s1,d1,hs1,hd1,he1,ra1⟩:=QcU (q4_) (lo_) (0) hq4_ hlo ⟨by decide,by decide⟩
  refine Qab (.tuple #[.int .u64 (s1),.int .u64 (d1)]) 23 rfl kj (Qbs (f:=91) (args:=#[.int .u64 q4_,.int .u64 (lo_),.int .u64 0]) _ _ _ rfl kj kj (ra1 _)) <| sg 4 kj <| Qal g _ (ints .u64 ([q0_,q1_,q2_,q3_,(s1),q5_])) 151 r1_1 rfl kj (Qa1 87 _ _ g 4 151 _ _ r1_1 rfl kj kj kj (show 4<6 by decide)) fun W2 p2 r1_2=>sg 1 kj <| sgN hK4 <| sgB kj <| wp_block <| wp_loop_rounds 2 ?_
  show Code.wp _ _ (Exit.then (Code.rounds _ _ _ 1) _) _ _
  refine wp_seq_k fun K6 hK6=>sgB kj <| cond_true kj <| wp_skip <| hK6 _ _ <| wp_seq_k fun K8 hK8=>wp_block <| sgC fun K9 hK9=>sg 3 kj <| Qab (.int .u64 q5_) 37 rfl kj (Qah 87 _ g 5 151 _ (.int .u64 q5_) _ r1_2 rfl kj kj kj) ?_
  refine sg 2 kj ?_
  obtain ⟨s2,d2,hs2,hd2,he2,ra2⟩:=QcU (q5_) (hi_) (d1) hq5_ hhi hd1
  refine Qab (.tuple #[.int .u64 (s2),.int .u64 (d2)]) 40 rfl kj (Qbs (f:=91) (args:=#[.int .u64 q5_,.int .u64 (hi_),.int .u64 (d1)]) _ _ _ rfl kj kj (ra2 _)) <| sg 4 kj <| Qal g _ (ints .u64 ([q0_,q1_,q2_,q3_,(s1),(s2)])) 151 r1_2 rfl kj (Qa1 87 _ _ g 5 151 _ _ r1_2 rfl kj kj kj (show 5<6 by decide)) fun W3 p3 r1_3=>sg 1 kj <| sgN hK9 <| sgA kj <| hK8 _ _ <| sgA kj ?_
  show Code.rounds _ _ _ 1 _ _
  show Code.wp _ _ (Exit.then (Code.rounds _ _ _ 0) _) _ _
  refine wp_seq_k fun K10 hK10=>sgB kj <| cond_false kj <| wp_exit ?_
  repeat (first | with_reducible refine goX1 ?_ | with_reducible refine goX2 ?_ | with_reducible refine goX3 ?_)
  exact (show bodyPost _ _ _ .normal _ _ from end0 rfl ⟨rfl,q0_,q1_,q2_,q3_,s1,s2,hq0_,hq1_,hq2_,hq3_,hs1,hs2,(by obtain ⟨u1,v1⟩:=id hs1; obtain ⟨u2,v2⟩:=id hs2; obtain ⟨uq0,vq0⟩:=id hq0_; obtain ⟨uq1,vq1⟩:=id hq1_; obtain ⟨uq2,vq2⟩:=id hq2_; obtain ⟨uq3,vq3⟩:=id hq3_; obtain ⟨uq4,vq4⟩:=id hq4_; obtain ⟨uq5,vq5⟩:=id hq5_; obtain ⟨ud1,vd1⟩:=id hd1; obtain ⟨ud2,vd2⟩:=id hd2; obtain ⟨uh1,uh2⟩:=id hhi; obtain ⟨ul1,ul2⟩:=id hlo; omega),(ExtB.puts (ExtB.puts (ExtB.ext (ExtB.refl g w) e1) p2) p3),r1_3⟩)
end Go.Proofs.YtophlgnnjjkkiaaDoor.Ae
end
