/- Texts of this claim, joined (V4). -/
import Derived.Test.YtoiendjhplbjjaaDoorZV3
import Derived.Laws.BitsAll
import Derived.Lib.SmallJoins
import Derived.Lib.LaidTab
import Derived.Deep.Strs
import Derived.Test.YtoiendjhplbjjaaDoorProg

set_option linter.unusedVariables false
set_option linter.unusedSimpArgs false
set_option maxHeartbeats 4000000
section
namespace Go.Proofs.YtoiendjhplbjjaaDoor.Ll
open Go Go.RowKit
open Rely Auto Own Sha Sha
open Cha Ae
theorem Qec (n : Nat):Qai (nonV n):=QaR (fun x hx=>by simp only [List.mem_cons,List.not_mem_nil,or_false] at hx; rcases hx with rfl | rfl | rfl | rfl <;> decide) (Qds _)
theorem QfC {P : Program} {fn:Func} {N:Nat} {L:Env} {w:World} {r s t:ResultVar} {u v x:Value} (hr:fn.results=#[r,s,t]) (h:Qcx P w N L r u) (k:Qcx P w N L s v) (l:Qcx P w N L t x):(results fn (Qaz [] N L).tmps).run P w=.ok (.tuple #[u,v,x]) w:=by
  rw [QcS,hr]
  simp [QbI h,QbI k,QbI l,Sem.run_bind]
theorem ret3 {P : Program} {fn:Func} {R:Ending→World→Prop} {N:Nat} {L:Env} {w:World} {r s t:ResultVar} (u v x:Value) (hr:fn.results=#[r,s,t]) (h:Qcx P w N L r u) (k:Qcx P w N L s v) (l:Qcx P w N L t x) (z:R (.returned (.tuple #[u,v,x])) w):bodyPost P fn R .ret (Qaz [] N L) w:=bodyPost_ret (QfC hr h k l) rfl z
theorem QgC {sl : List Int} {m:Nat} (e4:sl.take 4=hdV m) (i:Nat) (h:i<4):nth sl i=nth (hdV m) i:=by
  rw [←e4]
  simp [nth,List.getElem?_take,h]
theorem hd_0 {sl : List Int} {m:Nat} (e4:sl.take 4=hdV m):nth sl 0=((m/16777216%256:Nat):Int):=(QgC e4 0 (by decide)).trans rfl
theorem hd_1 {sl : List Int} {m:Nat} (e4:sl.take 4=hdV m):nth sl 1=((m/65536%256:Nat):Int):=(QgC e4 1 (by decide)).trans rfl
theorem hd_2 {sl : List Int} {m:Nat} (e4:sl.take 4=hdV m):nth sl 2=((m/256%256:Nat):Int):=(QgC e4 2 (by decide)).trans rfl
theorem hd_3 {sl : List Int} {m:Nat} (e4:sl.take 4=hdV m):nth sl 3=((m%256:Nat):Int):=(QgC e4 3 (by decide)).trans rfl
theorem Qdh (a : Nat) (h:a*256<4611686018427387904):IntKind.i64.wrap (256*((a:Nat):Int))=((a*256:Nat):Int):=by
  rw [show 256*((a:Nat):Int)=((a*256:Nat):Int) by omega]
  exact IntWalk.i64_in _ (by omega)
theorem QbX (a b c:Nat) (hc:a*256+b=c) (hs:c<4611686018427387904):IntKind.i64.wrap (((a*256:Nat):Int)+((b:Nat):Int))=((c:Nat):Int):=by
  rw [show ((a*256:Nat):Int)+((b:Nat):Int)=((c:Nat):Int) by omega]
  exact IntWalk.i64_in _ (by omega)
theorem QjS (n : Nat) (w:World) (hn:n≤5000000000):Calls Tryd.prog 73 #[.int .i64 ((n:Nat):Int)] w (QbD w (OwnN .u8 5 w.heap.size (nonV n))):=by
 refine enter 22 [(0,.int .i64 ((n:Nat):Int))] Tryd.func73 rfl rfl kj rfl <| sgB kj <| sgC fun K2 hK2=>QaD (ints .u8 ([0,0,0,0])) 5 4 6 rfl kj kj fun g3 W1 l3 e1 r3_1=>?_
 have b3:=qT (Rely.Ext.refl w).size l3
 refine sg 1 kj <| sgN hK2 <| sgC fun K4 hK4=>sg 1 kj <| Qaa (.int .u64 (((n:Nat):Int)/p256 0)) 8 rfl kj (Qad (u:=.int .u64 (IntKind.u64.wrap ((n:Nat):Int))) kj (congrArg (Value.int .u64) (by rw [QeS,Int.ediv_one]; exact u64n n (by omega)))) ?_
 refine sg 1 kj <| sgN hK4 <| wp_seq_k fun K5 hK5=>sgB kj <| wp_block <| QaB (fun (s1:Nat×Value)=>[(0,.int .i64 ((n:Nat):Int)),(3,s1.2),(4,.int .u64 (((n:Nat):Int)/p256 s1.1)),(5,.int .i64 ((s1.1:Nat):Int))]) (fun (s1:Nat×Value) W=>(s1.1≤8)∧(OwnN .u8 5 w.heap.size ([0,0,0,0]++(by8 ((n:Nat):Int)).take s1.1) s1.2 W)∧(Below w.heap.size W1 W)∧(Ext w W)) (fun (s1:Nat×Value)=>8-s1.1) (0,.slice (some ⟨g3,0,none⟩) 4 4) ⟨kj,kj,kj,kj,trivial⟩ ⟨(Nat.zero_le _),(by rw [List.take_zero,List.append_nil]; exact (QbW (xs:=[0,0,0,0]) rfl l3 r3_1 (by decide))),(RowKit.Below.refl _ W1),(Ext.tr (Rely.Ext.refl w) e1)⟩ fun s1 X1 V1 hI1=>?_
 obtain ⟨i,u⟩:=s1
 obtain ⟨hi,hu,kk1,xx1⟩:=hI1
 replace hi:i≤8:=hi
 replace hu:OwnN .u8 5 w.heap.size ([0,0,0,0]++(by8 ((n:Nat):Int)).take i) u V1:=hu
 replace kk1:Below w.heap.size W1 V1:=kk1
 replace xx1:Ext w V1:=xx1
 have l2:=kk1
 refine wp_seq_k fun K7 hK7=>sgB kj <| Qa7 (t:=decide (((i:Nat):Int)<8)) kj (fun c9=>?_) (fun c9=>?_)
 ·skip
  have hlt10:i<8:=by have:=of_decide_eq_true c9; omega
  have hrg:=QdW ((n:Nat):Int) i (by omega) (by omega)
  refine wp_skip <| hK7 _ _ <| wp_seq_k fun K10 hK10=>wp_block <| sgC fun K11 hK11=>sg 2 kj <| Qaa (.int .u64 (((n:Nat):Int)/p256 i%256)) 15 rfl kj (Qad (u:=.int .u64 (Int.tmod ((((n:Nat):Int)/p256 i)) (256))) kj (congrArg (Value.int .u64) (show Int.tmod (((n:Nat):Int)/p256 i) 256=((n:Nat):Int)/p256 i%256 from Int.tmod_eq_emod_of_nonneg hrg.1))) <| Qaa (.int .u8 (nth (by8 ((n:Nat):Int)) i)) 16 rfl kj (Qad (u:=.int .u8 (IntKind.u8.wrap (((n:Nat):Int)/p256 i%256))) kj (congrArg (Value.int .u8) (QgW _ i hlt10))) <| QaD (ints .u8 ([(nth (by8 ((n:Nat):Int)) i)])) 5 1 17 rfl kj kj fun g12 W3 l12 e3 r12_3=>?_
  have b12:=qT xx1.size l12
  have y0_2:=(Ext.low (Rely.Ext.trans (Rely.Ext.refl w) e1) l2 (Rely.Ext.refl w).size)
  refine Qa9 (k:=.u8) (T:=5) (xs:=[0,0,0,0]++(by8 ((n:Nat):Int)).take i) (ys:=[(nth (by8 ((n:Nat):Int)) i)]) (V:=w) 1 (.tmp 13) (.tmp 17) 33 rfl kj kj (by decide) 18 rfl kj kj kj (hu.ext e3) (QaM (xs:=[(nth (by8 ((n:Nat):Int)) i)]) (n:=1) rfl r12_3 (Qa0 r12_3) (show 1≤maxLen from by decide)) (by rw [List.length_append,List.length_take,QbB]; show 4+_+1≤_; omega) (Rely.Ext.trans y0_2 e3) fun z1 W4 f14 y4 l4=>?_
  refine sg 1 kj <| sgN hK11 <| Qac <| sg 1 kj <| Qaa (.int .u64 (((n:Nat):Int)/p256 (i+1))) 20 rfl kj (Qad (u:=.int .u64 (IntKind.u64.wrap (Int.tdiv ((((n:Nat):Int)/p256 i)) (256)))) kj (congrArg (Value.int .u64) (by rw [show Int.tdiv (((n:Nat):Int)/p256 i) 256=((n:Nat):Int)/p256 i/256 from Int.tdiv_eq_ediv_of_nonneg hrg.1,Qi0]; have h7:=QdW ((n:Nat):Int) (i+1) (by omega) (by omega); rw [IntKind.wrap_u64]; omega))) ?_
  refine sg 1 kj <| Qae <| hK10 _ _ <| Qac <| sg 1 kj <| Qaa (.int .i64 ((i+1:Nat):Int)) 12 rfl kj (Qad (u:=.int .i64 (IntKind.i64.wrap (((i:Nat):Int)+1))) kj (congrArg (Value.int .i64) (i64n _ _ (by omega) (by omega)))) <| sg 1 kj <| Qae ?_
  repeat (first | with_reducible refine goX1 ?_ | with_reducible refine goX2 ?_ | with_reducible refine goX3 ?_)
  exact Qax ((i+1),z1) ⟨kj,kj,kj,kj,trivial⟩ ⟨(show i+1≤8 by omega),(by rw [QgV _ i hlt10,←List.append_assoc]; exact f14),(RowKit.Below.trans (RowKit.Below.trans l2 (RowKit.Below.mono e3 y0_2.size)) l4),(Ext.low (Ext.tr xx1 e3) l4 (Rely.Ext.refl w).size)⟩ (by show 8-(i+1)<8-i; omega)
 ·skip
  have heq10:i=8:=by have:=of_decide_eq_false c9; omega
  refine wp_exit <| hK5 _ _ <| sgB kj <| wp_ret ?_
  repeat (first | with_reducible refine goR1 ?_ | with_reducible refine goR2 ?_)
  exact (show bodyPost _ _ _ .ret _ _ from ret1 (u) rfl (Qaq kj) ⟨u,rfl,xx1,OwnN.base (qR _) (by have h9:=hu; rw [heq10,List.take_of_length_le (by rw [QbB]; decide)] at h9; exact h9)⟩)
theorem Qgd (n0 n:Nat) (w:World) (hn:n≤5000000000) (h0:n0≤w.heap.size):Calls Tryd.prog 73 #[.int .i64 ((n:Nat):Int)] w (QbD w (OwnN .u8 5 n0 (nonV n))) :=
  (QjS n w hn).mono fun e W' hg=>by
    obtain ⟨v',e1,e2,e3⟩:=hg
    exact ⟨v',e1,e2,e3.base h0⟩
set_option maxRecDepth 100000 in
theorem QjE (rk : List Int) (hrk:rk.length=32) (hrkb:Qai rk) (zs:List Int) (hzl:zs.length≤1000000) (a_z:Option Addr) (c_z:Nat) (B9:Nat) (sl:List Int) (v:Value) (B:Nat) (w:World) (hz:RdK .i64 B9 zs (.slice a_z zs.length c_z) w) (hzb:∀ m∈zs,0≤m∧m≤4294967294) (ht:RdK .u8 B sl v w) (h20:sl.length<20) :
    Calls Tryd.prog 50 #[.agg (ints .u8 rk),.slice a_z zs.length c_z,v] w (Ret w (.tuple #[.int .i64 0,.slice none 0 0,.int .i64 1])):=by
  obtain ⟨a_t,c_t,rfl,-⟩:=id ht
  have ctk:sl.length≤c_t:=by
    obtain ⟨_,_,e,q2,_⟩:=id ht
    simp only [Value.slice.injEq] at e
    obtain ⟨-,-,rfl⟩:=e
    exact q2
  refine enter 54 [(0,.agg (ints .u8 (rk))),(1,.slice a_z zs.length c_z),(2,.slice a_t sl.length c_t)] Tryd.func50 rfl rfl kj rfl <| sgC fun K1 hK1=>Qas (ints .u8 (rk)) 23 3 rfl kj kj fun g2 W1 l2 e1 r2_1=>?_
  have b2:=qT (Rely.Ext.refl w).size l2
  refine sg 3 kj <| sgN hK1 <| wp_seq_k fun K3 hK3=>sgC fun K4 hK4=>sg 2 kj <| Qaa (.bool true) 16 rfl kj (Qad (u:=.bool (decide (((sl.length:Nat):Int)<20))) kj (congrArg Value.bool (decide_eq_true (by omega)))) <| sg 5 kj <| sgN hK4 <| cond_true kj <| sgB kj ?_
  refine wp_ret ?_
  repeat (first | with_reducible refine goR1 ?_ | with_reducible refine goR2 ?_)
  exact (show bodyPost _ _ _ .ret _ _ from ret3 (.int .i64 0) (.slice none 0 0) (.int .i64 1) rfl (Qaq kj) (Qaq kj) (Qaq kj) ⟨rfl,(Ext.tr (Rely.Ext.refl w) e1)⟩)
set_option maxRecDepth 100000 in
theorem QjD (rk : List Int) (hrk:rk.length=32) (hrkb:Qai rk) (zs:List Int) (hzl:zs.length≤1000000) (a_z:Option Addr) (c_z:Nat) (B9:Nat) (sl:List Int) (v:Value) (B:Nat) (w:World) (hz:RdK .i64 B9 zs (.slice a_z zs.length c_z) w) (hzb:∀ m∈zs,0≤m∧m≤4294967294) (ht:RdK .u8 B sl v w) (h20:65556<sl.length) :
    Calls Tryd.prog 50 #[.agg (ints .u8 rk),.slice a_z zs.length c_z,v] w (Ret w (.tuple #[.int .i64 0,.slice none 0 0,.int .i64 1])):=by
  obtain ⟨a_t,c_t,rfl,-⟩:=id ht
  have ctk:sl.length≤c_t:=by
    obtain ⟨_,_,e,q2,_⟩:=id ht
    simp only [Value.slice.injEq] at e
    obtain ⟨-,-,rfl⟩:=e
    exact q2
  refine enter 54 [(0,.agg (ints .u8 (rk))),(1,.slice a_z zs.length c_z),(2,.slice a_t sl.length c_t)] Tryd.func50 rfl rfl kj rfl <| sgC fun K1 hK1=>Qas (ints .u8 (rk)) 23 3 rfl kj kj fun g2 W1 l2 e1 r2_1=>?_
  have b2:=qT (Rely.Ext.refl w).size l2
  refine sg 3 kj <| sgN hK1 <| wp_seq_k fun K3 hK3=>sgC fun K4 hK4=>sg 2 kj <| Qaa (.bool false) 16 rfl kj (Qad (u:=.bool (decide (((sl.length:Nat):Int)<20))) kj (congrArg Value.bool (decide_eq_false (by omega)))) <| sg 3 kj <| Qaa (.bool true) 20 rfl kj (Qad (u:=.bool (decide (((sl.length:Nat):Int)>65556))) kj (congrArg Value.bool (decide_eq_true (by omega)))) <| sg 1 kj <| sgN hK4 ?_
  refine cond_true kj <| sgB kj <| wp_ret ?_
  repeat (first | with_reducible refine goR1 ?_ | with_reducible refine goR2 ?_)
  exact (show bodyPost _ _ _ .ret _ _ from ret3 (.int .i64 0) (.slice none 0 0) (.int .i64 1) rfl (Qaq kj) (Qaq kj) (Qaq kj) ⟨rfl,(Ext.tr (Rely.Ext.refl w) e1)⟩)
set_option maxRecDepth 100000 in
theorem QjG (rk : List Int) (hrk:rk.length=32) (hrkb:Qai rk) (zs:List Int) (hzl:zs.length≤1000000) (a_z:Option Addr) (c_z:Nat) (B9:Nat) (sl:List Int) (v:Value) (B:Nat) (w:World) (hz:RdK .i64 B9 zs (.slice a_z zs.length c_z) w) (hzb:∀ m∈zs,0≤m∧m≤4294967294) (ht:RdK .u8 B sl v w) (m:Nat) (fs:List Int) (e4:sl.take 4=hdV m) (e5:sl.drop 4=fs) (hm:m<4294967296) (h20:20≤sl.length) (hmx:sl.length≤65556) (hc:chkT zs ((m:Nat):Int)≠0) :
    Calls Tryd.prog 50 #[.agg (ints .u8 rk),.slice a_z zs.length c_z,v] w (Ret w (.tuple #[.int .i64 0,.slice none 0 0,.int .i64 (chkT zs ((m:Nat):Int))])):=by
  obtain ⟨a_t,c_t,rfl,-⟩:=id ht
  have ctk:sl.length≤c_t:=by
    obtain ⟨_,_,e,q2,_⟩:=id ht
    simp only [Value.slice.injEq] at e
    obtain ⟨-,-,rfl⟩:=e
    exact q2
  have h4:4≤sl.length:=by omega
  refine enter 54 [(0,.agg (ints .u8 (rk))),(1,.slice a_z zs.length c_z),(2,.slice a_t sl.length c_t)] Tryd.func50 rfl rfl kj rfl <| sgC fun K1 hK1=>Qas (ints .u8 (rk)) 23 3 rfl kj kj fun g2 W1 l2 e1 r2_1=>?_
  have x1:=Ext.tr (Rely.Ext.refl w) e1
  have b2:=qT (Rely.Ext.refl w).size l2
  refine sg 3 kj <| sgN hK1 <| wp_seq_k fun K3 hK3=>sgC fun K4 hK4=>sg 2 kj <| Qaa (.bool false) 16 rfl kj (Qad (u:=.bool (decide (((sl.length:Nat):Int)<20))) kj (congrArg Value.bool (decide_eq_false (by omega)))) <| sg 3 kj <| Qaa (.bool false) 20 rfl kj (Qad (u:=.bool (decide (((sl.length:Nat):Int)>65556))) kj (congrArg Value.bool (decide_eq_false (by omega)))) <| sg 1 kj <| sgN hK4 ?_
  refine cond_false kj <| wp_skip <| hK3 _ _ <| sgB kj <| wp_seq_k fun K6 hK6=>sgB kj <| wp_block <| wp_loop_rounds 5 ?_
  show Code.wp _ _ (Exit.then (Code.rounds _ _ _ 4) _) _ _
  refine wp_seq_k fun K8 hK8=>sgB kj <| cond_true kj <| wp_skip <| hK8 _ _ <| wp_seq_k fun K10 hK10=>wp_block <| Qac <| sg 1 kj <| Qaa (.int .i64 (((0*256:Nat):Int))) 27 rfl kj (Qad (u:=.int .i64 (IntKind.i64.wrap (256*((0:Nat):Int)))) kj (congrArg (Value.int .i64) (Qdh _ (by omega)))) ?_
  refine sg 2 kj ?_
  have hnq_11:(sl).length=sl.length:=rfl
  obtain ⟨gcq_11,ocq_11,haq_11,hlq_11,hcq_11⟩:=Qbr (RdK.ext ht x1) (by rw [hnq_11]; omega)
  refine Qaa (.pointer (some ⟨gcq_11,ocq_11+0,none⟩)) 30 rfl kj (Qaw 33 _ _ .i64 0 gcq_11 ocq_11 sl.length c_t 5 a_t _ haq_11 rfl rfl kj kj kj kj (Nat.lt_of_lt_of_eq (show 0<sl.length by omega) hnq_11.symm)) <| Qaa (.int .u8 ((((m/16777216%256):Nat):Int))) 31 rfl kj (Qap 5 _ _ (.int .u8 ((((m/16777216%256):Nat):Int))) ((hcq_11 0 (Nat.lt_of_lt_of_eq (show 0<sl.length by omega) hnq_11.symm)).trans (congrArg (fun z=>some (Value.int .u8 z)) (hd_0 e4))) rfl kj kj) <| Qaa (.int .i64 ((((m/16777216%256):Nat):Int))) 32 rfl kj (Qad (u:=.int .i64 (IntKind.i64.wrap ((((m/16777216%256):Nat):Int)))) kj (congrArg (Value.int .i64) (IntWalk.i64_in _ (by omega)))) <| Qaa (.int .i64 ((((m/16777216):Nat):Int))) 33 rfl kj (Qad (u:=.int .i64 (IntKind.i64.wrap (((0*256:Nat):Int)+(((m/16777216%256):Nat):Int)))) kj (congrArg (Value.int .i64) (QbX 0 (m/16777216%256) (m/16777216) (by omega) (by omega)))) <| sg 1 kj <| Qae <| hK10 _ _ <| sgA kj ?_
  show Code.rounds _ _ _ 4 _ _
  show Code.wp _ _ (Exit.then (Code.rounds _ _ _ 3) _) _ _
  refine wp_seq_k fun K12 hK12=>sgB kj <| cond_true kj <| wp_skip <| hK12 _ _ <| wp_seq_k fun K14 hK14=>wp_block <| Qac <| sg 1 kj <| Qaa (.int .i64 ((((m/16777216)*256:Nat):Int))) 27 rfl kj (Qad (u:=.int .i64 (IntKind.i64.wrap (256*(((m/16777216):Nat):Int)))) kj (congrArg (Value.int .i64) (Qdh _ (by omega)))) ?_
  refine sg 2 kj ?_
  have hnq_15:(sl).length=sl.length:=rfl
  obtain ⟨gcq_15,ocq_15,haq_15,hlq_15,hcq_15⟩:=Qbr (RdK.ext ht x1) (by rw [hnq_15]; omega)
  refine Qaa (.pointer (some ⟨gcq_15,ocq_15+1,none⟩)) 30 rfl kj (Qaw 33 _ _ .i64 1 gcq_15 ocq_15 sl.length c_t 5 a_t _ haq_15 rfl rfl kj kj kj kj (Nat.lt_of_lt_of_eq (show 1<sl.length by omega) hnq_15.symm)) <| Qaa (.int .u8 ((((m/65536%256):Nat):Int))) 31 rfl kj (Qap 5 _ _ (.int .u8 ((((m/65536%256):Nat):Int))) ((hcq_15 1 (Nat.lt_of_lt_of_eq (show 1<sl.length by omega) hnq_15.symm)).trans (congrArg (fun z=>some (Value.int .u8 z)) (hd_1 e4))) rfl kj kj) <| Qaa (.int .i64 ((((m/65536%256):Nat):Int))) 32 rfl kj (Qad (u:=.int .i64 (IntKind.i64.wrap ((((m/65536%256):Nat):Int)))) kj (congrArg (Value.int .i64) (IntWalk.i64_in _ (by omega)))) <| Qaa (.int .i64 ((((m/65536):Nat):Int))) 33 rfl kj (Qad (u:=.int .i64 (IntKind.i64.wrap ((((m/16777216)*256:Nat):Int)+(((m/65536%256):Nat):Int)))) kj (congrArg (Value.int .i64) (QbX (m/16777216) (m/65536%256) (m/65536) (by omega) (by omega)))) <| sg 1 kj <| Qae <| hK14 _ _ <| sgA kj ?_
  show Code.rounds _ _ _ 3 _ _
  show Code.wp _ _ (Exit.then (Code.rounds _ _ _ 2) _) _ _
  refine wp_seq_k fun K16 hK16=>sgB kj <| cond_true kj <| wp_skip <| hK16 _ _ <| wp_seq_k fun K18 hK18=>wp_block <| Qac <| sg 1 kj <| Qaa (.int .i64 ((((m/65536)*256:Nat):Int))) 27 rfl kj (Qad (u:=.int .i64 (IntKind.i64.wrap (256*(((m/65536):Nat):Int)))) kj (congrArg (Value.int .i64) (Qdh _ (by omega)))) ?_
  refine sg 2 kj ?_
  have hnq_19:(sl).length=sl.length:=rfl
  obtain ⟨gcq_19,ocq_19,haq_19,hlq_19,hcq_19⟩:=Qbr (RdK.ext ht x1) (by rw [hnq_19]; omega)
  refine Qaa (.pointer (some ⟨gcq_19,ocq_19+2,none⟩)) 30 rfl kj (Qaw 33 _ _ .i64 2 gcq_19 ocq_19 sl.length c_t 5 a_t _ haq_19 rfl rfl kj kj kj kj (Nat.lt_of_lt_of_eq (show 2<sl.length by omega) hnq_19.symm)) <| Qaa (.int .u8 ((((m/256%256):Nat):Int))) 31 rfl kj (Qap 5 _ _ (.int .u8 ((((m/256%256):Nat):Int))) ((hcq_19 2 (Nat.lt_of_lt_of_eq (show 2<sl.length by omega) hnq_19.symm)).trans (congrArg (fun z=>some (Value.int .u8 z)) (hd_2 e4))) rfl kj kj) <| Qaa (.int .i64 ((((m/256%256):Nat):Int))) 32 rfl kj (Qad (u:=.int .i64 (IntKind.i64.wrap ((((m/256%256):Nat):Int)))) kj (congrArg (Value.int .i64) (IntWalk.i64_in _ (by omega)))) <| Qaa (.int .i64 ((((m/256):Nat):Int))) 33 rfl kj (Qad (u:=.int .i64 (IntKind.i64.wrap ((((m/65536)*256:Nat):Int)+(((m/256%256):Nat):Int)))) kj (congrArg (Value.int .i64) (QbX (m/65536) (m/256%256) (m/256) (by omega) (by omega)))) <| sg 1 kj <| Qae <| hK18 _ _ <| sgA kj ?_
  show Code.rounds _ _ _ 2 _ _
  show Code.wp _ _ (Exit.then (Code.rounds _ _ _ 1) _) _ _
  refine wp_seq_k fun K20 hK20=>sgB kj <| cond_true kj <| wp_skip <| hK20 _ _ <| wp_seq_k fun K22 hK22=>wp_block <| Qac <| sg 1 kj <| Qaa (.int .i64 ((((m/256)*256:Nat):Int))) 27 rfl kj (Qad (u:=.int .i64 (IntKind.i64.wrap (256*(((m/256):Nat):Int)))) kj (congrArg (Value.int .i64) (Qdh _ (by omega)))) ?_
  refine sg 2 kj ?_
  have hnq_23:(sl).length=sl.length:=rfl
  obtain ⟨gcq_23,ocq_23,haq_23,hlq_23,hcq_23⟩:=Qbr (RdK.ext ht x1) (by rw [hnq_23]; omega)
  refine Qaa (.pointer (some ⟨gcq_23,ocq_23+3,none⟩)) 30 rfl kj (Qaw 33 _ _ .i64 3 gcq_23 ocq_23 sl.length c_t 5 a_t _ haq_23 rfl rfl kj kj kj kj (Nat.lt_of_lt_of_eq (show 3<sl.length by omega) hnq_23.symm)) <| Qaa (.int .u8 ((((m%256):Nat):Int))) 31 rfl kj (Qap 5 _ _ (.int .u8 ((((m%256):Nat):Int))) ((hcq_23 3 (Nat.lt_of_lt_of_eq (show 3<sl.length by omega) hnq_23.symm)).trans (congrArg (fun z=>some (Value.int .u8 z)) (hd_3 e4))) rfl kj kj) <| Qaa (.int .i64 ((((m%256):Nat):Int))) 32 rfl kj (Qad (u:=.int .i64 (IntKind.i64.wrap ((((m%256):Nat):Int)))) kj (congrArg (Value.int .i64) (IntWalk.i64_in _ (by omega)))) <| Qaa (.int .i64 (((m:Nat):Int))) 33 rfl kj (Qad (u:=.int .i64 (IntKind.i64.wrap ((((m/256)*256:Nat):Int)+(((m%256):Nat):Int)))) kj (congrArg (Value.int .i64) (QbX (m/256) (m%256) m (by omega) (by omega)))) <| sg 1 kj <| Qae <| hK22 _ _ <| sgA kj ?_
  show Code.rounds _ _ _ 1 _ _
  show Code.wp _ _ (Exit.then (Code.rounds _ _ _ 0) _) _ _
  refine wp_seq_k fun K24 hK24=>sgB kj <| cond_false kj <| wp_exit <| hK6 _ _ <| wp_seq_k fun K26 hK26=>sgC fun K27 hK27=>sg 2 kj <| Qan (.int .i64 (chkT zs ((m:Nat):Int))) 90 #[.slice a_z zs.length c_z,.int .i64 (((m:Nat):Int))] 36 rfl kj kj (Qiy zs hzl a_z c_z B9 ((m:Nat):Int) _ (RdK.ext hz x1) hzb) fun W2 e2=>sg 1 kj ?_
  refine sgN hK27 <| sgC fun K28 hK28=>sg 1 kj <| Qaa (.bool true) 38 rfl kj (Qad (u:=.bool (((chkT zs ((m:Nat):Int)) != 0))) kj (congrArg Value.bool (bne_iff_ne.2 hc))) <| sgN hK28 <| cond_true kj <| sgB kj <| wp_ret ?_
  repeat (first | with_reducible refine goR1 ?_ | with_reducible refine goR2 ?_)
  exact (show bodyPost _ _ _ .ret _ _ from ret3 (.int .i64 0) (.slice none 0 0) (.int .i64 (chkT zs ((m:Nat):Int))) rfl (Qaq kj) (Qaq kj) (Qaq kj) ⟨rfl,(Ext.tr x1 e2)⟩)
set_option maxRecDepth 100000 in
theorem QjF (rk : List Int) (hrk:rk.length=32) (hrkb:Qai rk) (zs:List Int) (hzl:zs.length≤1000000) (a_z:Option Addr) (c_z:Nat) (B9:Nat) (sl:List Int) (v:Value) (B:Nat) (w:World) (hz:RdK .i64 B9 zs (.slice a_z zs.length c_z) w) (hzb:∀ m∈zs,0≤m∧m≤4294967294) (ht:RdK .u8 B sl v w) (m:Nat) (fs:List Int) (e4:sl.take 4=hdV m) (e5:sl.drop 4=fs) (hm:m<4294967296) (h20:20≤sl.length) (hmx:sl.length≤65556) (hsb:Qai sl) (hc:chkT zs ((m:Nat):Int)=0) (hne:Qbx rk (nonV m) (hdV m) (fs.take (fs.length-16))≠fs.drop (fs.length-16)) :
  Calls Tryd.prog 50 #[.agg (ints .u8 rk),.slice a_z zs.length c_z,v] w (Ret w (.tuple #[.int .i64 ((m:Nat):Int),.slice none 0 0,.int .i64 2])):=by
 obtain ⟨a_t,c_t,rfl,-⟩:=id ht
 have ctk:sl.length≤c_t:=by
  obtain ⟨_,_,e,q2,_⟩:=id ht
  simp only [Value.slice.injEq] at e
  obtain ⟨-,-,rfl⟩:=e
  exact q2
 have h4:4≤sl.length:=by omega
 have lfs:fs.length=sl.length-4:=by rw [←e5,List.length_drop]
 have hfb:Qai fs:=fun x hx=>hsb x (List.mem_of_mem_drop (e5▸hx))
 refine enter 54 [(0,.agg (ints .u8 (rk))),(1,.slice a_z zs.length c_z),(2,.slice a_t sl.length c_t)] Tryd.func50 rfl rfl kj rfl <| sgC fun K1 hK1=>Qas (ints .u8 (rk)) 23 3 rfl kj kj fun g2 W1 l2 e1 r2_1=>?_
 have x1:=Ext.tr (Rely.Ext.refl w) e1
 have b2:=qT (Rely.Ext.refl w).size l2
 refine sg 3 kj <| sgN hK1 <| wp_seq_k fun K3 hK3=>sgC fun K4 hK4=>sg 2 kj <| Qaa (.bool false) 16 rfl kj (Qad (u:=.bool (decide (((sl.length:Nat):Int)<20))) kj (congrArg Value.bool (decide_eq_false (by omega)))) <| sg 3 kj <| Qaa (.bool false) 20 rfl kj (Qad (u:=.bool (decide (((sl.length:Nat):Int)>65556))) kj (congrArg Value.bool (decide_eq_false (by omega)))) <| sg 1 kj <| sgN hK4 ?_
 refine cond_false kj <| wp_skip <| hK3 _ _ <| sgB kj <| wp_seq_k fun K6 hK6=>sgB kj <| wp_block <| wp_loop_rounds 5 ?_
 show Code.wp _ _ (Exit.then (Code.rounds _ _ _ 4) _) _ _
 refine wp_seq_k fun K8 hK8=>sgB kj <| cond_true kj <| wp_skip <| hK8 _ _ <| wp_seq_k fun K10 hK10=>wp_block <| Qac <| sg 1 kj <| Qaa (.int .i64 (((0*256:Nat):Int))) 27 rfl kj (Qad (u:=.int .i64 (IntKind.i64.wrap (256*((0:Nat):Int)))) kj (congrArg (Value.int .i64) (Qdh _ (by omega)))) ?_
 refine sg 2 kj ?_
 have hnq_11:(sl).length=sl.length:=rfl
 obtain ⟨gcq_11,ocq_11,haq_11,hlq_11,hcq_11⟩:=Qbr (RdK.ext ht x1) (by rw [hnq_11]; omega)
 refine Qaa (.pointer (some ⟨gcq_11,ocq_11+0,none⟩)) 30 rfl kj (Qaw 33 _ _ .i64 0 gcq_11 ocq_11 sl.length c_t 5 a_t _ haq_11 rfl rfl kj kj kj kj (Nat.lt_of_lt_of_eq (show 0<sl.length by omega) hnq_11.symm)) <| Qaa (.int .u8 ((((m/16777216%256):Nat):Int))) 31 rfl kj (Qap 5 _ _ (.int .u8 ((((m/16777216%256):Nat):Int))) ((hcq_11 0 (Nat.lt_of_lt_of_eq (show 0<sl.length by omega) hnq_11.symm)).trans (congrArg (fun z=>some (Value.int .u8 z)) (hd_0 e4))) rfl kj kj) <| Qaa (.int .i64 ((((m/16777216%256):Nat):Int))) 32 rfl kj (Qad (u:=.int .i64 (IntKind.i64.wrap ((((m/16777216%256):Nat):Int)))) kj (congrArg (Value.int .i64) (IntWalk.i64_in _ (by omega)))) <| Qaa (.int .i64 ((((m/16777216):Nat):Int))) 33 rfl kj (Qad (u:=.int .i64 (IntKind.i64.wrap (((0*256:Nat):Int)+(((m/16777216%256):Nat):Int)))) kj (congrArg (Value.int .i64) (QbX 0 (m/16777216%256) (m/16777216) (by omega) (by omega)))) <| sg 1 kj <| Qae <| hK10 _ _ <| sgA kj ?_
 show Code.rounds _ _ _ 4 _ _
 show Code.wp _ _ (Exit.then (Code.rounds _ _ _ 3) _) _ _
 refine wp_seq_k fun K12 hK12=>sgB kj <| cond_true kj <| wp_skip <| hK12 _ _ <| wp_seq_k fun K14 hK14=>wp_block <| Qac <| sg 1 kj <| Qaa (.int .i64 ((((m/16777216)*256:Nat):Int))) 27 rfl kj (Qad (u:=.int .i64 (IntKind.i64.wrap (256*(((m/16777216):Nat):Int)))) kj (congrArg (Value.int .i64) (Qdh _ (by omega)))) ?_
 refine sg 2 kj ?_
 have hnq_15:(sl).length=sl.length:=rfl
 obtain ⟨gcq_15,ocq_15,haq_15,hlq_15,hcq_15⟩:=Qbr (RdK.ext ht x1) (by rw [hnq_15]; omega)
 refine Qaa (.pointer (some ⟨gcq_15,ocq_15+1,none⟩)) 30 rfl kj (Qaw 33 _ _ .i64 1 gcq_15 ocq_15 sl.length c_t 5 a_t _ haq_15 rfl rfl kj kj kj kj (Nat.lt_of_lt_of_eq (show 1<sl.length by omega) hnq_15.symm)) <| Qaa (.int .u8 ((((m/65536%256):Nat):Int))) 31 rfl kj (Qap 5 _ _ (.int .u8 ((((m/65536%256):Nat):Int))) ((hcq_15 1 (Nat.lt_of_lt_of_eq (show 1<sl.length by omega) hnq_15.symm)).trans (congrArg (fun z=>some (Value.int .u8 z)) (hd_1 e4))) rfl kj kj) <| Qaa (.int .i64 ((((m/65536%256):Nat):Int))) 32 rfl kj (Qad (u:=.int .i64 (IntKind.i64.wrap ((((m/65536%256):Nat):Int)))) kj (congrArg (Value.int .i64) (IntWalk.i64_in _ (by omega)))) <| Qaa (.int .i64 ((((m/65536):Nat):Int))) 33 rfl kj (Qad (u:=.int .i64 (IntKind.i64.wrap ((((m/16777216)*256:Nat):Int)+(((m/65536%256):Nat):Int)))) kj (congrArg (Value.int .i64) (QbX (m/16777216) (m/65536%256) (m/65536) (by omega) (by omega)))) <| sg 1 kj <| Qae <| hK14 _ _ <| sgA kj ?_
 show Code.rounds _ _ _ 3 _ _
 show Code.wp _ _ (Exit.then (Code.rounds _ _ _ 2) _) _ _
 refine wp_seq_k fun K16 hK16=>sgB kj <| cond_true kj <| wp_skip <| hK16 _ _ <| wp_seq_k fun K18 hK18=>wp_block <| Qac <| sg 1 kj <| Qaa (.int .i64 ((((m/65536)*256:Nat):Int))) 27 rfl kj (Qad (u:=.int .i64 (IntKind.i64.wrap (256*(((m/65536):Nat):Int)))) kj (congrArg (Value.int .i64) (Qdh _ (by omega)))) ?_
 refine sg 2 kj ?_
 have hnq_19:(sl).length=sl.length:=rfl
 obtain ⟨gcq_19,ocq_19,haq_19,hlq_19,hcq_19⟩:=Qbr (RdK.ext ht x1) (by rw [hnq_19]; omega)
 refine Qaa (.pointer (some ⟨gcq_19,ocq_19+2,none⟩)) 30 rfl kj (Qaw 33 _ _ .i64 2 gcq_19 ocq_19 sl.length c_t 5 a_t _ haq_19 rfl rfl kj kj kj kj (Nat.lt_of_lt_of_eq (show 2<sl.length by omega) hnq_19.symm)) <| Qaa (.int .u8 ((((m/256%256):Nat):Int))) 31 rfl kj (Qap 5 _ _ (.int .u8 ((((m/256%256):Nat):Int))) ((hcq_19 2 (Nat.lt_of_lt_of_eq (show 2<sl.length by omega) hnq_19.symm)).trans (congrArg (fun z=>some (Value.int .u8 z)) (hd_2 e4))) rfl kj kj) <| Qaa (.int .i64 ((((m/256%256):Nat):Int))) 32 rfl kj (Qad (u:=.int .i64 (IntKind.i64.wrap ((((m/256%256):Nat):Int)))) kj (congrArg (Value.int .i64) (IntWalk.i64_in _ (by omega)))) <| Qaa (.int .i64 ((((m/256):Nat):Int))) 33 rfl kj (Qad (u:=.int .i64 (IntKind.i64.wrap ((((m/65536)*256:Nat):Int)+(((m/256%256):Nat):Int)))) kj (congrArg (Value.int .i64) (QbX (m/65536) (m/256%256) (m/256) (by omega) (by omega)))) <| sg 1 kj <| Qae <| hK18 _ _ <| sgA kj ?_
 show Code.rounds _ _ _ 2 _ _
 show Code.wp _ _ (Exit.then (Code.rounds _ _ _ 1) _) _ _
 refine wp_seq_k fun K20 hK20=>sgB kj <| cond_true kj <| wp_skip <| hK20 _ _ <| wp_seq_k fun K22 hK22=>wp_block <| Qac <| sg 1 kj <| Qaa (.int .i64 ((((m/256)*256:Nat):Int))) 27 rfl kj (Qad (u:=.int .i64 (IntKind.i64.wrap (256*(((m/256):Nat):Int)))) kj (congrArg (Value.int .i64) (Qdh _ (by omega)))) ?_
 refine sg 2 kj ?_
 have hnq_23:(sl).length=sl.length:=rfl
 obtain ⟨gcq_23,ocq_23,haq_23,hlq_23,hcq_23⟩:=Qbr (RdK.ext ht x1) (by rw [hnq_23]; omega)
 refine Qaa (.pointer (some ⟨gcq_23,ocq_23+3,none⟩)) 30 rfl kj (Qaw 33 _ _ .i64 3 gcq_23 ocq_23 sl.length c_t 5 a_t _ haq_23 rfl rfl kj kj kj kj (Nat.lt_of_lt_of_eq (show 3<sl.length by omega) hnq_23.symm)) <| Qaa (.int .u8 ((((m%256):Nat):Int))) 31 rfl kj (Qap 5 _ _ (.int .u8 ((((m%256):Nat):Int))) ((hcq_23 3 (Nat.lt_of_lt_of_eq (show 3<sl.length by omega) hnq_23.symm)).trans (congrArg (fun z=>some (Value.int .u8 z)) (hd_3 e4))) rfl kj kj) <| Qaa (.int .i64 ((((m%256):Nat):Int))) 32 rfl kj (Qad (u:=.int .i64 (IntKind.i64.wrap ((((m%256):Nat):Int)))) kj (congrArg (Value.int .i64) (IntWalk.i64_in _ (by omega)))) <| Qaa (.int .i64 (((m:Nat):Int))) 33 rfl kj (Qad (u:=.int .i64 (IntKind.i64.wrap ((((m/256)*256:Nat):Int)+(((m%256):Nat):Int)))) kj (congrArg (Value.int .i64) (QbX (m/256) (m%256) m (by omega) (by omega)))) <| sg 1 kj <| Qae <| hK22 _ _ <| sgA kj ?_
 show Code.rounds _ _ _ 1 _ _
 show Code.wp _ _ (Exit.then (Code.rounds _ _ _ 0) _) _ _
 refine wp_seq_k fun K24 hK24=>sgB kj <| cond_false kj <| wp_exit <| hK6 _ _ <| wp_seq_k fun K26 hK26=>sgC fun K27 hK27=>sg 2 kj <| Qan (.int .i64 0) 90 #[.slice a_z zs.length c_z,.int .i64 (((m:Nat):Int))] 36 rfl kj kj (hc▸Qiy zs hzl a_z c_z B9 ((m:Nat):Int) _ (RdK.ext hz x1) hzb) fun W2 e2=>?_
 have x2:=Ext.tr x1 e2
 refine sg 1 kj <| sgN hK27 <| sgB kj <| cond_false kj <| wp_skip <| hK26 _ _ <| wp_seq_k fun K29 hK29=>QaL 12 [⟨none,[(3,none)]⟩,⟨none,[(9,none)]⟩,⟨none,[(42,some 1)]⟩,⟨none,[(2,none)]⟩,⟨none,[(44,some 3)]⟩,⟨none,[(2,none)]⟩,⟨none,[(46,some 5)]⟩,⟨none,[(41,some 0),(43,some 2),(45,some 4),(47,some 6)]⟩,⟨none,[(48,some 7)]⟩,⟨none,[(40,some 8)]⟩,⟨none,[(40,some 8)]⟩,⟨none,[(49,some 9)]⟩] kj kj fun F hF=>Qbi (Qaj _) (.agg (ints .u8 (rk))) kj kj (fun W hR=>(Qao 23 _ g2 23 _ _ (Qab (Qab (Qab r2_1 e2) (Qak _)) hR) rfl kj kj (isz (n:=32) kj ((Qaf _ _).trans hrk)))) <| Qay (Qaj _) (.int .i64 (((m:Nat):Int))) kj kj (fun W=>by kernel_rfl) ?_
 refine QcM (Qaj _) (OwnN .u8 5 W2.heap.size (nonV m)) (OwnN.stable _ _ _ _) 73 #[.int .i64 (((m:Nat):Int))] kj kj (fun W=>by kernel_rfl) (fun W hR=>(Qgd W2.heap.size m _ (by omega) (Rely.Ext.trans (Qak _) hR).size)) <| Qay (Qaj _) (.slice a_t sl.length c_t) kj kj (fun W=>by kernel_rfl) <| Qay (Qaj _) (.slice a_t 4 c_t) kj kj (fun W=>(Qbl (len:=sl.length) 33 _ _ 4 5 rfl kj kj kj .i64 kj (qT h4 ctk))) <| Qay (Qaj _) (.slice a_t sl.length c_t) kj kj (fun W=>by kernel_rfl) <| Qay (Qaj _) (.slice (QbN a_t c_t 4) (sl.length-4) (c_t-4)) kj kj (fun W=>(QbH 33 _ _ 4 5 rfl kj kj kj .i64 kj h4 ctk)) <| Qd5 (Qaj _) (fun v W=>∃ u,v=.tuple #[u,.int .i64 2]∧u=.slice none 0 0) (fun _ _ _ _ h=>h) 75 (fun ρ W hR hX=>?_) ?_
 ·skip
  have e41_:ρ 41=.agg (ints .u8 (rk)):=hX.1
  have q43_:(OwnN .u8 5 W2.heap.size (nonV m)) (ρ 43) W:=hX.2.1
  obtain ⟨ar43,cr43,e43_,-⟩:=id (OwnN.rd q43_)
  have rd43_:=OwnN.rd q43_
  rw [e43_] at rd43_
  have e45_:ρ 45=.slice a_t 4 c_t:=hX.2.2.1
  have e47_:ρ 47=.slice (QbN a_t c_t 4) (sl.length-4) (c_t-4):=hX.2.2.2.1
  refine ⟨#[.agg (ints .u8 (rk)),.slice ar43 ((nonV m).length) cr43,.slice a_t 4 c_t,.slice (QbN a_t c_t 4) (sl.length-4) (c_t-4)],Eq.trans (b:=Result.ok (Next.enter 75 #[ρ 41,ρ 43,ρ 45,ρ 47]) W) kj (by rw [e41_,e43_,e45_,e47_]),?_⟩
  exact ((QjV rk (nonV m) (hdV m) fs _ _ _ _ _ _ W hrk hrkb (Qec _) rd43_ (RdK.ext (rdKT e4 (RdK.ext ht x2) h4) (Rely.Ext.trans (Qak _) hR)) (RdK.ext (rdKD e5 (RdK.ext ht x2) h4) (Rely.Ext.trans (Qak _) hR)) (QcC _) hfb (Qd1 _) (by rw [QbZ]; decide) (by omega) (by omega) hne).mono fun e W2 hg=>⟨_,hg.1,hg.2,_,rfl,rfl⟩)
 refine Qb6 (Qaj _) (fun v W=>∃ u,v=.tuple #[u,.int .i64 2]∧u=.slice none 0 0) (fun _ _ _ _ h=>h) (fun ρ W hR hh=>⟨ρ 48,W,by kernel_rfl,Rely.Ext.refl _,(show (fun v W=>∃ u,v=.tuple #[u,.int .i64 2]∧u=.slice none 0 0) (ρ 48) W from hh.1)⟩) <| Qb6 (Qaj _) (fun v W=>v=.slice none 0 0) (fun _ _ _ _ h=>h) (fun ρ W hR hh=>?_) ?_
 ·obtain ⟨u,e,h⟩:=(show (fun v W=>∃ u,v=.tuple #[u,.int .i64 2]∧u=.slice none 0 0) (ρ 40) W from hh.1)
  exact ⟨_,W,Qba (.tmp 40) 0 #[u,.int .i64 2] _ rfl e rfl,Rely.Ext.refl _,h⟩
 refine Qb6 (Qaj _) (fun v W=>v=.int .i64 2) (fun _ _ _ _ h=>h) (fun ρ W hR hh=>?_) ?_
 ·obtain ⟨u,e,h⟩:=(show (fun v W=>∃ u,v=.tuple #[u,.int .i64 2]∧u=.slice none 0 0) (ρ 40) W from hh.1)
  exact ⟨_,W,Qba (.tmp 40) 1 #[u,.int .i64 2] _ rfl e rfl,Rely.Ext.refl _,rfl⟩
 refine Qb6 (Qaj _) (fun v W=>v=.slice none 0 0) (fun _ _ _ _ h=>h) (fun ρ W hR hh=>⟨ρ 49,W,by kernel_rfl,Rely.Ext.refl _,(show (fun v W=>v=.slice none 0 0) (ρ 49) W from hh.1)⟩) <| Qck (hF _ fun W3 e3=>?_)
 simp only [List.nil_append,List.cons_append,List.take_succ_cons,List.take_zero,List.drop_succ_cons,List.drop_zero,finE,up]
 intro vv30 hv30 vv31 hv31 vv32 hv32 vv33 hv33 vv34 hv34 vv35 hv35
 clear hF
 obtain ⟨a36_,c36_,rfl,-⟩:=id (OwnN.rd hv30)
 subst hv33
 subst hv34
 subst hv35
 refine sg 1 kj <| sgN hK29 <| sgB kj <| wp_ret ?_
 repeat (first | with_reducible refine goR1 ?_ | with_reducible refine goR2 ?_)
 exact (show bodyPost _ _ _ .ret _ _ from ret3 (.int .i64 (((m:Nat):Int))) (.slice none 0 0) (.int .i64 2) rfl (Qaq kj) (Qaq kj) (Qaq kj) ⟨rfl,(Ext.tr x2 e3)⟩)
set_option maxRecDepth 100000 in
theorem QjH (rk : List Int) (hrk:rk.length=32) (hrkb:Qai rk) (zs:List Int) (hzl:zs.length≤1000000) (a_z:Option Addr) (c_z:Nat) (B9:Nat) (sl:List Int) (v:Value) (B:Nat) (w:World) (hz:RdK .i64 B9 zs (.slice a_z zs.length c_z) w) (hzb:∀ m∈zs,0≤m∧m≤4294967294) (ht:RdK .u8 B sl v w) (m:Nat) (fs:List Int) (e4:sl.take 4=hdV m) (e5:sl.drop 4=fs) (hm:m<4294967296) (h20:20≤sl.length) (hmx:sl.length≤65556) (hsb:Qai sl) (hc:chkT zs ((m:Nat):Int)=0) (hne:Qbx rk (nonV m) (hdV m) (fs.take (fs.length-16))=fs.drop (fs.length-16)) (text:List Int) (es:mixV (QaF rk (nonV m)) 1 (fs.take (fs.length-16))=text) :
  Calls Tryd.prog 50 #[.agg (ints .u8 rk),.slice a_z zs.length c_z,v] w (QbD w (fun v W=>∃ u,v=.tuple #[.int .i64 ((m:Nat):Int),u,.int .i64 0]∧OwnN .u8 5 w.heap.size text u W)):=by
 obtain ⟨a_t,c_t,rfl,-⟩:=id ht
 have ctk:sl.length≤c_t:=by
  obtain ⟨_,_,e,q2,_⟩:=id ht
  simp only [Value.slice.injEq] at e
  obtain ⟨-,-,rfl⟩:=e
  exact q2
 have h4:4≤sl.length:=by omega
 have lfs:fs.length=sl.length-4:=by rw [←e5,List.length_drop]
 have hfb:Qai fs:=fun x hx=>hsb x (List.mem_of_mem_drop (e5▸hx))
 refine enter 54 [(0,.agg (ints .u8 (rk))),(1,.slice a_z zs.length c_z),(2,.slice a_t sl.length c_t)] Tryd.func50 rfl rfl kj rfl <| sgC fun K1 hK1=>Qas (ints .u8 (rk)) 23 3 rfl kj kj fun g2 W1 l2 e1 r2_1=>?_
 have x1:=Ext.tr (Rely.Ext.refl w) e1
 have b2:=qT (Rely.Ext.refl w).size l2
 refine sg 3 kj <| sgN hK1 <| wp_seq_k fun K3 hK3=>sgC fun K4 hK4=>sg 2 kj <| Qaa (.bool false) 16 rfl kj (Qad (u:=.bool (decide (((sl.length:Nat):Int)<20))) kj (congrArg Value.bool (decide_eq_false (by omega)))) <| sg 3 kj <| Qaa (.bool false) 20 rfl kj (Qad (u:=.bool (decide (((sl.length:Nat):Int)>65556))) kj (congrArg Value.bool (decide_eq_false (by omega)))) <| sg 1 kj <| sgN hK4 ?_
 refine cond_false kj <| wp_skip <| hK3 _ _ <| sgB kj <| wp_seq_k fun K6 hK6=>sgB kj <| wp_block <| wp_loop_rounds 5 ?_
 show Code.wp _ _ (Exit.then (Code.rounds _ _ _ 4) _) _ _
 refine wp_seq_k fun K8 hK8=>sgB kj <| cond_true kj <| wp_skip <| hK8 _ _ <| wp_seq_k fun K10 hK10=>wp_block <| Qac <| sg 1 kj <| Qaa (.int .i64 (((0*256:Nat):Int))) 27 rfl kj (Qad (u:=.int .i64 (IntKind.i64.wrap (256*((0:Nat):Int)))) kj (congrArg (Value.int .i64) (Qdh _ (by omega)))) ?_
 refine sg 2 kj ?_
 have hnq_11:(sl).length=sl.length:=rfl
 obtain ⟨gcq_11,ocq_11,haq_11,hlq_11,hcq_11⟩:=Qbr (RdK.ext ht x1) (by rw [hnq_11]; omega)
 refine Qaa (.pointer (some ⟨gcq_11,ocq_11+0,none⟩)) 30 rfl kj (Qaw 33 _ _ .i64 0 gcq_11 ocq_11 sl.length c_t 5 a_t _ haq_11 rfl rfl kj kj kj kj (Nat.lt_of_lt_of_eq (show 0<sl.length by omega) hnq_11.symm)) <| Qaa (.int .u8 ((((m/16777216%256):Nat):Int))) 31 rfl kj (Qap 5 _ _ (.int .u8 ((((m/16777216%256):Nat):Int))) ((hcq_11 0 (Nat.lt_of_lt_of_eq (show 0<sl.length by omega) hnq_11.symm)).trans (congrArg (fun z=>some (Value.int .u8 z)) (hd_0 e4))) rfl kj kj) <| Qaa (.int .i64 ((((m/16777216%256):Nat):Int))) 32 rfl kj (Qad (u:=.int .i64 (IntKind.i64.wrap ((((m/16777216%256):Nat):Int)))) kj (congrArg (Value.int .i64) (IntWalk.i64_in _ (by omega)))) <| Qaa (.int .i64 ((((m/16777216):Nat):Int))) 33 rfl kj (Qad (u:=.int .i64 (IntKind.i64.wrap (((0*256:Nat):Int)+(((m/16777216%256):Nat):Int)))) kj (congrArg (Value.int .i64) (QbX 0 (m/16777216%256) (m/16777216) (by omega) (by omega)))) <| sg 1 kj <| Qae <| hK10 _ _ <| sgA kj ?_
 show Code.rounds _ _ _ 4 _ _
 show Code.wp _ _ (Exit.then (Code.rounds _ _ _ 3) _) _ _
 refine wp_seq_k fun K12 hK12=>sgB kj <| cond_true kj <| wp_skip <| hK12 _ _ <| wp_seq_k fun K14 hK14=>wp_block <| Qac <| sg 1 kj <| Qaa (.int .i64 ((((m/16777216)*256:Nat):Int))) 27 rfl kj (Qad (u:=.int .i64 (IntKind.i64.wrap (256*(((m/16777216):Nat):Int)))) kj (congrArg (Value.int .i64) (Qdh _ (by omega)))) ?_
 refine sg 2 kj ?_
 have hnq_15:(sl).length=sl.length:=rfl
 obtain ⟨gcq_15,ocq_15,haq_15,hlq_15,hcq_15⟩:=Qbr (RdK.ext ht x1) (by rw [hnq_15]; omega)
 refine Qaa (.pointer (some ⟨gcq_15,ocq_15+1,none⟩)) 30 rfl kj (Qaw 33 _ _ .i64 1 gcq_15 ocq_15 sl.length c_t 5 a_t _ haq_15 rfl rfl kj kj kj kj (Nat.lt_of_lt_of_eq (show 1<sl.length by omega) hnq_15.symm)) <| Qaa (.int .u8 ((((m/65536%256):Nat):Int))) 31 rfl kj (Qap 5 _ _ (.int .u8 ((((m/65536%256):Nat):Int))) ((hcq_15 1 (Nat.lt_of_lt_of_eq (show 1<sl.length by omega) hnq_15.symm)).trans (congrArg (fun z=>some (Value.int .u8 z)) (hd_1 e4))) rfl kj kj) <| Qaa (.int .i64 ((((m/65536%256):Nat):Int))) 32 rfl kj (Qad (u:=.int .i64 (IntKind.i64.wrap ((((m/65536%256):Nat):Int)))) kj (congrArg (Value.int .i64) (IntWalk.i64_in _ (by omega)))) <| Qaa (.int .i64 ((((m/65536):Nat):Int))) 33 rfl kj (Qad (u:=.int .i64 (IntKind.i64.wrap ((((m/16777216)*256:Nat):Int)+(((m/65536%256):Nat):Int)))) kj (congrArg (Value.int .i64) (QbX (m/16777216) (m/65536%256) (m/65536) (by omega) (by omega)))) <| sg 1 kj <| Qae <| hK14 _ _ <| sgA kj ?_
 show Code.rounds _ _ _ 3 _ _
 show Code.wp _ _ (Exit.then (Code.rounds _ _ _ 2) _) _ _
 refine wp_seq_k fun K16 hK16=>sgB kj <| cond_true kj <| wp_skip <| hK16 _ _ <| wp_seq_k fun K18 hK18=>wp_block <| Qac <| sg 1 kj <| Qaa (.int .i64 ((((m/65536)*256:Nat):Int))) 27 rfl kj (Qad (u:=.int .i64 (IntKind.i64.wrap (256*(((m/65536):Nat):Int)))) kj (congrArg (Value.int .i64) (Qdh _ (by omega)))) ?_
 refine sg 2 kj ?_
 have hnq_19:(sl).length=sl.length:=rfl
 obtain ⟨gcq_19,ocq_19,haq_19,hlq_19,hcq_19⟩:=Qbr (RdK.ext ht x1) (by rw [hnq_19]; omega)
 refine Qaa (.pointer (some ⟨gcq_19,ocq_19+2,none⟩)) 30 rfl kj (Qaw 33 _ _ .i64 2 gcq_19 ocq_19 sl.length c_t 5 a_t _ haq_19 rfl rfl kj kj kj kj (Nat.lt_of_lt_of_eq (show 2<sl.length by omega) hnq_19.symm)) <| Qaa (.int .u8 ((((m/256%256):Nat):Int))) 31 rfl kj (Qap 5 _ _ (.int .u8 ((((m/256%256):Nat):Int))) ((hcq_19 2 (Nat.lt_of_lt_of_eq (show 2<sl.length by omega) hnq_19.symm)).trans (congrArg (fun z=>some (Value.int .u8 z)) (hd_2 e4))) rfl kj kj) <| Qaa (.int .i64 ((((m/256%256):Nat):Int))) 32 rfl kj (Qad (u:=.int .i64 (IntKind.i64.wrap ((((m/256%256):Nat):Int)))) kj (congrArg (Value.int .i64) (IntWalk.i64_in _ (by omega)))) <| Qaa (.int .i64 ((((m/256):Nat):Int))) 33 rfl kj (Qad (u:=.int .i64 (IntKind.i64.wrap ((((m/65536)*256:Nat):Int)+(((m/256%256):Nat):Int)))) kj (congrArg (Value.int .i64) (QbX (m/65536) (m/256%256) (m/256) (by omega) (by omega)))) <| sg 1 kj <| Qae <| hK18 _ _ <| sgA kj ?_
 show Code.rounds _ _ _ 2 _ _
 show Code.wp _ _ (Exit.then (Code.rounds _ _ _ 1) _) _ _
 refine wp_seq_k fun K20 hK20=>sgB kj <| cond_true kj <| wp_skip <| hK20 _ _ <| wp_seq_k fun K22 hK22=>wp_block <| Qac <| sg 1 kj <| Qaa (.int .i64 ((((m/256)*256:Nat):Int))) 27 rfl kj (Qad (u:=.int .i64 (IntKind.i64.wrap (256*(((m/256):Nat):Int)))) kj (congrArg (Value.int .i64) (Qdh _ (by omega)))) ?_
 refine sg 2 kj ?_
 have hnq_23:(sl).length=sl.length:=rfl
 obtain ⟨gcq_23,ocq_23,haq_23,hlq_23,hcq_23⟩:=Qbr (RdK.ext ht x1) (by rw [hnq_23]; omega)
 refine Qaa (.pointer (some ⟨gcq_23,ocq_23+3,none⟩)) 30 rfl kj (Qaw 33 _ _ .i64 3 gcq_23 ocq_23 sl.length c_t 5 a_t _ haq_23 rfl rfl kj kj kj kj (Nat.lt_of_lt_of_eq (show 3<sl.length by omega) hnq_23.symm)) <| Qaa (.int .u8 ((((m%256):Nat):Int))) 31 rfl kj (Qap 5 _ _ (.int .u8 ((((m%256):Nat):Int))) ((hcq_23 3 (Nat.lt_of_lt_of_eq (show 3<sl.length by omega) hnq_23.symm)).trans (congrArg (fun z=>some (Value.int .u8 z)) (hd_3 e4))) rfl kj kj) <| Qaa (.int .i64 ((((m%256):Nat):Int))) 32 rfl kj (Qad (u:=.int .i64 (IntKind.i64.wrap ((((m%256):Nat):Int)))) kj (congrArg (Value.int .i64) (IntWalk.i64_in _ (by omega)))) <| Qaa (.int .i64 (((m:Nat):Int))) 33 rfl kj (Qad (u:=.int .i64 (IntKind.i64.wrap ((((m/256)*256:Nat):Int)+(((m%256):Nat):Int)))) kj (congrArg (Value.int .i64) (QbX (m/256) (m%256) m (by omega) (by omega)))) <| sg 1 kj <| Qae <| hK22 _ _ <| sgA kj ?_
 show Code.rounds _ _ _ 1 _ _
 show Code.wp _ _ (Exit.then (Code.rounds _ _ _ 0) _) _ _
 refine wp_seq_k fun K24 hK24=>sgB kj <| cond_false kj <| wp_exit <| hK6 _ _ <| wp_seq_k fun K26 hK26=>sgC fun K27 hK27=>sg 2 kj <| Qan (.int .i64 0) 90 #[.slice a_z zs.length c_z,.int .i64 (((m:Nat):Int))] 36 rfl kj kj (hc▸Qiy zs hzl a_z c_z B9 ((m:Nat):Int) _ (RdK.ext hz x1) hzb) fun W2 e2=>?_
 have x2:=Ext.tr x1 e2
 refine sg 1 kj <| sgN hK27 <| sgB kj <| cond_false kj <| wp_skip <| hK26 _ _ <| wp_seq_k fun K29 hK29=>QaL 12 [⟨none,[(3,none)]⟩,⟨none,[(9,none)]⟩,⟨none,[(42,some 1)]⟩,⟨none,[(2,none)]⟩,⟨none,[(44,some 3)]⟩,⟨none,[(2,none)]⟩,⟨none,[(46,some 5)]⟩,⟨none,[(41,some 0),(43,some 2),(45,some 4),(47,some 6)]⟩,⟨none,[(48,some 7)]⟩,⟨none,[(40,some 8)]⟩,⟨none,[(40,some 8)]⟩,⟨none,[(49,some 9)]⟩] kj kj fun F hF=>Qbi (Qaj _) (.agg (ints .u8 (rk))) kj kj (fun W hR=>(Qao 23 _ g2 23 _ _ (Qab (Qab (Qab r2_1 e2) (Qak _)) hR) rfl kj kj (isz (n:=32) kj ((Qaf _ _).trans hrk)))) <| Qay (Qaj _) (.int .i64 (((m:Nat):Int))) kj kj (fun W=>by kernel_rfl) ?_
 refine QcM (Qaj _) (OwnN .u8 5 W2.heap.size (nonV m)) (OwnN.stable _ _ _ _) 73 #[.int .i64 (((m:Nat):Int))] kj kj (fun W=>by kernel_rfl) (fun W hR=>(Qgd W2.heap.size m _ (by omega) (Rely.Ext.trans (Qak _) hR).size)) <| Qay (Qaj _) (.slice a_t sl.length c_t) kj kj (fun W=>by kernel_rfl) <| Qay (Qaj _) (.slice a_t 4 c_t) kj kj (fun W=>(Qbl (len:=sl.length) 33 _ _ 4 5 rfl kj kj kj .i64 kj (qT h4 ctk))) <| Qay (Qaj _) (.slice a_t sl.length c_t) kj kj (fun W=>by kernel_rfl) <| Qay (Qaj _) (.slice (QbN a_t c_t 4) (sl.length-4) (c_t-4)) kj kj (fun W=>(QbH 33 _ _ 4 5 rfl kj kj kj .i64 kj h4 ctk)) <| Qd5 (Qaj _) (QcY W2.heap.size text) (Qcd _ _) 75 (fun ρ W hR hX=>?_) ?_
 ·skip
  have e41_:ρ 41=.agg (ints .u8 (rk)):=hX.1
  have q43_:(OwnN .u8 5 W2.heap.size (nonV m)) (ρ 43) W:=hX.2.1
  obtain ⟨ar43,cr43,e43_,-⟩:=id (OwnN.rd q43_)
  have rd43_:=OwnN.rd q43_
  rw [e43_] at rd43_
  have e45_:ρ 45=.slice a_t 4 c_t:=hX.2.2.1
  have e47_:ρ 47=.slice (QbN a_t c_t 4) (sl.length-4) (c_t-4):=hX.2.2.2.1
  refine ⟨#[.agg (ints .u8 (rk)),.slice ar43 ((nonV m).length) cr43,.slice a_t 4 c_t,.slice (QbN a_t c_t 4) (sl.length-4) (c_t-4)],Eq.trans (b:=Result.ok (Next.enter 75 #[ρ 41,ρ 43,ρ 45,ρ 47]) W) kj (by rw [e41_,e43_,e45_,e47_]),?_⟩
  exact ((QjW rk (nonV m) (hdV m) fs _ _ _ _ _ _ W hrk hrkb (Qec _) rd43_ (RdK.ext (rdKT e4 (RdK.ext ht x2) h4) (Rely.Ext.trans (Qak _) hR)) (RdK.ext (rdKD e5 (RdK.ext ht x2) h4) (Rely.Ext.trans (Qak _) hR)) (QcC _) hfb (Qd1 _) (by rw [QbZ]; decide) (by omega) (by omega) hne).mono fun e W2 hg=>by obtain ⟨v2,e1,e2,u,e3,e4⟩:=hg; rw [es] at e4; exact ⟨v2,e1,e2,u,e3,e4.base (Rely.Ext.trans (Qak _) hR).size⟩)
 refine Qb6 (Qaj _) (QcY W2.heap.size text) (Qcd _ _) (fun ρ W hR hh=>⟨ρ 48,W,by kernel_rfl,Rely.Ext.refl _,(show (QcY W2.heap.size text) (ρ 48) W from hh.1)⟩) <| Qb6 (Qaj _) (OwnN .u8 5 W2.heap.size text) (OwnN.stable _ _ _ _) (fun ρ W hR hh=>?_) ?_
 ·obtain ⟨u,e,h⟩:=(show (QcY W2.heap.size text) (ρ 40) W from hh.1)
  exact ⟨_,W,Qba (.tmp 40) 0 #[u,.int .i64 0] _ rfl e rfl,Rely.Ext.refl _,h⟩
 refine Qb6 (Qaj _) (fun v W=>v=.int .i64 0) (fun _ _ _ _ h=>h) (fun ρ W hR hh=>?_) ?_
 ·obtain ⟨u,e,h⟩:=(show (QcY W2.heap.size text) (ρ 40) W from hh.1)
  exact ⟨_,W,Qba (.tmp 40) 1 #[u,.int .i64 0] _ rfl e rfl,Rely.Ext.refl _,rfl⟩
 refine Qb6 (Qaj _) (OwnN .u8 5 W2.heap.size text) (OwnN.stable _ _ _ _) (fun ρ W hR hh=>⟨ρ 49,W,by kernel_rfl,Rely.Ext.refl _,(show (OwnN .u8 5 W2.heap.size text) (ρ 49) W from hh.1)⟩) <| Qck (hF _ fun W3 e3=>?_)
 simp only [List.nil_append,List.cons_append,List.take_succ_cons,List.take_zero,List.drop_succ_cons,List.drop_zero,finE,up]
 intro vv30 hv30 vv31 hv31 vv32 hv32 vv33 hv33 vv34 hv34 vv35 hv35
 clear hF
 obtain ⟨a36_,c36_,rfl,-⟩:=id (OwnN.rd hv30)
 obtain ⟨a37_,c37_,rfl,-⟩:=id (OwnN.rd hv33)
 subst hv34
 obtain ⟨a38_,c38_,rfl,-⟩:=id (OwnN.rd hv35)
 refine sg 1 kj <| sgN hK29 <| sgB kj <| wp_ret ?_
 repeat (first | with_reducible refine goR1 ?_ | with_reducible refine goR2 ?_)
 exact (show bodyPost _ _ _ .ret _ _ from ret3 (.int .i64 (((m:Nat):Int))) (.slice a38_ ((text).length) c38_) (.int .i64 0) rfl (Qaq kj) (Qaq kj) (Qaq kj) ⟨_,rfl,(Ext.tr x2 e3),_,rfl,OwnN.base (qT (qT (qR _) e1.size) e2.size) hv35⟩)
end Go.Proofs.YtoiendjhplbjjaaDoor.Ll
end
section
namespace Go.Proofs.YtoiendjhplbjjaaDoor.Ll
open Go Go.RowKit
open Rely Auto Own Sha Sha
open Cha Ae
set_option maxRecDepth 100000 in
theorem Qg1 (rk : List Int) (hrk:rk.length=32) (hrkb:Qai rk) (text:List Int) (v:Value) (B:Nat) (w:World) (ht:RdK .u8 B text v w) (n:Int) (h:65536<text.length) :
    Calls Tryd.prog 47 #[.agg (ints .u8 rk),.int .i64 n,v] w (Ret w (.tuple #[.slice none 0 0,.int .i64 1])):=by
  obtain ⟨a_t,c_t,rfl,-⟩:=id ht
  refine enter 34 [(0,.agg (ints .u8 (rk))),(1,.int .i64 n),(2,.slice a_t text.length c_t)] Tryd.func47 rfl rfl kj rfl <| sgC fun K1 hK1=>Qas (ints .u8 (rk)) 23 3 rfl kj kj fun g2 W1 l2 e1 r2_1=>?_
  have b2:=qT (Rely.Ext.refl w).size l2
  refine sg 2 kj <| sgN hK1 <| wp_seq_k fun K3 hK3=>sgC fun K4 hK4=>sg 2 kj <| Qaa (.bool true) 13 rfl kj (Qad (u:=.bool (decide (((text.length:Nat):Int)>65536))) kj (congrArg Value.bool (decide_eq_true (by omega)))) <| sgN hK4 <| cond_true kj <| sgB kj <| wp_ret ?_
  repeat (first | with_reducible refine goR1 ?_ | with_reducible refine goR2 ?_)
  exact (show bodyPost _ _ _ .ret _ _ from ret2 (.slice none 0 0) (.int .i64 1) rfl (Qaq kj) (Qaq kj) ⟨rfl,(Ext.tr (Rely.Ext.refl w) e1)⟩)
set_option maxRecDepth 100000 in
theorem QiD (rk : List Int) (hrk:rk.length=32) (hrkb:Qai rk) (text:List Int) (v:Value) (B:Nat) (w:World) (ht:RdK .u8 B text v w) (n:Int) (htl:text.length≤65536) (h:n<0) :
    Calls Tryd.prog 47 #[.agg (ints .u8 rk),.int .i64 n,v] w (Ret w (.tuple #[.slice none 0 0,.int .i64 8])):=by
  obtain ⟨a_t,c_t,rfl,-⟩:=id ht
  refine enter 34 [(0,.agg (ints .u8 (rk))),(1,.int .i64 n),(2,.slice a_t text.length c_t)] Tryd.func47 rfl rfl kj rfl <| sgC fun K1 hK1=>Qas (ints .u8 (rk)) 23 3 rfl kj kj fun g2 W1 l2 e1 r2_1=>?_
  have b2:=qT (Rely.Ext.refl w).size l2
  refine sg 2 kj <| sgN hK1 <| wp_seq_k fun K3 hK3=>sgC fun K4 hK4=>sg 2 kj <| Qaa (.bool false) 13 rfl kj (Qad (u:=.bool (decide (((text.length:Nat):Int)>65536))) kj (congrArg Value.bool (decide_eq_false (by omega)))) <| sgN hK4 <| cond_false kj <| wp_skip <| hK3 _ _ ?_
  refine wp_seq_k fun K5 hK5=>sgC fun K6 hK6=>sg 1 kj <| Qaa (.bool true) 15 rfl kj (Qad (u:=.bool (decide (n<0))) kj (congrArg Value.bool (decide_eq_true (by omega)))) <| sg 4 kj <| sgN hK6 <| cond_true kj <| sgB kj <| wp_ret ?_
  repeat (first | with_reducible refine goR1 ?_ | with_reducible refine goR2 ?_)
  exact (show bodyPost _ _ _ .ret _ _ from ret2 (.slice none 0 0) (.int .i64 8) rfl (Qaq kj) (Qaq kj) ⟨rfl,(Ext.tr (Rely.Ext.refl w) e1)⟩)
set_option maxRecDepth 100000 in
theorem Qg2 (rk : List Int) (hrk:rk.length=32) (hrkb:Qai rk) (text:List Int) (v:Value) (B:Nat) (w:World) (ht:RdK .u8 B text v w) (n:Int) (htl:text.length≤65536) (h0:0≤n) (h:4294967294<n) :
    Calls Tryd.prog 47 #[.agg (ints .u8 rk),.int .i64 n,v] w (Ret w (.tuple #[.slice none 0 0,.int .i64 8])):=by
  obtain ⟨a_t,c_t,rfl,-⟩:=id ht
  refine enter 34 [(0,.agg (ints .u8 (rk))),(1,.int .i64 n),(2,.slice a_t text.length c_t)] Tryd.func47 rfl rfl kj rfl <| sgC fun K1 hK1=>Qas (ints .u8 (rk)) 23 3 rfl kj kj fun g2 W1 l2 e1 r2_1=>?_
  have b2:=qT (Rely.Ext.refl w).size l2
  refine sg 2 kj <| sgN hK1 <| wp_seq_k fun K3 hK3=>sgC fun K4 hK4=>sg 2 kj <| Qaa (.bool false) 13 rfl kj (Qad (u:=.bool (decide (((text.length:Nat):Int)>65536))) kj (congrArg Value.bool (decide_eq_false (by omega)))) <| sgN hK4 <| cond_false kj <| wp_skip <| hK3 _ _ ?_
  refine wp_seq_k fun K5 hK5=>sgC fun K6 hK6=>sg 1 kj <| Qaa (.bool false) 15 rfl kj (Qad (u:=.bool (decide (n<0))) kj (congrArg Value.bool (decide_eq_false (by omega)))) <| sg 2 kj <| Qaa (.bool true) 18 rfl kj (Qad (u:=.bool (decide (n>4294967294))) kj (congrArg Value.bool (decide_eq_true (by omega)))) <| sg 1 kj <| sgN hK6 <| cond_true kj <| sgB kj ?_
  refine wp_ret ?_
  repeat (first | with_reducible refine goR1 ?_ | with_reducible refine goR2 ?_)
  exact (show bodyPost _ _ _ .ret _ _ from ret2 (.slice none 0 0) (.int .i64 8) rfl (Qaq kj) (Qaq kj) ⟨rfl,(Ext.tr (Rely.Ext.refl w) e1)⟩)
set_option maxRecDepth 100000 in
theorem Qg3 (rk : List Int) (hrk:rk.length=32) (hrkb:Qai rk) (text:List Int) (v:Value) (B:Nat) (w:World) (ht:RdK .u8 B text v w) (n:Nat) (htl:text.length≤65536) (h:n≤4294967294) :
  Calls Tryd.prog 47 #[.agg (ints .u8 rk),.int .i64 ((n:Nat):Int),v] w (QbD w (fun v W=>∃ u,v=.tuple #[u,.int .i64 0]∧OwnN .u8 5 w.heap.size (msgV rk n text) u W)):=by
 obtain ⟨a_t,c_t,rfl,-⟩:=id ht
 have lfs0:=Qe2 rk (nonV n) (hdV n) text
 obtain ⟨fs,es⟩:∃ z:List Int,QeG rk (nonV n) (hdV n) text=z:=⟨_,rfl⟩
 have lfs:fs.length=text.length+16:=es▸lfs0
 refine enter 34 [(0,.agg (ints .u8 (rk))),(1,.int .i64 ((n:Nat):Int)),(2,.slice a_t text.length c_t)] Tryd.func47 rfl rfl kj rfl <| sgC fun K1 hK1=>Qas (ints .u8 (rk)) 23 3 rfl kj kj fun g2 W1 l2 e1 r2_1=>?_
 have x1:=Ext.tr (Rely.Ext.refl w) e1
 have b2:=qT (Rely.Ext.refl w).size l2
 refine sg 2 kj <| sgN hK1 <| wp_seq_k fun K3 hK3=>sgC fun K4 hK4=>sg 2 kj <| Qaa (.bool false) 13 rfl kj (Qad (u:=.bool (decide (((text.length:Nat):Int)>65536))) kj (congrArg Value.bool (decide_eq_false (by omega)))) <| sgN hK4 <| cond_false kj <| wp_skip <| hK3 _ _ ?_
 refine wp_seq_k fun K5 hK5=>sgC fun K6 hK6=>sg 1 kj <| Qaa (.bool false) 15 rfl kj (Qad (u:=.bool (decide (((n:Nat):Int)<0))) kj (congrArg Value.bool (decide_eq_false (by omega)))) <| sg 2 kj <| Qaa (.bool false) 18 rfl kj (Qad (u:=.bool (decide (((n:Nat):Int)>4294967294))) kj (congrArg Value.bool (decide_eq_false (by omega)))) <| sg 1 kj <| sgN hK6 <| cond_false kj <| wp_skip ?_
 refine hK5 _ _ <| sgC fun K7 hK7=>sg 1 kj <| Qat (fun v W'=>(OwnN .u8 5 W1.heap.size (hdV n)) v W'∧Ext W1 W') 87 #[.int .i64 ((n:Nat):Int)] 21 rfl kj kj ((Qlm n _ (by omega)).mono (by rintro e w' ⟨v,rfl,e1,hv⟩; exact ⟨v,rfl,hv,e1⟩)) fun vv8 W2 hh8=>?_
 obtain ⟨hv8,e2⟩:=hh8
 have x2:=Ext.tr x1 e2
 obtain ⟨a9_,c9_,rfl,-⟩:=id (OwnN.rd hv8)
 refine sg 1 kj <| sgN hK7 <| wp_seq_k fun K10 hK10=>QaL 10 [⟨none,[(3,none)]⟩,⟨none,[(1,none)]⟩,⟨none,[(24,some 1)]⟩,⟨none,[(8,none)]⟩,⟨none,[(2,none)]⟩,⟨none,[(23,some 0),(25,some 2),(26,some 3),(27,some 4)]⟩,⟨none,[(28,some 5)]⟩,⟨none,[(22,some 6)]⟩,⟨none,[(22,some 6)]⟩,⟨none,[(29,some 7)]⟩] kj kj fun F hF=>Qbi (Qaj _) (.agg (ints .u8 (rk))) kj kj (fun W hR=>(Qao 23 _ g2 23 _ _ (Qab (Qab (Qab r2_1 e2) (Qak _)) hR) rfl kj kj (isz (n:=32) kj ((Qaf _ _).trans hrk)))) <| Qay (Qaj _) (.int .i64 ((n:Nat):Int)) kj kj (fun W=>by kernel_rfl) <| QcM (Qaj _) (OwnN .u8 5 W2.heap.size (nonV n)) (OwnN.stable _ _ _ _) 73 #[.int .i64 ((n:Nat):Int)] kj kj (fun W=>by kernel_rfl) (fun W hR=>(Qgd W2.heap.size n _ (by omega) (Rely.Ext.trans (Qak _) hR).size)) <| Qay (Qaj _) (.slice a9_ ((hdV n).length) c9_) kj kj (fun W=>by kernel_rfl) <| Qay (Qaj _) (.slice a_t text.length c_t) kj kj (fun W=>by kernel_rfl) <| Qd5 (Qaj _) (QcY W2.heap.size fs) (Qcd _ _) 72 (fun ρ W hR hX=>?_) ?_
 ·skip
  have e23_:ρ 23=.agg (ints .u8 (rk)):=hX.1
  have q25_:(OwnN .u8 5 W2.heap.size (nonV n)) (ρ 25) W:=hX.2.1
  obtain ⟨ar25,cr25,e25_,-⟩:=id (OwnN.rd q25_)
  have rd25_:=OwnN.rd q25_
  rw [e25_] at rd25_
  have e26_:ρ 26=.slice a9_ ((hdV n).length) c9_:=hX.2.2.1
  have e27_:ρ 27=.slice a_t text.length c_t:=hX.2.2.2.1
  refine ⟨#[.agg (ints .u8 (rk)),.slice ar25 ((nonV n).length) cr25,.slice a9_ ((hdV n).length) c9_,.slice a_t text.length c_t],Eq.trans (b:=Result.ok (Next.enter 72 #[ρ 23,ρ 25,ρ 26,ρ 27]) W) kj (by rw [e23_,e25_,e26_,e27_]),?_⟩
  exact ((QjU rk (nonV n) (hdV n) text _ _ _ _ _ _ W hrk hrkb (Qec _) rd25_ (RdK.ext (OwnN.rd hv8) (Rely.Ext.trans (Qak _) hR)) (RdK.ext (RdK.ext ht x2) (Rely.Ext.trans (Qak _) hR)) (QcC _) (Qd1 _) (by rw [QbZ]; decide) (by omega)).mono fun e W2 hg=>by obtain ⟨v2,e1,e2,u,e3,e4⟩:=hg; rw [es] at e4; exact ⟨v2,e1,e2,u,e3,e4.base (Rely.Ext.trans (Qak _) hR).size⟩)
 refine Qb6 (Qaj _) (QcY W2.heap.size fs) (Qcd _ _) (fun ρ W hR hh=>⟨ρ 28,W,by kernel_rfl,Rely.Ext.refl _,(show (QcY W2.heap.size fs) (ρ 28) W from hh.1)⟩) <| Qb6 (Qaj _) (OwnN .u8 5 W2.heap.size fs) (OwnN.stable _ _ _ _) (fun ρ W hR hh=>?_) ?_
 ·obtain ⟨u,e,h⟩:=(show (QcY W2.heap.size fs) (ρ 22) W from hh.1)
  exact ⟨_,W,Qba (.tmp 22) 0 #[u,.int .i64 0] _ rfl e rfl,Rely.Ext.refl _,h⟩
 refine Qb6 (Qaj _) (fun v W=>v=.int .i64 0) (fun _ _ _ _ h=>h) (fun ρ W hR hh=>?_) ?_
 ·obtain ⟨u,e,h⟩:=(show (QcY W2.heap.size fs) (ρ 22) W from hh.1)
  exact ⟨_,W,Qba (.tmp 22) 1 #[u,.int .i64 0] _ rfl e rfl,Rely.Ext.refl _,rfl⟩
 refine Qb6 (Qaj _) (OwnN .u8 5 W2.heap.size fs) (OwnN.stable _ _ _ _) (fun ρ W hR hh=>⟨ρ 29,W,by kernel_rfl,Rely.Ext.refl _,(show (OwnN .u8 5 W2.heap.size fs) (ρ 29) W from hh.1)⟩) <| Qck (hF _ fun W3 e3=>?_)
 simp only [List.nil_append,List.cons_append,List.take_succ_cons,List.take_zero,List.drop_succ_cons,List.drop_zero,finE,up]
 intro vv11 hv11 vv12 hv12 vv13 hv13 vv14 hv14 vv15 hv15 vv16 hv16
 clear hF
 obtain ⟨a17_,c17_,rfl,-⟩:=id (OwnN.rd hv11)
 obtain ⟨a18_,c18_,rfl,-⟩:=id (OwnN.rd hv14)
 subst hv15
 obtain ⟨a19_,c19_,rfl,-⟩:=id (OwnN.rd hv16)
 refine sg 1 kj <| sgN hK10 <| sgC fun K20 hK20=>sg 2 kj <| Qa9 (k:=.u8) (T:=5) (xs:=hdV n) (ys:=fs) (V:=W1) 1 (.tmp 31) (.tmp 32) 33 rfl kj kj (by decide) 33 rfl kj kj kj (hv8.ext e3) (OwnN.rd hv16) (by rw [QbZ,lfs]; omega) (Rely.Ext.trans (Rely.Ext.trans (Rely.Ext.refl W1) e2) e3) fun zq W4 f22 y4 l4=>?_
 refine sg 2 kj <| sgN hK20 <| wp_ret ?_
 repeat (first | with_reducible refine goR1 ?_ | with_reducible refine goR2 ?_)
 exact (show bodyPost _ _ _ .ret _ _ from ret2 (zq) (.int .i64 0) rfl (Qaq kj) (Qaq kj) ⟨_,rfl,(Ext.low (Ext.tr x2 e3) l4 x1.size),_,rfl,by unfold msgV; rw [es]; exact OwnN.base (qT (qR _) e1.size) f22⟩)
end Go.Proofs.YtoiendjhplbjjaaDoor.Ll
end
section
namespace Go.Proofs.YtoiendjhplbjjaaDoor.Ll
open Go Go.RowKit
open Rely Auto Own Sha Sha
open Cha Ae
theorem Qgj (g : Nat) (nx:Int) (B:Nat) (hnx:0≤nx∧nx≤4294967295) (hB:B<18446744073709551616) (sk rk:List Int) (next:Nat) (hsk:sk.length=32) (hrk:rk.length=32) (w:World) (hg:w.heap[g]? = some (.cells (cat [#[.int .i64 nx],#[.int .u64 ((B:Nat):Int)],ints .u8 (sk),ints .u8 (rk),#[.int .i64 ((next:Nat):Int)]]) 136)):Calls Tryd.prog 45 #[.pointer (some ⟨g,0,none⟩)] w (Ret w (.int .i64 ((next:Nat):Int))):=by
  refine enter 9 [(0,.pointer (some ⟨g,0,none⟩))] Tryd.func45 rfl rfl kj rfl <| sgB kj <| wp_seq_k fun K3 hK3=>sgB kj <| cond_false kj <| wp_skip <| hK3 _ _ <| sgC fun K5 hK5=>sg 3 kj <| Qaa (.int .i64 ((next:Nat):Int)) 8 rfl kj (Qah 3 _ g 66 136 _ (.int .i64 ((next:Nat):Int)) _ hg rfl kj (QaQ [#[.int .i64 nx],#[.int .u64 ((B:Nat):Int)],ints .u8 (sk),ints .u8 (rk)] [#[.int .i64 ((next:Nat):Int)]] [] 66 (by rw [Qar,Qar,Qar,Qar]; simp only [qS,cat,((Qaf _ _).trans hrk),((Qaf _ _).trans hsk)]; rfl) 0 _ rfl) kj) ?_
  refine sg 1 kj <| sgN hK5 <| wp_ret ?_
  repeat (first | with_reducible refine goR1 ?_ | with_reducible refine goR2 ?_)
  exact (show bodyPost _ _ _ .ret _ _ from ret1 (.int .i64 ((next:Nat):Int)) rfl (Qaq kj) ⟨rfl,(Rely.Ext.refl w)⟩)
theorem HighestC (g : Nat) (nx:Int) (B:Nat) (hnx:0≤nx∧nx≤4294967295) (hB:B<18446744073709551616) (sk rk:List Int) (next:Nat) (hsk:sk.length=32) (hrk:rk.length=32) (w:World) (hg:w.heap[g]? = some (.cells (cat [#[.int .i64 nx],#[.int .u64 ((B:Nat):Int)],ints .u8 (sk),ints .u8 (rk),#[.int .i64 ((next:Nat):Int)]]) 136)):Calls Tryd.prog 44 #[.pointer (some ⟨g,0,none⟩)] w (Ret w (.int .i64 (nx-1))):=by
  refine enter 9 [(0,.pointer (some ⟨g,0,none⟩))] Tryd.func44 rfl rfl kj rfl <| sgB kj <| wp_seq_k fun K3 hK3=>sgB kj <| cond_false kj <| wp_skip <| hK3 _ _ <| sgC fun K5 hK5=>sg 3 kj <| Qan (.int .i64 (nx-1)) 85 #[.pointer (some ⟨g,0,none⟩)] 8 rfl kj kj (highestC g nx B hnx hB sk rk next hsk hrk _ hg) fun W1 e1=>?_
  refine sg 1 kj <| sgN hK5 <| wp_ret ?_
  repeat (first | with_reducible refine goR1 ?_ | with_reducible refine goR2 ?_)
  exact (show bodyPost _ _ _ .ret _ _ from ret1 (.int .i64 (nx-1)) rfl (Qaq kj) ⟨rfl,(Ext.tr (Rely.Ext.refl w) e1)⟩)
end Go.Proofs.YtoiendjhplbjjaaDoor.Ll
end
section
namespace Go.Proofs.YtoiendjhplbjjaaDoor.Ll
open Go Go.RowKit
open Rely Auto Own Sha Sha
theorem Qlj {nx : Int} {B:Nat} {ts:List Int} (h:WInv nx B ts) {n:Int} (hc:chkT ts n=0):∃ (nx2:Int) (B2:Nat),WInv nx2 B2 (ts++[n]) ∧
    ∀ (g:Nat) (sk rk:List Int) (next:Nat) (hsk:sk.length=32) (hrk:rk.length=32) (w:World) (hg:w.heap[g]? = some (.cells (cat [#[.int .i64 nx],#[.int .u64 ((B:Nat):Int)],ints .u8 (sk),ints .u8 (rk),#[.int .i64 ((next:Nat):Int)]]) 136)),Calls Tryd.prog 89 #[.pointer (some ⟨g,0,none⟩),.int .i64 n] w (fun e W2=>e=.returned .nilIface∧ExtB g w W2∧W2.heap[g]? = some (.cells (cat [#[.int .i64 nx2],#[.int .u64 ((B2:Nat):Int)],ints .u8 (sk),ints .u8 (rk),#[.int .i64 ((next:Nat):Int)]]) 136)):=by
  obtain ⟨h0,h1,h2,h3⟩:=Qex hc
  have hcw:chkW nx B n=0:=(QgU h n).trans hc
  have hh:=h.hhi
  have hn:=h.hnx
  by_cases hlt:n<nx-1
  · obtain ⟨j,hj⟩:=Int.eq_ofNat_of_zero_le (show 0≤nx-1-n-1 by omega)
    have hj2:j<64:=by omega
    exact ⟨_,_,Qll h hc j hj hj2,fun g sk rk next hsk hrk w hg=>mark_F g nx B n h.hnx h.hB sk rk next hsk hrk w hg hcw j hj hj2⟩
  · have hne:n≠nx-1:=fun e=>by
      rcases QgN ts with h4 | h4
      · omega
      · exact h3 (by rw [e,←hh]; exact h4)
    obtain ⟨a,ha⟩:=Int.eq_ofNat_of_zero_le (show 0≤n-(nx-1) by omega)
    exact ⟨_,_,Qlk h hc a ha (by omega),fun g sk rk next hsk hrk w hg=>mark_G g nx B n h.hnx h.hB sk rk next hsk hrk w hg hcw ⟨h0,by omega⟩ a ha (by omega)⟩
end Go.Proofs.YtoiendjhplbjjaaDoor.Ll
end
section
namespace Go.Proofs.YtoiendjhplbjjaaDoor.Ll
open Go Go.RowKit
open Rely Auto Own Sha Sha
open Cha Ae
theorem QiE (sk : List Int) (hsk:sk.length=32) (hskb:Qai sk) (next:Nat) (hnx2:next≤4294967295) (text:List Int) :
    ∃ (out:List Int) (bad:Int) (n2:Nat),Qai out∧out.length≤65556∧n2≤4294967295∧((bad=0∧n2=next+1)∨(bad≠0∧n2=next))∧(∀ (g:Nat) (nx:Int) (B:Nat) (rk:List Int) (v:Value) (th tq:TypeId) (w:World),(0≤nx∧nx≤4294967295)→B<18446744073709551616→rk.length=32→w.heap[g]? = some (.cells (cat [#[.int .i64 nx],#[.int .u64 ((B:Nat):Int)],ints .u8 (sk),ints .u8 (rk),#[.int .i64 ((next:Nat):Int)]]) 136)→(w.heap[2]? = some (.cells (ints .u32 [1634760805,857760878,2036477234,1797285236]) th))→(w.heap[3]? = some (.cells (ints .i64 [0,4,8,12,1,5,9,13,2,6,10,14,3,7,11,15,0,5,10,15,1,6,11,12,2,7,8,13,3,4,9,14]) tq))→2≠g→3≠g→(∀ W,ExtB g w W→RdK .u8 W.heap.size text v W)→Calls Tryd.prog 46 #[.pointer (some ⟨g,0,none⟩),v] w (fun e W=>∃ u,e=.returned (.tuple #[u,errV bad])∧OwnN .u8 5 w.heap.size out u W∧ExtB g w W∧W.heap[g]? = some (.cells (cat [#[.int .i64 nx],#[.int .u64 ((B:Nat):Int)],ints .u8 (sk),ints .u8 (rk),#[.int .i64 ((n2:Nat):Int)]]) 136)))∧(∀ (v:Value) (B:Nat) (w:World),RdK .u8 B text v w→Calls Tryd.prog 47 #[.agg (ints .u8 sk),.int .i64 ((next:Nat):Int),v] w (QbD w (fun v W=>∃ u,v=.tuple #[u,.int .i64 bad]∧OwnN .u8 5 w.heap.size out u W))):=by
  by_cases h1:65536<text.length
  · exact ⟨[],1,next,(fun x hx=>by cases hx),Nat.zero_le _,hnx2,.inr ⟨by decide,rfl⟩,fun g nx B rk v th tq w hnx hB hrk hg hh hq hnh hnq hst=>(QjP text v w.heap.size g nx B hnx hB sk rk next hsk hrk w hg (hst _ (ExtB.refl g w)) h1).mono fun e W hr=>⟨_,hr.1,Qbb .u8 5 _ _,ExtB.ext (ExtB.refl g w) hr.2,Qab hg hr.2⟩,fun v B w ht=>(Qg1 sk hsk hskb text v B w ht _ h1).mono fun e W hr=>⟨_,hr.1,hr.2,_,rfl,Qbb .u8 5 _ _⟩⟩
  by_cases h2:next=4294967295
  · exact ⟨[],8,next,(fun x hx=>by cases hx),Nat.zero_le _,hnx2,.inr ⟨by decide,rfl⟩,fun g nx B rk v th tq w hnx hB hrk hg hh hq hnh hnq hst=>(QjO text v w.heap.size g nx B hnx hB sk rk next hsk hrk w hg (hst _ (ExtB.refl g w)) (by omega) h2).mono fun e W hr=>⟨_,hr.1,Qbb .u8 5 _ _,ExtB.ext (ExtB.refl g w) hr.2,Qab hg hr.2⟩,fun v B w ht=>(Qg2 sk hsk hskb text v B w ht _ (by omega) (by omega) (by omega)).mono fun e W hr=>⟨_,hr.1,hr.2,_,rfl,Qbb .u8 5 _ _⟩⟩
  · exact ⟨msgV sk next text,0,next+1,QeW _ _ _,by rw [QgF]; omega,by omega,.inl ⟨rfl,rfl⟩,fun g nx B rk v th tq w hnx hB hrk hg hh hq hnh hnq hst=>(Qlf text v th tq g nx B hnx hB sk rk next hsk hrk w hg hh hq hnh hnq hst (by omega) (by omega)).mono fun e W ⟨u,e1,e2,e3,e4⟩=>⟨u,e1,e2,e3,e4⟩,fun v B w ht=>Qg3 sk hsk hskb text v B w ht next (by omega) (by omega)⟩
theorem QkP (rk : List Int) (hrk:rk.length=32) (hrkb:Qai rk) (n:Int) (text:List Int) :
    ∃ (out:List Int) (bad:Int),Qai out∧out.length≤65556∧(∀ (v:Value) (B:Nat) (w:World),RdK .u8 B text v w→Calls Tryd.prog 47 #[.agg (ints .u8 rk),.int .i64 n,v] w (QbD w (fun v W=>∃ u,v=.tuple #[u,.int .i64 bad]∧OwnN .u8 5 w.heap.size out u W))):=by
  by_cases h1:65536<text.length
  · exact ⟨[],1,(fun x hx=>by cases hx),Nat.zero_le _,fun v B w ht=>(Qg1 rk hrk hrkb text v B w ht _ h1).mono fun e W hr=>⟨_,hr.1,hr.2,_,rfl,Qbb .u8 5 _ _⟩⟩
  by_cases h2:n<0
  · exact ⟨[],8,(fun x hx=>by cases hx),Nat.zero_le _,fun v B w ht=>(QiD rk hrk hrkb text v B w ht _ (by omega) h2).mono fun e W hr=>⟨_,hr.1,hr.2,_,rfl,Qbb .u8 5 _ _⟩⟩
  by_cases h3:4294967294<n
  · exact ⟨[],8,(fun x hx=>by cases hx),Nat.zero_le _,fun v B w ht=>(Qg2 rk hrk hrkb text v B w ht _ (by omega) (by omega) h3).mono fun e W hr=>⟨_,hr.1,hr.2,_,rfl,Qbb .u8 5 _ _⟩⟩
  · obtain ⟨m,rfl⟩:∃ m:Nat,n=(m:Int):=⟨n.toNat,by omega⟩
    exact ⟨msgV rk m text,0,QeW _ _ _,by rw [QgF]; omega,fun v B w ht=>Qg3 rk hrk hrkb text v B w ht m (by omega) (by omega)⟩
theorem Qln {sl : List Int} (hb:Qai sl) (h:4≤sl.length):∃ m:Nat,m<4294967296∧sl.take 4=hdV m:=by
  match sl,h with
  | a::b::c::d::r,_ =>
    have ha:=hb a (by simp)
    have hb1:=hb b (by simp)
    have hc:=hb c (by simp)
    have hd:=hb d (by simp)
    refine ⟨(((a*256+b)*256+c)*256+d).toNat,by omega,?_⟩
    unfold hdV
    simp only [List.take_succ_cons,List.take_zero,List.cons.injEq,and_true]
    refine ⟨?_,?_,?_,?_⟩ <;> omega
theorem Qff (rk : List Int) (hrk:rk.length=32) (hrkb:Qai rk) (nx:Int) (B:Nat) (ts:List Int) (hI:WInv nx B ts) (hzb:∀ m∈ts,0≤m∧m≤4294967294) (hzl:ts.length≤1000000) (sl:List Int) (hsb:Qai sl) :
    ∃ (out:List Int) (bad mm nx2:Int) (B2:Nat) (ts2:List Int),Qai out∧out.length≤65556∧WInv nx2 B2 ts2∧((bad=0∧ts2=ts++[mm]∧0≤mm∧mm≤4294967294)∨(bad≠0∧ts2=ts))∧(∀ (g:Nat) (sk:List Int) (next:Nat) (v:Value) (th tq:TypeId) (w:World),sk.length=32→w.heap[g]? = some (.cells (cat [#[.int .i64 nx],#[.int .u64 ((B:Nat):Int)],ints .u8 (sk),ints .u8 (rk),#[.int .i64 ((next:Nat):Int)]]) 136)→(w.heap[2]? = some (.cells (ints .u32 [1634760805,857760878,2036477234,1797285236]) th))→(w.heap[3]? = some (.cells (ints .i64 [0,4,8,12,1,5,9,13,2,6,10,14,3,7,11,15,0,5,10,15,1,6,11,12,2,7,8,13,3,4,9,14]) tq))→2≠g→3≠g→(∀ W,ExtB g w W→RdK .u8 W.heap.size sl v W)→Calls Tryd.prog 49 #[.pointer (some ⟨g,0,none⟩),v] w (fun e W=>∃ u,e=.returned (.tuple #[u,errV bad])∧OwnN .u8 5 w.heap.size out u W∧ExtB g w W∧W.heap[g]? = some (.cells (cat [#[.int .i64 nx2],#[.int .u64 ((B2:Nat):Int)],ints .u8 (sk),ints .u8 (rk),#[.int .i64 ((next:Nat):Int)]]) 136)))∧(∀ (a_z:Option Addr) (c_z B9:Nat) (v:Value) (B:Nat) (w:World),RdK .i64 B9 ts (.slice a_z ts.length c_z) w→RdK .u8 B sl v w→Calls Tryd.prog 50 #[.agg (ints .u8 rk),.slice a_z ts.length c_z,v] w (QbD w (fun v W=>∃ u,v=.tuple #[.int .i64 mm,u,.int .i64 bad]∧OwnN .u8 5 w.heap.size out u W))):=by
  by_cases h1:sl.length<20
  · exact ⟨[],1,0,nx,B,ts,(fun x hx=>by cases hx),Nat.zero_le _,hI,.inr ⟨by decide,rfl⟩,fun g sk next v th tq w hsk hg hh hq hnh hnq hst=>(QjJ sl v th tq g nx B hI.hnx hI.hB sk rk next hsk hrk w hg hh hq hnh hnq (hst _ (ExtB.refl g w)) h1).mono fun e W hr=>⟨_,hr.1,Qbb .u8 5 _ _,ExtB.ext (ExtB.refl g w) hr.2,Qab hg hr.2⟩,fun a_z c_z B9 v B w hz ht=>(QjE rk hrk hrkb ts hzl a_z c_z B9 sl v B w hz hzb ht h1).mono fun e W hr=>⟨_,hr.1,hr.2,_,rfl,Qbb .u8 5 _ _⟩⟩
  by_cases h2:65556<sl.length
  · exact ⟨[],1,0,nx,B,ts,(fun x hx=>by cases hx),Nat.zero_le _,hI,.inr ⟨by decide,rfl⟩,fun g sk next v th tq w hsk hg hh hq hnh hnq hst=>(QjI sl v th tq g nx B hI.hnx hI.hB sk rk next hsk hrk w hg hh hq hnh hnq (hst _ (ExtB.refl g w)) h2).mono fun e W hr=>⟨_,hr.1,Qbb .u8 5 _ _,ExtB.ext (ExtB.refl g w) hr.2,Qab hg hr.2⟩,fun a_z c_z B9 v B w hz ht=>(QjD rk hrk hrkb ts hzl a_z c_z B9 sl v B w hz hzb ht h2).mono fun e W hr=>⟨_,hr.1,hr.2,_,rfl,Qbb .u8 5 _ _⟩⟩
  obtain ⟨m,hm,e4⟩:=Qln hsb (by omega)
  obtain ⟨fs,e5⟩:∃ z,sl.drop 4=z:=⟨_,rfl⟩
  have hcs:=QgU hI ((m:Nat):Int)
  by_cases hc:chkT ts ((m:Nat):Int)=0
  · have hcw:chkW nx B ((m:Nat):Int)=0:=hcs.trans hc
    by_cases hne:Qbx rk (nonV m) (hdV m) (fs.take (fs.length-16))=fs.drop (fs.length-16)
    · obtain ⟨text,es⟩:∃ z,mixV (QaF rk (nonV m)) 1 (fs.take (fs.length-16))=z:=⟨_,rfl⟩
      obtain ⟨nx2,B2,hI2,hmk⟩:=Qlj hI hc
      obtain ⟨c1,c2,-,-⟩:=Qex hc
      have lfs:fs.length=sl.length-4:=by rw [←e5,List.length_drop]
      exact ⟨text,0,((m:Nat):Int),nx2,B2,ts++[((m:Nat):Int)],es▸Qd3 _ _ _,by rw [←es,Qd2,List.length_take]; omega,hI2,.inl ⟨rfl,rfl,c1,by omega⟩,fun g sk next v th tq w hsk hg hh hq hnh hnq hst=>(QjM sl v th tq g nx B hI.hnx hI.hB sk rk next hsk hrk w hg hh hq hnh hnq hst m fs e4 e5 hm (by omega) (by omega) hsb hcw hne text es nx2 B2 (fun W hW=>hmk g sk rk next hsk hrk W hW)).mono fun e W ⟨u,d1,d2,d3,d4⟩=>⟨u,d1,d2,d3,d4⟩,fun a_z c_z B9 v B w hz ht=>QjH rk hrk hrkb ts hzl a_z c_z B9 sl v B w hz hzb ht m fs e4 e5 hm (by omega) (by omega) hsb hc hne text es⟩
    · exact ⟨[],2,((m:Nat):Int),nx,B,ts,(fun x hx=>by cases hx),Nat.zero_le _,hI,.inr ⟨by decide,rfl⟩,fun g sk next v th tq w hsk hg hh hq hnh hnq hst=>(QjK sl v th tq g nx B hI.hnx hI.hB sk rk next hsk hrk w hg hh hq hnh hnq (hst _ (ExtB.refl g w)) m fs e4 e5 hm (by omega) (by omega) hsb hcw hne).mono fun e W hr=>⟨_,hr.1,Qbb .u8 5 _ _,ExtB.ext (ExtB.refl g w) hr.2,Qab hg hr.2⟩,fun a_z c_z B9 v B w hz ht=>(QjF rk hrk hrkb ts hzl a_z c_z B9 sl v B w hz hzb ht m fs e4 e5 hm (by omega) (by omega) hsb hc hne).mono fun e W hr=>⟨_,hr.1,hr.2,_,rfl,Qbb .u8 5 _ _⟩⟩
  · have hcw:chkW nx B ((m:Nat):Int)≠0:=fun h=>hc (hcs.symm.trans h)
    exact ⟨[],chkT ts ((m:Nat):Int),0,nx,B,ts,(fun x hx=>by cases hx),Nat.zero_le _,hI,.inr ⟨hc,rfl⟩,fun g sk next v th tq w hsk hg hh hq hnh hnq hst=>(QjL sl v th tq g nx B hI.hnx hI.hB sk rk next hsk hrk w hg hh hq hnh hnq (hst _ (ExtB.refl g w)) m fs e4 e5 hm (by omega) (by omega) hcw).mono fun e W hr=>⟨_,by rw [errV_ne hc,←hcs]; exact hr.1,Qbb .u8 5 _ _,ExtB.ext (ExtB.refl g w) hr.2,Qab hg hr.2⟩,fun a_z c_z B9 v B w hz ht=>(QjG rk hrk hrkb ts hzl a_z c_z B9 sl v B w hz hzb ht m fs e4 e5 hm (by omega) (by omega) hc).mono fun e W hr=>⟨_,hr.1,hr.2,_,rfl,Qbb .u8 5 _ _⟩⟩
end Go.Proofs.YtoiendjhplbjjaaDoor.Ll
end
section
namespace Go.Proofs.YtoiendjhplbjjaaDoor.Auto
open Go Go.RowKit Go.WideShapes
open Rely
section
variable {H : Type} {enc : TypeId × Value → H} {P : Program} {W w : World} {r : Reach} {base b0 : Nat} {sp : Nat → Bool} {held : Bool}
end
end Go.Proofs.YtoiendjhplbjjaaDoor.Auto
end
section
namespace Go.Proofs.YtoiendjhplbjjaaDoor.Auto
open Go Go.RowKit
open Rely
theorem QdC {P : Program} {w:World}:∀ (laid:List (String×DataW Unit)) (ps:List MemPlace) (n:String) (d:DataW Unit),DataW.LaidVars P w laid ps→(n,d)∈laid →
    ∃ g t cs fuel p,P.globalNamed n=some g∧(P.globals[g]?).map (·.type)=some t∧w.var? P n=some cs∧DataW.trod (fun _=>()) P w 0 (fun _=>true) false fuel t cs.toList=some (d,p)∧∀ x∈MemPlace.row ⟨g,0,none⟩ cs.size,x∈ps
  | [],_,_,_,_,h=>by cases h
  | (n0,d0)::r,ps,n,d,⟨g,t,cs,fuel,p,q,h1,h2,h3,h4,h5,h6⟩,h=>by
    subst h6
    rcases List.mem_cons.1 h with h | h
    · cases h
      exact ⟨g,t,cs,fuel,p,h1,h2,h3,h4,fun x hx=>List.mem_append_left _ (List.mem_append_left _ hx)⟩
    · obtain ⟨g',t',cs',fuel',p',a,b,c,e,f⟩:=QdC r q n d h5 h
      exact ⟨g',t',cs',fuel',p',a,b,c,e,fun x hx=>List.mem_append_right _ (f x hx)⟩
theorem QiV {P : Program} {w:World} {laid:List (String×DataW Unit)} {n:String} {k:IntKind} {zs:List Int} {g:Nat} {t e:TypeId} {m:Nat} (h:laidMet P laid w) (hm:(n,Lib.tabData k zs)∈laid)
    (hg:P.globalNamed n=some g) (hty:(P.globals[g]?).map (·.type)=some t) (ht:P.underlying t=some (.array m e)) (he:P.underlying e=some (.int k)) (hce:P.cellsOf e=1) (hct:P.cellsOf t=m) (h0:0<zs.length) :
    ∃ t,w.heap[g]? = some (.cells (ints k zs) t):=by
  obtain ⟨ps,hL,-,hC⟩:=h
  obtain ⟨g',t',cs,fuel,p,hg',ht',hvar,hd,hin⟩:=QdC _ _ _ _ hL hm
  obtain rfl:=Option.some.inj (hg.symm.trans hg')
  obtain rfl:=Option.some.inj (hty.symm.trans ht')
  have hcs:=Lib.cells_of_tab ht he hce hct hd
  have hsz:0<cs.size:=by rw [←Array.length_toList,hcs,List.length_map]; exact h0
  obtain ⟨⟨c,t2,hc⟩,-⟩:=hC g 0 (hin _ (List.mem_map.2 ⟨0,List.mem_range.2 hsz,rfl⟩))
  unfold World.var? at hvar
  rw [hg] at hvar
  simp only [Option.bind_some,hc,Option.some.injEq] at hvar
  subst hvar
  refine ⟨t2,hc.trans ?_⟩
  rw [show c=ints k zs from by rw [ints,←hcs]]
theorem Qjj {bs : List Int} (h:∀ n∈bs,(Lit.int .u8 n).wf=true):Qai bs:=fun n hn=>by
  have:=h n hn
  simpa [Lit.wf,IntKind.min,IntKind.max,IntKind.signed,IntKind.bits] using this
end Go.Proofs.YtoiendjhplbjjaaDoor.Auto
end
section
namespace Go.Proofs.YtoiendjhplbjjaaDoor.Auto
open Go Go.RowKit Go.WideShapes Go.ChangeShapes Go.ChangeAt
open Rely Go.Deep
section
variable {H : Type} {enc : TypeId × Value → H} {P : Program} {w : World} {b0 : Nat} {held : Bool}
structure OpV4 where
  kind:Int
  a:Option Addr
  c:Nat
  xs:List Int
  n:Int
  b:Int
def OpAt4 (w : World) (gT oT i:Nat) (o:OpV4):Prop :=
  w.cell? ⟨gT,oT+i*4,none⟩=some (.int .i64 o.kind)∧w.cell? ⟨gT,oT+i*4+1,none⟩=some (.slice o.a o.xs.length o.c)∧w.cell? ⟨gT,oT+i*4+2,none⟩=some (.int .i64 o.n)∧w.cell? ⟨gT,oT+i*4+3,none⟩=some (.int .u8 o.b) ∧
    RdK .u8 w.heap.size o.xs (.slice o.a o.xs.length o.c) w∧Qai o.xs∧(Lit.int .i64 o.kind).wf=true∧(Lit.int .i64 o.n).wf=true∧(Lit.int .u8 o.b).wf=true
theorem Qjn (x : Addr) (i j:Nat):(x.add i).add j=x.add (i+j):=by
  by_cases hi:i=0 <;> by_cases hj:j=0 <;> simp [Addr.add,hi,hj,Nat.add_assoc]
end
end Go.Proofs.YtoiendjhplbjjaaDoor.Auto
end
section
namespace Go.Proofs.YtoiendjhplbjjaaDoor.Ll
open Go Go.RowKit
open Rely Auto Own Sha
def OwnR (T : TypeId) (base:Nat) (vs:List Value) (v:Value) (W:World):Prop:=W.ownsRow base T 1 v vs.length vs∧vs.length≤maxLen
theorem OwnR.keep {T : TypeId} {base:Nat} {vs:List Value} {v:Value} {W W':World} (h:OwnR T base vs v W) (hk:∀ g,v.ownBlock=some g→W'.heap[g]? = W.heap[g]?):OwnR T base vs v W':=by
  obtain ⟨⟨h1,h2⟩,hm⟩:=h
  refine ⟨⟨h1,?_⟩,hm⟩
  rcases h2 with h2 | ⟨g,c,cur,rfl,q2,q3,q4,q5,q6,q7⟩
  · exact .inl h2
  · exact .inr ⟨g,c,cur,rfl,q2,(hk g rfl).trans q3,q4,q5,q6,q7⟩
theorem OwnR.at {T : TypeId} {base:Nat} {vs:List Value} {v:Value} {W:World} (h:OwnR T base vs v W) {g:Nat} (hg:v.ownBlock=some g):base≤g∧∃ cur,W.heap[g]? = some (.cells cur T):=by
  rcases h.1.2 with ⟨rfl,_⟩ | ⟨g',c,cur,rfl,q2,q3,_⟩
  · cases hg
  · obtain rfl:g'=g:=Option.some.inj hg
    exact ⟨q2,cur,q3⟩
theorem OwnN.typ {k : IntKind} {T:TypeId} {base:Nat} {xs:List Int} {v:Value} {W:World} (h:OwnN k T base xs v W) {g:Nat} (hg:v.ownBlock=some g):∃ cur,W.heap[g]? = some (.cells cur T):=by
  rcases h.1.2 with ⟨rfl,_⟩ | ⟨g',c,cur,rfl,q2,q3,_⟩
  · cases hg
  · obtain rfl:g'=g:=Option.some.inj hg
    exact ⟨cur,q3⟩
theorem QeL {W : World} {g:Nat} {c c':Array Value} {T T':TypeId} (h:W.heap[g]? = some (.cells c T)) (h':W.heap[g]? = some (.cells c' T')) (hne:T≠T'):False:=by
  rw [h] at h'
  simp only [Option.some.injEq,Obj.cells.injEq] at h'
  exact hne h'.2.1
theorem OwnR.cell {T : TypeId} {base:Nat} {vs:List Value} {v u:Value} {W:World} {i:Nat} (h:OwnR T base vs v W) (hi:vs[i]? = some u):∃ g c,v=.slice (some ⟨g,0,none⟩) vs.length c∧base≤g∧g<W.heap.size∧W.cell? ⟨g,0+i,none⟩=some u:=by
  have hl:i<vs.length:=(List.getElem?_eq_some_iff.1 hi).1
  rcases h.1.2 with ⟨_,h1⟩ | ⟨g,c,cur,h1,h2,h3,h4,h5,h6,h7⟩
  · omega
  · refine ⟨g,c,h1,h2,Qa0 h3,?_⟩
    rw [Nat.zero_add]
    refine Qdw h3 ?_
    rw [Nat.mul_one] at h7
    have e:(cur.toList.take vs.length)[i]? = vs[i]?:=by rw [h7]
    rw [List.getElem?_take_of_lt hl,hi] at e
    rw [←Array.getElem?_toList]
    exact e
theorem QbG {k : IntKind} {T T':TypeId} {base g:Nat} {xs:List Int} {v:Value} {W:World} {c:Array Value} (h:OwnN k T base xs v W) (r:W.heap[g]? = some (.cells c T')) (hne:T≠T'):v.ownBlock≠some g:=fun e=>by
  obtain ⟨c2,hc⟩:=OwnN.typ h e
  exact QeL hc r hne
section
variable {ds : List Deferred} {P : Program} {ops : Array Oper} {Q : Exit → Act → World → Prop} {rest : List Oper} {o : Oper} {N : Nat} {L : Env} {W : World}
end
theorem Qd8 {W W':World} {ob:Option Nat} {g:Nat} {o:Obj} (h:W.grownBy W' ob) (r:W.heap[g]? = some o) (hn:ob≠some g):W'.heap[g]? = some o:=(h.block g (Qa0 r) (fun e=>hn e.symm)).trans r
theorem Qip {w W W':World} {ob:Option Nat} (e:Ext w W) (h:W.grownBy W' ob) (hge:∀ g,ob=some g→w.heap.size≤g):Ext w W' :=
  ⟨h.os.trans e.os,h.tape.trans e.tape,h.output.trans e.output,qT e.size h.size,fun i hi=>(h.block i (qL hi e.size) (fun q=>by have:=hge i q.symm; omega)).trans (e.block i hi)⟩
def Many (T : TypeId) (base:Nat) (f:Nat→List Int) (vs:List Value) (W:World):Prop:=∀ j u,vs[j]? = some u→OwnN .u8 T base (f j) u W
theorem Many.keep {T : TypeId} {base:Nat} {f:Nat→List Int} {vs:List Value} {W W':World} (h:Many T base f vs W) (hk:∀ (g:Nat) (c:Array Value),W.heap[g]? = some (Obj.cells c T)→W'.heap[g]? = W.heap[g]?):Many T base f vs W':=fun j u hu =>
  (h j u hu).keep fun g hg=>by
    obtain ⟨c,hc⟩:=OwnN.typ (h j u hu) hg
    exact hk g c hc
theorem Many.ext {T : TypeId} {base:Nat} {f:Nat→List Int} {vs:List Value} {W W':World} (h:Many T base f vs W) (e:Ext W W'):Many T base f vs W':=fun j u hu=>(h j u hu).ext e
theorem Many.but {T T':TypeId} {base g:Nat} {f:Nat→List Int} {vs:List Value} {W W':World} {c':Array Value} (h:Many T base f vs W) (q:ExtB g W W') (r:W.heap[g]? = some (.cells c' T')) (hne:T≠T'):Many T base f vs W' :=
  h.keep fun k c hc=>q.2.2.2.2 k (Qa0 hc) fun e=>by subst e; exact QeL hc r hne
theorem Many.puts {T T':TypeId} {base g:Nat} {f:Nat→List Int} {vs:List Value} {W W':World} {c':Array Value} (h:Many T base f vs W) (p:Puts W g W') (r:W.heap[g]? = some (.cells c' T')) (hne:T≠T'):Many T base f vs W' :=
  h.keep fun k c hc=>p.2.2.2.2 k fun e=>by subst e; exact QeL hc r hne
theorem OwnR.ext {T : TypeId} {base:Nat} {vs:List Value} {v:Value} {W W':World} (h:OwnR T base vs v W) (e:Ext W W'):OwnR T base vs v W':=h.keep fun g hg=>by
  obtain ⟨_,c,hc⟩:=h.at hg
  exact e.block g (Qa0 hc)
theorem OwnR.but {T T':TypeId} {base g:Nat} {vs:List Value} {v:Value} {W W':World} {c':Array Value} (h:OwnR T base vs v W) (q:ExtB g W W') (r:W.heap[g]? = some (.cells c' T')) (hne:T≠T'):OwnR T base vs v W':=h.keep fun k hk=>by
  obtain ⟨_,c,hc⟩:=h.at hk
  exact q.2.2.2.2 k (Qa0 hc) fun e=>by subst e; exact QeL hc r hne
theorem OwnR.puts {T T':TypeId} {base g:Nat} {vs:List Value} {v:Value} {W W':World} {c':Array Value} (h:OwnR T base vs v W) (p:Puts W g W') (r:W.heap[g]? = some (.cells c' T')) (hne:T≠T'):OwnR T base vs v W':=h.keep fun k hk=>by
  obtain ⟨_,c,hc⟩:=h.at hk
  exact p.2.2.2.2 k fun e=>by subst e; exact QeL hc r hne
end Go.Proofs.YtoiendjhplbjjaaDoor.Ll
end
section
namespace Go.Proofs.YtoiendjhplbjjaaDoor.Ll
open Go Go.RowKit
open Rely Auto Own Sha Sha
open Cha Ae
theorem Qgb {P : Program} {ρ:Operand→Value} {o:Oper} {w:World} (t:TypeId) (x y:Operand) (k:IntKind) (n g off len cap:Nat) (e:TypeId) (sz:Nat) (ho:o.op=.indexAddr t x y) (hx:ρ x=.slice (some ⟨g,off,none⟩) len cap) (hy:ρ y=.int k n)
    (hu:P.underlying t=some (.slice e)) (hs:(P.info? e).map (·.size)=some sz) (hn:n<len):(execOp ρ o).run P w=.ok (.value (.pointer (some ⟨g,off+n*sz,none⟩))) w:=by
  cases hq:P.info? e with
  | none=>simp [hq] at hs
  | some i =>
    have hs':i.size=sz:=by simpa [hq] using hs
    have hadd:(⟨g,off,none⟩:Addr).add (n*sz)=⟨g,off+n*sz,none⟩:=by unfold Addr.add; split <;> simp_all
    have h0:(0:Int)≤(n:Int):=by omega
    have h1:(n:Int)<(len:Int):=by omega
    unfold execOp
    simp only [ho,hx,hy]
    simp [Instr.indexAt,asIntOf,run_underlying hu,sizeOf,typeInfo,hq,hs',h0,hn,hadd]
theorem Qgc {w : World} {g k:Nat} {v:Value} (h:w.cell? ⟨g,k,none⟩=some v):∃ cs t fr,w.heap[g]? = some (.cells cs t fr):=by
  unfold World.cell? at h
  split at h
  · next c t f e=>exact ⟨c,t,f,e⟩
  · cases h
theorem QeP {P : Program} {ρ:Operand→Value} {o:Oper} {w:World} (t:TypeId) (x y:Operand) (k:IntKind) (n g off len cap:Nat) (e:TypeId) (sz:Nat) (ad:Option Addr) (ha:ad=some ⟨g,off,none⟩) (ho:o.op=.indexAddr t x y) (hx:ρ x=.slice ad len cap) (hy:ρ y=.int k n)
    (hu:P.underlying t=some (.slice e)) (hs:(P.info? e).map (·.size)=some sz) (hn:n<len):(execOp ρ o).run P w=.ok (.value (.pointer (some ⟨g,off+n*sz,none⟩))) w:=by
  subst ha
  exact Qgb t x y k n g off len cap e sz ho hx hy hu hs hn
theorem OpAt4.ext {w W:World} {gT oT i:Nat} {o:OpV4} (h:OpAt4 w gT oT i o) (e:Ext w W):OpAt4 W gT oT i o:=by
  obtain ⟨h1,h2,h3,h4,h5,h6⟩:=h
  have hb:∀ {k:Nat} {v:Value},w.cell? ⟨gT,k,none⟩=some v→W.cell? ⟨gT,k,none⟩=some v:=fun h=>by
    rw [←h]; exact World.cell?_of_block (e.block gT (Qee h))
  exact ⟨hb h1,hb h2,hb h3,hb h4,RdK.here (h5.ext e),h6⟩
theorem OpAt4.rd {w : World} {gT oT i:Nat} {o:OpV4} (h:OpAt4 w gT oT i o):RdK .u8 w.heap.size o.xs (.slice o.a o.xs.length o.c) w:=h.2.2.2.2.1
theorem OpAt4.bytes {w : World} {gT oT i:Nat} {o:OpV4} (h:OpAt4 w gT oT i o):Qai o.xs:=h.2.2.2.2.2.1
theorem OpAt4.num {w : World} {gT oT i:Nat} {o:OpV4} (h:OpAt4 w gT oT i o):(Lit.int .i64 o.n).wf=true:=h.2.2.2.2.2.2.2.1
theorem OpAt4.bad {w : World} {gT oT i:Nat} {o:OpV4} (h:OpAt4 w gT oT i o):(Lit.int .u8 o.b).wf=true:=h.2.2.2.2.2.2.2.2
theorem Qej {P : Program} {ρ:Operand→Value} {o:Oper} {w:World} (ty:TypeId) (x:Operand) (g oT i:Nat) (v:OpV4) (h:OpAt4 w g oT i v)
    (ho:o.op=.load ty x) (hx:ρ x=.pointer (some ⟨g,oT+i*4,none⟩)) (hu:aggD P ty=some true) (hi:(P.info? ty).map (·.size)=some 4):(execOp ρ o).run P w=.ok (.value (.agg (cat [#[.int .i64 v.kind],#[.slice v.a v.xs.length v.c],#[.int .i64 v.n],#[.int .u8 v.b]]))) w:=by
  obtain ⟨h1,h2,h3,h4,-⟩:=h
  obtain ⟨cs,t,fr,hg⟩:=Qgc h1
  have c:∀ {k:Nat} {u:Value},w.cell? ⟨g,k,none⟩=some u→cs[k]? = some u:=fun h=>by
    unfold World.cell? at h
    simp only [hg] at h
    rw [←h]; rfl
  refine QaS ty x g (oT+i*4) t cs _ fr hg ho hx (fun j u hv=>?_) hu (by rw [hi]; rfl)
  rcases j with _ | _ | _ | _ | j
  · have e:some (Value.int .i64 v.kind)=some u:=hv
    rw [←e]; exact c h1
  · have e:some (Value.slice v.a v.xs.length v.c)=some u:=hv
    rw [←e]; exact c h2
  · have e:some (Value.int .i64 v.n)=some u:=hv
    rw [←e]; exact c h3
  · have e:some (Value.int .u8 v.b)=some u:=hv
    rw [←e]; exact c h4
  · simp [cat] at hv
theorem numV (n : Int) (w:World):Calls Tryd.prog 25 #[errV n] w (Ret w (.int .i64 n)):=by
  by_cases h:n=0
  · subst h; rw [errV_nil rfl]; exact numZ w
  · rw [errV_ne h]; exact numE n h w
theorem OwnN.grownN {k k2:IntKind} {T T':TypeId} {base b2:Nat} {xs ys:List Int} {u v:Value} {W W':World} (h:OwnN k T base xs u W) (q:W.grownBy W' v.ownBlock) (ho:OwnN k2 T' b2 ys v W) (hne:T≠T'):OwnN k T base xs u W' :=
  h.keep fun g hg=>by
    obtain ⟨c,hc⟩:=OwnN.typ h hg
    refine q.block g (Qa0 hc) fun e=>?_
    obtain ⟨c2,h2⟩:=OwnN.typ ho e.symm
    exact QeL hc h2 hne
section
variable {ds : List Deferred} {P : Program} {ops : Array Oper} {Q : Exit → Act → World → Prop} {rest : List Oper} {o : Oper} {N : Nat} {L : Env} {W : World}
theorem QdA {k : IntKind} {T:TypeId} (base b:Nat) (s x:Operand) (t:TypeId) (ho:o.op=.call { callee:=.builtin .append,args:=#[s,x],argTypes:=#[t,t] })
    (ht:P.underlying t=some (.slice T)) (hi:(P.info? T).map (fun i=>(i.zero,i.size,i.bytes))=some (some (.int k 0),1,b)) (hb8:b≤8) (d:Nat) (hd:o.dst=some d) (hg:QbT ops o N L=some true) {B:Nat} {v y:Value} {xs ys:List Int}
    (hs:Rely.look (envN N L) s=v) (hx:Rely.look (envN N L) x=y)
    (h:OwnN k T base xs v W) (hy:RdK k B ys y W) (hn:xs.length+ys.length≤1000000000) (hV:base≤W.heap.size)
    (kk:∀ (u:Value) (W':World),OwnN k T base (xs++ys) u W'→W.grownBy W' v.ownBlock→WL P ops Q rest (Qaz ds N ((d,u)::L)) W'):WL P ops Q (o::rest) (Qaz ds N L) W:=by
  obtain ⟨v',W',h1,h2,h3,h4⟩:=QdX (ρ:=Rely.look (envN N L)) (o:=o) (W:=W) s x t ho ht hi hb8 hs hx h hy hn hV
  exact Qcn _ _ d hd hg h1 (kk v' W' h2 h3)
end
theorem Qfr {ts : List Int} {x:Int} (h:∀ m∈ts,0≤m∧m≤4294967294) (h0:0≤x) (h1:x≤4294967294):∀ m∈ts++[x],0≤m∧m≤4294967294:=fun m hm=>by
  rcases List.mem_append.1 hm with h2 | h2
  · exact h m h2
  · simp only [List.mem_cons,List.not_mem_nil,or_false] at h2
    subst h2
    exact ⟨h0,h1⟩
theorem QgI (len cap gT oT:Nat) (ad:Option Addr) (ops:Nat→OpV4) (w:World) (had:0<len→ad=some ⟨gT,oT,none⟩) (hops:∀ i,i<len→OpAt4 w gT oT i (ops i)) (hb:∀ i,i<len→(ops i).xs.length≤1048576):Calls Tryd.prog 42 #[.slice ad len cap] w (fun e W=>∃ b,e=.returned (.bool b)∧Ext w W∧(b=false→∀ i,i<len→i≤60∧((ops i).xs.length≤300∨65536<(ops i).xs.length))∧(b=true→¬ ∀ i,i<len→i≤60∧((ops i).xs.length≤300∨65536<(ops i).xs.length))):=by
 refine enter 27 [(0,.slice ad len cap)] Tryd.func42 rfl rfl kj rfl ?_
 refine wp_seq_k fun K1 hK1=>?_
 refine Qac ?_
 refine Qaa (.bool false) 2 rfl kj kj ?_
 refine Qae ?_
 refine hK1 _ _ ?_
 refine wp_seq_k fun K2 hK2=>?_
 refine wp_seq_k fun K3 hK3=>?_
 refine Qac ?_
 refine Qaa (.slice ad len cap) 5 rfl kj kj ?_
 refine Qaa (.int .i64 ((len:Nat):Int)) 6 rfl kj kj ?_
 refine Qaa (.int .i64 0) 7 rfl kj kj ?_
 refine Qae ?_
 refine hK3 _ _ ?_
 refine wp_block ?_
 refine QaB (fun (s1:Nat)=>[(5,.slice ad len cap),(6,.int .i64 ((len:Nat):Int)),(7,.int .i64 ((s1:Nat):Int))]) (fun (s1:Nat) W=>(s1≤len)∧(∀ j,j<s1→j≤60∧((ops j).xs.length≤300∨65536<(ops j).xs.length))∧(Ext w W)∧(Ext w W)) (fun (s1:Nat)=>len-s1) 0 ⟨rfl,rfl,rfl,trivial⟩ ⟨(Nat.zero_le _),(fun j hj=>absurd hj (Nat.not_lt_zero j)),(Rely.Ext.refl w),(Rely.Ext.refl w)⟩ fun s1 X1 V1 hI1=>?_
 obtain ⟨i,hs1⟩:∃ z,z=s1:=⟨_,rfl⟩
 subst hs1
 obtain ⟨hi,hsm,kk1,xx1⟩:=hI1
 replace hi:i≤len:=hi
 replace hsm:∀ j,j<i→j≤60∧((ops j).xs.length≤300∨65536<(ops j).xs.length):=hsm
 replace kk1:Ext w V1:=kk1
 replace xx1:Ext w V1:=xx1
 have e1:=kk1
 refine wp_seq_k fun K4 hK4=>?_
 refine Qac ?_
 refine Qaa (.bool (decide (((i:Nat):Int)<((len:Nat):Int)))) 8 rfl kj kj ?_
 refine Qae ?_
 refine hK4 _ _ ?_
 refine wp_seq_k fun K5 hK5=>?_
 refine Qa7 (t:=decide (((i:Nat):Int)<((len:Nat):Int))) kj (fun c6=>?_) (fun c6=>?_)
 ·skip
  have hlt:i<len:=by have:=of_decide_eq_true c6; omega
  obtain ⟨op,hopE⟩:∃ z,z=ops i:=⟨_,rfl⟩
  have hop:OpAt4 w gT oT i op:=hopE▸hops i hlt
  refine wp_skip ?_
  refine hK5 _ _ ?_
  refine wp_seq_k fun K7 hK7=>?_
  refine wp_block ?_
  refine wp_seq_k fun K8 hK8=>?_
  refine Qac ?_
  refine Qaa (.int .i64 ((i:Nat):Int)) 9 rfl kj kj ?_
  refine Qaa (.pointer (some ⟨gT,oT+i*4,none⟩)) 10 rfl kj (QeP 62 _ _ .i64 i gT oT len cap 68 4 ad (had (by omega)) rfl kj kj kj kj hlt) ?_
  refine Qaa (.agg (cat [#[.int .i64 op.kind],#[.slice op.a op.xs.length op.c],#[.int .i64 op.n],#[.int .u8 op.b]])) 11 rfl kj (Qej 68 _ gT oT i op (OpAt4.ext hop xx1) rfl kj kj kj) ?_
  refine Qas (cat [#[.int .i64 0],#[.slice none 0 0],#[.int .i64 0],#[.int .u8 0]]) 68 4 rfl kj kj fun g9 W2 l9 e2 r9_2=>?_
  have x2:Ext w W2:=Ext.tr xx1 e2
  have b9:w.heap.size≤g9:=qT xx1.size l9
  refine Qaa (.int .i64 ((i:Nat):Int)) 3 rfl kj kj ?_
  refine Qal g9 _ (cat [#[.int .i64 op.kind],#[.slice op.a op.xs.length op.c],#[.int .i64 op.n],#[.int .u8 op.b]]) 68 r9_2 rfl kj (Qav 68 _ _ g9 68 _ _ r9_2 rfl kj kj (isz (n:=4) kj kj) (eqsz (n:=4) kj kj) kj) fun W3 p3 r9_3=>?_
  have x3:Ext w W3:=Puts.ext p3 x2 b9
  refine Qae ?_
  refine hK8 _ _ ?_
  refine wp_seq_k fun K10 hK10=>?_
  rcases (show 60<i∨(i≤60∧300<op.xs.length∧op.xs.length≤65536)∨(i≤60∧65536<op.xs.length)∨(i≤60∧op.xs.length≤300) by omega) with hq | hq | hq | hq
  ·skip
   refine Qac ?_
   refine Qaa (.int .i64 ((i:Nat):Int)) 12 rfl kj kj ?_
   refine Qaa (.bool true) 13 rfl kj (Qad (u:=.bool (decide (((i:Nat):Int)>60))) kj (congrArg Value.bool (decide_eq_true (by omega)))) ?_
   refine Qaa (.bool true) 14 rfl kj kj ?_
   refine Qa3 15 rfl kj ?_
   refine Qa3 16 rfl kj ?_
   refine Qa3 17 rfl kj ?_
   refine Qa3 18 rfl kj ?_
   refine Qa3 19 rfl kj ?_
   refine Qa3 20 rfl kj ?_
   refine Qa3 21 rfl kj ?_
   refine Qa3 22 rfl kj ?_
   refine Qa3 23 rfl kj ?_
   refine Qa3 24 rfl kj ?_
   refine Qaa (.bool true) 25 rfl kj kj ?_
   refine Qae ?_
   refine hK10 _ _ ?_
   refine cond_true kj ?_
   refine wp_seq_k fun K11 hK11=>?_
   refine Qac ?_
   refine Qaa (.bool true) 2 rfl kj kj ?_
   refine Qae ?_
   refine hK11 _ _ ?_
   refine wp_ret ?_
   repeat (first | with_reducible refine goR1 ?_ | with_reducible refine goR2 ?_)
   exact (show bodyPost _ _ _ .ret _ _ from ret1 (.bool true) rfl (Qaq kj) ⟨true,rfl,x3,(fun h=>by cases h),fun _ h=>by have h9:=h i hlt; rw [←hopE] at h9; omega⟩)
  ·skip
   refine Qac ?_
   refine Qaa (.int .i64 ((i:Nat):Int)) 12 rfl kj kj ?_
   refine Qaa (.bool false) 13 rfl kj (Qad (u:=.bool (decide (((i:Nat):Int)>60))) kj (congrArg Value.bool (decide_eq_false (by omega)))) ?_
   refine Qaa (.bool false) 14 rfl kj kj ?_
   refine Qaa (.pointer (some ⟨g9,1,none⟩)) 15 rfl kj kj ?_
   refine Qaa (.slice op.a op.xs.length op.c) 16 rfl kj (Qah 33 _ g9 1 68 _ (.slice op.a op.xs.length op.c) _ r9_3 rfl kj kj kj) ?_
   refine Qaa (.int .i64 ((op.xs.length:Nat):Int)) 17 rfl kj kj ?_
   refine Qaa (.bool true) 18 rfl kj (Qad (u:=.bool (decide (((op.xs.length:Nat):Int)>300))) kj (congrArg Value.bool (decide_eq_true (by omega)))) ?_
   refine Qaa (.bool true) 19 rfl kj kj ?_
   refine Qaa (.pointer (some ⟨g9,1,none⟩)) 20 rfl kj kj ?_
   refine Qaa (.slice op.a op.xs.length op.c) 21 rfl kj (Qah 33 _ g9 1 68 _ (.slice op.a op.xs.length op.c) _ r9_3 rfl kj kj kj) ?_
   refine Qaa (.int .i64 ((op.xs.length:Nat):Int)) 22 rfl kj kj ?_
   refine Qaa (.bool true) 23 rfl kj (Qad (u:=.bool (decide (((op.xs.length:Nat):Int)≤65536))) kj (congrArg Value.bool (decide_eq_true (by omega)))) ?_
   refine Qaa (.bool true) 24 rfl kj kj ?_
   refine Qaa (.bool true) 25 rfl kj kj ?_
   refine Qae ?_
   refine hK10 _ _ ?_
   refine cond_true kj ?_
   refine wp_seq_k fun K12 hK12=>?_
   refine Qac ?_
   refine Qaa (.bool true) 2 rfl kj kj ?_
   refine Qae ?_
   refine hK12 _ _ ?_
   refine wp_ret ?_
   repeat (first | with_reducible refine goR1 ?_ | with_reducible refine goR2 ?_)
   exact (show bodyPost _ _ _ .ret _ _ from ret1 (.bool true) rfl (Qaq kj) ⟨true,rfl,x3,(fun h=>by cases h),fun _ h=>by have h9:=h i hlt; rw [←hopE] at h9; omega⟩)
  ·skip
   refine Qac ?_
   refine Qaa (.int .i64 ((i:Nat):Int)) 12 rfl kj kj ?_
   refine Qaa (.bool false) 13 rfl kj (Qad (u:=.bool (decide (((i:Nat):Int)>60))) kj (congrArg Value.bool (decide_eq_false (by omega)))) ?_
   refine Qaa (.bool false) 14 rfl kj kj ?_
   refine Qaa (.pointer (some ⟨g9,1,none⟩)) 15 rfl kj kj ?_
   refine Qaa (.slice op.a op.xs.length op.c) 16 rfl kj (Qah 33 _ g9 1 68 _ (.slice op.a op.xs.length op.c) _ r9_3 rfl kj kj kj) ?_
   refine Qaa (.int .i64 ((op.xs.length:Nat):Int)) 17 rfl kj kj ?_
   refine Qaa (.bool true) 18 rfl kj (Qad (u:=.bool (decide (((op.xs.length:Nat):Int)>300))) kj (congrArg Value.bool (decide_eq_true (by omega)))) ?_
   refine Qaa (.bool true) 19 rfl kj kj ?_
   refine Qaa (.pointer (some ⟨g9,1,none⟩)) 20 rfl kj kj ?_
   refine Qaa (.slice op.a op.xs.length op.c) 21 rfl kj (Qah 33 _ g9 1 68 _ (.slice op.a op.xs.length op.c) _ r9_3 rfl kj kj kj) ?_
   refine Qaa (.int .i64 ((op.xs.length:Nat):Int)) 22 rfl kj kj ?_
   refine Qaa (.bool false) 23 rfl kj (Qad (u:=.bool (decide (((op.xs.length:Nat):Int)≤65536))) kj (congrArg Value.bool (decide_eq_false (by omega)))) ?_
   refine Qaa (.bool false) 24 rfl kj kj ?_
   refine Qaa (.bool false) 25 rfl kj kj ?_
   refine Qae ?_
   refine hK10 _ _ ?_
   refine cond_false kj ?_
   refine wp_skip ?_
   refine hK7 _ _ ?_
   refine Qac ?_
   refine Qaa (.int .i64 ((i+1:Nat):Int)) 26 rfl kj (Qad (u:=.int .i64 (IntKind.i64.wrap (((i:Nat):Int)+1))) kj (congrArg (Value.int .i64) (i64n _ _ (by omega) (by omega)))) ?_
   refine Qaa (.int .i64 ((i+1:Nat):Int)) 7 rfl kj kj ?_
   refine Qae ?_
   have y0_2:Ext w W2:=(Rely.Ext.trans e1 e2)
   have y0_3:Ext w W3:=(Puts.ext p3 y0_2 (qT e1.size l9))
   repeat (first | with_reducible refine goX1 ?_ | with_reducible refine goX2 ?_ | with_reducible refine goX3 ?_)
   exact Qax (i+1) ⟨rfl,rfl,rfl,trivial⟩ ⟨(by omega),(fun j hj=>(Nat.lt_or_ge j i).elim (hsm j) fun h=>by have e:j=i:=(by omega); rw [e]; exact ⟨by omega,hopE▸(by omega)⟩),y0_3,x3⟩ (by omega)
  ·skip
   refine Qac ?_
   refine Qaa (.int .i64 ((i:Nat):Int)) 12 rfl kj kj ?_
   refine Qaa (.bool false) 13 rfl kj (Qad (u:=.bool (decide (((i:Nat):Int)>60))) kj (congrArg Value.bool (decide_eq_false (by omega)))) ?_
   refine Qaa (.bool false) 14 rfl kj kj ?_
   refine Qaa (.pointer (some ⟨g9,1,none⟩)) 15 rfl kj kj ?_
   refine Qaa (.slice op.a op.xs.length op.c) 16 rfl kj (Qah 33 _ g9 1 68 _ (.slice op.a op.xs.length op.c) _ r9_3 rfl kj kj kj) ?_
   refine Qaa (.int .i64 ((op.xs.length:Nat):Int)) 17 rfl kj kj ?_
   refine Qaa (.bool false) 18 rfl kj (Qad (u:=.bool (decide (((op.xs.length:Nat):Int)>300))) kj (congrArg Value.bool (decide_eq_false (by omega)))) ?_
   refine Qaa (.bool false) 19 rfl kj kj ?_
   refine Qa3 20 rfl kj ?_
   refine Qa3 21 rfl kj ?_
   refine Qa3 22 rfl kj ?_
   refine Qa3 23 rfl kj ?_
   refine Qaa (.bool false) 24 rfl kj kj ?_
   refine Qaa (.bool false) 25 rfl kj kj ?_
   refine Qae ?_
   refine hK10 _ _ ?_
   refine cond_false kj ?_
   refine wp_skip ?_
   refine hK7 _ _ ?_
   refine Qac ?_
   refine Qaa (.int .i64 ((i+1:Nat):Int)) 26 rfl kj (Qad (u:=.int .i64 (IntKind.i64.wrap (((i:Nat):Int)+1))) kj (congrArg (Value.int .i64) (i64n _ _ (by omega) (by omega)))) ?_
   refine Qaa (.int .i64 ((i+1:Nat):Int)) 7 rfl kj kj ?_
   refine Qae ?_
   have y0_2:Ext w W2:=(Rely.Ext.trans e1 e2)
   have y0_3:Ext w W3:=(Puts.ext p3 y0_2 (qT e1.size l9))
   repeat (first | with_reducible refine goX1 ?_ | with_reducible refine goX2 ?_ | with_reducible refine goX3 ?_)
   exact Qax (i+1) ⟨rfl,rfl,rfl,trivial⟩ ⟨(by omega),(fun j hj=>(Nat.lt_or_ge j i).elim (hsm j) fun h=>by have e:j=i:=(by omega); rw [e]; exact ⟨by omega,hopE▸(by omega)⟩),y0_3,x3⟩ (by omega)
 ·skip
  have heq:i=len:=by have:=of_decide_eq_false c6; omega
  refine wp_exit ?_
  refine hK2 _ _ ?_
  refine wp_seq_k fun K13 hK13=>?_
  refine Qac ?_
  refine Qaa (.bool false) 2 rfl kj kj ?_
  refine Qae ?_
  refine hK13 _ _ ?_
  refine wp_ret ?_
  repeat (first | with_reducible refine goR1 ?_ | with_reducible refine goR2 ?_)
  exact (show bodyPost _ _ _ .ret _ _ from ret1 (.bool false) rfl (Qaq kj) ⟨false,rfl,xx1,(fun _ j hj=>hsm j (by omega)),fun h=>by cases h⟩)
theorem Qig (len cap gT oT:Nat) (ad:Option Addr) (ops:Nat→OpV4) (w:World) (had:0<len→ad=some ⟨gT,oT,none⟩) (hops:∀ i,i<len→OpAt4 w gT oT i (ops i)) (hb:∀ i,i<len→(ops i).xs.length≤1048576) (h:¬ ∀ i,i<len→i≤60∧((ops i).xs.length≤300∨65536<(ops i).xs.length)):Calls Tryd.prog 42 #[.slice ad len cap] w (Ret w (.bool true)) :=
  (QgI len cap gT oT ad ops w had hops hb).mono fun e W ⟨b,h1,h2,h3,h4⟩=>by
    cases b with
    | true=>exact ⟨h1,h2⟩
    | false=>exact absurd (h3 rfl) h
theorem Qih (len cap gT oT:Nat) (ad:Option Addr) (ops:Nat→OpV4) (w:World) (had:0<len→ad=some ⟨gT,oT,none⟩) (hops:∀ i,i<len→OpAt4 w gT oT i (ops i)) (hb:∀ i,i<len→(ops i).xs.length≤1048576) (h:∀ i,i<len→i≤60∧((ops i).xs.length≤300∨65536<(ops i).xs.length)):Calls Tryd.prog 42 #[.slice ad len cap] w (Ret w (.bool false)) :=
  (QgI len cap gT oT ad ops w had hops hb).mono fun e W ⟨b,h1,h2,h3,h4⟩=>by
    cases b with
    | false=>exact ⟨h1,h2⟩
    | true=>exact absurd h (h4 rfl)
end Go.Proofs.YtoiendjhplbjjaaDoor.Ll
end
section
namespace Go.Proofs.YtoiendjhplbjjaaDoor.Lk
open Go Go.RowKit
open Rely Auto
def ExtB (g : Nat) (w W:World):Prop:=W.os=w.os∧W.tape=w.tape∧W.output=w.output∧w.heap.size≤W.heap.size∧∀ k,k<w.heap.size→k≠g→W.heap[k]? = w.heap[k]?
theorem ExtB.refl (g : Nat) (w:World):ExtB g w w:=⟨rfl,rfl,rfl,qR _,fun _ _ _=>rfl⟩
theorem ExtB.ext {g : Nat} {w W W':World} (h:ExtB g w W) (e:Ext W W'):ExtB g w W' :=
  ⟨e.os.trans h.1,e.tape.trans h.2.1,e.output.trans h.2.2.1,qT h.2.2.2.1 e.size,fun k hk hn=>(e.block k (qL hk h.2.2.2.1)).trans (h.2.2.2.2 k hk hn)⟩
theorem ExtB.puts {g : Nat} {w W W':World} (h:ExtB g w W) (p:Puts W g W'):ExtB g w W' :=
  ⟨p.1.trans h.1,p.2.1.trans h.2.1,p.2.2.1.trans h.2.2.1,by have:=h.2.2.2.1; have:=p.2.2.2.1; omega,fun k hk hn=>(p.2.2.2.2 k hn).trans (h.2.2.2.2 k hk hn)⟩
theorem ExtB.row {g : Nat} {w W:World} {k:Nat} {ob:Obj} (h:ExtB g w W) (r:w.heap[k]? = some ob) (hn:k≠g):W.heap[k]? = some ob:=(h.2.2.2.2 k (by
  rcases Nat.lt_or_ge k w.heap.size with hl | hl
  · exact hl
  · rw [Array.getElem?_eq_none hl] at r; cases r) hn).trans r
theorem ExtB.up {g : Nat} {w0 w W:World} (h:Ext w0 w) (k:ExtB g w W) (lo:w0.heap.size≤g):Ext w0 W :=
  ⟨k.1.trans h.os,k.2.1.trans h.tape,k.2.2.1.trans h.output,qT h.size k.2.2.2.1,fun i hi=>(k.2.2.2.2 i (qL hi h.size) (by omega)).trans (h.block i hi)⟩
theorem i64_w (v : Int) (h:-5000000000≤v∧v≤5000000000):IntKind.i64.wrap v=v:=IntWalk.i64_in _ (by omega)
theorem shrB (B j:Nat) (hj:j<64):((B:Nat):Int).fdiv (2^min ((j:Nat):Int).toNat IntKind.u64.bits)=((B/2^j:Nat):Int):=by
  rw [show min (((j:Nat):Int).toNat) IntKind.u64.bits=j by show min (((j:Nat):Int).toNat) 64=j; omega]
  rw [Int.fdiv_eq_ediv_of_nonneg _ (Int.le_of_lt (Int.pow_pos (by decide))),Int.natCast_ediv,Int.natCast_pow]
  rfl
theorem andB (m : Nat) (h:m<18446744073709551616):bits .and .u64 ((m:Nat):Int) 1=((m%2:Nat):Int):=by
  rw [show (1:Int)=((1:Nat):Int) from rfl,bits_and_u64_nat m 1 h (by omega),Nat.and_one_is_mod]
theorem orB (a b:Nat) (ha:a<18446744073709551616) (hb:b<18446744073709551616):bits .or .u64 ((a:Nat):Int) ((b:Nat):Int)=((a|||b:Nat):Int):=by
  have h:=u64_or (a:Int) b (by omega) (by omega) (by omega) (by omega)
  simpa using h
theorem wrapN (m : Nat):IntKind.u64.wrap ((m:Nat):Int)=((m%18446744073709551616:Nat):Int):=by rw [IntKind.wrap_u64]; omega
theorem pow_big (B a:Nat) (h:64≤a):B*2^a%18446744073709551616=0:=by
  obtain ⟨c,rfl⟩:∃ c,a=64+c:=⟨a-64,by omega⟩
  rw [Nat.pow_add,←Nat.mul_assoc,Nat.mul_comm B,Nat.mul_assoc]
  exact Nat.mul_mod_right _ _
theorem shlB (B a:Nat):IntKind.u64.wrap (((B:Nat):Int)*2^min ((a:Nat):Int).toNat IntKind.u64.bits)=((B*2^a%18446744073709551616:Nat):Int):=by
  have e:∀ c:Nat,((B:Nat):Int)*2^c=((B*2^c:Nat):Int):=fun c=>by rw [Int.natCast_mul,Int.natCast_pow]; rfl
  rw [e,wrapN]
  have hm:min (((a:Nat):Int).toNat) IntKind.u64.bits=min a 64:=by show min (((a:Nat):Int).toNat) 64=min a 64; rw [Int.toNat_natCast]
  rw [hm]
  rcases Nat.lt_or_ge a 64 with h | h
  · rw [show min a 64=a by omega]
  · rw [show min a 64=64 by omega,pow_big B 64 (by omega),pow_big B a h]
def chkW (nx : Int) (B:Nat) (n:Int):Int:=if n<0∨4294967295≤n then 8 else if 64<nx-1-n then 11 else if nx-1-n=0∨(0<nx-1-n∧B/2^(nx-1-n-1).toNat%2=1) then 7 else 0
def errV (e : Int):Value:=if e=0 then .nilIface else .iface 60 (.int .i64 e)
theorem highestC (g : Nat) (nx:Int) (B:Nat) (hnx:0≤nx∧nx≤4294967295) (hB:B<18446744073709551616) (w:World) (hg:w.heap[g]? = some (.cells (cat [#[.int .i64 nx],#[.int .u64 ((B:Nat):Int)]]) 133)):Calls Tryd.prog 85 #[.pointer (some ⟨g,0,none⟩)] w (Ret w (.int .i64 (nx-1))):=by
  refine enter 8 [(0,.pointer (some ⟨g,0,none⟩))] Tryd.func85 rfl rfl kj rfl ?_
  refine wp_seq_k fun K2 hK2=>?_
  refine Qac ?_
  refine Qaa (.int .i64 0) 2 rfl kj kj ?_
  refine Qae ?_
  refine hK2 _ _ ?_
  refine wp_seq_k fun K3 hK3=>?_
  refine Qac ?_
  refine Qaa (.pointer (some ⟨g,0,none⟩)) 3 rfl kj kj ?_
  refine Qaa (.pointer (some ⟨g,0,none⟩)) 4 rfl kj kj ?_
  refine Qaa (.pointer (some ⟨g,0,none⟩)) 5 rfl kj kj ?_
  refine Qaa (.int .i64 nx) 6 rfl kj (Qah 3 _ g 0 133 _ (.int .i64 nx) _ hg rfl kj kj kj) ?_
  refine Qaa (.int .i64 (nx-1)) 7 rfl kj (Qad (u:=.int .i64 (IntKind.i64.wrap (nx-1))) kj (congrArg (Value.int .i64) (i64_w _ (by omega)))) ?_
  refine Qaa (.int .i64 (nx-1)) 2 rfl kj kj ?_
  refine Qae ?_
  refine hK3 _ _ ?_
  refine wp_ret ?_
  repeat (first | with_reducible refine goR1 ?_ | with_reducible refine goR2 ?_)
  exact (show bodyPost _ _ _ .ret _ _ from ret1 (.int .i64 (nx-1)) rfl (Qaq kj) ⟨rfl,(Rely.Ext.refl w)⟩)
theorem HighestC (g : Nat) (nx:Int) (B:Nat) (hnx:0≤nx∧nx≤4294967295) (hB:B<18446744073709551616) (w:World) (hg:w.heap[g]? = some (.cells (cat [#[.int .i64 nx],#[.int .u64 ((B:Nat):Int)]]) 133)):Calls Tryd.prog 84 #[.pointer (some ⟨g,0,none⟩)] w (Ret w (.int .i64 (nx-1))):=by
  refine enter 9 [(0,.pointer (some ⟨g,0,none⟩))] Tryd.func84 rfl rfl kj rfl ?_
  refine wp_seq_k fun K2 hK2=>?_
  refine Qac ?_
  refine Qaa (.int .i64 0) 2 rfl kj kj ?_
  refine Qae ?_
  refine hK2 _ _ ?_
  refine wp_seq_k fun K3 hK3=>?_
  refine wp_seq_k fun K4 hK4=>?_
  refine Qac ?_
  refine Qaa (.pointer (some ⟨g,0,none⟩)) 3 rfl kj kj ?_
  refine Qaa (.bool false) 4 rfl kj kj ?_
  refine Qae ?_
  refine hK4 _ _ ?_
  refine cond_false kj ?_
  refine wp_skip ?_
  refine hK3 _ _ ?_
  refine wp_seq_k fun K5 hK5=>?_
  refine Qac ?_
  refine Qaa (.pointer (some ⟨g,0,none⟩)) 5 rfl kj kj ?_
  refine Qaa (.pointer (some ⟨g,0,none⟩)) 6 rfl kj kj ?_
  refine Qaa (.pointer (some ⟨g,0,none⟩)) 7 rfl kj kj ?_
  refine Qan (.int .i64 (nx-1)) 85 #[.pointer (some ⟨g,0,none⟩)] 8 rfl kj kj (highestC g nx B hnx hB _ hg) fun W1 e1=>?_
  have x1:Ext w W1:=Ext.tr (Rely.Ext.refl w) e1
  refine Qaa (.int .i64 (nx-1)) 2 rfl kj kj ?_
  refine Qae ?_
  refine hK5 _ _ ?_
  refine wp_ret ?_
  repeat (first | with_reducible refine goR1 ?_ | with_reducible refine goR2 ?_)
  exact (show bodyPost _ _ _ .ret _ _ from ret1 (.int .i64 (nx-1)) rfl (Qaq kj) ⟨rfl,x1⟩)
theorem check_A (g : Nat) (nx:Int) (B:Nat) (n:Int) (hnx:0≤nx∧nx≤4294967295) (hB:B<18446744073709551616) (w:World) (hg:w.heap[g]? = some (.cells (cat [#[.int .i64 nx],#[.int .u64 ((B:Nat):Int)]]) 133)) (hc:n<0):Calls Tryd.prog 88 #[.pointer (some ⟨g,0,none⟩),.int .i64 n] w (Ret w (.iface 60 (.int .i64 8))):=by
  refine enter 38 [(0,.pointer (some ⟨g,0,none⟩)),(1,.int .i64 n)] Tryd.func88 rfl rfl kj rfl ?_
  refine wp_seq_k fun K2 hK2=>?_
  refine Qac ?_
  refine Qaa (.nilIface) 4 rfl kj kj ?_
  refine Qae ?_
  refine hK2 _ _ ?_
  refine wp_seq_k fun K3 hK3=>?_
  refine wp_seq_k fun K4 hK4=>?_
  refine Qac ?_
  refine Qaa (.int .i64 n) 6 rfl kj kj ?_
  refine Qaa (.bool true) 7 rfl kj (Qad (u:=.bool (decide (n<0))) kj (congrArg Value.bool (decide_eq_true (by omega)))) ?_
  refine Qaa (.bool true) 8 rfl kj kj ?_
  refine Qa3 9 rfl kj ?_
  refine Qa3 10 rfl kj ?_
  refine Qaa (.bool true) 11 rfl kj kj ?_
  refine Qae ?_
  refine hK4 _ _ ?_
  refine cond_true kj ?_
  refine wp_seq_k fun K5 hK5=>?_
  refine Qac ?_
  refine Qaa (.iface 60 (.int .i64 8)) 12 rfl kj kj ?_
  refine Qaa (.iface 60 (.int .i64 8)) 4 rfl kj kj ?_
  refine Qae ?_
  refine hK5 _ _ ?_
  refine wp_ret ?_
  repeat (first | with_reducible refine goR1 ?_ | with_reducible refine goR2 ?_)
  exact (show bodyPost _ _ _ .ret _ _ from ret1 (.iface 60 (.int .i64 8)) rfl (Qaq kj) ⟨rfl,(Rely.Ext.refl w)⟩)
theorem check_B (g : Nat) (nx:Int) (B:Nat) (n:Int) (hnx:0≤nx∧nx≤4294967295) (hB:B<18446744073709551616) (w:World) (hg:w.heap[g]? = some (.cells (cat [#[.int .i64 nx],#[.int .u64 ((B:Nat):Int)]]) 133)) (hc:4294967295≤n):Calls Tryd.prog 88 #[.pointer (some ⟨g,0,none⟩),.int .i64 n] w (Ret w (.iface 60 (.int .i64 8))):=by
  refine enter 38 [(0,.pointer (some ⟨g,0,none⟩)),(1,.int .i64 n)] Tryd.func88 rfl rfl kj rfl ?_
  refine wp_seq_k fun K2 hK2=>?_
  refine Qac ?_
  refine Qaa (.nilIface) 4 rfl kj kj ?_
  refine Qae ?_
  refine hK2 _ _ ?_
  refine wp_seq_k fun K3 hK3=>?_
  refine wp_seq_k fun K4 hK4=>?_
  refine Qac ?_
  refine Qaa (.int .i64 n) 6 rfl kj kj ?_
  refine Qaa (.bool false) 7 rfl kj (Qad (u:=.bool (decide (n<0))) kj (congrArg Value.bool (decide_eq_false (by omega)))) ?_
  refine Qaa (.bool false) 8 rfl kj kj ?_
  refine Qaa (.int .i64 n) 9 rfl kj kj ?_
  refine Qaa (.bool true) 10 rfl kj (Qad (u:=.bool (decide (n≥4294967295))) kj (congrArg Value.bool (decide_eq_true (by omega)))) ?_
  refine Qaa (.bool true) 11 rfl kj kj ?_
  refine Qae ?_
  refine hK4 _ _ ?_
  refine cond_true kj ?_
  refine wp_seq_k fun K5 hK5=>?_
  refine Qac ?_
  refine Qaa (.iface 60 (.int .i64 8)) 12 rfl kj kj ?_
  refine Qaa (.iface 60 (.int .i64 8)) 4 rfl kj kj ?_
  refine Qae ?_
  refine hK5 _ _ ?_
  refine wp_ret ?_
  repeat (first | with_reducible refine goR1 ?_ | with_reducible refine goR2 ?_)
  exact (show bodyPost _ _ _ .ret _ _ from ret1 (.iface 60 (.int .i64 8)) rfl (Qaq kj) ⟨rfl,(Rely.Ext.refl w)⟩)
theorem check_C (g : Nat) (nx:Int) (B:Nat) (n:Int) (hnx:0≤nx∧nx≤4294967295) (hB:B<18446744073709551616) (w:World) (hg:w.heap[g]? = some (.cells (cat [#[.int .i64 nx],#[.int .u64 ((B:Nat):Int)]]) 133)) (hn:0≤n∧n<4294967295) (hc:64<nx-1-n):Calls Tryd.prog 88 #[.pointer (some ⟨g,0,none⟩),.int .i64 n] w (Ret w (.iface 60 (.int .i64 11))):=by
  refine enter 38 [(0,.pointer (some ⟨g,0,none⟩)),(1,.int .i64 n)] Tryd.func88 rfl rfl kj rfl ?_
  refine wp_seq_k fun K2 hK2=>?_
  refine Qac ?_
  refine Qaa (.nilIface) 4 rfl kj kj ?_
  refine Qae ?_
  refine hK2 _ _ ?_
  refine wp_seq_k fun K3 hK3=>?_
  refine wp_seq_k fun K4 hK4=>?_
  refine Qac ?_
  refine Qaa (.int .i64 n) 6 rfl kj kj ?_
  refine Qaa (.bool false) 7 rfl kj (Qad (u:=.bool (decide (n<0))) kj (congrArg Value.bool (decide_eq_false (by omega)))) ?_
  refine Qaa (.bool false) 8 rfl kj kj ?_
  refine Qaa (.int .i64 n) 9 rfl kj kj ?_
  refine Qaa (.bool false) 10 rfl kj (Qad (u:=.bool (decide (n≥4294967295))) kj (congrArg Value.bool (decide_eq_false (by omega)))) ?_
  refine Qaa (.bool false) 11 rfl kj kj ?_
  refine Qae ?_
  refine hK4 _ _ ?_
  refine cond_false kj ?_
  refine wp_skip ?_
  refine hK3 _ _ ?_
  refine wp_seq_k fun K5 hK5=>?_
  refine Qac ?_
  refine Qaa (.pointer (some ⟨g,0,none⟩)) 13 rfl kj kj ?_
  refine Qan (.int .i64 (nx-1)) 85 #[.pointer (some ⟨g,0,none⟩)] 14 rfl kj kj (highestC g nx B hnx hB _ hg) fun W1 e1=>?_
  have x1:Ext w W1:=Ext.tr (Rely.Ext.refl w) e1
  refine Qaa (.int .i64 n) 15 rfl kj kj ?_
  refine Qaa (.int .i64 (nx-1-n)) 16 rfl kj (Qad (u:=.int .i64 (IntKind.i64.wrap ((nx-1)-n))) kj (congrArg (Value.int .i64) (i64_w _ (by omega)))) ?_
  refine Qaa (.int .i64 (nx-1-n)) 5 rfl kj kj ?_
  refine Qae ?_
  refine hK5 _ _ ?_
  refine wp_seq_k fun K6 hK6=>?_
  refine wp_seq_k fun K7 hK7=>?_
  refine Qac ?_
  refine Qaa (.int .i64 (nx-1-n)) 17 rfl kj kj ?_
  refine Qaa (.bool true) 18 rfl kj (Qad (u:=.bool (decide ((nx-1-n)>64))) kj (congrArg Value.bool (decide_eq_true (by omega)))) ?_
  refine Qae ?_
  refine hK7 _ _ ?_
  refine cond_true kj ?_
  refine wp_seq_k fun K8 hK8=>?_
  refine Qac ?_
  refine Qaa (.iface 60 (.int .i64 11)) 19 rfl kj kj ?_
  refine Qaa (.iface 60 (.int .i64 11)) 4 rfl kj kj ?_
  refine Qae ?_
  refine hK8 _ _ ?_
  refine wp_ret ?_
  repeat (first | with_reducible refine goR1 ?_ | with_reducible refine goR2 ?_)
  exact (show bodyPost _ _ _ .ret _ _ from ret1 (.iface 60 (.int .i64 11)) rfl (Qaq kj) ⟨rfl,x1⟩)
theorem check_D (g : Nat) (nx:Int) (B:Nat) (n:Int) (hnx:0≤nx∧nx≤4294967295) (hB:B<18446744073709551616) (w:World) (hg:w.heap[g]? = some (.cells (cat [#[.int .i64 nx],#[.int .u64 ((B:Nat):Int)]]) 133)) (hn:0≤n∧n<4294967295) (hc:nx-1-n=0):Calls Tryd.prog 88 #[.pointer (some ⟨g,0,none⟩),.int .i64 n] w (Ret w (.iface 60 (.int .i64 7))):=by
  refine enter 38 [(0,.pointer (some ⟨g,0,none⟩)),(1,.int .i64 n)] Tryd.func88 rfl rfl kj rfl ?_
  refine wp_seq_k fun K2 hK2=>?_
  refine Qac ?_
  refine Qaa (.nilIface) 4 rfl kj kj ?_
  refine Qae ?_
  refine hK2 _ _ ?_
  refine wp_seq_k fun K3 hK3=>?_
  refine wp_seq_k fun K4 hK4=>?_
  refine Qac ?_
  refine Qaa (.int .i64 n) 6 rfl kj kj ?_
  refine Qaa (.bool false) 7 rfl kj (Qad (u:=.bool (decide (n<0))) kj (congrArg Value.bool (decide_eq_false (by omega)))) ?_
  refine Qaa (.bool false) 8 rfl kj kj ?_
  refine Qaa (.int .i64 n) 9 rfl kj kj ?_
  refine Qaa (.bool false) 10 rfl kj (Qad (u:=.bool (decide (n≥4294967295))) kj (congrArg Value.bool (decide_eq_false (by omega)))) ?_
  refine Qaa (.bool false) 11 rfl kj kj ?_
  refine Qae ?_
  refine hK4 _ _ ?_
  refine cond_false kj ?_
  refine wp_skip ?_
  refine hK3 _ _ ?_
  refine wp_seq_k fun K5 hK5=>?_
  refine Qac ?_
  refine Qaa (.pointer (some ⟨g,0,none⟩)) 13 rfl kj kj ?_
  refine Qan (.int .i64 (nx-1)) 85 #[.pointer (some ⟨g,0,none⟩)] 14 rfl kj kj (highestC g nx B hnx hB _ hg) fun W1 e1=>?_
  have x1:Ext w W1:=Ext.tr (Rely.Ext.refl w) e1
  refine Qaa (.int .i64 n) 15 rfl kj kj ?_
  refine Qaa (.int .i64 (nx-1-n)) 16 rfl kj (Qad (u:=.int .i64 (IntKind.i64.wrap ((nx-1)-n))) kj (congrArg (Value.int .i64) (i64_w _ (by omega)))) ?_
  refine Qaa (.int .i64 (nx-1-n)) 5 rfl kj kj ?_
  refine Qae ?_
  refine hK5 _ _ ?_
  refine wp_seq_k fun K6 hK6=>?_
  refine wp_seq_k fun K7 hK7=>?_
  refine Qac ?_
  refine Qaa (.int .i64 (nx-1-n)) 17 rfl kj kj ?_
  refine Qaa (.bool false) 18 rfl kj (Qad (u:=.bool (decide ((nx-1-n)>64))) kj (congrArg Value.bool (decide_eq_false (by omega)))) ?_
  refine Qae ?_
  refine hK7 _ _ ?_
  refine cond_false kj ?_
  refine wp_skip ?_
  refine hK6 _ _ ?_
  refine wp_seq_k fun K8 hK8=>?_
  refine wp_seq_k fun K9 hK9=>?_
  refine Qac ?_
  refine Qaa (.int .i64 (nx-1-n)) 20 rfl kj kj ?_
  refine Qaa (.bool true) 21 rfl kj (Qad (u:=.bool (((nx-1-n)==0))) kj (congrArg Value.bool (by simp; omega))) ?_
  refine Qaa (.bool true) 22 rfl kj kj ?_
  refine Qa3 23 rfl kj ?_
  refine Qa3 24 rfl kj ?_
  refine Qa3 25 rfl kj ?_
  refine Qa3 26 rfl kj ?_
  refine Qa3 27 rfl kj ?_
  refine Qa3 28 rfl kj ?_
  refine Qa3 29 rfl kj ?_
  refine Qa3 30 rfl kj ?_
  refine Qa3 31 rfl kj ?_
  refine Qa3 32 rfl kj ?_
  refine Qa3 33 rfl kj ?_
  refine Qa3 34 rfl kj ?_
  refine Qa3 35 rfl kj ?_
  refine Qaa (.bool true) 36 rfl kj kj ?_
  refine Qae ?_
  refine hK9 _ _ ?_
  refine cond_true kj ?_
  refine wp_seq_k fun K10 hK10=>?_
  refine Qac ?_
  refine Qaa (.iface 60 (.int .i64 7)) 37 rfl kj kj ?_
  refine Qaa (.iface 60 (.int .i64 7)) 4 rfl kj kj ?_
  refine Qae ?_
  refine hK10 _ _ ?_
  refine wp_ret ?_
  repeat (first | with_reducible refine goR1 ?_ | with_reducible refine goR2 ?_)
  exact (show bodyPost _ _ _ .ret _ _ from ret1 (.iface 60 (.int .i64 7)) rfl (Qaq kj) ⟨rfl,x1⟩)
theorem check_E (g : Nat) (nx:Int) (B:Nat) (n:Int) (hnx:0≤nx∧nx≤4294967295) (hB:B<18446744073709551616) (w:World) (hg:w.heap[g]? = some (.cells (cat [#[.int .i64 nx],#[.int .u64 ((B:Nat):Int)]]) 133)) (hn:0≤n∧n<4294967295) (j:Nat) (hj:nx-1-n-1=(j:Int)) (hj2:j<64) (hc:B/2^j%2=1):Calls Tryd.prog 88 #[.pointer (some ⟨g,0,none⟩),.int .i64 n] w (Ret w (.iface 60 (.int .i64 7))):=by
  refine enter 38 [(0,.pointer (some ⟨g,0,none⟩)),(1,.int .i64 n)] Tryd.func88 rfl rfl kj rfl ?_
  refine wp_seq_k fun K2 hK2=>?_
  refine Qac ?_
  refine Qaa (.nilIface) 4 rfl kj kj ?_
  refine Qae ?_
  refine hK2 _ _ ?_
  refine wp_seq_k fun K3 hK3=>?_
  refine wp_seq_k fun K4 hK4=>?_
  refine Qac ?_
  refine Qaa (.int .i64 n) 6 rfl kj kj ?_
  refine Qaa (.bool false) 7 rfl kj (Qad (u:=.bool (decide (n<0))) kj (congrArg Value.bool (decide_eq_false (by omega)))) ?_
  refine Qaa (.bool false) 8 rfl kj kj ?_
  refine Qaa (.int .i64 n) 9 rfl kj kj ?_
  refine Qaa (.bool false) 10 rfl kj (Qad (u:=.bool (decide (n≥4294967295))) kj (congrArg Value.bool (decide_eq_false (by omega)))) ?_
  refine Qaa (.bool false) 11 rfl kj kj ?_
  refine Qae ?_
  refine hK4 _ _ ?_
  refine cond_false kj ?_
  refine wp_skip ?_
  refine hK3 _ _ ?_
  refine wp_seq_k fun K5 hK5=>?_
  refine Qac ?_
  refine Qaa (.pointer (some ⟨g,0,none⟩)) 13 rfl kj kj ?_
  refine Qan (.int .i64 (nx-1)) 85 #[.pointer (some ⟨g,0,none⟩)] 14 rfl kj kj (highestC g nx B hnx hB _ hg) fun W1 e1=>?_
  have x1:Ext w W1:=Ext.tr (Rely.Ext.refl w) e1
  refine Qaa (.int .i64 n) 15 rfl kj kj ?_
  refine Qaa (.int .i64 (nx-1-n)) 16 rfl kj (Qad (u:=.int .i64 (IntKind.i64.wrap ((nx-1)-n))) kj (congrArg (Value.int .i64) (i64_w _ (by omega)))) ?_
  refine Qaa (.int .i64 (nx-1-n)) 5 rfl kj kj ?_
  refine Qae ?_
  refine hK5 _ _ ?_
  refine wp_seq_k fun K6 hK6=>?_
  refine wp_seq_k fun K7 hK7=>?_
  refine Qac ?_
  refine Qaa (.int .i64 (nx-1-n)) 17 rfl kj kj ?_
  refine Qaa (.bool false) 18 rfl kj (Qad (u:=.bool (decide ((nx-1-n)>64))) kj (congrArg Value.bool (decide_eq_false (by omega)))) ?_
  refine Qae ?_
  refine hK7 _ _ ?_
  refine cond_false kj ?_
  refine wp_skip ?_
  refine hK6 _ _ ?_
  refine wp_seq_k fun K8 hK8=>?_
  refine wp_seq_k fun K9 hK9=>?_
  refine Qac ?_
  refine Qaa (.int .i64 (nx-1-n)) 20 rfl kj kj ?_
  refine Qaa (.bool false) 21 rfl kj (Qad (u:=.bool (((nx-1-n)==0))) kj (congrArg Value.bool (by simp; omega))) ?_
  refine Qaa (.bool false) 22 rfl kj kj ?_
  refine Qaa (.int .i64 (nx-1-n)) 23 rfl kj kj ?_
  refine Qaa (.bool true) 24 rfl kj (Qad (u:=.bool (decide ((nx-1-n)>0))) kj (congrArg Value.bool (decide_eq_true (by omega)))) ?_
  refine Qaa (.bool true) 25 rfl kj kj ?_
  refine Qaa (.pointer (some ⟨g,0,none⟩)) 26 rfl kj kj ?_
  refine Qaa (.pointer (some ⟨g,0,none⟩)) 27 rfl kj kj ?_
  refine Qaa (.pointer (some ⟨g,1,none⟩)) 28 rfl kj kj ?_
  have r1_1:=(Qab hg e1)
  refine Qaa (.int .u64 ((B:Nat):Int)) 29 rfl kj (Qah 129 _ g 1 133 _ (.int .u64 ((B:Nat):Int)) _ r1_1 rfl kj kj kj) ?_
  refine Qaa (.int .i64 (nx-1-n)) 30 rfl kj kj ?_
  refine Qaa (.int .i64 (((j:Nat):Int))) 31 rfl kj (Qad (u:=.int .i64 (IntKind.i64.wrap ((nx-1-n)-1))) kj (congrArg (Value.int .i64) (by rw [hj]; exact i64_w _ (by omega)))) ?_
  refine Qaa (.int .u64 (((B/2^j:Nat):Int))) 32 rfl kj (QaP .shr _ _ _ _ .u64 .i64 _ _ _ rfl kj kj (Qdk _ _ _ _ _ _ (by omega) (shrB B j hj2))) ?_
  refine Qaa (.int .u64 (((B/2^j%2:Nat):Int))) 33 rfl kj (Qad (u:=.int .u64 (bits .and .u64 (((B/2^j:Nat):Int)) (1))) kj (congrArg (Value.int .u64) (andB _ (Nat.lt_of_le_of_lt (Nat.div_le_self _ _) hB)))) ?_
  refine Qaa (.bool true) 34 rfl kj (Qad (u:=.bool ((((B/2^j%2:Nat):Int)==1))) kj (congrArg Value.bool (by rw [hc]; rfl))) ?_
  refine Qaa (.bool true) 35 rfl kj kj ?_
  refine Qaa (.bool true) 36 rfl kj kj ?_
  refine Qae ?_
  refine hK9 _ _ ?_
  refine cond_true kj ?_
  refine wp_seq_k fun K10 hK10=>?_
  refine Qac ?_
  refine Qaa (.iface 60 (.int .i64 7)) 37 rfl kj kj ?_
  refine Qaa (.iface 60 (.int .i64 7)) 4 rfl kj kj ?_
  refine Qae ?_
  refine hK10 _ _ ?_
  refine wp_ret ?_
  repeat (first | with_reducible refine goR1 ?_ | with_reducible refine goR2 ?_)
  exact (show bodyPost _ _ _ .ret _ _ from ret1 (.iface 60 (.int .i64 7)) rfl (Qaq kj) ⟨rfl,x1⟩)
theorem check_F (g : Nat) (nx:Int) (B:Nat) (n:Int) (hnx:0≤nx∧nx≤4294967295) (hB:B<18446744073709551616) (w:World) (hg:w.heap[g]? = some (.cells (cat [#[.int .i64 nx],#[.int .u64 ((B:Nat):Int)]]) 133)) (hn:0≤n∧n<4294967295) (j:Nat) (hj:nx-1-n-1=(j:Int)) (hj2:j<64) (hc:B/2^j%2=0):Calls Tryd.prog 88 #[.pointer (some ⟨g,0,none⟩),.int .i64 n] w (Ret w (.nilIface)):=by
  refine enter 38 [(0,.pointer (some ⟨g,0,none⟩)),(1,.int .i64 n)] Tryd.func88 rfl rfl kj rfl ?_
  refine wp_seq_k fun K2 hK2=>?_
  refine Qac ?_
  refine Qaa (.nilIface) 4 rfl kj kj ?_
  refine Qae ?_
  refine hK2 _ _ ?_
  refine wp_seq_k fun K3 hK3=>?_
  refine wp_seq_k fun K4 hK4=>?_
  refine Qac ?_
  refine Qaa (.int .i64 n) 6 rfl kj kj ?_
  refine Qaa (.bool false) 7 rfl kj (Qad (u:=.bool (decide (n<0))) kj (congrArg Value.bool (decide_eq_false (by omega)))) ?_
  refine Qaa (.bool false) 8 rfl kj kj ?_
  refine Qaa (.int .i64 n) 9 rfl kj kj ?_
  refine Qaa (.bool false) 10 rfl kj (Qad (u:=.bool (decide (n≥4294967295))) kj (congrArg Value.bool (decide_eq_false (by omega)))) ?_
  refine Qaa (.bool false) 11 rfl kj kj ?_
  refine Qae ?_
  refine hK4 _ _ ?_
  refine cond_false kj ?_
  refine wp_skip ?_
  refine hK3 _ _ ?_
  refine wp_seq_k fun K5 hK5=>?_
  refine Qac ?_
  refine Qaa (.pointer (some ⟨g,0,none⟩)) 13 rfl kj kj ?_
  refine Qan (.int .i64 (nx-1)) 85 #[.pointer (some ⟨g,0,none⟩)] 14 rfl kj kj (highestC g nx B hnx hB _ hg) fun W1 e1=>?_
  have x1:Ext w W1:=Ext.tr (Rely.Ext.refl w) e1
  refine Qaa (.int .i64 n) 15 rfl kj kj ?_
  refine Qaa (.int .i64 (nx-1-n)) 16 rfl kj (Qad (u:=.int .i64 (IntKind.i64.wrap ((nx-1)-n))) kj (congrArg (Value.int .i64) (i64_w _ (by omega)))) ?_
  refine Qaa (.int .i64 (nx-1-n)) 5 rfl kj kj ?_
  refine Qae ?_
  refine hK5 _ _ ?_
  refine wp_seq_k fun K6 hK6=>?_
  refine wp_seq_k fun K7 hK7=>?_
  refine Qac ?_
  refine Qaa (.int .i64 (nx-1-n)) 17 rfl kj kj ?_
  refine Qaa (.bool false) 18 rfl kj (Qad (u:=.bool (decide ((nx-1-n)>64))) kj (congrArg Value.bool (decide_eq_false (by omega)))) ?_
  refine Qae ?_
  refine hK7 _ _ ?_
  refine cond_false kj ?_
  refine wp_skip ?_
  refine hK6 _ _ ?_
  refine wp_seq_k fun K8 hK8=>?_
  refine wp_seq_k fun K9 hK9=>?_
  refine Qac ?_
  refine Qaa (.int .i64 (nx-1-n)) 20 rfl kj kj ?_
  refine Qaa (.bool false) 21 rfl kj (Qad (u:=.bool (((nx-1-n)==0))) kj (congrArg Value.bool (by simp; omega))) ?_
  refine Qaa (.bool false) 22 rfl kj kj ?_
  refine Qaa (.int .i64 (nx-1-n)) 23 rfl kj kj ?_
  refine Qaa (.bool true) 24 rfl kj (Qad (u:=.bool (decide ((nx-1-n)>0))) kj (congrArg Value.bool (decide_eq_true (by omega)))) ?_
  refine Qaa (.bool true) 25 rfl kj kj ?_
  refine Qaa (.pointer (some ⟨g,0,none⟩)) 26 rfl kj kj ?_
  refine Qaa (.pointer (some ⟨g,0,none⟩)) 27 rfl kj kj ?_
  refine Qaa (.pointer (some ⟨g,1,none⟩)) 28 rfl kj kj ?_
  have r1_1:=(Qab hg e1)
  refine Qaa (.int .u64 ((B:Nat):Int)) 29 rfl kj (Qah 129 _ g 1 133 _ (.int .u64 ((B:Nat):Int)) _ r1_1 rfl kj kj kj) ?_
  refine Qaa (.int .i64 (nx-1-n)) 30 rfl kj kj ?_
  refine Qaa (.int .i64 (((j:Nat):Int))) 31 rfl kj (Qad (u:=.int .i64 (IntKind.i64.wrap ((nx-1-n)-1))) kj (congrArg (Value.int .i64) (by rw [hj]; exact i64_w _ (by omega)))) ?_
  refine Qaa (.int .u64 (((B/2^j:Nat):Int))) 32 rfl kj (QaP .shr _ _ _ _ .u64 .i64 _ _ _ rfl kj kj (Qdk _ _ _ _ _ _ (by omega) (shrB B j hj2))) ?_
  refine Qaa (.int .u64 (((B/2^j%2:Nat):Int))) 33 rfl kj (Qad (u:=.int .u64 (bits .and .u64 (((B/2^j:Nat):Int)) (1))) kj (congrArg (Value.int .u64) (andB _ (Nat.lt_of_le_of_lt (Nat.div_le_self _ _) hB)))) ?_
  refine Qaa (.bool false) 34 rfl kj (Qad (u:=.bool ((((B/2^j%2:Nat):Int)==1))) kj (congrArg Value.bool (by rw [hc]; rfl))) ?_
  refine Qaa (.bool false) 35 rfl kj kj ?_
  refine Qaa (.bool false) 36 rfl kj kj ?_
  refine Qae ?_
  refine hK9 _ _ ?_
  refine cond_false kj ?_
  refine wp_skip ?_
  refine hK8 _ _ ?_
  refine wp_seq_k fun K10 hK10=>?_
  refine Qac ?_
  refine Qaa (.nilIface) 4 rfl kj kj ?_
  refine Qae ?_
  refine hK10 _ _ ?_
  refine wp_ret ?_
  repeat (first | with_reducible refine goR1 ?_ | with_reducible refine goR2 ?_)
  exact (show bodyPost _ _ _ .ret _ _ from ret1 (.nilIface) rfl (Qaq kj) ⟨rfl,x1⟩)
theorem check_G (g : Nat) (nx:Int) (B:Nat) (n:Int) (hnx:0≤nx∧nx≤4294967295) (hB:B<18446744073709551616) (w:World) (hg:w.heap[g]? = some (.cells (cat [#[.int .i64 nx],#[.int .u64 ((B:Nat):Int)]]) 133)) (hn:0≤n∧n<4294967295) (hc:nx-1-n<0):Calls Tryd.prog 88 #[.pointer (some ⟨g,0,none⟩),.int .i64 n] w (Ret w (.nilIface)):=by
  refine enter 38 [(0,.pointer (some ⟨g,0,none⟩)),(1,.int .i64 n)] Tryd.func88 rfl rfl kj rfl ?_
  refine wp_seq_k fun K2 hK2=>?_
  refine Qac ?_
  refine Qaa (.nilIface) 4 rfl kj kj ?_
  refine Qae ?_
  refine hK2 _ _ ?_
  refine wp_seq_k fun K3 hK3=>?_
  refine wp_seq_k fun K4 hK4=>?_
  refine Qac ?_
  refine Qaa (.int .i64 n) 6 rfl kj kj ?_
  refine Qaa (.bool false) 7 rfl kj (Qad (u:=.bool (decide (n<0))) kj (congrArg Value.bool (decide_eq_false (by omega)))) ?_
  refine Qaa (.bool false) 8 rfl kj kj ?_
  refine Qaa (.int .i64 n) 9 rfl kj kj ?_
  refine Qaa (.bool false) 10 rfl kj (Qad (u:=.bool (decide (n≥4294967295))) kj (congrArg Value.bool (decide_eq_false (by omega)))) ?_
  refine Qaa (.bool false) 11 rfl kj kj ?_
  refine Qae ?_
  refine hK4 _ _ ?_
  refine cond_false kj ?_
  refine wp_skip ?_
  refine hK3 _ _ ?_
  refine wp_seq_k fun K5 hK5=>?_
  refine Qac ?_
  refine Qaa (.pointer (some ⟨g,0,none⟩)) 13 rfl kj kj ?_
  refine Qan (.int .i64 (nx-1)) 85 #[.pointer (some ⟨g,0,none⟩)] 14 rfl kj kj (highestC g nx B hnx hB _ hg) fun W1 e1=>?_
  have x1:Ext w W1:=Ext.tr (Rely.Ext.refl w) e1
  refine Qaa (.int .i64 n) 15 rfl kj kj ?_
  refine Qaa (.int .i64 (nx-1-n)) 16 rfl kj (Qad (u:=.int .i64 (IntKind.i64.wrap ((nx-1)-n))) kj (congrArg (Value.int .i64) (i64_w _ (by omega)))) ?_
  refine Qaa (.int .i64 (nx-1-n)) 5 rfl kj kj ?_
  refine Qae ?_
  refine hK5 _ _ ?_
  refine wp_seq_k fun K6 hK6=>?_
  refine wp_seq_k fun K7 hK7=>?_
  refine Qac ?_
  refine Qaa (.int .i64 (nx-1-n)) 17 rfl kj kj ?_
  refine Qaa (.bool false) 18 rfl kj (Qad (u:=.bool (decide ((nx-1-n)>64))) kj (congrArg Value.bool (decide_eq_false (by omega)))) ?_
  refine Qae ?_
  refine hK7 _ _ ?_
  refine cond_false kj ?_
  refine wp_skip ?_
  refine hK6 _ _ ?_
  refine wp_seq_k fun K8 hK8=>?_
  refine wp_seq_k fun K9 hK9=>?_
  refine Qac ?_
  refine Qaa (.int .i64 (nx-1-n)) 20 rfl kj kj ?_
  refine Qaa (.bool false) 21 rfl kj (Qad (u:=.bool (((nx-1-n)==0))) kj (congrArg Value.bool (by simp; omega))) ?_
  refine Qaa (.bool false) 22 rfl kj kj ?_
  refine Qaa (.int .i64 (nx-1-n)) 23 rfl kj kj ?_
  refine Qaa (.bool false) 24 rfl kj (Qad (u:=.bool (decide ((nx-1-n)>0))) kj (congrArg Value.bool (decide_eq_false (by omega)))) ?_
  refine Qaa (.bool false) 25 rfl kj kj ?_
  refine Qa3 26 rfl kj ?_
  refine Qa3 27 rfl kj ?_
  refine Qa3 28 rfl kj ?_
  refine Qa3 29 rfl kj ?_
  refine Qa3 30 rfl kj ?_
  refine Qa3 31 rfl kj ?_
  refine Qa3 32 rfl kj ?_
  refine Qa3 33 rfl kj ?_
  refine Qa3 34 rfl kj ?_
  refine Qaa (.bool false) 35 rfl kj kj ?_
  refine Qaa (.bool false) 36 rfl kj kj ?_
  refine Qae ?_
  refine hK9 _ _ ?_
  refine cond_false kj ?_
  refine wp_skip ?_
  refine hK8 _ _ ?_
  refine wp_seq_k fun K10 hK10=>?_
  refine Qac ?_
  refine Qaa (.nilIface) 4 rfl kj kj ?_
  refine Qae ?_
  refine hK10 _ _ ?_
  refine wp_ret ?_
  repeat (first | with_reducible refine goR1 ?_ | with_reducible refine goR2 ?_)
  exact (show bodyPost _ _ _ .ret _ _ from ret1 (.nilIface) rfl (Qaq kj) ⟨rfl,x1⟩)
theorem checkC (g : Nat) (nx:Int) (B:Nat) (n:Int) (hnx:0≤nx∧nx≤4294967295) (hB:B<18446744073709551616) (w:World) (hg:w.heap[g]? = some (.cells (cat [#[.int .i64 nx],#[.int .u64 ((B:Nat):Int)]]) 133)):Calls Tryd.prog 88 #[.pointer (some ⟨g,0,none⟩),.int .i64 n] w (Ret w (errV (chkW nx B n))):=by
  unfold chkW
  by_cases h1:n<0
  · rw [if_pos (.inl h1)]; exact check_A g nx B n hnx hB w hg h1
  by_cases h2:4294967295≤n
  · rw [if_pos (.inr h2)]; exact check_B g nx B n hnx hB w hg h2
  rw [if_neg (by omega)]
  have hn:0≤n∧n<4294967295:=by omega
  by_cases h3:64<nx-1-n
  · rw [if_pos h3]; exact check_C g nx B n hnx hB w hg hn h3
  rw [if_neg h3]
  by_cases h4:nx-1-n=0
  · rw [if_pos (.inl h4)]; exact check_D g nx B n hnx hB w hg hn h4
  by_cases h5:0<nx-1-n
  · obtain ⟨j,hj⟩:=Int.eq_ofNat_of_zero_le (show 0≤nx-1-n-1 by omega)
    have hj2:j<64:=by omega
    rw [hj,Int.toNat_natCast]
    have hm:B/2^j%2<2:=Nat.mod_lt _ (by decide)
    by_cases h6:B/2^j%2=1
    · rw [if_pos (.inr ⟨h5,h6⟩)]; exact check_E g nx B n hnx hB w hg hn j hj hj2 h6
    · rw [if_neg (by rintro (h | h); exact h4 h; exact h6 h.2)]; exact check_F g nx B n hnx hB w hg hn j hj hj2 (by omega)
  · rw [if_neg (by rintro (h | h); exact h4 h; exact h5 h.1)]; exact check_G g nx B n hnx hB w hg hn (by omega)
theorem QjA (g : Nat) (nx:Int) (B:Nat) (n:Int) (hnx:0≤nx∧nx≤4294967295) (hB:B<18446744073709551616) (w:World) (hg:w.heap[g]? = some (.cells (cat [#[.int .i64 nx],#[.int .u64 ((B:Nat):Int)]]) 133)):Calls Tryd.prog 82 #[.pointer (some ⟨g,0,none⟩),.int .i64 n] w (Ret w (errV (chkW nx B n))):=by
  refine enter 13 [(0,.pointer (some ⟨g,0,none⟩)),(1,.int .i64 n)] Tryd.func82 rfl rfl kj rfl ?_
  refine wp_seq_k fun K2 hK2=>?_
  refine Qac ?_
  refine Qaa (.nilIface) 4 rfl kj kj ?_
  refine Qae ?_
  refine hK2 _ _ ?_
  refine wp_seq_k fun K3 hK3=>?_
  refine wp_seq_k fun K4 hK4=>?_
  refine Qac ?_
  refine Qaa (.pointer (some ⟨g,0,none⟩)) 5 rfl kj kj ?_
  refine Qaa (.bool false) 6 rfl kj kj ?_
  refine Qae ?_
  refine hK4 _ _ ?_
  refine cond_false kj ?_
  refine wp_skip ?_
  refine hK3 _ _ ?_
  refine wp_seq_k fun K5 hK5=>?_
  refine Qac ?_
  refine Qaa (.pointer (some ⟨g,0,none⟩)) 8 rfl kj kj ?_
  refine Qaa (.pointer (some ⟨g,0,none⟩)) 9 rfl kj kj ?_
  refine Qaa (.pointer (some ⟨g,0,none⟩)) 10 rfl kj kj ?_
  refine Qaa (.int .i64 n) 11 rfl kj kj ?_
  refine Qan (errV (chkW nx B n)) 88 #[.pointer (some ⟨g,0,none⟩),.int .i64 n] 12 rfl kj kj (checkC g nx B n hnx hB _ hg) fun W1 e1=>?_
  have x1:Ext w W1:=Ext.tr (Rely.Ext.refl w) e1
  refine Qaa (errV (chkW nx B n)) 4 rfl kj kj ?_
  refine Qae ?_
  refine hK5 _ _ ?_
  refine wp_ret ?_
  repeat (first | with_reducible refine goR1 ?_ | with_reducible refine goR2 ?_)
  exact (show bodyPost _ _ _ .ret _ _ from ret1 (errV (chkW nx B n)) rfl (Qaq kj) ⟨rfl,x1⟩)
end Go.Proofs.YtoiendjhplbjjaaDoor.Lk
end
section
namespace Go.Proofs.YtoiendjhplbjjaaDoor.Lk
open Go Go.RowKit
open Rely Auto
theorem errV_ne {e : Int} (h:e≠0):errV e=.iface 60 (.int .i64 e):=by unfold errV; rw [if_neg h]
theorem errV_nil {e : Int} (h:e=0):errV e=.nilIface:=by unfold errV; rw [if_pos h]
theorem i64_neg (a b:Int) (h:-5000000000≤a∧a≤5000000000) (e:0-a=b):IntKind.i64.wrap (0-a)=b:=by rw [e]; exact i64_w _ (by omega)
theorem pow_lt (j : Nat) (h:j<64):2^j<18446744073709551616:=Nat.pow_lt_pow_right (by decide) h
theorem shl1 (j : Nat) (h:j<64):IntKind.u64.wrap (1*2^min ((j:Nat):Int).toNat IntKind.u64.bits)=((2^j:Nat):Int):=by
  have:=shlB 1 j
  rw [Nat.one_mul,Nat.mod_eq_of_lt (pow_lt j h)] at this
  exact this
theorem mark_F (g : Nat) (nx:Int) (B:Nat) (n:Int) (hnx:0≤nx∧nx≤4294967295) (hB:B<18446744073709551616) (w:World) (hg:w.heap[g]? = some (.cells (cat [#[.int .i64 nx],#[.int .u64 ((B:Nat):Int)]]) 133)) (hc:chkW nx B n=0) (j:Nat) (hj:nx-1-n-1=(j:Int)) (hj2:j<64):Calls Tryd.prog 89 #[.pointer (some ⟨g,0,none⟩),.int .i64 n] w (fun e w'=>e=.returned .nilIface∧ExtB g w w'∧w'.heap[g]? = some (.cells (cat [#[.int .i64 nx],#[.int .u64 ((B|||2^j:Nat):Int)]]) 133)):=by
  refine enter 48 [(0,.pointer (some ⟨g,0,none⟩)),(1,.int .i64 n)] Tryd.func89 rfl rfl kj rfl ?_
  refine wp_seq_k fun K2 hK2=>?_
  refine Qac ?_
  refine Qaa (.nilIface) 4 rfl kj kj ?_
  refine Qae ?_
  refine hK2 _ _ ?_
  refine wp_seq_k fun K3 hK3=>?_
  refine wp_seq_k fun K4 hK4=>?_
  refine Qac ?_
  refine Qaa (.pointer (some ⟨g,0,none⟩)) 7 rfl kj kj ?_
  refine Qaa (.int .i64 n) 8 rfl kj kj ?_
  refine Qan (.nilIface) 88 #[.pointer (some ⟨g,0,none⟩),.int .i64 n] 9 rfl kj kj (errV_nil hc▸checkC g nx B n hnx hB _ hg) fun W1 e1=>?_
  have x1:ExtB g w W1:=ExtB.ext (ExtB.refl g w) e1
  refine Qaa (.nilIface) 5 rfl kj kj ?_
  refine Qae ?_
  refine hK4 _ _ ?_
  refine wp_seq_k fun K5 hK5=>?_
  refine Qac ?_
  refine Qaa (.nilIface) 10 rfl kj kj ?_
  refine Qaa (.bool false) 11 rfl kj kj ?_
  refine Qae ?_
  refine hK5 _ _ ?_
  refine cond_false kj ?_
  refine wp_skip ?_
  refine hK3 _ _ ?_
  refine wp_seq_k fun K6 hK6=>?_
  refine Qac ?_
  refine Qaa (.int .i64 n) 13 rfl kj kj ?_
  refine Qaa (.pointer (some ⟨g,0,none⟩)) 14 rfl kj kj ?_
  have r1_1:=(Qab hg e1)
  refine Qan (.int .i64 (nx-1)) 85 #[.pointer (some ⟨g,0,none⟩)] 15 rfl kj kj (highestC g nx B hnx hB _ r1_1) fun W2 e2=>?_
  have x2:ExtB g w W2:=ExtB.ext x1 e2
  refine Qaa (.int .i64 (n-(nx-1))) 16 rfl kj (Qad (u:=.int .i64 (IntKind.i64.wrap (n-(nx-1)))) kj (congrArg (Value.int .i64) (i64_w _ (by omega)))) ?_
  refine Qaa (.int .i64 (n-(nx-1))) 6 rfl kj kj ?_
  refine Qae ?_
  refine hK6 _ _ ?_
  refine wp_seq_k fun K7 hK7=>?_
  refine wp_seq_k fun K8 hK8=>?_
  refine Qac ?_
  refine Qaa (.int .i64 (n-(nx-1))) 17 rfl kj kj ?_
  refine Qaa (.bool true) 18 rfl kj (Qad (u:=.bool (decide ((n-(nx-1))<0))) kj (congrArg Value.bool (decide_eq_true (by omega)))) ?_
  refine Qae ?_
  refine hK8 _ _ ?_
  refine cond_true kj ?_
  refine wp_seq_k fun K9 hK9=>?_
  refine QaX 11 [⟨none,[(0,none)]⟩,⟨none,[(19,some 0)]⟩,⟨none,[(20,some 1)]⟩,⟨none,[(21,some 2)]⟩,⟨none,[(6,none)]⟩,⟨none,[(23,some 4)]⟩,⟨none,[(24,some 5)]⟩,⟨none,[(25,some 6)]⟩,⟨none,[(22,some 3),(26,some 7)]⟩,⟨none,[(19,some 0)]⟩,⟨none,[(28,some 9)]⟩] kj kj fun F hF=>?_
  refine Qam (.pointer (some ⟨g,0,none⟩)) kj kj (fun W=>by kernel_rfl) ?_
  refine Qam (.pointer (some ⟨g,0,none⟩)) kj kj (fun W=>by kernel_rfl) ?_
  refine Qam (.pointer (some ⟨g,1,none⟩)) kj kj (fun W=>by kernel_rfl) ?_
  have r1_2:=(Qab r1_1 e2)
  refine QaN (.int .u64 ((B:Nat):Int)) kj kj (fun W hR=>(Qah 129 _ g 1 133 _ (.int .u64 ((B:Nat):Int)) _ (Qab (Qab r1_2 (Qak _)) hR) rfl kj kj kj)) ?_
  refine Qam (.int .i64 (n-(nx-1))) kj kj (fun W=>by kernel_rfl) ?_
  refine Qam (.int .i64 (nx-1-n)) kj kj (fun W=>(Qad (u:=.int .i64 (IntKind.i64.wrap (0-(n-(nx-1))))) kj (congrArg (Value.int .i64) (i64_neg _ _ (by omega) (by omega))))) ?_
  refine Qam (.int .i64 (((j:Nat):Int))) kj kj (fun W=>(Qad (u:=.int .i64 (IntKind.i64.wrap ((nx-1-n)-1))) kj (congrArg (Value.int .i64) (by rw [hj]; exact i64_w _ (by omega))))) ?_
  refine Qam (.int .u64 (((2^j:Nat):Int))) kj kj (fun W=>(QaP .shl _ _ _ _ .u64 .i64 _ _ _ rfl kj kj (Qcv _ _ _ _ _ _ (by omega) (shl1 j hj2)))) ?_
  refine Qam (.int .u64 (((B|||2^j:Nat):Int))) kj kj (fun W=>(Qad (u:=.int .u64 (bits .or .u64 (((B:Nat):Int)) (((2^j:Nat):Int)))) kj (congrArg (Value.int .u64) (orB _ _ hB (pow_lt j hj2))))) ?_
  refine Qam (.pointer (some ⟨g,0,none⟩)) kj kj (fun W=>by kernel_rfl) ?_
  refine Qam (.pointer (some ⟨g,1,none⟩)) kj kj (fun W=>by kernel_rfl) ?_
  refine Qbf (hF _ kj fun W3 e3=>?_)
  simp only [ups,up,Kn.val,List.take_succ_cons,List.take_zero,List.drop_succ_cons,List.drop_zero,List.nil_append,List.cons_append]
  clear hF
  have x3:ExtB g w W3:=ExtB.ext x2 e3
  have r1_3:=(Qab r1_2 e3)
  refine Qal g _ (cat [#[.int .i64 nx],#[.int .u64 (((B|||2^j:Nat):Int))]]) 133 r1_3 rfl kj (Qb9 129 _ _ g 1 133 _ (.int .u64 (((B|||2^j:Nat):Int))) r1_3 rfl kj kj kj kj kj rfl) fun W4 p4 r1_4=>?_
  have x4:ExtB g w W4:=ExtB.puts x3 p4
  refine Qae ?_
  refine hK9 _ _ ?_
  refine wp_seq_k fun K10 hK10=>?_
  refine Qac ?_
  refine Qaa (.nilIface) 4 rfl kj kj ?_
  refine Qae ?_
  refine hK10 _ _ ?_
  refine wp_ret ?_
  repeat (first | with_reducible refine goR1 ?_ | with_reducible refine goR2 ?_)
  exact (show bodyPost _ _ _ .ret _ _ from ret1 (.nilIface) rfl (Qaq kj) ⟨rfl,x4,r1_4⟩)
theorem mark_G (g : Nat) (nx:Int) (B:Nat) (n:Int) (hnx:0≤nx∧nx≤4294967295) (hB:B<18446744073709551616) (w:World) (hg:w.heap[g]? = some (.cells (cat [#[.int .i64 nx],#[.int .u64 ((B:Nat):Int)]]) 133)) (hc:chkW nx B n=0) (hn:0≤n∧n<4294967295) (a:Nat) (ha:n-(nx-1)=(a:Int)) (ha1:1≤a):Calls Tryd.prog 89 #[.pointer (some ⟨g,0,none⟩),.int .i64 n] w (fun e w'=>e=.returned .nilIface∧ExtB g w w'∧w'.heap[g]? = some (.cells (cat [#[.int .i64 (n+1)],#[.int .u64 ((B*2^a%18446744073709551616|||1*2^(a-1)%18446744073709551616:Nat):Int)]]) 133)):=by
  refine enter 48 [(0,.pointer (some ⟨g,0,none⟩)),(1,.int .i64 n)] Tryd.func89 rfl rfl kj rfl ?_
  refine wp_seq_k fun K2 hK2=>?_
  refine Qac ?_
  refine Qaa (.nilIface) 4 rfl kj kj ?_
  refine Qae ?_
  refine hK2 _ _ ?_
  refine wp_seq_k fun K3 hK3=>?_
  refine wp_seq_k fun K4 hK4=>?_
  refine Qac ?_
  refine Qaa (.pointer (some ⟨g,0,none⟩)) 7 rfl kj kj ?_
  refine Qaa (.int .i64 n) 8 rfl kj kj ?_
  refine Qan (.nilIface) 88 #[.pointer (some ⟨g,0,none⟩),.int .i64 n] 9 rfl kj kj (errV_nil hc▸checkC g nx B n hnx hB _ hg) fun W1 e1=>?_
  have x1:ExtB g w W1:=ExtB.ext (ExtB.refl g w) e1
  refine Qaa (.nilIface) 5 rfl kj kj ?_
  refine Qae ?_
  refine hK4 _ _ ?_
  refine wp_seq_k fun K5 hK5=>?_
  refine Qac ?_
  refine Qaa (.nilIface) 10 rfl kj kj ?_
  refine Qaa (.bool false) 11 rfl kj kj ?_
  refine Qae ?_
  refine hK5 _ _ ?_
  refine cond_false kj ?_
  refine wp_skip ?_
  refine hK3 _ _ ?_
  refine wp_seq_k fun K6 hK6=>?_
  refine Qac ?_
  refine Qaa (.int .i64 n) 13 rfl kj kj ?_
  refine Qaa (.pointer (some ⟨g,0,none⟩)) 14 rfl kj kj ?_
  have r1_1:=(Qab hg e1)
  refine Qan (.int .i64 (nx-1)) 85 #[.pointer (some ⟨g,0,none⟩)] 15 rfl kj kj (highestC g nx B hnx hB _ r1_1) fun W2 e2=>?_
  have x2:ExtB g w W2:=ExtB.ext x1 e2
  refine Qaa (.int .i64 (((a:Nat):Int))) 16 rfl kj (Qad (u:=.int .i64 (IntKind.i64.wrap (n-(nx-1)))) kj (congrArg (Value.int .i64) (by rw [ha]; exact i64_w _ (by omega)))) ?_
  refine Qaa (.int .i64 (((a:Nat):Int))) 6 rfl kj kj ?_
  refine Qae ?_
  refine hK6 _ _ ?_
  refine wp_seq_k fun K7 hK7=>?_
  refine wp_seq_k fun K8 hK8=>?_
  refine Qac ?_
  refine Qaa (.int .i64 (((a:Nat):Int))) 17 rfl kj kj ?_
  refine Qaa (.bool false) 18 rfl kj (Qad (u:=.bool (decide (((a:Nat):Int)<0))) kj (congrArg Value.bool (decide_eq_false (by omega)))) ?_
  refine Qae ?_
  refine hK8 _ _ ?_
  refine cond_false kj ?_
  refine wp_skip ?_
  refine hK7 _ _ ?_
  refine wp_seq_k fun K9 hK9=>?_
  refine QaX 13 [⟨none,[(0,none)]⟩,⟨none,[(0,none)]⟩,⟨none,[(31,some 1)]⟩,⟨none,[(32,some 2)]⟩,⟨none,[(33,some 3)]⟩,⟨none,[(6,none)]⟩,⟨none,[(34,some 4),(35,some 5)]⟩,⟨none,[(6,none)]⟩,⟨none,[(37,some 7)]⟩,⟨none,[(38,some 8)]⟩,⟨none,[(36,some 6),(39,some 9)]⟩,⟨none,[(30,some 0)]⟩,⟨none,[(41,some 11)]⟩] kj kj fun F hF=>?_
  refine Qam (.pointer (some ⟨g,0,none⟩)) kj kj (fun W=>by kernel_rfl) ?_
  refine Qam (.pointer (some ⟨g,0,none⟩)) kj kj (fun W=>by kernel_rfl) ?_
  refine Qam (.pointer (some ⟨g,0,none⟩)) kj kj (fun W=>by kernel_rfl) ?_
  refine Qam (.pointer (some ⟨g,1,none⟩)) kj kj (fun W=>by kernel_rfl) ?_
  have r1_2:=(Qab r1_1 e2)
  refine QaN (.int .u64 ((B:Nat):Int)) kj kj (fun W hR=>(Qah 129 _ g 1 133 _ (.int .u64 ((B:Nat):Int)) _ (Qab (Qab r1_2 (Qak _)) hR) rfl kj kj kj)) ?_
  refine Qam (.int .i64 (((a:Nat):Int))) kj kj (fun W=>by kernel_rfl) ?_
  refine Qam (.int .u64 (((B*2^a%18446744073709551616:Nat):Int))) kj kj (fun W=>(QaP .shl _ _ _ _ .u64 .i64 _ _ _ rfl kj kj (Qcv _ _ _ _ _ _ (by omega) (shlB B a)))) ?_
  refine Qam (.int .i64 (((a:Nat):Int))) kj kj (fun W=>by kernel_rfl) ?_
  refine Qam (.int .i64 (((a-1:Nat):Int))) kj kj (fun W=>(Qad (u:=.int .i64 (IntKind.i64.wrap (((a:Nat):Int)-1))) kj (congrArg (Value.int .i64) (by rw [show ((a-1:Nat):Int)=(a:Int)-1 by omega]; exact i64_w _ (by omega))))) ?_
  refine Qam (.int .u64 (((1*2^(a-1)%18446744073709551616:Nat):Int))) kj kj (fun W=>(QaP .shl _ _ _ _ .u64 .i64 _ _ _ rfl kj kj (Qcv _ _ _ _ _ _ (by omega) (shlB 1 (a-1))))) ?_
  refine Qam (.int .u64 (((B*2^a%18446744073709551616|||1*2^(a-1)%18446744073709551616:Nat):Int))) kj kj (fun W=>(Qad (u:=.int .u64 (bits .or .u64 (((B*2^a%18446744073709551616:Nat):Int)) (((1*2^(a-1)%18446744073709551616:Nat):Int)))) kj (congrArg (Value.int .u64) (orB _ _ (Nat.mod_lt _ (by decide)) (Nat.mod_lt _ (by decide)))))) ?_
  refine Qam (.pointer (some ⟨g,0,none⟩)) kj kj (fun W=>by kernel_rfl) ?_
  refine Qam (.pointer (some ⟨g,1,none⟩)) kj kj (fun W=>by kernel_rfl) ?_
  refine Qbf (hF _ kj fun W3 e3=>?_)
  simp only [ups,up,Kn.val,List.take_succ_cons,List.take_zero,List.drop_succ_cons,List.drop_zero,List.nil_append,List.cons_append]
  clear hF
  have x3:ExtB g w W3:=ExtB.ext x2 e3
  have r1_3:=(Qab r1_2 e3)
  refine Qal g _ (cat [#[.int .i64 nx],#[.int .u64 (((B*2^a%18446744073709551616|||1*2^(a-1)%18446744073709551616:Nat):Int))]]) 133 r1_3 rfl kj (Qb9 129 _ _ g 1 133 _ (.int .u64 (((B*2^a%18446744073709551616|||1*2^(a-1)%18446744073709551616:Nat):Int))) r1_3 rfl kj kj kj kj kj rfl) fun W4 p4 r1_4=>?_
  have x4:ExtB g w W4:=ExtB.puts x3 p4
  refine Qae ?_
  refine hK9 _ _ ?_
  refine wp_seq_k fun K10 hK10=>?_
  refine Qac ?_
  refine Qaa (.pointer (some ⟨g,0,none⟩)) 43 rfl kj kj ?_
  refine Qaa (.int .i64 n) 44 rfl kj kj ?_
  refine Qaa (.int .i64 (n+1)) 45 rfl kj (Qad (u:=.int .i64 (IntKind.i64.wrap (n+1))) kj (congrArg (Value.int .i64) (i64_w _ (by omega)))) ?_
  refine Qaa (.pointer (some ⟨g,0,none⟩)) 46 rfl kj kj ?_
  refine Qaa (.pointer (some ⟨g,0,none⟩)) 47 rfl kj kj ?_
  refine Qal g _ (cat [#[.int .i64 (n+1)],#[.int .u64 (((B*2^a%18446744073709551616|||1*2^(a-1)%18446744073709551616:Nat):Int))]]) 133 r1_4 rfl kj (Qb9 3 _ _ g 0 133 _ (.int .i64 (n+1)) r1_4 rfl kj kj kj kj kj rfl) fun W5 p5 r1_5=>?_
  have x5:ExtB g w W5:=ExtB.puts x4 p5
  refine Qae ?_
  refine hK10 _ _ ?_
  refine wp_seq_k fun K11 hK11=>?_
  refine Qac ?_
  refine Qaa (.nilIface) 4 rfl kj kj ?_
  refine Qae ?_
  refine hK11 _ _ ?_
  refine wp_ret ?_
  repeat (first | with_reducible refine goR1 ?_ | with_reducible refine goR2 ?_)
  exact (show bodyPost _ _ _ .ret _ _ from ret1 (.nilIface) rfl (Qaq kj) ⟨rfl,x5,r1_5⟩)
theorem NumZ (w : World):Calls Tryd.prog 25 #[.nilIface] w (Ret w (.int .i64 0)):=by
  refine enter 19 [(0,.nilIface)] Tryd.func25 rfl rfl kj rfl ?_
  refine wp_seq_k fun K1 hK1=>?_
  refine Qac ?_
  refine Qaa (.int .i64 0) 2 rfl kj kj ?_
  refine Qae ?_
  refine hK1 _ _ ?_
  refine wp_seq_k fun K2 hK2=>?_
  refine wp_seq_k fun K3 hK3=>?_
  refine Qac ?_
  refine Qaa (.nilIface) 5 rfl kj kj ?_
  refine Qaa (.bool true) 6 rfl kj kj ?_
  refine Qae ?_
  refine hK3 _ _ ?_
  refine cond_true kj ?_
  refine wp_seq_k fun K4 hK4=>?_
  refine Qac ?_
  refine Qaa (.int .i64 0) 2 rfl kj kj ?_
  refine Qae ?_
  refine hK4 _ _ ?_
  refine wp_ret ?_
  repeat (first | with_reducible refine goR1 ?_ | with_reducible refine goR2 ?_)
  exact (show bodyPost _ _ _ .ret _ _ from ret1 (.int .i64 0) rfl (Qaq kj) ⟨rfl,(Rely.Ext.refl w)⟩)
theorem NumE (e : Int) (h0:e≠0) (w:World):Calls Tryd.prog 25 #[.iface 60 (.int .i64 e)] w (Ret w (.int .i64 e)):=by
  refine enter 19 [(0,.iface 60 (.int .i64 e))] Tryd.func25 rfl rfl kj rfl ?_
  refine wp_seq_k fun K1 hK1=>?_
  refine Qac ?_
  refine Qaa (.int .i64 0) 2 rfl kj kj ?_
  refine Qae ?_
  refine hK1 _ _ ?_
  refine wp_seq_k fun K2 hK2=>?_
  refine wp_seq_k fun K3 hK3=>?_
  refine Qac ?_
  refine Qaa (.iface 60 (.int .i64 e)) 5 rfl kj kj ?_
  refine Qaa (.bool false) 6 rfl kj kj ?_
  refine Qae ?_
  refine hK3 _ _ ?_
  refine cond_false kj ?_
  refine wp_skip ?_
  refine hK2 _ _ ?_
  refine wp_seq_k fun K4 hK4=>?_
  refine Qac ?_
  refine Qaa (.iface 60 (.int .i64 e)) 8 rfl kj kj ?_
  refine Qaa (.tuple #[.int .i64 e,.bool true]) 9 rfl kj kj ?_
  refine Qaa (.tuple #[.int .i64 e,.bool true]) 7 rfl kj kj ?_
  refine Qaa (.int .i64 e) 10 rfl kj kj ?_
  refine Qaa (.bool true) 11 rfl kj kj ?_
  refine Qaa (.int .i64 e) 3 rfl kj kj ?_
  refine Qaa (.bool true) 4 rfl kj kj ?_
  refine Qae ?_
  refine hK4 _ _ ?_
  refine wp_seq_k fun K5 hK5=>?_
  refine wp_seq_k fun K6 hK6=>?_
  refine Qac ?_
  refine Qaa (.bool true) 12 rfl kj kj ?_
  refine Qaa (.bool false) 13 rfl kj kj ?_
  refine Qaa (.bool false) 14 rfl kj kj ?_
  refine Qaa (.int .i64 e) 15 rfl kj kj ?_
  refine Qaa (.bool false) 16 rfl kj (Qad (u:=.bool ((e==0))) kj (congrArg Value.bool (by simpa using h0))) ?_
  refine Qaa (.bool false) 17 rfl kj kj ?_
  refine Qae ?_
  refine hK6 _ _ ?_
  refine cond_false kj ?_
  refine wp_skip ?_
  refine hK5 _ _ ?_
  refine wp_seq_k fun K7 hK7=>?_
  refine Qac ?_
  refine Qaa (.int .i64 e) 18 rfl kj kj ?_
  refine Qaa (.int .i64 e) 2 rfl kj kj ?_
  refine Qae ?_
  refine hK7 _ _ ?_
  refine wp_ret ?_
  repeat (first | with_reducible refine goR1 ?_ | with_reducible refine goR2 ?_)
  exact (show bodyPost _ _ _ .ret _ _ from ret1 (.int .i64 e) rfl (Qaq kj) ⟨rfl,(Rely.Ext.refl w)⟩)
theorem NumV (e : Int) (w:World):Calls Tryd.prog 25 #[errV e] w (Ret w (.int .i64 e)):=by
  by_cases h:e=0
  · rw [errV_nil h,h]; exact NumZ w
  · rw [errV_ne h]; exact NumE e h w
theorem IsV (e k:Int) (w:World):Calls Tryd.prog 38 #[errV e,.int .i64 k] w (Ret w (.bool (e==k))):=by
  refine enter 9 [(0,errV e),(1,.int .i64 k)] Tryd.func38 rfl rfl kj rfl ?_
  refine wp_seq_k fun K1 hK1=>?_
  refine Qac ?_
  refine Qaa (.bool false) 4 rfl kj kj ?_
  refine Qae ?_
  refine hK1 _ _ ?_
  refine wp_seq_k fun K2 hK2=>?_
  refine Qac ?_
  refine Qaa (errV e) 5 rfl kj kj ?_
  refine Qan (.int .i64 e) 25 #[errV e] 6 rfl kj kj ((NumV e) _) fun W1 e1=>?_
  have x1:Ext w W1:=Ext.tr (Rely.Ext.refl w) e1
  refine Qaa (.int .i64 k) 7 rfl kj kj ?_
  refine Qaa (.bool (e==k)) 8 rfl kj (Qad (u:=.bool ((e==k))) kj (congrArg Value.bool rfl)) ?_
  refine Qaa (.bool (e==k)) 4 rfl kj kj ?_
  refine Qae ?_
  refine hK2 _ _ ?_
  refine wp_ret ?_
  repeat (first | with_reducible refine goR1 ?_ | with_reducible refine goR2 ?_)
  exact (show bodyPost _ _ _ .ret _ _ from ret1 (.bool (e==k)) rfl (Qaq kj) ⟨rfl,x1⟩)
theorem IsT (e : Int) (v:Value) (hv:errV e=v) (w:World):Calls Tryd.prog 38 #[v,.int .i64 e] w (Ret w (.bool true)):=by
  have h:=IsV e e w
  rw [hv,beq_self_eq_true] at h
  exact h
theorem ExtB.trans {g : Nat} {a b c:World} (h:ExtB g a b) (k:ExtB g b c):ExtB g a c:=⟨k.1.trans h.1,k.2.1.trans h.2.1,k.2.2.1.trans h.2.2.1,qT h.2.2.2.1 k.2.2.2.1,fun i hi hn=>(k.2.2.2.2 i (qL hi h.2.2.2.1) hn).trans (h.2.2.2.2 i hi hn)⟩
theorem Qlr (g : Nat) (nx:Int) (B:Nat) (n:Int) (hnx:0≤nx∧nx≤4294967295) (hB:B<18446744073709551616) (w:World) (hg:w.heap[g]? = some (.cells (cat [#[.int .i64 nx],#[.int .u64 ((B:Nat):Int)]]) 133)) (hc:chkW nx B n=0) (hn:0≤n∧n<4294967295) (a:Nat) (ha:n-(nx-1)=(a:Int)) (ha1:1≤a):Calls Tryd.prog 83 #[.pointer (some ⟨g,0,none⟩),.int .i64 n] w (fun e w'=>e=.returned .nilIface∧ExtB g w w'∧w'.heap[g]? = some (.cells (cat [#[.int .i64 (n+1)],#[.int .u64 ((B*2^a%18446744073709551616|||1*2^(a-1)%18446744073709551616:Nat):Int)]]) 133)):=by
  refine enter 13 [(0,.pointer (some ⟨g,0,none⟩)),(1,.int .i64 n)] Tryd.func83 rfl rfl kj rfl ?_
  refine wp_seq_k fun K2 hK2=>?_
  refine Qac ?_
  refine Qaa (.nilIface) 4 rfl kj kj ?_
  refine Qae ?_
  refine hK2 _ _ ?_
  refine wp_seq_k fun K3 hK3=>?_
  refine wp_seq_k fun K4 hK4=>?_
  refine Qac ?_
  refine Qaa (.pointer (some ⟨g,0,none⟩)) 5 rfl kj kj ?_
  refine Qaa (.bool false) 6 rfl kj kj ?_
  refine Qae ?_
  refine hK4 _ _ ?_
  refine cond_false kj ?_
  refine wp_skip ?_
  refine hK3 _ _ ?_
  refine wp_seq_k fun K5 hK5=>?_
  refine Qac ?_
  refine Qaa (.pointer (some ⟨g,0,none⟩)) 8 rfl kj kj ?_
  refine Qaa (.pointer (some ⟨g,0,none⟩)) 9 rfl kj kj ?_
  refine Qaa (.pointer (some ⟨g,0,none⟩)) 10 rfl kj kj ?_
  refine Qaa (.int .i64 n) 11 rfl kj kj ?_
  refine Qat (fun v W'=>v=.nilIface∧ExtB g w W'∧W'.heap[g]? = some (.cells (cat [#[.int .i64 (n+1)],#[.int .u64 ((B*2^a%18446744073709551616|||1*2^(a-1)%18446744073709551616:Nat):Int)]]) 133)) 89 #[.pointer (some ⟨g,0,none⟩),.int .i64 n] 12 rfl kj kj ((mark_G g nx B n hnx hB _ hg hc hn a ha ha1).mono fun e w' ⟨h1,h2,h3⟩=>⟨_,h1,rfl,h2,h3⟩) fun v W1 h=>?_
  obtain ⟨rfl,q1,r1_1⟩:=h
  have x1:ExtB g w W1:=ExtB.trans (ExtB.refl g w) q1
  refine Qaa (.nilIface) 4 rfl kj kj ?_
  refine Qae ?_
  refine hK5 _ _ ?_
  refine wp_ret ?_
  repeat (first | with_reducible refine goR1 ?_ | with_reducible refine goR2 ?_)
  exact (show bodyPost _ _ _ .ret _ _ from ret1 (.nilIface) rfl (Qaq kj) ⟨rfl,x1,r1_1⟩)
theorem Qi6 (g : Nat) (nx:Int) (B:Nat) (n:Int) (hnx:0≤nx∧nx≤4294967295) (hB:B<18446744073709551616) (w:World) (hg:w.heap[g]? = some (.cells (cat [#[.int .i64 nx],#[.int .u64 ((B:Nat):Int)]]) 133)) (hc:chkW nx B n=0) (hn:0≤n∧n<4294967295) (a:Nat) (ha:n-(nx-1)=(a:Int)) (ha1:1≤a) (nx2:Int) (B2:Nat) (e1:n+1=nx2) (e2:B*2^a%18446744073709551616|||1*2^(a-1)%18446744073709551616=B2) :
    Calls Tryd.prog 83 #[.pointer (some ⟨g,0,none⟩),.int .i64 n] w (fun e w'=>e=.returned .nilIface∧ExtB g w w'∧w'.heap[g]? = some (.cells (cat [#[.int .i64 nx2],#[.int .u64 ((B2:Nat):Int)]]) 133)):=by
  have h:=Qlr g nx B n hnx hB w hg hc hn a ha ha1
  rw [e1,e2] at h
  exact h
theorem Qj9 (g : Nat) (nx:Int) (B:Nat) (n:Int) (hnx:0≤nx∧nx≤4294967295) (hB:B<18446744073709551616) (w:World) (hg:w.heap[g]? = some (.cells (cat [#[.int .i64 nx],#[.int .u64 ((B:Nat):Int)]]) 133)) (e:Int) (he:chkW nx B n=e) (h0:e≠0):Calls Tryd.prog 82 #[.pointer (some ⟨g,0,none⟩),.int .i64 n] w (Ret w (.iface 60 (.int .i64 e))):=by
  have h:=QjA g nx B n hnx hB w hg
  rw [he,errV_ne h0] at h
  exact h
theorem Qhc (g : Nat) (nx:Int) (B:Nat) (n:Int) (hnx:0≤nx∧nx≤4294967295) (hB:B<18446744073709551616) (w:World) (hg:w.heap[g]? = some (.cells (cat [#[.int .i64 nx],#[.int .u64 ((B:Nat):Int)]]) 133)) (he:chkW nx B n=0):Calls Tryd.prog 82 #[.pointer (some ⟨g,0,none⟩),.int .i64 n] w (Ret w .nilIface):=by
  have h:=QjA g nx B n hnx hB w hg
  rw [errV_nil he] at h
  exact h
end Go.Proofs.YtoiendjhplbjjaaDoor.Lk
end
section
namespace Go.Proofs.YtoiendjhplbjjaaDoor.Lk
open Go Go.RowKit
open Rely Auto
theorem alive12 (w : World):Calls Tryd.prog 41 #[] w (Ret w (.bool true)):=by
  refine enter 41 [] Tryd.func41 rfl rfl kj rfl ?_
  refine wp_seq_k fun K1 hK1=>?_
  refine Qac ?_
  refine Qaa (.bool false) 0 rfl kj kj ?_
  refine Qae ?_
  refine hK1 _ _ ?_
  refine wp_seq_k fun K2 hK2=>?_
  refine Qac ?_
  refine Qaa (.agg (cat [#[.int .i64 0],#[.int .u64 0]])) 4 rfl kj kj ?_
  refine Qas (cat [#[.int .i64 0],#[.int .u64 0]]) 133 5 rfl kj kj fun g3 W1 l3 e1 r3_1=>?_
  have x1:Ext w W1:=Ext.tr (Rely.Ext.refl w) e1
  have b3:w.heap.size≤g3:=qT (Rely.Ext.refl w).size l3
  refine Qaa (.pointer (some ⟨g3,0,none⟩)) 1 rfl kj kj ?_
  refine Qae ?_
  refine hK2 _ _ ?_
  refine wp_seq_k fun K4 hK4=>?_
  refine wp_seq_k fun K5 hK5=>?_
  refine Qac ?_
  refine QaD (ints .i64 ([0,64,65])) 3 3 6 rfl kj kj fun g6 W2 l6 e2 r6_2=>?_
  have x2:Ext w W2:=Ext.tr x1 e2
  have b6:w.heap.size≤g6:=qT x1.size l6
  refine Qaa (.int .i64 3) 7 rfl kj kj ?_
  refine Qaa (.int .i64 0) 8 rfl kj kj ?_
  refine Qae ?_
  refine hK5 _ _ ?_
  refine wp_block ?_
  refine wp_loop_rounds 4 ?_
  show Code.wp _ _ (Exit.then (Code.rounds _ _ _ 3) _) _ _
  refine wp_seq_k fun K7 hK7=>?_
  refine Qac ?_
  refine Qaa (.bool true) 9 rfl kj kj ?_
  refine Qae ?_
  refine hK7 _ _ ?_
  refine wp_seq_k fun K8 hK8=>?_
  refine cond_true kj ?_
  refine wp_skip ?_
  refine hK8 _ _ ?_
  refine wp_seq_k fun K9 hK9=>?_
  refine wp_block ?_
  refine wp_seq_k fun K10 hK10=>?_
  refine Qac ?_
  refine Qaa (.pointer (some ⟨g6,0,none⟩)) 10 rfl kj (Qau 66 _ _ .i64 (0) g6 3 3 3 rfl kj kj kj kj (by decide)) ?_
  refine Qaa (.int .i64 0) 11 rfl kj (Qah 3 _ g6 0 3 _ (.int .i64 0) _ r6_2 rfl kj kj kj) ?_
  refine Qaa (.int .i64 0) 3 rfl kj kj ?_
  refine Qae ?_
  refine hK10 _ _ ?_
  refine wp_seq_k fun K11 hK11=>?_
  refine Qac ?_
  refine Qaa (.pointer (some ⟨g3,0,none⟩)) 12 rfl kj kj ?_
  refine Qaa (.int .i64 0) 13 rfl kj kj ?_
  have r3_2:=(Qab r3_1 e2)
  refine Qan (.nilIface) 82 #[.pointer (some ⟨g3,0,none⟩),.int .i64 0] 14 rfl kj kj (Qhc g3 0 0 0 (by omega) (by decide) _ r3_2 (by decide +kernel)) fun W3 e3=>?_
  have x3:Ext w W3:=Ext.tr x2 e3
  refine Qaa (.bool false) 15 rfl kj kj ?_
  refine Qaa (.bool false) 16 rfl kj kj ?_
  refine Qaa (.pointer (some ⟨g3,0,none⟩)) 17 rfl kj kj ?_
  refine Qaa (.int .i64 0) 18 rfl kj kj ?_
  have r3_3:=(Qab r3_2 e3)
  refine Qat (fun v W'=>v=.nilIface∧ExtB g3 W3 W'∧W'.heap[g3]? = some (.cells (cat [#[.int .i64 1],#[.int .u64 ((1:Nat):Int)]]) 133)) 83 #[.pointer (some ⟨g3,0,none⟩),.int .i64 0] 19 rfl kj kj ((Qi6 g3 0 0 0 (by omega) (by decide) _ r3_3 (by decide +kernel) (by omega) 1 (by decide) (by decide) 1 1 (by decide) (by decide +kernel)).mono fun e w' ⟨h1,h2,h3⟩=>⟨_,h1,rfl,h2,h3⟩) fun v W4 h=>?_
  obtain ⟨rfl,q4,r3_4⟩:=h
  have x4:Ext w W4:=ExtB.up x3 q4 b3
  refine Qaa (.bool false) 20 rfl kj kj ?_
  refine Qaa (.bool false) 21 rfl kj kj ?_
  refine Qae ?_
  refine hK11 _ _ ?_
  refine cond_false kj ?_
  refine wp_skip ?_
  refine hK9 _ _ ?_
  refine Qac ?_
  refine Qaa (.int .i64 1) 22 rfl kj kj ?_
  refine Qaa (.int .i64 1) 8 rfl kj kj ?_
  refine Qae ?_
  show Code.rounds _ _ _ 3 _ _
  show Code.wp _ _ (Exit.then (Code.rounds _ _ _ 2) _) _ _
  refine wp_seq_k fun K12 hK12=>?_
  refine Qac ?_
  refine Qaa (.bool true) 9 rfl kj kj ?_
  refine Qae ?_
  refine hK12 _ _ ?_
  refine wp_seq_k fun K13 hK13=>?_
  refine cond_true kj ?_
  refine wp_skip ?_
  refine hK13 _ _ ?_
  refine wp_seq_k fun K14 hK14=>?_
  refine wp_block ?_
  refine wp_seq_k fun K15 hK15=>?_
  refine Qac ?_
  refine Qaa (.pointer (some ⟨g6,1,none⟩)) 10 rfl kj (Qau 66 _ _ .i64 (1) g6 3 3 3 rfl kj kj kj kj (by decide)) ?_
  have r6_4:=(ExtB.row q4 (Qab r6_2 e3) (QaA r3_1 l6))
  refine Qaa (.int .i64 64) 11 rfl kj (Qah 3 _ g6 1 3 _ (.int .i64 64) _ r6_4 rfl kj kj kj) ?_
  refine Qaa (.int .i64 64) 3 rfl kj kj ?_
  refine Qae ?_
  refine hK15 _ _ ?_
  refine wp_seq_k fun K16 hK16=>?_
  refine Qac ?_
  refine Qaa (.pointer (some ⟨g3,0,none⟩)) 12 rfl kj kj ?_
  refine Qaa (.int .i64 64) 13 rfl kj kj ?_
  refine Qan (.nilIface) 82 #[.pointer (some ⟨g3,0,none⟩),.int .i64 64] 14 rfl kj kj (Qhc g3 1 1 64 (by omega) (by decide) _ r3_4 (by decide +kernel)) fun W5 e5=>?_
  have x5:Ext w W5:=Ext.tr x4 e5
  refine Qaa (.bool false) 15 rfl kj kj ?_
  refine Qaa (.bool false) 16 rfl kj kj ?_
  refine Qaa (.pointer (some ⟨g3,0,none⟩)) 17 rfl kj kj ?_
  refine Qaa (.int .i64 64) 18 rfl kj kj ?_
  have r3_5:=(Qab r3_4 e5)
  refine Qat (fun v W'=>v=.nilIface∧ExtB g3 W5 W'∧W'.heap[g3]? = some (.cells (cat [#[.int .i64 65],#[.int .u64 ((9223372036854775808:Nat):Int)]]) 133)) 83 #[.pointer (some ⟨g3,0,none⟩),.int .i64 64] 19 rfl kj kj ((Qi6 g3 1 1 64 (by omega) (by decide) _ r3_5 (by decide +kernel) (by omega) 64 (by decide) (by decide) 65 9223372036854775808 (by decide) (by decide +kernel)).mono fun e w' ⟨h1,h2,h3⟩=>⟨_,h1,rfl,h2,h3⟩) fun v W6 h=>?_
  obtain ⟨rfl,q6,r3_6⟩:=h
  have x6:Ext w W6:=ExtB.up x5 q6 b3
  refine Qaa (.bool false) 20 rfl kj kj ?_
  refine Qaa (.bool false) 21 rfl kj kj ?_
  refine Qae ?_
  refine hK16 _ _ ?_
  refine cond_false kj ?_
  refine wp_skip ?_
  refine hK14 _ _ ?_
  refine Qac ?_
  refine Qaa (.int .i64 2) 22 rfl kj kj ?_
  refine Qaa (.int .i64 2) 8 rfl kj kj ?_
  refine Qae ?_
  show Code.rounds _ _ _ 2 _ _
  show Code.wp _ _ (Exit.then (Code.rounds _ _ _ 1) _) _ _
  refine wp_seq_k fun K17 hK17=>?_
  refine Qac ?_
  refine Qaa (.bool true) 9 rfl kj kj ?_
  refine Qae ?_
  refine hK17 _ _ ?_
  refine wp_seq_k fun K18 hK18=>?_
  refine cond_true kj ?_
  refine wp_skip ?_
  refine hK18 _ _ ?_
  refine wp_seq_k fun K19 hK19=>?_
  refine wp_block ?_
  refine wp_seq_k fun K20 hK20=>?_
  refine Qac ?_
  refine Qaa (.pointer (some ⟨g6,2,none⟩)) 10 rfl kj (Qau 66 _ _ .i64 (2) g6 3 3 3 rfl kj kj kj kj (by decide)) ?_
  have r6_6:=(ExtB.row q6 (Qab r6_4 e5) (QaA r3_1 l6))
  refine Qaa (.int .i64 65) 11 rfl kj (Qah 3 _ g6 2 3 _ (.int .i64 65) _ r6_6 rfl kj kj kj) ?_
  refine Qaa (.int .i64 65) 3 rfl kj kj ?_
  refine Qae ?_
  refine hK20 _ _ ?_
  refine wp_seq_k fun K21 hK21=>?_
  refine Qac ?_
  refine Qaa (.pointer (some ⟨g3,0,none⟩)) 12 rfl kj kj ?_
  refine Qaa (.int .i64 65) 13 rfl kj kj ?_
  refine Qan (.nilIface) 82 #[.pointer (some ⟨g3,0,none⟩),.int .i64 65] 14 rfl kj kj (Qhc g3 65 9223372036854775808 65 (by omega) (by decide) _ r3_6 (by decide +kernel)) fun W7 e7=>?_
  have x7:Ext w W7:=Ext.tr x6 e7
  refine Qaa (.bool false) 15 rfl kj kj ?_
  refine Qaa (.bool false) 16 rfl kj kj ?_
  refine Qaa (.pointer (some ⟨g3,0,none⟩)) 17 rfl kj kj ?_
  refine Qaa (.int .i64 65) 18 rfl kj kj ?_
  have r3_7:=(Qab r3_6 e7)
  refine Qat (fun v W'=>v=.nilIface∧ExtB g3 W7 W'∧W'.heap[g3]? = some (.cells (cat [#[.int .i64 66],#[.int .u64 ((1:Nat):Int)]]) 133)) 83 #[.pointer (some ⟨g3,0,none⟩),.int .i64 65] 19 rfl kj kj ((Qi6 g3 65 9223372036854775808 65 (by omega) (by decide) _ r3_7 (by decide +kernel) (by omega) 1 (by decide) (by decide) 66 1 (by decide) (by decide +kernel)).mono fun e w' ⟨h1,h2,h3⟩=>⟨_,h1,rfl,h2,h3⟩) fun v W8 h=>?_
  obtain ⟨rfl,q8,r3_8⟩:=h
  have x8:Ext w W8:=ExtB.up x7 q8 b3
  refine Qaa (.bool false) 20 rfl kj kj ?_
  refine Qaa (.bool false) 21 rfl kj kj ?_
  refine Qae ?_
  refine hK21 _ _ ?_
  refine cond_false kj ?_
  refine wp_skip ?_
  refine hK19 _ _ ?_
  refine Qac ?_
  refine Qaa (.int .i64 3) 22 rfl kj kj ?_
  refine Qaa (.int .i64 3) 8 rfl kj kj ?_
  refine Qae ?_
  show Code.rounds _ _ _ 1 _ _
  show Code.wp _ _ (Exit.then (Code.rounds _ _ _ 0) _) _ _
  refine wp_seq_k fun K22 hK22=>?_
  refine Qac ?_
  refine Qaa (.bool false) 9 rfl kj kj ?_
  refine Qae ?_
  refine hK22 _ _ ?_
  refine wp_seq_k fun K23 hK23=>?_
  refine cond_false kj ?_
  refine wp_exit ?_
  refine hK4 _ _ ?_
  refine wp_seq_k fun K24 hK24=>?_
  refine Qac ?_
  refine Qaa (.pointer (some ⟨g3,0,none⟩)) 23 rfl kj kj ?_
  refine Qan (.iface 60 (.int .i64 7)) 82 #[.pointer (some ⟨g3,0,none⟩),.int .i64 64] 24 rfl kj kj (Qj9 g3 66 1 64 (by omega) (by decide) _ r3_8 7 (by decide +kernel) (by decide)) fun W9 e9=>?_
  have x9:Ext w W9:=Ext.tr x8 e9
  refine Qan (.bool true) 38 #[.iface 60 (.int .i64 7),.int .i64 7] 25 rfl kj kj ((IsT 7 (.iface 60 (.int .i64 7)) rfl) _) fun W10 e10=>?_
  have x10:Ext w W10:=Ext.tr x9 e10
  refine Qaa (.bool true) 26 rfl kj kj ?_
  refine Qaa (.pointer (some ⟨g3,0,none⟩)) 27 rfl kj kj ?_
  have r3_10:=(Qab (Qab r3_8 e9) e10)
  refine Qan (.iface 60 (.int .i64 11)) 82 #[.pointer (some ⟨g3,0,none⟩),.int .i64 0] 28 rfl kj kj (Qj9 g3 66 1 0 (by omega) (by decide) _ r3_10 11 (by decide +kernel) (by decide)) fun W11 e11=>?_
  have x11:Ext w W11:=Ext.tr x10 e11
  refine Qan (.bool true) 38 #[.iface 60 (.int .i64 11),.int .i64 11] 29 rfl kj kj ((IsT 11 (.iface 60 (.int .i64 11)) rfl) _) fun W12 e12=>?_
  have x12:Ext w W12:=Ext.tr x11 e12
  refine Qaa (.bool true) 30 rfl kj kj ?_
  refine Qaa (.bool true) 31 rfl kj kj ?_
  refine Qaa (.pointer (some ⟨g3,0,none⟩)) 32 rfl kj kj ?_
  have r3_12:=(Qab (Qab r3_10 e11) e12)
  refine Qan (.nilIface) 82 #[.pointer (some ⟨g3,0,none⟩),.int .i64 1] 33 rfl kj kj (Qhc g3 66 1 1 (by omega) (by decide) _ r3_12 (by decide +kernel)) fun W13 e13=>?_
  have x13:Ext w W13:=Ext.tr x12 e13
  refine Qaa (.bool true) 34 rfl kj kj ?_
  refine Qaa (.bool true) 35 rfl kj kj ?_
  refine Qaa (.bool true) 36 rfl kj kj ?_
  refine Qaa (.pointer (some ⟨g3,0,none⟩)) 37 rfl kj kj ?_
  have r3_13:=(Qab r3_12 e13)
  refine Qan (.int .i64 65) 84 #[.pointer (some ⟨g3,0,none⟩)] 38 rfl kj kj (HighestC g3 66 1 (by omega) (by decide) _ r3_13) fun W14 e14=>?_
  have x14:Ext w W14:=Ext.tr x13 e14
  refine Qaa (.bool true) 39 rfl kj kj ?_
  refine Qaa (.bool true) 40 rfl kj kj ?_
  refine Qaa (.bool true) 0 rfl kj kj ?_
  refine Qae ?_
  refine hK24 _ _ ?_
  refine wp_ret ?_
  repeat (first | with_reducible refine goR1 ?_ | with_reducible refine goR2 ?_)
  exact (show bodyPost _ _ _ .ret _ _ from ret1 (.bool true) rfl (Qaq kj) ⟨rfl,x14⟩)
end Go.Proofs.YtoiendjhplbjjaaDoor.Lk
end
section
namespace Go.Proofs.YtoiendjhplbjjaaDoor.Ad
open Go Go.RowKit
open Rely Auto Own
def pat (k j:Nat):Int:=((29*k+5*j+3:Nat):Int)%256
def patL (k n:Nat):List Int:=(List.range n).map (pat k)
theorem QdJ (k n:Nat):(patL k n).length=n:=by simp [patL]
theorem QhP (k n:Nat):patL k (n+1)=patL k n++[pat k n]:=by simp [patL,List.range_succ]
theorem QhO (k n m:Nat) (h:n≤m):(patL k m).take n=patL k n:=by
  unfold patL
  rw [←List.map_take,List.take_range,Nat.min_eq_left h]
def gv (G : List Value) (i:Nat):Value:=G.getD i (.slice none 0 0)
theorem Qj4 {G : List Value} {u:Value} {i:Nat} (h:i<G.length):gv (G++[u]) i=gv G i:=by simp [gv,List.getElem?_append_left h]
theorem Qj5 (G : List Value) (u:Value):gv (G++[u]) G.length=u:=by simp [gv]
def Full (base L:Nat) (V:Nat→Value) (N:Nat→Nat) (W:World):Prop:=∀ i,i<L→OwnV base (patL i (N i)) (V i) W
def Qh8 (base k:Nat) (N:Nat→Nat) (G:List Value) (W:World):Prop:=∀ i,i<k→OwnB base (patL i (N i+10)) (gv G i) W
def Gd (L k:Nat) (V:Nat→Value) (G:List Value):Prop:=∀ i j,i<k→j<L→i≠j→(gv G i).ownBlock≠(V j).ownBlock
def Ap (L k:Nat) (V:Nat→Value) (G:List Value) (u:Value):Prop :=
  (∀ j,j<L→j≠k→(V j).ownBlock=u.ownBlock→(V j).ownBlock=none)∧(∀ i,i<k→(gv G i).ownBlock≠u.ownBlock) ∧
    ((V k).ownBlock=none∨(V k).ownBlock≠u.ownBlock∨∃ g n n' c,u=.slice (some ⟨g,0,none⟩) n c∧V k=.slice (some ⟨g,0,none⟩) n' c)
def Mid (base L k m:Nat) (V:Nat→Value) (N:Nat→Nat) (G:List Value) (u:Value) (W:World):Prop :=
  OwnV base (patL k m) u W∧Full base L V N W∧Qh8 base k N G W∧Ap L k V G u
theorem OwnV.ext {base : Nat} {bs:List Int} {v:Value} {W W':World} (h:OwnV base bs v W) (e:Ext W W'):OwnV base bs v W':=h.imp id fun h=>h.ext e
theorem OwnB.v {base : Nat} {bs:List Int} {v:Value} {W:World} (h:OwnB base bs v W):OwnV base bs v W:=.inr h
theorem Full.ext {base L:Nat} {V:Nat→Value} {N:Nat→Nat} {W W':World} (h:Full base L V N W) (e:Ext W W'):Full base L V N W':=fun i hi=>OwnV.ext (h i hi) e
theorem Qh8.ext {base k:Nat} {N:Nat→Nat} {G:List Value} {W W':World} (h:Qh8 base k N G W) (e:Ext W W'):Qh8 base k N G W':=fun i hi=>(h i hi).ext e
theorem Mid.ext {base L k m:Nat} {V:Nat→Value} {N:Nat→Nat} {G:List Value} {u:Value} {W W':World} (h:Mid base L k m V N G u W) (e:Ext W W'):Mid base L k m V N G u W' :=
  ⟨OwnV.ext h.1 e,h.2.1.ext e,h.2.2.1.ext e,h.2.2.2⟩
theorem QhS {base : Nat} {bs:List Int} {v:Value} {W:World} (h:OwnB base bs v W):∃ g,v.ownBlock=some g:=by
  obtain ⟨g,c,cur,rfl,_⟩:=h
  exact ⟨g,rfl⟩
theorem QdK {base : Nat} {bs:List Int} {v:Value} {W:World} (h:OwnV base bs v W) (hn:0<bs.length):OwnB base bs v W:=by
  rcases h with ⟨_,rfl⟩ | h
  · simp at hn
  · exact h
theorem Mid.append {base L k m:Nat} {V:Nat→Value} {N:Nat→Nat} {G:List Value} {u u':Value} {W W':World} (h:Mid base L k m V N G u W) (hk:k<L) (hm:N k≤m) (hw:Went u u' W W') (ho:OwnB base (patL k m++[pat k m]) u' W'):Mid base L k (m+1) V N G u' W':=by
  obtain ⟨h1,hF,hG,hA1,hA2,hA3⟩:=h
  rw [←QhP] at ho
  have hVk:OwnV base (patL k (N k)) (V k) W':=by
    rcases hA3 with h0 | h0 | ⟨g,n,n',c,e1,e2⟩
    · exact hw.other (hF k hk) (fun _=>h0)
    · exact hw.other (hF k hk) (fun e=>absurd e h0)
    · have hv:=hF k hk
      rw [e2] at hv ⊢
      rcases hv with ⟨e,_⟩ | hv
      · cases e
      · have hn':n'=N k:=by
          obtain ⟨_,_,_,e,_⟩:=hv
          rw [QdJ] at e
          injection e
        exact .inr (hw.same ho hv ⟨n,e1⟩ (by rw [hn',QhO _ _ _ (by omega)]))
  have hF':Full base L V N W':=fun i hi=>by
    by_cases e:i=k
    · subst e; exact hVk
    · exact hw.other (hF i hi) (hA1 i hi e)
  have hG':Qh8 base k N G W':=fun i hi=>by
    have hh:=hw.other (OwnB.v (hG i hi)) (fun e=>absurd e (hA2 i hi))
    exact QdK hh (by rw [QdJ]; omega)
  refine ⟨.inr ho,hF',hG',?_⟩
  rcases hw with ⟨g,n,c,e1,⟨n',e2⟩,he⟩ | ⟨⟨g,hg,hl⟩,he⟩
  · have hb:u'.ownBlock=u.ownBlock:=by rw [e1,e2]; rfl
    refine ⟨by rw [hb]; exact hA1,by rw [hb]; exact hA2,?_⟩
    rcases hA3 with h0 | h0 | ⟨g',a,b,c',q1,q2⟩
    · exact .inl h0
    · exact .inr (.inl (by rw [hb]; exact h0))
    · refine .inr (.inr ⟨g',n',b,c',?_,q2⟩)
      rw [e1] at q1
      simp only [Value.slice.injEq,Option.some.injEq,Addr.mk.injEq] at q1
      rw [e2,q1.1.1,q1.2.2]
  · have hne:∀ {bs:List Int} {v:Value},OwnV base bs v W→v.ownBlock≠u'.ownBlock:=fun hv e=>by
      have:=hv.lt (e.trans hg)
      omega
    exact ⟨fun j hj _ e=>absurd e (hne (hF j hj)),fun i hi=>hne (OwnB.v (hG i hi)),.inr (.inl (hne (hF k hk)))⟩
def OwnL (base g c:Nat) (cur:Array Value) (G:List Value) (W:World):Prop:=base≤g∧W.heap[g]? = some (.cells cur 33)∧cur.size=c∧G.length≤c∧c≤maxLen∧cur.toList.take G.length=G
theorem OwnL.ext {base g c:Nat} {cur:Array Value} {G:List Value} {W W':World} (h:OwnL base g c cur G W) (e:Ext W W'):OwnL base g c cur G W':=⟨h.1,Qab h.2.1 e,h.2.2⟩
theorem QiT {W : World} {a b:Nat} {ca cb:Array Value} {ta tb:TypeId} (h:W.heap[a]? = some (.cells ca ta)) (k:W.heap[b]? = some (.cells cb tb)) (hne:ta≠tb):a≠b:=fun e=>by
  subst e
  rw [h] at k
  injection k with k
  injection k with _ k2
  exact hne k2
theorem OwnV.extB {base g:Nat} {bs:List Int} {v:Value} {cur:Array Value} {W W':World} (h:OwnV base bs v W) (r:W.heap[g]? = some (.cells cur 33)) (e:ExtB g W W'):OwnV base bs v W':=by
  refine h.below fun g' hg'=>e.2.2.2.2 g' (h.lt hg') ?_
  rcases h with ⟨rfl,_⟩ | ⟨g2,c,cur2,rfl,h1,h2,h3⟩
  · cases hg'
  · obtain rfl:g2=g':=Option.some.inj hg'
    exact QiT h2 r (by decide)
theorem Mid.done {base L k:Nat} {V:Nat→Value} {N:Nat→Nat} {G:List Value} {u:Value} {g:Nat} {cur:Array Value} {W W':World} (h:Mid base L k (N k+10) V N G u W) (hk:k<L) (hl:G.length=k) (hg:Gd L k V G) (r:W.heap[g]? = some (.cells cur 33)) (e:ExtB g W W') :
    Full base L V N W'∧Qh8 base (k+1) N (G++[u]) W'∧Gd L (k+1) V (G++[u]):=by
  obtain ⟨h1,hF,hG,hA1,hA2,hA3⟩:=h
  subst hl
  refine ⟨fun i hi=>OwnV.extB (hF i hi) r e,fun i hi=>?_,fun i j hi hj hn=>?_⟩
  · by_cases q:i=G.length
    · subst q; rw [Qj5]; exact QdK (OwnV.extB h1 r e) (by rw [QdJ]; omega)
    · rw [Qj4 (by omega)]
      exact QdK (OwnV.extB (OwnB.v (hG i (by omega))) r e) (by rw [QdJ]; omega)
  · by_cases q:i=G.length
    · subst q; rw [Qj5]
      obtain ⟨g',hg'⟩:=QhS (QdK h1 (by rw [QdJ]; omega))
      intro q2
      have:=hA1 j hj (Ne.symm hn) q2.symm
      rw [←q2,hg'] at this; cases this
    · rw [Qj4 (by omega)]; exact hg i j (by omega) hj hn
end Go.Proofs.YtoiendjhplbjjaaDoor.Ad
end
section
namespace Go.Proofs.YtoiendjhplbjjaaDoor.Ad
open Go Go.RowKit
open Rely Auto Own
theorem bx {base : Nat} {w W W':World} (hb:base≤w.heap.size) (x:Below base w W) (e:Ext W W'):Below base w W':=Below.trans x (Below.mono e (qT hb x.size))
theorem i64n (a : Int) (m:Nat) (e:a=(m:Int)) (h:m≤5000000000):IntKind.i64.wrap a=(m:Int):=by subst e; exact IntWalk.i64_in _ (by omega)
def Fill (base L k:Nat) (V:Nat→Value) (N:Nat→Nat) (W:World):Prop:=∀ i,i<L→∃ bs,bs.length=N i∧OwnV base bs (V i) W∧(i<k→bs=patL i (N i))
def Qfb (base L k:Nat) (V:Nat→Value) (N:Nat→Nat) (W:World):Prop:=∀ i,i<L→i≠k→∃ bs,bs.length=N i∧OwnV base bs (V i) W∧(i<k→bs=patL i (N i))
theorem Fill.others {base L k:Nat} {V:Nat→Value} {N:Nat→Nat} {W:World} (h:Fill base L k V N W):Qfb base L k V N W:=fun i hi _=>h i hi
theorem Qfb.fill {base L k:Nat} {V:Nat→Value} {N:Nat→Nat} {W:World} (h:Qfb base L k V N W) {bs:List Int} (h1:bs.length=N k) (h2:OwnV base bs (V k) W) (h3:bs=patL k (N k)):Fill base L (k+1) V N W:=fun i hi=>by
  by_cases e:i=k
  · subst e; exact ⟨bs,h1,h2,fun _=>h3⟩
  · obtain ⟨b,q1,q2,q3⟩:=h i hi e
    exact ⟨b,q1,q2,fun hl=>q3 (by omega)⟩
def Dist (L : Nat) (V:Nat→Value):Prop:=∀ i j,i<L→j<L→i≠j→(V i).ownBlock=(V j).ownBlock→(V i).ownBlock=none
theorem Qfb.puts {base L k g n c:Nat} {V:Nat→Value} {N:Nat→Nat} {W W':World} (h:Qfb base L k V N W) (hd:Dist L V) (hk:k<L) (hv:V k=.slice (some ⟨g,0,none⟩) n c) (p:Puts W g W'):Qfb base L k V N W':=fun i hi hn=>by
  obtain ⟨b,q1,q2,q3⟩:=h i hi hn
  refine ⟨b,q1,q2.below fun g' hg'=>p.2.2.2.2 g' fun e=>?_,q3⟩
  subst e
  have h1:=hd i k hi hk hn (by rw [hg',hv]; rfl)
  rw [h1] at hg'; cases hg'
section
variable {ds : List Deferred} {ops : Array Oper} {Q : Exit → Act → World → Prop} {rest : List Oper} {o : Oper} {N : Nat} {L : Env} {W : World}
end
theorem OwnL.cell {base g c i:Nat} {cur:Array Value} {G:List Value} {W:World} (h:OwnL base g c cur G W) (hi:i<G.length):W.cell? ⟨g,i,none⟩=some (gv G i):=by
  refine Qdw h.2.1 ?_
  have e:(cur.toList.take G.length)[i]? = G[i]?:=by rw [h.2.2.2.2.2]
  rw [List.getElem?_take_of_lt hi] at e
  rw [←Array.getElem?_toList,e]
  simp [gv,hi]
section
variable {ds : List Deferred} {ops : Array Oper} {Q : Exit → Act → World → Prop} {rest : List Oper} {o : Oper} {N : Nat} {L : Env} {W : World}
end
end Go.Proofs.YtoiendjhplbjjaaDoor.Ad
end
section
namespace Go.Proofs.YtoiendjhplbjjaaDoor.Sha
open Go Go.RowKit
open Rely Auto Own
theorem QiO {T : TypeId} {base n c:Nat} {xs:List Int} {a:Option Addr} {W:World} (h:OwnN .u8 T base xs (.slice a xs.length c) W) (hn:n≤xs.length):OwnN .u8 T base (xs.take n) (.slice a n c) W:=by
  have hl:(xs.take n).length=n:=by rw [List.length_take]; omega
  obtain ⟨⟨h1,h2⟩,hm⟩:=h
  rcases h2 with ⟨h2,h3⟩ | ⟨g,c',cur,e,q2,q3,q4,q5,q6,q7⟩
  · simp only [Value.slice.injEq] at h2
    obtain ⟨rfl,h4,rfl⟩:=h2
    obtain rfl:=List.length_eq_zero_iff.1 h4
    obtain rfl:n=0:=by simpa using hn
    exact Qbb _ _ _ _
  · simp only [Value.slice.injEq] at e
    obtain ⟨rfl,-,rfl⟩:=e
    refine Qgh hl q2 q3 (by omega) (by omega) q5 ?_
    have:cur.toList.take n=(cur.toList.take (xs.length*1)).take n:=by rw [List.take_take]; congr 1; omega
    rw [this,q7,List.map_take]
theorem OwnN.v {base : Nat} {xs:List Int} {v:Value} {W:World} (h:OwnN .u8 5 base xs v W):OwnV base xs v W:=by
  rcases h.1.2 with ⟨h0,h1⟩ | ⟨g,c,cur,h1,h2,h3,h4,h5,h6,h7⟩
  · exact .inl ⟨h0,List.length_eq_zero_iff.1 h1⟩
  · exact .inr ⟨g,c,cur,h1,h2,h3,by omega,h4,h5,by simpa using h7⟩
theorem QbS.own {base : Nat} {xs:List Int} {v:Value} {W:World} (h:QbS 5 base xs v W):OwnN .u8 5 base xs v W:=by
  obtain ⟨g,c,rfl,h2⟩:=h
  have h3:=QiO h2 (n:=xs.length) (by simp)
  rwa [List.take_left] at h3
theorem QbS.base {a b:Nat} {xs:List Int} {v:Value} {W:World} (hab:a≤b) (h:QbS 5 b xs v W):QbS 5 a xs v W:=by
  obtain ⟨g,c,rfl,h2⟩:=h
  exact ⟨g,c,rfl,h2.base hab⟩
theorem QbS.stable (base : Nat) (xs:List Int):Qb8 Ext (QbS 5 base xs):=fun _ _ _ hR h=>h.ext hR
end Go.Proofs.YtoiendjhplbjjaaDoor.Sha
end
section
namespace Go.Proofs.YtoiendjhplbjjaaDoor.Wm
open Go Go.RowKit
open Rely Auto
variable {P : Program} {ops : Array Oper} {Q : Exit → Act → World → Prop}
def allM (P : Program) (ops:Array Oper) (Q:Exit→Act→World→Prop) (Rd:World→Prop) (m:Nat):Nat→Array Bool→Act→World→Prop
  | 0,listed,a,w=>Region.ready .any ops listed=[]∧Q .normal a w
  | fuel+1,listed,a,w=>(Region.ready .any ops listed=[]→Q .normal a w)∧∀ i∈Region.ready .any ops listed,wpOp P ops Q i (fun a' w'=>(i≠m→Rd w')∧allM P ops Q Rd m fuel (listed.setIfInBounds i true) a' w') a w
theorem Qhb {Rd : World→Prop} {m:Nat}:∀ (fuel:Nat) (listed:Array Bool) (a:Act) (w:World),allM P ops Q Rd m fuel listed a w→wpAny P .any ops Q fuel listed a w
  | 0,_,_,_,h=>h
  | _+1,_,_,_,h=>⟨h.1,fun i hi=>wpOp_mono (fun a w h=>Qhb _ _ a w h.2) (h.2 i hi)⟩
def Qcw (P : Program) (ops:Array Oper) (Rd:World→Prop) (o:Oper) (v:Value) (a:Act):Prop :=
  (Region.wanted o (yielded ops a.tmps)=true∧∀ w,Rd w→(execOp a.eval o).run P w=.ok (.value v) w)∨(Region.wanted o (yielded ops a.tmps)=false∧v=undef)
theorem Qcw.wpOp {Rd : World→Prop} {i:Nat} {o:Oper} {v:Value} {a:Act} (hi:ops[i]? = some o) (hy:Qcw P ops Rd o v a) {K:Act→World→Prop} {w:World} (hw:Rd w) (h:K (a.put o.dst v) w):wpOp P ops Q i K a w:=by
  unfold Go.wpOp
  simp only [hi]
  rcases hy with ⟨hw1,hv⟩ | ⟨hw1,rfl⟩
  · simp only [hw1,if_true,Oper.wp,hv w hw,Oper.upon]; exact .inl h
  · simp only [hw1,Bool.false_eq_true,if_false]; exact h
theorem Qcw.same {Rd : World→Prop} {o:Oper} {v:Value} {a a':Act} (hy:Qcw P ops Rd o v a) (he:execOp a'.eval o=execOp a.eval o) (hw:Region.wanted o (yielded ops a'.tmps)=Region.wanted o (yielded ops a.tmps)):Qcw P ops Rd o v a':=by
  unfold Qcw at *
  rw [he,hw]
  exact hy
theorem Qkc {Rd : World→Prop} {j:Nat} {oi oj:Oper} {v:Value} (hj:ops[j]? = some oj) (hap:oi.apart ops oj=true) (hsi:∀ cs b,oi.op≠.select cs b) (hsj:∀ cs b,oj.op≠.select cs b)
    (hQ:∀ c a w,Q (.panic c) (a.put oi.dst v) w→Q (.panic c) a w) {K:Act→World→Prop} {a:Act} {w:World} (hy:Qcw P ops Rd oi v a) (h:wpOp P ops Q j K (a.put oi.dst v) w) :
    wpOp P ops Q j (fun a' w'=>Qcw P ops Rd oi v a'∧K (a'.put oi.dst v) w') a w:=by
  obtain ⟨h1,h2,h3⟩:=Oper.apart_spec hap
  have keep:∀ (a:Act),Qcw P ops Rd oi v a→∀ u,Qcw P ops Rd oi v (a.put oj.dst u):=fun a hy u=>hy.same (execOp_put oi hsi a oj.dst u h3) (wanted_put oi a oj.dst u h3)
  have keepD:∀ d,Qcw P ops Rd oi v { a with defers:=d::a.defers }:=fun d=>hy.same rfl rfl
  unfold wpOp at *
  simp only [hj] at *
  rw [wanted_put oj a oi.dst v h1] at h
  split
  · rename_i hw
    simp only [hw,if_true] at h
    rcases h with h | ⟨hasks,hlets⟩
    case inr=>exact .inr ⟨by unfold Oper.asks at *; rw [execOp_put oj hsj a oi.dst v h1] at hasks; exact hasks,hlets⟩
    refine .inl ?_
    unfold Oper.wp at *
    rw [execOp_put oj hsj a oi.dst v h1] at h
    generalize (execOp a.eval oj).run P w=r at *
    cases r with
    | ok n w' =>
      cases n <;> simp only [Oper.upon] at h ⊢
      case value u=>exact ⟨keep a hy u,by rw [←Act.put_comm a v u h2]; exact h⟩
      case skip=>exact ⟨keep a hy _,by rw [←Act.put_comm a v undef h2]; exact h⟩
      case defer d =>
        refine ⟨keep _ (keepD d) _,?_⟩
        rw [←Act.put_comm _ v undef h2,←Act.put_defers]
        exact h
      case enter f args =>
        refine Calls.mono h fun e w'' he=>?_
        cases e with
        | returned u=>exact ⟨keep a hy u,by rw [←Act.put_comm a v u h2]; exact he⟩
        | panicked c=>exact hQ _ _ _ he
        | outgrown=>exact he
      case row row args=>exact Rows.mono h fun u w'' he=>⟨keep a hy u,by rw [←Act.put_comm a v u h2]; exact he⟩
    | halt x w' =>
      cases x <;> simp only [Oper.upon] at h ⊢
      case panic u=>exact hQ _ _ _ h
  · rename_i hw
    simp only [hw] at h
    exact ⟨keep a hy _,by rw [←Act.put_comm a v undef h2]; exact h⟩
theorem Qh6 {Rd : World→Prop} {m:Nat} {i:Nat} {oi:Oper} {v:Value} (hi:ops[i]? = some oi) (hsel:∀ (j:Nat) (o:Oper) cs b,ops[j]? = some o→o.op≠.select cs b) (him:i≠m) (hwait:∃ om e,ops[m]? = some om∧e∈om.after∧Region.binds .any e=true∧e.on=i) (hQ:∀ c a w,Q (.panic c) (a.put oi.dst v) w→Q (.panic c) a w) :
    ∀ (fuel:Nat) (listed:Array Bool) (a:Act) (w:World),Rd w →
      (∀ j oj,ops[j]? = some oj→j≠i→listed.getD j true=false→(∀ e∈oj.after,Region.binds .any e=true→e.on≠i)→oi.apart ops oj=true) →
      i∈Region.ready .any ops listed→Qcw P ops Rd oi v a→allM P ops Q Rd m fuel (listed.setIfInBounds i true) (a.put oi.dst v) w→allM P ops Q Rd m (fuel+1) listed a w:=by
  intro fuel
  induction fuel with
  | zero =>
    intro listed a w hw _ hr hy H
    refine ⟨fun h=>(by rw [h] at hr; cases hr),fun j hj=>?_⟩
    by_cases hji:j=i
    · subst hji; exact hy.wpOp hi hw ⟨fun _=>hw,H⟩
    · have:=ready_mono hj hji
      rw [H.1] at this
      cases this
  | succ fuel ih =>
    intro listed a w hw hfree hr hy H
    refine ⟨fun h=>(by rw [h] at hr; cases hr),fun j hj=>?_⟩
    by_cases hji:j=i
    · subst hji; exact hy.wpOp hi hw ⟨fun _=>hw,H⟩
    · have h1:=H.2 j (ready_mono hj hji)
      obtain ⟨hjun,oj,hoj,hall⟩:=mem_ready.1 hj
      have hnot:∀ e∈oj.after,Region.binds .any e=true→e.on≠i:=fun e he hb heq=>by
        have h1:=hall e he hb
        have h0:=(mem_ready.1 hr).1
        rw [heq] at h1
        rcases Nat.lt_or_ge i listed.size with h' | h'
        · simp [h'] at h0 h1; rw [h0] at h1; cases h1
        · simp [Array.getElem?_eq_none h'] at h1
      have hjm:j≠m:=fun q=>by
        subst q
        obtain ⟨om,e,hom,he,hb,heq⟩:=hwait
        rw [hoj] at hom
        exact hnot e (Option.some.inj hom▸he) hb heq
      have h2:=Qkc hoj (hfree j oj hoj hji hjun hnot) (fun cs b=>hsel i oi cs b hi) (fun cs b=>hsel j oj cs b hoj) hQ hy h1
      have hfree':∀ k ok,ops[k]? = some ok→k≠i→(listed.setIfInBounds j true).getD k true=false→(∀ e∈ok.after,Region.binds .any e=true→e.on≠i)→oi.apart ops ok=true:=fun k ok hk hki hun hno=>by
        refine hfree k ok hk hki ?_ hno
        by_cases hjk:j=k
        · subst hjk; exact hjun
        · rw [getD_set_ne true hjk] at hun; exact hun
      refine wpOp_mono (fun a' w' h3=>⟨fun _=>h3.2.1 hjm,ih (listed.setIfInBounds j true) a' w' (h3.2.1 hjm) hfree' (ready_mono hr (Ne.symm hji)) h3.1 ?_⟩) h2
      rw [Array.setIfInBounds_comm _ _ hji]
      exact h3.2.2
structure WM (P : Program) (ops : Array Oper) (Q : Exit → Act → World → Prop) (Rd : World → Prop) (m fuel : Nat) (listed : Array Bool) (a : Act) (w : World) : Prop where
  out:Rd w→allM P ops Q Rd m fuel listed a w
variable {o : Oper} {N : Nat} {L : Env} {w V : World} {ds : List Deferred} {fuel : Nat} {listed : Array Bool} {k m : Nat} {a : Act} {Rd : World → Prop}
theorem region_walkM {id : Nat} {l:List Oper} (Rd:World→Prop) (m:Nat) (hm:P.follows .mixedOrders=true) (h:∀ W,Ext w W→Rd W∧WM P l.toArray Q Rd m l.length (Array.replicate l.length false) (Qaz ds N L) W):(Code.region id l.toArray true).wp P Q (Qaz ds N L) w:=by
  refine wp_region_any hm ?_
  obtain ⟨h1,h2⟩:=h w.drew (Qak w)
  have:=Qhb _ _ _ _ (h2.out h1)
  simpa using this
def waits (ops : Array Oper) (m k:Nat):Bool:=match ops[m]? with | some om=>om.after.any (fun e=>Region.binds .any e&&e.on==k) | none=>false
theorem Qhe (h : waits ops m k=true):∃ om e,ops[m]? = some om∧e∈om.after∧Region.binds .any e=true∧e.on=k:=by
  unfold waits at h
  split at h
  · rename_i om ho
    obtain ⟨i,hi,h1⟩:=Array.any_eq_true.1 h
    simp only [Bool.and_eq_true,beq_iff_eq] at h1
    exact ⟨om,_,ho,Array.getElem_mem hi,h1.1,h1.2⟩
  · cases h
theorem wm_val (k : Nat) (v:Value) (d:Nat) (ho:ops[k]? = some o) (hd:o.dst=some d) (hg:QbT ops o N L=some true) (hc:(Region.noSelect ops&&Region.free .any ops listed k&&(Region.ready .any ops listed).contains k)=true) (hkm:k≠m) (hwt:waits ops m k=true)
    (hQ:∀ c a w,Q (.panic c) (a.put o.dst v) w→Q (.panic c) a w) (h:∀ W,Rd W→(execOp (Rely.look (envN N L)) o).run P W=.ok (.value v) W) (kk:WM P ops Q Rd m fuel (listed.setIfInBounds k true) (Qaz ds N ((d,v)::L)) w):WM P ops Q Rd m (fuel+1) listed (Qaz ds N L) w:=by
  simp only [Bool.and_eq_true] at hc
  refine ⟨fun hw=>Qh6 ho (Region.noSelect_spec hc.1.1) hkm (Qhe hwt) hQ fuel listed _ w hw (Region.free_spec ho hc.1.2) (by simpa using hc.2) (.inl ⟨Qdl hg,fun W hW=>?_⟩) ?_⟩
  · rw [QbK]; exact h W hW
  · rw [hd,Qb3]; exact kk.out hw
theorem QjB (hr : Region.ready .any ops listed=[m]) (hr2:Region.ready .any ops (listed.setIfInBounds m true)=[]) (ho:ops[m]? = some o) (R:World→Prop) (hd:o.dst=none) (hg:QbT ops o N L=some true) (h:∃ W,(execOp (Rely.look (envN N L)) o).run P w=.ok .skip W∧R W)
    (kk:∀ W,R W→Q .normal (Qaz ds N L) W):WM P ops Q Rd m (fuel+1) listed (Qaz ds N L) w:=by
  obtain ⟨W,h1,h2⟩:=h
  refine ⟨fun _=>⟨fun h0=>(by rw [hr] at h0; cases h0),fun i hi=>?_⟩⟩
  rw [hr] at hi
  obtain rfl:i=m:=by simpa using hi
  unfold wpOp
  rw [ho]
  simp only [Qdl hg,if_true]
  refine .inl ?_
  unfold Oper.wp
  rw [QbK,h1]
  show _∧allM _ _ _ _ _ _ _ _ _
  rw [hd,show (Qaz ds N L).put none undef=Qaz ds N L from rfl]
  refine ⟨fun q=>absurd rfl q,?_⟩
  cases fuel with
  | zero=>exact ⟨hr2,kk W h2⟩
  | succ n=>exact ⟨fun _=>kk W h2,by rw [hr2]; simp⟩
theorem wm_store (g : Nat) (old cs:Array Value) (t:TypeId) (hgr:w.heap[g]? = some (.cells old t)) (hr:Region.ready .any ops listed=[m]) (hr2:Region.ready .any ops (listed.setIfInBounds m true)=[]) (ho:ops[m]? = some o) (hd:o.dst=none) (hg:QbT ops o N L=some true) (h:(execOp (Rely.look (envN N L)) o).run P w=.ok .skip (w.setRow g cs))
    (kk:∀ W,Puts w g W→W.heap[g]? = some (.cells cs t)→Q .normal (Qaz ds N L) W):WM P ops Q Rd m (fuel+1) listed (Qaz ds N L) w :=
  QjB hr hr2 ho (fun W=>Puts w g W∧W.heap[g]? = some (.cells cs t)) hd hg ⟨_,h,QbY _ _ _,setRow_heap _ _ _ _ _ _ hgr⟩ fun W hh=>kk W hh.1 hh.2
end Go.Proofs.YtoiendjhplbjjaaDoor.Wm
end
