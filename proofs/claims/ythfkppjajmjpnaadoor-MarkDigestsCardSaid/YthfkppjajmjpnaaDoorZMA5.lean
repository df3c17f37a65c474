/- Texts of this claim, joined (MA5). -/
import Derived.Test.YthfkppjajmjpnaaDoorZMA4
import Derived.Lib.SmallJoins
import Derived.Lib.LaidTab
import Derived.Deep.Strs

set_option linter.unusedVariables false
set_option linter.unusedSimpArgs false
set_option maxHeartbeats 4000000
section
namespace Go.Proofs.YthfkppjajmjpnaaDoor.Te
open Go Go.RowKit
open Rely Auto Own Seat Wk Sha
theorem TrAt.oks {B : Nat} {w:World} {a:Option Addr} {ts:List NdV} (h:TrAt B w a ts):∀ x,x<ts.length→NdOk (ndi ts x).n:=by
  obtain ⟨g,o,h1,h2⟩:=h
  exact fun x hx=>(h2 x hx).ok
theorem QiL {n : NdV} {base g:Nat} {W:World} (hg:base≤g) (r:W.heap[g]? = some (.cells (cat (ndP n)) 50)) (ok:NdOk n.n) (hn:NdIn base W n):TrAt W.heap.size W (some ⟨g,0,none⟩) [n] :=
  (OwH.made (h:=none) (ts:=[n]) (c:=1) hg r (Qcp _ ok) (qR _) (by decide) (fun i hi j hj=>by obtain rfl:i=0:=Nat.lt_one_iff.1 hi; rw [Nat.zero_mul,Nat.zero_add]; rfl) (fun i hi=>by obtain rfl:i=0:=Nat.lt_one_iff.1 hi; exact ok) (fun i hi _=>by obtain rfl:i=0:=Nat.lt_one_iff.1 hi; exact hn) (fun i j hi hj hij _ _=>absurd ((Nat.lt_one_iff.1 hi).trans (Nat.lt_one_iff.1 hj).symm) hij)).tr
def dgN (ts : List NdV) (wo:List Int) (x:Nat):List Int:=dig (txtN ts wo 5 x)
theorem QaN (ts : List NdV) (wo:List Int) (x:Nat):(dgN ts wo x).length=32:=QaP _
theorem Qhz {ts : List NdV} {L x:Nat} (f:Form ts L) (hx:x<ts.length):lv ((x:Nat):Int)≤((5:Nat):Int):=by
  have hlen:=f.len
  have hTr:=f.tr
  exact (Qef (Qbb hTr (x:=x) (by omega))).1
theorem QfE {ts : List NdV} {L:Nat} (f:Form ts L):leaves ((ts.length:Nat):Int)=((L:Nat):Int):=by
  have h1:=f.len
  have h2:=QaB f.tr
  have e:(ts.length:Nat)=2*L-1:=by omega
  rcases h2 with h | h | h | h | h | h <;> (obtain rfl:L=_:=Int.ofNat.inj h; rw [e]; decide +kernel)
theorem digD (ts : List NdV) (a_t:Option Addr) (c_t B1:Nat) (htl:ts.length≤100000) (hmt:∀ i,i<ts.length→(ndi ts i).n.ms.length≤50) (hc:chkT ts=true) (wo:List Int) (a_o:Option Addr) (c_o Bo:Nat) (w:World) (ht:TrAt B1 w a_t ts) (hT:TabAt w) (hSh:ShT w) (hol:wo.length≤1000000) (ho:RdK .i64 Bo wo (.slice a_o wo.length c_o) w) (x:Nat) (hx:x<ts.length):Calls Tryd.prog 27 #[.slice a_t ts.length c_t,.int .i64 ((x:Nat):Int),.slice a_o wo.length c_o] w (Ret w (.agg (ints .u8 (dgN ts wo x)))):=by
  obtain ⟨L,f,-⟩:=Qcr htl hc
  exact digP ts a_t c_t B1 htl hmt L f ht.oks wo a_o c_o 0 hol 5 x (qR _) hx (Qhz f hx) w ht hT hSh (RdK.here ho)
theorem QkX (ts : List NdV) (a_t:Option Addr) (c_t B1:Nat) (htl:ts.length≤100000) (hmt:∀ i,i<ts.length→(ndi ts i).n.ms.length≤50) (hc:chkT ts=true) (wo:List Int) (a_o:Option Addr) (c_o Bo:Nat) (w:World) (ht:TrAt B1 w a_t ts) (hol:wo.length≤1000000) (ho:RdK .i64 Bo wo (.slice a_o wo.length c_o) w) (x:Nat) (hx:x<ts.length):Calls Tryd.prog 14 #[.slice a_t ts.length c_t,.int .i64 ((x:Nat):Int),.slice a_o wo.length c_o] w (Ret w (.agg (ints .u8 (dgN ts wo x)))):=by
  obtain ⟨L,f,-⟩:=Qcr htl hc
  exact (QlC ts a_t c_t B1 htl hmt L f ht.oks wo a_o c_o hol 5 x (qR _) hx (Qhz f hx)).2 w ht (RdK.here ho)
set_option maxRecDepth 100000 in
theorem Qlg (ts : List NdV) (a_t:Option Addr) (c_t B1:Nat) (htl:ts.length≤100000) (hmt:∀ i,i<ts.length→(ndi ts i).n.ms.length≤50) (wo:List Int) (a_o:Option Addr) (c_o Bo:Nat) (w:World) (ht:TrAt B1 w a_t ts) (hT:TabAt w) (hSh:ShT w) (hol:wo.length≤1000000) (ho:RdK .i64 Bo wo (.slice a_o wo.length c_o) w) (x:Int) (h1:x<0):Calls Tryd.prog 10 #[.slice a_t ts.length c_t,.int .i64 x,.slice a_o wo.length c_o] w (Ret w (.tuple #[.agg (ints .u8 (List.replicate 32 0)),.bool false])):=by
  refine enter 26 [(0,.slice a_t ts.length c_t),(1,.int .i64 x),(2,.slice a_o wo.length c_o)] Tryd.func10 rfl rfl kj rfl ?_
  refine wp_seq_k fun K1 hK1=>?_
  refine Qab ?_
  refine Qal (ints .u8 (List.replicate 32 0)) 28 6 rfl kj kj fun g2 W1 l2 e1 r2_1=>?_
  have x1:Ext w W1:=Ext.tr (Rely.Ext.refl w) e1
  have b2:w.heap.size≤g2:=qT (Rely.Ext.refl w).size l2
  refine Qaa (.bool false) 7 rfl kj kj ?_
  refine Qaf ?_
  refine hK1 _ _ ?_
  refine wp_seq_k fun K3 hK3=>?_
  refine wp_seq_k fun K4 hK4=>?_
  refine Qab ?_
  refine Qaa (.int .i64 x) 8 rfl kj kj ?_
  refine Qaa (.bool true) 9 rfl kj (Qai (u:=.bool (decide (x<0))) kj (congrArg Value.bool (decide_eq_true (by omega)))) ?_
  refine Qaa (.bool true) 10 rfl kj kj ?_
  refine Qad 11 rfl kj ?_
  refine Qad 12 rfl kj ?_
  refine Qad 13 rfl kj ?_
  refine Qad 14 rfl kj ?_
  refine Qaa (.bool true) 15 rfl kj kj ?_
  refine Qaa (.bool true) 16 rfl kj kj ?_
  refine Qad 17 rfl kj ?_
  refine Qad 18 rfl kj ?_
  refine Qad 19 rfl kj ?_
  refine Qaa (.bool true) 20 rfl kj kj ?_
  refine Qaf ?_
  refine hK4 _ _ ?_
  refine cond_true kj ?_
  refine wp_seq_k fun K5 hK5=>?_
  refine Qab ?_
  refine Qaa (.agg (ints .u8 (List.replicate 32 0))) 21 rfl kj kj ?_
  refine Qat g2 _ (ints .u8 (List.replicate 32 0)) 28 r2_1 rfl kj (Qap 28 _ _ g2 28 _ _ r2_1 rfl kj kj (isz (n:=32) kj ((Qae _ _).trans (qZ (n:=32)))) (eqsz (n:=32) ((Qae _ _).trans (qZ (n:=32))) ((Qae _ _).trans (qZ (n:=32)))) (Qau _ _)) fun W2 p2 r2_2=>?_
  have x2:Ext w W2:=Puts.ext p2 x1 b2
  refine Qaa (.bool false) 7 rfl kj kj ?_
  refine Qaf ?_
  refine hK5 _ _ ?_
  refine wp_ret ?_
  repeat (first | with_reducible refine goR1 ?_ | with_reducible refine goR2 ?_)
  exact (show bodyPost _ _ _ .ret _ _ from ret2 (.agg (ints .u8 (List.replicate 32 0))) (.bool false) rfl (Qbl g2 28 _ r2_2 kj kj (isz (n:=32) kj ((Qae _ _).trans (qZ (n:=32))))) (Qar kj) ⟨rfl,x2⟩)
set_option maxRecDepth 100000 in
theorem Qlh (ts : List NdV) (a_t:Option Addr) (c_t B1:Nat) (htl:ts.length≤100000) (hmt:∀ i,i<ts.length→(ndi ts i).n.ms.length≤50) (wo:List Int) (a_o:Option Addr) (c_o Bo:Nat) (w:World) (ht:TrAt B1 w a_t ts) (hT:TabAt w) (hSh:ShT w) (hol:wo.length≤1000000) (ho:RdK .i64 Bo wo (.slice a_o wo.length c_o) w) (x:Int) (h1:0≤x) (h2:((ts.length:Nat):Int)≤x):Calls Tryd.prog 10 #[.slice a_t ts.length c_t,.int .i64 x,.slice a_o wo.length c_o] w (Ret w (.tuple #[.agg (ints .u8 (List.replicate 32 0)),.bool false])):=by
  refine enter 26 [(0,.slice a_t ts.length c_t),(1,.int .i64 x),(2,.slice a_o wo.length c_o)] Tryd.func10 rfl rfl kj rfl ?_
  refine wp_seq_k fun K1 hK1=>?_
  refine Qab ?_
  refine Qal (ints .u8 (List.replicate 32 0)) 28 6 rfl kj kj fun g2 W1 l2 e1 r2_1=>?_
  have x1:Ext w W1:=Ext.tr (Rely.Ext.refl w) e1
  have b2:w.heap.size≤g2:=qT (Rely.Ext.refl w).size l2
  refine Qaa (.bool false) 7 rfl kj kj ?_
  refine Qaf ?_
  refine hK1 _ _ ?_
  refine wp_seq_k fun K3 hK3=>?_
  refine wp_seq_k fun K4 hK4=>?_
  refine Qab ?_
  refine Qaa (.int .i64 x) 8 rfl kj kj ?_
  refine Qaa (.bool false) 9 rfl kj (Qai (u:=.bool (decide (x<0))) kj (congrArg Value.bool (decide_eq_false (by omega)))) ?_
  refine Qaa (.bool false) 10 rfl kj kj ?_
  refine Qaa (.int .i64 x) 11 rfl kj kj ?_
  refine Qaa (.slice a_t ts.length c_t) 12 rfl kj kj ?_
  refine Qaa (.int .i64 ((ts.length:Nat):Int)) 13 rfl kj kj ?_
  refine Qaa (.bool true) 14 rfl kj (Qai (u:=.bool (decide (x≥((ts.length:Nat):Int)))) kj (congrArg Value.bool (decide_eq_true (by omega)))) ?_
  refine Qaa (.bool true) 15 rfl kj kj ?_
  refine Qaa (.bool true) 16 rfl kj kj ?_
  refine Qad 17 rfl kj ?_
  refine Qad 18 rfl kj ?_
  refine Qad 19 rfl kj ?_
  refine Qaa (.bool true) 20 rfl kj kj ?_
  refine Qaf ?_
  refine hK4 _ _ ?_
  refine cond_true kj ?_
  refine wp_seq_k fun K5 hK5=>?_
  refine Qab ?_
  refine Qaa (.agg (ints .u8 (List.replicate 32 0))) 21 rfl kj kj ?_
  refine Qat g2 _ (ints .u8 (List.replicate 32 0)) 28 r2_1 rfl kj (Qap 28 _ _ g2 28 _ _ r2_1 rfl kj kj (isz (n:=32) kj ((Qae _ _).trans (qZ (n:=32)))) (eqsz (n:=32) ((Qae _ _).trans (qZ (n:=32))) ((Qae _ _).trans (qZ (n:=32)))) (Qau _ _)) fun W2 p2 r2_2=>?_
  have x2:Ext w W2:=Puts.ext p2 x1 b2
  refine Qaa (.bool false) 7 rfl kj kj ?_
  refine Qaf ?_
  refine hK5 _ _ ?_
  refine wp_ret ?_
  repeat (first | with_reducible refine goR1 ?_ | with_reducible refine goR2 ?_)
  exact (show bodyPost _ _ _ .ret _ _ from ret2 (.agg (ints .u8 (List.replicate 32 0))) (.bool false) rfl (Qbl g2 28 _ r2_2 kj kj (isz (n:=32) kj ((Qae _ _).trans (qZ (n:=32))))) (Qar kj) ⟨rfl,x2⟩)
set_option maxRecDepth 100000 in
theorem Qli (ts : List NdV) (a_t:Option Addr) (c_t B1:Nat) (htl:ts.length≤100000) (hmt:∀ i,i<ts.length→(ndi ts i).n.ms.length≤50) (wo:List Int) (a_o:Option Addr) (c_o Bo:Nat) (w:World) (ht:TrAt B1 w a_t ts) (hT:TabAt w) (hSh:ShT w) (hol:wo.length≤1000000) (ho:RdK .i64 Bo wo (.slice a_o wo.length c_o) w) (x:Int) (h1:0≤x) (h2:x<((ts.length:Nat):Int)) (hc:chkT ts=false):Calls Tryd.prog 10 #[.slice a_t ts.length c_t,.int .i64 x,.slice a_o wo.length c_o] w (Ret w (.tuple #[.agg (ints .u8 (List.replicate 32 0)),.bool false])):=by
  refine enter 26 [(0,.slice a_t ts.length c_t),(1,.int .i64 x),(2,.slice a_o wo.length c_o)] Tryd.func10 rfl rfl kj rfl ?_
  refine wp_seq_k fun K1 hK1=>?_
  refine Qab ?_
  refine Qal (ints .u8 (List.replicate 32 0)) 28 6 rfl kj kj fun g2 W1 l2 e1 r2_1=>?_
  have x1:Ext w W1:=Ext.tr (Rely.Ext.refl w) e1
  have b2:w.heap.size≤g2:=qT (Rely.Ext.refl w).size l2
  refine Qaa (.bool false) 7 rfl kj kj ?_
  refine Qaf ?_
  refine hK1 _ _ ?_
  refine wp_seq_k fun K3 hK3=>?_
  refine wp_seq_k fun K4 hK4=>?_
  refine Qab ?_
  refine Qaa (.int .i64 x) 8 rfl kj kj ?_
  refine Qaa (.bool false) 9 rfl kj (Qai (u:=.bool (decide (x<0))) kj (congrArg Value.bool (decide_eq_false (by omega)))) ?_
  refine Qaa (.bool false) 10 rfl kj kj ?_
  refine Qaa (.int .i64 x) 11 rfl kj kj ?_
  refine Qaa (.slice a_t ts.length c_t) 12 rfl kj kj ?_
  refine Qaa (.int .i64 ((ts.length:Nat):Int)) 13 rfl kj kj ?_
  refine Qaa (.bool false) 14 rfl kj (Qai (u:=.bool (decide (x≥((ts.length:Nat):Int)))) kj (congrArg Value.bool (decide_eq_false (by omega)))) ?_
  refine Qaa (.bool false) 15 rfl kj kj ?_
  refine Qaa (.bool false) 16 rfl kj kj ?_
  refine Qaa (.slice a_t ts.length c_t) 17 rfl kj kj ?_
  refine Qan (.iface 68 (.int .i64 3)) 26 #[.slice a_t ts.length c_t] 18 rfl kj kj (Qjc ts a_t c_t _ _ (TrAt.ext ht x1) htl (fun i hi=>qT (hmt i hi) (by decide)) (TabAt.ext hT x1) hc) fun W2 e2=>?_
  have x2:Ext w W2:=Ext.tr x1 e2
  refine Qaa (.bool true) 19 rfl kj kj ?_
  refine Qaa (.bool true) 20 rfl kj kj ?_
  refine Qaf ?_
  refine hK4 _ _ ?_
  refine cond_true kj ?_
  refine wp_seq_k fun K5 hK5=>?_
  refine Qab ?_
  refine Qaa (.agg (ints .u8 (List.replicate 32 0))) 21 rfl kj kj ?_
  have r2_2:=(Qag r2_1 e2)
  refine Qat g2 _ (ints .u8 (List.replicate 32 0)) 28 r2_2 rfl kj (Qap 28 _ _ g2 28 _ _ r2_2 rfl kj kj (isz (n:=32) kj ((Qae _ _).trans (qZ (n:=32)))) (eqsz (n:=32) ((Qae _ _).trans (qZ (n:=32))) ((Qae _ _).trans (qZ (n:=32)))) (Qau _ _)) fun W3 p3 r2_3=>?_
  have x3:Ext w W3:=Puts.ext p3 x2 b2
  refine Qaa (.bool false) 7 rfl kj kj ?_
  refine Qaf ?_
  refine hK5 _ _ ?_
  refine wp_ret ?_
  repeat (first | with_reducible refine goR1 ?_ | with_reducible refine goR2 ?_)
  exact (show bodyPost _ _ _ .ret _ _ from ret2 (.agg (ints .u8 (List.replicate 32 0))) (.bool false) rfl (Qbl g2 28 _ r2_3 kj kj (isz (n:=32) kj ((Qae _ _).trans (qZ (n:=32))))) (Qar kj) ⟨rfl,x3⟩)
set_option maxRecDepth 100000 in
theorem QiU (ts : List NdV) (a_t:Option Addr) (c_t B1:Nat) (htl:ts.length≤100000) (hmt:∀ i,i<ts.length→(ndi ts i).n.ms.length≤50) (wo:List Int) (a_o:Option Addr) (c_o Bo:Nat) (w:World) (ht:TrAt B1 w a_t ts) (hT:TabAt w) (hSh:ShT w) (hol:wo.length≤1000000) (ho:RdK .i64 Bo wo (.slice a_o wo.length c_o) w) (hc:chkT ts=true) (x:Nat) (hx:x<ts.length):Calls Tryd.prog 10 #[.slice a_t ts.length c_t,.int .i64 ((x:Nat):Int),.slice a_o wo.length c_o] w (Ret w (.tuple #[.agg (ints .u8 (dgN ts wo x)),.bool true])):=by
  refine enter 26 [(0,.slice a_t ts.length c_t),(1,.int .i64 ((x:Nat):Int)),(2,.slice a_o wo.length c_o)] Tryd.func10 rfl rfl kj rfl ?_
  refine wp_seq_k fun K1 hK1=>?_
  refine Qab ?_
  refine Qal (ints .u8 (List.replicate 32 0)) 28 6 rfl kj kj fun g2 W1 l2 e1 r2_1=>?_
  have x1:Ext w W1:=Ext.tr (Rely.Ext.refl w) e1
  have b2:w.heap.size≤g2:=qT (Rely.Ext.refl w).size l2
  refine Qaa (.bool false) 7 rfl kj kj ?_
  refine Qaf ?_
  refine hK1 _ _ ?_
  refine wp_seq_k fun K3 hK3=>?_
  refine wp_seq_k fun K4 hK4=>?_
  refine Qab ?_
  refine Qaa (.int .i64 ((x:Nat):Int)) 8 rfl kj kj ?_
  refine Qaa (.bool false) 9 rfl kj (Qai (u:=.bool (decide (((x:Nat):Int)<0))) kj (congrArg Value.bool (decide_eq_false (by omega)))) ?_
  refine Qaa (.bool false) 10 rfl kj kj ?_
  refine Qaa (.int .i64 ((x:Nat):Int)) 11 rfl kj kj ?_
  refine Qaa (.slice a_t ts.length c_t) 12 rfl kj kj ?_
  refine Qaa (.int .i64 ((ts.length:Nat):Int)) 13 rfl kj kj ?_
  refine Qaa (.bool false) 14 rfl kj (Qai (u:=.bool (decide (((x:Nat):Int)≥((ts.length:Nat):Int)))) kj (congrArg Value.bool (decide_eq_false (by omega)))) ?_
  refine Qaa (.bool false) 15 rfl kj kj ?_
  refine Qaa (.bool false) 16 rfl kj kj ?_
  refine Qaa (.slice a_t ts.length c_t) 17 rfl kj kj ?_
  refine Qan (.nilIface) 26 #[.slice a_t ts.length c_t] 18 rfl kj kj (Qjb ts a_t c_t _ _ (TrAt.ext ht x1) htl (fun i hi=>qT (hmt i hi) (by decide)) (TabAt.ext hT x1) hc) fun W2 e2=>?_
  have x2:Ext w W2:=Ext.tr x1 e2
  refine Qaa (.bool false) 19 rfl kj kj ?_
  refine Qaa (.bool false) 20 rfl kj kj ?_
  refine Qaf ?_
  refine hK4 _ _ ?_
  refine cond_false kj ?_
  refine wp_skip ?_
  refine hK3 _ _ ?_
  refine wp_seq_k fun K5 hK5=>?_
  refine Qab ?_
  refine Qaa (.slice a_t ts.length c_t) 22 rfl kj kj ?_
  refine Qaa (.int .i64 ((x:Nat):Int)) 23 rfl kj kj ?_
  refine Qaa (.slice a_o wo.length c_o) 24 rfl kj kj ?_
  refine Qan (.agg (ints .u8 (dgN ts wo x))) 27 #[.slice a_t ts.length c_t,.int .i64 ((x:Nat):Int),.slice a_o wo.length c_o] 25 rfl kj kj (digD ts a_t c_t B1 htl hmt hc wo a_o c_o _ _ (TrAt.ext ht x2) (TabAt.ext hT x2) (ShT.ext hSh x2) hol (RdK.ext ho x2) x hx) fun W3 e3=>?_
  have x3:Ext w W3:=Ext.tr x2 e3
  have r2_2:=(Qag r2_1 e2)
  have r2_3:=(Qag r2_2 e3)
  refine Qat g2 _ (ints .u8 (dgN ts wo x)) 28 r2_3 rfl kj (Qap 28 _ _ g2 28 _ _ r2_3 rfl kj kj (isz (n:=32) kj ((Qae _ _).trans (QaN ts wo x))) (eqsz (n:=32) ((Qae _ _).trans (qZ (n:=32))) ((Qae _ _).trans (QaN ts wo x))) (Qau _ _)) fun W4 p4 r2_4=>?_
  have x4:Ext w W4:=Puts.ext p4 x3 b2
  refine Qaa (.bool true) 7 rfl kj kj ?_
  refine Qaf ?_
  refine hK5 _ _ ?_
  refine wp_ret ?_
  repeat (first | with_reducible refine goR1 ?_ | with_reducible refine goR2 ?_)
  exact (show bodyPost _ _ _ .ret _ _ from ret2 (.agg (ints .u8 (dgN ts wo x))) (.bool true) rfl (Qbl g2 28 _ r2_4 kj kj (isz (n:=32) kj ((Qae _ _).trans (QaN ts wo x)))) (Qar kj) ⟨rfl,x4⟩)
theorem Qgd (ts : List NdV) (a_t:Option Addr) (c_t B1:Nat) (htl:ts.length≤100000) (hmt:∀ i,i<ts.length→(ndi ts i).n.ms.length≤50) (wo:List Int) (a_o:Option Addr) (c_o Bo:Nat) (w:World) (ht:TrAt B1 w a_t ts) (hT:TabAt w) (hSh:ShT w) (hol:wo.length≤1000000) (ho:RdK .i64 Bo wo (.slice a_o wo.length c_o) w) (x:Int) (h:x<0∨((ts.length:Nat):Int)≤x∨chkT ts=false):Calls Tryd.prog 10 #[.slice a_t ts.length c_t,.int .i64 x,.slice a_o wo.length c_o] w (Ret w (.tuple #[.agg (ints .u8 (List.replicate 32 0)),.bool false])):=by
  by_cases h1:x<0
  · exact Qlg ts a_t c_t B1 htl hmt wo a_o c_o Bo w ht hT hSh hol ho x h1
  by_cases h2:((ts.length:Nat):Int)≤x
  · exact Qlh ts a_t c_t B1 htl hmt wo a_o c_o Bo w ht hT hSh hol ho x (by omega) h2
  · exact Qli ts a_t c_t B1 htl hmt wo a_o c_o Bo w ht hT hSh hol ho x (by omega) (by omega) (h.resolve_left h1 |>.resolve_left h2)
set_option maxRecDepth 100000 in
theorem Qiq (ts : List NdV) (a_t:Option Addr) (c_t B1:Nat) (htl:ts.length≤100000) (hmt:∀ i,i<ts.length→(ndi ts i).n.ms.length≤50) (hc:chkT ts=true) (w:World) (ht:TrAt B1 w a_t ts) (hT:TabAt w) (hSh:ShT w) (L:Nat) (hL:leaves ((ts.length:Nat):Int)=((L:Nat):Int)) (h0:0<ts.length) (hroot:∀ W,Calls Tryd.prog 28 #[.int .i64 ((L:Nat):Int)] W (Ret W (.int .i64 ((ts.length/2:Nat):Int)))):Calls Tryd.prog 11 #[.slice a_t ts.length c_t] w (Ret w (.tuple #[.agg (ints .u8 (dgN ts [] (ts.length/2))),.bool true])):=by
  refine enter 12 [(0,.slice a_t ts.length c_t)] Tryd.func11 rfl rfl kj rfl ?_
  refine wp_seq_k fun K1 hK1=>?_
  refine Qab ?_
  refine Qal (ints .u8 (List.replicate 32 0)) 28 2 rfl kj kj fun g2 W1 l2 e1 r2_1=>?_
  have x1:Ext w W1:=Ext.tr (Rely.Ext.refl w) e1
  have b2:w.heap.size≤g2:=qT (Rely.Ext.refl w).size l2
  refine Qaa (.bool false) 3 rfl kj kj ?_
  refine Qaf ?_
  refine hK1 _ _ ?_
  refine wp_seq_k fun K3 hK3=>?_
  refine Qab ?_
  refine Qaa (.slice a_t ts.length c_t) 4 rfl kj kj ?_
  refine Qaa (.slice a_t ts.length c_t) 5 rfl kj kj ?_
  refine Qaa (.int .i64 ((ts.length:Nat):Int)) 6 rfl kj kj ?_
  refine Qan (.int .i64 ((L:Nat):Int)) 29 #[.int .i64 ((ts.length:Nat):Int)] 7 rfl kj kj (QbS ((ts.length:Nat):Int) ⟨by omega,by omega⟩ _ hL _) fun W2 e2=>?_
  have x2:Ext w W2:=Ext.tr x1 e2
  refine Qan (.int .i64 (((ts.length/2):Nat):Int)) 28 #[.int .i64 ((L:Nat):Int)] 8 rfl kj kj (hroot _) fun W3 e3=>?_
  have x3:Ext w W3:=Ext.tr x2 e3
  refine Qan (.tuple #[.agg (ints .u8 (dgN ts [] (ts.length/2))),.bool true]) 10 #[.slice a_t ts.length c_t,.int .i64 (((ts.length/2):Nat):Int),.slice none 0 0] 9 rfl kj kj (QiU ts a_t c_t B1 htl hmt [] none 0 0 _ (TrAt.ext ht x3) (TabAt.ext hT x3) (ShT.ext hSh x3) (by decide) (show RdK .i64 0 ([]:List Int) (.slice none ([]:List Int).length 0) _ from QdW 0 _) hc (ts.length/2) (by omega)) fun W4 e4=>?_
  have x4:Ext w W4:=Ext.tr x3 e4
  refine Qaa (.agg (ints .u8 (dgN ts [] (ts.length/2)))) 10 rfl kj kj ?_
  refine Qaa (.bool true) 11 rfl kj kj ?_
  have r2_2:=(Qag r2_1 e2)
  have r2_3:=(Qag r2_2 e3)
  have r2_4:=(Qag r2_3 e4)
  refine Qat g2 _ (ints .u8 (dgN ts [] (ts.length/2))) 28 r2_4 rfl kj (Qap 28 _ _ g2 28 _ _ r2_4 rfl kj kj (isz (n:=32) kj ((Qae _ _).trans (QaN ts [] (ts.length/2)))) (eqsz (n:=32) ((Qae _ _).trans (qZ (n:=32))) ((Qae _ _).trans (QaN ts [] (ts.length/2)))) (Qau _ _)) fun W5 p5 r2_5=>?_
  have x5:Ext w W5:=Puts.ext p5 x4 b2
  refine Qaa (.bool true) 3 rfl kj kj ?_
  refine Qaf ?_
  refine hK3 _ _ ?_
  refine wp_ret ?_
  repeat (first | with_reducible refine goR1 ?_ | with_reducible refine goR2 ?_)
  exact (show bodyPost _ _ _ .ret _ _ from ret2 (.agg (ints .u8 (dgN ts [] (ts.length/2)))) (.bool true) rfl (Qbl g2 28 _ r2_5 kj kj (isz (n:=32) kj ((Qae _ _).trans (QaN ts [] (ts.length/2))))) (Qar kj) ⟨rfl,x5⟩)
set_option maxRecDepth 100000 in
theorem Qir (ts : List NdV) (a_t:Option Addr) (c_t B1:Nat) (htl:ts.length≤100000) (hmt:∀ i,i<ts.length→(ndi ts i).n.ms.length≤50) (hc:chkT ts=false) (w:World) (ht:TrAt B1 w a_t ts) (hT:TabAt w) (hSh:ShT w) (L:Nat) (hL:leaves ((ts.length:Nat):Int)=((L:Nat):Int)) (r:Int) (hroot:∀ W,Calls Tryd.prog 28 #[.int .i64 ((L:Nat):Int)] W (Ret W (.int .i64 r))):Calls Tryd.prog 11 #[.slice a_t ts.length c_t] w (Ret w (.tuple #[.agg (ints .u8 (List.replicate 32 0)),.bool false])):=by
  refine enter 12 [(0,.slice a_t ts.length c_t)] Tryd.func11 rfl rfl kj rfl ?_
  refine wp_seq_k fun K1 hK1=>?_
  refine Qab ?_
  refine Qal (ints .u8 (List.replicate 32 0)) 28 2 rfl kj kj fun g2 W1 l2 e1 r2_1=>?_
  have x1:Ext w W1:=Ext.tr (Rely.Ext.refl w) e1
  have b2:w.heap.size≤g2:=qT (Rely.Ext.refl w).size l2
  refine Qaa (.bool false) 3 rfl kj kj ?_
  refine Qaf ?_
  refine hK1 _ _ ?_
  refine wp_seq_k fun K3 hK3=>?_
  refine Qab ?_
  refine Qaa (.slice a_t ts.length c_t) 4 rfl kj kj ?_
  refine Qaa (.slice a_t ts.length c_t) 5 rfl kj kj ?_
  refine Qaa (.int .i64 ((ts.length:Nat):Int)) 6 rfl kj kj ?_
  refine Qan (.int .i64 ((L:Nat):Int)) 29 #[.int .i64 ((ts.length:Nat):Int)] 7 rfl kj kj (QbS ((ts.length:Nat):Int) ⟨by omega,by omega⟩ _ hL _) fun W2 e2=>?_
  have x2:Ext w W2:=Ext.tr x1 e2
  refine Qan (.int .i64 (r)) 28 #[.int .i64 ((L:Nat):Int)] 8 rfl kj kj (hroot _) fun W3 e3=>?_
  have x3:Ext w W3:=Ext.tr x2 e3
  refine Qan (.tuple #[.agg (ints .u8 (List.replicate 32 0)),.bool false]) 10 #[.slice a_t ts.length c_t,.int .i64 (r),.slice none 0 0] 9 rfl kj kj (Qgd ts a_t c_t B1 htl hmt [] none 0 0 _ (TrAt.ext ht x3) (TabAt.ext hT x3) (ShT.ext hSh x3) (by decide) (show RdK .i64 0 ([]:List Int) (.slice none ([]:List Int).length 0) _ from QdW 0 _) r (.inr (.inr hc))) fun W4 e4=>?_
  have x4:Ext w W4:=Ext.tr x3 e4
  refine Qaa (.agg (ints .u8 (List.replicate 32 0))) 10 rfl kj kj ?_
  refine Qaa (.bool false) 11 rfl kj kj ?_
  have r2_2:=(Qag r2_1 e2)
  have r2_3:=(Qag r2_2 e3)
  have r2_4:=(Qag r2_3 e4)
  refine Qat g2 _ (ints .u8 (List.replicate 32 0)) 28 r2_4 rfl kj (Qap 28 _ _ g2 28 _ _ r2_4 rfl kj kj (isz (n:=32) kj ((Qae _ _).trans (qZ (n:=32)))) (eqsz (n:=32) ((Qae _ _).trans (qZ (n:=32))) ((Qae _ _).trans (qZ (n:=32)))) (Qau _ _)) fun W5 p5 r2_5=>?_
  have x5:Ext w W5:=Puts.ext p5 x4 b2
  refine Qaa (.bool false) 3 rfl kj kj ?_
  refine Qaf ?_
  refine hK3 _ _ ?_
  refine wp_ret ?_
  repeat (first | with_reducible refine goR1 ?_ | with_reducible refine goR2 ?_)
  exact (show bodyPost _ _ _ .ret _ _ from ret2 (.agg (ints .u8 (List.replicate 32 0))) (.bool false) rfl (Qbl g2 28 _ r2_5 kj kj (isz (n:=32) kj ((Qae _ _).trans (qZ (n:=32))))) (Qar kj) ⟨rfl,x5⟩)
set_option maxRecDepth 100000 in
theorem QfU (ts : List NdV) (a_t:Option Addr) (c_t B1:Nat) (htl:ts.length≤100000) (hmt:∀ i,i<ts.length→(ndi ts i).n.ms.length≤50) (hc:chkT ts=true) (h0:0<ts.length) (w:World) (ht:TrAt B1 w a_t ts):Calls Tryd.prog 13 #[.slice a_t ts.length c_t] w (Ret w (.agg (ints .u8 (dgN ts [] (ts.length/2))))):=by
  refine enter 8 [(0,.slice a_t ts.length c_t)] Tryd.func13 rfl rfl kj rfl ?_
  refine wp_seq_k fun K1 hK1=>?_
  refine Qab ?_
  refine Qal (ints .u8 (List.replicate 32 0)) 28 2 rfl kj kj fun g2 W1 l2 e1 r2_1=>?_
  have x1:Ext w W1:=Ext.tr (Rely.Ext.refl w) e1
  have b2:w.heap.size≤g2:=qT (Rely.Ext.refl w).size l2
  refine Qaf ?_
  refine hK1 _ _ ?_
  refine wp_seq_k fun K3 hK3=>?_
  refine Qab ?_
  refine Qaa (.slice a_t ts.length c_t) 3 rfl kj kj ?_
  refine Qaa (.slice a_t ts.length c_t) 4 rfl kj kj ?_
  refine Qaa (.int .i64 ((ts.length:Nat):Int)) 5 rfl kj kj ?_
  refine Qaa (.int .i64 ((ts.length/2:Nat):Int)) 6 rfl kj (Qai (u:=.int .i64 (IntKind.i64.wrap (Int.tdiv (((ts.length:Nat):Int)) (2)))) kj (congrArg (Value.int .i64) (Qb1 _ 2 (by omega)))) ?_
  refine Qan (.agg (ints .u8 (dgN ts [] (ts.length/2)))) 14 #[.slice a_t ts.length c_t,.int .i64 ((ts.length/2:Nat):Int),.slice none 0 0] 7 rfl kj kj (QkX ts a_t c_t B1 htl hmt hc [] none 0 0 _ (TrAt.ext ht x1) (by decide) (show RdK .i64 0 ([]:List Int) (.slice none ([]:List Int).length 0) _ from QdW 0 _) (ts.length/2) (by omega)) fun W2 e2=>?_
  have x2:Ext w W2:=Ext.tr x1 e2
  have r2_2:=(Qag r2_1 e2)
  refine Qat g2 _ (ints .u8 (dgN ts [] (ts.length/2))) 28 r2_2 rfl kj (Qap 28 _ _ g2 28 _ _ r2_2 rfl kj kj (isz (n:=32) kj ((Qae _ _).trans (QaN ts [] (ts.length/2)))) (eqsz (n:=32) ((Qae _ _).trans (qZ (n:=32))) ((Qae _ _).trans (QaN ts [] (ts.length/2)))) (Qau _ _)) fun W3 p3 r2_3=>?_
  have x3:Ext w W3:=Puts.ext p3 x2 b2
  refine Qaf ?_
  refine hK3 _ _ ?_
  refine wp_ret ?_
  repeat (first | with_reducible refine goR1 ?_ | with_reducible refine goR2 ?_)
  exact (show bodyPost _ _ _ .ret _ _ from ret1 (.agg (ints .u8 (dgN ts [] (ts.length/2)))) rfl (Qbl g2 28 _ r2_3 kj kj (isz (n:=32) kj ((Qae _ _).trans (QaN ts [] (ts.length/2))))) ⟨rfl,x3⟩)
theorem Qkv {ts : List NdV} (htl:ts.length≤100000) (hc:chkT ts=true):0<ts.length:=by
  obtain ⟨L,f,-⟩:=Qcr htl hc
  have h1:=f.len
  have h2:=QaB f.tr
  omega
theorem QeQ (ts : List NdV) (a_t:Option Addr) (c_t B1:Nat) (htl:ts.length≤100000) (hmt:∀ i,i<ts.length→(ndi ts i).n.ms.length≤50) (hc:chkT ts=true) (w:World) (ht:TrAt B1 w a_t ts) (hT:TabAt w) (hSh:ShT w):Calls Tryd.prog 11 #[.slice a_t ts.length c_t] w (Ret w (.tuple #[.agg (ints .u8 (dgN ts [] (ts.length/2))),.bool true])):=by
  obtain ⟨L,f,-⟩:=Qcr htl hc
  have h1:=f.len
  have h2:=QaB f.tr
  refine Qiq ts a_t c_t B1 htl hmt hc w ht hT hSh L (QfE f) (by omega) (fun W=>?_)
  have h3:=quiet (root ((L:Nat):Int) W)
  rw [if_pos f.tr,show ((L:Nat):Int)-1=((ts.length/2:Nat):Int) by omega] at h3
  exact h3
theorem QjX (ts : List NdV) (a_t:Option Addr) (c_t B1:Nat) (htl:ts.length≤100000) (hmt:∀ i,i<ts.length→(ndi ts i).n.ms.length≤50) (hc:chkT ts=false) (w:World) (ht:TrAt B1 w a_t ts) (hT:TabAt w) (hSh:ShT w):Calls Tryd.prog 11 #[.slice a_t ts.length c_t] w (Ret w (.tuple #[.agg (ints .u8 (List.replicate 32 0)),.bool false])):=by
  obtain ⟨L,hL,-⟩:=Qc9 ts.length htl
  exact Qir ts a_t c_t B1 htl hmt hc w ht hT hSh L hL _ (fun W=>quiet (root ((L:Nat):Int) W))
set_option maxRecDepth 100000 in
theorem Qh2 (ts : List NdV) (a_t:Option Addr) (c_t B1:Nat) (w:World) (ht:TrAt B1 w a_t ts):Calls Tryd.prog 9 #[.slice a_t ts.length c_t] w (fun e W=>∃ b,e=.returned (.bool b)∧Ext w W∧(b=false→∀ i,i<ts.length→i≤40∧(ndi ts i).n.ms.length≤50)∧(b=true→¬ ∀ i,i<ts.length→i≤40∧(ndi ts i).n.ms.length≤50)):=by
 refine enter 21 [(0,.slice a_t ts.length c_t)] Tryd.func9 rfl rfl kj rfl ?_
 refine wp_seq_k fun K1 hK1=>?_
 refine Qab ?_
 refine Qaa (.bool false) 2 rfl kj kj ?_
 refine Qaf ?_
 refine hK1 _ _ ?_
 refine wp_seq_k fun K2 hK2=>?_
 refine wp_seq_k fun K3 hK3=>?_
 refine Qab ?_
 refine Qaa (.slice a_t ts.length c_t) 5 rfl kj kj ?_
 refine Qaa (.int .i64 ((ts.length:Nat):Int)) 6 rfl kj kj ?_
 refine Qaa (.int .i64 0) 7 rfl kj kj ?_
 refine Qaf ?_
 refine hK3 _ _ ?_
 refine wp_block ?_
 refine Qa3 (fun (s1:Nat)=>[(5,.slice a_t ts.length c_t),(6,.int .i64 ((ts.length:Nat):Int)),(7,.int .i64 ((s1:Nat):Int))]) (fun (s1:Nat) W=>(s1≤ts.length)∧(∀ j,j<s1→j≤40∧(ndi ts j).n.ms.length≤50)∧(Ext w W)∧(Ext w W)) (fun (s1:Nat)=>ts.length-s1) 0 ⟨rfl,rfl,rfl,trivial⟩ ⟨(Nat.zero_le _),(fun j hj=>absurd hj (Nat.not_lt_zero j)),(Rely.Ext.refl w),(Rely.Ext.refl w)⟩ fun s1 X1 V1 hI1=>?_
 obtain ⟨i,hs1⟩:∃ z,z=s1:=⟨_,rfl⟩
 subst hs1
 obtain ⟨hi,hsm,kk1,xx1⟩:=hI1
 replace hi:i≤ts.length:=hi
 replace hsm:∀ j,j<i→j≤40∧(ndi ts j).n.ms.length≤50:=hsm
 replace kk1:Ext w V1:=kk1
 replace xx1:Ext w V1:=xx1
 have e1:=kk1
 refine wp_seq_k fun K4 hK4=>?_
 refine Qab ?_
 refine Qaa (.bool (decide (((i:Nat):Int)<((ts.length:Nat):Int)))) 8 rfl kj kj ?_
 refine Qaf ?_
 refine hK4 _ _ ?_
 refine wp_seq_k fun K5 hK5=>?_
 refine Qas (t:=decide (((i:Nat):Int)<((ts.length:Nat):Int))) kj (fun c6=>?_) (fun c6=>?_)
 ·skip
  have hlt8:i<ts.length:=by have:=of_decide_eq_true c6; omega
  refine wp_skip ?_
  refine hK5 _ _ ?_
  refine wp_seq_k fun K7 hK7=>?_
  refine wp_block ?_
  refine wp_seq_k fun K8 hK8=>?_
  refine Qab ?_
  refine Qaa (.int .i64 ((i:Nat):Int)) 9 rfl kj kj ?_
  obtain ⟨gtT,otT,hat,hnts⟩:=TrAt.ext ht xx1
  have hnt:=hnts i (by omega)
  obtain ⟨nt,ent⟩:∃ z,z=ndi ts i:=⟨_,rfl⟩
  rw [←ent] at hnt
  have okt:=hnt.ok
  have rdt:=hnt.rd
  refine Qaa (.pointer (some ⟨gtT,otT+i*99,none⟩)) 10 rfl kj (Qaq 23 _ _ .i64 i gtT otT ts.length c_t 50 99 a_t (hat (by omega)) rfl kj kj kj kj (by omega)) ?_
  refine Qaa (.agg (cat [#[.bool nt.n.us],#[.int .i64 nt.n.nm],ints .u8 (nt.n.key),ints .u8 (nt.n.sg),ints .u8 (nt.n.pa),#[.slice nt.a nt.n.ms.length nt.c]])) 11 rfl kj (QaM 50 _ gtT (otT+i*99) nt hnt rfl kj kj kj) ?_
  refine Qal (cat [#[.bool false],#[.int .i64 0],ints .u8 (List.replicate 32 0),ints .u8 (List.replicate 32 0),ints .u8 (List.replicate 32 0),#[.slice none 0 0]]) 50 4 rfl kj kj fun g9 W2 l9 e2 r9_2=>?_
  have x2:Ext w W2:=Ext.tr xx1 e2
  have b9:w.heap.size≤g9:=qT xx1.size l9
  refine Qaa (.int .i64 ((i:Nat):Int)) 3 rfl kj kj ?_
  refine Qat g9 _ (cat [#[.bool nt.n.us],#[.int .i64 nt.n.nm],ints .u8 (nt.n.key),ints .u8 (nt.n.sg),ints .u8 (nt.n.pa),#[.slice nt.a nt.n.ms.length nt.c]]) 50 r9_2 rfl kj (Qap 50 _ _ g9 50 _ _ r9_2 rfl kj kj (isz (n:=99) kj (by rw [Qac,Qac,Qac,Qac,Qac,Qac]; simp only [qS,cat,((Qae _ _).trans okt.gl),((Qae _ _).trans okt.kl),((Qae _ _).trans okt.pl)]; rfl)) (eqsz (n:=99) (by rw [Qac,Qac,Qac,Qac,Qac,Qac]; simp only [qS,cat,((Qae _ _).trans (qZ (n:=32)))]; rfl) (by rw [Qac,Qac,Qac,Qac,Qac,Qac]; simp only [qS,cat,((Qae _ _).trans okt.gl),((Qae _ _).trans okt.kl),((Qae _ _).trans okt.pl)]; rfl)) (Qbn _ (by intro a ha; simp only [List.mem_cons,List.not_mem_nil,or_false] at ha; rcases ha with rfl | rfl | rfl | rfl | rfl | rfl; exact (Qa7 _ rfl); exact (Qa7 _ rfl); exact (Qau _ _); exact (Qau _ _); exact (Qau _ _); exact (Qa7 _ rfl)))) fun W3 p3 r9_3=>?_
  have x3:Ext w W3:=Puts.ext p3 x2 b9
  refine Qaf ?_
  refine hK8 _ _ ?_
  refine wp_seq_k fun K10 hK10=>?_
  rcases (show 40<i∨(i≤40∧50<nt.n.ms.length)∨(i≤40∧nt.n.ms.length≤50) by omega) with hq | hq | hq
  ·skip
   refine Qab ?_
   refine Qaa (.int .i64 ((i:Nat):Int)) 12 rfl kj kj ?_
   refine Qaa (.bool true) 13 rfl kj (Qai (u:=.bool (decide (((i:Nat):Int)>40))) kj (congrArg Value.bool (decide_eq_true (by omega)))) ?_
   refine Qaa (.bool true) 14 rfl kj kj ?_
   refine Qad 15 rfl kj ?_
   refine Qad 16 rfl kj ?_
   refine Qad 17 rfl kj ?_
   refine Qad 18 rfl kj ?_
   refine Qaa (.bool true) 19 rfl kj kj ?_
   refine Qaf ?_
   refine hK10 _ _ ?_
   refine cond_true kj ?_
   refine wp_seq_k fun K11 hK11=>?_
   refine Qab ?_
   refine Qaa (.bool true) 2 rfl kj kj ?_
   refine Qaf ?_
   refine hK11 _ _ ?_
   refine wp_ret ?_
   repeat (first | with_reducible refine goR1 ?_ | with_reducible refine goR2 ?_)
   exact (show bodyPost _ _ _ .ret _ _ from ret1 (.bool true) rfl (Qar kj) ⟨true,rfl,x3,(fun h=>by cases h),fun _ h=>by have h9:=h i hlt8; rw [←ent] at h9; omega⟩)
  ·skip
   refine Qab ?_
   refine Qaa (.int .i64 ((i:Nat):Int)) 12 rfl kj kj ?_
   refine Qaa (.bool false) 13 rfl kj (Qai (u:=.bool (decide (((i:Nat):Int)>40))) kj (congrArg Value.bool (decide_eq_false (by omega)))) ?_
   refine Qaa (.bool false) 14 rfl kj kj ?_
   refine Qaa (.pointer (some ⟨g9,98,none⟩)) 15 rfl kj kj ?_
   refine Qaa (.slice nt.a nt.n.ms.length nt.c) 16 rfl kj (Qah 24 _ g9 98 50 _ (.slice nt.a nt.n.ms.length nt.c) _ r9_3 rfl kj (Qaj [#[.bool nt.n.us],#[.int .i64 nt.n.nm],ints .u8 (nt.n.key),ints .u8 (nt.n.sg),ints .u8 (nt.n.pa)] [#[.slice nt.a nt.n.ms.length nt.c]] [] 98 (by rw [Qac,Qac,Qac,Qac,Qac]; simp only [qS,cat,((Qae _ _).trans okt.gl),((Qae _ _).trans okt.kl),((Qae _ _).trans okt.pl)]; rfl) 0 _ rfl) kj) ?_
   refine Qaa (.int .i64 ((nt.n.ms.length:Nat):Int)) 17 rfl kj kj ?_
   refine Qaa (.bool true) 18 rfl kj (Qai (u:=.bool (decide (((nt.n.ms.length:Nat):Int)>50))) kj (congrArg Value.bool (decide_eq_true (by omega)))) ?_
   refine Qaa (.bool true) 19 rfl kj kj ?_
   refine Qaf ?_
   refine hK10 _ _ ?_
   refine cond_true kj ?_
   refine wp_seq_k fun K12 hK12=>?_
   refine Qab ?_
   refine Qaa (.bool true) 2 rfl kj kj ?_
   refine Qaf ?_
   refine hK12 _ _ ?_
   refine wp_ret ?_
   repeat (first | with_reducible refine goR1 ?_ | with_reducible refine goR2 ?_)
   exact (show bodyPost _ _ _ .ret _ _ from ret1 (.bool true) rfl (Qar kj) ⟨true,rfl,x3,(fun h=>by cases h),fun _ h=>by have h9:=h i hlt8; rw [←ent] at h9; omega⟩)
  ·skip
   refine Qab ?_
   refine Qaa (.int .i64 ((i:Nat):Int)) 12 rfl kj kj ?_
   refine Qaa (.bool false) 13 rfl kj (Qai (u:=.bool (decide (((i:Nat):Int)>40))) kj (congrArg Value.bool (decide_eq_false (by omega)))) ?_
   refine Qaa (.bool false) 14 rfl kj kj ?_
   refine Qaa (.pointer (some ⟨g9,98,none⟩)) 15 rfl kj kj ?_
   refine Qaa (.slice nt.a nt.n.ms.length nt.c) 16 rfl kj (Qah 24 _ g9 98 50 _ (.slice nt.a nt.n.ms.length nt.c) _ r9_3 rfl kj (Qaj [#[.bool nt.n.us],#[.int .i64 nt.n.nm],ints .u8 (nt.n.key),ints .u8 (nt.n.sg),ints .u8 (nt.n.pa)] [#[.slice nt.a nt.n.ms.length nt.c]] [] 98 (by rw [Qac,Qac,Qac,Qac,Qac]; simp only [qS,cat,((Qae _ _).trans okt.gl),((Qae _ _).trans okt.kl),((Qae _ _).trans okt.pl)]; rfl) 0 _ rfl) kj) ?_
   refine Qaa (.int .i64 ((nt.n.ms.length:Nat):Int)) 17 rfl kj kj ?_
   refine Qaa (.bool false) 18 rfl kj (Qai (u:=.bool (decide (((nt.n.ms.length:Nat):Int)>50))) kj (congrArg Value.bool (decide_eq_false (by omega)))) ?_
   refine Qaa (.bool false) 19 rfl kj kj ?_
   refine Qaf ?_
   refine hK10 _ _ ?_
   refine cond_false kj ?_
   refine wp_skip ?_
   refine hK7 _ _ ?_
   refine Qab ?_
   refine Qaa (.int .i64 ((i+1:Nat):Int)) 20 rfl kj (Qai (u:=.int .i64 (IntKind.i64.wrap (((i:Nat):Int)+1))) kj (congrArg (Value.int .i64) (i64n _ _ (by omega) (by omega)))) ?_
   refine Qaa (.int .i64 ((i+1:Nat):Int)) 7 rfl kj kj ?_
   refine Qaf ?_
   have y0_2:Ext w W2:=(Rely.Ext.trans e1 e2)
   have y0_3:Ext w W3:=(Puts.ext p3 y0_2 (qT e1.size l9))
   repeat (first | with_reducible refine goX1 ?_ | with_reducible refine goX2 ?_ | with_reducible refine goX3 ?_)
   exact Qav (i+1) ⟨rfl,rfl,rfl,trivial⟩ ⟨(by omega),(fun j hj=>(Nat.lt_or_ge j i).elim (hsm j) fun h=>by have e:j=i:=(by omega); rw [e,←ent]; exact hq),y0_3,x3⟩ (by show ts.length-(i+1)<ts.length-i; omega)
 ·skip
  have heq8:i=ts.length:=by have:=of_decide_eq_false c6; omega
  refine wp_exit ?_
  refine hK2 _ _ ?_
  refine wp_seq_k fun K13 hK13=>?_
  refine Qab ?_
  refine Qaa (.bool false) 2 rfl kj kj ?_
  refine Qaf ?_
  refine hK13 _ _ ?_
  refine wp_ret ?_
  repeat (first | with_reducible refine goR1 ?_ | with_reducible refine goR2 ?_)
  exact (show bodyPost _ _ _ .ret _ _ from ret1 (.bool false) rfl (Qar kj) ⟨false,rfl,xx1,(fun _ j hj=>hsm j (by omega)),fun h=>by cases h⟩)
theorem Qh1 (ts : List NdV) (a_t:Option Addr) (c_t B1:Nat) (w:World) (ht:TrAt B1 w a_t ts) (h:¬ ∀ i,i<ts.length→i≤40∧(ndi ts i).n.ms.length≤50):Calls Tryd.prog 9 #[.slice a_t ts.length c_t] w (Ret w (.bool true)) :=
  (Qh2 ts a_t c_t B1 w ht).mono fun e W ⟨b,h1,h2,h3,h4⟩=>by
    cases b with
    | true=>exact ⟨h1,h2⟩
    | false=>exact absurd (h3 rfl) h
theorem Qc1 (ts : List NdV) (a_t:Option Addr) (c_t B1:Nat) (w:World) (ht:TrAt B1 w a_t ts) (h:∀ i,i<ts.length→i≤40∧(ndi ts i).n.ms.length≤50):Calls Tryd.prog 9 #[.slice a_t ts.length c_t] w (Ret w (.bool false)) :=
  (Qh2 ts a_t c_t B1 w ht).mono fun e W ⟨b,h1,h2,h3,h4⟩=>by
    cases b with
    | false=>exact ⟨h1,h2⟩
    | true=>exact absurd h (h4 rfl)
theorem sm15 {ts : List NdV} (h:∀ i,i<ts.length→i≤40∧(ndi ts i).n.ms.length≤50):ts.length≤41:=by
  rcases Nat.lt_or_ge 41 ts.length with h1 | h1
  · exact absurd (h 41 h1).1 (by decide)
  · exact h1
end Go.Proofs.YthfkppjajmjpnaaDoor.Te
end
section
namespace Go.Proofs.YthfkppjajmjpnaaDoor.Te
open Go Go.RowKit
open Rely Auto Own Seat Wk Sha
theorem QlQ (ts : List NdV) (a_t:Option Addr) (c_t B1:Nat) (htl:ts.length≤100000) (hmt:∀ i,i<ts.length→(ndi ts i).n.ms.length≤50) (hc:chkT ts=false) (w:World) (ht:TrAt B1 w a_t ts) (hT:TabAt w):Calls Tryd.prog 18 #[.slice a_t ts.length c_t] w (Ret w (.bool false)):=by
  refine enter 45 [(0,.slice a_t ts.length c_t)] Tryd.func18 rfl rfl kj rfl ?_
  refine wp_seq_k fun K1 hK1=>?_
  refine Qab ?_
  refine Qaa (.bool false) 2 rfl kj kj ?_
  refine Qaf ?_
  refine hK1 _ _ ?_
  refine wp_seq_k fun K2 hK2=>?_
  refine wp_seq_k fun K3 hK3=>?_
  refine Qab ?_
  refine Qaa (.slice a_t ts.length c_t) 7 rfl kj kj ?_
  refine Qan (.iface 68 (.int .i64 3)) 26 #[.slice a_t ts.length c_t] 8 rfl kj kj (Qjc ts a_t c_t _ _ (TrAt.ext ht (Rely.Ext.refl w)) htl (fun i hi=>qT (hmt i hi) (by decide)) (TabAt.ext hT (Rely.Ext.refl w)) hc) fun W1 e1=>?_
  have x1:Ext w W1:=Ext.tr (Rely.Ext.refl w) e1
  refine Qaa (.bool true) 9 rfl kj kj ?_
  refine Qaf ?_
  refine hK3 _ _ ?_
  refine cond_true kj ?_
  refine wp_seq_k fun K4 hK4=>?_
  refine Qab ?_
  refine Qaa (.bool false) 2 rfl kj kj ?_
  refine Qaf ?_
  refine hK4 _ _ ?_
  refine wp_ret ?_
  repeat (first | with_reducible refine goR1 ?_ | with_reducible refine goR2 ?_)
  exact (show bodyPost _ _ _ .ret _ _ from ret1 (.bool false) rfl (Qar kj) ⟨rfl,x1⟩)
set_option maxRecDepth 100000 in
theorem QlR (ts : List NdV) (a_t:Option Addr) (c_t B1:Nat) (htl:ts.length≤100000) (hmt:∀ i,i<ts.length→(ndi ts i).n.ms.length≤50) (hc:chkT ts=true) (h1:ts.length=1) (w:World) (ht:TrAt B1 w a_t ts) (hT:TabAt w):Calls Tryd.prog 18 #[.slice a_t ts.length c_t] w (Ret w (.bool true)):=by
 refine enter 45 [(0,.slice a_t ts.length c_t)] Tryd.func18 rfl rfl kj rfl ?_
 refine wp_seq_k fun K1 hK1=>?_
 refine Qab ?_
 refine Qaa (.bool false) 2 rfl kj kj ?_
 refine Qaf ?_
 refine hK1 _ _ ?_
 refine wp_seq_k fun K2 hK2=>?_
 refine wp_seq_k fun K3 hK3=>?_
 refine Qab ?_
 refine Qaa (.slice a_t ts.length c_t) 7 rfl kj kj ?_
 refine Qan (.nilIface) 26 #[.slice a_t ts.length c_t] 8 rfl kj kj (Qjb ts a_t c_t _ _ (TrAt.ext ht (Rely.Ext.refl w)) htl (fun i hi=>qT (hmt i hi) (by decide)) (TabAt.ext hT (Rely.Ext.refl w)) hc) fun W1 e1=>?_
 have x1:Ext w W1:=Ext.tr (Rely.Ext.refl w) e1
 refine Qaa (.bool false) 9 rfl kj kj ?_
 refine Qaf ?_
 refine hK3 _ _ ?_
 refine cond_false kj ?_
 refine wp_skip ?_
 refine hK2 _ _ ?_
 refine wp_seq_k fun K4 hK4=>?_
 refine wp_seq_k fun K5 hK5=>?_
 refine Qab ?_
 refine Qaa (.slice a_t ts.length c_t) 10 rfl kj kj ?_
 refine Qaa (.int .i64 ((ts.length:Nat):Int)) 11 rfl kj kj ?_
 refine Qaa (.int .i64 0) 12 rfl kj kj ?_
 refine Qaf ?_
 refine hK5 _ _ ?_
 refine wp_block ?_
 refine Qa3 (fun (s1:Nat)=>[(0,.slice a_t ts.length c_t),(10,.slice a_t ts.length c_t),(11,.int .i64 ((ts.length:Nat):Int)),(12,.int .i64 ((s1:Nat):Int))]) (fun (s1:Nat) W=>(s1≤ts.length)∧(Ext W1 W)∧(Ext w W)) (fun (s1:Nat)=>ts.length-s1) 0 ⟨rfl,rfl,rfl,rfl,trivial⟩ ⟨(Nat.zero_le _),(Rely.Ext.refl W1),x1⟩ fun s1 X1 V1 hI1=>?_
 obtain ⟨i,hs1⟩:∃ z,z=s1:=⟨_,rfl⟩
 subst hs1
 obtain ⟨hi,kk1,xx1⟩:=hI1
 replace hi:i≤ts.length:=hi
 replace kk1:Ext W1 V1:=kk1
 replace xx1:Ext w V1:=xx1
 have e2:=kk1
 refine wp_seq_k fun K6 hK6=>?_
 refine Qab ?_
 refine Qaa (.bool (decide (((i:Nat):Int)<((ts.length:Nat):Int)))) 13 rfl kj kj ?_
 refine Qaf ?_
 refine hK6 _ _ ?_
 refine wp_seq_k fun K7 hK7=>?_
 refine Qas (t:=decide (((i:Nat):Int)<((ts.length:Nat):Int))) kj (fun c8=>?_) (fun c8=>?_)
 ·skip
  have hlt13:i<ts.length:=by have:=of_decide_eq_true c8; omega
  refine wp_skip ?_
  refine hK7 _ _ ?_
  refine wp_seq_k fun K9 hK9=>?_
  refine wp_block ?_
  refine wp_seq_k fun K10 hK10=>?_
  refine Qab ?_
  refine Qaa (.int .i64 ((i:Nat):Int)) 14 rfl kj kj ?_
  obtain ⟨gtT,otT,hat,hnts⟩:=TrAt.ext ht xx1
  have hnt:=hnts i (by omega)
  obtain ⟨nt,ent⟩:∃ z,z=ndi ts i:=⟨_,rfl⟩
  rw [←ent] at hnt
  have okt:=hnt.ok
  have rdt:=hnt.rd
  refine Qaa (.pointer (some ⟨gtT,otT+i*99,none⟩)) 15 rfl kj (Qaq 23 _ _ .i64 i gtT otT ts.length c_t 50 99 a_t (hat (by omega)) rfl kj kj kj kj (by omega)) ?_
  refine Qaa (.agg (cat [#[.bool nt.n.us],#[.int .i64 nt.n.nm],ints .u8 (nt.n.key),ints .u8 (nt.n.sg),ints .u8 (nt.n.pa),#[.slice nt.a nt.n.ms.length nt.c]])) 16 rfl kj (QaM 50 _ gtT (otT+i*99) nt hnt rfl kj kj kj) ?_
  refine Qal (cat [#[.bool false],#[.int .i64 0],ints .u8 (List.replicate 32 0),ints .u8 (List.replicate 32 0),ints .u8 (List.replicate 32 0),#[.slice none 0 0]]) 50 4 rfl kj kj fun g11 W3 l11 e3 r11_3=>?_
  have x3:Ext w W3:=Ext.tr xx1 e3
  have b11:w.heap.size≤g11:=qT xx1.size l11
  refine Qaa (.int .i64 ((i:Nat):Int)) 3 rfl kj kj ?_
  refine Qat g11 _ (cat [#[.bool nt.n.us],#[.int .i64 nt.n.nm],ints .u8 (nt.n.key),ints .u8 (nt.n.sg),ints .u8 (nt.n.pa),#[.slice nt.a nt.n.ms.length nt.c]]) 50 r11_3 rfl kj (Qap 50 _ _ g11 50 _ _ r11_3 rfl kj kj (isz (n:=99) kj (by rw [Qac,Qac,Qac,Qac,Qac,Qac]; simp only [qS,cat,((Qae _ _).trans okt.gl),((Qae _ _).trans okt.kl),((Qae _ _).trans okt.pl)]; rfl)) (eqsz (n:=99) (by rw [Qac,Qac,Qac,Qac,Qac,Qac]; simp only [qS,cat,((Qae _ _).trans (qZ (n:=32)))]; rfl) (by rw [Qac,Qac,Qac,Qac,Qac,Qac]; simp only [qS,cat,((Qae _ _).trans okt.gl),((Qae _ _).trans okt.kl),((Qae _ _).trans okt.pl)]; rfl)) (Qbn _ (by intro a ha; simp only [List.mem_cons,List.not_mem_nil,or_false] at ha; rcases ha with rfl | rfl | rfl | rfl | rfl | rfl; exact (Qa7 _ rfl); exact (Qa7 _ rfl); exact (Qau _ _); exact (Qau _ _); exact (Qau _ _); exact (Qa7 _ rfl)))) fun W4 p4 r11_4=>?_
  have x4:Ext w W4:=Puts.ext p4 x3 b11
  refine Qaf ?_
  refine hK10 _ _ ?_
  refine wp_seq_k fun K12 hK12=>?_
  refine Qab ?_
  refine Qaa (.int .i64 ((i:Nat):Int)) 18 rfl kj kj ?_
  have hki:∀ W,TabAt W→Calls Tryd.prog 36 #[.int .i64 ((i:Nat):Int)] W (Ret W (.tuple #[.int .i64 (-1),.int .i64 (-1)])):=fun W h=>by
   obtain rfl:i=0:=by omega
   have h9:=quiet (children ((0:Nat):Int) ⟨by decide,by decide⟩ W h)
   rw [show kidL ((0:Nat):Int)=-1 by decide +kernel,show kidR ((0:Nat):Int)=-1 by decide +kernel] at h9; exact h9
  refine Qan (.tuple #[.int .i64 (-1),.int .i64 (-1)]) 36 #[.int .i64 ((i:Nat):Int)] 19 rfl kj kj (hki _ (TabAt.ext hT x4)) fun W5 e5=>?_
  have x5:Ext w W5:=Ext.tr x4 e5
  refine Qaa (.tuple #[.int .i64 (-1),.int .i64 (-1)]) 17 rfl kj kj ?_
  refine Qaa (.int .i64 (-1)) 20 rfl kj kj ?_
  refine Qaa (.int .i64 (-1)) 21 rfl kj kj ?_
  refine Qaa (.int .i64 (-1)) 5 rfl kj kj ?_
  refine Qaa (.int .i64 (-1)) 6 rfl kj kj ?_
  refine Qaf ?_
  refine hK12 _ _ ?_
  refine wp_seq_k fun K13 hK13=>?_
  cases hus:nt.n.us
  ·skip
   have r11_5:=(Qag r11_4 e5)
   have rbx:W5.heap[g11]? = some (.cells (cat [#[.bool false],#[.int .i64 nt.n.nm],ints .u8 (nt.n.key),ints .u8 (nt.n.sg),ints .u8 (nt.n.pa),#[.slice nt.a nt.n.ms.length nt.c]]) 50):=by have h9:=r11_5; rw [hus] at h9; exact h9
   refine Qab ?_
   refine Qaa (.pointer (some ⟨g11,0,none⟩)) 22 rfl kj kj ?_
   refine Qaa (.bool false) 23 rfl kj (Qah 4 _ g11 0 50 _ (.bool false) _ rbx rfl kj (Qaj [] [#[.bool false]] [#[.int .i64 nt.n.nm],ints .u8 (nt.n.key),ints .u8 (nt.n.sg),ints .u8 (nt.n.pa),#[.slice nt.a nt.n.ms.length nt.c]] 0 kj 0 _ rfl) kj) ?_
   refine Qaa (.bool false) 24 rfl kj kj ?_
   refine Qad 25 rfl kj ?_
   refine Qad 26 rfl kj ?_
   refine Qaa (.bool false) 27 rfl kj kj ?_
   refine Qaa (.bool false) 28 rfl kj kj ?_
   refine Qad 29 rfl kj ?_
   refine Qad 30 rfl kj ?_
   refine Qad 31 rfl kj ?_
   refine Qad 32 rfl kj ?_
   refine Qad 33 rfl kj ?_
   refine Qad 34 rfl kj ?_
   refine Qaa (.bool false) 35 rfl kj kj ?_
   refine Qaa (.bool false) 36 rfl kj kj ?_
   refine Qad 37 rfl kj ?_
   refine Qad 38 rfl kj ?_
   refine Qad 39 rfl kj ?_
   refine Qad 40 rfl kj ?_
   refine Qad 41 rfl kj ?_
   refine Qad 42 rfl kj ?_
   refine Qaa (.bool false) 43 rfl kj kj ?_
   refine Qaf ?_
   refine hK13 _ _ ?_
   refine cond_false kj ?_
   refine wp_skip ?_
   refine hK9 _ _ ?_
   refine Qab ?_
   refine Qaa (.int .i64 ((i+1:Nat):Int)) 44 rfl kj (Qai (u:=.int .i64 (IntKind.i64.wrap (((i:Nat):Int)+1))) kj (congrArg (Value.int .i64) (i64n _ _ (by omega) (by omega)))) ?_
   refine Qaa (.int .i64 ((i+1:Nat):Int)) 12 rfl kj kj ?_
   refine Qaf ?_
   have y1_3:Ext W1 W3:=(Rely.Ext.trans e2 e3)
   have y1_4:Ext W1 W4:=(Puts.ext p4 y1_3 (qT e2.size l11))
   have y1_5:Ext W1 W5:=(Rely.Ext.trans y1_4 e5)
   repeat (first | with_reducible refine goX1 ?_ | with_reducible refine goX2 ?_ | with_reducible refine goX3 ?_)
   exact Qav (i+1) ⟨rfl,rfl,rfl,rfl,trivial⟩ ⟨(by omega),y1_5,x5⟩ (by show ts.length-(i+1)<ts.length-i; omega)
  ·skip
   have r11_5:=(Qag r11_4 e5)
   have rbx:W5.heap[g11]? = some (.cells (cat [#[.bool true],#[.int .i64 nt.n.nm],ints .u8 (nt.n.key),ints .u8 (nt.n.sg),ints .u8 (nt.n.pa),#[.slice nt.a nt.n.ms.length nt.c]]) 50):=by have h9:=r11_5; rw [hus] at h9; exact h9
   refine Qab ?_
   refine Qaa (.pointer (some ⟨g11,0,none⟩)) 22 rfl kj kj ?_
   refine Qaa (.bool true) 23 rfl kj (Qah 4 _ g11 0 50 _ (.bool true) _ rbx rfl kj (Qaj [] [#[.bool true]] [#[.int .i64 nt.n.nm],ints .u8 (nt.n.key),ints .u8 (nt.n.sg),ints .u8 (nt.n.pa),#[.slice nt.a nt.n.ms.length nt.c]] 0 kj 0 _ rfl) kj) ?_
   refine Qaa (.bool true) 24 rfl kj kj ?_
   refine Qaa (.int .i64 (-1)) 25 rfl kj kj ?_
   refine Qaa (.bool false) 26 rfl kj kj ?_
   refine Qaa (.bool false) 27 rfl kj kj ?_
   refine Qaa (.bool false) 28 rfl kj kj ?_
   refine Qad 29 rfl kj ?_
   refine Qad 30 rfl kj ?_
   refine Qad 31 rfl kj ?_
   refine Qad 32 rfl kj ?_
   refine Qad 33 rfl kj ?_
   refine Qad 34 rfl kj ?_
   refine Qaa (.bool false) 35 rfl kj kj ?_
   refine Qaa (.bool false) 36 rfl kj kj ?_
   refine Qad 37 rfl kj ?_
   refine Qad 38 rfl kj ?_
   refine Qad 39 rfl kj ?_
   refine Qad 40 rfl kj ?_
   refine Qad 41 rfl kj ?_
   refine Qad 42 rfl kj ?_
   refine Qaa (.bool false) 43 rfl kj kj ?_
   refine Qaf ?_
   refine hK13 _ _ ?_
   refine cond_false kj ?_
   refine wp_skip ?_
   refine hK9 _ _ ?_
   refine Qab ?_
   refine Qaa (.int .i64 ((i+1:Nat):Int)) 44 rfl kj (Qai (u:=.int .i64 (IntKind.i64.wrap (((i:Nat):Int)+1))) kj (congrArg (Value.int .i64) (i64n _ _ (by omega) (by omega)))) ?_
   refine Qaa (.int .i64 ((i+1:Nat):Int)) 12 rfl kj kj ?_
   refine Qaf ?_
   have y1_3:Ext W1 W3:=(Rely.Ext.trans e2 e3)
   have y1_4:Ext W1 W4:=(Puts.ext p4 y1_3 (qT e2.size l11))
   have y1_5:Ext W1 W5:=(Rely.Ext.trans y1_4 e5)
   repeat (first | with_reducible refine goX1 ?_ | with_reducible refine goX2 ?_ | with_reducible refine goX3 ?_)
   exact Qav (i+1) ⟨rfl,rfl,rfl,rfl,trivial⟩ ⟨(by omega),y1_5,x5⟩ (by show ts.length-(i+1)<ts.length-i; omega)
 ·skip
  have heq13:i=ts.length:=by have:=of_decide_eq_false c8; omega
  refine wp_exit ?_
  refine hK4 _ _ ?_
  refine wp_seq_k fun K14 hK14=>?_
  refine Qab ?_
  refine Qaa (.bool true) 2 rfl kj kj ?_
  refine Qaf ?_
  refine hK14 _ _ ?_
  refine wp_ret ?_
  repeat (first | with_reducible refine goR1 ?_ | with_reducible refine goR2 ?_)
  exact (show bodyPost _ _ _ .ret _ _ from ret1 (.bool true) rfl (Qar kj) ⟨rfl,xx1⟩)
set_option maxRecDepth 100000 in
theorem Qdw (w : World) (hT:TabAt w) (hSh:ShT w):Calls Tryd.prog 8 #[] w (Ret w (.bool true)):=by
  refine enter 28 [] Tryd.func8 rfl rfl kj rfl ?_
  refine wp_seq_k fun K1 hK1=>?_
  refine Qab ?_
  refine Qaa (.bool false) 0 rfl kj kj ?_
  refine Qaf ?_
  refine hK1 _ _ ?_
  refine wp_seq_k fun K2 hK2=>?_
  refine Qab ?_
  refine Qaa (.agg (cat [#[.bool true],#[.int .i64 3],ints .u8 (List.replicate 32 0),ints .u8 (List.replicate 32 0),ints .u8 (List.replicate 32 0),#[.slice none 0 0]])) 4 rfl kj kj ?_
  refine QaD (cat (ndP (lf 3))) 50 1 5 rfl kj kj fun gO W1 lO e1 rO=>?_
  have x1:Ext w W1:=Ext.tr (Rely.Ext.refl w) e1
  have ht:=QiL lO rO (Qlm 3) ⟨Qlm 3,by decide,Qcn _ _ _ _⟩
  have hc3:chkT [lf 3]=true:=by decide +kernel
  obtain ⟨a_1,c_1,hv1⟩:∃ a c,(a,c)=((some (⟨gO,0,none⟩:Addr)),1):=⟨_,_,rfl⟩
  obtain ⟨ha1,hcc1⟩:=Prod.mk.inj hv1
  rw [←ha1] at ht
  show WL _ _ _ _ (Qa2 _ _ ((5,.slice (some ⟨gO,0,none⟩) 1 1)::_)) _
  rw [show (Value.slice (some ⟨gO,0,none⟩) 1 1)=.slice a_1 [lf 3].length c_1 by rw [ha1,hcc1]; rfl]
  refine Qaa (.slice a_1 [lf 3].length c_1) 1 rfl kj kj ?_
  refine Qaf ?_
  refine hK2 _ _ ?_
  refine wp_seq_k fun K3 hK3=>?_
  refine Qab ?_
  refine Qaa (.slice a_1 [lf 3].length c_1) 7 rfl kj kj ?_
  refine Qan (.tuple #[.agg (ints .u8 (dgN [lf 3] [] ([lf 3].length/2))),.bool true]) 11 #[.slice a_1 [lf 3].length c_1] 8 rfl kj kj (QeQ [lf 3] a_1 c_1 _ (by decide) (fun i hi=>by obtain rfl:i=0:=Nat.lt_one_iff.1 hi; decide) hc3 _ (TrAt.ext ht (Rely.Ext.refl W1)) (TabAt.ext hT x1) (ShT.ext hSh x1)) fun W2 e2=>?_
  have x2:Ext w W2:=Ext.tr x1 e2
  refine Qaa (.tuple #[.agg (ints .u8 (dgN [lf 3] [] ([lf 3].length/2))),.bool true]) 6 rfl kj kj ?_
  refine Qaa (.agg (ints .u8 (dgN [lf 3] [] ([lf 3].length/2)))) 9 rfl kj kj ?_
  refine Qaa (.bool true) 10 rfl kj kj ?_
  refine Qal (ints .u8 (List.replicate 32 0)) 28 2 rfl kj kj fun g4 W3 l4 e3 r4_3=>?_
  have x3:Ext w W3:=Ext.tr x2 e3
  have b4:w.heap.size≤g4:=qT x2.size l4
  refine Qat g4 _ (ints .u8 (dgN [lf 3] [] ([lf 3].length/2))) 28 r4_3 rfl kj (Qap 28 _ _ g4 28 _ _ r4_3 rfl kj kj (isz (n:=32) kj ((Qae _ _).trans (QaN [lf 3] [] ([lf 3].length/2)))) (eqsz (n:=32) ((Qae _ _).trans (qZ (n:=32))) ((Qae _ _).trans (QaN [lf 3] [] ([lf 3].length/2)))) (Qau _ _)) fun W4 p4 r4_4=>?_
  have x4:Ext w W4:=Puts.ext p4 x3 b4
  refine Qaa (.bool true) 3 rfl kj kj ?_
  refine Qaf ?_
  refine hK3 _ _ ?_
  refine wp_seq_k fun K5 hK5=>?_
  refine Qbs kj fun W5 e5=>?_
  have x5:Ext w W5:=Ext.tr x4 e5
  refine Qaw 0 (.bool true) 11 rfl rfl kj kj (fun _ _ _ h=>h) (fun W hR=>by kernel_rfl) ?_
  refine Qaw 1 (.bool true) 12 rfl rfl kj kj (fun _ _ _ h=>h) (fun W hR=>by kernel_rfl) ?_
  have r4_5:=(Qag r4_4 e5)
  refine Qaw 2 (.agg (ints .u8 (dgN [lf 3] [] ([lf 3].length/2)))) 13 rfl rfl kj kj (fun _ _ _ h=>h) (fun W hR=>(Qa5 28 _ g4 28 _ _ (Qag r4_5 hR) rfl kj kj (isz (n:=32) kj ((Qae _ _).trans (QaN [lf 3] [] ([lf 3].length/2)))))) ?_
  refine Qaw 3 (.slice a_1 [lf 3].length c_1) 14 rfl rfl kj kj (fun _ _ _ h=>h) (fun W hR=>by kernel_rfl) ?_
  refine QbJ 4 kj ?_
  have y1_2:Ext W1 W2:=(Rely.Ext.trans (Rely.Ext.refl W1) e2)
  have y1_3:Ext W1 W3:=(Rely.Ext.trans y1_2 e3)
  have y1_4:Ext W1 W4:=(Puts.ext p4 y1_3 (qT y1_2.size l4))
  have y1_5:Ext W1 W5:=(Rely.Ext.trans y1_4 e5)
  refine Qcg rfl (fun v W'=>v=(.agg (ints .u8 (dgN [lf 3] [] ([lf 3].length/2))))∧Ext W5 W') 13 #[.slice a_1 [lf 3].length c_1] 15 rfl kj kj ((QfU [lf 3] a_1 c_1 _ (by decide) (fun i hi=>by obtain rfl:i=0:=Nat.lt_one_iff.1 hi; decide) hc3 (by decide) _ (TrAt.ext ht y1_5)).mono fun e w' h=>⟨_,h.1,rfl,h.2⟩) (fun _ _ h=>Rely.Ext.trans (Rely.Ext.refl W5) h.2) fun vv6 W6 hh6=>?_
  obtain ⟨rfl,e6⟩:=hh6
  have x6:Ext w W6:=Ext.tr x5 e6
  refine Qaw 5 (.bool true) 16 rfl rfl kj kj (fun _ _ _ h=>h) (fun W hR=>(QaA 28 _ _ _ _ _ (.bool true) rfl kj kj kj (QaH 28 (e:=5) (k:=.u8) (dgN [lf 3] [] ([lf 3].length/2)) (dgN [lf 3] [] ([lf 3].length/2)) (decide_eq_true rfl) (QaN [lf 3] [] ([lf 3].length/2)) (QaN [lf 3] [] ([lf 3].length/2)) kj kj kj _))) ?_
  refine Qaw 6 (.bool true) 17 rfl rfl kj kj (fun _ _ _ h=>h) (fun W hR=>by kernel_rfl) ?_
  refine Qaw 7 (.bool true) 18 rfl rfl kj kj (fun _ _ _ h=>h) (fun W hR=>by kernel_rfl) ?_
  refine Qaw 8 (.slice a_1 [lf 3].length c_1) 19 rfl rfl kj kj (fun _ _ _ h=>h) (fun W hR=>by kernel_rfl) ?_
  refine QbJ 9 kj ?_
  have y1_6:Ext W1 W6:=(Rely.Ext.trans y1_5 e6)
  have y5_6:Ext W5 W6:=(Rely.Ext.trans (Rely.Ext.refl W5) e6)
  refine Qcg rfl (fun v W'=>v=(.bool true)∧Ext W6 W') 18 #[.slice a_1 [lf 3].length c_1] 20 rfl kj kj ((QlR [lf 3] a_1 c_1 _ (by decide) (fun i hi=>by obtain rfl:i=0:=Nat.lt_one_iff.1 hi; decide) hc3 rfl _ (TrAt.ext ht y1_6) (TabAt.ext hT x6)).mono fun e w' h=>⟨_,h.1,rfl,h.2⟩) (fun _ _ h=>Rely.Ext.trans y5_6 h.2) fun vv7 W7 hh7=>?_
  obtain ⟨rfl,e7⟩:=hh7
  have x7:Ext w W7:=Ext.tr x6 e7
  refine Qaw 10 (.bool true) 21 rfl rfl kj kj (fun _ _ _ h=>h) (fun W hR=>by kernel_rfl) ?_
  refine Qaw 11 (.bool true) 22 rfl rfl kj kj (fun _ _ _ h=>h) (fun W hR=>by kernel_rfl) ?_
  refine Qaw 12 (.agg (cat [#[.bool false],#[.int .i64 0],ints .u8 (List.replicate 32 0),ints .u8 (List.replicate 32 0),ints .u8 (List.replicate 32 0),#[.slice none 0 0]])) 23 rfl rfl kj kj (fun _ _ _ h=>h) (fun W hR=>by kernel_rfl) ?_
  refine QbJ 13 kj ?_
  have y5_7:Ext W5 W7:=(Rely.Ext.trans y5_6 e7)
  refine QiK rfl (fun v W'=>NewS W7.heap.size (cat (ndP zn)) 50 1 v W'∧Ext W7 W') 24 rfl kj ⟨_,_,(by kernel_rfl:_=Result.ok (Next.value (.slice (some ⟨W7.heap.size,0,none⟩) 1 1)) (W7.alloc (.cells (cat (ndP zn)) 50))),⟨_,rfl,qR _,heap_alloc_new _ _⟩,Qc4 _ _⟩ (fun _ _ h=>Rely.Ext.trans y5_7 h.2) fun vz W8 hz=>?_
  obtain ⟨⟨gz,rfl,lz,rz⟩,e8⟩:=hz
  have x8:Ext w W8:=Ext.tr x7 e8
  have htz:=QiL lz rz Qen ⟨Qen,by decide,Qcn _ _ _ _⟩
  obtain ⟨a_2,c_2,hv2⟩:∃ a c,(a,c)=((some (⟨gz,0,none⟩:Addr)),1):=⟨_,_,rfl⟩
  obtain ⟨ha2,hcc2⟩:=Prod.mk.inj hv2
  rw [←ha2] at htz
  rw [show (Value.slice (some ⟨gz,0,none⟩) 1 1)=.slice a_2 [zn].length c_2 by rw [ha2,hcc2]; rfl]
  refine QbJ 14 kj ?_
  have y5_8:Ext W5 W8:=(Rely.Ext.trans y5_7 e8)
  refine Qcg rfl (fun v W'=>v=(.bool false)∧Ext W8 W') 18 #[.slice a_2 [zn].length c_2] 25 rfl kj kj ((QlQ [zn] a_2 c_2 _ (by decide) (fun i hi=>by obtain rfl:i=0:=Nat.lt_one_iff.1 hi; decide) (by decide +kernel) _ (TrAt.ext htz (Rely.Ext.refl W8)) (TabAt.ext hT x8)).mono fun e w' h=>⟨_,h.1,rfl,h.2⟩) (fun _ _ h=>Rely.Ext.trans y5_8 h.2) fun vv8 W9 hh8=>?_
  obtain ⟨rfl,e9⟩:=hh8
  have x9:Ext w W9:=Ext.tr x8 e9
  refine Qaw 15 (.bool true) 26 rfl rfl kj kj (fun _ _ _ h=>h) (fun W hR=>by kernel_rfl) ?_
  refine Qaw 16 (.bool true) 27 rfl rfl kj kj (fun _ _ _ h=>h) (fun W hR=>by kernel_rfl) ?_
  refine Qaw 17 (.bool true) 0 rfl rfl kj kj (fun _ _ _ h=>h) (fun W hR=>by kernel_rfl) ?_
  refine QcG kj ?_
  refine hK5 _ _ ?_
  refine wp_ret ?_
  repeat (first | with_reducible refine goR1 ?_ | with_reducible refine goR2 ?_)
  exact (show bodyPost _ _ _ .ret _ _ from ret1 (.bool true) rfl (Qar kj) ⟨rfl,x9⟩)
end Go.Proofs.YthfkppjajmjpnaaDoor.Te
end
section
namespace Go.Proofs.YthfkppjajmjpnaaDoor.Te
open Go Go.RowKit
open Rely Auto Own Seat Wk Sha
set_option maxRecDepth 100000 in
theorem Qiv (ts : List NdV) (a_t:Option Addr) (c_t B1:Nat) (w:World) (ht:TrAt B1 w a_t ts) (hT:TabAt w) (hSh:ShT w) (wo:List Int) (a_o:Option Addr) (c_o Bo:Nat) (ho:RdK .i64 Bo wo (.slice a_o wo.length c_o) w) (x:Int) (hs:¬ (∀ i,i<ts.length→i≤40∧(ndi ts i).n.ms.length≤50))  : Calls Tryd.prog 3 #[.slice a_t ts.length c_t,.int .i64 x,.slice a_o wo.length c_o] w (Ret w (.bool true)):=by
  refine enter 84 [(0,.slice a_t ts.length c_t),(1,.int .i64 x),(2,.slice a_o wo.length c_o)] Tryd.func3 rfl rfl kj rfl ?_
  refine wp_seq_k fun K1 hK1=>?_
  refine Qab ?_
  refine Qaa (.bool false) 6 rfl kj kj ?_
  refine Qaf ?_
  refine hK1 _ _ ?_
  refine wp_seq_k fun K2 hK2=>?_
  refine wp_seq_k fun K3 hK3=>?_
  refine Qab ?_
  refine Qan (.bool true) 8 #[] 12 rfl kj kj (Qdw _ (TabAt.ext hT (Rely.Ext.refl w)) (ShT.ext hSh (Rely.Ext.refl w))) fun W1 e1=>?_
  have x1:Ext w W1:=Ext.tr (Rely.Ext.refl w) e1
  refine Qaa (.bool false) 13 rfl kj kj ?_
  refine Qaf ?_
  refine hK3 _ _ ?_
  refine cond_false kj ?_
  refine wp_skip ?_
  refine hK2 _ _ ?_
  refine wp_seq_k fun K4 hK4=>?_
  refine wp_seq_k fun K5 hK5=>?_
  refine Qab ?_
  refine Qaa (.slice a_t ts.length c_t) 14 rfl kj kj ?_
  refine Qan (.bool true) 9 #[.slice a_t ts.length c_t] 15 rfl kj kj (Qh1 ts a_t c_t _ _ (TrAt.ext ht x1) hs) fun W2 e2=>?_
  have x2:Ext w W2:=Ext.tr x1 e2
  refine Qaa (.bool true) 16 rfl kj kj ?_
  refine Qad 17 rfl kj ?_
  refine Qad 18 rfl kj ?_
  refine Qad 19 rfl kj ?_
  refine Qaa (.bool true) 20 rfl kj kj ?_
  refine Qaf ?_
  refine hK5 _ _ ?_
  refine cond_true kj ?_
  refine wp_seq_k fun K6 hK6=>?_
  refine Qab ?_
  refine Qaa (.bool true) 6 rfl kj kj ?_
  refine Qaf ?_
  refine hK6 _ _ ?_
  refine wp_ret ?_
  repeat (first | with_reducible refine goR1 ?_ | with_reducible refine goR2 ?_)
  exact (show bodyPost _ _ _ .ret _ _ from ret1 (.bool true) rfl (Qar kj) ⟨rfl,x2⟩)
set_option maxRecDepth 100000 in
theorem Qiw (ts : List NdV) (a_t:Option Addr) (c_t B1:Nat) (w:World) (ht:TrAt B1 w a_t ts) (hT:TabAt w) (hSh:ShT w) (wo:List Int) (a_o:Option Addr) (c_o Bo:Nat) (ho:RdK .i64 Bo wo (.slice a_o wo.length c_o) w) (x:Int) (hs:∀ i,i<ts.length→i≤40∧(ndi ts i).n.ms.length≤50) (hw:100<wo.length)  : Calls Tryd.prog 3 #[.slice a_t ts.length c_t,.int .i64 x,.slice a_o wo.length c_o] w (Ret w (.bool true)):=by
  refine enter 84 [(0,.slice a_t ts.length c_t),(1,.int .i64 x),(2,.slice a_o wo.length c_o)] Tryd.func3 rfl rfl kj rfl ?_
  refine wp_seq_k fun K1 hK1=>?_
  refine Qab ?_
  refine Qaa (.bool false) 6 rfl kj kj ?_
  refine Qaf ?_
  refine hK1 _ _ ?_
  refine wp_seq_k fun K2 hK2=>?_
  refine wp_seq_k fun K3 hK3=>?_
  refine Qab ?_
  refine Qan (.bool true) 8 #[] 12 rfl kj kj (Qdw _ (TabAt.ext hT (Rely.Ext.refl w)) (ShT.ext hSh (Rely.Ext.refl w))) fun W1 e1=>?_
  have x1:Ext w W1:=Ext.tr (Rely.Ext.refl w) e1
  refine Qaa (.bool false) 13 rfl kj kj ?_
  refine Qaf ?_
  refine hK3 _ _ ?_
  refine cond_false kj ?_
  refine wp_skip ?_
  refine hK2 _ _ ?_
  refine wp_seq_k fun K4 hK4=>?_
  refine wp_seq_k fun K5 hK5=>?_
  refine Qab ?_
  refine Qaa (.slice a_t ts.length c_t) 14 rfl kj kj ?_
  refine Qan (.bool false) 9 #[.slice a_t ts.length c_t] 15 rfl kj kj (Qc1 ts a_t c_t _ _ (TrAt.ext ht x1) hs) fun W2 e2=>?_
  have x2:Ext w W2:=Ext.tr x1 e2
  refine Qaa (.bool false) 16 rfl kj kj ?_
  refine Qaa (.slice a_o wo.length c_o) 17 rfl kj kj ?_
  refine Qaa (.int .i64 ((wo.length:Nat):Int)) 18 rfl kj kj ?_
  refine Qaa (.bool true) 19 rfl kj (Qai (u:=.bool (decide (((wo.length:Nat):Int)>100))) kj (congrArg Value.bool (decide_eq_true (by omega)))) ?_
  refine Qaa (.bool true) 20 rfl kj kj ?_
  refine Qaf ?_
  refine hK5 _ _ ?_
  refine cond_true kj ?_
  refine wp_seq_k fun K6 hK6=>?_
  refine Qab ?_
  refine Qaa (.bool true) 6 rfl kj kj ?_
  refine Qaf ?_
  refine hK6 _ _ ?_
  refine wp_ret ?_
  repeat (first | with_reducible refine goR1 ?_ | with_reducible refine goR2 ?_)
  exact (show bodyPost _ _ _ .ret _ _ from ret1 (.bool true) rfl (Qar kj) ⟨rfl,x2⟩)
set_option maxRecDepth 100000 in
theorem Qiz (ts : List NdV) (a_t:Option Addr) (c_t B1:Nat) (w:World) (ht:TrAt B1 w a_t ts) (hT:TabAt w) (hSh:ShT w) (wo:List Int) (a_o:Option Addr) (c_o Bo:Nat) (ho:RdK .i64 Bo wo (.slice a_o wo.length c_o) w) (x:Int) (hs:∀ i,i<ts.length→i≤40∧(ndi ts i).n.ms.length≤50) (hw:wo.length≤100) (htl:ts.length≤100000) (hmt:∀ i,i<ts.length→(ndi ts i).n.ms.length≤50) (hol:wo.length≤1000000) (hc:chkT ts=false)  : Calls Tryd.prog 3 #[.slice a_t ts.length c_t,.int .i64 x,.slice a_o wo.length c_o] w (Ret w (.bool true)):=by
  refine enter 84 [(0,.slice a_t ts.length c_t),(1,.int .i64 x),(2,.slice a_o wo.length c_o)] Tryd.func3 rfl rfl kj rfl ?_
  refine wp_seq_k fun K1 hK1=>?_
  refine Qab ?_
  refine Qaa (.bool false) 6 rfl kj kj ?_
  refine Qaf ?_
  refine hK1 _ _ ?_
  refine wp_seq_k fun K2 hK2=>?_
  refine wp_seq_k fun K3 hK3=>?_
  refine Qab ?_
  refine Qan (.bool true) 8 #[] 12 rfl kj kj (Qdw _ (TabAt.ext hT (Rely.Ext.refl w)) (ShT.ext hSh (Rely.Ext.refl w))) fun W1 e1=>?_
  have x1:Ext w W1:=Ext.tr (Rely.Ext.refl w) e1
  refine Qaa (.bool false) 13 rfl kj kj ?_
  refine Qaf ?_
  refine hK3 _ _ ?_
  refine cond_false kj ?_
  refine wp_skip ?_
  refine hK2 _ _ ?_
  refine wp_seq_k fun K4 hK4=>?_
  refine wp_seq_k fun K5 hK5=>?_
  refine Qab ?_
  refine Qaa (.slice a_t ts.length c_t) 14 rfl kj kj ?_
  refine Qan (.bool false) 9 #[.slice a_t ts.length c_t] 15 rfl kj kj (Qc1 ts a_t c_t _ _ (TrAt.ext ht x1) hs) fun W2 e2=>?_
  have x2:Ext w W2:=Ext.tr x1 e2
  refine Qaa (.bool false) 16 rfl kj kj ?_
  refine Qaa (.slice a_o wo.length c_o) 17 rfl kj kj ?_
  refine Qaa (.int .i64 ((wo.length:Nat):Int)) 18 rfl kj kj ?_
  refine Qaa (.bool false) 19 rfl kj (Qai (u:=.bool (decide (((wo.length:Nat):Int)>100))) kj (congrArg Value.bool (decide_eq_false (by omega)))) ?_
  refine Qaa (.bool false) 20 rfl kj kj ?_
  refine Qaf ?_
  refine hK5 _ _ ?_
  refine cond_false kj ?_
  refine wp_skip ?_
  refine hK4 _ _ ?_
  refine wp_seq_k fun K6 hK6=>?_
  refine Qab ?_
  refine Qaa (.slice a_t ts.length c_t) 22 rfl kj kj ?_
  refine Qaa (.int .i64 x) 23 rfl kj kj ?_
  refine Qaa (.slice a_o wo.length c_o) 24 rfl kj kj ?_
  refine Qan (.tuple #[.agg (ints .u8 (List.replicate 32 0)),.bool false]) 10 #[.slice a_t ts.length c_t,.int .i64 x,.slice a_o wo.length c_o] 25 rfl kj kj (Qgd ts a_t c_t B1 htl hmt wo a_o c_o _ _ (TrAt.ext ht x2) (TabAt.ext hT x2) (ShT.ext hSh x2) hol (RdK.ext ho x2) x (.inr (.inr hc))) fun W3 e3=>?_
  have x3:Ext w W3:=Ext.tr x2 e3
  refine Qaa (.tuple #[.agg (ints .u8 (List.replicate 32 0)),.bool false]) 21 rfl kj kj ?_
  refine Qaa (.agg (ints .u8 (List.replicate 32 0))) 26 rfl kj kj ?_
  refine Qaa (.bool false) 27 rfl kj kj ?_
  refine Qal (ints .u8 (List.replicate 32 0)) 28 7 rfl kj kj fun g7 W4 l7 e4 r7_4=>?_
  have x4:Ext w W4:=Ext.tr x3 e4
  have b7:w.heap.size≤g7:=qT x3.size l7
  refine Qat g7 _ (ints .u8 (List.replicate 32 0)) 28 r7_4 rfl kj (Qap 28 _ _ g7 28 _ _ r7_4 rfl kj kj (isz (n:=32) kj ((Qae _ _).trans (qZ (n:=32)))) (eqsz (n:=32) ((Qae _ _).trans (qZ (n:=32))) ((Qae _ _).trans (qZ (n:=32)))) (Qau _ _)) fun W5 p5 r7_5=>?_
  have x5:Ext w W5:=Puts.ext p5 x4 b7
  refine Qaa (.bool false) 8 rfl kj kj ?_
  refine Qaf ?_
  refine hK6 _ _ ?_
  refine wp_seq_k fun K8 hK8=>?_
  refine Qab ?_
  refine Qaa (.slice a_t ts.length c_t) 29 rfl kj kj ?_
  refine Qan (.tuple #[.agg (ints .u8 (List.replicate 32 0)),.bool false]) 11 #[.slice a_t ts.length c_t] 30 rfl kj kj (QjX ts a_t c_t B1 htl hmt hc _ (TrAt.ext ht x5) (TabAt.ext hT x5) (ShT.ext hSh x5)) fun W6 e6=>?_
  have x6:Ext w W6:=Ext.tr x5 e6
  refine Qaa (.tuple #[.agg (ints .u8 (List.replicate 32 0)),.bool false]) 28 rfl kj kj ?_
  refine Qaa (.agg (ints .u8 (List.replicate 32 0))) 31 rfl kj kj ?_
  refine Qaa (.bool false) 32 rfl kj kj ?_
  refine Qal (ints .u8 (List.replicate 32 0)) 28 9 rfl kj kj fun g9 W7 l9 e7 r9_7=>?_
  have x7:Ext w W7:=Ext.tr x6 e7
  have b9:w.heap.size≤g9:=qT x6.size l9
  refine Qat g9 _ (ints .u8 (List.replicate 32 0)) 28 r9_7 rfl kj (Qap 28 _ _ g9 28 _ _ r9_7 rfl kj kj (isz (n:=32) kj ((Qae _ _).trans (qZ (n:=32)))) (eqsz (n:=32) ((Qae _ _).trans (qZ (n:=32))) ((Qae _ _).trans (qZ (n:=32)))) (Qau _ _)) fun W8 p8 r9_8=>?_
  have x8:Ext w W8:=Puts.ext p8 x7 b9
  refine Qaa (.bool false) 10 rfl kj kj ?_
  refine Qaf ?_
  refine hK8 _ _ ?_
  refine wp_seq_k fun K10 hK10=>?_
  refine Qab ?_
  refine Qaa (.slice a_t ts.length c_t) 33 rfl kj kj ?_
  refine Qan (.bool false) 12 #[.slice a_t ts.length c_t] 34 rfl kj kj (Qi8 ts a_t c_t _ _ (TrAt.ext ht x8) htl (fun i hi=>qT (hmt i hi) (by decide)) false hc) fun W9 e9=>?_
  have x9:Ext w W9:=Ext.tr x8 e9
  refine Qaa (.bool false) 11 rfl kj kj ?_
  refine Qaf ?_
  refine hK10 _ _ ?_
  refine wp_seq_k fun K11 hK11=>?_
  refine wp_seq_k fun K12 hK12=>?_
  refine Qbs kj fun W10 e10=>?_
  have x10:Ext w W10:=Ext.tr x9 e10
  refine Qaw 0 (.bool false) 35 rfl rfl kj kj (fun _ _ _ h=>h) (fun W hR=>by kernel_rfl) ?_
  refine Qaw 1 (.bool false) 36 rfl rfl kj kj (fun _ _ _ h=>h) (fun W hR=>by kernel_rfl) ?_
  refine Qaw 2 (.bool false) 37 rfl rfl kj kj (fun _ _ _ h=>h) (fun W hR=>by kernel_rfl) ?_
  refine Qaw 3 (.bool false) 38 rfl rfl kj kj (fun _ _ _ h=>h) (fun W hR=>by kernel_rfl) ?_
  refine Qaw 4 (.bool false) 39 rfl rfl kj kj (fun _ _ _ h=>h) (fun W hR=>by kernel_rfl) ?_
  refine Qaw 5 (.bool false) 40 rfl rfl kj kj (fun _ _ _ h=>h) (fun W hR=>by kernel_rfl) ?_
  refine Qb9 6 41 rfl rfl kj kj (fun _ _ _ h=>h) ?_
  refine Qb9 7 42 rfl rfl kj kj (fun _ _ _ h=>h) ?_
  refine Qb9 8 43 rfl rfl kj kj (fun _ _ _ h=>h) ?_
  refine Qb9 9 44 rfl rfl kj kj (fun _ _ _ h=>h) ?_
  refine Qaw 10 (.bool false) 45 rfl rfl kj kj (fun _ _ _ h=>h) (fun W hR=>by kernel_rfl) ?_
  refine Qaw 11 (.bool false) 46 rfl rfl kj kj (fun _ _ _ h=>h) (fun W hR=>by kernel_rfl) ?_
  refine Qaw 12 (.bool false) 47 rfl rfl kj kj (fun _ _ _ h=>h) (fun W hR=>by kernel_rfl) ?_
  refine Qaw 13 (.bool false) 48 rfl rfl kj kj (fun _ _ _ h=>h) (fun W hR=>by kernel_rfl) ?_
  refine Qaw 14 (.bool true) 49 rfl rfl kj kj (fun _ _ _ h=>h) (fun W hR=>by kernel_rfl) ?_
  refine Qaw 15 (.bool true) 50 rfl rfl kj kj (fun _ _ _ h=>h) (fun W hR=>by kernel_rfl) ?_
  have r9_9:=(Qag r9_8 e9)
  have r9_10:=(Qag r9_9 e10)
  refine Qaw 16 (.agg (ints .u8 (List.replicate 32 0))) 51 rfl rfl kj kj (fun _ _ _ h=>h) (fun W hR=>(Qa5 28 _ g9 28 _ _ (Qag r9_10 hR) rfl kj kj (isz (n:=32) kj ((Qae _ _).trans (qZ (n:=32)))))) ?_
  refine Qaw 17 (.agg (ints .u8 (List.replicate 32 0))) 52 rfl rfl kj kj (fun _ _ _ h=>h) (fun W hR=>by kernel_rfl) ?_
  refine Qaw 18 (.bool false) 53 rfl rfl kj kj (fun _ _ _ h=>h) (fun W hR=>(QaG 28 _ _ _ _ _ (.bool false) rfl kj kj kj (QaR 28 (e:=5) (k:=.u8) (List.replicate 32 0) (List.replicate 32 0) (decide_eq_true rfl) (qZ (n:=32)) (qZ (n:=32)) kj kj kj _))) ?_
  refine Qaw 19 (.bool false) 54 rfl rfl kj kj (fun _ _ _ h=>h) (fun W hR=>by kernel_rfl) ?_
  refine Qaw 20 (.bool false) 55 rfl rfl kj kj (fun _ _ _ h=>h) (fun W hR=>by kernel_rfl) ?_
  refine QcG kj ?_
  refine hK12 _ _ ?_
  refine cond_false kj ?_
  refine wp_skip ?_
  refine hK11 _ _ ?_
  refine wp_seq_k fun K13 hK13=>?_
  refine wp_seq_k fun K14 hK14=>?_
  refine Qab ?_
  refine Qaa (.bool false) 56 rfl kj kj ?_
  refine Qaa (.bool true) 57 rfl kj kj ?_
  refine Qaa (.bool true) 58 rfl kj kj ?_
  refine Qad 59 rfl kj ?_
  refine Qad 60 rfl kj ?_
  refine Qaa (.bool true) 61 rfl kj kj ?_
  refine Qaa (.bool true) 62 rfl kj kj ?_
  refine Qad 63 rfl kj ?_
  refine Qad 64 rfl kj ?_
  refine Qad 65 rfl kj ?_
  refine Qad 66 rfl kj ?_
  refine Qaa (.bool true) 67 rfl kj kj ?_
  refine Qaf ?_
  refine hK14 _ _ ?_
  refine cond_true kj ?_
  refine wp_seq_k fun K15 hK15=>?_
  refine Qab ?_
  refine Qaa (.bool false) 68 rfl kj kj ?_
  refine Qaa (.bool true) 69 rfl kj kj ?_
  refine Qaa (.bool true) 70 rfl kj kj ?_
  have r7_6:=(Qag r7_5 e6)
  have r7_7:=(Qag r7_6 e7)
  have r7_8:=(Puts.row p8 r7_7 (Qax r7_6 l9))
  have r7_9:=(Qag r7_8 e9)
  have r7_10:=(Qag r7_9 e10)
  refine Qaa (.agg (ints .u8 (List.replicate 32 0))) 71 rfl kj (Qa5 28 _ g7 28 _ _ r7_10 rfl kj kj (isz (n:=32) kj ((Qae _ _).trans (qZ (n:=32))))) ?_
  refine Qaa (.agg (ints .u8 (List.replicate 32 0))) 72 rfl kj kj ?_
  refine Qaa (.bool true) 73 rfl kj (QaA 28 _ _ _ _ _ (.bool true) rfl kj kj kj (QaH 28 (e:=5) (k:=.u8) (List.replicate 32 0) (List.replicate 32 0) (decide_eq_true rfl) (qZ (n:=32)) (qZ (n:=32)) kj kj kj _)) ?_
  refine Qaa (.bool true) 74 rfl kj kj ?_
  refine Qaa (.bool true) 6 rfl kj kj ?_
  refine Qaf ?_
  refine hK15 _ _ ?_
  refine wp_ret ?_
  repeat (first | with_reducible refine goR1 ?_ | with_reducible refine goR2 ?_)
  exact (show bodyPost _ _ _ .ret _ _ from ret1 (.bool true) rfl (Qar kj) ⟨rfl,x10⟩)
set_option maxRecDepth 100000 in
theorem Qix (ts : List NdV) (a_t:Option Addr) (c_t B1:Nat) (w:World) (ht:TrAt B1 w a_t ts) (hT:TabAt w) (hSh:ShT w) (wo:List Int) (a_o:Option Addr) (c_o Bo:Nat) (ho:RdK .i64 Bo wo (.slice a_o wo.length c_o) w) (x:Int) (hs:∀ i,i<ts.length→i≤40∧(ndi ts i).n.ms.length≤50) (hw:wo.length≤100) (htl:ts.length≤100000) (hmt:∀ i,i<ts.length→(ndi ts i).n.ms.length≤50) (hol:wo.length≤1000000) (hc:chkT ts=true) (h0:0<ts.length) (h1:x<0):Calls Tryd.prog 3 #[.slice a_t ts.length c_t,.int .i64 x,.slice a_o wo.length c_o] w (Ret w (.bool true)):=by
  refine enter 84 [(0,.slice a_t ts.length c_t),(1,.int .i64 x),(2,.slice a_o wo.length c_o)] Tryd.func3 rfl rfl kj rfl ?_
  refine wp_seq_k fun K1 hK1=>?_
  refine Qab ?_
  refine Qaa (.bool false) 6 rfl kj kj ?_
  refine Qaf ?_
  refine hK1 _ _ ?_
  refine wp_seq_k fun K2 hK2=>?_
  refine wp_seq_k fun K3 hK3=>?_
  refine Qab ?_
  refine Qan (.bool true) 8 #[] 12 rfl kj kj (Qdw _ (TabAt.ext hT (Rely.Ext.refl w)) (ShT.ext hSh (Rely.Ext.refl w))) fun W1 e1=>?_
  have x1:Ext w W1:=Ext.tr (Rely.Ext.refl w) e1
  refine Qaa (.bool false) 13 rfl kj kj ?_
  refine Qaf ?_
  refine hK3 _ _ ?_
  refine cond_false kj ?_
  refine wp_skip ?_
  refine hK2 _ _ ?_
  refine wp_seq_k fun K4 hK4=>?_
  refine wp_seq_k fun K5 hK5=>?_
  refine Qab ?_
  refine Qaa (.slice a_t ts.length c_t) 14 rfl kj kj ?_
  refine Qan (.bool false) 9 #[.slice a_t ts.length c_t] 15 rfl kj kj (Qc1 ts a_t c_t _ _ (TrAt.ext ht x1) hs) fun W2 e2=>?_
  have x2:Ext w W2:=Ext.tr x1 e2
  refine Qaa (.bool false) 16 rfl kj kj ?_
  refine Qaa (.slice a_o wo.length c_o) 17 rfl kj kj ?_
  refine Qaa (.int .i64 ((wo.length:Nat):Int)) 18 rfl kj kj ?_
  refine Qaa (.bool false) 19 rfl kj (Qai (u:=.bool (decide (((wo.length:Nat):Int)>100))) kj (congrArg Value.bool (decide_eq_false (by omega)))) ?_
  refine Qaa (.bool false) 20 rfl kj kj ?_
  refine Qaf ?_
  refine hK5 _ _ ?_
  refine cond_false kj ?_
  refine wp_skip ?_
  refine hK4 _ _ ?_
  refine wp_seq_k fun K6 hK6=>?_
  refine Qab ?_
  refine Qaa (.slice a_t ts.length c_t) 22 rfl kj kj ?_
  refine Qaa (.int .i64 x) 23 rfl kj kj ?_
  refine Qaa (.slice a_o wo.length c_o) 24 rfl kj kj ?_
  refine Qan (.tuple #[.agg (ints .u8 (List.replicate 32 0)),.bool false]) 10 #[.slice a_t ts.length c_t,.int .i64 x,.slice a_o wo.length c_o] 25 rfl kj kj (Qgd ts a_t c_t B1 htl hmt wo a_o c_o _ _ (TrAt.ext ht x2) (TabAt.ext hT x2) (ShT.ext hSh x2) hol (RdK.ext ho x2) x (by omega)) fun W3 e3=>?_
  have x3:Ext w W3:=Ext.tr x2 e3
  refine Qaa (.tuple #[.agg (ints .u8 (List.replicate 32 0)),.bool false]) 21 rfl kj kj ?_
  refine Qaa (.agg (ints .u8 (List.replicate 32 0))) 26 rfl kj kj ?_
  refine Qaa (.bool false) 27 rfl kj kj ?_
  refine Qal (ints .u8 (List.replicate 32 0)) 28 7 rfl kj kj fun g7 W4 l7 e4 r7_4=>?_
  have x4:Ext w W4:=Ext.tr x3 e4
  have b7:w.heap.size≤g7:=qT x3.size l7
  refine Qat g7 _ (ints .u8 (List.replicate 32 0)) 28 r7_4 rfl kj (Qap 28 _ _ g7 28 _ _ r7_4 rfl kj kj (isz (n:=32) kj ((Qae _ _).trans (qZ (n:=32)))) (eqsz (n:=32) ((Qae _ _).trans (qZ (n:=32))) ((Qae _ _).trans (qZ (n:=32)))) (Qau _ _)) fun W5 p5 r7_5=>?_
  have x5:Ext w W5:=Puts.ext p5 x4 b7
  refine Qaa (.bool false) 8 rfl kj kj ?_
  refine Qaf ?_
  refine hK6 _ _ ?_
  refine wp_seq_k fun K8 hK8=>?_
  refine Qab ?_
  refine Qaa (.slice a_t ts.length c_t) 29 rfl kj kj ?_
  refine Qan (.tuple #[.agg (ints .u8 (dgN ts [] (ts.length/2))),.bool true]) 11 #[.slice a_t ts.length c_t] 30 rfl kj kj (QeQ ts a_t c_t B1 htl hmt hc _ (TrAt.ext ht x5) (TabAt.ext hT x5) (ShT.ext hSh x5)) fun W6 e6=>?_
  have x6:Ext w W6:=Ext.tr x5 e6
  refine Qaa (.tuple #[.agg (ints .u8 (dgN ts [] (ts.length/2))),.bool true]) 28 rfl kj kj ?_
  refine Qaa (.agg (ints .u8 (dgN ts [] (ts.length/2)))) 31 rfl kj kj ?_
  refine Qaa (.bool true) 32 rfl kj kj ?_
  refine Qal (ints .u8 (List.replicate 32 0)) 28 9 rfl kj kj fun g9 W7 l9 e7 r9_7=>?_
  have x7:Ext w W7:=Ext.tr x6 e7
  have b9:w.heap.size≤g9:=qT x6.size l9
  refine Qat g9 _ (ints .u8 (dgN ts [] (ts.length/2))) 28 r9_7 rfl kj (Qap 28 _ _ g9 28 _ _ r9_7 rfl kj kj (isz (n:=32) kj ((Qae _ _).trans (QaN ts [] (ts.length/2)))) (eqsz (n:=32) ((Qae _ _).trans (qZ (n:=32))) ((Qae _ _).trans (QaN ts [] (ts.length/2)))) (Qau _ _)) fun W8 p8 r9_8=>?_
  have x8:Ext w W8:=Puts.ext p8 x7 b9
  refine Qaa (.bool true) 10 rfl kj kj ?_
  refine Qaf ?_
  refine hK8 _ _ ?_
  refine wp_seq_k fun K10 hK10=>?_
  refine Qab ?_
  refine Qaa (.slice a_t ts.length c_t) 33 rfl kj kj ?_
  refine Qan (.bool true) 12 #[.slice a_t ts.length c_t] 34 rfl kj kj (Qi8 ts a_t c_t _ _ (TrAt.ext ht x8) htl (fun i hi=>qT (hmt i hi) (by decide)) true hc) fun W9 e9=>?_
  have x9:Ext w W9:=Ext.tr x8 e9
  refine Qaa (.bool true) 11 rfl kj kj ?_
  refine Qaf ?_
  refine hK10 _ _ ?_
  refine wp_seq_k fun K11 hK11=>?_
  refine wp_seq_k fun K12 hK12=>?_
  refine Qbs kj fun W10 e10=>?_
  have x10:Ext w W10:=Ext.tr x9 e10
  refine Qaw 0 (.bool true) 35 rfl rfl kj kj (fun _ _ _ h=>h) (fun W hR=>by kernel_rfl) ?_
  refine Qaw 1 (.bool true) 36 rfl rfl kj kj (fun _ _ _ h=>h) (fun W hR=>by kernel_rfl) ?_
  refine Qaw 2 (.bool false) 37 rfl rfl kj kj (fun _ _ _ h=>h) (fun W hR=>by kernel_rfl) ?_
  refine Qaw 3 (.bool false) 38 rfl rfl kj kj (fun _ _ _ h=>h) (fun W hR=>by kernel_rfl) ?_
  refine Qaw 4 (.bool true) 39 rfl rfl kj kj (fun _ _ _ h=>h) (fun W hR=>by kernel_rfl) ?_
  refine Qaw 5 (.bool true) 40 rfl rfl kj kj (fun _ _ _ h=>h) (fun W hR=>by kernel_rfl) ?_
  have r9_9:=(Qag r9_8 e9)
  have r9_10:=(Qag r9_9 e10)
  refine Qaw 6 (.agg (ints .u8 (dgN ts [] (ts.length/2)))) 41 rfl rfl kj kj (fun _ _ _ h=>h) (fun W hR=>(Qa5 28 _ g9 28 _ _ (Qag r9_10 hR) rfl kj kj (isz (n:=32) kj ((Qae _ _).trans (QaN ts [] (ts.length/2)))))) ?_
  refine Qaw 7 (.slice a_t ts.length c_t) 42 rfl rfl kj kj (fun _ _ _ h=>h) (fun W hR=>by kernel_rfl) ?_
  refine QbJ 8 kj ?_
  refine Qcg rfl (fun v W'=>v=(.agg (ints .u8 (dgN ts [] (ts.length/2))))∧Ext W10 W') 13 #[.slice a_t ts.length c_t] 43 rfl kj kj ((QfU ts a_t c_t B1 htl hmt hc h0 _ (TrAt.ext ht x10)).mono fun e w' h=>⟨_,h.1,rfl,h.2⟩) (fun _ _ h=>Rely.Ext.trans (Rely.Ext.refl W10) h.2) fun vv13 W11 hh13=>?_
  obtain ⟨rfl,e11⟩:=hh13
  have x11:Ext w W11:=Ext.tr x10 e11
  refine Qaw 9 (.bool false) 44 rfl rfl kj kj (fun _ _ _ h=>h) (fun W hR=>(QaG 28 _ _ _ _ _ (.bool false) rfl kj kj kj (QaR 28 (e:=5) (k:=.u8) (dgN ts [] (ts.length/2)) (dgN ts [] (ts.length/2)) (decide_eq_true rfl) (QaN ts [] (ts.length/2)) (QaN ts [] (ts.length/2)) kj kj kj _))) ?_
  refine Qaw 10 (.bool false) 45 rfl rfl kj kj (fun _ _ _ h=>h) (fun W hR=>by kernel_rfl) ?_
  refine Qaw 11 (.bool false) 46 rfl rfl kj kj (fun _ _ _ h=>h) (fun W hR=>by kernel_rfl) ?_
  refine Qaw 12 (.bool false) 47 rfl rfl kj kj (fun _ _ _ h=>h) (fun W hR=>by kernel_rfl) ?_
  refine Qaw 13 (.bool true) 48 rfl rfl kj kj (fun _ _ _ h=>h) (fun W hR=>by kernel_rfl) ?_
  refine Qaw 14 (.bool false) 49 rfl rfl kj kj (fun _ _ _ h=>h) (fun W hR=>by kernel_rfl) ?_
  refine Qaw 15 (.bool false) 50 rfl rfl kj kj (fun _ _ _ h=>h) (fun W hR=>by kernel_rfl) ?_
  refine Qb9 16 51 rfl rfl kj kj (fun _ _ _ h=>h) ?_
  refine Qb9 17 52 rfl rfl kj kj (fun _ _ _ h=>h) ?_
  refine Qb9 18 53 rfl rfl kj kj (fun _ _ _ h=>h) ?_
  refine Qaw 19 (.bool false) 54 rfl rfl kj kj (fun _ _ _ h=>h) (fun W hR=>by kernel_rfl) ?_
  refine Qaw 20 (.bool false) 55 rfl rfl kj kj (fun _ _ _ h=>h) (fun W hR=>by kernel_rfl) ?_
  refine QcG kj ?_
  refine hK12 _ _ ?_
  refine cond_false kj ?_
  refine wp_skip ?_
  refine hK11 _ _ ?_
  refine wp_seq_k fun K14 hK14=>?_
  refine wp_seq_k fun K15 hK15=>?_
  refine Qab ?_
  refine Qaa (.bool true) 56 rfl kj kj ?_
  refine Qaa (.bool false) 57 rfl kj kj ?_
  refine Qaa (.bool false) 58 rfl kj kj ?_
  refine Qaa (.int .i64 x) 59 rfl kj kj ?_
  refine Qaa (.bool true) 60 rfl kj (Qai (u:=.bool (decide (x<0))) kj (congrArg Value.bool (decide_eq_true (by omega)))) ?_
  refine Qaa (.bool true) 61 rfl kj kj ?_
  refine Qaa (.bool true) 62 rfl kj kj ?_
  refine Qad 63 rfl kj ?_
  refine Qad 64 rfl kj ?_
  refine Qad 65 rfl kj ?_
  refine Qad 66 rfl kj ?_
  refine Qaa (.bool true) 67 rfl kj kj ?_
  refine Qaf ?_
  refine hK15 _ _ ?_
  refine cond_true kj ?_
  refine wp_seq_k fun K16 hK16=>?_
  refine Qab ?_
  refine Qaa (.bool false) 68 rfl kj kj ?_
  refine Qaa (.bool true) 69 rfl kj kj ?_
  refine Qaa (.bool true) 70 rfl kj kj ?_
  have r7_6:=(Qag r7_5 e6)
  have r7_7:=(Qag r7_6 e7)
  have r7_8:=(Puts.row p8 r7_7 (Qax r7_6 l9))
  have r7_9:=(Qag r7_8 e9)
  have r7_10:=(Qag r7_9 e10)
  have r7_11:=(Qag r7_10 e11)
  refine Qaa (.agg (ints .u8 (List.replicate 32 0))) 71 rfl kj (Qa5 28 _ g7 28 _ _ r7_11 rfl kj kj (isz (n:=32) kj ((Qae _ _).trans (qZ (n:=32))))) ?_
  refine Qaa (.agg (ints .u8 (List.replicate 32 0))) 72 rfl kj kj ?_
  refine Qaa (.bool true) 73 rfl kj (QaA 28 _ _ _ _ _ (.bool true) rfl kj kj kj (QaH 28 (e:=5) (k:=.u8) (List.replicate 32 0) (List.replicate 32 0) (decide_eq_true rfl) (qZ (n:=32)) (qZ (n:=32)) kj kj kj _)) ?_
  refine Qaa (.bool true) 74 rfl kj kj ?_
  refine Qaa (.bool true) 6 rfl kj kj ?_
  refine Qaf ?_
  refine hK16 _ _ ?_
  refine wp_ret ?_
  repeat (first | with_reducible refine goR1 ?_ | with_reducible refine goR2 ?_)
  exact (show bodyPost _ _ _ .ret _ _ from ret1 (.bool true) rfl (Qar kj) ⟨rfl,x11⟩)
set_option maxRecDepth 100000 in
theorem Qiy (ts : List NdV) (a_t:Option Addr) (c_t B1:Nat) (w:World) (ht:TrAt B1 w a_t ts) (hT:TabAt w) (hSh:ShT w) (wo:List Int) (a_o:Option Addr) (c_o Bo:Nat) (ho:RdK .i64 Bo wo (.slice a_o wo.length c_o) w) (x:Int) (hs:∀ i,i<ts.length→i≤40∧(ndi ts i).n.ms.length≤50) (hw:wo.length≤100) (htl:ts.length≤100000) (hmt:∀ i,i<ts.length→(ndi ts i).n.ms.length≤50) (hol:wo.length≤1000000) (hc:chkT ts=true) (h0:0<ts.length) (h1:0≤x) (h2:((ts.length:Nat):Int)≤x):Calls Tryd.prog 3 #[.slice a_t ts.length c_t,.int .i64 x,.slice a_o wo.length c_o] w (Ret w (.bool true)):=by
  refine enter 84 [(0,.slice a_t ts.length c_t),(1,.int .i64 x),(2,.slice a_o wo.length c_o)] Tryd.func3 rfl rfl kj rfl ?_
  refine wp_seq_k fun K1 hK1=>?_
  refine Qab ?_
  refine Qaa (.bool false) 6 rfl kj kj ?_
  refine Qaf ?_
  refine hK1 _ _ ?_
  refine wp_seq_k fun K2 hK2=>?_
  refine wp_seq_k fun K3 hK3=>?_
  refine Qab ?_
  refine Qan (.bool true) 8 #[] 12 rfl kj kj (Qdw _ (TabAt.ext hT (Rely.Ext.refl w)) (ShT.ext hSh (Rely.Ext.refl w))) fun W1 e1=>?_
  have x1:Ext w W1:=Ext.tr (Rely.Ext.refl w) e1
  refine Qaa (.bool false) 13 rfl kj kj ?_
  refine Qaf ?_
  refine hK3 _ _ ?_
  refine cond_false kj ?_
  refine wp_skip ?_
  refine hK2 _ _ ?_
  refine wp_seq_k fun K4 hK4=>?_
  refine wp_seq_k fun K5 hK5=>?_
  refine Qab ?_
  refine Qaa (.slice a_t ts.length c_t) 14 rfl kj kj ?_
  refine Qan (.bool false) 9 #[.slice a_t ts.length c_t] 15 rfl kj kj (Qc1 ts a_t c_t _ _ (TrAt.ext ht x1) hs) fun W2 e2=>?_
  have x2:Ext w W2:=Ext.tr x1 e2
  refine Qaa (.bool false) 16 rfl kj kj ?_
  refine Qaa (.slice a_o wo.length c_o) 17 rfl kj kj ?_
  refine Qaa (.int .i64 ((wo.length:Nat):Int)) 18 rfl kj kj ?_
  refine Qaa (.bool false) 19 rfl kj (Qai (u:=.bool (decide (((wo.length:Nat):Int)>100))) kj (congrArg Value.bool (decide_eq_false (by omega)))) ?_
  refine Qaa (.bool false) 20 rfl kj kj ?_
  refine Qaf ?_
  refine hK5 _ _ ?_
  refine cond_false kj ?_
  refine wp_skip ?_
  refine hK4 _ _ ?_
  refine wp_seq_k fun K6 hK6=>?_
  refine Qab ?_
  refine Qaa (.slice a_t ts.length c_t) 22 rfl kj kj ?_
  refine Qaa (.int .i64 x) 23 rfl kj kj ?_
  refine Qaa (.slice a_o wo.length c_o) 24 rfl kj kj ?_
  refine Qan (.tuple #[.agg (ints .u8 (List.replicate 32 0)),.bool false]) 10 #[.slice a_t ts.length c_t,.int .i64 x,.slice a_o wo.length c_o] 25 rfl kj kj (Qgd ts a_t c_t B1 htl hmt wo a_o c_o _ _ (TrAt.ext ht x2) (TabAt.ext hT x2) (ShT.ext hSh x2) hol (RdK.ext ho x2) x (by omega)) fun W3 e3=>?_
  have x3:Ext w W3:=Ext.tr x2 e3
  refine Qaa (.tuple #[.agg (ints .u8 (List.replicate 32 0)),.bool false]) 21 rfl kj kj ?_
  refine Qaa (.agg (ints .u8 (List.replicate 32 0))) 26 rfl kj kj ?_
  refine Qaa (.bool false) 27 rfl kj kj ?_
  refine Qal (ints .u8 (List.replicate 32 0)) 28 7 rfl kj kj fun g7 W4 l7 e4 r7_4=>?_
  have x4:Ext w W4:=Ext.tr x3 e4
  have b7:w.heap.size≤g7:=qT x3.size l7
  refine Qat g7 _ (ints .u8 (List.replicate 32 0)) 28 r7_4 rfl kj (Qap 28 _ _ g7 28 _ _ r7_4 rfl kj kj (isz (n:=32) kj ((Qae _ _).trans (qZ (n:=32)))) (eqsz (n:=32) ((Qae _ _).trans (qZ (n:=32))) ((Qae _ _).trans (qZ (n:=32)))) (Qau _ _)) fun W5 p5 r7_5=>?_
  have x5:Ext w W5:=Puts.ext p5 x4 b7
  refine Qaa (.bool false) 8 rfl kj kj ?_
  refine Qaf ?_
  refine hK6 _ _ ?_
  refine wp_seq_k fun K8 hK8=>?_
  refine Qab ?_
  refine Qaa (.slice a_t ts.length c_t) 29 rfl kj kj ?_
  refine Qan (.tuple #[.agg (ints .u8 (dgN ts [] (ts.length/2))),.bool true]) 11 #[.slice a_t ts.length c_t] 30 rfl kj kj (QeQ ts a_t c_t B1 htl hmt hc _ (TrAt.ext ht x5) (TabAt.ext hT x5) (ShT.ext hSh x5)) fun W6 e6=>?_
  have x6:Ext w W6:=Ext.tr x5 e6
  refine Qaa (.tuple #[.agg (ints .u8 (dgN ts [] (ts.length/2))),.bool true]) 28 rfl kj kj ?_
  refine Qaa (.agg (ints .u8 (dgN ts [] (ts.length/2)))) 31 rfl kj kj ?_
  refine Qaa (.bool true) 32 rfl kj kj ?_
  refine Qal (ints .u8 (List.replicate 32 0)) 28 9 rfl kj kj fun g9 W7 l9 e7 r9_7=>?_
  have x7:Ext w W7:=Ext.tr x6 e7
  have b9:w.heap.size≤g9:=qT x6.size l9
  refine Qat g9 _ (ints .u8 (dgN ts [] (ts.length/2))) 28 r9_7 rfl kj (Qap 28 _ _ g9 28 _ _ r9_7 rfl kj kj (isz (n:=32) kj ((Qae _ _).trans (QaN ts [] (ts.length/2)))) (eqsz (n:=32) ((Qae _ _).trans (qZ (n:=32))) ((Qae _ _).trans (QaN ts [] (ts.length/2)))) (Qau _ _)) fun W8 p8 r9_8=>?_
  have x8:Ext w W8:=Puts.ext p8 x7 b9
  refine Qaa (.bool true) 10 rfl kj kj ?_
  refine Qaf ?_
  refine hK8 _ _ ?_
  refine wp_seq_k fun K10 hK10=>?_
  refine Qab ?_
  refine Qaa (.slice a_t ts.length c_t) 33 rfl kj kj ?_
  refine Qan (.bool true) 12 #[.slice a_t ts.length c_t] 34 rfl kj kj (Qi8 ts a_t c_t _ _ (TrAt.ext ht x8) htl (fun i hi=>qT (hmt i hi) (by decide)) true hc) fun W9 e9=>?_
  have x9:Ext w W9:=Ext.tr x8 e9
  refine Qaa (.bool true) 11 rfl kj kj ?_
  refine Qaf ?_
  refine hK10 _ _ ?_
  refine wp_seq_k fun K11 hK11=>?_
  refine wp_seq_k fun K12 hK12=>?_
  refine Qbs kj fun W10 e10=>?_
  have x10:Ext w W10:=Ext.tr x9 e10
  refine Qaw 0 (.bool true) 35 rfl rfl kj kj (fun _ _ _ h=>h) (fun W hR=>by kernel_rfl) ?_
  refine Qaw 1 (.bool true) 36 rfl rfl kj kj (fun _ _ _ h=>h) (fun W hR=>by kernel_rfl) ?_
  refine Qaw 2 (.bool false) 37 rfl rfl kj kj (fun _ _ _ h=>h) (fun W hR=>by kernel_rfl) ?_
  refine Qaw 3 (.bool false) 38 rfl rfl kj kj (fun _ _ _ h=>h) (fun W hR=>by kernel_rfl) ?_
  refine Qaw 4 (.bool true) 39 rfl rfl kj kj (fun _ _ _ h=>h) (fun W hR=>by kernel_rfl) ?_
  refine Qaw 5 (.bool true) 40 rfl rfl kj kj (fun _ _ _ h=>h) (fun W hR=>by kernel_rfl) ?_
  have r9_9:=(Qag r9_8 e9)
  have r9_10:=(Qag r9_9 e10)
  refine Qaw 6 (.agg (ints .u8 (dgN ts [] (ts.length/2)))) 41 rfl rfl kj kj (fun _ _ _ h=>h) (fun W hR=>(Qa5 28 _ g9 28 _ _ (Qag r9_10 hR) rfl kj kj (isz (n:=32) kj ((Qae _ _).trans (QaN ts [] (ts.length/2)))))) ?_
  refine Qaw 7 (.slice a_t ts.length c_t) 42 rfl rfl kj kj (fun _ _ _ h=>h) (fun W hR=>by kernel_rfl) ?_
  refine QbJ 8 kj ?_
  refine Qcg rfl (fun v W'=>v=(.agg (ints .u8 (dgN ts [] (ts.length/2))))∧Ext W10 W') 13 #[.slice a_t ts.length c_t] 43 rfl kj kj ((QfU ts a_t c_t B1 htl hmt hc h0 _ (TrAt.ext ht x10)).mono fun e w' h=>⟨_,h.1,rfl,h.2⟩) (fun _ _ h=>Rely.Ext.trans (Rely.Ext.refl W10) h.2) fun vv13 W11 hh13=>?_
  obtain ⟨rfl,e11⟩:=hh13
  have x11:Ext w W11:=Ext.tr x10 e11
  refine Qaw 9 (.bool false) 44 rfl rfl kj kj (fun _ _ _ h=>h) (fun W hR=>(QaG 28 _ _ _ _ _ (.bool false) rfl kj kj kj (QaR 28 (e:=5) (k:=.u8) (dgN ts [] (ts.length/2)) (dgN ts [] (ts.length/2)) (decide_eq_true rfl) (QaN ts [] (ts.length/2)) (QaN ts [] (ts.length/2)) kj kj kj _))) ?_
  refine Qaw 10 (.bool false) 45 rfl rfl kj kj (fun _ _ _ h=>h) (fun W hR=>by kernel_rfl) ?_
  refine Qaw 11 (.bool false) 46 rfl rfl kj kj (fun _ _ _ h=>h) (fun W hR=>by kernel_rfl) ?_
  refine Qaw 12 (.bool false) 47 rfl rfl kj kj (fun _ _ _ h=>h) (fun W hR=>by kernel_rfl) ?_
  refine Qaw 13 (.bool true) 48 rfl rfl kj kj (fun _ _ _ h=>h) (fun W hR=>by kernel_rfl) ?_
  refine Qaw 14 (.bool false) 49 rfl rfl kj kj (fun _ _ _ h=>h) (fun W hR=>by kernel_rfl) ?_
  refine Qaw 15 (.bool false) 50 rfl rfl kj kj (fun _ _ _ h=>h) (fun W hR=>by kernel_rfl) ?_
  refine Qb9 16 51 rfl rfl kj kj (fun _ _ _ h=>h) ?_
  refine Qb9 17 52 rfl rfl kj kj (fun _ _ _ h=>h) ?_
  refine Qb9 18 53 rfl rfl kj kj (fun _ _ _ h=>h) ?_
  refine Qaw 19 (.bool false) 54 rfl rfl kj kj (fun _ _ _ h=>h) (fun W hR=>by kernel_rfl) ?_
  refine Qaw 20 (.bool false) 55 rfl rfl kj kj (fun _ _ _ h=>h) (fun W hR=>by kernel_rfl) ?_
  refine QcG kj ?_
  refine hK12 _ _ ?_
  refine cond_false kj ?_
  refine wp_skip ?_
  refine hK11 _ _ ?_
  refine wp_seq_k fun K14 hK14=>?_
  refine wp_seq_k fun K15 hK15=>?_
  refine Qab ?_
  refine Qaa (.bool true) 56 rfl kj kj ?_
  refine Qaa (.bool false) 57 rfl kj kj ?_
  refine Qaa (.bool false) 58 rfl kj kj ?_
  refine Qaa (.int .i64 x) 59 rfl kj kj ?_
  refine Qaa (.bool false) 60 rfl kj (Qai (u:=.bool (decide (x<0))) kj (congrArg Value.bool (decide_eq_false (by omega)))) ?_
  refine Qaa (.bool false) 61 rfl kj kj ?_
  refine Qaa (.bool false) 62 rfl kj kj ?_
  refine Qaa (.int .i64 x) 63 rfl kj kj ?_
  refine Qaa (.slice a_t ts.length c_t) 64 rfl kj kj ?_
  refine Qaa (.int .i64 ((ts.length:Nat):Int)) 65 rfl kj kj ?_
  refine Qaa (.bool true) 66 rfl kj (Qai (u:=.bool (decide (x≥((ts.length:Nat):Int)))) kj (congrArg Value.bool (decide_eq_true (by omega)))) ?_
  refine Qaa (.bool true) 67 rfl kj kj ?_
  refine Qaf ?_
  refine hK15 _ _ ?_
  refine cond_true kj ?_
  refine wp_seq_k fun K16 hK16=>?_
  refine Qab ?_
  refine Qaa (.bool false) 68 rfl kj kj ?_
  refine Qaa (.bool true) 69 rfl kj kj ?_
  refine Qaa (.bool true) 70 rfl kj kj ?_
  have r7_6:=(Qag r7_5 e6)
  have r7_7:=(Qag r7_6 e7)
  have r7_8:=(Puts.row p8 r7_7 (Qax r7_6 l9))
  have r7_9:=(Qag r7_8 e9)
  have r7_10:=(Qag r7_9 e10)
  have r7_11:=(Qag r7_10 e11)
  refine Qaa (.agg (ints .u8 (List.replicate 32 0))) 71 rfl kj (Qa5 28 _ g7 28 _ _ r7_11 rfl kj kj (isz (n:=32) kj ((Qae _ _).trans (qZ (n:=32))))) ?_
  refine Qaa (.agg (ints .u8 (List.replicate 32 0))) 72 rfl kj kj ?_
  refine Qaa (.bool true) 73 rfl kj (QaA 28 _ _ _ _ _ (.bool true) rfl kj kj kj (QaH 28 (e:=5) (k:=.u8) (List.replicate 32 0) (List.replicate 32 0) (decide_eq_true rfl) (qZ (n:=32)) (qZ (n:=32)) kj kj kj _)) ?_
  refine Qaa (.bool true) 74 rfl kj kj ?_
  refine Qaa (.bool true) 6 rfl kj kj ?_
  refine Qaf ?_
  refine hK16 _ _ ?_
  refine wp_ret ?_
  repeat (first | with_reducible refine goR1 ?_ | with_reducible refine goR2 ?_)
  exact (show bodyPost _ _ _ .ret _ _ from ret1 (.bool true) rfl (Qar kj) ⟨rfl,x11⟩)
set_option maxRecDepth 100000 in
theorem Qiu (ts : List NdV) (a_t:Option Addr) (c_t B1:Nat) (w:World) (ht:TrAt B1 w a_t ts) (hT:TabAt w) (hSh:ShT w) (wo:List Int) (a_o:Option Addr) (c_o Bo:Nat) (ho:RdK .i64 Bo wo (.slice a_o wo.length c_o) w) (x:Nat) (hs:∀ i,i<ts.length→i≤40∧(ndi ts i).n.ms.length≤50) (hw:wo.length≤100) (htl:ts.length≤100000) (hmt:∀ i,i<ts.length→(ndi ts i).n.ms.length≤50) (hol:wo.length≤1000000) (hc:chkT ts=true) (h0:0<ts.length) (hx:x<ts.length):Calls Tryd.prog 3 #[.slice a_t ts.length c_t,.int .i64 ((x:Nat):Int),.slice a_o wo.length c_o] w (Ret w (.bool true)):=by
  refine enter 84 [(0,.slice a_t ts.length c_t),(1,.int .i64 ((x:Nat):Int)),(2,.slice a_o wo.length c_o)] Tryd.func3 rfl rfl kj rfl ?_
  refine wp_seq_k fun K1 hK1=>?_
  refine Qab ?_
  refine Qaa (.bool false) 6 rfl kj kj ?_
  refine Qaf ?_
  refine hK1 _ _ ?_
  refine wp_seq_k fun K2 hK2=>?_
  refine wp_seq_k fun K3 hK3=>?_
  refine Qab ?_
  refine Qan (.bool true) 8 #[] 12 rfl kj kj (Qdw _ (TabAt.ext hT (Rely.Ext.refl w)) (ShT.ext hSh (Rely.Ext.refl w))) fun W1 e1=>?_
  have x1:Ext w W1:=Ext.tr (Rely.Ext.refl w) e1
  refine Qaa (.bool false) 13 rfl kj kj ?_
  refine Qaf ?_
  refine hK3 _ _ ?_
  refine cond_false kj ?_
  refine wp_skip ?_
  refine hK2 _ _ ?_
  refine wp_seq_k fun K4 hK4=>?_
  refine wp_seq_k fun K5 hK5=>?_
  refine Qab ?_
  refine Qaa (.slice a_t ts.length c_t) 14 rfl kj kj ?_
  refine Qan (.bool false) 9 #[.slice a_t ts.length c_t] 15 rfl kj kj (Qc1 ts a_t c_t _ _ (TrAt.ext ht x1) hs) fun W2 e2=>?_
  have x2:Ext w W2:=Ext.tr x1 e2
  refine Qaa (.bool false) 16 rfl kj kj ?_
  refine Qaa (.slice a_o wo.length c_o) 17 rfl kj kj ?_
  refine Qaa (.int .i64 ((wo.length:Nat):Int)) 18 rfl kj kj ?_
  refine Qaa (.bool false) 19 rfl kj (Qai (u:=.bool (decide (((wo.length:Nat):Int)>100))) kj (congrArg Value.bool (decide_eq_false (by omega)))) ?_
  refine Qaa (.bool false) 20 rfl kj kj ?_
  refine Qaf ?_
  refine hK5 _ _ ?_
  refine cond_false kj ?_
  refine wp_skip ?_
  refine hK4 _ _ ?_
  refine wp_seq_k fun K6 hK6=>?_
  refine Qab ?_
  refine Qaa (.slice a_t ts.length c_t) 22 rfl kj kj ?_
  refine Qaa (.int .i64 ((x:Nat):Int)) 23 rfl kj kj ?_
  refine Qaa (.slice a_o wo.length c_o) 24 rfl kj kj ?_
  refine Qan (.tuple #[.agg (ints .u8 (dgN ts wo x)),.bool true]) 10 #[.slice a_t ts.length c_t,.int .i64 ((x:Nat):Int),.slice a_o wo.length c_o] 25 rfl kj kj (QiU ts a_t c_t B1 htl hmt wo a_o c_o _ _ (TrAt.ext ht x2) (TabAt.ext hT x2) (ShT.ext hSh x2) hol (RdK.ext ho x2) hc x hx) fun W3 e3=>?_
  have x3:Ext w W3:=Ext.tr x2 e3
  refine Qaa (.tuple #[.agg (ints .u8 (dgN ts wo x)),.bool true]) 21 rfl kj kj ?_
  refine Qaa (.agg (ints .u8 (dgN ts wo x))) 26 rfl kj kj ?_
  refine Qaa (.bool true) 27 rfl kj kj ?_
  refine Qal (ints .u8 (List.replicate 32 0)) 28 7 rfl kj kj fun g7 W4 l7 e4 r7_4=>?_
  have x4:Ext w W4:=Ext.tr x3 e4
  have b7:w.heap.size≤g7:=qT x3.size l7
  refine Qat g7 _ (ints .u8 (dgN ts wo x)) 28 r7_4 rfl kj (Qap 28 _ _ g7 28 _ _ r7_4 rfl kj kj (isz (n:=32) kj ((Qae _ _).trans (QaN ts wo x))) (eqsz (n:=32) ((Qae _ _).trans (qZ (n:=32))) ((Qae _ _).trans (QaN ts wo x))) (Qau _ _)) fun W5 p5 r7_5=>?_
  have x5:Ext w W5:=Puts.ext p5 x4 b7
  refine Qaa (.bool true) 8 rfl kj kj ?_
  refine Qaf ?_
  refine hK6 _ _ ?_
  refine wp_seq_k fun K8 hK8=>?_
  refine Qab ?_
  refine Qaa (.slice a_t ts.length c_t) 29 rfl kj kj ?_
  refine Qan (.tuple #[.agg (ints .u8 (dgN ts [] (ts.length/2))),.bool true]) 11 #[.slice a_t ts.length c_t] 30 rfl kj kj (QeQ ts a_t c_t B1 htl hmt hc _ (TrAt.ext ht x5) (TabAt.ext hT x5) (ShT.ext hSh x5)) fun W6 e6=>?_
  have x6:Ext w W6:=Ext.tr x5 e6
  refine Qaa (.tuple #[.agg (ints .u8 (dgN ts [] (ts.length/2))),.bool true]) 28 rfl kj kj ?_
  refine Qaa (.agg (ints .u8 (dgN ts [] (ts.length/2)))) 31 rfl kj kj ?_
  refine Qaa (.bool true) 32 rfl kj kj ?_
  refine Qal (ints .u8 (List.replicate 32 0)) 28 9 rfl kj kj fun g9 W7 l9 e7 r9_7=>?_
  have x7:Ext w W7:=Ext.tr x6 e7
  have b9:w.heap.size≤g9:=qT x6.size l9
  refine Qat g9 _ (ints .u8 (dgN ts [] (ts.length/2))) 28 r9_7 rfl kj (Qap 28 _ _ g9 28 _ _ r9_7 rfl kj kj (isz (n:=32) kj ((Qae _ _).trans (QaN ts [] (ts.length/2)))) (eqsz (n:=32) ((Qae _ _).trans (qZ (n:=32))) ((Qae _ _).trans (QaN ts [] (ts.length/2)))) (Qau _ _)) fun W8 p8 r9_8=>?_
  have x8:Ext w W8:=Puts.ext p8 x7 b9
  refine Qaa (.bool true) 10 rfl kj kj ?_
  refine Qaf ?_
  refine hK8 _ _ ?_
  refine wp_seq_k fun K10 hK10=>?_
  refine Qab ?_
  refine Qaa (.slice a_t ts.length c_t) 33 rfl kj kj ?_
  refine Qan (.bool true) 12 #[.slice a_t ts.length c_t] 34 rfl kj kj (Qi8 ts a_t c_t _ _ (TrAt.ext ht x8) htl (fun i hi=>qT (hmt i hi) (by decide)) true hc) fun W9 e9=>?_
  have x9:Ext w W9:=Ext.tr x8 e9
  refine Qaa (.bool true) 11 rfl kj kj ?_
  refine Qaf ?_
  refine hK10 _ _ ?_
  refine wp_seq_k fun K11 hK11=>?_
  refine wp_seq_k fun K12 hK12=>?_
  refine Qbs kj fun W10 e10=>?_
  have x10:Ext w W10:=Ext.tr x9 e10
  refine Qaw 0 (.bool true) 35 rfl rfl kj kj (fun _ _ _ h=>h) (fun W hR=>by kernel_rfl) ?_
  refine Qaw 1 (.bool true) 36 rfl rfl kj kj (fun _ _ _ h=>h) (fun W hR=>by kernel_rfl) ?_
  refine Qaw 2 (.bool false) 37 rfl rfl kj kj (fun _ _ _ h=>h) (fun W hR=>by kernel_rfl) ?_
  refine Qaw 3 (.bool false) 38 rfl rfl kj kj (fun _ _ _ h=>h) (fun W hR=>by kernel_rfl) ?_
  refine Qaw 4 (.bool true) 39 rfl rfl kj kj (fun _ _ _ h=>h) (fun W hR=>by kernel_rfl) ?_
  refine Qaw 5 (.bool true) 40 rfl rfl kj kj (fun _ _ _ h=>h) (fun W hR=>by kernel_rfl) ?_
  have r9_9:=(Qag r9_8 e9)
  have r9_10:=(Qag r9_9 e10)
  refine Qaw 6 (.agg (ints .u8 (dgN ts [] (ts.length/2)))) 41 rfl rfl kj kj (fun _ _ _ h=>h) (fun W hR=>(Qa5 28 _ g9 28 _ _ (Qag r9_10 hR) rfl kj kj (isz (n:=32) kj ((Qae _ _).trans (QaN ts [] (ts.length/2)))))) ?_
  refine Qaw 7 (.slice a_t ts.length c_t) 42 rfl rfl kj kj (fun _ _ _ h=>h) (fun W hR=>by kernel_rfl) ?_
  refine QbJ 8 kj ?_
  refine Qcg rfl (fun v W'=>v=(.agg (ints .u8 (dgN ts [] (ts.length/2))))∧Ext W10 W') 13 #[.slice a_t ts.length c_t] 43 rfl kj kj ((QfU ts a_t c_t B1 htl hmt hc h0 _ (TrAt.ext ht x10)).mono fun e w' h=>⟨_,h.1,rfl,h.2⟩) (fun _ _ h=>Rely.Ext.trans (Rely.Ext.refl W10) h.2) fun vv13 W11 hh13=>?_
  obtain ⟨rfl,e11⟩:=hh13
  have x11:Ext w W11:=Ext.tr x10 e11
  refine Qaw 9 (.bool false) 44 rfl rfl kj kj (fun _ _ _ h=>h) (fun W hR=>(QaG 28 _ _ _ _ _ (.bool false) rfl kj kj kj (QaR 28 (e:=5) (k:=.u8) (dgN ts [] (ts.length/2)) (dgN ts [] (ts.length/2)) (decide_eq_true rfl) (QaN ts [] (ts.length/2)) (QaN ts [] (ts.length/2)) kj kj kj _))) ?_
  refine Qaw 10 (.bool false) 45 rfl rfl kj kj (fun _ _ _ h=>h) (fun W hR=>by kernel_rfl) ?_
  refine Qaw 11 (.bool false) 46 rfl rfl kj kj (fun _ _ _ h=>h) (fun W hR=>by kernel_rfl) ?_
  refine Qaw 12 (.bool false) 47 rfl rfl kj kj (fun _ _ _ h=>h) (fun W hR=>by kernel_rfl) ?_
  refine Qaw 13 (.bool true) 48 rfl rfl kj kj (fun _ _ _ h=>h) (fun W hR=>by kernel_rfl) ?_
  refine Qaw 14 (.bool false) 49 rfl rfl kj kj (fun _ _ _ h=>h) (fun W hR=>by kernel_rfl) ?_
  refine Qaw 15 (.bool false) 50 rfl rfl kj kj (fun _ _ _ h=>h) (fun W hR=>by kernel_rfl) ?_
  refine Qb9 16 51 rfl rfl kj kj (fun _ _ _ h=>h) ?_
  refine Qb9 17 52 rfl rfl kj kj (fun _ _ _ h=>h) ?_
  refine Qb9 18 53 rfl rfl kj kj (fun _ _ _ h=>h) ?_
  refine Qaw 19 (.bool false) 54 rfl rfl kj kj (fun _ _ _ h=>h) (fun W hR=>by kernel_rfl) ?_
  refine Qaw 20 (.bool false) 55 rfl rfl kj kj (fun _ _ _ h=>h) (fun W hR=>by kernel_rfl) ?_
  refine QcG kj ?_
  refine hK12 _ _ ?_
  refine cond_false kj ?_
  refine wp_skip ?_
  refine hK11 _ _ ?_
  refine wp_seq_k fun K14 hK14=>?_
  refine wp_seq_k fun K15 hK15=>?_
  refine Qab ?_
  refine Qaa (.bool true) 56 rfl kj kj ?_
  refine Qaa (.bool false) 57 rfl kj kj ?_
  refine Qaa (.bool false) 58 rfl kj kj ?_
  refine Qaa (.int .i64 ((x:Nat):Int)) 59 rfl kj kj ?_
  refine Qaa (.bool false) 60 rfl kj (Qai (u:=.bool (decide (((x:Nat):Int)<0))) kj (congrArg Value.bool (decide_eq_false (by omega)))) ?_
  refine Qaa (.bool false) 61 rfl kj kj ?_
  refine Qaa (.bool false) 62 rfl kj kj ?_
  refine Qaa (.int .i64 ((x:Nat):Int)) 63 rfl kj kj ?_
  refine Qaa (.slice a_t ts.length c_t) 64 rfl kj kj ?_
  refine Qaa (.int .i64 ((ts.length:Nat):Int)) 65 rfl kj kj ?_
  refine Qaa (.bool false) 66 rfl kj (Qai (u:=.bool (decide (((x:Nat):Int)≥((ts.length:Nat):Int)))) kj (congrArg Value.bool (decide_eq_false (by omega)))) ?_
  refine Qaa (.bool false) 67 rfl kj kj ?_
  refine Qaf ?_
  refine hK15 _ _ ?_
  refine cond_false kj ?_
  refine wp_skip ?_
  refine hK14 _ _ ?_
  refine wp_seq_k fun K16 hK16=>?_
  refine Qbs kj fun W12 e12=>?_
  have x12:Ext w W12:=Ext.tr x11 e12
  refine Qaw 0 (.bool true) 75 rfl rfl kj kj (fun _ _ _ h=>h) (fun W hR=>by kernel_rfl) ?_
  refine Qaw 1 (.bool true) 76 rfl rfl kj kj (fun _ _ _ h=>h) (fun W hR=>by kernel_rfl) ?_
  have r7_6:=(Qag r7_5 e6)
  have r7_7:=(Qag r7_6 e7)
  have r7_8:=(Puts.row p8 r7_7 (Qax r7_6 l9))
  have r7_9:=(Qag r7_8 e9)
  have r7_10:=(Qag r7_9 e10)
  have r7_11:=(Qag r7_10 e11)
  have r7_12:=(Qag r7_11 e12)
  refine Qaw 2 (.agg (ints .u8 (dgN ts wo x))) 77 rfl rfl kj kj (fun _ _ _ h=>h) (fun W hR=>(Qa5 28 _ g7 28 _ _ (Qag r7_12 hR) rfl kj kj (isz (n:=32) kj ((Qae _ _).trans (QaN ts wo x))))) ?_
  refine Qaw 3 (.slice a_t ts.length c_t) 78 rfl rfl kj kj (fun _ _ _ h=>h) (fun W hR=>by kernel_rfl) ?_
  refine Qaw 4 (.int .i64 ((x:Nat):Int)) 79 rfl rfl kj kj (fun _ _ _ h=>h) (fun W hR=>by kernel_rfl) ?_
  refine Qaw 5 (.slice a_o wo.length c_o) 80 rfl rfl kj kj (fun _ _ _ h=>h) (fun W hR=>by kernel_rfl) ?_
  refine QbJ 6 kj ?_
  refine Qcg rfl (fun v W'=>v=(.agg (ints .u8 (dgN ts wo x)))∧Ext W12 W') 14 #[.slice a_t ts.length c_t,.int .i64 ((x:Nat):Int),.slice a_o wo.length c_o] 81 rfl kj kj ((QkX ts a_t c_t B1 htl hmt hc wo a_o c_o _ _ (TrAt.ext ht x12) hol (RdK.ext ho x12) x hx).mono fun e w' h=>⟨_,h.1,rfl,h.2⟩) (fun _ _ h=>Rely.Ext.trans (Rely.Ext.refl W12) h.2) fun vv17 W13 hh17=>?_
  obtain ⟨rfl,e13⟩:=hh17
  have x13:Ext w W13:=Ext.tr x12 e13
  refine Qaw 7 (.bool true) 82 rfl rfl kj kj (fun _ _ _ h=>h) (fun W hR=>(QaA 28 _ _ _ _ _ (.bool true) rfl kj kj kj (QaH 28 (e:=5) (k:=.u8) (dgN ts wo x) (dgN ts wo x) (decide_eq_true rfl) (QaN ts wo x) (QaN ts wo x) kj kj kj _))) ?_
  refine Qaw 8 (.bool true) 83 rfl rfl kj kj (fun _ _ _ h=>h) (fun W hR=>by kernel_rfl) ?_
  refine Qaw 9 (.bool true) 6 rfl rfl kj kj (fun _ _ _ h=>h) (fun W hR=>by kernel_rfl) ?_
  refine QcG kj ?_
  refine hK16 _ _ ?_
  refine wp_ret ?_
  repeat (first | with_reducible refine goR1 ?_ | with_reducible refine goR2 ?_)
  exact (show bodyPost _ _ _ .ret _ _ from ret1 (.bool true) rfl (Qar kj) ⟨rfl,x13⟩)
theorem lawDigests (ts : List NdV) (a_t:Option Addr) (c_t B1:Nat) (w:World) (ht:TrAt B1 w a_t ts) (hT:TabAt w) (hSh:ShT w) (wo:List Int) (a_o:Option Addr) (c_o Bo:Nat) (ho:RdK .i64 Bo wo (.slice a_o wo.length c_o) w) (x:Int):Calls Tryd.prog 3 #[.slice a_t ts.length c_t,.int .i64 x,.slice a_o wo.length c_o] w (Ret w (.bool true)):=by
  by_cases hs:∀ i,i<ts.length→i≤40∧(ndi ts i).n.ms.length≤50
  · by_cases hw:100<wo.length
    · exact Qiw ts a_t c_t B1 w ht hT hSh wo a_o c_o Bo ho x hs hw
    have h41:=sm15 hs
    have hmt:∀ i,i<ts.length→(ndi ts i).n.ms.length≤50:=fun i hi=>(hs i hi).2
    cases hc:chkT ts with
    | false=>exact Qiz ts a_t c_t B1 w ht hT hSh wo a_o c_o Bo ho x hs (by omega) (by omega) hmt (by omega) hc
    | true =>
      have h0:=Qkv (by omega) hc
      by_cases h1:x<0
      · exact Qix ts a_t c_t B1 w ht hT hSh wo a_o c_o Bo ho x hs (by omega) (by omega) hmt (by omega) hc h0 h1
      by_cases h2:((ts.length:Nat):Int)≤x
      · exact Qiy ts a_t c_t B1 w ht hT hSh wo a_o c_o Bo ho x hs (by omega) (by omega) hmt (by omega) hc h0 (by omega) h2
      · obtain ⟨y,rfl⟩:=Int.eq_ofNat_of_zero_le (show 0≤x by omega)
        exact Qiu ts a_t c_t B1 w ht hT hSh wo a_o c_o Bo ho y hs (by omega) (by omega) hmt (by omega) hc h0 (by omega)
  · exact Qiv ts a_t c_t B1 w ht hT hSh wo a_o c_o Bo ho x hs
end Go.Proofs.YthfkppjajmjpnaaDoor.Te
end
section
namespace Go.Proofs.YthfkppjajmjpnaaDoor.Auto
open Go Go.RowKit Go.WideShapes
open Rely
section
variable {H : Type} {enc : TypeId × Value → H} {P : Program} {W w : World} {r : Reach} {base b0 : Nat} {sp : Nat → Bool} {held : Bool}
theorem open_raw {n : Nat} {t e:TypeId} {cs:List Value} {fuel:Nat} {x:DataW H×List MemPlace} (ht:P.underlying t=some (.array n e)) (he:P.underlying e=some (.int .u8)) (hce:P.cellsOf e=1) (hct:P.cellsOf t=n)
    (hf:DataW.trod enc P w b0 sp held fuel t cs=some x):∃ xs:List Int,cs=xs.map (Value.int .u8)∧xs.length=n∧Qaz xs:=by
  obtain ⟨xs,m,-,-,hl,hn,hx⟩:=DataW.trod_array ht hf
  have hcs:cs.length=n:=by simpa [hct] using hl
  have each:∀ i,i<n→∃ z:Int,cs[i]? = some (.int .u8 z)∧(0≤z∧z≤255):=by
    intro i hi
    have h1:=hx i hi
    rw [hce,Nat.mul_one] at h1
    have hlt:i<cs.length:=by omega
    have h2:cs.drop i=cs[i]::cs.drop (i+1):=List.drop_eq_getElem_cons hlt
    have h1:DataW.trod enc P w b0 sp held m e ((cs.drop i).take 1)=xs[i]?:=h1
    rw [h2] at h1
    simp only [List.take_succ_cons,List.take_zero] at h1
    obtain ⟨y,hy⟩:∃ y,xs[i]? = some y:=⟨xs[i],by simp [hn,hi]⟩
    rw [hy] at h1
    obtain ⟨z,hc,-,hw⟩:=DataW.trod_int he h1
    refine ⟨z,?_,?_⟩
    · rw [List.getElem?_eq_getElem hlt]
      simp only [List.cons.injEq] at hc
      rw [hc.1]
    · simpa [Lit.wf,IntKind.min,IntKind.max,IntKind.signed,IntKind.bits] using hw
  have all:∀ (l:List Value),(∀ i,i<l.length→∃ z:Int,l[i]? = some (.int .u8 z)∧(0≤z∧z≤255))→∃ zs:List Int,l=zs.map (Value.int .u8)∧Qaz zs:=by
    intro l
    induction l with
    | nil=>exact fun _=>⟨[],rfl,fun x hx=>by simp at hx⟩
    | cons a l ih =>
      intro h
      obtain ⟨zs,h1,h2⟩:=ih fun i hi=>by simpa using h (i+1) (by simp; omega)
      obtain ⟨z,h3,h4⟩:=h 0 (by simp)
      simp only [List.getElem?_cons_zero,Option.some.injEq] at h3
      refine ⟨z::zs,by rw [h3,h1]; rfl,fun x hx=>?_⟩
      rcases List.mem_cons.1 hx with e | e
      · rw [e]; exact h4
      · exact h2 x e
  obtain ⟨zs,h1,h2⟩:=all cs fun i hi=>each i (by omega)
  exact ⟨zs,h1,by rw [←hcs,h1,List.length_map],h2⟩
end
end Go.Proofs.YthfkppjajmjpnaaDoor.Auto
end
section
namespace Go.Proofs.YthfkppjajmjpnaaDoor.Auto
open Go Go.RowKit Go.WideShapes
open Rely
section
variable {H : Type} {enc : TypeId × Value → H} {P : Program} {W w : World} {r : Reach} {base b0 : Nat} {sp : Nat → Bool} {held : Bool}
theorem QhW {t : TypeId} {f0 f1 f2 f3 f4 f5:Field} {fuel:Nat} {cs:List Value} {x:DataW H×List MemPlace} (ht:P.underlying t=some (.struct #[f0,f1,f2,f3,f4,f5])) (h:DataW.trod enc P w b0 sp held fuel t cs=some x) :
    ∃ y0 y1 y2 y3 y4 y5 n,cs.length=P.cellsOf t∧DataW.trod enc P w b0 sp held n f0.type ((cs.drop f0.offset).take (P.cellsOf f0.type))=some y0∧DataW.trod enc P w b0 sp held n f1.type ((cs.drop f1.offset).take (P.cellsOf f1.type))=some y1∧DataW.trod enc P w b0 sp held n f2.type ((cs.drop f2.offset).take (P.cellsOf f2.type))=some y2∧DataW.trod enc P w b0 sp held n f3.type ((cs.drop f3.offset).take (P.cellsOf f3.type))=some y3∧DataW.trod enc P w b0 sp held n f4.type ((cs.drop f4.offset).take (P.cellsOf f4.type))=some y4∧DataW.trod enc P w b0 sp held n f5.type ((cs.drop f5.offset).take (P.cellsOf f5.type))=some y5:=by
  obtain ⟨xs,n,_,rfl,hl,hlen,hf⟩:=DataW.trod_struct ht h
  match xs,hlen with
  | [y0,y1,y2,y3,y4,y5],_=>exact ⟨y0,y1,y2,y3,y4,y5,n,hl,by simpa using hf 0 f0 rfl,by simpa using hf 1 f1 rfl,by simpa using hf 2 f2 rfl,by simpa using hf 3 f3 rfl,by simpa using hf 4 f4 rfl,by simpa using hf 5 f5 rfl⟩
theorem sub_st6 {t : TypeId} {f0 f1 f2 f3 f4 f5:Field} {fuel:Nat} {cs:List Value} {x:DataW H×List MemPlace} {n0 n1 n2 n3 n4 n5:Nat} (ht:P.underlying t=some (.struct #[f0,f1,f2,f3,f4,f5]))
    (ho:f0.offset=0∧f1.offset=n0∧f2.offset=n0+n1∧f3.offset=n0+n1+n2∧f4.offset=n0+n1+n2+n3∧f5.offset=n0+n1+n2+n3+n4) (hc:P.cellsOf f0.type=n0∧P.cellsOf f1.type=n1∧P.cellsOf f2.type=n2∧P.cellsOf f3.type=n3∧P.cellsOf f4.type=n4∧P.cellsOf f5.type=n5) (hC:P.cellsOf t=n0+n1+n2+n3+n4+n5) (h:DataW.trod enc P w b0 sp held fuel t cs=some x) :
    ∃ (X0 X1 X2 X3 X4 X5:List Value) (y0 y1 y2 y3 y4 y5:DataW H×List MemPlace) (n:Nat),cs=X0++X1++X2++X3++X4++X5∧DataW.trod enc P w b0 sp held n f0.type X0=some y0∧DataW.trod enc P w b0 sp held n f1.type X1=some y1∧DataW.trod enc P w b0 sp held n f2.type X2=some y2∧DataW.trod enc P w b0 sp held n f3.type X3=some y3∧DataW.trod enc P w b0 sp held n f4.type X4=some y4∧DataW.trod enc P w b0 sp held n f5.type X5=some y5:=by
  obtain ⟨y0,y1,y2,y3,y4,y5,n,hl,h0,h1,h2,h3,h4,h5⟩:=QhW ht h
  obtain ⟨o0,o1,o2,o3,o4,o5⟩:=ho
  obtain ⟨c0,c1,c2,c3,c4,c5⟩:=hc
  rw [o0,c0] at h0
  rw [o1,c1] at h1
  rw [o2,c2] at h2
  rw [o3,c3] at h3
  rw [o4,c4] at h4
  rw [o5,c5] at h5
  refine ⟨_,_,_,_,_,_,y0,y1,y2,y3,y4,y5,n,?_,h0,h1,h2,h3,h4,h5⟩
  rw [hC] at hl
  simp only [List.drop_zero]
  have e1:cs.take (n0)++(cs.drop (n0)).take n1=cs.take (n0+n1):=by rw [List.take_add (i:=n0)]
  have e2:cs.take (n0+n1)++(cs.drop (n0+n1)).take n2=cs.take (n0+n1+n2):=by rw [List.take_add (i:=n0+n1)]
  have e3:cs.take (n0+n1+n2)++(cs.drop (n0+n1+n2)).take n3=cs.take (n0+n1+n2+n3):=by rw [List.take_add (i:=n0+n1+n2)]
  have e4:cs.take (n0+n1+n2+n3)++(cs.drop (n0+n1+n2+n3)).take n4=cs.take (n0+n1+n2+n3+n4):=by rw [List.take_add (i:=n0+n1+n2+n3)]
  have e5:cs.take (n0+n1+n2+n3+n4)++(cs.drop (n0+n1+n2+n3+n4)).take n5=cs.take (n0+n1+n2+n3+n4+n5):=by rw [List.take_add (i:=n0+n1+n2+n3+n4)]
  rw [e1,e2,e3,e4,e5,List.take_of_length_le (by omega)]
end
end Go.Proofs.YthfkppjajmjpnaaDoor.Auto
end
section
namespace Go.Proofs.YthfkppjajmjpnaaDoor.Auto
open Go Go.RowKit
open Rely
theorem Qee {P : Program} {w:World}:∀ (laid:List (String×DataW Unit)) (ps:List MemPlace) (n:String) (d:DataW Unit),DataW.LaidVars P w laid ps→(n,d)∈laid →
    ∃ g t cs fuel p,P.globalNamed n=some g∧(P.globals[g]?).map (·.type)=some t∧w.var? P n=some cs∧DataW.trod (fun _=>()) P w 0 (fun _=>true) false fuel t cs.toList=some (d,p)∧∀ x∈MemPlace.row ⟨g,0,none⟩ cs.size,x∈ps
  | [],_,_,_,_,h=>by cases h
  | (n0,d0)::r,ps,n,d,⟨g,t,cs,fuel,p,q,h1,h2,h3,h4,h5,h6⟩,h=>by
    subst h6
    rcases List.mem_cons.1 h with h | h
    · cases h
      exact ⟨g,t,cs,fuel,p,h1,h2,h3,h4,fun x hx=>List.mem_append_left _ (List.mem_append_left _ hx)⟩
    · obtain ⟨g',t',cs',fuel',p',a,b,c,e,f⟩:=Qee r q n d h5 h
      exact ⟨g',t',cs',fuel',p',a,b,c,e,fun x hx=>List.mem_append_right _ (f x hx)⟩
theorem QeV {P : Program} {w:World} {laid:List (String×DataW Unit)} {n:String} {k:IntKind} {zs:List Int} {g:Nat} {t e:TypeId} {m:Nat} (h:laidMet P laid w) (hm:(n,Lib.tabData k zs)∈laid)
    (hg:P.globalNamed n=some g) (hty:(P.globals[g]?).map (·.type)=some t) (ht:P.underlying t=some (.array m e)) (he:P.underlying e=some (.int k)) (hce:P.cellsOf e=1) (hct:P.cellsOf t=m) (h0:0<zs.length) :
    ∃ t,w.heap[g]? = some (.cells (ints k zs) t):=by
  obtain ⟨ps,hL,-,hC⟩:=h
  obtain ⟨g',t',cs,fuel,p,hg',ht',hvar,hd,hin⟩:=Qee _ _ _ _ hL hm
  obtain rfl:=Option.some.inj (hg.symm.trans hg')
  obtain rfl:=Option.some.inj (hty.symm.trans ht')
  have hcs:=Lib.cells_of_tab ht he hce hct hd
  have hsz:0<cs.size:=by rw [←Array.length_toList,hcs,List.length_map]; exact h0
  obtain ⟨⟨c,t2,hc⟩,-⟩:=hC g 0 (hin _ (List.mem_map.2 ⟨0,List.mem_range.2 hsz,rfl⟩))
  unfold World.var? at hvar
  rw [hg] at hvar
  simp only [Option.bind_some,hc,Option.some.injEq] at hvar
  subst hvar
  refine ⟨t2,hc.trans ?_⟩
  rw [show c=ints k zs from by rw [ints,←hcs]]
end Go.Proofs.YthfkppjajmjpnaaDoor.Auto
end
section
namespace Go.Proofs.YthfkppjajmjpnaaDoor.Te
open Go Go.RowKit
open Rely Auto Own Sha
open Go.WideShapes Go.ChangeShapes Go.ChangeAt Go.Deep
open Go.Proofs.YthfkppjajmjpnaaDoor
section
variable {H : Type} {enc : TypeId × Value → H} {P : Program} {w : World} {b0 : Nat} {held : Bool}
theorem QiI (x : Addr) (i j:Nat):(x.add i).add j=x.add (i+j):=by
  by_cases hi:i=0 <;> by_cases hj:j=0 <;> simp [Addr.add,hi,hj,Nat.add_assoc]
theorem open_tree {t s e5 e3:TypeId} {f0 f1 f2 f3 f4 f5:Field} {ad:Option Addr} {len cap:Nat} {d:DataW H} {p:List MemPlace} (hs:P.underlying t=some (.slice s)) (hss:P.underlying s=some (.struct #[f0,f1,f2,f3,f4,f5]))
    (ho:f0.offset=0∧f1.offset=1∧f2.offset=1+1∧f3.offset=1+1+32∧f4.offset=1+1+32+32∧f5.offset=1+1+32+32+32) (hc:P.cellsOf f0.type=1∧P.cellsOf f1.type=1∧P.cellsOf f2.type=32∧P.cellsOf f3.type=32∧P.cellsOf f4.type=32∧P.cellsOf f5.type=1) (hC:P.cellsOf s=1+1+32+32+32+1)
    (h0:P.underlying f0.type=some .bool) (h1:P.underlying f1.type=some (.int .i64)) (h2:P.underlying f2.type=some (.array 32 e5)) (h3:P.underlying f3.type=some (.array 32 e5)) (h4:P.underlying f4.type=some (.array 32 e5)) (h5:P.underlying f5.type=some (.slice e3))
    (he5:P.underlying e5=some (.int .u8)) (hc5:P.cellsOf e5=1) (he3:P.underlying e3=some (.int .i64)) (hc3:P.cellsOf e3=1)
    (h:DataW.Trod enc P w b0 (fun _=>true) held t (.slice ad len cap) d p) :
    ∃ ts:List NdV,ts.length=len∧TrAt w.heap.size w ad ts∧∀ n∈ts,NdOk n.n:=by
  obtain ⟨fuel,hf⟩:=h
  rcases DataW.trod_slice hs hf with ⟨hcs',-⟩ | ⟨x,l,c,elems,rest,n,-,hcs',-,hb,hl,hmx,hlen,hel,-,-⟩
  · simp [Value.cells] at hcs'
    obtain ⟨rfl,rfl,rfl⟩:=hcs'
    exact ⟨[],rfl,⟨0,0,fun h=>absurd h (by decide),fun i hi=>absurd hi (Nat.not_lt_zero _)⟩,fun n hn=>by cases hn⟩
  · simp [Value.cells] at hcs'
    obtain ⟨rfl,rfl,rfl⟩:=hcs'
    have key:∀ i,i<len→∃ n:NdV,(∀ j u,(cat (ndP n))[j]? = some u→w.cell? (x.add (i*99+j))=some u)∧RdK .i64 w.heap.size n.n.ms (.slice n.a n.n.ms.length n.c) w∧NdOk n.n:=fun i hi=>by
      have h9:=hel i hi
      rw [hC,List.getElem?_eq_getElem (by omega)] at h9
      obtain ⟨cs,hc1,hc2⟩:=Option.bind_eq_some_iff.1 h9
      obtain ⟨hn,q1,q2⟩:=World.cells?_some hc1
      obtain ⟨X0,X1,X2,X3,X4,X5,y0,y1,y2,y3,y4,y5,m,hcs,t0,t1,t2,t3,t4,t5⟩:=Auto.sub_st6 hss ho hc hC hc2
      obtain ⟨us,rfl,-⟩:=DataW.trod_bool h0 t0
      obtain ⟨nm,rfl,-,-⟩:=DataW.trod_int h1 t1
      obtain ⟨key,rfl,hkl,hkb⟩:=Auto.open_raw h2 he5 hc5 hc.2.2.1 t2
      obtain ⟨sg,rfl,hgl,hgb⟩:=Auto.open_raw h3 he5 hc5 hc.2.2.2.1 t3
      obtain ⟨pa,rfl,hpl,hpb⟩:=Auto.open_raw h4 he5 hc5 hc.2.2.2.2.1 t4
      have fin:∀ (a:Option Addr) (ms:List Int) (c:Nat),X5=[.slice a ms.length c]→RdK .i64 w.heap.size ms (.slice a ms.length c) w→∃ n:NdV,(∀ j u,(cat (ndP n))[j]? = some u→w.cell? (x.add (i*99+j))=some u)∧RdK .i64 w.heap.size n.n.ms (.slice n.a n.n.ms.length n.c) w∧NdOk n.n:=fun a ms c e r=>by
        refine ⟨⟨⟨us,nm,key,sg,pa,ms⟩,a,c⟩,fun j u hu=>?_,r,⟨hkl,hgl,hpl,hkb,hgb,hpb⟩⟩
        have e9:(cat (ndP ⟨⟨us,nm,key,sg,pa,ms⟩,a,c⟩)).toList=cs:=by
          rw [hcs,e]
          unfold ndP
          simp [cat,Rely.ints]
        rw [←Array.getElem?_toList,e9] at hu
        have hj:j<99:=by have:=(List.getElem?_eq_some_iff.1 hu).1; omega
        have:=q2 j hj
        rw [QiI] at this
        rw [this]; exact hu
      rcases open_ints h5 he3 hc3 t5 with ⟨hcv,-⟩ | ⟨y,l,cc,zs,hcv,-,hl2,hm2,hz2,-,hcell,hwz⟩
      · exact fin none [] 0 hcv ⟨none,0,rfl,qR _,Nat.zero_le _,fun _=>rfl,.inl rfl⟩
      · obtain ⟨r,rl,rf⟩:=Auto.rdK_of_row (k:=.i64) (w:=w) (a:=some y) (len:=l) (cap:=cc) (zs:=zs) (.inr ⟨y,rfl,hl2,hm2,by simpa using hz2,hcell,hwz⟩)
        refine fin (some y) (zs.take l) cc (by rw [rl]; exact hcv) ?_
        rw [rl]; exact r
    rcases Nat.eq_zero_or_pos len with h0' | h0'
    · subst h0'
      exact ⟨[],rfl,⟨0,0,fun h=>absurd h (by decide),fun i hi=>absurd hi (Nat.not_lt_zero _)⟩,fun n hn=>by cases hn⟩
    obtain ⟨b,off,spot⟩:=x
    have first:∀ n:NdV,(cat (ndP n))[0]? = some (.bool n.n.us):=fun n=>by
      unfold ndP
      show (#[Value.bool n.n.us]++cat _)[0]? = _
      rw [Array.getElem?_append_left (show 0<1 by decide)]
      rfl
    obtain ⟨n0,hq,-⟩:=key 0 h0'
    have hq0:=hq 0 _ (first n0)
    have hspot:spot=none:=by simpa [Addr.add] using World.cell?_spot hq0
    subst hspot
    rw [WideShapes.add_plain] at hq0
    have hlt:b<w.heap.size:=Qe2 hq0
    have all:∀ m,m≤len→∃ ts:List NdV,ts.length=m∧∀ i,i<m→NdAt w.heap.size w b (off+i*99) (ndi ts i):=by
      intro m
      induction m with
      | zero=>exact fun _=>⟨[],rfl,fun i hi=>absurd hi (Nat.not_lt_zero _)⟩
      | succ m ih =>
        intro hm
        obtain ⟨ts,htl,hts⟩:=ih (by omega)
        obtain ⟨n,k1,k2,k3⟩:=key m (by omega)
        refine ⟨ts++[n],by rw [List.length_append,htl]; rfl,fun i hi=>?_⟩
        have e:ndi (ts++[n]) i=if i<m then ndi ts i else n:=by
          unfold ndi
          rw [List.getD_eq_getElem?_getD,List.getD_eq_getElem?_getD]
          split
          · rename_i h; rw [List.getElem?_append_left (by omega)]
          · rename_i h
            rw [List.getElem?_append_right (by omega),show i-ts.length=0 by omega]; rfl
        rw [e]
        split
        · rename_i h; exact hts i h
        · rename_i h
          obtain rfl:i=m:=by omega
          exact ⟨hlt,hlt,fun j u hu=>by have:=k1 j u hu; rw [WideShapes.add_plain] at this; rw [Nat.add_assoc]; exact this,k2,k3⟩
    obtain ⟨ts,htl,hts⟩:=all len (qR _)
    refine ⟨ts,htl,⟨b,off,fun _=>rfl,fun i hi=>hts i (by omega)⟩,fun n hn=>?_⟩
    obtain ⟨i,hi,e⟩:=List.mem_iff_getElem.1 hn
    have:=(hts i (by omega)).ok
    unfold ndi at this
    rw [List.getD_eq_getElem?_getD,List.getElem?_eq_getElem hi] at this
    rw [←e]; exact this
end
end Go.Proofs.YthfkppjajmjpnaaDoor.Te
end
