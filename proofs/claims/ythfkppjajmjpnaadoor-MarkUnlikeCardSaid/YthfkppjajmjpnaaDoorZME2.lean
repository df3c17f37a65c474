/- Texts of this claim, joined (ME2). -/
import Derived.Test.YthfkppjajmjpnaaDoorZME1
import Derived.Shelf.Spec.SlicesInsertGrow
import Derived.Shelf.Slices.SearchI
import Derived.Shelf.Slices.Empties

set_option linter.unusedVariables false
set_option linter.unusedSimpArgs false
set_option maxHeartbeats 4000000
section
namespace Go.Proofs.YthfkppjajmjpnaaDoor.Te
open Go Go.RowKit
open Rely Auto Own Seat Sha
def msOk (ts : List NdV) (n x:Int) (ms:List Int) (k:Nat):Bool:=(k==0 || decide (nth ms (k-1)<nth ms k))&&Qbg ts n x (nth ms k)
def Qbq (ts : List NdV) (n:Int) (x:Nat):Bool:=if x%2=0 then QbJ (ndi ts x).n else decide ((ndi ts x).n.nm=0)&&decide ((ndi ts x).n.sg=List.replicate 32 0)&&(List.range (ndi ts x).n.ms.length).all fun k=>msOk ts n ((x:Nat):Int) (ndi ts x).n.ms k
theorem QcF {ts : List NdV} {n:Int} {x:Nat} (h:x%2=0):Qbq ts n x=QbJ (ndi ts x).n:=by unfold Qbq; rw [if_pos h]
theorem Qgn {ts : List NdV} {n:Int} {x:Nat} (h:x%2≠0) (h1:(ndi ts x).n.nm≠0):Qbq ts n x=false:=by unfold Qbq; rw [if_neg h,decide_eq_false h1]; rfl
theorem Qgm {ts : List NdV} {n:Int} {x:Nat} (h:x%2≠0) (h1:(ndi ts x).n.sg≠List.replicate 32 0):Qbq ts n x=false:=by unfold Qbq; rw [if_neg h,decide_eq_false h1]; simp
theorem Qbn {ts : List NdV} {n:Int} {x:Nat} (h:x%2≠0) (h1:(ndi ts x).n.nm=0) (h2:(ndi ts x).n.sg=List.replicate 32 0):Qbq ts n x=(List.range (ndi ts x).n.ms.length).all fun k=>msOk ts n ((x:Nat):Int) (ndi ts x).n.ms k:=by unfold Qbq; rw [if_neg h,decide_eq_true h1,decide_eq_true h2]; rfl
theorem Qg0 {p : Nat→Bool} {n:Nat} (h:∀ j,j<n→p j=true):(List.range n).all p=true:=List.all_eq_true.2 fun j hj=>h j (List.mem_range.1 hj)
theorem QcV {p : Nat→Bool} {n k:Nat} (hk:k<n) (h:p k=false):(List.range n).all p=false:=List.all_eq_false.2 ⟨k,List.mem_range.2 hk,by rw [h]; decide⟩
theorem QaS {x L:Nat} (hTr:QaG ((L:Nat):Int)=true) (h:x+1<2*L):Qa2 ((x:Nat):Int) ((L:Nat):Int)=true:=by unfold Qa2; rw [hTr]; simp; omega
set_option maxRecDepth 100000 in
theorem Qka (ts : List NdV) (a_t:Option Addr) (c_t B1:Nat) (w:World) (ht:TrAt B1 w a_t ts) (L:Nat) (hL:leaves ((ts.length:Nat):Int)=((L:Nat):Int)) (hlen:ts.length+1=2*L) (hTr:QaG ((L:Nat):Int)=true) (hmt:∀ i,i<ts.length→(ndi ts i).n.ms.length≤1000000) (x:Nat) (hx:x<ts.length) (hT:TabAt w) (h:x%2=0):Calls Tryd.prog 47 #[.slice a_t ts.length c_t,.int .i64 ((x:Nat):Int)] w (Ret w (.bool (Qbq ts ((L:Nat):Int) x))):=by
  have hxn:Qa2 ((x:Nat):Int) ((L:Nat):Int)=true:=QaS hTr (by omega)
  refine enter 54 [(0,.slice a_t ts.length c_t),(1,.int .i64 ((x:Nat):Int))] Tryd.func47 rfl rfl kj rfl ?_
  refine wp_seq_k fun K1 hK1=>?_
  refine Qab ?_
  refine Qaa (.bool false) 4 rfl kj kj ?_
  refine Qaf ?_
  refine hK1 _ _ ?_
  refine wp_seq_k fun K2 hK2=>?_
  refine Qab ?_
  refine Qaa (.slice a_t ts.length c_t) 8 rfl kj kj ?_
  refine Qaa (.int .i64 ((x:Nat):Int)) 9 rfl kj kj ?_
  obtain ⟨gtT,otT,hat,hnts⟩:=TrAt.ext ht (Rely.Ext.refl w)
  have hnt:=hnts x (by omega)
  obtain ⟨nt,ent⟩:∃ z,z=ndi ts x:=⟨_,rfl⟩
  rw [←ent] at hnt
  have okt:=hnt.ok
  have rdt:=hnt.rd
  refine Qaa (.pointer (some ⟨gtT,otT+x*99,none⟩)) 10 rfl kj (Qap 23 _ _ .i64 x gtT otT ts.length c_t 50 99 a_t (hat (by omega)) rfl kj kj kj kj (by omega)) ?_
  refine Qaa (.agg (cat [#[.bool nt.n.us],#[.int .i64 nt.n.nm],ints .u8 (nt.n.key),ints .u8 (nt.n.sg),ints .u8 (nt.n.pa),#[.slice nt.a nt.n.ms.length nt.c]])) 11 rfl kj (QaH 50 _ gtT (otT+x*99) nt hnt rfl kj kj kj) ?_
  refine Qan (cat [#[.bool false],#[.int .i64 0],ints .u8 (List.replicate 32 0),ints .u8 (List.replicate 32 0),ints .u8 (List.replicate 32 0),#[.slice none 0 0]]) 50 5 rfl kj kj fun g3 W1 l3 e1 r3_1=>?_
  have x1:Ext w W1:=Ext.tr (Rely.Ext.refl w) e1
  have b3:w.heap.size≤g3:=qT (Rely.Ext.refl w).size l3
  refine Qau g3 _ (cat [#[.bool nt.n.us],#[.int .i64 nt.n.nm],ints .u8 (nt.n.key),ints .u8 (nt.n.sg),ints .u8 (nt.n.pa),#[.slice nt.a nt.n.ms.length nt.c]]) 50 r3_1 rfl kj (Qas 50 _ _ g3 50 _ _ r3_1 rfl kj kj (isz (n:=99) kj (by rw [Qac,Qac,Qac,Qac,Qac,Qac]; simp only [qS,cat,((Qae _ _).trans okt.gl),((Qae _ _).trans okt.kl),((Qae _ _).trans okt.pl)]; rfl)) (eqsz (n:=99) (by rw [Qac,Qac,Qac,Qac,Qac,Qac]; simp only [qS,cat,((Qae _ _).trans (qZ (n:=32)))]; rfl) (by rw [Qac,Qac,Qac,Qac,Qac,Qac]; simp only [qS,cat,((Qae _ _).trans okt.gl),((Qae _ _).trans okt.kl),((Qae _ _).trans okt.pl)]; rfl)) (Qbm _ (by intro a ha; simp only [List.mem_cons,List.not_mem_nil,or_false] at ha; rcases ha with rfl | rfl | rfl | rfl | rfl | rfl; exact (Qa7 _ rfl); exact (Qa7 _ rfl); exact (Qaw _ _); exact (Qaw _ _); exact (Qaw _ _); exact (Qa7 _ rfl)))) fun W2 p2 r3_2=>?_
  have x2:Ext w W2:=Puts.ext p2 x1 b3
  refine Qaf ?_
  refine hK2 _ _ ?_
  refine wp_seq_k fun K4 hK4=>?_
  refine wp_seq_k fun K5 hK5=>?_
  refine Qab ?_
  refine Qaa (.int .i64 ((x:Nat):Int)) 12 rfl kj kj ?_
  refine Qaa (.int .i64 ((x%2:Nat):Int)) 13 rfl kj (Qai (u:=.int .i64 (Int.tmod (((x:Nat):Int)) (2))) kj (congrArg (Value.int .i64) (Qbl _ 2))) ?_
  refine Qaa (.bool true) 14 rfl kj (Qai (u:=.bool ((((x%2:Nat):Int)==0))) kj (congrArg Value.bool (beq_iff_eq.2 (by omega)))) ?_
  refine Qaf ?_
  refine hK5 _ _ ?_
  refine cond_true kj ?_
  refine wp_seq_k fun K6 hK6=>?_
  refine Qab ?_
  refine Qaa (.agg (cat [#[.bool nt.n.us],#[.int .i64 nt.n.nm],ints .u8 (nt.n.key),ints .u8 (nt.n.sg),ints .u8 (nt.n.pa),#[.slice nt.a nt.n.ms.length nt.c]])) 15 rfl kj (Qa4 50 _ g3 50 _ _ r3_2 rfl kj kj (isz (n:=99) kj (by rw [Qac,Qac,Qac,Qac,Qac,Qac]; simp only [qS,cat,((Qae _ _).trans okt.gl),((Qae _ _).trans okt.kl),((Qae _ _).trans okt.pl)]; rfl))) ?_
  refine Qal (.bool (QbJ nt.n)) 64 #[.agg (cat [#[.bool nt.n.us],#[.int .i64 nt.n.nm],ints .u8 (nt.n.key),ints .u8 (nt.n.sg),ints .u8 (nt.n.pa),#[.slice nt.a nt.n.ms.length nt.c]])] 16 rfl kj kj (QlE nt okt _) fun W3 e3=>?_
  have x3:Ext w W3:=Ext.tr x2 e3
  refine Qaa (.bool (QbJ nt.n)) 4 rfl kj kj ?_
  refine Qaf ?_
  refine hK6 _ _ ?_
  refine wp_ret ?_
  repeat (first | with_reducible refine goR1 ?_ | with_reducible refine goR2 ?_)
  exact (show bodyPost _ _ _ .ret _ _ from ret1 (.bool (QbJ nt.n)) rfl (Qaq kj) ⟨congrArg (fun z=>Ending.returned (.bool z)) (by rw [QcF h,←ent]),x3⟩)
set_option maxRecDepth 100000 in
theorem QjX (ts : List NdV) (a_t:Option Addr) (c_t B1:Nat) (w:World) (ht:TrAt B1 w a_t ts) (L:Nat) (hL:leaves ((ts.length:Nat):Int)=((L:Nat):Int)) (hlen:ts.length+1=2*L) (hTr:QaG ((L:Nat):Int)=true) (hmt:∀ i,i<ts.length→(ndi ts i).n.ms.length≤1000000) (x:Nat) (hx:x<ts.length) (hT:TabAt w) (h:x%2≠0) (h1:(ndi ts x).n.nm≠0):Calls Tryd.prog 47 #[.slice a_t ts.length c_t,.int .i64 ((x:Nat):Int)] w (Ret w (.bool (Qbq ts ((L:Nat):Int) x))):=by
  have hxn:Qa2 ((x:Nat):Int) ((L:Nat):Int)=true:=QaS hTr (by omega)
  refine enter 54 [(0,.slice a_t ts.length c_t),(1,.int .i64 ((x:Nat):Int))] Tryd.func47 rfl rfl kj rfl ?_
  refine wp_seq_k fun K1 hK1=>?_
  refine Qab ?_
  refine Qaa (.bool false) 4 rfl kj kj ?_
  refine Qaf ?_
  refine hK1 _ _ ?_
  refine wp_seq_k fun K2 hK2=>?_
  refine Qab ?_
  refine Qaa (.slice a_t ts.length c_t) 8 rfl kj kj ?_
  refine Qaa (.int .i64 ((x:Nat):Int)) 9 rfl kj kj ?_
  obtain ⟨gtT,otT,hat,hnts⟩:=TrAt.ext ht (Rely.Ext.refl w)
  have hnt:=hnts x (by omega)
  obtain ⟨nt,ent⟩:∃ z,z=ndi ts x:=⟨_,rfl⟩
  rw [←ent] at hnt
  have okt:=hnt.ok
  have rdt:=hnt.rd
  refine Qaa (.pointer (some ⟨gtT,otT+x*99,none⟩)) 10 rfl kj (Qap 23 _ _ .i64 x gtT otT ts.length c_t 50 99 a_t (hat (by omega)) rfl kj kj kj kj (by omega)) ?_
  refine Qaa (.agg (cat [#[.bool nt.n.us],#[.int .i64 nt.n.nm],ints .u8 (nt.n.key),ints .u8 (nt.n.sg),ints .u8 (nt.n.pa),#[.slice nt.a nt.n.ms.length nt.c]])) 11 rfl kj (QaH 50 _ gtT (otT+x*99) nt hnt rfl kj kj kj) ?_
  refine Qan (cat [#[.bool false],#[.int .i64 0],ints .u8 (List.replicate 32 0),ints .u8 (List.replicate 32 0),ints .u8 (List.replicate 32 0),#[.slice none 0 0]]) 50 5 rfl kj kj fun g3 W1 l3 e1 r3_1=>?_
  have x1:Ext w W1:=Ext.tr (Rely.Ext.refl w) e1
  have b3:w.heap.size≤g3:=qT (Rely.Ext.refl w).size l3
  refine Qau g3 _ (cat [#[.bool nt.n.us],#[.int .i64 nt.n.nm],ints .u8 (nt.n.key),ints .u8 (nt.n.sg),ints .u8 (nt.n.pa),#[.slice nt.a nt.n.ms.length nt.c]]) 50 r3_1 rfl kj (Qas 50 _ _ g3 50 _ _ r3_1 rfl kj kj (isz (n:=99) kj (by rw [Qac,Qac,Qac,Qac,Qac,Qac]; simp only [qS,cat,((Qae _ _).trans okt.gl),((Qae _ _).trans okt.kl),((Qae _ _).trans okt.pl)]; rfl)) (eqsz (n:=99) (by rw [Qac,Qac,Qac,Qac,Qac,Qac]; simp only [qS,cat,((Qae _ _).trans (qZ (n:=32)))]; rfl) (by rw [Qac,Qac,Qac,Qac,Qac,Qac]; simp only [qS,cat,((Qae _ _).trans okt.gl),((Qae _ _).trans okt.kl),((Qae _ _).trans okt.pl)]; rfl)) (Qbm _ (by intro a ha; simp only [List.mem_cons,List.not_mem_nil,or_false] at ha; rcases ha with rfl | rfl | rfl | rfl | rfl | rfl; exact (Qa7 _ rfl); exact (Qa7 _ rfl); exact (Qaw _ _); exact (Qaw _ _); exact (Qaw _ _); exact (Qa7 _ rfl)))) fun W2 p2 r3_2=>?_
  have x2:Ext w W2:=Puts.ext p2 x1 b3
  refine Qaf ?_
  refine hK2 _ _ ?_
  refine wp_seq_k fun K4 hK4=>?_
  refine wp_seq_k fun K5 hK5=>?_
  refine Qab ?_
  refine Qaa (.int .i64 ((x:Nat):Int)) 12 rfl kj kj ?_
  refine Qaa (.int .i64 ((x%2:Nat):Int)) 13 rfl kj (Qai (u:=.int .i64 (Int.tmod (((x:Nat):Int)) (2))) kj (congrArg (Value.int .i64) (Qbl _ 2))) ?_
  refine Qaa (.bool false) 14 rfl kj (Qai (u:=.bool ((((x%2:Nat):Int)==0))) kj (congrArg Value.bool (beq_eq_false_iff_ne.2 (by omega)))) ?_
  refine Qaf ?_
  refine hK5 _ _ ?_
  refine cond_false kj ?_
  refine wp_skip ?_
  refine hK4 _ _ ?_
  refine wp_seq_k fun K6 hK6=>?_
  refine wp_seq_k fun K7 hK7=>?_
  refine Qab ?_
  refine Qaa (.pointer (some ⟨g3,1,none⟩)) 17 rfl kj kj ?_
  refine Qaa (.int .i64 nt.n.nm) 18 rfl kj (Qag 3 _ g3 1 50 _ (.int .i64 nt.n.nm) _ r3_2 rfl kj (Qaj [#[.bool nt.n.us]] [#[.int .i64 nt.n.nm]] [ints .u8 (nt.n.key),ints .u8 (nt.n.sg),ints .u8 (nt.n.pa),#[.slice nt.a nt.n.ms.length nt.c]] 1 kj 0 _ rfl) kj) ?_
  refine Qaa (.bool true) 19 rfl kj (Qai (u:=.bool ((nt.n.nm != 0))) kj (congrArg Value.bool (bne_iff_ne.2 (ent▸h1)))) ?_
  refine Qaa (.bool true) 20 rfl kj kj ?_
  refine Qad 21 rfl kj ?_
  refine Qad 22 rfl kj ?_
  refine Qad 23 rfl kj ?_
  refine Qad 24 rfl kj ?_
  refine Qaa (.bool true) 25 rfl kj kj ?_
  refine Qaf ?_
  refine hK7 _ _ ?_
  refine cond_true kj ?_
  refine wp_seq_k fun K8 hK8=>?_
  refine Qab ?_
  refine Qaa (.bool false) 4 rfl kj kj ?_
  refine Qaf ?_
  refine hK8 _ _ ?_
  refine wp_ret ?_
  repeat (first | with_reducible refine goR1 ?_ | with_reducible refine goR2 ?_)
  exact (show bodyPost _ _ _ .ret _ _ from ret1 (.bool false) rfl (Qaq kj) ⟨congrArg (fun z=>Ending.returned (.bool z)) (Qgn h h1).symm,x2⟩)
set_option maxRecDepth 100000 in
theorem QjZ (ts : List NdV) (a_t:Option Addr) (c_t B1:Nat) (w:World) (ht:TrAt B1 w a_t ts) (L:Nat) (hL:leaves ((ts.length:Nat):Int)=((L:Nat):Int)) (hlen:ts.length+1=2*L) (hTr:QaG ((L:Nat):Int)=true) (hmt:∀ i,i<ts.length→(ndi ts i).n.ms.length≤1000000) (x:Nat) (hx:x<ts.length) (hT:TabAt w) (h:x%2≠0) (h1:(ndi ts x).n.nm=0) (h2:(ndi ts x).n.sg≠List.replicate 32 0):Calls Tryd.prog 47 #[.slice a_t ts.length c_t,.int .i64 ((x:Nat):Int)] w (Ret w (.bool (Qbq ts ((L:Nat):Int) x))):=by
  have hxn:Qa2 ((x:Nat):Int) ((L:Nat):Int)=true:=QaS hTr (by omega)
  refine enter 54 [(0,.slice a_t ts.length c_t),(1,.int .i64 ((x:Nat):Int))] Tryd.func47 rfl rfl kj rfl ?_
  refine wp_seq_k fun K1 hK1=>?_
  refine Qab ?_
  refine Qaa (.bool false) 4 rfl kj kj ?_
  refine Qaf ?_
  refine hK1 _ _ ?_
  refine wp_seq_k fun K2 hK2=>?_
  refine Qab ?_
  refine Qaa (.slice a_t ts.length c_t) 8 rfl kj kj ?_
  refine Qaa (.int .i64 ((x:Nat):Int)) 9 rfl kj kj ?_
  obtain ⟨gtT,otT,hat,hnts⟩:=TrAt.ext ht (Rely.Ext.refl w)
  have hnt:=hnts x (by omega)
  obtain ⟨nt,ent⟩:∃ z,z=ndi ts x:=⟨_,rfl⟩
  rw [←ent] at hnt
  have okt:=hnt.ok
  have rdt:=hnt.rd
  refine Qaa (.pointer (some ⟨gtT,otT+x*99,none⟩)) 10 rfl kj (Qap 23 _ _ .i64 x gtT otT ts.length c_t 50 99 a_t (hat (by omega)) rfl kj kj kj kj (by omega)) ?_
  refine Qaa (.agg (cat [#[.bool nt.n.us],#[.int .i64 nt.n.nm],ints .u8 (nt.n.key),ints .u8 (nt.n.sg),ints .u8 (nt.n.pa),#[.slice nt.a nt.n.ms.length nt.c]])) 11 rfl kj (QaH 50 _ gtT (otT+x*99) nt hnt rfl kj kj kj) ?_
  refine Qan (cat [#[.bool false],#[.int .i64 0],ints .u8 (List.replicate 32 0),ints .u8 (List.replicate 32 0),ints .u8 (List.replicate 32 0),#[.slice none 0 0]]) 50 5 rfl kj kj fun g3 W1 l3 e1 r3_1=>?_
  have x1:Ext w W1:=Ext.tr (Rely.Ext.refl w) e1
  have b3:w.heap.size≤g3:=qT (Rely.Ext.refl w).size l3
  refine Qau g3 _ (cat [#[.bool nt.n.us],#[.int .i64 nt.n.nm],ints .u8 (nt.n.key),ints .u8 (nt.n.sg),ints .u8 (nt.n.pa),#[.slice nt.a nt.n.ms.length nt.c]]) 50 r3_1 rfl kj (Qas 50 _ _ g3 50 _ _ r3_1 rfl kj kj (isz (n:=99) kj (by rw [Qac,Qac,Qac,Qac,Qac,Qac]; simp only [qS,cat,((Qae _ _).trans okt.gl),((Qae _ _).trans okt.kl),((Qae _ _).trans okt.pl)]; rfl)) (eqsz (n:=99) (by rw [Qac,Qac,Qac,Qac,Qac,Qac]; simp only [qS,cat,((Qae _ _).trans (qZ (n:=32)))]; rfl) (by rw [Qac,Qac,Qac,Qac,Qac,Qac]; simp only [qS,cat,((Qae _ _).trans okt.gl),((Qae _ _).trans okt.kl),((Qae _ _).trans okt.pl)]; rfl)) (Qbm _ (by intro a ha; simp only [List.mem_cons,List.not_mem_nil,or_false] at ha; rcases ha with rfl | rfl | rfl | rfl | rfl | rfl; exact (Qa7 _ rfl); exact (Qa7 _ rfl); exact (Qaw _ _); exact (Qaw _ _); exact (Qaw _ _); exact (Qa7 _ rfl)))) fun W2 p2 r3_2=>?_
  have x2:Ext w W2:=Puts.ext p2 x1 b3
  refine Qaf ?_
  refine hK2 _ _ ?_
  refine wp_seq_k fun K4 hK4=>?_
  refine wp_seq_k fun K5 hK5=>?_
  refine Qab ?_
  refine Qaa (.int .i64 ((x:Nat):Int)) 12 rfl kj kj ?_
  refine Qaa (.int .i64 ((x%2:Nat):Int)) 13 rfl kj (Qai (u:=.int .i64 (Int.tmod (((x:Nat):Int)) (2))) kj (congrArg (Value.int .i64) (Qbl _ 2))) ?_
  refine Qaa (.bool false) 14 rfl kj (Qai (u:=.bool ((((x%2:Nat):Int)==0))) kj (congrArg Value.bool (beq_eq_false_iff_ne.2 (by omega)))) ?_
  refine Qaf ?_
  refine hK5 _ _ ?_
  refine cond_false kj ?_
  refine wp_skip ?_
  refine hK4 _ _ ?_
  refine wp_seq_k fun K6 hK6=>?_
  refine wp_seq_k fun K7 hK7=>?_
  refine Qab ?_
  refine Qaa (.pointer (some ⟨g3,1,none⟩)) 17 rfl kj kj ?_
  refine Qaa (.int .i64 nt.n.nm) 18 rfl kj (Qag 3 _ g3 1 50 _ (.int .i64 nt.n.nm) _ r3_2 rfl kj (Qaj [#[.bool nt.n.us]] [#[.int .i64 nt.n.nm]] [ints .u8 (nt.n.key),ints .u8 (nt.n.sg),ints .u8 (nt.n.pa),#[.slice nt.a nt.n.ms.length nt.c]] 1 kj 0 _ rfl) kj) ?_
  refine Qaa (.bool false) 19 rfl kj (Qai (u:=.bool ((nt.n.nm != 0))) kj (congrArg Value.bool (bne_eq_false_iff_eq.2 (ent▸h1)))) ?_
  refine Qaa (.bool false) 20 rfl kj kj ?_
  refine Qaa (.pointer (some ⟨g3,34,none⟩)) 21 rfl kj kj ?_
  refine Qaa (.agg (ints .u8 (nt.n.sg))) 22 rfl kj (Qao 48 _ g3 34 50 _ _ _ r3_2 rfl kj (Qaj [#[.bool nt.n.us],#[.int .i64 nt.n.nm],ints .u8 (nt.n.key)] [ints .u8 (nt.n.sg)] [ints .u8 (nt.n.pa),#[.slice nt.a nt.n.ms.length nt.c]] 34 (by rw [Qac,Qac,Qac]; simp only [qS,cat,((Qae _ _).trans okt.kl)]; rfl)) kj (isz (n:=32) kj ((Qae _ _).trans okt.gl))) ?_
  refine Qaa (.agg (ints .u8 (List.replicate 32 0))) 23 rfl kj kj ?_
  refine Qaa (.bool true) 24 rfl kj (QaM 48 _ _ _ _ _ (.bool true) rfl kj kj kj (QaV 48 (e:=5) (k:=.u8) (nt.n.sg) (List.replicate 32 0) (decide_eq_false (ent▸h2)) okt.gl (qZ (n:=32)) kj kj kj _)) ?_
  refine Qaa (.bool true) 25 rfl kj kj ?_
  refine Qaf ?_
  refine hK7 _ _ ?_
  refine cond_true kj ?_
  refine wp_seq_k fun K8 hK8=>?_
  refine Qab ?_
  refine Qaa (.bool false) 4 rfl kj kj ?_
  refine Qaf ?_
  refine hK8 _ _ ?_
  refine wp_ret ?_
  repeat (first | with_reducible refine goR1 ?_ | with_reducible refine goR2 ?_)
  exact (show bodyPost _ _ _ .ret _ _ from ret1 (.bool false) rfl (Qaq kj) ⟨congrArg (fun z=>Ending.returned (.bool z)) (Qgm h h2).symm,x2⟩)
set_option maxRecDepth 100000 in
theorem QjY (ts : List NdV) (a_t:Option Addr) (c_t B1:Nat) (w:World) (ht:TrAt B1 w a_t ts) (L:Nat) (hL:leaves ((ts.length:Nat):Int)=((L:Nat):Int)) (hlen:ts.length+1=2*L) (hTr:QaG ((L:Nat):Int)=true) (hmt:∀ i,i<ts.length→(ndi ts i).n.ms.length≤1000000) (x:Nat) (hx:x<ts.length) (hT:TabAt w) (h:x%2≠0) (h1:(ndi ts x).n.nm=0) (h2:(ndi ts x).n.sg=List.replicate 32 0):Calls Tryd.prog 47 #[.slice a_t ts.length c_t,.int .i64 ((x:Nat):Int)] w (Ret w (.bool (Qbq ts ((L:Nat):Int) x))):=by
 have hxn:Qa2 ((x:Nat):Int) ((L:Nat):Int)=true:=QaS hTr (by omega)
 refine enter 54 [(0,.slice a_t ts.length c_t),(1,.int .i64 ((x:Nat):Int))] Tryd.func47 rfl rfl kj rfl ?_
 refine wp_seq_k fun K1 hK1=>?_
 refine Qab ?_
 refine Qaa (.bool false) 4 rfl kj kj ?_
 refine Qaf ?_
 refine hK1 _ _ ?_
 refine wp_seq_k fun K2 hK2=>?_
 refine Qab ?_
 refine Qaa (.slice a_t ts.length c_t) 8 rfl kj kj ?_
 refine Qaa (.int .i64 ((x:Nat):Int)) 9 rfl kj kj ?_
 obtain ⟨gtT,otT,hat,hnts⟩:=TrAt.ext ht (Rely.Ext.refl w)
 have hnt:=hnts x (by omega)
 obtain ⟨nt,ent⟩:∃ z,z=ndi ts x:=⟨_,rfl⟩
 rw [←ent] at hnt
 have okt:=hnt.ok
 have rdt:=hnt.rd
 refine Qaa (.pointer (some ⟨gtT,otT+x*99,none⟩)) 10 rfl kj (Qap 23 _ _ .i64 x gtT otT ts.length c_t 50 99 a_t (hat (by omega)) rfl kj kj kj kj (by omega)) ?_
 refine Qaa (.agg (cat [#[.bool nt.n.us],#[.int .i64 nt.n.nm],ints .u8 (nt.n.key),ints .u8 (nt.n.sg),ints .u8 (nt.n.pa),#[.slice nt.a nt.n.ms.length nt.c]])) 11 rfl kj (QaH 50 _ gtT (otT+x*99) nt hnt rfl kj kj kj) ?_
 refine Qan (cat [#[.bool false],#[.int .i64 0],ints .u8 (List.replicate 32 0),ints .u8 (List.replicate 32 0),ints .u8 (List.replicate 32 0),#[.slice none 0 0]]) 50 5 rfl kj kj fun g3 W1 l3 e1 r3_1=>?_
 have x1:Ext w W1:=Ext.tr (Rely.Ext.refl w) e1
 have b3:w.heap.size≤g3:=qT (Rely.Ext.refl w).size l3
 refine Qau g3 _ (cat [#[.bool nt.n.us],#[.int .i64 nt.n.nm],ints .u8 (nt.n.key),ints .u8 (nt.n.sg),ints .u8 (nt.n.pa),#[.slice nt.a nt.n.ms.length nt.c]]) 50 r3_1 rfl kj (Qas 50 _ _ g3 50 _ _ r3_1 rfl kj kj (isz (n:=99) kj (by rw [Qac,Qac,Qac,Qac,Qac,Qac]; simp only [qS,cat,((Qae _ _).trans okt.gl),((Qae _ _).trans okt.kl),((Qae _ _).trans okt.pl)]; rfl)) (eqsz (n:=99) (by rw [Qac,Qac,Qac,Qac,Qac,Qac]; simp only [qS,cat,((Qae _ _).trans (qZ (n:=32)))]; rfl) (by rw [Qac,Qac,Qac,Qac,Qac,Qac]; simp only [qS,cat,((Qae _ _).trans okt.gl),((Qae _ _).trans okt.kl),((Qae _ _).trans okt.pl)]; rfl)) (Qbm _ (by intro a ha; simp only [List.mem_cons,List.not_mem_nil,or_false] at ha; rcases ha with rfl | rfl | rfl | rfl | rfl | rfl; exact (Qa7 _ rfl); exact (Qa7 _ rfl); exact (Qaw _ _); exact (Qaw _ _); exact (Qaw _ _); exact (Qa7 _ rfl)))) fun W2 p2 r3_2=>?_
 have x2:Ext w W2:=Puts.ext p2 x1 b3
 refine Qaf ?_
 refine hK2 _ _ ?_
 refine wp_seq_k fun K4 hK4=>?_
 refine wp_seq_k fun K5 hK5=>?_
 refine Qab ?_
 refine Qaa (.int .i64 ((x:Nat):Int)) 12 rfl kj kj ?_
 refine Qaa (.int .i64 ((x%2:Nat):Int)) 13 rfl kj (Qai (u:=.int .i64 (Int.tmod (((x:Nat):Int)) (2))) kj (congrArg (Value.int .i64) (Qbl _ 2))) ?_
 refine Qaa (.bool false) 14 rfl kj (Qai (u:=.bool ((((x%2:Nat):Int)==0))) kj (congrArg Value.bool (beq_eq_false_iff_ne.2 (by omega)))) ?_
 refine Qaf ?_
 refine hK5 _ _ ?_
 refine cond_false kj ?_
 refine wp_skip ?_
 refine hK4 _ _ ?_
 refine wp_seq_k fun K6 hK6=>?_
 refine wp_seq_k fun K7 hK7=>?_
 refine Qab ?_
 refine Qaa (.pointer (some ⟨g3,1,none⟩)) 17 rfl kj kj ?_
 refine Qaa (.int .i64 nt.n.nm) 18 rfl kj (Qag 3 _ g3 1 50 _ (.int .i64 nt.n.nm) _ r3_2 rfl kj (Qaj [#[.bool nt.n.us]] [#[.int .i64 nt.n.nm]] [ints .u8 (nt.n.key),ints .u8 (nt.n.sg),ints .u8 (nt.n.pa),#[.slice nt.a nt.n.ms.length nt.c]] 1 kj 0 _ rfl) kj) ?_
 refine Qaa (.bool false) 19 rfl kj (Qai (u:=.bool ((nt.n.nm != 0))) kj (congrArg Value.bool (bne_eq_false_iff_eq.2 (ent▸h1)))) ?_
 refine Qaa (.bool false) 20 rfl kj kj ?_
 refine Qaa (.pointer (some ⟨g3,34,none⟩)) 21 rfl kj kj ?_
 refine Qaa (.agg (ints .u8 (nt.n.sg))) 22 rfl kj (Qao 48 _ g3 34 50 _ _ _ r3_2 rfl kj (Qaj [#[.bool nt.n.us],#[.int .i64 nt.n.nm],ints .u8 (nt.n.key)] [ints .u8 (nt.n.sg)] [ints .u8 (nt.n.pa),#[.slice nt.a nt.n.ms.length nt.c]] 34 (by rw [Qac,Qac,Qac]; simp only [qS,cat,((Qae _ _).trans okt.kl)]; rfl)) kj (isz (n:=32) kj ((Qae _ _).trans okt.gl))) ?_
 refine Qaa (.agg (ints .u8 (List.replicate 32 0))) 23 rfl kj kj ?_
 refine Qaa (.bool false) 24 rfl kj (QaM 48 _ _ _ _ _ (.bool false) rfl kj kj kj (QaV 48 (e:=5) (k:=.u8) (nt.n.sg) (List.replicate 32 0) (decide_eq_true (ent▸h2)) okt.gl (qZ (n:=32)) kj kj kj _)) ?_
 refine Qaa (.bool false) 25 rfl kj kj ?_
 refine Qaf ?_
 refine hK7 _ _ ?_
 refine cond_false kj ?_
 refine wp_skip ?_
 refine hK6 _ _ ?_
 refine wp_seq_k fun K8 hK8=>?_
 refine wp_seq_k fun K9 hK9=>?_
 refine Qab ?_
 refine Qaa (.pointer (some ⟨g3,98,none⟩)) 26 rfl kj kj ?_
 refine Qaa (.slice nt.a nt.n.ms.length nt.c) 27 rfl kj (Qag 24 _ g3 98 50 _ (.slice nt.a nt.n.ms.length nt.c) _ r3_2 rfl kj (Qaj [#[.bool nt.n.us],#[.int .i64 nt.n.nm],ints .u8 (nt.n.key),ints .u8 (nt.n.sg),ints .u8 (nt.n.pa)] [#[.slice nt.a nt.n.ms.length nt.c]] [] 98 (by rw [Qac,Qac,Qac,Qac,Qac]; simp only [qS,cat,((Qae _ _).trans okt.gl),((Qae _ _).trans okt.kl),((Qae _ _).trans okt.pl)]; rfl) 0 _ rfl) kj) ?_
 refine Qaa (.int .i64 ((nt.n.ms.length:Nat):Int)) 28 rfl kj kj ?_
 refine Qaa (.int .i64 0) 29 rfl kj kj ?_
 refine Qaf ?_
 refine hK9 _ _ ?_
 refine wp_block ?_
 have hml:nt.n.ms.length≤1000000:=ent▸hmt x hx
 refine Qa0 (fun (s1:Nat)=>[(0,.slice a_t ts.length c_t),(1,.int .i64 ((x:Nat):Int)),(5,.pointer (some ⟨g3,0,none⟩)),(27,.slice nt.a nt.n.ms.length nt.c),(28,.int .i64 ((nt.n.ms.length:Nat):Int)),(29,.int .i64 ((s1:Nat):Int))]) (fun (s1:Nat) W=>(s1≤nt.n.ms.length)∧(∀ j,j<s1→msOk ts ((L:Nat):Int) ((x:Nat):Int) nt.n.ms j=true)∧(Ext W2 W)∧(Ext w W)) (fun (s1:Nat)=>nt.n.ms.length-s1) 0 ⟨rfl,rfl,rfl,rfl,rfl,rfl,trivial⟩ ⟨(Nat.zero_le _),(fun j hj=>absurd hj (Nat.not_lt_zero j)),(Rely.Ext.refl W2),x2⟩ fun s1 X1 V1 hI1=>?_
 obtain ⟨k,hs1⟩:∃ z,z=s1:=⟨_,rfl⟩
 subst hs1
 obtain ⟨hk,hall,kk1,xx1⟩:=hI1
 replace hk:k≤nt.n.ms.length:=hk
 replace hall:∀ j,j<k→msOk ts ((L:Nat):Int) ((x:Nat):Int) nt.n.ms j=true:=hall
 replace kk1:Ext W2 V1:=kk1
 replace xx1:Ext w V1:=xx1
 have e3:=kk1
 refine wp_seq_k fun K10 hK10=>?_
 refine Qab ?_
 refine Qaa (.bool (decide (((k:Nat):Int)<((nt.n.ms.length:Nat):Int)))) 30 rfl kj kj ?_
 refine Qaf ?_
 refine hK10 _ _ ?_
 refine wp_seq_k fun K11 hK11=>?_
 refine Qar (t:=decide (((k:Nat):Int)<((nt.n.ms.length:Nat):Int))) kj (fun c12=>?_) (fun c12=>?_)
 ·skip
  have hlt30:k<nt.n.ms.length:=by have:=of_decide_eq_true c12; omega
  have y0_1:Ext w W1:=(Rely.Ext.trans (Rely.Ext.refl w) e1)
  have y0_2:Ext w W2:=(Puts.ext p2 y0_1 l3)
  have y0_3:Ext w V1:=(Rely.Ext.trans y0_2 e3)
  have hnx_13:(nt.n.ms).length=nt.n.ms.length:=rfl
  obtain ⟨gcx_13,ocx_13,hax_13,hlx_13,hcx_13⟩:=QaY (RdK.here (RdK.ext rdt y0_3)) (by rw [hnx_13]; omega)
  refine wp_skip ?_
  refine hK11 _ _ ?_
  refine wp_seq_k fun K14 hK14=>?_
  refine wp_block ?_
  refine wp_seq_k fun K15 hK15=>?_
  refine Qab ?_
  refine Qaa (.int .i64 ((k:Nat):Int)) 31 rfl kj kj ?_
  refine Qaa (.pointer (some ⟨gcx_13,ocx_13+k,none⟩)) 32 rfl kj (Qa6 24 _ _ .i64 k gcx_13 ocx_13 nt.n.ms.length nt.c 3 nt.a _ hax_13 rfl rfl kj kj kj kj (Nat.lt_of_lt_of_eq (show k<nt.n.ms.length by omega) hnx_13.symm)) ?_
  refine Qaa (.int .i64 (nth (nt.n.ms) (k))) 33 rfl kj (Qak 3 _ _ (.int .i64 (nth (nt.n.ms) (k))) (hcx_13 k (Nat.lt_of_lt_of_eq (show k<nt.n.ms.length by omega) hnx_13.symm)) rfl kj kj) ?_
  refine Qaa (.int .i64 ((k:Nat):Int)) 6 rfl kj kj ?_
  refine Qaa (.int .i64 (nth (nt.n.ms) (k))) 7 rfl kj kj ?_
  refine Qaf ?_
  refine hK15 _ _ ?_
  refine wp_seq_k fun K16 hK16=>?_
  rcases (show k=0∨(0<k∧nth nt.n.ms k≤nth nt.n.ms (k-1))∨(0<k∧nth nt.n.ms (k-1)<nth nt.n.ms k) by omega) with hq | hq | hq
  ·skip
   have hb0:msOk ts ((L:Nat):Int) ((x:Nat):Int) nt.n.ms k=Qbg ts ((L:Nat):Int) ((x:Nat):Int) (nth nt.n.ms k):=by unfold msOk; rw [hq]; rfl
   refine Qab ?_
   refine Qaa (.int .i64 ((k:Nat):Int)) 34 rfl kj kj ?_
   refine Qaa (.bool false) 35 rfl kj (Qai (u:=.bool (decide (((k:Nat):Int)>0))) kj (congrArg Value.bool (decide_eq_false (by omega)))) ?_
   refine Qaa (.bool false) 36 rfl kj kj ?_
   refine Qad 37 rfl kj ?_
   refine Qad 38 rfl kj ?_
   refine Qad 39 rfl kj ?_
   refine Qad 40 rfl kj ?_
   refine Qad 41 rfl kj ?_
   refine Qad 42 rfl kj ?_
   refine Qad 43 rfl kj ?_
   refine Qad 44 rfl kj ?_
   refine Qaa (.bool false) 45 rfl kj kj ?_
   refine Qaa (.bool false) 46 rfl kj kj ?_
   refine Qaa (.slice a_t ts.length c_t) 47 rfl kj kj ?_
   refine Qaa (.int .i64 ((x:Nat):Int)) 48 rfl kj kj ?_
   refine Qaa (.int .i64 (nth (nt.n.ms) (k))) 49 rfl kj kj ?_
   refine Qal (.bool (Qbg ts ((L:Nat):Int) ((x:Nat):Int) (nth nt.n.ms k))) 65 #[.slice a_t ts.length c_t,.int .i64 ((x:Nat):Int),.int .i64 (nth (nt.n.ms) (k))] 50 rfl kj kj (Ql1 ts a_t c_t _ _ (TrAt.ext ht xx1) L hL hlen hTr hmt _ hxn (TabAt.ext hT xx1) _) fun W4 e4=>?_
   have x4:Ext w W4:=Ext.tr xx1 e4
   refine Qaa (.bool (!(Qbg ts ((L:Nat):Int) ((x:Nat):Int) (nth nt.n.ms k)))) 51 rfl kj kj ?_
   refine Qaa (.bool (!(Qbg ts ((L:Nat):Int) ((x:Nat):Int) (nth nt.n.ms k)))) 52 rfl kj kj ?_
   refine Qaf ?_
   refine hK16 _ _ ?_
   refine Qar (t:=!(Qbg ts ((L:Nat):Int) ((x:Nat):Int) (nth nt.n.ms k))) kj (fun c17=>?_) (fun c17=>?_)
   ·skip
    have hb:msOk ts ((L:Nat):Int) ((x:Nat):Int) nt.n.ms k=false:=by rw [hb0]; simpa using c17
    refine wp_seq_k fun K18 hK18=>?_
    refine Qab ?_
    refine Qaa (.bool false) 4 rfl kj kj ?_
    refine Qaf ?_
    refine hK18 _ _ ?_
    refine wp_ret ?_
    repeat (first | with_reducible refine goR1 ?_ | with_reducible refine goR2 ?_)
    exact (show bodyPost _ _ _ .ret _ _ from ret1 (.bool false) rfl (Qaq kj) ⟨congrArg (fun z=>Ending.returned (.bool z)) ((Qbn h h1 h2).trans (QcV (k:=k) (by rw [←ent]; exact hlt30) (by rw [←ent]; exact hb))).symm,x4⟩)
   ·skip
    have hb:msOk ts ((L:Nat):Int) ((x:Nat):Int) nt.n.ms k=true:=by rw [hb0]; simpa using c17
    refine wp_skip ?_
    refine hK14 _ _ ?_
    refine Qab ?_
    refine Qaa (.int .i64 ((k+1:Nat):Int)) 53 rfl kj (Qai (u:=.int .i64 (IntKind.i64.wrap (((k:Nat):Int)+1))) kj (congrArg (Value.int .i64) (i64n _ _ (by omega) (by omega)))) ?_
    refine Qaa (.int .i64 ((k+1:Nat):Int)) 29 rfl kj kj ?_
    refine Qaf ?_
    have y2_4:Ext W2 W4:=(Rely.Ext.trans e3 e4)
    repeat (first | with_reducible refine goX1 ?_ | with_reducible refine goX2 ?_ | with_reducible refine goX3 ?_)
    exact Qat (k+1) ⟨rfl,rfl,rfl,rfl,rfl,rfl,trivial⟩ ⟨(by omega),(fun j hj=>by by_cases e:j=k; (rw [e]; exact hb); exact hall j (by omega)),y2_4,x4⟩ (by show nt.n.ms.length-(k+1)<nt.n.ms.length-k; omega)
  ·skip
   have hb:msOk ts ((L:Nat):Int) ((x:Nat):Int) nt.n.ms k=false:=by unfold msOk; rw [beq_eq_false_iff_ne.2 (by omega),decide_eq_false (by omega)]; rfl
   refine Qab ?_
   refine Qaa (.int .i64 ((k:Nat):Int)) 34 rfl kj kj ?_
   refine Qaa (.bool true) 35 rfl kj (Qai (u:=.bool (decide (((k:Nat):Int)>0))) kj (congrArg Value.bool (decide_eq_true (by omega)))) ?_
   refine Qaa (.bool true) 36 rfl kj kj ?_
   refine Qaa (.pointer (some ⟨g3,98,none⟩)) 37 rfl kj kj ?_
   have r3_3:=(Qah r3_2 e3)
   refine Qaa (.slice nt.a nt.n.ms.length nt.c) 38 rfl kj (Qag 24 _ g3 98 50 _ (.slice nt.a nt.n.ms.length nt.c) _ r3_3 rfl kj (Qaj [#[.bool nt.n.us],#[.int .i64 nt.n.nm],ints .u8 (nt.n.key),ints .u8 (nt.n.sg),ints .u8 (nt.n.pa)] [#[.slice nt.a nt.n.ms.length nt.c]] [] 98 (by rw [Qac,Qac,Qac,Qac,Qac]; simp only [qS,cat,((Qae _ _).trans okt.gl),((Qae _ _).trans okt.kl),((Qae _ _).trans okt.pl)]; rfl) 0 _ rfl) kj) ?_
   refine Qaa (.int .i64 ((k:Nat):Int)) 39 rfl kj kj ?_
   refine Qaa (.int .i64 ((k-1:Nat):Int)) 40 rfl kj (Qai (u:=.int .i64 (IntKind.i64.wrap (((k:Nat):Int)-1))) kj (congrArg (Value.int .i64) (i64n _ _ (by omega) (by omega)))) ?_
   refine Qaa (.pointer (some ⟨gcx_13,ocx_13+(k-1),none⟩)) 41 rfl kj (Qa6 24 _ _ .i64 (k-1) gcx_13 ocx_13 nt.n.ms.length nt.c 3 nt.a _ hax_13 rfl rfl kj kj kj kj (Nat.lt_of_lt_of_eq (show k-1<nt.n.ms.length by omega) hnx_13.symm)) ?_
   refine Qaa (.int .i64 (nth (nt.n.ms) ((k-1)))) 42 rfl kj (Qak 3 _ _ (.int .i64 (nth (nt.n.ms) ((k-1)))) (hcx_13 (k-1) (Nat.lt_of_lt_of_eq (show k-1<nt.n.ms.length by omega) hnx_13.symm)) rfl kj kj) ?_
   refine Qaa (.int .i64 (nth (nt.n.ms) (k))) 43 rfl kj kj ?_
   refine Qaa (.bool true) 44 rfl kj (Qai (u:=.bool (decide ((nth (nt.n.ms) ((k-1)))≥(nth (nt.n.ms) (k))))) kj (congrArg Value.bool (decide_eq_true (by omega)))) ?_
   refine Qaa (.bool true) 45 rfl kj kj ?_
   refine Qaa (.bool true) 46 rfl kj kj ?_
   refine Qad 47 rfl kj ?_
   refine Qad 48 rfl kj ?_
   refine Qad 49 rfl kj ?_
   refine Qad 50 rfl kj ?_
   refine Qad 51 rfl kj ?_
   refine Qaa (.bool true) 52 rfl kj kj ?_
   refine Qaf ?_
   refine hK16 _ _ ?_
   refine cond_true kj ?_
   refine wp_seq_k fun K19 hK19=>?_
   refine Qab ?_
   refine Qaa (.bool false) 4 rfl kj kj ?_
   refine Qaf ?_
   refine hK19 _ _ ?_
   refine wp_ret ?_
   repeat (first | with_reducible refine goR1 ?_ | with_reducible refine goR2 ?_)
   exact (show bodyPost _ _ _ .ret _ _ from ret1 (.bool false) rfl (Qaq kj) ⟨congrArg (fun z=>Ending.returned (.bool z)) ((Qbn h h1 h2).trans (QcV (k:=k) (by rw [←ent]; exact hlt30) (by rw [←ent]; exact hb))).symm,xx1⟩)
  ·skip
   have hb0:msOk ts ((L:Nat):Int) ((x:Nat):Int) nt.n.ms k=Qbg ts ((L:Nat):Int) ((x:Nat):Int) (nth nt.n.ms k):=by unfold msOk; rw [decide_eq_true hq.2]; simp
   refine Qab ?_
   refine Qaa (.int .i64 ((k:Nat):Int)) 34 rfl kj kj ?_
   refine Qaa (.bool true) 35 rfl kj (Qai (u:=.bool (decide (((k:Nat):Int)>0))) kj (congrArg Value.bool (decide_eq_true (by omega)))) ?_
   refine Qaa (.bool true) 36 rfl kj kj ?_
   refine Qaa (.pointer (some ⟨g3,98,none⟩)) 37 rfl kj kj ?_
   have r3_3:=(Qah r3_2 e3)
   refine Qaa (.slice nt.a nt.n.ms.length nt.c) 38 rfl kj (Qag 24 _ g3 98 50 _ (.slice nt.a nt.n.ms.length nt.c) _ r3_3 rfl kj (Qaj [#[.bool nt.n.us],#[.int .i64 nt.n.nm],ints .u8 (nt.n.key),ints .u8 (nt.n.sg),ints .u8 (nt.n.pa)] [#[.slice nt.a nt.n.ms.length nt.c]] [] 98 (by rw [Qac,Qac,Qac,Qac,Qac]; simp only [qS,cat,((Qae _ _).trans okt.gl),((Qae _ _).trans okt.kl),((Qae _ _).trans okt.pl)]; rfl) 0 _ rfl) kj) ?_
   refine Qaa (.int .i64 ((k:Nat):Int)) 39 rfl kj kj ?_
   refine Qaa (.int .i64 ((k-1:Nat):Int)) 40 rfl kj (Qai (u:=.int .i64 (IntKind.i64.wrap (((k:Nat):Int)-1))) kj (congrArg (Value.int .i64) (i64n _ _ (by omega) (by omega)))) ?_
   refine Qaa (.pointer (some ⟨gcx_13,ocx_13+(k-1),none⟩)) 41 rfl kj (Qa6 24 _ _ .i64 (k-1) gcx_13 ocx_13 nt.n.ms.length nt.c 3 nt.a _ hax_13 rfl rfl kj kj kj kj (Nat.lt_of_lt_of_eq (show k-1<nt.n.ms.length by omega) hnx_13.symm)) ?_
   refine Qaa (.int .i64 (nth (nt.n.ms) ((k-1)))) 42 rfl kj (Qak 3 _ _ (.int .i64 (nth (nt.n.ms) ((k-1)))) (hcx_13 (k-1) (Nat.lt_of_lt_of_eq (show k-1<nt.n.ms.length by omega) hnx_13.symm)) rfl kj kj) ?_
   refine Qaa (.int .i64 (nth (nt.n.ms) (k))) 43 rfl kj kj ?_
   refine Qaa (.bool false) 44 rfl kj (Qai (u:=.bool (decide ((nth (nt.n.ms) ((k-1)))≥(nth (nt.n.ms) (k))))) kj (congrArg Value.bool (decide_eq_false (by omega)))) ?_
   refine Qaa (.bool false) 45 rfl kj kj ?_
   refine Qaa (.bool false) 46 rfl kj kj ?_
   refine Qaa (.slice a_t ts.length c_t) 47 rfl kj kj ?_
   refine Qaa (.int .i64 ((x:Nat):Int)) 48 rfl kj kj ?_
   refine Qaa (.int .i64 (nth (nt.n.ms) (k))) 49 rfl kj kj ?_
   refine Qal (.bool (Qbg ts ((L:Nat):Int) ((x:Nat):Int) (nth nt.n.ms k))) 65 #[.slice a_t ts.length c_t,.int .i64 ((x:Nat):Int),.int .i64 (nth (nt.n.ms) (k))] 50 rfl kj kj (Ql1 ts a_t c_t _ _ (TrAt.ext ht xx1) L hL hlen hTr hmt _ hxn (TabAt.ext hT xx1) _) fun W4 e4=>?_
   have x4:Ext w W4:=Ext.tr xx1 e4
   refine Qaa (.bool (!(Qbg ts ((L:Nat):Int) ((x:Nat):Int) (nth nt.n.ms k)))) 51 rfl kj kj ?_
   refine Qaa (.bool (!(Qbg ts ((L:Nat):Int) ((x:Nat):Int) (nth nt.n.ms k)))) 52 rfl kj kj ?_
   refine Qaf ?_
   refine hK16 _ _ ?_
   refine Qar (t:=!(Qbg ts ((L:Nat):Int) ((x:Nat):Int) (nth nt.n.ms k))) kj (fun c20=>?_) (fun c20=>?_)
   ·skip
    have hb:msOk ts ((L:Nat):Int) ((x:Nat):Int) nt.n.ms k=false:=by rw [hb0]; simpa using c20
    refine wp_seq_k fun K21 hK21=>?_
    refine Qab ?_
    refine Qaa (.bool false) 4 rfl kj kj ?_
    refine Qaf ?_
    refine hK21 _ _ ?_
    refine wp_ret ?_
    repeat (first | with_reducible refine goR1 ?_ | with_reducible refine goR2 ?_)
    exact (show bodyPost _ _ _ .ret _ _ from ret1 (.bool false) rfl (Qaq kj) ⟨congrArg (fun z=>Ending.returned (.bool z)) ((Qbn h h1 h2).trans (QcV (k:=k) (by rw [←ent]; exact hlt30) (by rw [←ent]; exact hb))).symm,x4⟩)
   ·skip
    have hb:msOk ts ((L:Nat):Int) ((x:Nat):Int) nt.n.ms k=true:=by rw [hb0]; simpa using c20
    refine wp_skip ?_
    refine hK14 _ _ ?_
    refine Qab ?_
    refine Qaa (.int .i64 ((k+1:Nat):Int)) 53 rfl kj (Qai (u:=.int .i64 (IntKind.i64.wrap (((k:Nat):Int)+1))) kj (congrArg (Value.int .i64) (i64n _ _ (by omega) (by omega)))) ?_
    refine Qaa (.int .i64 ((k+1:Nat):Int)) 29 rfl kj kj ?_
    refine Qaf ?_
    have y2_4:Ext W2 W4:=(Rely.Ext.trans e3 e4)
    repeat (first | with_reducible refine goX1 ?_ | with_reducible refine goX2 ?_ | with_reducible refine goX3 ?_)
    exact Qat (k+1) ⟨rfl,rfl,rfl,rfl,rfl,rfl,trivial⟩ ⟨(by omega),(fun j hj=>by by_cases e:j=k; (rw [e]; exact hb); exact hall j (by omega)),y2_4,x4⟩ (by show nt.n.ms.length-(k+1)<nt.n.ms.length-k; omega)
 ·skip
  have heq30:k=nt.n.ms.length:=by have:=of_decide_eq_false c12; omega
  refine wp_exit ?_
  refine hK8 _ _ ?_
  refine wp_seq_k fun K22 hK22=>?_
  refine Qab ?_
  refine Qaa (.bool true) 4 rfl kj kj ?_
  refine Qaf ?_
  refine hK22 _ _ ?_
  refine wp_ret ?_
  repeat (first | with_reducible refine goR1 ?_ | with_reducible refine goR2 ?_)
  exact (show bodyPost _ _ _ .ret _ _ from ret1 (.bool true) rfl (Qaq kj) ⟨congrArg (fun z=>Ending.returned (.bool z)) ((Qbn h h1 h2).trans (Qg0 (by rw [←ent,←heq30]; exact hall))).symm,xx1⟩)
theorem Qmv (ts : List NdV) (a_t:Option Addr) (c_t B1:Nat) (w:World) (ht:TrAt B1 w a_t ts) (L:Nat) (hL:leaves ((ts.length:Nat):Int)=((L:Nat):Int)) (hlen:ts.length+1=2*L) (hTr:QaG ((L:Nat):Int)=true) (hmt:∀ i,i<ts.length→(ndi ts i).n.ms.length≤1000000) (x:Nat) (hx:x<ts.length) (hT:TabAt w):Calls Tryd.prog 47 #[.slice a_t ts.length c_t,.int .i64 ((x:Nat):Int)] w (Ret w (.bool (Qbq ts ((L:Nat):Int) x))):=by
  by_cases h:x%2=0
  · exact Qka ts a_t c_t B1 w ht L hL hlen hTr hmt x hx hT h
  by_cases h1:(ndi ts x).n.nm=0
  · by_cases h2:(ndi ts x).n.sg=List.replicate 32 0
    · exact QjY ts a_t c_t B1 w ht L hL hlen hTr hmt x hx hT h h1 h2
    · exact QjZ ts a_t c_t B1 w ht L hL hlen hTr hmt x hx hT h h1 h2
  · exact QjX ts a_t c_t B1 w ht L hL hlen hTr hmt x hx hT h h1
end Go.Proofs.YthfkppjajmjpnaaDoor.Te
end
section
namespace Go.Proofs.YthfkppjajmjpnaaDoor.Te
open Go Go.RowKit
open Rely Auto Own Seat Sha
def zn : NdV:=⟨⟨false,0,List.replicate 32 0,List.replicate 32 0,List.replicate 32 0,[]⟩,none,0⟩
theorem zb : Qav (List.replicate 32 0):=fun x hx=>by have:=List.eq_of_mem_replicate hx; omega
theorem Qey : NdOk zn.n:=⟨rfl,rfl,rfl,zb,zb,zb⟩
theorem Qei (B : Nat) (W:World):RdK .i64 B [] (.slice none 0 0) W:=⟨none,0,rfl,qR _,by decide,fun _=>rfl,.inl rfl⟩
def Qbd (ts : List NdV) (n:Int) (x:Nat):Bool:=if (ndi ts x).n.us=true then Qbq ts n x else Qb7 (ndi ts x).n zn.n
def lvs (ts : List NdV):Nat:=(leaves ((ts.length:Nat):Int)).toNat
def chkT (ts : List NdV):Bool:=decide (lvs ts≠0)&&QbV ts&&anyU ts (lvs ts/2)&&(List.range ts.length).all (Qbd ts ((lvs ts:Nat):Int))
theorem QbZ {ts : List NdV} {L:Nat} (hL:leaves ((ts.length:Nat):Int)=((L:Nat):Int)):lvs ts=L:=by unfold lvs; rw [hL]; rfl
theorem chk0 {ts : List NdV} {L:Nat} (e:lvs ts=L) (h:L=0):chkT ts=false:=by unfold chkT; rw [e,h]; rfl
theorem chk1 {ts : List NdV} (h:QbV ts=false):chkT ts=false:=by unfold chkT; rw [h]; simp
theorem chk2 {ts : List NdV} {L:Nat} (e:lvs ts=L) (h:anyU ts (L/2)=false):chkT ts=false:=by unfold chkT; rw [e,h]; simp
theorem chk3 {ts : List NdV} {L:Nat} (e:lvs ts=L) (h0:L≠0) (h1:QbV ts=true) (h2:anyU ts (L/2)=true):chkT ts=(List.range ts.length).all (Qbd ts ((L:Nat):Int)):=by unfold chkT; rw [e,h1,h2,decide_eq_true h0]; rfl
theorem QlG (b u:Bool) (nd:NdV) (hok:NdOk nd.n) (B1:Nat) (w:World) (hm1:nd.n.ms.length≤1000000) (hr1:RdK .i64 B1 nd.n.ms (.slice nd.a nd.n.ms.length nd.c) w) (hu:nd.n.us=u) (h:Qb7 nd.n zn.n=b):Calls Tryd.prog 46 #[.agg (cat [#[.bool u],#[.int .i64 nd.n.nm],ints .u8 (nd.n.key),ints .u8 (nd.n.sg),ints .u8 (nd.n.pa),#[.slice nd.a nd.n.ms.length nd.c]]),.agg (cat [#[.bool false],#[.int .i64 0],ints .u8 (List.replicate 32 0),ints .u8 (List.replicate 32 0),ints .u8 (List.replicate 32 0),#[.slice none 0 0]])] w (Ret w (.bool b)):=by
  subst hu
  exact h▸QlH nd zn hok Qey B1 0 w hm1 (Nat.zero_le _) hr1 (Qei 0 w)
set_option maxRecDepth 100000 in
theorem Qli (ts : List NdV) (a_t:Option Addr) (c_t B1:Nat) (w:World) (ht:TrAt B1 w a_t ts) (htl:ts.length≤100000) (hmt:∀ i,i<ts.length→(ndi ts i).n.ms.length≤1000000) (hT:TabAt w) (L:Nat) (hL:leaves ((ts.length:Nat):Int)=((L:Nat):Int)) (hL2:2*L≤ts.length+1) (hL4:L≠0→ts.length+1=2*L∧QaG ((L:Nat):Int)=true) (h0:L=0):Calls Tryd.prog 26 #[.slice a_t ts.length c_t] w (Ret w (if chkT ts=true then .nilIface else .iface 68 (.int .i64 3))):=by
  refine enter 48 [(0,.slice a_t ts.length c_t)] Tryd.func26 rfl rfl kj rfl ?_
  refine wp_seq_k fun K1 hK1=>?_
  refine Qab ?_
  refine Qaa (.nilIface) 2 rfl kj kj ?_
  refine Qaf ?_
  refine hK1 _ _ ?_
  refine wp_seq_k fun K2 hK2=>?_
  refine wp_seq_k fun K3 hK3=>?_
  refine Qab ?_
  refine Qaa (.slice a_t ts.length c_t) 5 rfl kj kj ?_
  refine Qaa (.int .i64 ((ts.length:Nat):Int)) 6 rfl kj kj ?_
  refine Qal (.int .i64 ((L:Nat):Int)) 29 #[.int .i64 ((ts.length:Nat):Int)] 7 rfl kj kj (Qcd ((ts.length:Nat):Int) ⟨by omega,by omega⟩ _ hL _) fun W1 e1=>?_
  have x1:Ext w W1:=Ext.tr (Rely.Ext.refl w) e1
  refine Qaa (.bool true) 8 rfl kj (Qai (u:=.bool ((((L:Nat):Int)==0))) kj (congrArg Value.bool (beq_iff_eq.2 (by omega)))) ?_
  refine Qaa (.bool true) 9 rfl kj kj ?_
  refine Qad 10 rfl kj ?_
  refine Qad 11 rfl kj ?_
  refine Qad 12 rfl kj ?_
  refine Qaa (.bool true) 13 rfl kj kj ?_
  refine Qaa (.bool true) 14 rfl kj kj ?_
  refine Qad 15 rfl kj ?_
  refine Qad 16 rfl kj ?_
  refine Qad 17 rfl kj ?_
  refine Qaa (.bool true) 18 rfl kj kj ?_
  refine Qaf ?_
  refine hK3 _ _ ?_
  refine cond_true kj ?_
  refine wp_seq_k fun K4 hK4=>?_
  refine Qab ?_
  refine Qaa (.iface 68 (.int .i64 3)) 19 rfl kj kj ?_
  refine Qaa (.iface 68 (.int .i64 3)) 2 rfl kj kj ?_
  refine Qaf ?_
  refine hK4 _ _ ?_
  refine wp_ret ?_
  repeat (first | with_reducible refine goR1 ?_ | with_reducible refine goR2 ?_)
  exact (show bodyPost _ _ _ .ret _ _ from ret1 (.iface 68 (.int .i64 3)) rfl (Qaq kj) ⟨by rw [chk0 (QbZ hL) h0]; rfl,x1⟩)
set_option maxRecDepth 100000 in
theorem Qlh (ts : List NdV) (a_t:Option Addr) (c_t B1:Nat) (w:World) (ht:TrAt B1 w a_t ts) (htl:ts.length≤100000) (hmt:∀ i,i<ts.length→(ndi ts i).n.ms.length≤1000000) (hT:TabAt w) (L:Nat) (hL:leaves ((ts.length:Nat):Int)=((L:Nat):Int)) (hL2:2*L≤ts.length+1) (hL4:L≠0→ts.length+1=2*L∧QaG ((L:Nat):Int)=true) (h0:L≠0) (h1:QbV ts=false):Calls Tryd.prog 26 #[.slice a_t ts.length c_t] w (Ret w (if chkT ts=true then .nilIface else .iface 68 (.int .i64 3))):=by
  obtain ⟨hlen,hTr⟩:=hL4 h0
  refine enter 48 [(0,.slice a_t ts.length c_t)] Tryd.func26 rfl rfl kj rfl ?_
  refine wp_seq_k fun K1 hK1=>?_
  refine Qab ?_
  refine Qaa (.nilIface) 2 rfl kj kj ?_
  refine Qaf ?_
  refine hK1 _ _ ?_
  refine wp_seq_k fun K2 hK2=>?_
  refine wp_seq_k fun K3 hK3=>?_
  refine Qab ?_
  refine Qaa (.slice a_t ts.length c_t) 5 rfl kj kj ?_
  refine Qaa (.int .i64 ((ts.length:Nat):Int)) 6 rfl kj kj ?_
  refine Qal (.int .i64 ((L:Nat):Int)) 29 #[.int .i64 ((ts.length:Nat):Int)] 7 rfl kj kj (Qcd ((ts.length:Nat):Int) ⟨by omega,by omega⟩ _ hL _) fun W1 e1=>?_
  have x1:Ext w W1:=Ext.tr (Rely.Ext.refl w) e1
  refine Qaa (.bool false) 8 rfl kj (Qai (u:=.bool ((((L:Nat):Int)==0))) kj (congrArg Value.bool (beq_eq_false_iff_ne.2 (by omega)))) ?_
  refine Qaa (.bool false) 9 rfl kj kj ?_
  refine Qaa (.slice a_t ts.length c_t) 10 rfl kj kj ?_
  refine Qal (.bool false) 44 #[.slice a_t ts.length c_t] 11 rfl kj kj ((h1▸QhQ ts a_t c_t _ _ (TrAt.here (TrAt.ext ht x1)) (qR _) htl)) fun W2 e2=>?_
  have x2:Ext w W2:=Ext.tr x1 e2
  refine Qaa (.bool true) 12 rfl kj kj ?_
  refine Qaa (.bool true) 13 rfl kj kj ?_
  refine Qaa (.bool true) 14 rfl kj kj ?_
  refine Qad 15 rfl kj ?_
  refine Qad 16 rfl kj ?_
  refine Qad 17 rfl kj ?_
  refine Qaa (.bool true) 18 rfl kj kj ?_
  refine Qaf ?_
  refine hK3 _ _ ?_
  refine cond_true kj ?_
  refine wp_seq_k fun K4 hK4=>?_
  refine Qab ?_
  refine Qaa (.iface 68 (.int .i64 3)) 19 rfl kj kj ?_
  refine Qaa (.iface 68 (.int .i64 3)) 2 rfl kj kj ?_
  refine Qaf ?_
  refine hK4 _ _ ?_
  refine wp_ret ?_
  repeat (first | with_reducible refine goR1 ?_ | with_reducible refine goR2 ?_)
  exact (show bodyPost _ _ _ .ret _ _ from ret1 (.iface 68 (.int .i64 3)) rfl (Qaq kj) ⟨by rw [chk1 h1]; rfl,x2⟩)
set_option maxRecDepth 100000 in
theorem Qlg (ts : List NdV) (a_t:Option Addr) (c_t B1:Nat) (w:World) (ht:TrAt B1 w a_t ts) (htl:ts.length≤100000) (hmt:∀ i,i<ts.length→(ndi ts i).n.ms.length≤1000000) (hT:TabAt w) (L:Nat) (hL:leaves ((ts.length:Nat):Int)=((L:Nat):Int)) (hL2:2*L≤ts.length+1) (hL4:L≠0→ts.length+1=2*L∧QaG ((L:Nat):Int)=true) (h0:L≠0) (h1:QbV ts=true) (h2:anyU ts (L/2)=false):Calls Tryd.prog 26 #[.slice a_t ts.length c_t] w (Ret w (if chkT ts=true then .nilIface else .iface 68 (.int .i64 3))):=by
  obtain ⟨hlen,hTr⟩:=hL4 h0
  refine enter 48 [(0,.slice a_t ts.length c_t)] Tryd.func26 rfl rfl kj rfl ?_
  refine wp_seq_k fun K1 hK1=>?_
  refine Qab ?_
  refine Qaa (.nilIface) 2 rfl kj kj ?_
  refine Qaf ?_
  refine hK1 _ _ ?_
  refine wp_seq_k fun K2 hK2=>?_
  refine wp_seq_k fun K3 hK3=>?_
  refine Qab ?_
  refine Qaa (.slice a_t ts.length c_t) 5 rfl kj kj ?_
  refine Qaa (.int .i64 ((ts.length:Nat):Int)) 6 rfl kj kj ?_
  refine Qal (.int .i64 ((L:Nat):Int)) 29 #[.int .i64 ((ts.length:Nat):Int)] 7 rfl kj kj (Qcd ((ts.length:Nat):Int) ⟨by omega,by omega⟩ _ hL _) fun W1 e1=>?_
  have x1:Ext w W1:=Ext.tr (Rely.Ext.refl w) e1
  refine Qaa (.bool false) 8 rfl kj (Qai (u:=.bool ((((L:Nat):Int)==0))) kj (congrArg Value.bool (beq_eq_false_iff_ne.2 (by omega)))) ?_
  refine Qaa (.bool false) 9 rfl kj kj ?_
  refine Qaa (.slice a_t ts.length c_t) 10 rfl kj kj ?_
  refine Qal (.bool true) 44 #[.slice a_t ts.length c_t] 11 rfl kj kj ((h1▸QhQ ts a_t c_t _ _ (TrAt.here (TrAt.ext ht x1)) (qR _) htl)) fun W2 e2=>?_
  have x2:Ext w W2:=Ext.tr x1 e2
  refine Qaa (.bool false) 12 rfl kj kj ?_
  refine Qaa (.bool false) 13 rfl kj kj ?_
  refine Qaa (.bool false) 14 rfl kj kj ?_
  refine Qaa (.slice a_t ts.length c_t) 15 rfl kj kj ?_
  refine Qal (.bool false) 45 #[.slice a_t ts.length c_t] 16 rfl kj kj ((h2▸QjC ts a_t c_t _ _ (TrAt.ext ht x2) htl L hL (by omega))) fun W3 e3=>?_
  have x3:Ext w W3:=Ext.tr x2 e3
  refine Qaa (.bool true) 17 rfl kj kj ?_
  refine Qaa (.bool true) 18 rfl kj kj ?_
  refine Qaf ?_
  refine hK3 _ _ ?_
  refine cond_true kj ?_
  refine wp_seq_k fun K4 hK4=>?_
  refine Qab ?_
  refine Qaa (.iface 68 (.int .i64 3)) 19 rfl kj kj ?_
  refine Qaa (.iface 68 (.int .i64 3)) 2 rfl kj kj ?_
  refine Qaf ?_
  refine hK4 _ _ ?_
  refine wp_ret ?_
  repeat (first | with_reducible refine goR1 ?_ | with_reducible refine goR2 ?_)
  exact (show bodyPost _ _ _ .ret _ _ from ret1 (.iface 68 (.int .i64 3)) rfl (Qaq kj) ⟨by rw [chk2 (QbZ hL) h2]; rfl,x3⟩)
set_option maxRecDepth 100000 in
theorem Qlf (ts : List NdV) (a_t:Option Addr) (c_t B1:Nat) (w:World) (ht:TrAt B1 w a_t ts) (htl:ts.length≤100000) (hmt:∀ i,i<ts.length→(ndi ts i).n.ms.length≤1000000) (hT:TabAt w) (L:Nat) (hL:leaves ((ts.length:Nat):Int)=((L:Nat):Int)) (hL2:2*L≤ts.length+1) (hL4:L≠0→ts.length+1=2*L∧QaG ((L:Nat):Int)=true) (h0:L≠0) (h1:QbV ts=true) (h2:anyU ts (L/2)=true):Calls Tryd.prog 26 #[.slice a_t ts.length c_t] w (Ret w (if chkT ts=true then .nilIface else .iface 68 (.int .i64 3))):=by
 obtain ⟨hlen,hTr⟩:=hL4 h0
 refine enter 48 [(0,.slice a_t ts.length c_t)] Tryd.func26 rfl rfl kj rfl ?_
 refine wp_seq_k fun K1 hK1=>?_
 refine Qab ?_
 refine Qaa (.nilIface) 2 rfl kj kj ?_
 refine Qaf ?_
 refine hK1 _ _ ?_
 refine wp_seq_k fun K2 hK2=>?_
 refine wp_seq_k fun K3 hK3=>?_
 refine Qab ?_
 refine Qaa (.slice a_t ts.length c_t) 5 rfl kj kj ?_
 refine Qaa (.int .i64 ((ts.length:Nat):Int)) 6 rfl kj kj ?_
 refine Qal (.int .i64 ((L:Nat):Int)) 29 #[.int .i64 ((ts.length:Nat):Int)] 7 rfl kj kj (Qcd ((ts.length:Nat):Int) ⟨by omega,by omega⟩ _ hL _) fun W1 e1=>?_
 have x1:Ext w W1:=Ext.tr (Rely.Ext.refl w) e1
 refine Qaa (.bool false) 8 rfl kj (Qai (u:=.bool ((((L:Nat):Int)==0))) kj (congrArg Value.bool (beq_eq_false_iff_ne.2 (by omega)))) ?_
 refine Qaa (.bool false) 9 rfl kj kj ?_
 refine Qaa (.slice a_t ts.length c_t) 10 rfl kj kj ?_
 refine Qal (.bool true) 44 #[.slice a_t ts.length c_t] 11 rfl kj kj ((h1▸QhQ ts a_t c_t _ _ (TrAt.here (TrAt.ext ht x1)) (qR _) htl)) fun W2 e2=>?_
 have x2:Ext w W2:=Ext.tr x1 e2
 refine Qaa (.bool false) 12 rfl kj kj ?_
 refine Qaa (.bool false) 13 rfl kj kj ?_
 refine Qaa (.bool false) 14 rfl kj kj ?_
 refine Qaa (.slice a_t ts.length c_t) 15 rfl kj kj ?_
 refine Qal (.bool true) 45 #[.slice a_t ts.length c_t] 16 rfl kj kj ((h2▸QjC ts a_t c_t _ _ (TrAt.ext ht x2) htl L hL (by omega))) fun W3 e3=>?_
 have x3:Ext w W3:=Ext.tr x2 e3
 refine Qaa (.bool false) 17 rfl kj kj ?_
 refine Qaa (.bool false) 18 rfl kj kj ?_
 refine Qaf ?_
 refine hK3 _ _ ?_
 refine cond_false kj ?_
 refine wp_skip ?_
 refine hK2 _ _ ?_
 refine wp_seq_k fun K4 hK4=>?_
 refine wp_seq_k fun K5 hK5=>?_
 refine Qab ?_
 refine Qaa (.slice a_t ts.length c_t) 20 rfl kj kj ?_
 refine Qaa (.int .i64 ((ts.length:Nat):Int)) 21 rfl kj kj ?_
 refine Qaa (.int .i64 0) 22 rfl kj kj ?_
 refine Qaf ?_
 refine hK5 _ _ ?_
 refine wp_block ?_
 refine Qa0 (fun (s1:Nat)=>[(0,.slice a_t ts.length c_t),(20,.slice a_t ts.length c_t),(21,.int .i64 ((ts.length:Nat):Int)),(22,.int .i64 ((s1:Nat):Int))]) (fun (s1:Nat) W=>(s1≤ts.length)∧(∀ j,j<s1→Qbd ts ((L:Nat):Int) j=true)∧(Ext W3 W)∧(Ext w W)) (fun (s1:Nat)=>ts.length-s1) 0 ⟨rfl,rfl,rfl,rfl,trivial⟩ ⟨(Nat.zero_le _),(fun j hj=>absurd hj (Nat.not_lt_zero j)),(Rely.Ext.refl W3),x3⟩ fun s1 X1 V1 hI1=>?_
 obtain ⟨x,hs1⟩:∃ z,z=s1:=⟨_,rfl⟩
 subst hs1
 obtain ⟨hx,hall,kk1,xx1⟩:=hI1
 replace hx:x≤ts.length:=hx
 replace hall:∀ j,j<x→Qbd ts ((L:Nat):Int) j=true:=hall
 replace kk1:Ext W3 V1:=kk1
 replace xx1:Ext w V1:=xx1
 have e4:=kk1
 refine wp_seq_k fun K6 hK6=>?_
 refine Qab ?_
 refine Qaa (.bool (decide (((x:Nat):Int)<((ts.length:Nat):Int)))) 23 rfl kj kj ?_
 refine Qaf ?_
 refine hK6 _ _ ?_
 refine wp_seq_k fun K7 hK7=>?_
 refine Qar (t:=decide (((x:Nat):Int)<((ts.length:Nat):Int))) kj (fun c8=>?_) (fun c8=>?_)
 ·skip
  have hlt23:x<ts.length:=by have:=of_decide_eq_true c8; omega
  refine wp_skip ?_
  refine hK7 _ _ ?_
  refine wp_seq_k fun K9 hK9=>?_
  refine wp_block ?_
  refine wp_seq_k fun K10 hK10=>?_
  refine Qab ?_
  refine Qaa (.int .i64 ((x:Nat):Int)) 24 rfl kj kj ?_
  obtain ⟨gtT,otT,hat,hnts⟩:=TrAt.ext ht xx1
  have hnt:=hnts x (by omega)
  obtain ⟨nt,ent⟩:∃ z,z=ndi ts x:=⟨_,rfl⟩
  rw [←ent] at hnt
  have okt:=hnt.ok
  have rdt:=hnt.rd
  refine Qaa (.pointer (some ⟨gtT,otT+x*99,none⟩)) 25 rfl kj (Qap 23 _ _ .i64 x gtT otT ts.length c_t 50 99 a_t (hat (by omega)) rfl kj kj kj kj (by omega)) ?_
  refine Qaa (.agg (cat [#[.bool nt.n.us],#[.int .i64 nt.n.nm],ints .u8 (nt.n.key),ints .u8 (nt.n.sg),ints .u8 (nt.n.pa),#[.slice nt.a nt.n.ms.length nt.c]])) 26 rfl kj (QaH 50 _ gtT (otT+x*99) nt hnt rfl kj kj kj) ?_
  refine Qan (cat [#[.bool false],#[.int .i64 0],ints .u8 (List.replicate 32 0),ints .u8 (List.replicate 32 0),ints .u8 (List.replicate 32 0),#[.slice none 0 0]]) 50 4 rfl kj kj fun g11 W5 l11 e5 r11_5=>?_
  have x5:Ext w W5:=Ext.tr xx1 e5
  have b11:w.heap.size≤g11:=qT xx1.size l11
  refine Qaa (.int .i64 ((x:Nat):Int)) 3 rfl kj kj ?_
  refine Qau g11 _ (cat [#[.bool nt.n.us],#[.int .i64 nt.n.nm],ints .u8 (nt.n.key),ints .u8 (nt.n.sg),ints .u8 (nt.n.pa),#[.slice nt.a nt.n.ms.length nt.c]]) 50 r11_5 rfl kj (Qas 50 _ _ g11 50 _ _ r11_5 rfl kj kj (isz (n:=99) kj (by rw [Qac,Qac,Qac,Qac,Qac,Qac]; simp only [qS,cat,((Qae _ _).trans okt.gl),((Qae _ _).trans okt.kl),((Qae _ _).trans okt.pl)]; rfl)) (eqsz (n:=99) (by rw [Qac,Qac,Qac,Qac,Qac,Qac]; simp only [qS,cat,((Qae _ _).trans (qZ (n:=32)))]; rfl) (by rw [Qac,Qac,Qac,Qac,Qac,Qac]; simp only [qS,cat,((Qae _ _).trans okt.gl),((Qae _ _).trans okt.kl),((Qae _ _).trans okt.pl)]; rfl)) (Qbm _ (by intro a ha; simp only [List.mem_cons,List.not_mem_nil,or_false] at ha; rcases ha with rfl | rfl | rfl | rfl | rfl | rfl; exact (Qa7 _ rfl); exact (Qa7 _ rfl); exact (Qaw _ _); exact (Qaw _ _); exact (Qaw _ _); exact (Qa7 _ rfl)))) fun W6 p6 r11_6=>?_
  have x6:Ext w W6:=Puts.ext p6 x5 b11
  refine Qaf ?_
  refine hK10 _ _ ?_
  refine wp_seq_k fun K12 hK12=>?_
  rcases (show nt.n.us=true∨(nt.n.us=false∧Qb7 nt.n zn.n=true)∨(nt.n.us=false∧Qb7 nt.n zn.n=false) from by cases nt.n.us; (cases Qb7 nt.n zn.n; exact .inr (.inr ⟨rfl,rfl⟩); exact .inr (.inl ⟨rfl,rfl⟩)); exact .inl rfl) with hq | hq | hq
  ·skip
   have ru11_6:W6.heap[g11]? = some (.cells (cat [#[.bool true],#[.int .i64 nt.n.nm],ints .u8 (nt.n.key),ints .u8 (nt.n.sg),ints .u8 (nt.n.pa),#[.slice nt.a nt.n.ms.length nt.c]]) 50):=by have h9:=r11_6; rw [hq] at h9; exact h9
   have hb0:Qbd ts ((L:Nat):Int) x=Qbq ts ((L:Nat):Int) x:=by unfold Qbd; rw [←ent,if_pos hq]
   refine Qab ?_
   refine Qaa (.pointer (some ⟨g11,0,none⟩)) 27 rfl kj kj ?_
   refine Qaa (.bool true) 28 rfl kj (Qag 4 _ g11 0 50 _ (.bool true) _ ru11_6 rfl kj (Qaj [] [#[.bool true]] [#[.int .i64 nt.n.nm],ints .u8 (nt.n.key),ints .u8 (nt.n.sg),ints .u8 (nt.n.pa),#[.slice nt.a nt.n.ms.length nt.c]] 0 kj 0 _ rfl) kj) ?_
   refine Qaa (.bool false) 29 rfl kj kj ?_
   refine Qaa (.bool false) 30 rfl kj kj ?_
   refine Qad 31 rfl kj ?_
   refine Qad 32 rfl kj ?_
   refine Qad 33 rfl kj ?_
   refine Qad 34 rfl kj ?_
   refine Qaa (.bool false) 35 rfl kj kj ?_
   refine Qaa (.bool false) 36 rfl kj kj ?_
   refine Qaa (.pointer (some ⟨g11,0,none⟩)) 37 rfl kj kj ?_
   refine Qaa (.bool true) 38 rfl kj (Qag 4 _ g11 0 50 _ (.bool true) _ ru11_6 rfl kj (Qaj [] [#[.bool true]] [#[.int .i64 nt.n.nm],ints .u8 (nt.n.key),ints .u8 (nt.n.sg),ints .u8 (nt.n.pa),#[.slice nt.a nt.n.ms.length nt.c]] 0 kj 0 _ rfl) kj) ?_
   refine Qaa (.bool true) 39 rfl kj kj ?_
   refine Qaa (.slice a_t ts.length c_t) 40 rfl kj kj ?_
   refine Qaa (.int .i64 ((x:Nat):Int)) 41 rfl kj kj ?_
   refine Qal (.bool (Qbq ts ((L:Nat):Int) x)) 47 #[.slice a_t ts.length c_t,.int .i64 ((x:Nat):Int)] 42 rfl kj kj (Qmv ts a_t c_t _ _ (TrAt.ext ht x6) L hL hlen hTr hmt x (by omega) (TabAt.ext hT x6)) fun W7 e7=>?_
   have x7:Ext w W7:=Ext.tr x6 e7
   refine Qaa (.bool (!(Qbq ts ((L:Nat):Int) x))) 43 rfl kj kj ?_
   refine Qaa (.bool (!(Qbq ts ((L:Nat):Int) x))) 44 rfl kj kj ?_
   refine Qaa (.bool (!(Qbq ts ((L:Nat):Int) x))) 45 rfl kj kj ?_
   refine Qaf ?_
   refine hK12 _ _ ?_
   refine Qar (t:=!(Qbq ts ((L:Nat):Int) x)) kj (fun c13=>?_) (fun c13=>?_)
   ·skip
    have hb:Qbd ts ((L:Nat):Int) x=false:=by rw [hb0]; simpa using c13
    refine wp_seq_k fun K14 hK14=>?_
    refine Qab ?_
    refine Qaa (.iface 68 (.int .i64 3)) 46 rfl kj kj ?_
    refine Qaa (.iface 68 (.int .i64 3)) 2 rfl kj kj ?_
    refine Qaf ?_
    refine hK14 _ _ ?_
    refine wp_ret ?_
    repeat (first | with_reducible refine goR1 ?_ | with_reducible refine goR2 ?_)
    exact (show bodyPost _ _ _ .ret _ _ from ret1 (.iface 68 (.int .i64 3)) rfl (Qaq kj) ⟨by rw [(chk3 (QbZ hL) h0 h1 h2).trans (QcV hlt23 hb)]; rfl,x7⟩)
   ·skip
    have hb:Qbd ts ((L:Nat):Int) x=true:=by rw [hb0]; simpa using c13
    refine wp_skip ?_
    refine hK9 _ _ ?_
    refine Qab ?_
    refine Qaa (.int .i64 ((x+1:Nat):Int)) 47 rfl kj (Qai (u:=.int .i64 (IntKind.i64.wrap (((x:Nat):Int)+1))) kj (congrArg (Value.int .i64) (i64n _ _ (by omega) (by omega)))) ?_
    refine Qaa (.int .i64 ((x+1:Nat):Int)) 22 rfl kj kj ?_
    refine Qaf ?_
    have y3_5:Ext W3 W5:=(Rely.Ext.trans e4 e5)
    have y3_6:Ext W3 W6:=(Puts.ext p6 y3_5 (qT e4.size l11))
    have y3_7:Ext W3 W7:=(Rely.Ext.trans y3_6 e7)
    repeat (first | with_reducible refine goX1 ?_ | with_reducible refine goX2 ?_ | with_reducible refine goX3 ?_)
    exact Qat (x+1) ⟨rfl,rfl,rfl,rfl,trivial⟩ ⟨(by omega),(fun j hj=>by by_cases e:j=x; (rw [e]; exact hb); exact hall j (by omega)),y3_7,x7⟩ (by show ts.length-(x+1)<ts.length-x; omega)
  ·skip
   have ru11_6:W6.heap[g11]? = some (.cells (cat [#[.bool false],#[.int .i64 nt.n.nm],ints .u8 (nt.n.key),ints .u8 (nt.n.sg),ints .u8 (nt.n.pa),#[.slice nt.a nt.n.ms.length nt.c]]) 50):=by have h9:=r11_6; rw [hq.1] at h9; exact h9
   have hb:Qbd ts ((L:Nat):Int) x=true:=by unfold Qbd; rw [←ent,if_neg (by rw [hq.1]; decide)]; exact hq.2
   refine Qab ?_
   refine Qaa (.pointer (some ⟨g11,0,none⟩)) 27 rfl kj kj ?_
   refine Qaa (.bool false) 28 rfl kj (Qag 4 _ g11 0 50 _ (.bool false) _ ru11_6 rfl kj (Qaj [] [#[.bool false]] [#[.int .i64 nt.n.nm],ints .u8 (nt.n.key),ints .u8 (nt.n.sg),ints .u8 (nt.n.pa),#[.slice nt.a nt.n.ms.length nt.c]] 0 kj 0 _ rfl) kj) ?_
   refine Qaa (.bool true) 29 rfl kj kj ?_
   refine Qaa (.bool true) 30 rfl kj kj ?_
   refine Qaa (.agg (cat [#[.bool false],#[.int .i64 nt.n.nm],ints .u8 (nt.n.key),ints .u8 (nt.n.sg),ints .u8 (nt.n.pa),#[.slice nt.a nt.n.ms.length nt.c]])) 31 rfl kj (Qa4 50 _ g11 50 _ _ ru11_6 rfl kj kj (isz (n:=99) kj (by rw [Qac,Qac,Qac,Qac,Qac,Qac]; simp only [qS,cat,((Qae _ _).trans okt.gl),((Qae _ _).trans okt.kl),((Qae _ _).trans okt.pl)]; rfl))) ?_
   refine Qaa (.agg (cat [#[.bool false],#[.int .i64 0],ints .u8 (List.replicate 32 0),ints .u8 (List.replicate 32 0),ints .u8 (List.replicate 32 0),#[.slice none 0 0]])) 32 rfl kj kj ?_
   have y4_5:Ext V1 W5:=(Rely.Ext.trans (Rely.Ext.refl V1) e5)
   have y4_6:Ext V1 W6:=(Puts.ext p6 y4_5 l11)
   refine Qal (.bool true) 46 #[.agg (cat [#[.bool false],#[.int .i64 nt.n.nm],ints .u8 (nt.n.key),ints .u8 (nt.n.sg),ints .u8 (nt.n.pa),#[.slice nt.a nt.n.ms.length nt.c]]),.agg (cat [#[.bool false],#[.int .i64 0],ints .u8 (List.replicate 32 0),ints .u8 (List.replicate 32 0),ints .u8 (List.replicate 32 0),#[.slice none 0 0]])] 33 rfl kj kj (QlG true false nt okt _ _ (ent▸hmt x (by omega)) (RdK.here (RdK.ext rdt y4_6)) hq.1 hq.2) fun W7 e7=>?_
   have x7:Ext w W7:=Ext.tr x6 e7
   refine Qaa (.bool false) 34 rfl kj kj ?_
   refine Qaa (.bool false) 35 rfl kj kj ?_
   refine Qaa (.bool false) 36 rfl kj kj ?_
   refine Qaa (.pointer (some ⟨g11,0,none⟩)) 37 rfl kj kj ?_
   have r11_7:=(Qah ru11_6 e7)
   refine Qaa (.bool false) 38 rfl kj (Qag 4 _ g11 0 50 _ (.bool false) _ r11_7 rfl kj (Qaj [] [#[.bool false]] [#[.int .i64 nt.n.nm],ints .u8 (nt.n.key),ints .u8 (nt.n.sg),ints .u8 (nt.n.pa),#[.slice nt.a nt.n.ms.length nt.c]] 0 kj 0 _ rfl) kj) ?_
   refine Qaa (.bool false) 39 rfl kj kj ?_
   refine Qad 40 rfl kj ?_
   refine Qad 41 rfl kj ?_
   refine Qad 42 rfl kj ?_
   refine Qad 43 rfl kj ?_
   refine Qaa (.bool false) 44 rfl kj kj ?_
   refine Qaa (.bool false) 45 rfl kj kj ?_
   refine Qaf ?_
   refine hK12 _ _ ?_
   refine cond_false kj ?_
   refine wp_skip ?_
   refine hK9 _ _ ?_
   refine Qab ?_
   refine Qaa (.int .i64 ((x+1:Nat):Int)) 47 rfl kj (Qai (u:=.int .i64 (IntKind.i64.wrap (((x:Nat):Int)+1))) kj (congrArg (Value.int .i64) (i64n _ _ (by omega) (by omega)))) ?_
   refine Qaa (.int .i64 ((x+1:Nat):Int)) 22 rfl kj kj ?_
   refine Qaf ?_
   have y3_5:Ext W3 W5:=(Rely.Ext.trans e4 e5)
   have y3_6:Ext W3 W6:=(Puts.ext p6 y3_5 (qT e4.size l11))
   have y3_7:Ext W3 W7:=(Rely.Ext.trans y3_6 e7)
   repeat (first | with_reducible refine goX1 ?_ | with_reducible refine goX2 ?_ | with_reducible refine goX3 ?_)
   exact Qat (x+1) ⟨rfl,rfl,rfl,rfl,trivial⟩ ⟨(by omega),(fun j hj=>by by_cases e:j=x; (rw [e]; exact hb); exact hall j (by omega)),y3_7,x7⟩ (by show ts.length-(x+1)<ts.length-x; omega)
  ·skip
   have ru11_6:W6.heap[g11]? = some (.cells (cat [#[.bool false],#[.int .i64 nt.n.nm],ints .u8 (nt.n.key),ints .u8 (nt.n.sg),ints .u8 (nt.n.pa),#[.slice nt.a nt.n.ms.length nt.c]]) 50):=by have h9:=r11_6; rw [hq.1] at h9; exact h9
   have hb:Qbd ts ((L:Nat):Int) x=false:=by unfold Qbd; rw [←ent,if_neg (by rw [hq.1]; decide)]; exact hq.2
   refine Qab ?_
   refine Qaa (.pointer (some ⟨g11,0,none⟩)) 27 rfl kj kj ?_
   refine Qaa (.bool false) 28 rfl kj (Qag 4 _ g11 0 50 _ (.bool false) _ ru11_6 rfl kj (Qaj [] [#[.bool false]] [#[.int .i64 nt.n.nm],ints .u8 (nt.n.key),ints .u8 (nt.n.sg),ints .u8 (nt.n.pa),#[.slice nt.a nt.n.ms.length nt.c]] 0 kj 0 _ rfl) kj) ?_
   refine Qaa (.bool true) 29 rfl kj kj ?_
   refine Qaa (.bool true) 30 rfl kj kj ?_
   refine Qaa (.agg (cat [#[.bool false],#[.int .i64 nt.n.nm],ints .u8 (nt.n.key),ints .u8 (nt.n.sg),ints .u8 (nt.n.pa),#[.slice nt.a nt.n.ms.length nt.c]])) 31 rfl kj (Qa4 50 _ g11 50 _ _ ru11_6 rfl kj kj (isz (n:=99) kj (by rw [Qac,Qac,Qac,Qac,Qac,Qac]; simp only [qS,cat,((Qae _ _).trans okt.gl),((Qae _ _).trans okt.kl),((Qae _ _).trans okt.pl)]; rfl))) ?_
   refine Qaa (.agg (cat [#[.bool false],#[.int .i64 0],ints .u8 (List.replicate 32 0),ints .u8 (List.replicate 32 0),ints .u8 (List.replicate 32 0),#[.slice none 0 0]])) 32 rfl kj kj ?_
   have y4_5:Ext V1 W5:=(Rely.Ext.trans (Rely.Ext.refl V1) e5)
   have y4_6:Ext V1 W6:=(Puts.ext p6 y4_5 l11)
   refine Qal (.bool false) 46 #[.agg (cat [#[.bool false],#[.int .i64 nt.n.nm],ints .u8 (nt.n.key),ints .u8 (nt.n.sg),ints .u8 (nt.n.pa),#[.slice nt.a nt.n.ms.length nt.c]]),.agg (cat [#[.bool false],#[.int .i64 0],ints .u8 (List.replicate 32 0),ints .u8 (List.replicate 32 0),ints .u8 (List.replicate 32 0),#[.slice none 0 0]])] 33 rfl kj kj (QlG false false nt okt _ _ (ent▸hmt x (by omega)) (RdK.here (RdK.ext rdt y4_6)) hq.1 hq.2) fun W7 e7=>?_
   have x7:Ext w W7:=Ext.tr x6 e7
   refine Qaa (.bool true) 34 rfl kj kj ?_
   refine Qaa (.bool true) 35 rfl kj kj ?_
   refine Qaa (.bool true) 36 rfl kj kj ?_
   refine Qad 37 rfl kj ?_
   refine Qad 38 rfl kj ?_
   refine Qad 39 rfl kj ?_
   refine Qad 40 rfl kj ?_
   refine Qad 41 rfl kj ?_
   refine Qad 42 rfl kj ?_
   refine Qad 43 rfl kj ?_
   refine Qad 44 rfl kj ?_
   refine Qaa (.bool true) 45 rfl kj kj ?_
   refine Qaf ?_
   refine hK12 _ _ ?_
   refine cond_true kj ?_
   refine wp_seq_k fun K15 hK15=>?_
   refine Qab ?_
   refine Qaa (.iface 68 (.int .i64 3)) 46 rfl kj kj ?_
   refine Qaa (.iface 68 (.int .i64 3)) 2 rfl kj kj ?_
   refine Qaf ?_
   refine hK15 _ _ ?_
   refine wp_ret ?_
   repeat (first | with_reducible refine goR1 ?_ | with_reducible refine goR2 ?_)
   exact (show bodyPost _ _ _ .ret _ _ from ret1 (.iface 68 (.int .i64 3)) rfl (Qaq kj) ⟨by rw [(chk3 (QbZ hL) h0 h1 h2).trans (QcV hlt23 hb)]; rfl,x7⟩)
 ·skip
  have heq23:x=ts.length:=by have:=of_decide_eq_false c8; omega
  refine wp_exit ?_
  refine hK4 _ _ ?_
  refine wp_seq_k fun K16 hK16=>?_
  refine Qab ?_
  refine Qaa (.nilIface) 2 rfl kj kj ?_
  refine Qaf ?_
  refine hK16 _ _ ?_
  refine wp_ret ?_
  repeat (first | with_reducible refine goR1 ?_ | with_reducible refine goR2 ?_)
  exact (show bodyPost _ _ _ .ret _ _ from ret1 (.nilIface) rfl (Qaq kj) ⟨by rw [(chk3 (QbZ hL) h0 h1 h2).trans (Qg0 (heq23▸hall))]; rfl,xx1⟩)
theorem QjN (ts : List NdV) (a_t:Option Addr) (c_t B1:Nat) (w:World) (ht:TrAt B1 w a_t ts) (htl:ts.length≤100000) (hmt:∀ i,i<ts.length→(ndi ts i).n.ms.length≤1000000) (hT:TabAt w):Calls Tryd.prog 26 #[.slice a_t ts.length c_t] w (Ret w (if chkT ts=true then .nilIface else .iface 68 (.int .i64 3))):=by
  obtain ⟨L,hL,hL2,-,hL4⟩:=Qd1 ts.length htl
  by_cases h0:L=0
  · exact Qli ts a_t c_t B1 w ht htl hmt hT L hL hL2 hL4 h0
  cases h1:QbV ts with
  | false=>exact Qlh ts a_t c_t B1 w ht htl hmt hT L hL hL2 hL4 h0 h1
  | true =>
    cases h2:anyU ts (L/2) with
    | false=>exact Qlg ts a_t c_t B1 w ht htl hmt hT L hL hL2 hL4 h0 h1 h2
    | true=>exact Qlf ts a_t c_t B1 w ht htl hmt hT L hL hL2 hL4 h0 h1 h2
theorem QjM (ts : List NdV) (a_t:Option Addr) (c_t B1:Nat) (w:World) (ht:TrAt B1 w a_t ts) (htl:ts.length≤100000) (hmt:∀ i,i<ts.length→(ndi ts i).n.ms.length≤1000000) (hT:TabAt w) (h:chkT ts=true):Calls Tryd.prog 26 #[.slice a_t ts.length c_t] w (Ret w .nilIface):=by
  have:=QjN ts a_t c_t B1 w ht htl hmt hT
  rwa [if_pos h] at this
theorem Qmi (ts : List NdV) (a_t:Option Addr) (c_t B1:Nat) (w:World) (ht:TrAt B1 w a_t ts) (htl:ts.length≤100000) (hmt:∀ i,i<ts.length→(ndi ts i).n.ms.length≤1000000) (hT:TabAt w) (h:chkT ts=false):Calls Tryd.prog 26 #[.slice a_t ts.length c_t] w (Ret w (.iface 68 (.int .i64 3))):=by
  have:=QjN ts a_t c_t B1 w ht htl hmt hT
  rwa [if_neg (by rw [h]; decide)] at this
end Go.Proofs.YthfkppjajmjpnaaDoor.Te
end
section
namespace Go.Proofs.YthfkppjajmjpnaaDoor.Te
open Go Go.RowKit
open Rely Auto Own Seat Sha
def AvT (p : Nat→Prop) (a:Option Addr) (ts:List NdV):Prop:=(∀ g o m,0<ts.length→a=some ⟨g,o,m⟩→p g)∧∀ i,i<ts.length→(ndi ts i).n.ms≠[]→∀ g o m,(ndi ts i).a=some ⟨g,o,m⟩→p g
theorem AvT.mono {p q:Nat→Prop} {a:Option Addr} {ts:List NdV} (h:AvT p a ts) (hpq:∀ g,p g→q g):AvT q a ts:=⟨fun g o m h1 h2=>hpq g (h.1 g o m h1 h2),fun i hi hn g o m e=>hpq g (h.2 i hi hn g o m e)⟩
theorem TrAt.keepC {B : Nat} {gs:List Nat} {V W:World} {a:Option Addr} {ts:List NdV} (h:TrAt B V a ts) (q:QbA gs V W) (hv:AvT (fun g=>g∉gs) a ts):TrAt B W a ts:=by
  obtain ⟨g,o,h1,h2⟩:=h
  refine ⟨g,o,h1,fun i hi=>?_⟩
  have hn:=h2 i hi
  have hg:g∉gs:=hv.1 g o none (by omega) (h1 (by omega))
  refine ⟨hn.lt,qL hn.lt2 q.1,fun j u hu=>q.cell (hn.cell j u hu) hg,?_,hn.ok⟩
  by_cases hne:(ndi ts i).n.ms=[]
  · obtain ⟨a',cap,e,e1,e2,e3,e4⟩:=hn.rd
    exact ⟨a',cap,e,e1,e2,e3,.inl hne⟩
  obtain ⟨a',cap,e,e1,e2,e3,e4⟩:=hn.rd
  refine ⟨a',cap,e,e1,e2,e3,?_⟩
  rcases e4 with e4 | ⟨gm,om,q1,q2,q3,q4⟩
  · exact .inl e4
  · have ha:(ndi ts i).a=some ⟨gm,om,none⟩:=by simp only [Value.slice.injEq] at e; rw [e.1,q1]
    exact .inr ⟨gm,om,q1,q2,qL q3 q.1,fun k hk=>q.cell (q4 k hk) (hv.2 i hi hne gm om none ha)⟩
def Qhn (ts : List NdV):Nat→List Nat
  | 0=>[]
  | k+1=>if (ndi ts (2*k)).n.us=true then Qhn ts k++[k] else Qhn ts k
def nod (ts : List NdV) (z:Nat):NdV:=if 2*z<ts.length then ndi ts (2*z) else zn
end Go.Proofs.YthfkppjajmjpnaaDoor.Te
end
section
namespace Go.Proofs.YthfkppjajmjpnaaDoor.Te
open Go Go.RowKit
open Rely Auto Own Seat Sha
theorem Qle {ts : List NdV} (htl:ts.length≤100000) (h:chkT ts=true):∃ L:Nat,leaves ((ts.length:Nat):Int)=((L:Nat):Int)∧L≤32∧ts.length+1=2*L∧QaG ((L:Nat):Int)=true:=by
  obtain ⟨L,hL,hL2,hL3,hL4⟩:=Qd1 ts.length htl
  have h0:L≠0:=fun e=>by rw [chk0 (QbZ hL) e] at h; cases h
  exact ⟨L,hL,hL3,hL4 h0⟩
end Go.Proofs.YthfkppjajmjpnaaDoor.Te
end
section
namespace Go.Proofs.YthfkppjajmjpnaaDoor.Te
open Go Go.RowKit Go.Shelf
open Rely Auto Own Seat
end Go.Proofs.YthfkppjajmjpnaaDoor.Te
end
section
namespace Go.Proofs.YthfkppjajmjpnaaDoor.Te
open Go Go.RowKit Go.Shelf
open Rely Auto Own Seat
theorem Qhy (vs : List Value):∀ (cur:Array Value) (k:Nat),(splice cur k vs).size=cur.size:=by
  induction vs with
  | nil=>intro cur k; rfl
  | cons v r ih=>intro cur k; rw [splice,ih]; simp
def insA (xs : List Int) (c:Nat) (x:Int):List Int:=xs.take c++[x]++xs.drop c
theorem Qfl {w : World} {g o:Nat} {cur:Array Value} {T:TypeId} (r:w.heap[g]? = some (.cells cur T)):w.cell? ⟨g,o,none⟩=cur[o]?:=by unfold World.cell?; simp [r]
end Go.Proofs.YthfkppjajmjpnaaDoor.Te
end
section
namespace Go.Proofs.YthfkppjajmjpnaaDoor.Te
open Go Go.RowKit
open Rely Auto Own Seat Sha
def posI (xs : List Int) (x:Int):Nat:=xs.countP (· < x)
end Go.Proofs.YthfkppjajmjpnaaDoor.Te
end
section
namespace Go.Proofs.YthfkppjajmjpnaaDoor.Te
open Go Go.RowKit
open Rely Auto Own Seat
theorem own_typ {k : IntKind} {T:TypeId} {base:Nat} {xs:List Int} {v:Value} {W:World} (h:OwnN k T base xs v W) {g:Nat} (hg:v.ownBlock=some g):∃ cur,W.heap[g]? = some (.cells cur T):=by
  rcases h.1.2 with ⟨rfl,_⟩ | ⟨g',c,cur,rfl,q2,q3,_⟩
  · cases hg
  · obtain rfl:g'=g:=Option.some.inj hg
    exact ⟨cur,q3⟩
def slv (n : NdV):Value:=.slice n.a n.n.ms.length n.c
def ob (n : NdV):Option Nat:=(slv n).ownBlock
def NdIn (base : Nat) (W:World) (n:NdV):Prop:=NdOk n.n∧n.n.ms.length≤1000∧OwnN .i64 3 base n.n.ms (slv n) W
def fl (ts : List NdV):List Value:=ts.flatMap fun n=>(cat (ndP n)).toList
def Qi1 (cur : Array Value) (ts:List NdV):Prop:=∀ i,i<ts.length→∀ j,j<99→cur[i*99+j]? = (cat (ndP (ndi ts i)))[j]?
theorem Qcx {ts : List NdV} {i:Nat} (n:NdV) (h:i<ts.length) (j:Nat):ndi (ts.set i n) j=if j=i then n else ndi ts j:=by
  unfold ndi
  rw [List.getD_eq_getElem?_getD,List.getD_eq_getElem?_getD,List.getElem?_set]
  by_cases e:i=j
  · subst e; rw [if_pos rfl,if_pos rfl,if_pos h]; rfl
  · rw [if_neg e,if_neg (fun q=>e q.symm)]
theorem QhO (ts us:List NdV) (j:Nat):ndi (ts++us) j=if j<ts.length then ndi ts j else ndi us (j-ts.length):=by
  unfold ndi
  rw [List.getD_eq_getElem?_getD,List.getD_eq_getElem?_getD,List.getD_eq_getElem?_getD]
  by_cases e:j<ts.length
  · rw [if_pos e,List.getElem?_append_left e]
  · rw [if_neg e,List.getElem?_append_right (by omega)]
theorem Qii : ∀ (ts:List NdV),(∀ i,i<ts.length→NdOk (ndi ts i).n)→∀ i,i<ts.length→∀ j,j<99→(fl ts)[i*99+j]? = (cat (ndP (ndi ts i)))[j]?
  | [],_,i,hi,_,_=>absurd hi (Nat.not_lt_zero _)
  | x::r,ho,i,hi,j,hj=>by
    have hsz:(cat (ndP x)).toList.length=99:=by rw [Array.length_toList]; exact Qcy x (ho 0 (by simp))
    show (((cat (ndP x)).toList++fl r))[i*99+j]? = _
    cases i with
    | zero=>rw [List.getElem?_append_left (by omega),Nat.zero_mul,Nat.zero_add,Array.getElem?_toList]; rfl
    | succ i =>
      rw [List.getElem?_append_right (by omega),hsz,show (i+1)*99+j-99=i*99+j by omega]
      exact Qii r (fun k hk=>ho (k+1) (by simpa using hk)) i (by simpa using hi) j hj
theorem Qih : ∀ (ts:List NdV),(∀ i,i<ts.length→NdOk (ndi ts i).n)→(fl ts).length=ts.length*99
  | [],_=>rfl
  | x::r,ho=>by
    have hsz:(cat (ndP x)).toList.length=99:=by rw [Array.length_toList]; exact Qcy x (ho 0 (by simp))
    show (((cat (ndP x)).toList++fl r)).length=_
    rw [List.length_append,hsz,Qih r (fun k hk=>ho (k+1) (by simpa using hk)),List.length_cons]
    omega
theorem QmA {R : Array Value} {ts:List NdV} (ho:∀ i,i<ts.length→NdOk (ndi ts i).n) (hs:ts.length*99≤R.size) (h:Qi1 R ts):R.toList.take (ts.length*99)=fl ts:=by
  apply List.ext_getElem?
  intro k
  by_cases hk:k<ts.length*99
  · rw [List.getElem?_take,if_pos hk,Array.getElem?_toList]
    have e:k=k/99*99+k%99:=by omega
    rw [e,h (k/99) (by omega) (k%99) (by omega),Qii ts ho (k/99) (by omega) (k%99) (by omega)]
  · rw [List.getElem?_eq_none (by simp; omega),List.getElem?_eq_none (by rw [Qih ts ho]; omega)]
structure OwH (base : Nat) (ts : List NdV) (v : Value) (W : World) (h : Option Nat) : Prop where
  ok:∀ i,i<ts.length→NdOk (ndi ts i).n
  row:W.ownsRow base 50 99 v ts.length (fl ts)
  nd:∀ i,i<ts.length→some i≠h→NdIn base W (ndi ts i)
  ap:∀ i j,i<ts.length→j<ts.length→i≠j→some i≠h→some j≠h→∀ g,ob (ndi ts i)=some g→ob (ndi ts j)≠some g
abbrev OwT (base : Nat) (ts : List NdV) (v : Value) (W : World) : Prop := OwH base ts v W none
theorem OwH.opens {base : Nat} {ts:List NdV} {v:Value} {W:World} {h:Option Nat} (t:OwH base ts v W h) (h0:0<ts.length):∃ g c cur,v=.slice (some ⟨g,0,none⟩) ts.length c∧base≤g∧W.heap[g]? = some (.cells cur 50)∧cur.size=c*99∧ts.length≤c∧c≤maxLen∧Qi1 cur ts:=by
  rcases t.row.2 with ⟨_,h1⟩ | ⟨g,c,cur,h1,h2,h3,h4,h5,h6,h7⟩
  · omega
  · refine ⟨g,c,cur,h1,h2,h3,h6,h4,h5,fun i hi j hj=>?_⟩
    rw [←Qii ts t.ok i hi j hj,←h7,List.getElem?_take,if_pos (by omega),Array.getElem?_toList]
theorem OwH.made {base g c:Nat} {ts:List NdV} {W:World} {h:Option Nat} {cur:Array Value} (hg:base≤g) (r:W.heap[g]? = some (.cells cur 50)) (hs:cur.size=c*99) (hl:ts.length≤c) (hc:c≤maxLen) (hr:Qi1 cur ts)
    (ok:∀ i,i<ts.length→NdOk (ndi ts i).n) (nd:∀ i,i<ts.length→some i≠h→NdIn base W (ndi ts i)) (ap:∀ i j,i<ts.length→j<ts.length→i≠j→some i≠h→some j≠h→∀ g,ob (ndi ts i)=some g→ob (ndi ts j)≠some g):OwH base ts (.slice (some ⟨g,0,none⟩) ts.length c) W h :=
  ⟨ok,⟨Qih ts ok,.inr ⟨g,c,cur,rfl,hg,r,hl,hc,hs,QmA ok (by omega) hr⟩⟩,nd,ap⟩
theorem OwH.slice {base : Nat} {ts:List NdV} {v:Value} {W:World} {h:Option Nat} (t:OwH base ts v W h):∃ a c,v=.slice a ts.length c:=by
  rcases t.row.2 with ⟨e,e2⟩ | ⟨g,cap,cur,e,-⟩
  · exact ⟨none,0,by rw [e,e2]⟩
  · exact ⟨_,_,e⟩
theorem OwH.rowBlock {base : Nat} {ts:List NdV} {v:Value} {W:World} {h:Option Nat} (t:OwH base ts v W h) {g:Nat} (hg:v.ownBlock=some g):base≤g∧∃ cur,W.heap[g]? = some (.cells cur 50):=by
  rcases t.row.2 with ⟨rfl,_⟩ | ⟨g',c,cur,rfl,q2,q3,_⟩
  · cases hg
  · obtain rfl:g'=g:=Option.some.inj hg
    exact ⟨q2,cur,q3⟩
theorem NdIn.keep {base : Nat} {n:NdV} {W W':World} (h:NdIn base W n) (hk:∀ g,ob n=some g→W'.heap[g]? = W.heap[g]?):NdIn base W' n:=⟨h.1,h.2.1,h.2.2.keep hk⟩
theorem NdIn.low {a b:Nat} {n:NdV} {W:World} (h:NdIn b W n) (hab:a≤b):NdIn a W n:=⟨h.1,h.2.1,OwnN.base hab h.2.2⟩
theorem OwH.keep {base : Nat} {ts:List NdV} {v:Value} {W W':World} {h:Option Nat} (t:OwH base ts v W h) (hv:∀ g,v.ownBlock=some g→W'.heap[g]? = W.heap[g]?) (hn:∀ i,i<ts.length→some i≠h→∀ g,ob (ndi ts i)=some g→W'.heap[g]? = W.heap[g]?):OwH base ts v W' h :=
  ⟨t.ok,⟨t.row.1,t.row.2.imp id fun ⟨g,c,cur,q1,q2,q3,q4⟩=>⟨g,c,cur,q1,q2,(hv g (by rw [q1]; rfl)).trans q3,q4⟩⟩,fun i hi hh=>(t.nd i hi hh).keep (hn i hi hh),t.ap⟩
theorem OwH.lt {base : Nat} {ts:List NdV} {v:Value} {W:World} {h:Option Nat} (t:OwH base ts v W h) {g:Nat} (hg:v.ownBlock=some g):g<W.heap.size:=by
  obtain ⟨-,cur,r⟩:=t.rowBlock hg
  exact Qa5 r
theorem NdIn.lt {base : Nat} {n:NdV} {W:World} (h:NdIn base W n) {g:Nat} (hg:ob n=some g):g<W.heap.size:=h.2.2.lt hg
theorem OwH.ext {base : Nat} {ts:List NdV} {v:Value} {W W':World} {h:Option Nat} (t:OwH base ts v W h) (e:Ext W W'):OwH base ts v W' h:=t.keep (fun g hg=>e.block g (t.lt hg)) fun i hi hh g hg=>e.block g ((t.nd i hi hh).lt hg)
theorem OwH.low {a b:Nat} {ts:List NdV} {v:Value} {W:World} {h:Option Nat} (t:OwH b ts v W h) (hab:a≤b):OwH a ts v W h :=
  ⟨t.ok,⟨t.row.1,t.row.2.imp id fun ⟨g,c,cur,q1,q2,q3⟩=>⟨g,c,cur,q1,qT hab q2,q3⟩⟩,fun i hi hh=>(t.nd i hi hh).low hab,t.ap⟩
theorem OwH.above {base : Nat} {ts:List NdV} {v:Value} {W W':World} {h:Option Nat} (t:OwH base ts v W h) (hk:∀ g,base≤g→g<W.heap.size→W'.heap[g]? = W.heap[g]?):OwH base ts v W' h :=
  t.keep (fun g hg=>hk g (t.rowBlock hg).1 (t.lt hg)) fun i hi hh g hg=>hk g ((t.nd i hi hh).2.2.ge hg) ((t.nd i hi hh).lt hg)
theorem OwH.tr {base : Nat} {ts:List NdV} {a:Option Addr} {c:Nat} {W:World} (t:OwH base ts (.slice a ts.length c) W none):TrAt W.heap.size W a ts:=by
  by_cases h0:0<ts.length
  · obtain ⟨g,cap,cur,e,q2,q3,q4,q5,q6,q7⟩:=t.opens h0
    simp only [Value.slice.injEq] at e
    obtain ⟨rfl,-,rfl⟩:=e
    refine ⟨g,0,fun _=>rfl,fun i hi=>?_⟩
    obtain ⟨h1,h2,h3⟩:=t.nd i hi (by simp)
    refine ⟨Qa5 q3,Qa5 q3,fun j u hu=>?_,RdK.here (OwnN.rd h3),h1⟩
    have hj:j<99:=by have:=(Array.getElem?_eq_some_iff.1 hu).1; rw [Qcy _ h1] at this; exact this
    rw [Nat.zero_add,Qfl q3,q7 i hi j hj,hu]
  · exact ⟨0,0,fun h1=>absurd h1 h0,fun i hi=>absurd hi (by omega)⟩
theorem Qk3 {cur : Array Value} {ts:List NdV} {n:NdV} {i:Nat} (ok:NdOk n.n) (hi:i<ts.length) (hs:ts.length*99≤cur.size) (h:Qi1 cur ts):Qi1 (splice cur (i*99) (cat (ndP n)).toList) (ts.set i n):=by
  intro k hk j hj
  rw [List.length_set] at hk
  have hz:(cat (ndP n)).toList.length=99:=by rw [Array.length_toList]; exact Qcy n ok
  rw [Qe6 _ _ _ (by omega),hz,Qcx n hi]
  by_cases e:k=i
  · subst e
    rw [if_pos (by omega),if_pos rfl,show k*99+j-k*99=j by omega,Array.getElem?_toList]
  · rw [if_neg (by omega),if_neg e,h k hk j hj]
theorem Qmo {ts : List NdV} {n:NdV} {i:Nat} {h h':Option Nat} (hi:i<ts.length) (ap:∀ i j,i<ts.length→j<ts.length→i≠j→some i≠h→some j≠h→∀ g,ob (ndi ts i)=some g→ob (ndi ts j)≠some g) (hh:∀ k,k≠i→some k≠h'→some k≠h) (hn:some i≠h'→∀ j,j<ts.length→j≠i→some j≠h'→∀ g,ob n=some g→ob (ndi ts j)≠some g):∀ k j,k<(ts.set i n).length→j<(ts.set i n).length→k≠j→some k≠h'→some j≠h'→∀ g,ob (ndi (ts.set i n) k)=some g→ob (ndi (ts.set i n) j)≠some g:=by
  intro k j hk hj hkj hk2 hj2 g
  rw [List.length_set] at hk hj
  rw [Qcx n hi,Qcx n hi]
  by_cases e1:k=i
  · rw [if_pos e1,if_neg (by omega)]; exact hn (e1▸hk2) j hj (by omega) hj2 g
  · rw [if_neg e1]
    by_cases e2:j=i
    · rw [if_pos e2]; exact fun h1 h2=>hn (e2▸hj2) k hk e1 hk2 g h2 h1
    · rw [if_neg e2]; exact ap k j hk hj hkj (hh k e1 hk2) (hh j e2 hj2) g
theorem OwH.set {base g c i:Nat} {ts:List NdV} {n:NdV} {W W':World} {h:Option Nat} {cur:Array Value} (t:OwH base ts (.slice (some ⟨g,0,none⟩) ts.length c) W h) (hh:h=none∨h=some i) (hi:i<ts.length) (r:W.heap[g]? = some (.cells cur 50)) (p:Puts W g W') (r':W'.heap[g]? = some (.cells (splice cur (i*99) (cat (ndP n)).toList) 50))
    (hn:NdIn base W n) (ha:∀ j,j<ts.length→j≠i→∀ g,ob n=some g→ob (ndi ts j)≠some g):OwT base (ts.set i n) (.slice (some ⟨g,0,none⟩) ts.length c) W':=by
  obtain ⟨g',c',cur',e,q2,q3,q4,q5,q6,q7⟩:=t.opens (by omega)
  simp only [Value.slice.injEq,Option.some.injEq,Addr.mk.injEq] at e
  obtain ⟨⟨rfl,-⟩,-,rfl⟩:=e
  rw [r] at q3
  simp only [Option.some.injEq,Obj.cells.injEq,and_true] at q3
  subst q3
  have kp:∀ m:NdV,NdIn base W m→NdIn base W' m:=fun m hm=>hm.keep fun k hk=>p.2.2.2.2 k fun e=>by
    obtain ⟨cur2,r2⟩:=own_typ hm.2.2 hk
    rw [e,r] at r2
    simp at r2
  have ok:∀ k,k<(ts.set i n).length→NdOk (ndi (ts.set i n) k).n:=fun k hk=>by
    rw [List.length_set] at hk
    rw [Qcx n hi]
    by_cases e:k=i
    · rw [if_pos e]; exact hn.1
    · rw [if_neg e]; exact t.ok k hk
  have:=OwH.made (h:=none) (ts:=ts.set i n) (c:=c) q2 r' ((Qhy _ _ _).trans q4) (by rw [List.length_set]; exact q5) q6 (Qk3 hn.1 hi (by omega) q7) ok (fun k hk _=>by
    rw [List.length_set] at hk
    rw [Qcx n hi]
    by_cases e:k=i
    · rw [if_pos e]; exact kp n hn
    · rw [if_neg e]; exact kp _ (t.nd k hk (by rcases hh with rfl | rfl <;> simp; exact e))) (Qmo hi t.ap (fun k hk _=>by rcases hh with rfl | rfl <;> simp; exact hk) fun _ j hj hji _=>ha j hj hji)
  rwa [List.length_set] at this
section
variable {ds : List Deferred} {P : Program} {ops : Array Oper} {Q : Exit → Act → World → Prop} {rest : List Oper} {o : Oper} {N : Nat} {L : Env} {W : World}
end
end Go.Proofs.YthfkppjajmjpnaaDoor.Te
end
section
namespace Go.Proofs.YthfkppjajmjpnaaDoor.Te
open Go Go.RowKit
open Rely Auto Own Seat Sha
def AsC (us ts:List NdV):Prop:=us.length=ts.length∧∀ j,j<ts.length→(ndi us j).n=(ndi ts j).n
section
variable {ds : List Deferred} {P : Program} {ops : Array Oper} {Q : Exit → Act → World → Prop} {rest : List Oper} {o : Oper} {N : Nat} {L : Env} {W : World}
end
end Go.Proofs.YthfkppjajmjpnaaDoor.Te
end
section
namespace Go.Proofs.YthfkppjajmjpnaaDoor.Te
open Go Go.RowKit
open Rely Auto Own Seat Sha
section
variable {ds : List Deferred} {P : Program} {ops : Array Oper} {Q : Exit → Act → World → Prop} {rest : List Oper} {o : Oper} {N : Nat} {L : Env} {W : World} {Fe : Fence} {nf : Nat}
end
end Go.Proofs.YthfkppjajmjpnaaDoor.Te
end
section
namespace Go.Proofs.YthfkppjajmjpnaaDoor.Te
open Go Go.RowKit
open Rely Auto Own Seat Sha
theorem Qdk {ts : List NdV} {n i:Nat} (h:i<n):ndi (ts.take n) i=ndi ts i:=by
  unfold ndi
  rw [List.getD_eq_getElem?_getD,List.getD_eq_getElem?_getD,List.getElem?_take,if_pos h]
theorem TrAt.take {B : Nat} {w:World} {a:Option Addr} {ts:List NdV} (h:TrAt B w a ts) (n:Nat):TrAt B w a (ts.take n):=by
  obtain ⟨g,o,h1,h2⟩:=h
  refine ⟨g,o,fun h0=>h1 (by rw [List.length_take] at h0; omega),fun i hi=>?_⟩
  rw [List.length_take] at hi
  rw [Qdk (by omega)]
  exact h2 i (by omega)
theorem AvT.take {p : Nat→Prop} {a:Option Addr} {ts:List NdV} (h:AvT p a ts) (n:Nat):AvT p a (ts.take n):=by
  refine ⟨fun g o m h0 e=>h.1 g o m (by rw [List.length_take] at h0; omega) e,fun i hi hn g o m e=>?_⟩
  rw [List.length_take] at hi
  rw [Qdk (by omega)] at hn e
  exact h.2 i (by omega) hn g o m e
def FrT (base : Nat) (us:List NdV) (v:Value) (W:World):Prop:=∃ a c,v=.slice a us.length c∧TrAt W.heap.size W a us∧AvT (fun g=>base≤g) a us∧∀ i,i<us.length→(ndi us i).n.ms.length≤1000
theorem Qlt {base : Nat} {us:List NdV} {a:Option Addr} {c:Nat} {W:World} (t:OwT base us (.slice a us.length c) W):AvT (fun g=>base≤g) a us:=by
  refine ⟨fun g o m h0 e=>?_,fun i hi hn g o m e=>?_⟩
  · subst e
    exact (t.rowBlock (g:=g) rfl).1
  · have h1:=(t.nd i hi (by simp)).2.2
    exact h1.ge (g:=g) (by unfold slv; rw [e]; rfl)
theorem OwH.fr {base : Nat} {us:List NdV} {v:Value} {W:World} (t:OwT base us v W):FrT base us v W:=by
  obtain ⟨a,c,rfl⟩:=t.slice
  exact ⟨a,c,rfl,t.tr,Qlt t,fun i hi=>(t.nd i hi (by simp)).2.1⟩
section
variable {P : Program} {ρ : Operand → Value} {o : Oper} {w : World}
end
theorem QhG : Qbp (fun n x=>decide (par x n=-1) || decide (par x n%2=1))=true:=by decide +kernel
theorem Qho {x n:Int}:∀ {k:Nat},0≤upn x n k→upn x n k%2=1
  | 0,h=>by
    have h:0≤par x n:=h
    show par x n%2=1
    cases hd:Qa2 x n with
    | false=>rw [QcR hd] at h; omega
    | true =>
      have:=QaJ QhG hd
      simp only [Bool.or_eq_true,decide_eq_true_eq] at this
      omega
  | k+1,h=>by
    have h:0≤par (upn x n k) n:=h
    show par (upn x n k) n%2=1
    cases hd:Qa2 (upn x n k) n with
    | false=>rw [QcR hd] at h; omega
    | true =>
      have:=QaJ QhG hd
      simp only [Bool.or_eq_true,decide_eq_true_eq] at this
      omega
end Go.Proofs.YthfkppjajmjpnaaDoor.Te
end
section
namespace Go.Proofs.YthfkppjajmjpnaaDoor.Te
open Go Go.RowKit
open Rely Auto Own Seat Sha
def QdN (p : Nat→Prop) (A B:World):Prop:=A.heap.size≤B.heap.size∧∀ k cs t fr,A.heap[k]? = some (.cells cs t fr)→¬ p k→B.heap[k]? = some (.cells cs t fr)
section
variable {p : Nat → Prop} {A B C : World}
theorem QdN.trans (h : QdN p A B) (k:QdN p B C):QdN p A C:=⟨qT h.1 k.1,fun i cs t fr q n=>k.2 i cs t fr (h.2 i cs t fr q n) n⟩
theorem QdN.ext (e : Ext A B):QdN p A B:=⟨e.size,fun k cs t fr q _=>(e.block k (Qa5 q)).trans q⟩
theorem QdN.book {w : World} (W:World) (l:Nat) (o o':Obj) (hl:w.heap.size≤l) (h:W.heap[l]? = some o) (hc:o.isCells=false) (_:o.isWalk=false):QdN p W (W.putObj l o') :=
  ⟨by simp,fun k cs t fr q _=>(World.putObj_heap_other (fun e=>by subst e; rw [h] at q; cases q; cases hc)).trans q⟩
theorem QdN.row {k : Nat} {cs:Array Value} {t:TypeId} (h:QdN p A B) (r:A.heap[k]? = some (.cells cs t)) (n:¬ p k):B.heap[k]? = some (.cells cs t):=h.2 k cs t _ r n
theorem QdN.cell {b off:Nat} {v:Value} (h:QdN p A B) (hc:A.cell? ⟨b,off,none⟩=some v) (n:¬ p b):B.cell? ⟨b,off,none⟩=some v:=by
  unfold World.cell? at hc ⊢
  cases hb:A.heap[b]? with
  | none=>simp [hb] at hc
  | some ob =>
    cases ob with
    | cells cs t fr=>rw [h.2 b cs t fr hb n]; rw [hb] at hc; exact hc
    | _=>simp [hb] at hc
end
theorem OwH.node {base g M c i:Nat} {ts:List NdV} {W:World} (hM:ts.length=M) (t:OwT base ts (.slice (some ⟨g,0,none⟩) M c) W) (hi:i<M):NdAt W.heap.size W g (0+i*99) (ndi ts i):=by
  subst hM
  obtain ⟨g',o',h1,h2⟩:=t.tr
  have:=h1 (by omega)
  simp only [Option.some.injEq,Addr.mk.injEq,and_true] at this
  obtain ⟨rfl,rfl⟩:=this
  exact h2 i hi
end Go.Proofs.YthfkppjajmjpnaaDoor.Te
end
section
namespace Go.Proofs.YthfkppjajmjpnaaDoor.Wk
open Go Go.RowKit
open Rely Auto Own
variable {P : Program} {ops : Array Oper} {Q : Exit → Act → World → Prop} {Fe : Fence} {nf : Nat}
def allI (Fe : Fence) (nf:Nat) (P:Program) (ops:Array Oper) (Q:Exit→Act→World→Prop) (Rd:World→Prop):Nat→Array Bool→Act→World→Prop
  | 0,listed,a,w=>Region.ready .any ops listed=[]∧Q .normal a w
  | fuel+1,listed,a,w=>(Region.ready .any ops listed=[]→Q .normal a w)∧∀ i∈Region.ready .any ops listed,wpOpIn Fe nf P ops Q i (fun a' w'=>Rd w'∧allI Fe nf P ops Q Rd fuel (listed.setIfInBounds i true) a' w') a w
def Qd5 (P : Program) (ops:Array Oper) (Rd:World→Prop) (o:Oper) (v:Value) (a:Act):Prop :=
  (Region.wanted o (yielded ops a.tmps)=true∧∀ w,Rd w→(execOp a.eval o).run P w=.ok (.value v) w)∨(Region.wanted o (yielded ops a.tmps)=false∧v=undef)
theorem Qd5.wpOp {Rd : World→Prop} (hF:Free Fe nf P) {i:Nat} {o:Oper} {v:Value} {a:Act} (hnd:QbL o=true) (hi:ops[i]? = some o) (hy:Qd5 P ops Rd o v a) {K:Act→World→Prop} {w:World} (hw:Rd w) (h:K (a.put o.dst v) w):wpOpIn Fe nf P ops Q i K a w:=by
  unfold wpOpIn
  simp only [hi]
  rcases hy with ⟨hw1,hv⟩ | ⟨hw1,rfl⟩
  · simp only [hw1,if_true,Oper.wpIn]
    rw [Oper.semAt_plain Fe _ _ (QeD hnd),hv w hw]
    exact ⟨fun f _=>hF.fn f,h⟩
  · simp only [hw1,Bool.false_eq_true,if_false]; exact ⟨fun f _=>hF.fn f,h⟩
theorem Qd5.same {Rd : World→Prop} {o:Oper} {v:Value} {a a':Act} (hy:Qd5 P ops Rd o v a) (he:execOp a'.eval o=execOp a.eval o) (hw:Region.wanted o (yielded ops a'.tmps)=Region.wanted o (yielded ops a.tmps)):Qd5 P ops Rd o v a':=by
  unfold Qd5 at *
  rw [he,hw]
  exact hy
structure WBI (Fe : Fence) (nf : Nat) (P : Program) (ops : Array Oper) (Q : Exit → Act → World → Prop) (Rd : World → Prop) (fuel : Nat) (listed : Array Bool) (a : Act) (w : World) : Prop where
  out:Rd w→allI Fe nf P ops Q Rd fuel listed a w
structure WOI (Fe : Fence) (nf : Nat) (P : Program) (ops : Array Oper) (Q : Exit → Act → World → Prop) (Rd : World → Prop) (k fuel : Nat) (listed : Array Bool) (a : Act) (w : World) : Prop where
  out:wpOpIn Fe nf P ops Q k (fun a' w'=>Rd w'∧allI Fe nf P ops Q Rd fuel (listed.setIfInBounds k true) a' w') a w
variable {o : Oper} {N : Nat} {L : Env} {w V : World} {ds : List Deferred} {fuel : Nat} {listed : Array Bool} {k : Nat} {a : Act} {Rd : World → Prop}
end Go.Proofs.YthfkppjajmjpnaaDoor.Wk
end
section
namespace Go.Proofs.YthfkppjajmjpnaaDoor.Te
open Go Go.RowKit
open Rely Auto Own Seat Sha
def QgP (y n i:Int) (us:List NdV) (z:Nat):List NdV:=if (ndi us (upN y n z)).n.us=true then us.set (upN y n z) ⟨{ (ndi us (upN y n z)).n with ms:=insA (ndi us (upN y n z)).n.ms (posI (ndi us (upN y n z)).n.ms i) i },none,0⟩ else us
theorem Qfv (y n i:Int) (us:List NdV) (z:Nat):(QgP y n i us z).length=us.length:=by
  unfold QgP
  split
  · rw [List.length_set]
  · rfl
theorem Qhe {xs : List Int} (x:Int) (h:xs.Pairwise (·≤·)):(insA xs (posI xs x) x).Pairwise (·≤·):=by
  have key:∀ xs:List Int,xs.Pairwise (·≤·)→∀ a∈xs.take (posI xs x),a<x:=by
    intro xs
    induction xs with
    | nil=>intro _ a ha; cases ha
    | cons b r ih =>
      intro h a ha
      rw [List.pairwise_cons] at h
      by_cases hb:b<x
      · have e:posI (b::r) x=posI r x+1:=by unfold posI; rw [List.countP_cons_of_pos (by simpa using hb)]
        rw [e,List.take_succ_cons,List.mem_cons] at ha
        rcases ha with rfl | ha
        · exact hb
        · exact ih h.2 a ha
      · have e:posI (b::r) x=0:=by
          unfold posI
          rw [List.countP_eq_zero]
          intro c hc
          rcases List.mem_cons.1 hc with rfl | hc
          · simpa using hb
          · have:=h.1 c hc
            simp; omega
        rw [e] at ha; cases ha
  have key2:∀ xs:List Int,xs.Pairwise (·≤·)→∀ a∈xs.drop (posI xs x),x≤a:=by
    intro xs
    induction xs with
    | nil=>intro _ a ha; rw [List.drop_nil] at ha; cases ha
    | cons b r ih =>
      intro h a ha
      rw [List.pairwise_cons] at h
      by_cases hb:b<x
      · have e:posI (b::r) x=posI r x+1:=by unfold posI; rw [List.countP_cons_of_pos (by simpa using hb)]
        rw [e,List.drop_succ_cons] at ha
        exact ih h.2 a ha
      · have h2:a∈b::r:=List.mem_of_mem_drop ha
        rcases List.mem_cons.1 h2 with rfl | hc
        · omega
        · have:=h.1 a hc; omega
  unfold insA
  rw [List.append_assoc,List.pairwise_append]
  refine ⟨h.sublist (List.take_sublist _ _),List.pairwise_cons.2 ⟨fun a ha=>key2 xs h a ha,h.sublist (List.drop_sublist _ _)⟩,fun a ha b hb=>?_⟩
  have h1:=key xs h a ha
  rcases List.mem_cons.1 hb with rfl | hb
  · omega
  · have:=key2 xs h b hb; omega
def Rise (b : Nat) (us:List NdV):Prop:=∀ j,j<us.length→(ndi us j).n.ms.Pairwise (·≤·)∧(ndi us j).n.ms.length≤b
theorem AsC.rise {vs us:List NdV} {b:Nat} (h:AsC vs us) (r:Rise b us):Rise b vs:=fun j hj=>by
  rw [h.1] at hj
  rw [h.2 j hj]
  exact r j hj
theorem AsC.step {vs us:List NdV} {y n i:Int} {z:Nat} {a:Option Addr} {c:Nat} (h:AsC vs us) (hu:upN y n z<us.length) (hus:(ndi vs (upN y n z)).n.us=true):AsC (vs.set (upN y n z) ⟨{ (ndi vs (upN y n z)).n with ms:=insA (ndi vs (upN y n z)).n.ms (posI (ndi vs (upN y n z)).n.ms i) i },a,c⟩) (QgP y n i us z):=by
  refine ⟨by rw [List.length_set,Qfv]; exact h.1,fun j hj=>?_⟩
  rw [Qfv] at hj
  have e:=h.2 _ hu
  rw [e] at hus
  unfold QgP
  rw [if_pos hus,Qcx _ (by rw [h.1]; exact hu),Qcx _ hu]
  by_cases e2:j=upN y n z
  · rw [if_pos e2,if_pos e2,e]
  · rw [if_neg e2,if_neg e2]; exact h.2 j hj
theorem AsC.stay {vs us:List NdV} {y n i:Int} {z:Nat} (h:AsC vs us) (hu:upN y n z<us.length) (hus:(ndi vs (upN y n z)).n.us=false):AsC vs (QgP y n i us z):=by
  have e:=h.2 _ hu
  rw [e] at hus
  unfold QgP
  rw [if_neg (by rw [hus]; decide)]
  exact h
section
variable {ds : List Deferred} {P : Program} {ops : Array Oper} {Q : Exit → Act → World → Prop} {rest : List Oper} {o : Oper} {N : Nat} {L : Env} {W : World} {Fe : Fence} {nf : Nat} {fuel k : Nat} {listed : Array Bool} {Rd : World → Prop}
end
end Go.Proofs.YthfkppjajmjpnaaDoor.Te
end
section
namespace Go.Proofs.YthfkppjajmjpnaaDoor.Te
open Go Go.RowKit
open Rely Auto Own Seat Sha
theorem AsC.all {us ts:List NdV} (h:AsC us ts) (j:Nat):(ndi us j).n=(ndi ts j).n:=by
  by_cases hj:j<ts.length
  · exact h.2 j hj
  · have e:∀ l:List NdV,l.length≤j→ndi l j=nd0:=fun l hl=>by unfold ndi; rw [List.getD_eq_getElem?_getD,List.getElem?_eq_none hl]; rfl
    rw [e us (by rw [h.1]; omega),e ts (by omega)]
theorem AsC.of {us ts:List NdV} (h:us.length=ts.length) (h2:∀ j,(ndi us j).n=(ndi ts j).n):AsC us ts:=⟨h,fun j _=>h2 j⟩
theorem AsC.refl (ts : List NdV):AsC ts ts:=⟨rfl,fun _ _=>rfl⟩
theorem AsC.trans {us ts vs:List NdV} (h:AsC us ts) (k:AsC ts vs):AsC us vs:=.of (h.1.trans k.1) fun j=>(h.all j).trans (k.all j)
theorem AsC.symm {us ts:List NdV} (h:AsC us ts):AsC ts us:=.of h.1.symm fun j=>(h.all j).symm
section
variable {us ts : List NdV}
theorem AsC.set (h : AsC us ts) (k:Nat) {n n':NdV} (hn:n.n=n'.n):AsC (us.set k n) (ts.set k n'):=by
  refine .of (by rw [List.length_set,List.length_set,h.1]) fun j=>?_
  by_cases e:k<ts.length
  · rw [Qcx n (by rw [h.1]; exact e),Qcx n' e]
    split
    · exact hn
    · exact h.all j
  · rw [List.set_eq_of_length_le (by rw [h.1]; omega),List.set_eq_of_length_le (by omega)]; exact h.all j
theorem AsC.app (h : AsC us ts) (vs:List NdV):AsC (us++vs) (ts++vs):=by
  refine .of (by rw [List.length_append,List.length_append,h.1]) fun j=>?_
  rw [QhO,QhO,h.1]
  split
  · exact h.all j
  · rfl
theorem AsC.take (h : AsC us ts) (k:Nat):AsC (us.take k) (ts.take k):=by
  refine ⟨by rw [List.length_take,List.length_take,h.1],fun j hj=>?_⟩
  rw [List.length_take] at hj
  rw [Qdk (by omega),Qdk (by omega)]
  exact h.all j
end
def lf (n : Int):NdV:=⟨⟨true,n,List.replicate 32 0,List.replicate 32 0,List.replicate 32 0,[]⟩,none,0⟩
theorem QlY (n : Int):NdOk (lf n).n:=⟨rfl,rfl,rfl,zb,zb,zb⟩
end Go.Proofs.YthfkppjajmjpnaaDoor.Te
end
section
namespace Go.Proofs.YthfkppjajmjpnaaDoor.Te
open Go Go.RowKit
open Rely Auto Own Seat Sha
end Go.Proofs.YthfkppjajmjpnaaDoor.Te
end
section
namespace Go.Proofs.YthfkppjajmjpnaaDoor.Te
open Go Go.RowKit
open Rely Auto Own Seat Sha
set_option maxRecDepth 100000 in
theorem Qlw : Qbp (fun n x=>(List.range n.toNat).all fun i=>abv x (2*((i:Nat):Int)) n==(decide ((bel x n).1≤((i:Nat):Int))&&decide (((i:Nat):Int)≤(bel x n).2)))=true:=by decide +kernel
set_option maxRecDepth 100000 in
theorem Ql7 : Qbp (fun n x=>decide (x%2=0) || (List.range n.toNat).all fun i=>abv x (2*((i:Nat):Int)) n==(List.range 6).any fun k=>decide (0≤upn (2*((i:Nat):Int)) n k)&&upn (2*((i:Nat):Int)) n k==x)=true:=by decide +kernel
set_option maxRecDepth 100000 in
theorem Ql6 : Qbp (fun n x=>decide (x%2=0) || (List.range n.toNat).all fun i=>!(abv x (2*((i:Nat):Int)) n) || (List.range 6).all fun k=>decide (upn (2*((i:Nat):Int)) n k<0) || ((abv x (upn (2*((i:Nat):Int)) n k) n&&!(upn (2*((i:Nat):Int)) n k==x))==!((List.range (k+1)).any fun j=>upn (2*((i:Nat):Int)) n j==x)))=true:=by decide +kernel
theorem Qfn {n x:Int} {i:Nat} (h:Qa2 x n=true) (hi:((i:Nat):Int)<n):abv x (2*((i:Nat):Int)) n=(decide ((bel x n).1≤((i:Nat):Int))&&decide (((i:Nat):Int)≤(bel x n).2)):=by
  have:=List.all_eq_true.1 (QaJ Qlw h) i (List.mem_range.2 (by omega))
  exact eq_of_beq this
theorem QjR {n x:Int} {i:Nat} (h:Qa2 x n=true) (ho:x%2≠0) (hi:((i:Nat):Int)<n):abv x (2*((i:Nat):Int)) n=(List.range 6).any fun k=>decide (0≤upn (2*((i:Nat):Int)) n k)&&upn (2*((i:Nat):Int)) n k==x:=by
  have:=QaJ Ql7 h
  rw [decide_eq_false ho,Bool.false_or] at this
  exact eq_of_beq (List.all_eq_true.1 this i (List.mem_range.2 (by omega)))
theorem Qiz {n x:Int} {i k:Nat} (h:Qa2 x n=true) (ho:x%2≠0) (hi:((i:Nat):Int)<n) (ha:abv x (2*((i:Nat):Int)) n=true) (hk:0≤upn (2*((i:Nat):Int)) n k):(abv x (upn (2*((i:Nat):Int)) n k) n&&!(upn (2*((i:Nat):Int)) n k==x))=!((List.range (k+1)).any fun j=>upn (2*((i:Nat):Int)) n j==x):=by
  have:=QaJ Ql6 h
  rw [decide_eq_false ho,Bool.false_or] at this
  have h2:=List.all_eq_true.1 this i (List.mem_range.2 (by omega))
  rw [ha,Bool.not_true,Bool.false_or] at h2
  have h3:=List.all_eq_true.1 h2 k (List.mem_range.2 (Qhr hk))
  rw [decide_eq_false (by omega),Bool.false_or] at h3
  exact eq_of_beq h3
section
variable {ts : List NdV} {n x : Int} {i : Nat}
theorem Qgj (h : Qa2 x n=true) (hi:((i:Nat):Int)<n) (ha:abv x (2*((i:Nat):Int)) n=false):Qbg ts n x ((i:Nat):Int)=false:=by
  rw [Qfn h hi] at ha
  unfold Qbg
  rw [ha]; rfl
theorem QeN {y : Nat} (h:Qa2 x n=true) (ho:x%2≠0) (hi:((i:Nat):Int)<n) (ha:abv x (2*((i:Nat):Int)) n=true) (hy:Qa2 ((y:Nat):Int) n=true) (hyo:((y:Nat):Int)%2≠0) (hyx:((y:Nat):Int)≠x) (h1:abv x ((y:Nat):Int) n=true) (h2:abv ((y:Nat):Int) (2*((i:Nat):Int)) n=true)
    (hus:(ndi ts y).n.us=true) (hms:((i:Nat):Int)∉(ndi ts y).n.ms):Qbg ts n x ((i:Nat):Int)=false:=by
  rw [QjR hy hyo hi] at h2
  obtain ⟨k,hk,hk2⟩:=List.any_eq_true.1 h2
  simp only [Bool.and_eq_true,decide_eq_true_eq,beq_iff_eq] at hk2
  have h3:=Qiz h ho hi ha hk2.1
  rw [hk2.2,h1,beq_eq_false_iff_ne.2 hyx] at h3
  have hup:upN (2*((i:Nat):Int)) n k=y:=by have:=Qed hk2.1; omega
  have hall:((List.range 6).all fun k=>QdK x (2*((i:Nat):Int)) n k || okU ts ((i:Nat):Int) n k)=false:=by
    rw [List.all_eq_false]
    refine ⟨k,hk,?_⟩
    have e1:QdK x (2*((i:Nat):Int)) n k=false:=by
      unfold QdK
      rw [decide_eq_false (by have:=hk2.1; omega),Bool.false_or]
      simpa using h3
    have e2:okU ts ((i:Nat):Int) n k=false:=by
      unfold okU
      rw [hup,hus,decide_eq_false hms]; rfl
    rw [e1,e2]; decide
  unfold Qbg
  rw [hall,Bool.and_false]
theorem QdY (h : Qa2 x n=true) (ho:x%2≠0) (hi:((i:Nat):Int)<n) (ha:abv x (2*((i:Nat):Int)) n=true) (hus:(ndi ts (2*i)).n.us=true)
    (hall:∀ y:Nat,((y:Nat):Int)≤2*n-2→y%2=1→((y:Nat):Int)≠x→(ndi ts y).n.us=true→abv x ((y:Nat):Int) n=true→abv ((y:Nat):Int) (2*((i:Nat):Int)) n=true→((i:Nat):Int)∈(ndi ts y).n.ms):Qbg ts n x ((i:Nat):Int)=true:=by
  have hb:=Qfn h hi
  rw [ha] at hb
  unfold Qbg
  rw [show (2*((i:Nat):Int)).toNat=2*i by omega,hus,←hb,Bool.true_and,Bool.true_and]
  rw [List.all_eq_true]
  intro k hk
  rw [Bool.or_eq_true]
  by_cases hs:QdK x (2*((i:Nat):Int)) n k=true
  · exact .inl hs
  · right
    have hs:QdK x (2*((i:Nat):Int)) n k=false:=by simpa using hs
    unfold QdK at hs
    rw [Bool.or_eq_false_iff] at hs
    have hk0:0≤upn (2*((i:Nat):Int)) n k:=by have:=of_decide_eq_false hs.1; omega
    have h3:=Qiz h ho hi ha hk0
    rw [hs.2,Bool.not_false,Bool.and_eq_true] at h3
    have hup:=Qed hk0
    have hnd:=Qgo hk0
    unfold okU
    cases hu:(ndi ts (upN (2*((i:Nat):Int)) n k)).n.us with
    | false=>rfl
    | true =>
      rw [Bool.not_true,Bool.false_or]
      refine decide_eq_true (hall _ ?_ ?_ ?_ hu ?_ ?_)
      · rw [hup]; exact (Qbh hnd).2.2.1
      · have:=Qho hk0; omega
      · rw [hup]; intro e; rw [e] at h3; simp at h3
      · rw [hup]; exact h3.1
      · rw [hup,QjR hnd (by have:=Qho hk0; omega) hi]
        exact List.any_eq_true.2 ⟨k,hk,by simp [hk0]⟩
end
end Go.Proofs.YthfkppjajmjpnaaDoor.Te
end
section
namespace Go.Proofs.YthfkppjajmjpnaaDoor.Te
open Go Go.RowKit
open Rely Auto Own Seat Sha
theorem QbB (x y n:Int) (b:Bool) (h:abv x y n=b) (W:World):Calls Tryd.prog 42 #[.int .i64 x,.int .i64 y,.int .i64 n] W (Ret W (.bool b)):=h▸quiet (rabove x y n W)
theorem inRb (xs : List Int) (n:Int) (a_x:Option Addr) (c_x B1:Nat) (w:World) (hxl:xs.length≤1000000) (hx:RdK .i64 B1 xs (.slice a_x xs.length c_x) w) (b:Bool) (h:decide (n∈xs)=b):Calls Tryd.prog 41 #[.int .i64 n,.slice a_x xs.length c_x] w (Ret w (.bool b)):=h▸inR xs n a_x c_x B1 w hxl hx
theorem QjO (A : Prop) (b c d:Bool) (E:Prop):A∨(¬ A∧b=false)∨(¬ A∧b=true∧c=false)∨(¬ A∧b=true∧c=true∧d=false)∨(¬ A∧b=true∧c=true∧d=true∧E)∨(¬ A∧b=true∧c=true∧d=true∧¬ E):=by
  by_cases hA:A
  · exact .inl hA
  by_cases hE:E <;> cases b <;> cases c <;> cases d <;> simp [hA,hE]
theorem Qmk (i : Int) (n p:Int) (k:Nat) (u a:Bool):(i<0)∨(i≥0∧n≤i)∨((i≥0∧i<n)∧0<k∧i≤p)∨((i≥0∧i<n)∧(k=0)∧u=false)∨((i≥0∧i<n)∧(0<k∧p<i)∧u=false)∨((i≥0∧i<n)∧(k=0)∧u=true∧a=false)∨((i≥0∧i<n)∧(0<k∧p<i)∧u=true∧a=false)∨((i≥0∧i<n)∧(k=0)∧u=true∧a=true)∨((i≥0∧i<n)∧(0<k∧p<i)∧u=true∧a=true):=by
  rcases (show i<0∨(i≥0∧n≤i)∨((i≥0∧i<n)∧0<k∧i≤p)∨((i≥0∧i<n)∧k=0)∨((i≥0∧i<n)∧0<k∧p<i) by omega) with h | h | h | h | h
  · exact .inl h
  · exact .inr (.inl h)
  · exact .inr (.inr (.inl h))
  · cases u
    · exact .inr (.inr (.inr (.inl ⟨h.1,h.2,rfl⟩)))
    · cases a
      · exact .inr (.inr (.inr (.inr (.inr (.inl ⟨h.1,h.2,rfl,rfl⟩)))))
      · exact .inr (.inr (.inr (.inr (.inr (.inr (.inr (.inl ⟨h.1,h.2,rfl,rfl⟩)))))))
  · cases u
    · exact .inr (.inr (.inr (.inr (.inl ⟨h.1,h.2,rfl⟩))))
    · cases a
      · exact .inr (.inr (.inr (.inr (.inr (.inr (.inl ⟨h.1,h.2,rfl,rfl⟩))))))
      · exact .inr (.inr (.inr (.inr (.inr (.inr (.inr (.inr ⟨h.1,h.2,rfl,rfl⟩)))))))
set_option maxRecDepth 100000 in
theorem Qkb (ts : List NdV) (a_t:Option Addr) (c_t B1:Nat) (w:World) (ht:TrAt B1 w a_t ts) (L:Nat) (hL:leaves ((ts.length:Nat):Int)=((L:Nat):Int)) (hlen:ts.length+1=2*L) (hTr:QaG ((L:Nat):Int)=true) (hmt:∀ i,i<ts.length→(ndi ts i).n.ms.length≤1000000) (htl:ts.length≤100000) (x:Nat) (hx:x<ts.length) (h:x%2≠0) (h1:(ndi ts x).n.nm≠0):Calls Tryd.prog 32 #[.slice a_t ts.length c_t,.int .i64 ((x:Nat):Int),.int .i64 ((L:Nat):Int)] w (Ret w (.bool (Qbq ts ((L:Nat):Int) x))):=by
  have hxn:Qa2 ((x:Nat):Int) ((L:Nat):Int)=true:=QaS hTr (by omega)
  refine enter 113 [(0,.slice a_t ts.length c_t),(1,.int .i64 ((x:Nat):Int)),(2,.int .i64 ((L:Nat):Int))] Tryd.func32 rfl rfl kj rfl ?_
  refine wp_seq_k fun K1 hK1=>?_
  refine Qab ?_
  refine Qaa (.bool false) 6 rfl kj kj ?_
  refine Qaf ?_
  refine hK1 _ _ ?_
  refine wp_seq_k fun K2 hK2=>?_
  refine Qab ?_
  refine Qaa (.slice a_t ts.length c_t) 11 rfl kj kj ?_
  refine Qaa (.int .i64 ((x:Nat):Int)) 12 rfl kj kj ?_
  obtain ⟨gtT,otT,hat,hnts⟩:=TrAt.ext ht (Rely.Ext.refl w)
  have hnt:=hnts x (by omega)
  obtain ⟨nt,ent⟩:∃ z,z=ndi ts x:=⟨_,rfl⟩
  rw [←ent] at hnt
  have okt:=hnt.ok
  have rdt:=hnt.rd
  refine Qaa (.pointer (some ⟨gtT,otT+x*99,none⟩)) 13 rfl kj (Qap 23 _ _ .i64 x gtT otT ts.length c_t 50 99 a_t (hat (by omega)) rfl kj kj kj kj (by omega)) ?_
  refine Qaa (.agg (cat [#[.bool nt.n.us],#[.int .i64 nt.n.nm],ints .u8 (nt.n.key),ints .u8 (nt.n.sg),ints .u8 (nt.n.pa),#[.slice nt.a nt.n.ms.length nt.c]])) 14 rfl kj (QaH 50 _ gtT (otT+x*99) nt hnt rfl kj kj kj) ?_
  refine Qan (cat [#[.bool false],#[.int .i64 0],ints .u8 (List.replicate 32 0),ints .u8 (List.replicate 32 0),ints .u8 (List.replicate 32 0),#[.slice none 0 0]]) 50 7 rfl kj kj fun g3 W1 l3 e1 r3_1=>?_
  have x1:Ext w W1:=Ext.tr (Rely.Ext.refl w) e1
  have b3:w.heap.size≤g3:=qT (Rely.Ext.refl w).size l3
  refine Qau g3 _ (cat [#[.bool nt.n.us],#[.int .i64 nt.n.nm],ints .u8 (nt.n.key),ints .u8 (nt.n.sg),ints .u8 (nt.n.pa),#[.slice nt.a nt.n.ms.length nt.c]]) 50 r3_1 rfl kj (Qas 50 _ _ g3 50 _ _ r3_1 rfl kj kj (isz (n:=99) kj (by rw [Qac,Qac,Qac,Qac,Qac,Qac]; simp only [qS,cat,((Qae _ _).trans okt.gl),((Qae _ _).trans okt.kl),((Qae _ _).trans okt.pl)]; rfl)) (eqsz (n:=99) (by rw [Qac,Qac,Qac,Qac,Qac,Qac]; simp only [qS,cat,((Qae _ _).trans (qZ (n:=32)))]; rfl) (by rw [Qac,Qac,Qac,Qac,Qac,Qac]; simp only [qS,cat,((Qae _ _).trans okt.gl),((Qae _ _).trans okt.kl),((Qae _ _).trans okt.pl)]; rfl)) (Qbm _ (by intro a ha; simp only [List.mem_cons,List.not_mem_nil,or_false] at ha; rcases ha with rfl | rfl | rfl | rfl | rfl | rfl; exact (Qa7 _ rfl); exact (Qa7 _ rfl); exact (Qaw _ _); exact (Qaw _ _); exact (Qaw _ _); exact (Qa7 _ rfl)))) fun W2 p2 r3_2=>?_
  have x2:Ext w W2:=Puts.ext p2 x1 b3
  refine Qaf ?_
  refine hK2 _ _ ?_
  refine wp_seq_k fun K4 hK4=>?_
  refine wp_seq_k fun K5 hK5=>?_
  refine Qab ?_
  refine Qaa (.pointer (some ⟨g3,1,none⟩)) 15 rfl kj kj ?_
  refine Qaa (.int .i64 nt.n.nm) 16 rfl kj (Qag 3 _ g3 1 50 _ (.int .i64 nt.n.nm) _ r3_2 rfl kj (Qaj [#[.bool nt.n.us]] [#[.int .i64 nt.n.nm]] [ints .u8 (nt.n.key),ints .u8 (nt.n.sg),ints .u8 (nt.n.pa),#[.slice nt.a nt.n.ms.length nt.c]] 1 kj 0 _ rfl) kj) ?_
  refine Qaa (.bool true) 17 rfl kj (Qai (u:=.bool ((nt.n.nm != 0))) kj (congrArg Value.bool (bne_iff_ne.2 (ent▸h1)))) ?_
  refine Qaa (.bool true) 18 rfl kj kj ?_
  refine Qad 19 rfl kj ?_
  refine Qad 20 rfl kj ?_
  refine Qad 21 rfl kj ?_
  refine Qad 22 rfl kj ?_
  refine Qaa (.bool true) 23 rfl kj kj ?_
  refine Qaf ?_
  refine hK5 _ _ ?_
  refine cond_true kj ?_
  refine wp_seq_k fun K6 hK6=>?_
  refine Qab ?_
  refine Qaa (.bool false) 6 rfl kj kj ?_
  refine Qaf ?_
  refine hK6 _ _ ?_
  refine wp_ret ?_
  repeat (first | with_reducible refine goR1 ?_ | with_reducible refine goR2 ?_)
  exact (show bodyPost _ _ _ .ret _ _ from ret1 (.bool false) rfl (Qaq kj) ⟨congrArg (fun z=>Ending.returned (.bool z)) (Qgn h h1).symm,x2⟩)
set_option maxRecDepth 100000 in
theorem Qkd (ts : List NdV) (a_t:Option Addr) (c_t B1:Nat) (w:World) (ht:TrAt B1 w a_t ts) (L:Nat) (hL:leaves ((ts.length:Nat):Int)=((L:Nat):Int)) (hlen:ts.length+1=2*L) (hTr:QaG ((L:Nat):Int)=true) (hmt:∀ i,i<ts.length→(ndi ts i).n.ms.length≤1000000) (htl:ts.length≤100000) (x:Nat) (hx:x<ts.length) (h:x%2≠0) (h1:(ndi ts x).n.nm=0) (h2:(ndi ts x).n.sg≠List.replicate 32 0):Calls Tryd.prog 32 #[.slice a_t ts.length c_t,.int .i64 ((x:Nat):Int),.int .i64 ((L:Nat):Int)] w (Ret w (.bool (Qbq ts ((L:Nat):Int) x))):=by
  have hxn:Qa2 ((x:Nat):Int) ((L:Nat):Int)=true:=QaS hTr (by omega)
  refine enter 113 [(0,.slice a_t ts.length c_t),(1,.int .i64 ((x:Nat):Int)),(2,.int .i64 ((L:Nat):Int))] Tryd.func32 rfl rfl kj rfl ?_
  refine wp_seq_k fun K1 hK1=>?_
  refine Qab ?_
  refine Qaa (.bool false) 6 rfl kj kj ?_
  refine Qaf ?_
  refine hK1 _ _ ?_
  refine wp_seq_k fun K2 hK2=>?_
  refine Qab ?_
  refine Qaa (.slice a_t ts.length c_t) 11 rfl kj kj ?_
  refine Qaa (.int .i64 ((x:Nat):Int)) 12 rfl kj kj ?_
  obtain ⟨gtT,otT,hat,hnts⟩:=TrAt.ext ht (Rely.Ext.refl w)
  have hnt:=hnts x (by omega)
  obtain ⟨nt,ent⟩:∃ z,z=ndi ts x:=⟨_,rfl⟩
  rw [←ent] at hnt
  have okt:=hnt.ok
  have rdt:=hnt.rd
  refine Qaa (.pointer (some ⟨gtT,otT+x*99,none⟩)) 13 rfl kj (Qap 23 _ _ .i64 x gtT otT ts.length c_t 50 99 a_t (hat (by omega)) rfl kj kj kj kj (by omega)) ?_
  refine Qaa (.agg (cat [#[.bool nt.n.us],#[.int .i64 nt.n.nm],ints .u8 (nt.n.key),ints .u8 (nt.n.sg),ints .u8 (nt.n.pa),#[.slice nt.a nt.n.ms.length nt.c]])) 14 rfl kj (QaH 50 _ gtT (otT+x*99) nt hnt rfl kj kj kj) ?_
  refine Qan (cat [#[.bool false],#[.int .i64 0],ints .u8 (List.replicate 32 0),ints .u8 (List.replicate 32 0),ints .u8 (List.replicate 32 0),#[.slice none 0 0]]) 50 7 rfl kj kj fun g3 W1 l3 e1 r3_1=>?_
  have x1:Ext w W1:=Ext.tr (Rely.Ext.refl w) e1
  have b3:w.heap.size≤g3:=qT (Rely.Ext.refl w).size l3
  refine Qau g3 _ (cat [#[.bool nt.n.us],#[.int .i64 nt.n.nm],ints .u8 (nt.n.key),ints .u8 (nt.n.sg),ints .u8 (nt.n.pa),#[.slice nt.a nt.n.ms.length nt.c]]) 50 r3_1 rfl kj (Qas 50 _ _ g3 50 _ _ r3_1 rfl kj kj (isz (n:=99) kj (by rw [Qac,Qac,Qac,Qac,Qac,Qac]; simp only [qS,cat,((Qae _ _).trans okt.gl),((Qae _ _).trans okt.kl),((Qae _ _).trans okt.pl)]; rfl)) (eqsz (n:=99) (by rw [Qac,Qac,Qac,Qac,Qac,Qac]; simp only [qS,cat,((Qae _ _).trans (qZ (n:=32)))]; rfl) (by rw [Qac,Qac,Qac,Qac,Qac,Qac]; simp only [qS,cat,((Qae _ _).trans okt.gl),((Qae _ _).trans okt.kl),((Qae _ _).trans okt.pl)]; rfl)) (Qbm _ (by intro a ha; simp only [List.mem_cons,List.not_mem_nil,or_false] at ha; rcases ha with rfl | rfl | rfl | rfl | rfl | rfl; exact (Qa7 _ rfl); exact (Qa7 _ rfl); exact (Qaw _ _); exact (Qaw _ _); exact (Qaw _ _); exact (Qa7 _ rfl)))) fun W2 p2 r3_2=>?_
  have x2:Ext w W2:=Puts.ext p2 x1 b3
  refine Qaf ?_
  refine hK2 _ _ ?_
  refine wp_seq_k fun K4 hK4=>?_
  refine wp_seq_k fun K5 hK5=>?_
  refine Qab ?_
  refine Qaa (.pointer (some ⟨g3,1,none⟩)) 15 rfl kj kj ?_
  refine Qaa (.int .i64 nt.n.nm) 16 rfl kj (Qag 3 _ g3 1 50 _ (.int .i64 nt.n.nm) _ r3_2 rfl kj (Qaj [#[.bool nt.n.us]] [#[.int .i64 nt.n.nm]] [ints .u8 (nt.n.key),ints .u8 (nt.n.sg),ints .u8 (nt.n.pa),#[.slice nt.a nt.n.ms.length nt.c]] 1 kj 0 _ rfl) kj) ?_
  refine Qaa (.bool false) 17 rfl kj (Qai (u:=.bool ((nt.n.nm != 0))) kj (congrArg Value.bool (bne_eq_false_iff_eq.2 (ent▸h1)))) ?_
  refine Qaa (.bool false) 18 rfl kj kj ?_
  refine Qaa (.pointer (some ⟨g3,34,none⟩)) 19 rfl kj kj ?_
  refine Qaa (.agg (ints .u8 (nt.n.sg))) 20 rfl kj (Qao 48 _ g3 34 50 _ _ _ r3_2 rfl kj (Qaj [#[.bool nt.n.us],#[.int .i64 nt.n.nm],ints .u8 (nt.n.key)] [ints .u8 (nt.n.sg)] [ints .u8 (nt.n.pa),#[.slice nt.a nt.n.ms.length nt.c]] 34 (by rw [Qac,Qac,Qac]; simp only [qS,cat,((Qae _ _).trans okt.kl)]; rfl)) kj (isz (n:=32) kj ((Qae _ _).trans okt.gl))) ?_
  refine Qaa (.agg (ints .u8 (List.replicate 32 0))) 21 rfl kj kj ?_
  refine Qaa (.bool true) 22 rfl kj (QaM 48 _ _ _ _ _ (.bool true) rfl kj kj kj (QaV 48 (e:=5) (k:=.u8) (nt.n.sg) (List.replicate 32 0) (decide_eq_false (ent▸h2)) okt.gl (qZ (n:=32)) kj kj kj _)) ?_
  refine Qaa (.bool true) 23 rfl kj kj ?_
  refine Qaf ?_
  refine hK5 _ _ ?_
  refine cond_true kj ?_
  refine wp_seq_k fun K6 hK6=>?_
  refine Qab ?_
  refine Qaa (.bool false) 6 rfl kj kj ?_
  refine Qaf ?_
  refine hK6 _ _ ?_
  refine wp_ret ?_
  repeat (first | with_reducible refine goR1 ?_ | with_reducible refine goR2 ?_)
  exact (show bodyPost _ _ _ .ret _ _ from ret1 (.bool false) rfl (Qaq kj) ⟨congrArg (fun z=>Ending.returned (.bool z)) (Qgm h h2).symm,x2⟩)
set_option maxRecDepth 100000 in
theorem Qkc (ts : List NdV) (a_t:Option Addr) (c_t B1:Nat) (w:World) (ht:TrAt B1 w a_t ts) (L:Nat) (hL:leaves ((ts.length:Nat):Int)=((L:Nat):Int)) (hlen:ts.length+1=2*L) (hTr:QaG ((L:Nat):Int)=true) (hmt:∀ i,i<ts.length→(ndi ts i).n.ms.length≤1000000) (htl:ts.length≤100000) (x:Nat) (hx:x<ts.length) (h:x%2≠0) (h1:(ndi ts x).n.nm=0) (h2:(ndi ts x).n.sg=List.replicate 32 0):Calls Tryd.prog 32 #[.slice a_t ts.length c_t,.int .i64 ((x:Nat):Int),.int .i64 ((L:Nat):Int)] w (Ret w (.bool (Qbq ts ((L:Nat):Int) x))):=by
 have hxn:Qa2 ((x:Nat):Int) ((L:Nat):Int)=true:=QaS hTr (by omega)
 refine enter 113 [(0,.slice a_t ts.length c_t),(1,.int .i64 ((x:Nat):Int)),(2,.int .i64 ((L:Nat):Int))] Tryd.func32 rfl rfl kj rfl ?_
 refine wp_seq_k fun K1 hK1=>?_
 refine Qab ?_
 refine Qaa (.bool false) 6 rfl kj kj ?_
 refine Qaf ?_
 refine hK1 _ _ ?_
 refine wp_seq_k fun K2 hK2=>?_
 refine Qab ?_
 refine Qaa (.slice a_t ts.length c_t) 11 rfl kj kj ?_
 refine Qaa (.int .i64 ((x:Nat):Int)) 12 rfl kj kj ?_
 obtain ⟨gtT,otT,hat,hnts⟩:=TrAt.ext ht (Rely.Ext.refl w)
 have hnt:=hnts x (by omega)
 obtain ⟨nt,ent⟩:∃ z,z=ndi ts x:=⟨_,rfl⟩
 rw [←ent] at hnt
 have okt:=hnt.ok
 have rdt:=hnt.rd
 refine Qaa (.pointer (some ⟨gtT,otT+x*99,none⟩)) 13 rfl kj (Qap 23 _ _ .i64 x gtT otT ts.length c_t 50 99 a_t (hat (by omega)) rfl kj kj kj kj (by omega)) ?_
 refine Qaa (.agg (cat [#[.bool nt.n.us],#[.int .i64 nt.n.nm],ints .u8 (nt.n.key),ints .u8 (nt.n.sg),ints .u8 (nt.n.pa),#[.slice nt.a nt.n.ms.length nt.c]])) 14 rfl kj (QaH 50 _ gtT (otT+x*99) nt hnt rfl kj kj kj) ?_
 refine Qan (cat [#[.bool false],#[.int .i64 0],ints .u8 (List.replicate 32 0),ints .u8 (List.replicate 32 0),ints .u8 (List.replicate 32 0),#[.slice none 0 0]]) 50 7 rfl kj kj fun g3 W1 l3 e1 r3_1=>?_
 have x1:Ext w W1:=Ext.tr (Rely.Ext.refl w) e1
 have b3:w.heap.size≤g3:=qT (Rely.Ext.refl w).size l3
 refine Qau g3 _ (cat [#[.bool nt.n.us],#[.int .i64 nt.n.nm],ints .u8 (nt.n.key),ints .u8 (nt.n.sg),ints .u8 (nt.n.pa),#[.slice nt.a nt.n.ms.length nt.c]]) 50 r3_1 rfl kj (Qas 50 _ _ g3 50 _ _ r3_1 rfl kj kj (isz (n:=99) kj (by rw [Qac,Qac,Qac,Qac,Qac,Qac]; simp only [qS,cat,((Qae _ _).trans okt.gl),((Qae _ _).trans okt.kl),((Qae _ _).trans okt.pl)]; rfl)) (eqsz (n:=99) (by rw [Qac,Qac,Qac,Qac,Qac,Qac]; simp only [qS,cat,((Qae _ _).trans (qZ (n:=32)))]; rfl) (by rw [Qac,Qac,Qac,Qac,Qac,Qac]; simp only [qS,cat,((Qae _ _).trans okt.gl),((Qae _ _).trans okt.kl),((Qae _ _).trans okt.pl)]; rfl)) (Qbm _ (by intro a ha; simp only [List.mem_cons,List.not_mem_nil,or_false] at ha; rcases ha with rfl | rfl | rfl | rfl | rfl | rfl; exact (Qa7 _ rfl); exact (Qa7 _ rfl); exact (Qaw _ _); exact (Qaw _ _); exact (Qaw _ _); exact (Qa7 _ rfl)))) fun W2 p2 r3_2=>?_
 have x2:Ext w W2:=Puts.ext p2 x1 b3
 refine Qaf ?_
 refine hK2 _ _ ?_
 refine wp_seq_k fun K4 hK4=>?_
 refine wp_seq_k fun K5 hK5=>?_
 refine Qab ?_
 refine Qaa (.pointer (some ⟨g3,1,none⟩)) 15 rfl kj kj ?_
 refine Qaa (.int .i64 nt.n.nm) 16 rfl kj (Qag 3 _ g3 1 50 _ (.int .i64 nt.n.nm) _ r3_2 rfl kj (Qaj [#[.bool nt.n.us]] [#[.int .i64 nt.n.nm]] [ints .u8 (nt.n.key),ints .u8 (nt.n.sg),ints .u8 (nt.n.pa),#[.slice nt.a nt.n.ms.length nt.c]] 1 kj 0 _ rfl) kj) ?_
 refine Qaa (.bool false) 17 rfl kj (Qai (u:=.bool ((nt.n.nm != 0))) kj (congrArg Value.bool (bne_eq_false_iff_eq.2 (ent▸h1)))) ?_
 refine Qaa (.bool false) 18 rfl kj kj ?_
 refine Qaa (.pointer (some ⟨g3,34,none⟩)) 19 rfl kj kj ?_
 refine Qaa (.agg (ints .u8 (nt.n.sg))) 20 rfl kj (Qao 48 _ g3 34 50 _ _ _ r3_2 rfl kj (Qaj [#[.bool nt.n.us],#[.int .i64 nt.n.nm],ints .u8 (nt.n.key)] [ints .u8 (nt.n.sg)] [ints .u8 (nt.n.pa),#[.slice nt.a nt.n.ms.length nt.c]] 34 (by rw [Qac,Qac,Qac]; simp only [qS,cat,((Qae _ _).trans okt.kl)]; rfl)) kj (isz (n:=32) kj ((Qae _ _).trans okt.gl))) ?_
 refine Qaa (.agg (ints .u8 (List.replicate 32 0))) 21 rfl kj kj ?_
 refine Qaa (.bool false) 22 rfl kj (QaM 48 _ _ _ _ _ (.bool false) rfl kj kj kj (QaV 48 (e:=5) (k:=.u8) (nt.n.sg) (List.replicate 32 0) (decide_eq_true (ent▸h2)) okt.gl (qZ (n:=32)) kj kj kj _)) ?_
 refine Qaa (.bool false) 23 rfl kj kj ?_
 refine Qaf ?_
 refine hK5 _ _ ?_
 refine cond_false kj ?_
 refine wp_skip ?_
 refine hK4 _ _ ?_
 refine wp_seq_k fun K6 hK6=>?_
 refine wp_seq_k fun K7 hK7=>?_
 refine Qab ?_
 refine Qaa (.int .i64 0) 8 rfl kj kj ?_
 refine Qaf ?_
 refine hK7 _ _ ?_
 refine wp_block ?_
 have hml:nt.n.ms.length≤1000000:=ent▸hmt x hx
 refine Qa0 (fun (s1:Nat)=>[(0,.slice a_t ts.length c_t),(1,.int .i64 ((x:Nat):Int)),(2,.int .i64 ((L:Nat):Int)),(7,.pointer (some ⟨g3,0,none⟩)),(8,.int .i64 ((s1:Nat):Int))]) (fun (s1:Nat) W=>(s1≤nt.n.ms.length)∧(∀ j,j<s1→msOk ts ((L:Nat):Int) ((x:Nat):Int) nt.n.ms j=true)∧(Ext W2 W)∧(Ext w W)) (fun (s1:Nat)=>nt.n.ms.length-s1) 0 ⟨rfl,rfl,rfl,rfl,rfl,trivial⟩ ⟨(Nat.zero_le _),(fun j hj=>absurd hj (Nat.not_lt_zero j)),(Rely.Ext.refl W2),x2⟩ fun s1 X1 V1 hI1=>?_
 obtain ⟨k,hs1⟩:∃ z,z=s1:=⟨_,rfl⟩
 subst hs1
 obtain ⟨hk,hall,kk1,xx1⟩:=hI1
 replace hk:k≤nt.n.ms.length:=hk
 replace hall:∀ j,j<k→msOk ts ((L:Nat):Int) ((x:Nat):Int) nt.n.ms j=true:=hall
 replace kk1:Ext W2 V1:=kk1
 replace xx1:Ext w V1:=xx1
 have e3:=kk1
 refine wp_seq_k fun K8 hK8=>?_
 refine wp_seq_k fun K9 hK9=>?_
 refine Qab ?_
 refine Qaa (.int .i64 ((k:Nat):Int)) 24 rfl kj kj ?_
 refine Qaa (.pointer (some ⟨g3,98,none⟩)) 25 rfl kj kj ?_
 have r3_3:=(Qah r3_2 e3)
 refine Qaa (.slice nt.a nt.n.ms.length nt.c) 26 rfl kj (Qag 24 _ g3 98 50 _ (.slice nt.a nt.n.ms.length nt.c) _ r3_3 rfl kj (Qaj [#[.bool nt.n.us],#[.int .i64 nt.n.nm],ints .u8 (nt.n.key),ints .u8 (nt.n.sg),ints .u8 (nt.n.pa)] [#[.slice nt.a nt.n.ms.length nt.c]] [] 98 (by rw [Qac,Qac,Qac,Qac,Qac]; simp only [qS,cat,((Qae _ _).trans okt.gl),((Qae _ _).trans okt.kl),((Qae _ _).trans okt.pl)]; rfl) 0 _ rfl) kj) ?_
 refine Qaa (.int .i64 ((nt.n.ms.length:Nat):Int)) 27 rfl kj kj ?_
 refine Qaa (.bool (decide (((k:Nat):Int)<((nt.n.ms.length:Nat):Int)))) 28 rfl kj kj ?_
 refine Qaf ?_
 refine hK9 _ _ ?_
 refine Qar (t:=decide (((k:Nat):Int)<((nt.n.ms.length:Nat):Int))) kj (fun c10=>?_) (fun c10=>?_)
 ·skip
  have hlt28:k<nt.n.ms.length:=by have:=of_decide_eq_true c10; omega
  have y0_1:Ext w W1:=(Rely.Ext.trans (Rely.Ext.refl w) e1)
  have y0_2:Ext w W2:=(Puts.ext p2 y0_1 l3)
  have y0_3:Ext w V1:=(Rely.Ext.trans y0_2 e3)
  have hnx_11:(nt.n.ms).length=nt.n.ms.length:=rfl
  obtain ⟨gcx_11,ocx_11,hax_11,hlx_11,hcx_11⟩:=QaY (RdK.here (RdK.ext rdt y0_3)) (by rw [hnx_11]; omega)
  refine wp_skip ?_
  refine hK8 _ _ ?_
  refine wp_seq_k fun K12 hK12=>?_
  refine wp_block ?_
  refine wp_seq_k fun K13 hK13=>?_
  refine Qab ?_
  refine Qaa (.pointer (some ⟨g3,98,none⟩)) 31 rfl kj kj ?_
  refine Qaa (.slice nt.a nt.n.ms.length nt.c) 32 rfl kj (Qag 24 _ g3 98 50 _ (.slice nt.a nt.n.ms.length nt.c) _ r3_3 rfl kj (Qaj [#[.bool nt.n.us],#[.int .i64 nt.n.nm],ints .u8 (nt.n.key),ints .u8 (nt.n.sg),ints .u8 (nt.n.pa)] [#[.slice nt.a nt.n.ms.length nt.c]] [] 98 (by rw [Qac,Qac,Qac,Qac,Qac]; simp only [qS,cat,((Qae _ _).trans okt.gl),((Qae _ _).trans okt.kl),((Qae _ _).trans okt.pl)]; rfl) 0 _ rfl) kj) ?_
  refine Qaa (.int .i64 ((k:Nat):Int)) 33 rfl kj kj ?_
  refine Qaa (.pointer (some ⟨gcx_11,ocx_11+k,none⟩)) 34 rfl kj (Qa6 24 _ _ .i64 k gcx_11 ocx_11 nt.n.ms.length nt.c 3 nt.a _ hax_11 rfl rfl kj kj kj kj (Nat.lt_of_lt_of_eq (show k<nt.n.ms.length by omega) hnx_11.symm)) ?_
  refine Qaa (.int .i64 (nth (nt.n.ms) (k))) 35 rfl kj (Qak 3 _ _ (.int .i64 (nth (nt.n.ms) (k))) (hcx_11 k (Nat.lt_of_lt_of_eq (show k<nt.n.ms.length by omega) hnx_11.symm)) rfl kj kj) ?_
  refine Qaa (.int .i64 (nth (nt.n.ms) (k))) 9 rfl kj kj ?_
  refine Qaf ?_
  refine hK13 _ _ ?_
  refine wp_seq_k fun K14 hK14=>?_
  refine wp_seq_k fun K15 hK15=>?_
  have hbn:=Qca hxn
  have hQ0:(nth nt.n.ms k<0)∨(nth nt.n.ms k≥0∧((L:Nat):Int)≤nth nt.n.ms k)∨((nth nt.n.ms k≥0∧nth nt.n.ms k<((L:Nat):Int))∧0<k∧nth nt.n.ms k≤nth nt.n.ms (k-1))∨((nth nt.n.ms k≥0∧nth nt.n.ms k<((L:Nat):Int))∧(k=0)∧(ndi ts (2*(nth nt.n.ms k).toNat)).n.us=false)∨((nth nt.n.ms k≥0∧nth nt.n.ms k<((L:Nat):Int))∧(0<k∧nth nt.n.ms (k-1)<nth nt.n.ms k)∧(ndi ts (2*(nth nt.n.ms k).toNat)).n.us=false)∨((nth nt.n.ms k≥0∧nth nt.n.ms k<((L:Nat):Int))∧(k=0)∧(ndi ts (2*(nth nt.n.ms k).toNat)).n.us=true∧abv ((x:Nat):Int) (2*nth nt.n.ms k) ((L:Nat):Int)=false)∨((nth nt.n.ms k≥0∧nth nt.n.ms k<((L:Nat):Int))∧(0<k∧nth nt.n.ms (k-1)<nth nt.n.ms k)∧(ndi ts (2*(nth nt.n.ms k).toNat)).n.us=true∧abv ((x:Nat):Int) (2*nth nt.n.ms k) ((L:Nat):Int)=false)∨((nth nt.n.ms k≥0∧nth nt.n.ms k<((L:Nat):Int))∧(k=0)∧(ndi ts (2*(nth nt.n.ms k).toNat)).n.us=true∧abv ((x:Nat):Int) (2*nth nt.n.ms k) ((L:Nat):Int)=true)∨((nth nt.n.ms k≥0∧nth nt.n.ms k<((L:Nat):Int))∧(0<k∧nth nt.n.ms (k-1)<nth nt.n.ms k)∧(ndi ts (2*(nth nt.n.ms k).toNat)).n.us=true∧abv ((x:Nat):Int) (2*nth nt.n.ms k) ((L:Nat):Int)=true):=Qmk _ _ _ _ _ _
  rcases hQ0 with hQ | hQ | ⟨hR,hQ⟩ | ⟨hR,hQ⟩ | ⟨hR,hQ⟩ | ⟨hR,hQ⟩ | ⟨hR,hQ⟩ | ⟨hR,hQ⟩ | ⟨hR,hQ⟩
  ·skip
   have hb:msOk ts ((L:Nat):Int) ((x:Nat):Int) nt.n.ms k=false:=by unfold msOk; rw [Qfq (by omega),Bool.and_false]
   refine Qab ?_
   refine Qaa (.int .i64 (nth (nt.n.ms) (k))) 36 rfl kj kj ?_
   refine Qaa (.bool true) 37 rfl kj (Qai (u:=.bool (decide ((nth (nt.n.ms) (k))<0))) kj (congrArg Value.bool (decide_eq_true (by omega)))) ?_
   refine Qaa (.bool true) 38 rfl kj kj ?_
   refine Qad 39 rfl kj ?_
   refine Qad 40 rfl kj ?_
   refine Qad 41 rfl kj ?_
   refine Qaa (.bool true) 42 rfl kj kj ?_
   refine Qaa (.bool true) 43 rfl kj kj ?_
   refine Qad 44 rfl kj ?_
   refine Qad 45 rfl kj ?_
   refine Qad 46 rfl kj ?_
   refine Qad 47 rfl kj ?_
   refine Qad 48 rfl kj ?_
   refine Qad 49 rfl kj ?_
   refine Qad 50 rfl kj ?_
   refine Qad 51 rfl kj ?_
   refine Qad 52 rfl kj ?_
   refine Qad 53 rfl kj ?_
   refine Qad 54 rfl kj ?_
   refine Qad 55 rfl kj ?_
   refine Qaa (.bool true) 56 rfl kj kj ?_
   refine Qaa (.bool true) 57 rfl kj kj ?_
   refine Qad 58 rfl kj ?_
   refine Qad 59 rfl kj ?_
   refine Qad 60 rfl kj ?_
   refine Qad 61 rfl kj ?_
   refine Qad 62 rfl kj ?_
   refine Qad 63 rfl kj ?_
   refine Qad 64 rfl kj ?_
   refine Qaa (.bool true) 65 rfl kj kj ?_
   refine Qaa (.bool true) 66 rfl kj kj ?_
   refine Qad 67 rfl kj ?_
   refine Qad 68 rfl kj ?_
   refine Qad 69 rfl kj ?_
   refine Qad 70 rfl kj ?_
   refine Qad 71 rfl kj ?_
   refine Qad 72 rfl kj ?_
   refine Qaa (.bool true) 73 rfl kj kj ?_
   refine Qaf ?_
   refine hK15 _ _ ?_
   refine cond_true kj ?_
   refine wp_seq_k fun K16 hK16=>?_
   refine Qab ?_
   refine Qaa (.bool false) 6 rfl kj kj ?_
   refine Qaf ?_
   refine hK16 _ _ ?_
   refine wp_ret ?_
   repeat (first | with_reducible refine goR1 ?_ | with_reducible refine goR2 ?_)
   exact (show bodyPost _ _ _ .ret _ _ from ret1 (.bool false) rfl (Qaq kj) ⟨congrArg (fun z=>Ending.returned (.bool z)) ((Qbn h h1 h2).trans (QcV (k:=k) (by rw [←ent]; exact hlt28) (by rw [←ent]; exact hb))).symm,xx1⟩)
  ·skip
   have hb:msOk ts ((L:Nat):Int) ((x:Nat):Int) nt.n.ms k=false:=by unfold msOk; rw [Qe5 (by omega),Bool.and_false]
   refine Qab ?_
   refine Qaa (.int .i64 (nth (nt.n.ms) (k))) 36 rfl kj kj ?_
   refine Qaa (.bool false) 37 rfl kj (Qai (u:=.bool (decide ((nth (nt.n.ms) (k))<0))) kj (congrArg Value.bool (decide_eq_false (by omega)))) ?_
   refine Qaa (.bool false) 38 rfl kj kj ?_
   refine Qaa (.int .i64 (nth (nt.n.ms) (k))) 39 rfl kj kj ?_
   refine Qaa (.int .i64 ((L:Nat):Int)) 40 rfl kj kj ?_
   refine Qaa (.bool true) 41 rfl kj (Qai (u:=.bool (decide ((nth (nt.n.ms) (k))≥((L:Nat):Int)))) kj (congrArg Value.bool (decide_eq_true (by omega)))) ?_
   refine Qaa (.bool true) 42 rfl kj kj ?_
   refine Qaa (.bool true) 43 rfl kj kj ?_
   refine Qad 44 rfl kj ?_
   refine Qad 45 rfl kj ?_
   refine Qad 46 rfl kj ?_
   refine Qad 47 rfl kj ?_
   refine Qad 48 rfl kj ?_
   refine Qad 49 rfl kj ?_
   refine Qad 50 rfl kj ?_
   refine Qad 51 rfl kj ?_
   refine Qad 52 rfl kj ?_
   refine Qad 53 rfl kj ?_
   refine Qad 54 rfl kj ?_
   refine Qad 55 rfl kj ?_
   refine Qaa (.bool true) 56 rfl kj kj ?_
   refine Qaa (.bool true) 57 rfl kj kj ?_
   refine Qad 58 rfl kj ?_
   refine Qad 59 rfl kj ?_
   refine Qad 60 rfl kj ?_
   refine Qad 61 rfl kj ?_
   refine Qad 62 rfl kj ?_
   refine Qad 63 rfl kj ?_
   refine Qad 64 rfl kj ?_
   refine Qaa (.bool true) 65 rfl kj kj ?_
   refine Qaa (.bool true) 66 rfl kj kj ?_
   refine Qad 67 rfl kj ?_
   refine Qad 68 rfl kj ?_
   refine Qad 69 rfl kj ?_
   refine Qad 70 rfl kj ?_
   refine Qad 71 rfl kj ?_
   refine Qad 72 rfl kj ?_
   refine Qaa (.bool true) 73 rfl kj kj ?_
   refine Qaf ?_
   refine hK15 _ _ ?_
   refine cond_true kj ?_
   refine wp_seq_k fun K17 hK17=>?_
   refine Qab ?_
   refine Qaa (.bool false) 6 rfl kj kj ?_
   refine Qaf ?_
   refine hK17 _ _ ?_
   refine wp_ret ?_
   repeat (first | with_reducible refine goR1 ?_ | with_reducible refine goR2 ?_)
   exact (show bodyPost _ _ _ .ret _ _ from ret1 (.bool false) rfl (Qaq kj) ⟨congrArg (fun z=>Ending.returned (.bool z)) ((Qbn h h1 h2).trans (QcV (k:=k) (by rw [←ent]; exact hlt28) (by rw [←ent]; exact hb))).symm,xx1⟩)
  ·skip
   have hb:msOk ts ((L:Nat):Int) ((x:Nat):Int) nt.n.ms k=false:=by unfold msOk; rw [beq_eq_false_iff_ne.2 (by omega),decide_eq_false (by omega)]; rfl
   refine Qab ?_
   refine Qaa (.int .i64 (nth (nt.n.ms) (k))) 36 rfl kj kj ?_
   refine Qaa (.bool false) 37 rfl kj (Qai (u:=.bool (decide ((nth (nt.n.ms) (k))<0))) kj (congrArg Value.bool (decide_eq_false (by omega)))) ?_
   refine Qaa (.bool false) 38 rfl kj kj ?_
   refine Qaa (.int .i64 (nth (nt.n.ms) (k))) 39 rfl kj kj ?_
   refine Qaa (.int .i64 ((L:Nat):Int)) 40 rfl kj kj ?_
   refine Qaa (.bool false) 41 rfl kj (Qai (u:=.bool (decide ((nth (nt.n.ms) (k))≥((L:Nat):Int)))) kj (congrArg Value.bool (decide_eq_false (by omega)))) ?_
   refine Qaa (.bool false) 42 rfl kj kj ?_
   refine Qaa (.bool false) 43 rfl kj kj ?_
   refine Qaa (.int .i64 ((k:Nat):Int)) 44 rfl kj kj ?_
   refine Qaa (.bool true) 45 rfl kj (Qai (u:=.bool (decide (((k:Nat):Int)>0))) kj (congrArg Value.bool (decide_eq_true (by omega)))) ?_
   refine Qaa (.bool true) 46 rfl kj kj ?_
   refine Qaa (.int .i64 (nth (nt.n.ms) (k))) 47 rfl kj kj ?_
   refine Qaa (.pointer (some ⟨g3,98,none⟩)) 48 rfl kj kj ?_
   refine Qaa (.slice nt.a nt.n.ms.length nt.c) 49 rfl kj (Qag 24 _ g3 98 50 _ (.slice nt.a nt.n.ms.length nt.c) _ r3_3 rfl kj (Qaj [#[.bool nt.n.us],#[.int .i64 nt.n.nm],ints .u8 (nt.n.key),ints .u8 (nt.n.sg),ints .u8 (nt.n.pa)] [#[.slice nt.a nt.n.ms.length nt.c]] [] 98 (by rw [Qac,Qac,Qac,Qac,Qac]; simp only [qS,cat,((Qae _ _).trans okt.gl),((Qae _ _).trans okt.kl),((Qae _ _).trans okt.pl)]; rfl) 0 _ rfl) kj) ?_
   refine Qaa (.int .i64 ((k:Nat):Int)) 50 rfl kj kj ?_
   refine Qaa (.int .i64 ((k-1:Nat):Int)) 51 rfl kj (Qai (u:=.int .i64 (IntKind.i64.wrap (((k:Nat):Int)-1))) kj (congrArg (Value.int .i64) (i64n _ _ (by omega) (by omega)))) ?_
   refine Qaa (.pointer (some ⟨gcx_11,ocx_11+(k-1),none⟩)) 52 rfl kj (Qa6 24 _ _ .i64 (k-1) gcx_11 ocx_11 nt.n.ms.length nt.c 3 nt.a _ hax_11 rfl rfl kj kj kj kj (Nat.lt_of_lt_of_eq (show k-1<nt.n.ms.length by omega) hnx_11.symm)) ?_
   refine Qaa (.int .i64 (nth (nt.n.ms) ((k-1)))) 53 rfl kj (Qak 3 _ _ (.int .i64 (nth (nt.n.ms) ((k-1)))) (hcx_11 (k-1) (Nat.lt_of_lt_of_eq (show k-1<nt.n.ms.length by omega) hnx_11.symm)) rfl kj kj) ?_
   refine Qaa (.bool true) 54 rfl kj (Qai (u:=.bool (decide ((nth (nt.n.ms) (k))≤(nth (nt.n.ms) ((k-1)))))) kj (congrArg Value.bool (decide_eq_true (by omega)))) ?_
   refine Qaa (.bool true) 55 rfl kj kj ?_
   refine Qaa (.bool true) 56 rfl kj kj ?_
   refine Qaa (.bool true) 57 rfl kj kj ?_
   refine Qad 58 rfl kj ?_
   refine Qad 59 rfl kj ?_
   refine Qad 60 rfl kj ?_
   refine Qad 61 rfl kj ?_
   refine Qad 62 rfl kj ?_
   refine Qad 63 rfl kj ?_
   refine Qad 64 rfl kj ?_
   refine Qaa (.bool true) 65 rfl kj kj ?_
   refine Qaa (.bool true) 66 rfl kj kj ?_
   refine Qad 67 rfl kj ?_
   refine Qad 68 rfl kj ?_
   refine Qad 69 rfl kj ?_
   refine Qad 70 rfl kj ?_
   refine Qad 71 rfl kj ?_
   refine Qad 72 rfl kj ?_
   refine Qaa (.bool true) 73 rfl kj kj ?_
   refine Qaf ?_
   refine hK15 _ _ ?_
   refine cond_true kj ?_
   refine wp_seq_k fun K18 hK18=>?_
   refine Qab ?_
   refine Qaa (.bool false) 6 rfl kj kj ?_
   refine Qaf ?_
   refine hK18 _ _ ?_
   refine wp_ret ?_
   repeat (first | with_reducible refine goR1 ?_ | with_reducible refine goR2 ?_)
   exact (show bodyPost _ _ _ .ret _ _ from ret1 (.bool false) rfl (Qaq kj) ⟨congrArg (fun z=>Ending.returned (.bool z)) ((Qbn h h1 h2).trans (QcV (k:=k) (by rw [←ent]; exact hlt28) (by rw [←ent]; exact hb))).symm,xx1⟩)
  ·skip
   obtain ⟨m,hm⟩:∃ m:Nat,nth nt.n.ms k=((m:Nat):Int):=⟨(nth nt.n.ms k).toNat,by omega⟩
   have hml2:m<L:=by omega
   have hb0:msOk ts ((L:Nat):Int) ((x:Nat):Int) nt.n.ms k=Qbg ts ((L:Nat):Int) ((x:Nat):Int) ((m:Nat):Int):=by unfold msOk; rw [hm,hQ.1]; rfl
   obtain ⟨gzT,ozT,haz,hnzs⟩:=TrAt.ext ht xx1
   have hnz:=hnzs (2*m) (by omega)
   obtain ⟨nz,enz⟩:∃ z,z=ndi ts (2*m):=⟨_,rfl⟩
   rw [←enz] at hnz
   have okz:=hnz.ok
   have rdz:=hnz.rd
   have hzu:nz.n.us=false:=by rw [enz]; have h9:=hQ.2; rw [hm] at h9; exact h9
   have hb:msOk ts ((L:Nat):Int) ((x:Nat):Int) nt.n.ms k=false:=hb0.trans (QeO (enz▸hzu))
   refine Qab ?_
   refine Qaa (.int .i64 (nth (nt.n.ms) (k))) 36 rfl kj kj ?_
   refine Qaa (.bool false) 37 rfl kj (Qai (u:=.bool (decide ((nth (nt.n.ms) (k))<0))) kj (congrArg Value.bool (decide_eq_false (by omega)))) ?_
   refine Qaa (.bool false) 38 rfl kj kj ?_
   refine Qaa (.int .i64 (nth (nt.n.ms) (k))) 39 rfl kj kj ?_
   refine Qaa (.int .i64 ((L:Nat):Int)) 40 rfl kj kj ?_
   refine Qaa (.bool false) 41 rfl kj (Qai (u:=.bool (decide ((nth (nt.n.ms) (k))≥((L:Nat):Int)))) kj (congrArg Value.bool (decide_eq_false (by omega)))) ?_
   refine Qaa (.bool false) 42 rfl kj kj ?_
   refine Qaa (.bool false) 43 rfl kj kj ?_
   refine Qaa (.int .i64 ((k:Nat):Int)) 44 rfl kj kj ?_
   refine Qaa (.bool false) 45 rfl kj (Qai (u:=.bool (decide (((k:Nat):Int)>0))) kj (congrArg Value.bool (decide_eq_false (by omega)))) ?_
   refine Qaa (.bool false) 46 rfl kj kj ?_
   refine Qad 47 rfl kj ?_
   refine Qad 48 rfl kj ?_
   refine Qad 49 rfl kj ?_
   refine Qad 50 rfl kj ?_
   refine Qad 51 rfl kj ?_
   refine Qad 52 rfl kj ?_
   refine Qad 53 rfl kj ?_
   refine Qad 54 rfl kj ?_
   refine Qaa (.bool false) 55 rfl kj kj ?_
   refine Qaa (.bool false) 56 rfl kj kj ?_
   refine Qaa (.bool false) 57 rfl kj kj ?_
   refine Qaa (.slice a_t ts.length c_t) 58 rfl kj kj ?_
   refine Qaa (.int .i64 (nth (nt.n.ms) (k))) 59 rfl kj kj ?_
   refine Qaa (.int .i64 (((2*m:Nat):Int))) 60 rfl kj (Qai (u:=.int .i64 (IntKind.i64.wrap (2*(nth (nt.n.ms) (k))))) kj (congrArg (Value.int .i64) (by rw [hm]; exact ((IntWalk.i64_in _ (by omega)).trans (by omega))))) ?_
   refine Qaa (.pointer (some ⟨gzT,ozT+(2*m)*99,none⟩)) 61 rfl kj (Qap 23 _ _ .i64 (2*m) gzT ozT ts.length c_t 50 99 a_t (haz (by omega)) rfl kj kj kj kj (by omega)) ?_
   refine Qaa (.pointer (some ⟨gzT,ozT+(2*m)*99,none⟩)) 62 rfl kj kj ?_
   refine Qaa (.bool false) 63 rfl kj (Qak 4 _ _ (.bool false) ((NdAt.at3 hnz).1.trans (congrArg (fun z=>some (Value.bool z)) hzu)) rfl kj kj) ?_
   refine Qaa (.bool true) 64 rfl kj kj ?_
   refine Qaa (.bool true) 65 rfl kj kj ?_
   refine Qaa (.bool true) 66 rfl kj kj ?_
   refine Qad 67 rfl kj ?_
   refine Qad 68 rfl kj ?_
   refine Qad 69 rfl kj ?_
   refine Qad 70 rfl kj ?_
   refine Qad 71 rfl kj ?_
   refine Qad 72 rfl kj ?_
   refine Qaa (.bool true) 73 rfl kj kj ?_
   refine Qaf ?_
   refine hK15 _ _ ?_
   refine cond_true kj ?_
   refine wp_seq_k fun K19 hK19=>?_
   refine Qab ?_
   refine Qaa (.bool false) 6 rfl kj kj ?_
   refine Qaf ?_
   refine hK19 _ _ ?_
   refine wp_ret ?_
   repeat (first | with_reducible refine goR1 ?_ | with_reducible refine goR2 ?_)
   exact (show bodyPost _ _ _ .ret _ _ from ret1 (.bool false) rfl (Qaq kj) ⟨congrArg (fun z=>Ending.returned (.bool z)) ((Qbn h h1 h2).trans (QcV (k:=k) (by rw [←ent]; exact hlt28) (by rw [←ent]; exact hb))).symm,xx1⟩)
  ·skip
   obtain ⟨m,hm⟩:∃ m:Nat,nth nt.n.ms k=((m:Nat):Int):=⟨(nth nt.n.ms k).toNat,by omega⟩
   have hml2:m<L:=by omega
   have hb0:msOk ts ((L:Nat):Int) ((x:Nat):Int) nt.n.ms k=Qbg ts ((L:Nat):Int) ((x:Nat):Int) ((m:Nat):Int):=by unfold msOk; rw [decide_eq_true hQ.1.2,hm,Bool.or_true,Bool.true_and]
   obtain ⟨gzT,ozT,haz,hnzs⟩:=TrAt.ext ht xx1
   have hnz:=hnzs (2*m) (by omega)
   obtain ⟨nz,enz⟩:∃ z,z=ndi ts (2*m):=⟨_,rfl⟩
   rw [←enz] at hnz
   have okz:=hnz.ok
   have rdz:=hnz.rd
   have hzu:nz.n.us=false:=by rw [enz]; have h9:=hQ.2; rw [hm] at h9; exact h9
   have hb:msOk ts ((L:Nat):Int) ((x:Nat):Int) nt.n.ms k=false:=hb0.trans (QeO (enz▸hzu))
   refine Qab ?_
   refine Qaa (.int .i64 (nth (nt.n.ms) (k))) 36 rfl kj kj ?_
   refine Qaa (.bool false) 37 rfl kj (Qai (u:=.bool (decide ((nth (nt.n.ms) (k))<0))) kj (congrArg Value.bool (decide_eq_false (by omega)))) ?_
   refine Qaa (.bool false) 38 rfl kj kj ?_
   refine Qaa (.int .i64 (nth (nt.n.ms) (k))) 39 rfl kj kj ?_
   refine Qaa (.int .i64 ((L:Nat):Int)) 40 rfl kj kj ?_
   refine Qaa (.bool false) 41 rfl kj (Qai (u:=.bool (decide ((nth (nt.n.ms) (k))≥((L:Nat):Int)))) kj (congrArg Value.bool (decide_eq_false (by omega)))) ?_
   refine Qaa (.bool false) 42 rfl kj kj ?_
   refine Qaa (.bool false) 43 rfl kj kj ?_
   refine Qaa (.int .i64 ((k:Nat):Int)) 44 rfl kj kj ?_
   refine Qaa (.bool true) 45 rfl kj (Qai (u:=.bool (decide (((k:Nat):Int)>0))) kj (congrArg Value.bool (decide_eq_true (by omega)))) ?_
   refine Qaa (.bool true) 46 rfl kj kj ?_
   refine Qaa (.int .i64 (nth (nt.n.ms) (k))) 47 rfl kj kj ?_
   refine Qaa (.pointer (some ⟨g3,98,none⟩)) 48 rfl kj kj ?_
   refine Qaa (.slice nt.a nt.n.ms.length nt.c) 49 rfl kj (Qag 24 _ g3 98 50 _ (.slice nt.a nt.n.ms.length nt.c) _ r3_3 rfl kj (Qaj [#[.bool nt.n.us],#[.int .i64 nt.n.nm],ints .u8 (nt.n.key),ints .u8 (nt.n.sg),ints .u8 (nt.n.pa)] [#[.slice nt.a nt.n.ms.length nt.c]] [] 98 (by rw [Qac,Qac,Qac,Qac,Qac]; simp only [qS,cat,((Qae _ _).trans okt.gl),((Qae _ _).trans okt.kl),((Qae _ _).trans okt.pl)]; rfl) 0 _ rfl) kj) ?_
   refine Qaa (.int .i64 ((k:Nat):Int)) 50 rfl kj kj ?_
   refine Qaa (.int .i64 ((k-1:Nat):Int)) 51 rfl kj (Qai (u:=.int .i64 (IntKind.i64.wrap (((k:Nat):Int)-1))) kj (congrArg (Value.int .i64) (i64n _ _ (by omega) (by omega)))) ?_
   refine Qaa (.pointer (some ⟨gcx_11,ocx_11+(k-1),none⟩)) 52 rfl kj (Qa6 24 _ _ .i64 (k-1) gcx_11 ocx_11 nt.n.ms.length nt.c 3 nt.a _ hax_11 rfl rfl kj kj kj kj (Nat.lt_of_lt_of_eq (show k-1<nt.n.ms.length by omega) hnx_11.symm)) ?_
   refine Qaa (.int .i64 (nth (nt.n.ms) ((k-1)))) 53 rfl kj (Qak 3 _ _ (.int .i64 (nth (nt.n.ms) ((k-1)))) (hcx_11 (k-1) (Nat.lt_of_lt_of_eq (show k-1<nt.n.ms.length by omega) hnx_11.symm)) rfl kj kj) ?_
   refine Qaa (.bool false) 54 rfl kj (Qai (u:=.bool (decide ((nth (nt.n.ms) (k))≤(nth (nt.n.ms) ((k-1)))))) kj (congrArg Value.bool (decide_eq_false (by omega)))) ?_
   refine Qaa (.bool false) 55 rfl kj kj ?_
   refine Qaa (.bool false) 56 rfl kj kj ?_
   refine Qaa (.bool false) 57 rfl kj kj ?_
   refine Qaa (.slice a_t ts.length c_t) 58 rfl kj kj ?_
   refine Qaa (.int .i64 (nth (nt.n.ms) (k))) 59 rfl kj kj ?_
   refine Qaa (.int .i64 (((2*m:Nat):Int))) 60 rfl kj (Qai (u:=.int .i64 (IntKind.i64.wrap (2*(nth (nt.n.ms) (k))))) kj (congrArg (Value.int .i64) (by rw [hm]; exact ((IntWalk.i64_in _ (by omega)).trans (by omega))))) ?_
   refine Qaa (.pointer (some ⟨gzT,ozT+(2*m)*99,none⟩)) 61 rfl kj (Qap 23 _ _ .i64 (2*m) gzT ozT ts.length c_t 50 99 a_t (haz (by omega)) rfl kj kj kj kj (by omega)) ?_
   refine Qaa (.pointer (some ⟨gzT,ozT+(2*m)*99,none⟩)) 62 rfl kj kj ?_
   refine Qaa (.bool false) 63 rfl kj (Qak 4 _ _ (.bool false) ((NdAt.at3 hnz).1.trans (congrArg (fun z=>some (Value.bool z)) hzu)) rfl kj kj) ?_
   refine Qaa (.bool true) 64 rfl kj kj ?_
   refine Qaa (.bool true) 65 rfl kj kj ?_
   refine Qaa (.bool true) 66 rfl kj kj ?_
   refine Qad 67 rfl kj ?_
   refine Qad 68 rfl kj ?_
   refine Qad 69 rfl kj ?_
   refine Qad 70 rfl kj ?_
   refine Qad 71 rfl kj ?_
   refine Qad 72 rfl kj ?_
   refine Qaa (.bool true) 73 rfl kj kj ?_
   refine Qaf ?_
   refine hK15 _ _ ?_
   refine cond_true kj ?_
   refine wp_seq_k fun K20 hK20=>?_
   refine Qab ?_
   refine Qaa (.bool false) 6 rfl kj kj ?_
   refine Qaf ?_
   refine hK20 _ _ ?_
   refine wp_ret ?_
   repeat (first | with_reducible refine goR1 ?_ | with_reducible refine goR2 ?_)
   exact (show bodyPost _ _ _ .ret _ _ from ret1 (.bool false) rfl (Qaq kj) ⟨congrArg (fun z=>Ending.returned (.bool z)) ((Qbn h h1 h2).trans (QcV (k:=k) (by rw [←ent]; exact hlt28) (by rw [←ent]; exact hb))).symm,xx1⟩)
  ·skip
   obtain ⟨m,hm⟩:∃ m:Nat,nth nt.n.ms k=((m:Nat):Int):=⟨(nth nt.n.ms k).toNat,by omega⟩
   have hml2:m<L:=by omega
   have hb0:msOk ts ((L:Nat):Int) ((x:Nat):Int) nt.n.ms k=Qbg ts ((L:Nat):Int) ((x:Nat):Int) ((m:Nat):Int):=by unfold msOk; rw [hm,hQ.1]; rfl
   obtain ⟨gzT,ozT,haz,hnzs⟩:=TrAt.ext ht xx1
   have hnz:=hnzs (2*m) (by omega)
   obtain ⟨nz,enz⟩:∃ z,z=ndi ts (2*m):=⟨_,rfl⟩
   rw [←enz] at hnz
   have okz:=hnz.ok
   have rdz:=hnz.rd
   have hzu:nz.n.us=true:=by rw [enz]; have h9:=hQ.2.1; rw [hm] at h9; exact h9
   have habz:abv ((x:Nat):Int) (2*((m:Nat):Int)) ((L:Nat):Int)=false:=by have h9:=hQ.2.2; rw [hm] at h9; exact h9
   have hb:msOk ts ((L:Nat):Int) ((x:Nat):Int) nt.n.ms k=false:=hb0.trans (Qgj hxn (by omega) habz)
   refine Qab ?_
   refine Qaa (.int .i64 (nth (nt.n.ms) (k))) 36 rfl kj kj ?_
   refine Qaa (.bool false) 37 rfl kj (Qai (u:=.bool (decide ((nth (nt.n.ms) (k))<0))) kj (congrArg Value.bool (decide_eq_false (by omega)))) ?_
   refine Qaa (.bool false) 38 rfl kj kj ?_
   refine Qaa (.int .i64 (nth (nt.n.ms) (k))) 39 rfl kj kj ?_
   refine Qaa (.int .i64 ((L:Nat):Int)) 40 rfl kj kj ?_
   refine Qaa (.bool false) 41 rfl kj (Qai (u:=.bool (decide ((nth (nt.n.ms) (k))≥((L:Nat):Int)))) kj (congrArg Value.bool (decide_eq_false (by omega)))) ?_
   refine Qaa (.bool false) 42 rfl kj kj ?_
   refine Qaa (.bool false) 43 rfl kj kj ?_
   refine Qaa (.int .i64 ((k:Nat):Int)) 44 rfl kj kj ?_
   refine Qaa (.bool false) 45 rfl kj (Qai (u:=.bool (decide (((k:Nat):Int)>0))) kj (congrArg Value.bool (decide_eq_false (by omega)))) ?_
   refine Qaa (.bool false) 46 rfl kj kj ?_
   refine Qad 47 rfl kj ?_
   refine Qad 48 rfl kj ?_
   refine Qad 49 rfl kj ?_
   refine Qad 50 rfl kj ?_
   refine Qad 51 rfl kj ?_
   refine Qad 52 rfl kj ?_
   refine Qad 53 rfl kj ?_
   refine Qad 54 rfl kj ?_
   refine Qaa (.bool false) 55 rfl kj kj ?_
   refine Qaa (.bool false) 56 rfl kj kj ?_
   refine Qaa (.bool false) 57 rfl kj kj ?_
   refine Qaa (.slice a_t ts.length c_t) 58 rfl kj kj ?_
   refine Qaa (.int .i64 (nth (nt.n.ms) (k))) 59 rfl kj kj ?_
   refine Qaa (.int .i64 (((2*m:Nat):Int))) 60 rfl kj (Qai (u:=.int .i64 (IntKind.i64.wrap (2*(nth (nt.n.ms) (k))))) kj (congrArg (Value.int .i64) (by rw [hm]; exact ((IntWalk.i64_in _ (by omega)).trans (by omega))))) ?_
   refine Qaa (.pointer (some ⟨gzT,ozT+(2*m)*99,none⟩)) 61 rfl kj (Qap 23 _ _ .i64 (2*m) gzT ozT ts.length c_t 50 99 a_t (haz (by omega)) rfl kj kj kj kj (by omega)) ?_
   refine Qaa (.pointer (some ⟨gzT,ozT+(2*m)*99,none⟩)) 62 rfl kj kj ?_
   refine Qaa (.bool true) 63 rfl kj (Qak 4 _ _ (.bool true) ((NdAt.at3 hnz).1.trans (congrArg (fun z=>some (Value.bool z)) hzu)) rfl kj kj) ?_
   refine Qaa (.bool false) 64 rfl kj kj ?_
   refine Qaa (.bool false) 65 rfl kj kj ?_
   refine Qaa (.bool false) 66 rfl kj kj ?_
   refine Qaa (.int .i64 ((x:Nat):Int)) 67 rfl kj kj ?_
   refine Qaa (.int .i64 (nth (nt.n.ms) (k))) 68 rfl kj kj ?_
   refine Qaa (.int .i64 (2*((m:Nat):Int))) 69 rfl kj (Qai (u:=.int .i64 (IntKind.i64.wrap (2*(nth (nt.n.ms) (k))))) kj (congrArg (Value.int .i64) (by rw [hm]; exact IntWalk.i64_in _ (by omega)))) ?_
   refine Qaa (.int .i64 ((L:Nat):Int)) 70 rfl kj kj ?_
   refine Qal (.bool false) 42 #[.int .i64 ((x:Nat):Int),.int .i64 (2*((m:Nat):Int)),.int .i64 ((L:Nat):Int)] 71 rfl kj kj (QbB _ _ _ false habz _) fun W4 e4=>?_
   have x4:Ext w W4:=Ext.tr xx1 e4
   refine Qaa (.bool true) 72 rfl kj kj ?_
   refine Qaa (.bool true) 73 rfl kj kj ?_
   refine Qaf ?_
   refine hK15 _ _ ?_
   refine cond_true kj ?_
   refine wp_seq_k fun K21 hK21=>?_
   refine Qab ?_
   refine Qaa (.bool false) 6 rfl kj kj ?_
   refine Qaf ?_
   refine hK21 _ _ ?_
   refine wp_ret ?_
   repeat (first | with_reducible refine goR1 ?_ | with_reducible refine goR2 ?_)
   exact (show bodyPost _ _ _ .ret _ _ from ret1 (.bool false) rfl (Qaq kj) ⟨congrArg (fun z=>Ending.returned (.bool z)) ((Qbn h h1 h2).trans (QcV (k:=k) (by rw [←ent]; exact hlt28) (by rw [←ent]; exact hb))).symm,x4⟩)
  ·skip
   obtain ⟨m,hm⟩:∃ m:Nat,nth nt.n.ms k=((m:Nat):Int):=⟨(nth nt.n.ms k).toNat,by omega⟩
   have hml2:m<L:=by omega
   have hb0:msOk ts ((L:Nat):Int) ((x:Nat):Int) nt.n.ms k=Qbg ts ((L:Nat):Int) ((x:Nat):Int) ((m:Nat):Int):=by unfold msOk; rw [decide_eq_true hQ.1.2,hm,Bool.or_true,Bool.true_and]
   obtain ⟨gzT,ozT,haz,hnzs⟩:=TrAt.ext ht xx1
   have hnz:=hnzs (2*m) (by omega)
   obtain ⟨nz,enz⟩:∃ z,z=ndi ts (2*m):=⟨_,rfl⟩
   rw [←enz] at hnz
   have okz:=hnz.ok
   have rdz:=hnz.rd
   have hzu:nz.n.us=true:=by rw [enz]; have h9:=hQ.2.1; rw [hm] at h9; exact h9
   have habz:abv ((x:Nat):Int) (2*((m:Nat):Int)) ((L:Nat):Int)=false:=by have h9:=hQ.2.2; rw [hm] at h9; exact h9
   have hb:msOk ts ((L:Nat):Int) ((x:Nat):Int) nt.n.ms k=false:=hb0.trans (Qgj hxn (by omega) habz)
   refine Qab ?_
   refine Qaa (.int .i64 (nth (nt.n.ms) (k))) 36 rfl kj kj ?_
   refine Qaa (.bool false) 37 rfl kj (Qai (u:=.bool (decide ((nth (nt.n.ms) (k))<0))) kj (congrArg Value.bool (decide_eq_false (by omega)))) ?_
   refine Qaa (.bool false) 38 rfl kj kj ?_
   refine Qaa (.int .i64 (nth (nt.n.ms) (k))) 39 rfl kj kj ?_
   refine Qaa (.int .i64 ((L:Nat):Int)) 40 rfl kj kj ?_
   refine Qaa (.bool false) 41 rfl kj (Qai (u:=.bool (decide ((nth (nt.n.ms) (k))≥((L:Nat):Int)))) kj (congrArg Value.bool (decide_eq_false (by omega)))) ?_
   refine Qaa (.bool false) 42 rfl kj kj ?_
   refine Qaa (.bool false) 43 rfl kj kj ?_
   refine Qaa (.int .i64 ((k:Nat):Int)) 44 rfl kj kj ?_
   refine Qaa (.bool true) 45 rfl kj (Qai (u:=.bool (decide (((k:Nat):Int)>0))) kj (congrArg Value.bool (decide_eq_true (by omega)))) ?_
   refine Qaa (.bool true) 46 rfl kj kj ?_
   refine Qaa (.int .i64 (nth (nt.n.ms) (k))) 47 rfl kj kj ?_
   refine Qaa (.pointer (some ⟨g3,98,none⟩)) 48 rfl kj kj ?_
   refine Qaa (.slice nt.a nt.n.ms.length nt.c) 49 rfl kj (Qag 24 _ g3 98 50 _ (.slice nt.a nt.n.ms.length nt.c) _ r3_3 rfl kj (Qaj [#[.bool nt.n.us],#[.int .i64 nt.n.nm],ints .u8 (nt.n.key),ints .u8 (nt.n.sg),ints .u8 (nt.n.pa)] [#[.slice nt.a nt.n.ms.length nt.c]] [] 98 (by rw [Qac,Qac,Qac,Qac,Qac]; simp only [qS,cat,((Qae _ _).trans okt.gl),((Qae _ _).trans okt.kl),((Qae _ _).trans okt.pl)]; rfl) 0 _ rfl) kj) ?_
   refine Qaa (.int .i64 ((k:Nat):Int)) 50 rfl kj kj ?_
   refine Qaa (.int .i64 ((k-1:Nat):Int)) 51 rfl kj (Qai (u:=.int .i64 (IntKind.i64.wrap (((k:Nat):Int)-1))) kj (congrArg (Value.int .i64) (i64n _ _ (by omega) (by omega)))) ?_
   refine Qaa (.pointer (some ⟨gcx_11,ocx_11+(k-1),none⟩)) 52 rfl kj (Qa6 24 _ _ .i64 (k-1) gcx_11 ocx_11 nt.n.ms.length nt.c 3 nt.a _ hax_11 rfl rfl kj kj kj kj (Nat.lt_of_lt_of_eq (show k-1<nt.n.ms.length by omega) hnx_11.symm)) ?_
   refine Qaa (.int .i64 (nth (nt.n.ms) ((k-1)))) 53 rfl kj (Qak 3 _ _ (.int .i64 (nth (nt.n.ms) ((k-1)))) (hcx_11 (k-1) (Nat.lt_of_lt_of_eq (show k-1<nt.n.ms.length by omega) hnx_11.symm)) rfl kj kj) ?_
   refine Qaa (.bool false) 54 rfl kj (Qai (u:=.bool (decide ((nth (nt.n.ms) (k))≤(nth (nt.n.ms) ((k-1)))))) kj (congrArg Value.bool (decide_eq_false (by omega)))) ?_
   refine Qaa (.bool false) 55 rfl kj kj ?_
   refine Qaa (.bool false) 56 rfl kj kj ?_
   refine Qaa (.bool false) 57 rfl kj kj ?_
   refine Qaa (.slice a_t ts.length c_t) 58 rfl kj kj ?_
   refine Qaa (.int .i64 (nth (nt.n.ms) (k))) 59 rfl kj kj ?_
   refine Qaa (.int .i64 (((2*m:Nat):Int))) 60 rfl kj (Qai (u:=.int .i64 (IntKind.i64.wrap (2*(nth (nt.n.ms) (k))))) kj (congrArg (Value.int .i64) (by rw [hm]; exact ((IntWalk.i64_in _ (by omega)).trans (by omega))))) ?_
   refine Qaa (.pointer (some ⟨gzT,ozT+(2*m)*99,none⟩)) 61 rfl kj (Qap 23 _ _ .i64 (2*m) gzT ozT ts.length c_t 50 99 a_t (haz (by omega)) rfl kj kj kj kj (by omega)) ?_
   refine Qaa (.pointer (some ⟨gzT,ozT+(2*m)*99,none⟩)) 62 rfl kj kj ?_
   refine Qaa (.bool true) 63 rfl kj (Qak 4 _ _ (.bool true) ((NdAt.at3 hnz).1.trans (congrArg (fun z=>some (Value.bool z)) hzu)) rfl kj kj) ?_
   refine Qaa (.bool false) 64 rfl kj kj ?_
   refine Qaa (.bool false) 65 rfl kj kj ?_
   refine Qaa (.bool false) 66 rfl kj kj ?_
   refine Qaa (.int .i64 ((x:Nat):Int)) 67 rfl kj kj ?_
   refine Qaa (.int .i64 (nth (nt.n.ms) (k))) 68 rfl kj kj ?_
   refine Qaa (.int .i64 (2*((m:Nat):Int))) 69 rfl kj (Qai (u:=.int .i64 (IntKind.i64.wrap (2*(nth (nt.n.ms) (k))))) kj (congrArg (Value.int .i64) (by rw [hm]; exact IntWalk.i64_in _ (by omega)))) ?_
   refine Qaa (.int .i64 ((L:Nat):Int)) 70 rfl kj kj ?_
   refine Qal (.bool false) 42 #[.int .i64 ((x:Nat):Int),.int .i64 (2*((m:Nat):Int)),.int .i64 ((L:Nat):Int)] 71 rfl kj kj (QbB _ _ _ false habz _) fun W4 e4=>?_
   have x4:Ext w W4:=Ext.tr xx1 e4
   refine Qaa (.bool true) 72 rfl kj kj ?_
   refine Qaa (.bool true) 73 rfl kj kj ?_
   refine Qaf ?_
   refine hK15 _ _ ?_
   refine cond_true kj ?_
   refine wp_seq_k fun K22 hK22=>?_
   refine Qab ?_
   refine Qaa (.bool false) 6 rfl kj kj ?_
   refine Qaf ?_
   refine hK22 _ _ ?_
   refine wp_ret ?_
   repeat (first | with_reducible refine goR1 ?_ | with_reducible refine goR2 ?_)
   exact (show bodyPost _ _ _ .ret _ _ from ret1 (.bool false) rfl (Qaq kj) ⟨congrArg (fun z=>Ending.returned (.bool z)) ((Qbn h h1 h2).trans (QcV (k:=k) (by rw [←ent]; exact hlt28) (by rw [←ent]; exact hb))).symm,x4⟩)
  ·skip
   obtain ⟨m,hm⟩:∃ m:Nat,nth nt.n.ms k=((m:Nat):Int):=⟨(nth nt.n.ms k).toNat,by omega⟩
   have hml2:m<L:=by omega
   have hb0:msOk ts ((L:Nat):Int) ((x:Nat):Int) nt.n.ms k=Qbg ts ((L:Nat):Int) ((x:Nat):Int) ((m:Nat):Int):=by unfold msOk; rw [hm,hQ.1]; rfl
   obtain ⟨gzT,ozT,haz,hnzs⟩:=TrAt.ext ht xx1
   have hnz:=hnzs (2*m) (by omega)
   obtain ⟨nz,enz⟩:∃ z,z=ndi ts (2*m):=⟨_,rfl⟩
   rw [←enz] at hnz
   have okz:=hnz.ok
   have rdz:=hnz.rd
   have hzu:nz.n.us=true:=by rw [enz]; have h9:=hQ.2.1; rw [hm] at h9; exact h9
   have habz:abv ((x:Nat):Int) (2*((m:Nat):Int)) ((L:Nat):Int)=true:=by have h9:=hQ.2.2; rw [hm] at h9; exact h9
   have hQ1:=hQ.1
   replace hQ:True∧True∧abv ((x:Nat):Int) (2*((m:Nat):Int)) ((L:Nat):Int)=true:=⟨trivial,trivial,habz⟩
   refine Qab ?_
   refine Qaa (.int .i64 (nth (nt.n.ms) (k))) 36 rfl kj kj ?_
   refine Qaa (.bool false) 37 rfl kj (Qai (u:=.bool (decide ((nth (nt.n.ms) (k))<0))) kj (congrArg Value.bool (decide_eq_false (by omega)))) ?_
   refine Qaa (.bool false) 38 rfl kj kj ?_
   refine Qaa (.int .i64 (nth (nt.n.ms) (k))) 39 rfl kj kj ?_
   refine Qaa (.int .i64 ((L:Nat):Int)) 40 rfl kj kj ?_
   refine Qaa (.bool false) 41 rfl kj (Qai (u:=.bool (decide ((nth (nt.n.ms) (k))≥((L:Nat):Int)))) kj (congrArg Value.bool (decide_eq_false (by omega)))) ?_
   refine Qaa (.bool false) 42 rfl kj kj ?_
   refine Qaa (.bool false) 43 rfl kj kj ?_
   refine Qaa (.int .i64 ((k:Nat):Int)) 44 rfl kj kj ?_
   refine Qaa (.bool false) 45 rfl kj (Qai (u:=.bool (decide (((k:Nat):Int)>0))) kj (congrArg Value.bool (decide_eq_false (by omega)))) ?_
   refine Qaa (.bool false) 46 rfl kj kj ?_
   refine Qad 47 rfl kj ?_
   refine Qad 48 rfl kj ?_
   refine Qad 49 rfl kj ?_
   refine Qad 50 rfl kj ?_
   refine Qad 51 rfl kj ?_
   refine Qad 52 rfl kj ?_
   refine Qad 53 rfl kj ?_
   refine Qad 54 rfl kj ?_
   refine Qaa (.bool false) 55 rfl kj kj ?_
   refine Qaa (.bool false) 56 rfl kj kj ?_
   refine Qaa (.bool false) 57 rfl kj kj ?_
   refine Qaa (.slice a_t ts.length c_t) 58 rfl kj kj ?_
   refine Qaa (.int .i64 (nth (nt.n.ms) (k))) 59 rfl kj kj ?_
   refine Qaa (.int .i64 (((2*m:Nat):Int))) 60 rfl kj (Qai (u:=.int .i64 (IntKind.i64.wrap (2*(nth (nt.n.ms) (k))))) kj (congrArg (Value.int .i64) (by rw [hm]; exact ((IntWalk.i64_in _ (by omega)).trans (by omega))))) ?_
   refine Qaa (.pointer (some ⟨gzT,ozT+(2*m)*99,none⟩)) 61 rfl kj (Qap 23 _ _ .i64 (2*m) gzT ozT ts.length c_t 50 99 a_t (haz (by omega)) rfl kj kj kj kj (by omega)) ?_
   refine Qaa (.pointer (some ⟨gzT,ozT+(2*m)*99,none⟩)) 62 rfl kj kj ?_
   refine Qaa (.bool true) 63 rfl kj (Qak 4 _ _ (.bool true) ((NdAt.at3 hnz).1.trans (congrArg (fun z=>some (Value.bool z)) hzu)) rfl kj kj) ?_
   refine Qaa (.bool false) 64 rfl kj kj ?_
   refine Qaa (.bool false) 65 rfl kj kj ?_
   refine Qaa (.bool false) 66 rfl kj kj ?_
   refine Qaa (.int .i64 ((x:Nat):Int)) 67 rfl kj kj ?_
   refine Qaa (.int .i64 (nth (nt.n.ms) (k))) 68 rfl kj kj ?_
   refine Qaa (.int .i64 (2*((m:Nat):Int))) 69 rfl kj (Qai (u:=.int .i64 (IntKind.i64.wrap (2*(nth (nt.n.ms) (k))))) kj (congrArg (Value.int .i64) (by rw [hm]; exact IntWalk.i64_in _ (by omega)))) ?_
   refine Qaa (.int .i64 ((L:Nat):Int)) 70 rfl kj kj ?_
   refine Qal (.bool true) 42 #[.int .i64 ((x:Nat):Int),.int .i64 (2*((m:Nat):Int)),.int .i64 ((L:Nat):Int)] 71 rfl kj kj (QbB _ _ _ true habz _) fun W4 e4=>?_
   have x4:Ext w W4:=Ext.tr xx1 e4
   refine Qaa (.bool false) 72 rfl kj kj ?_
   refine Qaa (.bool false) 73 rfl kj kj ?_
   refine Qaf ?_
   refine hK15 _ _ ?_
   refine cond_false kj ?_
   refine wp_skip ?_
   refine hK14 _ _ ?_
   refine wp_seq_k fun K23 hK23=>?_
   refine Qab ?_
   refine Qaa (.int .i64 1) 10 rfl kj kj ?_
   refine Qaf ?_
   refine hK23 _ _ ?_
   refine wp_block ?_
   refine Qa0 (fun (s2:Nat)=>[(0,.slice a_t ts.length c_t),(1,.int .i64 ((x:Nat):Int)),(2,.int .i64 ((L:Nat):Int)),(7,.pointer (some ⟨g3,0,none⟩)),(8,.int .i64 ((k:Nat):Int)),(9,.int .i64 (nth (nt.n.ms) (k))),(10,.int .i64 ((2*s2+1:Nat):Int))]) (fun (s2:Nat) W=>(s2≤100000)∧(∀ j2,j2<s2→((2*j2+1:Nat):Int)≠((x:Nat):Int)→(ndi ts (2*j2+1)).n.us=true→abv ((x:Nat):Int) ((2*j2+1:Nat):Int) ((L:Nat):Int)=true→abv ((2*j2+1:Nat):Int) (2*((m:Nat):Int)) ((L:Nat):Int)=true→((m:Nat):Int)∈(ndi ts (2*j2+1)).n.ms)∧(Ext W4 W)∧(Ext w W)) (fun (s2:Nat)=>ts.length-s2) 0 ⟨rfl,rfl,rfl,rfl,rfl,rfl,rfl,trivial⟩ ⟨(Nat.zero_le _),(fun j2 hj=>absurd hj (Nat.not_lt_zero j2)),(Rely.Ext.refl W4),x4⟩ fun s2 X2 V2 hI2=>?_
   obtain ⟨j,hs2⟩:∃ z,z=s2:=⟨_,rfl⟩
   subst hs2
   obtain ⟨hj,hys,kk2,xx2⟩:=hI2
   replace hj:j≤100000:=hj
   replace hys:∀ j2,j2<j→((2*j2+1:Nat):Int)≠((x:Nat):Int)→(ndi ts (2*j2+1)).n.us=true→abv ((x:Nat):Int) ((2*j2+1:Nat):Int) ((L:Nat):Int)=true→abv ((2*j2+1:Nat):Int) (2*((m:Nat):Int)) ((L:Nat):Int)=true→((m:Nat):Int)∈(ndi ts (2*j2+1)).n.ms:=hys
   replace kk2:Ext W4 V2:=kk2
   replace xx2:Ext w V2:=xx2
   have e5:=kk2
   refine wp_seq_k fun K24 hK24=>?_
   refine wp_seq_k fun K25 hK25=>?_
   refine Qab ?_
   refine Qaa (.int .i64 ((2*j+1:Nat):Int)) 74 rfl kj kj ?_
   refine Qaa (.slice a_t ts.length c_t) 75 rfl kj kj ?_
   refine Qaa (.int .i64 ((ts.length:Nat):Int)) 76 rfl kj kj ?_
   refine Qaa (.bool (decide (((2*j+1:Nat):Int)<((ts.length:Nat):Int)))) 77 rfl kj kj ?_
   refine Qaf ?_
   refine hK25 _ _ ?_
   refine Qar (t:=decide (((2*j+1:Nat):Int)<((ts.length:Nat):Int))) kj (fun c26=>?_) (fun c26=>?_)
   ·skip
    have hy77:2*j+1<ts.length:=by have:=of_decide_eq_true c26; omega
    refine wp_skip ?_
    refine hK24 _ _ ?_
    refine wp_seq_k fun K27 hK27=>?_
    refine wp_block ?_
    refine wp_seq_k fun K28 hK28=>?_
    obtain ⟨gyT,oyT,hay,hnys⟩:=TrAt.ext ht xx2
    have hny:=hnys (2*j+1) (by omega)
    obtain ⟨ny,eny⟩:∃ z,z=ndi ts (2*j+1):=⟨_,rfl⟩
    rw [←eny] at hny
    have oky:=hny.ok
    have rdy:=hny.rd
    have hyn:Qa2 ((2*j+1:Nat):Int) ((L:Nat):Int)=true:=QaS hTr (by omega)
    rcases (show (2*j+1=x)∨(2*j+1≠x∧ny.n.us=false)∨(2*j+1≠x∧ny.n.us=true∧abv ((x:Nat):Int) ((2*j+1:Nat):Int) ((L:Nat):Int)=false)∨(2*j+1≠x∧ny.n.us=true∧abv ((x:Nat):Int) ((2*j+1:Nat):Int) ((L:Nat):Int)=true∧abv ((2*j+1:Nat):Int) (2*((m:Nat):Int)) ((L:Nat):Int)=false)∨(2*j+1≠x∧ny.n.us=true∧abv ((x:Nat):Int) ((2*j+1:Nat):Int) ((L:Nat):Int)=true∧abv ((2*j+1:Nat):Int) (2*((m:Nat):Int)) ((L:Nat):Int)=true∧nth nt.n.ms k∈ny.n.ms)∨(2*j+1≠x∧ny.n.us=true∧abv ((x:Nat):Int) ((2*j+1:Nat):Int) ((L:Nat):Int)=true∧abv ((2*j+1:Nat):Int) (2*((m:Nat):Int)) ((L:Nat):Int)=true∧nth nt.n.ms k∉ny.n.ms) from QjO _ _ _ _ _) with hq | hq | hq | hq | hq | hq
    ·skip
     have hyk:((2*j+1:Nat):Int)≠((x:Nat):Int)→(ndi ts (2*j+1)).n.us=true→abv ((x:Nat):Int) ((2*j+1:Nat):Int) ((L:Nat):Int)=true→abv ((2*j+1:Nat):Int) (2*((m:Nat):Int)) ((L:Nat):Int)=true→((m:Nat):Int)∈(ndi ts (2*j+1)).n.ms:=fun h1 h2 h3 h4=>absurd (by omega) h1
     refine Qab ?_
     refine Qaa (.int .i64 ((2*j+1:Nat):Int)) 80 rfl kj kj ?_
     refine Qaa (.int .i64 ((x:Nat):Int)) 81 rfl kj kj ?_
     refine Qaa (.bool false) 82 rfl kj (Qai (u:=.bool ((((2*j+1:Nat):Int) != ((x:Nat):Int)))) kj (congrArg Value.bool (bne_eq_false_iff_eq.2 (by omega)))) ?_
     refine Qaa (.bool false) 83 rfl kj kj ?_
     refine Qad 84 rfl kj ?_
     refine Qad 85 rfl kj ?_
     refine Qad 86 rfl kj ?_
     refine Qad 87 rfl kj ?_
     refine Qad 88 rfl kj ?_
     refine Qaa (.bool false) 89 rfl kj kj ?_
     refine Qaa (.bool false) 90 rfl kj kj ?_
     refine Qad 91 rfl kj ?_
     refine Qad 92 rfl kj ?_
     refine Qad 93 rfl kj ?_
     refine Qad 94 rfl kj ?_
     refine Qaa (.bool false) 95 rfl kj kj ?_
     refine Qaa (.bool false) 96 rfl kj kj ?_
     refine Qad 97 rfl kj ?_
     refine Qad 98 rfl kj ?_
     refine Qad 99 rfl kj ?_
     refine Qad 100 rfl kj ?_
     refine Qad 101 rfl kj ?_
     refine Qaa (.bool false) 102 rfl kj kj ?_
     refine Qaa (.bool false) 103 rfl kj kj ?_
     refine Qad 104 rfl kj ?_
     refine Qad 105 rfl kj ?_
     refine Qad 106 rfl kj ?_
     refine Qad 107 rfl kj ?_
     refine Qad 108 rfl kj ?_
     refine Qad 109 rfl kj ?_
     refine Qad 110 rfl kj ?_
     refine Qad 111 rfl kj ?_
     refine Qaa (.bool false) 112 rfl kj kj ?_
     refine Qaf ?_
     refine hK28 _ _ ?_
     refine cond_false kj ?_
     refine wp_skip ?_
     refine hK27 _ _ ?_
     refine Qab ?_
     refine Qaa (.int .i64 ((2*j+1:Nat):Int)) 78 rfl kj kj ?_
     refine Qaa (.int .i64 (((2*(j+1)+1:Nat):Int))) 79 rfl kj (Qai (u:=.int .i64 (IntKind.i64.wrap (((2*j+1:Nat):Int)+2))) kj (congrArg (Value.int .i64) ((IntWalk.i64_in _ (by omega)).trans (by omega)))) ?_
     refine Qaa (.int .i64 (((2*(j+1)+1:Nat):Int))) 10 rfl kj kj ?_
     refine Qaf ?_
     repeat (first | with_reducible refine goX1 ?_ | with_reducible refine goX2 ?_ | with_reducible refine goX3 ?_)
     exact Qat (j+1) ⟨rfl,rfl,rfl,rfl,rfl,rfl,rfl,trivial⟩ ⟨(by omega),(fun j2 hj=>by by_cases e:j2=j; (rw [e]; exact hyk); exact hys j2 (by omega)),e5,xx2⟩ (by show ts.length-(j+1)<ts.length-j; omega)
    ·skip
     have hyk:((2*j+1:Nat):Int)≠((x:Nat):Int)→(ndi ts (2*j+1)).n.us=true→abv ((x:Nat):Int) ((2*j+1:Nat):Int) ((L:Nat):Int)=true→abv ((2*j+1:Nat):Int) (2*((m:Nat):Int)) ((L:Nat):Int)=true→((m:Nat):Int)∈(ndi ts (2*j+1)).n.ms:=fun h1 h2 h3 h4=>by rw [←eny,hq.2] at h2; cases h2
     refine Qab ?_
     refine Qaa (.int .i64 ((2*j+1:Nat):Int)) 80 rfl kj kj ?_
     refine Qaa (.int .i64 ((x:Nat):Int)) 81 rfl kj kj ?_
     refine Qaa (.bool true) 82 rfl kj (Qai (u:=.bool ((((2*j+1:Nat):Int) != ((x:Nat):Int)))) kj (congrArg Value.bool (bne_iff_ne.2 (by omega)))) ?_
     refine Qaa (.bool true) 83 rfl kj kj ?_
     refine Qaa (.slice a_t ts.length c_t) 84 rfl kj kj ?_
     refine Qaa (.int .i64 ((2*j+1:Nat):Int)) 85 rfl kj kj ?_
     refine Qaa (.pointer (some ⟨gyT,oyT+(2*j+1)*99,none⟩)) 86 rfl kj (Qap 23 _ _ .i64 (2*j+1) gyT oyT ts.length c_t 50 99 a_t (hay (by omega)) rfl kj kj kj kj (by omega)) ?_
     refine Qaa (.pointer (some ⟨gyT,oyT+(2*j+1)*99,none⟩)) 87 rfl kj kj ?_
     refine Qaa (.bool false) 88 rfl kj (Qak 4 _ _ (.bool false) ((NdAt.at3 hny).1.trans (congrArg (fun z=>some (Value.bool z)) hq.2)) rfl kj kj) ?_
     refine Qaa (.bool false) 89 rfl kj kj ?_
     refine Qaa (.bool false) 90 rfl kj kj ?_
     refine Qad 91 rfl kj ?_
     refine Qad 92 rfl kj ?_
     refine Qad 93 rfl kj ?_
     refine Qad 94 rfl kj ?_
     refine Qaa (.bool false) 95 rfl kj kj ?_
     refine Qaa (.bool false) 96 rfl kj kj ?_
     refine Qad 97 rfl kj ?_
     refine Qad 98 rfl kj ?_
     refine Qad 99 rfl kj ?_
     refine Qad 100 rfl kj ?_
     refine Qad 101 rfl kj ?_
     refine Qaa (.bool false) 102 rfl kj kj ?_
     refine Qaa (.bool false) 103 rfl kj kj ?_
     refine Qad 104 rfl kj ?_
     refine Qad 105 rfl kj ?_
     refine Qad 106 rfl kj ?_
     refine Qad 107 rfl kj ?_
     refine Qad 108 rfl kj ?_
     refine Qad 109 rfl kj ?_
     refine Qad 110 rfl kj ?_
     refine Qad 111 rfl kj ?_
     refine Qaa (.bool false) 112 rfl kj kj ?_
     refine Qaf ?_
     refine hK28 _ _ ?_
     refine cond_false kj ?_
     refine wp_skip ?_
     refine hK27 _ _ ?_
     refine Qab ?_
     refine Qaa (.int .i64 ((2*j+1:Nat):Int)) 78 rfl kj kj ?_
     refine Qaa (.int .i64 (((2*(j+1)+1:Nat):Int))) 79 rfl kj (Qai (u:=.int .i64 (IntKind.i64.wrap (((2*j+1:Nat):Int)+2))) kj (congrArg (Value.int .i64) ((IntWalk.i64_in _ (by omega)).trans (by omega)))) ?_
     refine Qaa (.int .i64 (((2*(j+1)+1:Nat):Int))) 10 rfl kj kj ?_
     refine Qaf ?_
     repeat (first | with_reducible refine goX1 ?_ | with_reducible refine goX2 ?_ | with_reducible refine goX3 ?_)
     exact Qat (j+1) ⟨rfl,rfl,rfl,rfl,rfl,rfl,rfl,trivial⟩ ⟨(by omega),(fun j2 hj=>by by_cases e:j2=j; (rw [e]; exact hyk); exact hys j2 (by omega)),e5,xx2⟩ (by show ts.length-(j+1)<ts.length-j; omega)
    ·skip
     have hyk:((2*j+1:Nat):Int)≠((x:Nat):Int)→(ndi ts (2*j+1)).n.us=true→abv ((x:Nat):Int) ((2*j+1:Nat):Int) ((L:Nat):Int)=true→abv ((2*j+1:Nat):Int) (2*((m:Nat):Int)) ((L:Nat):Int)=true→((m:Nat):Int)∈(ndi ts (2*j+1)).n.ms:=fun h1 h2 h3 h4=>by rw [hq.2.2] at h3; cases h3
     refine Qab ?_
     refine Qaa (.int .i64 ((2*j+1:Nat):Int)) 80 rfl kj kj ?_
     refine Qaa (.int .i64 ((x:Nat):Int)) 81 rfl kj kj ?_
     refine Qaa (.bool true) 82 rfl kj (Qai (u:=.bool ((((2*j+1:Nat):Int) != ((x:Nat):Int)))) kj (congrArg Value.bool (bne_iff_ne.2 (by omega)))) ?_
     refine Qaa (.bool true) 83 rfl kj kj ?_
     refine Qaa (.slice a_t ts.length c_t) 84 rfl kj kj ?_
     refine Qaa (.int .i64 ((2*j+1:Nat):Int)) 85 rfl kj kj ?_
     refine Qaa (.pointer (some ⟨gyT,oyT+(2*j+1)*99,none⟩)) 86 rfl kj (Qap 23 _ _ .i64 (2*j+1) gyT oyT ts.length c_t 50 99 a_t (hay (by omega)) rfl kj kj kj kj (by omega)) ?_
     refine Qaa (.pointer (some ⟨gyT,oyT+(2*j+1)*99,none⟩)) 87 rfl kj kj ?_
     refine Qaa (.bool true) 88 rfl kj (Qak 4 _ _ (.bool true) ((NdAt.at3 hny).1.trans (congrArg (fun z=>some (Value.bool z)) hq.2.1)) rfl kj kj) ?_
     refine Qaa (.bool true) 89 rfl kj kj ?_
     refine Qaa (.bool true) 90 rfl kj kj ?_
     refine Qaa (.int .i64 ((x:Nat):Int)) 91 rfl kj kj ?_
     refine Qaa (.int .i64 ((2*j+1:Nat):Int)) 92 rfl kj kj ?_
     refine Qaa (.int .i64 ((L:Nat):Int)) 93 rfl kj kj ?_
     refine Qal (.bool false) 42 #[.int .i64 ((x:Nat):Int),.int .i64 ((2*j+1:Nat):Int),.int .i64 ((L:Nat):Int)] 94 rfl kj kj (QbB _ _ _ false hq.2.2 _) fun W6 e6=>?_
     have x6:Ext w W6:=Ext.tr xx2 e6
     refine Qaa (.bool false) 95 rfl kj kj ?_
     refine Qaa (.bool false) 96 rfl kj kj ?_
     refine Qad 97 rfl kj ?_
     refine Qad 98 rfl kj ?_
     refine Qad 99 rfl kj ?_
     refine Qad 100 rfl kj ?_
     refine Qad 101 rfl kj ?_
     refine Qaa (.bool false) 102 rfl kj kj ?_
     refine Qaa (.bool false) 103 rfl kj kj ?_
     refine Qad 104 rfl kj ?_
     refine Qad 105 rfl kj ?_
     refine Qad 106 rfl kj ?_
     refine Qad 107 rfl kj ?_
     refine Qad 108 rfl kj ?_
     refine Qad 109 rfl kj ?_
     refine Qad 110 rfl kj ?_
     refine Qad 111 rfl kj ?_
     refine Qaa (.bool false) 112 rfl kj kj ?_
     refine Qaf ?_
     refine hK28 _ _ ?_
     refine cond_false kj ?_
     refine wp_skip ?_
     refine hK27 _ _ ?_
     refine Qab ?_
     refine Qaa (.int .i64 ((2*j+1:Nat):Int)) 78 rfl kj kj ?_
     refine Qaa (.int .i64 (((2*(j+1)+1:Nat):Int))) 79 rfl kj (Qai (u:=.int .i64 (IntKind.i64.wrap (((2*j+1:Nat):Int)+2))) kj (congrArg (Value.int .i64) ((IntWalk.i64_in _ (by omega)).trans (by omega)))) ?_
     refine Qaa (.int .i64 (((2*(j+1)+1:Nat):Int))) 10 rfl kj kj ?_
     refine Qaf ?_
     have y4_6:Ext W4 W6:=(Rely.Ext.trans e5 e6)
     repeat (first | with_reducible refine goX1 ?_ | with_reducible refine goX2 ?_ | with_reducible refine goX3 ?_)
     exact Qat (j+1) ⟨rfl,rfl,rfl,rfl,rfl,rfl,rfl,trivial⟩ ⟨(by omega),(fun j2 hj=>by by_cases e:j2=j; (rw [e]; exact hyk); exact hys j2 (by omega)),y4_6,x6⟩ (by show ts.length-(j+1)<ts.length-j; omega)
    ·skip
     have hyk:((2*j+1:Nat):Int)≠((x:Nat):Int)→(ndi ts (2*j+1)).n.us=true→abv ((x:Nat):Int) ((2*j+1:Nat):Int) ((L:Nat):Int)=true→abv ((2*j+1:Nat):Int) (2*((m:Nat):Int)) ((L:Nat):Int)=true→((m:Nat):Int)∈(ndi ts (2*j+1)).n.ms:=fun h1 h2 h3 h4=>by rw [hq.2.2.2] at h4; cases h4
     refine Qab ?_
     refine Qaa (.int .i64 ((2*j+1:Nat):Int)) 80 rfl kj kj ?_
     refine Qaa (.int .i64 ((x:Nat):Int)) 81 rfl kj kj ?_
     refine Qaa (.bool true) 82 rfl kj (Qai (u:=.bool ((((2*j+1:Nat):Int) != ((x:Nat):Int)))) kj (congrArg Value.bool (bne_iff_ne.2 (by omega)))) ?_
     refine Qaa (.bool true) 83 rfl kj kj ?_
     refine Qaa (.slice a_t ts.length c_t) 84 rfl kj kj ?_
     refine Qaa (.int .i64 ((2*j+1:Nat):Int)) 85 rfl kj kj ?_
     refine Qaa (.pointer (some ⟨gyT,oyT+(2*j+1)*99,none⟩)) 86 rfl kj (Qap 23 _ _ .i64 (2*j+1) gyT oyT ts.length c_t 50 99 a_t (hay (by omega)) rfl kj kj kj kj (by omega)) ?_
     refine Qaa (.pointer (some ⟨gyT,oyT+(2*j+1)*99,none⟩)) 87 rfl kj kj ?_
     refine Qaa (.bool true) 88 rfl kj (Qak 4 _ _ (.bool true) ((NdAt.at3 hny).1.trans (congrArg (fun z=>some (Value.bool z)) hq.2.1)) rfl kj kj) ?_
     refine Qaa (.bool true) 89 rfl kj kj ?_
     refine Qaa (.bool true) 90 rfl kj kj ?_
     refine Qaa (.int .i64 ((x:Nat):Int)) 91 rfl kj kj ?_
     refine Qaa (.int .i64 ((2*j+1:Nat):Int)) 92 rfl kj kj ?_
     refine Qaa (.int .i64 ((L:Nat):Int)) 93 rfl kj kj ?_
     refine Qal (.bool true) 42 #[.int .i64 ((x:Nat):Int),.int .i64 ((2*j+1:Nat):Int),.int .i64 ((L:Nat):Int)] 94 rfl kj kj (QbB _ _ _ true hq.2.2.1 _) fun W6 e6=>?_
     have x6:Ext w W6:=Ext.tr xx2 e6
     refine Qaa (.bool true) 95 rfl kj kj ?_
     refine Qaa (.bool true) 96 rfl kj kj ?_
     refine Qaa (.int .i64 ((2*j+1:Nat):Int)) 97 rfl kj kj ?_
     refine Qaa (.int .i64 (nth (nt.n.ms) (k))) 98 rfl kj kj ?_
     refine Qaa (.int .i64 (2*((m:Nat):Int))) 99 rfl kj (Qai (u:=.int .i64 (IntKind.i64.wrap (2*(nth (nt.n.ms) (k))))) kj (congrArg (Value.int .i64) (by rw [hm]; exact IntWalk.i64_in _ (by omega)))) ?_
     refine Qaa (.int .i64 ((L:Nat):Int)) 100 rfl kj kj ?_
     refine Qal (.bool false) 42 #[.int .i64 ((2*j+1:Nat):Int),.int .i64 (2*((m:Nat):Int)),.int .i64 ((L:Nat):Int)] 101 rfl kj kj (QbB _ _ _ false hq.2.2.2 _) fun W7 e7=>?_
     have x7:Ext w W7:=Ext.tr x6 e7
     refine Qaa (.bool false) 102 rfl kj kj ?_
     refine Qaa (.bool false) 103 rfl kj kj ?_
     refine Qad 104 rfl kj ?_
     refine Qad 105 rfl kj ?_
     refine Qad 106 rfl kj ?_
     refine Qad 107 rfl kj ?_
     refine Qad 108 rfl kj ?_
     refine Qad 109 rfl kj ?_
     refine Qad 110 rfl kj ?_
     refine Qad 111 rfl kj ?_
     refine Qaa (.bool false) 112 rfl kj kj ?_
     refine Qaf ?_
     refine hK28 _ _ ?_
     refine cond_false kj ?_
     refine wp_skip ?_
     refine hK27 _ _ ?_
     refine Qab ?_
     refine Qaa (.int .i64 ((2*j+1:Nat):Int)) 78 rfl kj kj ?_
     refine Qaa (.int .i64 (((2*(j+1)+1:Nat):Int))) 79 rfl kj (Qai (u:=.int .i64 (IntKind.i64.wrap (((2*j+1:Nat):Int)+2))) kj (congrArg (Value.int .i64) ((IntWalk.i64_in _ (by omega)).trans (by omega)))) ?_
     refine Qaa (.int .i64 (((2*(j+1)+1:Nat):Int))) 10 rfl kj kj ?_
     refine Qaf ?_
     have y4_6:Ext W4 W6:=(Rely.Ext.trans e5 e6)
     have y4_7:Ext W4 W7:=(Rely.Ext.trans y4_6 e7)
     repeat (first | with_reducible refine goX1 ?_ | with_reducible refine goX2 ?_ | with_reducible refine goX3 ?_)
     exact Qat (j+1) ⟨rfl,rfl,rfl,rfl,rfl,rfl,rfl,trivial⟩ ⟨(by omega),(fun j2 hj=>by by_cases e:j2=j; (rw [e]; exact hyk); exact hys j2 (by omega)),y4_7,x7⟩ (by show ts.length-(j+1)<ts.length-j; omega)
    ·skip
     have hyk:((2*j+1:Nat):Int)≠((x:Nat):Int)→(ndi ts (2*j+1)).n.us=true→abv ((x:Nat):Int) ((2*j+1:Nat):Int) ((L:Nat):Int)=true→abv ((2*j+1:Nat):Int) (2*((m:Nat):Int)) ((L:Nat):Int)=true→((m:Nat):Int)∈(ndi ts (2*j+1)).n.ms:=fun h1 h2 h3 h4=>by rw [←hm,←eny]; exact hq.2.2.2.2
     refine Qab ?_
     refine Qaa (.int .i64 ((2*j+1:Nat):Int)) 80 rfl kj kj ?_
     refine Qaa (.int .i64 ((x:Nat):Int)) 81 rfl kj kj ?_
     refine Qaa (.bool true) 82 rfl kj (Qai (u:=.bool ((((2*j+1:Nat):Int) != ((x:Nat):Int)))) kj (congrArg Value.bool (bne_iff_ne.2 (by omega)))) ?_
     refine Qaa (.bool true) 83 rfl kj kj ?_
     refine Qaa (.slice a_t ts.length c_t) 84 rfl kj kj ?_
     refine Qaa (.int .i64 ((2*j+1:Nat):Int)) 85 rfl kj kj ?_
     refine Qaa (.pointer (some ⟨gyT,oyT+(2*j+1)*99,none⟩)) 86 rfl kj (Qap 23 _ _ .i64 (2*j+1) gyT oyT ts.length c_t 50 99 a_t (hay (by omega)) rfl kj kj kj kj (by omega)) ?_
     refine Qaa (.pointer (some ⟨gyT,oyT+(2*j+1)*99,none⟩)) 87 rfl kj kj ?_
     refine Qaa (.bool true) 88 rfl kj (Qak 4 _ _ (.bool true) ((NdAt.at3 hny).1.trans (congrArg (fun z=>some (Value.bool z)) hq.2.1)) rfl kj kj) ?_
     refine Qaa (.bool true) 89 rfl kj kj ?_
     refine Qaa (.bool true) 90 rfl kj kj ?_
     refine Qaa (.int .i64 ((x:Nat):Int)) 91 rfl kj kj ?_
     refine Qaa (.int .i64 ((2*j+1:Nat):Int)) 92 rfl kj kj ?_
     refine Qaa (.int .i64 ((L:Nat):Int)) 93 rfl kj kj ?_
     refine Qal (.bool true) 42 #[.int .i64 ((x:Nat):Int),.int .i64 ((2*j+1:Nat):Int),.int .i64 ((L:Nat):Int)] 94 rfl kj kj (QbB _ _ _ true hq.2.2.1 _) fun W6 e6=>?_
     have x6:Ext w W6:=Ext.tr xx2 e6
     refine Qaa (.bool true) 95 rfl kj kj ?_
     refine Qaa (.bool true) 96 rfl kj kj ?_
     refine Qaa (.int .i64 ((2*j+1:Nat):Int)) 97 rfl kj kj ?_
     refine Qaa (.int .i64 (nth (nt.n.ms) (k))) 98 rfl kj kj ?_
     refine Qaa (.int .i64 (2*((m:Nat):Int))) 99 rfl kj (Qai (u:=.int .i64 (IntKind.i64.wrap (2*(nth (nt.n.ms) (k))))) kj (congrArg (Value.int .i64) (by rw [hm]; exact IntWalk.i64_in _ (by omega)))) ?_
     refine Qaa (.int .i64 ((L:Nat):Int)) 100 rfl kj kj ?_
     refine Qal (.bool true) 42 #[.int .i64 ((2*j+1:Nat):Int),.int .i64 (2*((m:Nat):Int)),.int .i64 ((L:Nat):Int)] 101 rfl kj kj (QbB _ _ _ true hq.2.2.2.1 _) fun W7 e7=>?_
     have x7:Ext w W7:=Ext.tr x6 e7
     refine Qaa (.bool true) 102 rfl kj kj ?_
     refine Qaa (.bool true) 103 rfl kj kj ?_
     refine Qaa (.int .i64 (nth (nt.n.ms) (k))) 104 rfl kj kj ?_
     refine Qaa (.slice a_t ts.length c_t) 105 rfl kj kj ?_
     refine Qaa (.int .i64 ((2*j+1:Nat):Int)) 106 rfl kj kj ?_
     refine Qaa (.pointer (some ⟨gyT,oyT+(2*j+1)*99,none⟩)) 107 rfl kj (Qap 23 _ _ .i64 (2*j+1) gyT oyT ts.length c_t 50 99 a_t (hay (by omega)) rfl kj kj kj kj (by omega)) ?_
     refine Qaa (.pointer (some ⟨gyT,oyT+(2*j+1)*99+98,none⟩)) 108 rfl kj kj ?_
     have y5_6:Ext V2 W6:=(Rely.Ext.trans (Rely.Ext.refl V2) e6)
     have y5_7:Ext V2 W7:=(Rely.Ext.trans y5_6 e7)
     refine Qaa (.slice ny.a ny.n.ms.length ny.c) 109 rfl kj (Qak 24 _ _ (.slice ny.a ny.n.ms.length ny.c) (NdAt.at3 (NdAt.ext hny y5_7)).2.2 rfl kj kj) ?_
     refine Qal (.bool true) 41 #[.int .i64 (nth (nt.n.ms) (k)),.slice ny.a ny.n.ms.length ny.c] 110 rfl kj kj (inRb ny.n.ms (nth nt.n.ms k) ny.a ny.c _ _ (eny▸hmt _ (by omega)) (RdK.here (RdK.ext rdy y5_7)) true (decide_eq_true hq.2.2.2.2)) fun W8 e8=>?_
     have x8:Ext w W8:=Ext.tr x7 e8
     refine Qaa (.bool false) 111 rfl kj kj ?_
     refine Qaa (.bool false) 112 rfl kj kj ?_
     refine Qaf ?_
     refine hK28 _ _ ?_
     refine cond_false kj ?_
     refine wp_skip ?_
     refine hK27 _ _ ?_
     refine Qab ?_
     refine Qaa (.int .i64 ((2*j+1:Nat):Int)) 78 rfl kj kj ?_
     refine Qaa (.int .i64 (((2*(j+1)+1:Nat):Int))) 79 rfl kj (Qai (u:=.int .i64 (IntKind.i64.wrap (((2*j+1:Nat):Int)+2))) kj (congrArg (Value.int .i64) ((IntWalk.i64_in _ (by omega)).trans (by omega)))) ?_
     refine Qaa (.int .i64 (((2*(j+1)+1:Nat):Int))) 10 rfl kj kj ?_
     refine Qaf ?_
     have y4_6:Ext W4 W6:=(Rely.Ext.trans e5 e6)
     have y4_7:Ext W4 W7:=(Rely.Ext.trans y4_6 e7)
     have y4_8:Ext W4 W8:=(Rely.Ext.trans y4_7 e8)
     repeat (first | with_reducible refine goX1 ?_ | with_reducible refine goX2 ?_ | with_reducible refine goX3 ?_)
     exact Qat (j+1) ⟨rfl,rfl,rfl,rfl,rfl,rfl,rfl,trivial⟩ ⟨(by omega),(fun j2 hj=>by by_cases e:j2=j; (rw [e]; exact hyk); exact hys j2 (by omega)),y4_8,x8⟩ (by show ts.length-(j+1)<ts.length-j; omega)
    ·skip
     have hb:msOk ts ((L:Nat):Int) ((x:Nat):Int) nt.n.ms k=false:=by
      unfold msOk
      rw [hm,QeN (y:=2*j+1) hxn (by omega) (by omega) hQ.2.2 hyn (by omega) (by omega) hq.2.2.1 hq.2.2.2.1 (eny▸hq.2.1) (by rw [←hm,←eny]; exact hq.2.2.2.2),Bool.and_false]
     refine Qab ?_
     refine Qaa (.int .i64 ((2*j+1:Nat):Int)) 80 rfl kj kj ?_
     refine Qaa (.int .i64 ((x:Nat):Int)) 81 rfl kj kj ?_
     refine Qaa (.bool true) 82 rfl kj (Qai (u:=.bool ((((2*j+1:Nat):Int) != ((x:Nat):Int)))) kj (congrArg Value.bool (bne_iff_ne.2 (by omega)))) ?_
     refine Qaa (.bool true) 83 rfl kj kj ?_
     refine Qaa (.slice a_t ts.length c_t) 84 rfl kj kj ?_
     refine Qaa (.int .i64 ((2*j+1:Nat):Int)) 85 rfl kj kj ?_
     refine Qaa (.pointer (some ⟨gyT,oyT+(2*j+1)*99,none⟩)) 86 rfl kj (Qap 23 _ _ .i64 (2*j+1) gyT oyT ts.length c_t 50 99 a_t (hay (by omega)) rfl kj kj kj kj (by omega)) ?_
     refine Qaa (.pointer (some ⟨gyT,oyT+(2*j+1)*99,none⟩)) 87 rfl kj kj ?_
     refine Qaa (.bool true) 88 rfl kj (Qak 4 _ _ (.bool true) ((NdAt.at3 hny).1.trans (congrArg (fun z=>some (Value.bool z)) hq.2.1)) rfl kj kj) ?_
     refine Qaa (.bool true) 89 rfl kj kj ?_
     refine Qaa (.bool true) 90 rfl kj kj ?_
     refine Qaa (.int .i64 ((x:Nat):Int)) 91 rfl kj kj ?_
     refine Qaa (.int .i64 ((2*j+1:Nat):Int)) 92 rfl kj kj ?_
     refine Qaa (.int .i64 ((L:Nat):Int)) 93 rfl kj kj ?_
     refine Qal (.bool true) 42 #[.int .i64 ((x:Nat):Int),.int .i64 ((2*j+1:Nat):Int),.int .i64 ((L:Nat):Int)] 94 rfl kj kj (QbB _ _ _ true hq.2.2.1 _) fun W6 e6=>?_
     have x6:Ext w W6:=Ext.tr xx2 e6
     refine Qaa (.bool true) 95 rfl kj kj ?_
     refine Qaa (.bool true) 96 rfl kj kj ?_
     refine Qaa (.int .i64 ((2*j+1:Nat):Int)) 97 rfl kj kj ?_
     refine Qaa (.int .i64 (nth (nt.n.ms) (k))) 98 rfl kj kj ?_
     refine Qaa (.int .i64 (2*((m:Nat):Int))) 99 rfl kj (Qai (u:=.int .i64 (IntKind.i64.wrap (2*(nth (nt.n.ms) (k))))) kj (congrArg (Value.int .i64) (by rw [hm]; exact IntWalk.i64_in _ (by omega)))) ?_
     refine Qaa (.int .i64 ((L:Nat):Int)) 100 rfl kj kj ?_
     refine Qal (.bool true) 42 #[.int .i64 ((2*j+1:Nat):Int),.int .i64 (2*((m:Nat):Int)),.int .i64 ((L:Nat):Int)] 101 rfl kj kj (QbB _ _ _ true hq.2.2.2.1 _) fun W7 e7=>?_
     have x7:Ext w W7:=Ext.tr x6 e7
     refine Qaa (.bool true) 102 rfl kj kj ?_
     refine Qaa (.bool true) 103 rfl kj kj ?_
     refine Qaa (.int .i64 (nth (nt.n.ms) (k))) 104 rfl kj kj ?_
     refine Qaa (.slice a_t ts.length c_t) 105 rfl kj kj ?_
     refine Qaa (.int .i64 ((2*j+1:Nat):Int)) 106 rfl kj kj ?_
     refine Qaa (.pointer (some ⟨gyT,oyT+(2*j+1)*99,none⟩)) 107 rfl kj (Qap 23 _ _ .i64 (2*j+1) gyT oyT ts.length c_t 50 99 a_t (hay (by omega)) rfl kj kj kj kj (by omega)) ?_
     refine Qaa (.pointer (some ⟨gyT,oyT+(2*j+1)*99+98,none⟩)) 108 rfl kj kj ?_
     have y5_6:Ext V2 W6:=(Rely.Ext.trans (Rely.Ext.refl V2) e6)
     have y5_7:Ext V2 W7:=(Rely.Ext.trans y5_6 e7)
     refine Qaa (.slice ny.a ny.n.ms.length ny.c) 109 rfl kj (Qak 24 _ _ (.slice ny.a ny.n.ms.length ny.c) (NdAt.at3 (NdAt.ext hny y5_7)).2.2 rfl kj kj) ?_
     refine Qal (.bool false) 41 #[.int .i64 (nth (nt.n.ms) (k)),.slice ny.a ny.n.ms.length ny.c] 110 rfl kj kj (inRb ny.n.ms (nth nt.n.ms k) ny.a ny.c _ _ (eny▸hmt _ (by omega)) (RdK.here (RdK.ext rdy y5_7)) false (decide_eq_false hq.2.2.2.2)) fun W8 e8=>?_
     have x8:Ext w W8:=Ext.tr x7 e8
     refine Qaa (.bool true) 111 rfl kj kj ?_
     refine Qaa (.bool true) 112 rfl kj kj ?_
     refine Qaf ?_
     refine hK28 _ _ ?_
     refine cond_true kj ?_
     refine wp_seq_k fun K29 hK29=>?_
     refine Qab ?_
     refine Qaa (.bool false) 6 rfl kj kj ?_
     refine Qaf ?_
     refine hK29 _ _ ?_
     refine wp_ret ?_
     repeat (first | with_reducible refine goR1 ?_ | with_reducible refine goR2 ?_)
     exact (show bodyPost _ _ _ .ret _ _ from ret1 (.bool false) rfl (Qaq kj) ⟨congrArg (fun z=>Ending.returned (.bool z)) ((Qbn h h1 h2).trans (QcV (k:=k) (by rw [←ent]; exact hlt28) (by rw [←ent]; exact hb))).symm,x8⟩)
   ·skip
    have hy77:¬ 2*j+1<ts.length:=by have:=of_decide_eq_false c26; omega
    refine wp_exit ?_
    refine hK12 _ _ ?_
    refine Qab ?_
    refine Qaa (.int .i64 ((k:Nat):Int)) 29 rfl kj kj ?_
    refine Qaa (.int .i64 ((k+1:Nat):Int)) 30 rfl kj (Qai (u:=.int .i64 (IntKind.i64.wrap (((k:Nat):Int)+1))) kj (congrArg (Value.int .i64) (i64n _ _ (by omega) (by omega)))) ?_
    refine Qaa (.int .i64 ((k+1:Nat):Int)) 8 rfl kj kj ?_
    refine Qaf ?_
    have hb:msOk ts ((L:Nat):Int) ((x:Nat):Int) nt.n.ms k=true:=hb0.trans (QdY hxn (by omega) (by omega) hQ.2.2 (by rw [←enz]; exact hzu) (fun y hy hyo=>by obtain ⟨j2,rfl⟩:∃ j2,y=2*j2+1:=⟨y/2,by omega⟩; exact hys j2 (by omega)))
    have y2_4:Ext W2 W4:=(Rely.Ext.trans e3 e4)
    have y2_5:Ext W2 V2:=(Rely.Ext.trans y2_4 e5)
    repeat (first | with_reducible refine goX1 ?_ | with_reducible refine goX2 ?_ | with_reducible refine goX3 ?_)
    exact Qat (k+1) ⟨rfl,rfl,rfl,rfl,rfl,trivial⟩ ⟨(by omega),(fun j2 hj=>by by_cases e:j2=k; (rw [e]; exact hb); exact hall j2 (by omega)),y2_5,xx2⟩ (by show nt.n.ms.length-(k+1)<nt.n.ms.length-k; omega)
  ·skip
   obtain ⟨m,hm⟩:∃ m:Nat,nth nt.n.ms k=((m:Nat):Int):=⟨(nth nt.n.ms k).toNat,by omega⟩
   have hml2:m<L:=by omega
   have hb0:msOk ts ((L:Nat):Int) ((x:Nat):Int) nt.n.ms k=Qbg ts ((L:Nat):Int) ((x:Nat):Int) ((m:Nat):Int):=by unfold msOk; rw [decide_eq_true hQ.1.2,hm,Bool.or_true,Bool.true_and]
   obtain ⟨gzT,ozT,haz,hnzs⟩:=TrAt.ext ht xx1
   have hnz:=hnzs (2*m) (by omega)
   obtain ⟨nz,enz⟩:∃ z,z=ndi ts (2*m):=⟨_,rfl⟩
   rw [←enz] at hnz
   have okz:=hnz.ok
   have rdz:=hnz.rd
   have hzu:nz.n.us=true:=by rw [enz]; have h9:=hQ.2.1; rw [hm] at h9; exact h9
   have habz:abv ((x:Nat):Int) (2*((m:Nat):Int)) ((L:Nat):Int)=true:=by have h9:=hQ.2.2; rw [hm] at h9; exact h9
   have hQ1:=hQ.1
   replace hQ:True∧True∧abv ((x:Nat):Int) (2*((m:Nat):Int)) ((L:Nat):Int)=true:=⟨trivial,trivial,habz⟩
   refine Qab ?_
   refine Qaa (.int .i64 (nth (nt.n.ms) (k))) 36 rfl kj kj ?_
   refine Qaa (.bool false) 37 rfl kj (Qai (u:=.bool (decide ((nth (nt.n.ms) (k))<0))) kj (congrArg Value.bool (decide_eq_false (by omega)))) ?_
   refine Qaa (.bool false) 38 rfl kj kj ?_
   refine Qaa (.int .i64 (nth (nt.n.ms) (k))) 39 rfl kj kj ?_
   refine Qaa (.int .i64 ((L:Nat):Int)) 40 rfl kj kj ?_
   refine Qaa (.bool false) 41 rfl kj (Qai (u:=.bool (decide ((nth (nt.n.ms) (k))≥((L:Nat):Int)))) kj (congrArg Value.bool (decide_eq_false (by omega)))) ?_
   refine Qaa (.bool false) 42 rfl kj kj ?_
   refine Qaa (.bool false) 43 rfl kj kj ?_
   refine Qaa (.int .i64 ((k:Nat):Int)) 44 rfl kj kj ?_
   refine Qaa (.bool true) 45 rfl kj (Qai (u:=.bool (decide (((k:Nat):Int)>0))) kj (congrArg Value.bool (decide_eq_true (by omega)))) ?_
   refine Qaa (.bool true) 46 rfl kj kj ?_
   refine Qaa (.int .i64 (nth (nt.n.ms) (k))) 47 rfl kj kj ?_
   refine Qaa (.pointer (some ⟨g3,98,none⟩)) 48 rfl kj kj ?_
   refine Qaa (.slice nt.a nt.n.ms.length nt.c) 49 rfl kj (Qag 24 _ g3 98 50 _ (.slice nt.a nt.n.ms.length nt.c) _ r3_3 rfl kj (Qaj [#[.bool nt.n.us],#[.int .i64 nt.n.nm],ints .u8 (nt.n.key),ints .u8 (nt.n.sg),ints .u8 (nt.n.pa)] [#[.slice nt.a nt.n.ms.length nt.c]] [] 98 (by rw [Qac,Qac,Qac,Qac,Qac]; simp only [qS,cat,((Qae _ _).trans okt.gl),((Qae _ _).trans okt.kl),((Qae _ _).trans okt.pl)]; rfl) 0 _ rfl) kj) ?_
   refine Qaa (.int .i64 ((k:Nat):Int)) 50 rfl kj kj ?_
   refine Qaa (.int .i64 ((k-1:Nat):Int)) 51 rfl kj (Qai (u:=.int .i64 (IntKind.i64.wrap (((k:Nat):Int)-1))) kj (congrArg (Value.int .i64) (i64n _ _ (by omega) (by omega)))) ?_
   refine Qaa (.pointer (some ⟨gcx_11,ocx_11+(k-1),none⟩)) 52 rfl kj (Qa6 24 _ _ .i64 (k-1) gcx_11 ocx_11 nt.n.ms.length nt.c 3 nt.a _ hax_11 rfl rfl kj kj kj kj (Nat.lt_of_lt_of_eq (show k-1<nt.n.ms.length by omega) hnx_11.symm)) ?_
   refine Qaa (.int .i64 (nth (nt.n.ms) ((k-1)))) 53 rfl kj (Qak 3 _ _ (.int .i64 (nth (nt.n.ms) ((k-1)))) (hcx_11 (k-1) (Nat.lt_of_lt_of_eq (show k-1<nt.n.ms.length by omega) hnx_11.symm)) rfl kj kj) ?_
   refine Qaa (.bool false) 54 rfl kj (Qai (u:=.bool (decide ((nth (nt.n.ms) (k))≤(nth (nt.n.ms) ((k-1)))))) kj (congrArg Value.bool (decide_eq_false (by omega)))) ?_
   refine Qaa (.bool false) 55 rfl kj kj ?_
   refine Qaa (.bool false) 56 rfl kj kj ?_
   refine Qaa (.bool false) 57 rfl kj kj ?_
   refine Qaa (.slice a_t ts.length c_t) 58 rfl kj kj ?_
   refine Qaa (.int .i64 (nth (nt.n.ms) (k))) 59 rfl kj kj ?_
   refine Qaa (.int .i64 (((2*m:Nat):Int))) 60 rfl kj (Qai (u:=.int .i64 (IntKind.i64.wrap (2*(nth (nt.n.ms) (k))))) kj (congrArg (Value.int .i64) (by rw [hm]; exact ((IntWalk.i64_in _ (by omega)).trans (by omega))))) ?_
   refine Qaa (.pointer (some ⟨gzT,ozT+(2*m)*99,none⟩)) 61 rfl kj (Qap 23 _ _ .i64 (2*m) gzT ozT ts.length c_t 50 99 a_t (haz (by omega)) rfl kj kj kj kj (by omega)) ?_
   refine Qaa (.pointer (some ⟨gzT,ozT+(2*m)*99,none⟩)) 62 rfl kj kj ?_
   refine Qaa (.bool true) 63 rfl kj (Qak 4 _ _ (.bool true) ((NdAt.at3 hnz).1.trans (congrArg (fun z=>some (Value.bool z)) hzu)) rfl kj kj) ?_
   refine Qaa (.bool false) 64 rfl kj kj ?_
   refine Qaa (.bool false) 65 rfl kj kj ?_
   refine Qaa (.bool false) 66 rfl kj kj ?_
   refine Qaa (.int .i64 ((x:Nat):Int)) 67 rfl kj kj ?_
   refine Qaa (.int .i64 (nth (nt.n.ms) (k))) 68 rfl kj kj ?_
   refine Qaa (.int .i64 (2*((m:Nat):Int))) 69 rfl kj (Qai (u:=.int .i64 (IntKind.i64.wrap (2*(nth (nt.n.ms) (k))))) kj (congrArg (Value.int .i64) (by rw [hm]; exact IntWalk.i64_in _ (by omega)))) ?_
   refine Qaa (.int .i64 ((L:Nat):Int)) 70 rfl kj kj ?_
   refine Qal (.bool true) 42 #[.int .i64 ((x:Nat):Int),.int .i64 (2*((m:Nat):Int)),.int .i64 ((L:Nat):Int)] 71 rfl kj kj (QbB _ _ _ true habz _) fun W4 e4=>?_
   have x4:Ext w W4:=Ext.tr xx1 e4
   refine Qaa (.bool false) 72 rfl kj kj ?_
   refine Qaa (.bool false) 73 rfl kj kj ?_
   refine Qaf ?_
   refine hK15 _ _ ?_
   refine cond_false kj ?_
   refine wp_skip ?_
   refine hK14 _ _ ?_
   refine wp_seq_k fun K30 hK30=>?_
   refine Qab ?_
   refine Qaa (.int .i64 1) 10 rfl kj kj ?_
   refine Qaf ?_
   refine hK30 _ _ ?_
   refine wp_block ?_
   refine Qa0 (fun (s3:Nat)=>[(0,.slice a_t ts.length c_t),(1,.int .i64 ((x:Nat):Int)),(2,.int .i64 ((L:Nat):Int)),(7,.pointer (some ⟨g3,0,none⟩)),(8,.int .i64 ((k:Nat):Int)),(9,.int .i64 (nth (nt.n.ms) (k))),(10,.int .i64 ((2*s3+1:Nat):Int))]) (fun (s3:Nat) W=>(s3≤100000)∧(∀ j2,j2<s3→((2*j2+1:Nat):Int)≠((x:Nat):Int)→(ndi ts (2*j2+1)).n.us=true→abv ((x:Nat):Int) ((2*j2+1:Nat):Int) ((L:Nat):Int)=true→abv ((2*j2+1:Nat):Int) (2*((m:Nat):Int)) ((L:Nat):Int)=true→((m:Nat):Int)∈(ndi ts (2*j2+1)).n.ms)∧(Ext W4 W)∧(Ext w W)) (fun (s3:Nat)=>ts.length-s3) 0 ⟨rfl,rfl,rfl,rfl,rfl,rfl,rfl,trivial⟩ ⟨(Nat.zero_le _),(fun j2 hj=>absurd hj (Nat.not_lt_zero j2)),(Rely.Ext.refl W4),x4⟩ fun s3 X3 V3 hI3=>?_
   obtain ⟨j,hs3⟩:∃ z,z=s3:=⟨_,rfl⟩
   subst hs3
   obtain ⟨hj,hys,kk3,xx3⟩:=hI3
   replace hj:j≤100000:=hj
   replace hys:∀ j2,j2<j→((2*j2+1:Nat):Int)≠((x:Nat):Int)→(ndi ts (2*j2+1)).n.us=true→abv ((x:Nat):Int) ((2*j2+1:Nat):Int) ((L:Nat):Int)=true→abv ((2*j2+1:Nat):Int) (2*((m:Nat):Int)) ((L:Nat):Int)=true→((m:Nat):Int)∈(ndi ts (2*j2+1)).n.ms:=hys
   replace kk3:Ext W4 V3:=kk3
   replace xx3:Ext w V3:=xx3
   have e5:=kk3
   refine wp_seq_k fun K31 hK31=>?_
   refine wp_seq_k fun K32 hK32=>?_
   refine Qab ?_
   refine Qaa (.int .i64 ((2*j+1:Nat):Int)) 74 rfl kj kj ?_
   refine Qaa (.slice a_t ts.length c_t) 75 rfl kj kj ?_
   refine Qaa (.int .i64 ((ts.length:Nat):Int)) 76 rfl kj kj ?_
   refine Qaa (.bool (decide (((2*j+1:Nat):Int)<((ts.length:Nat):Int)))) 77 rfl kj kj ?_
   refine Qaf ?_
   refine hK32 _ _ ?_
   refine Qar (t:=decide (((2*j+1:Nat):Int)<((ts.length:Nat):Int))) kj (fun c33=>?_) (fun c33=>?_)
   ·skip
    have hy77:2*j+1<ts.length:=by have:=of_decide_eq_true c33; omega
    refine wp_skip ?_
    refine hK31 _ _ ?_
    refine wp_seq_k fun K34 hK34=>?_
    refine wp_block ?_
    refine wp_seq_k fun K35 hK35=>?_
    obtain ⟨gyT,oyT,hay,hnys⟩:=TrAt.ext ht xx3
    have hny:=hnys (2*j+1) (by omega)
    obtain ⟨ny,eny⟩:∃ z,z=ndi ts (2*j+1):=⟨_,rfl⟩
    rw [←eny] at hny
    have oky:=hny.ok
    have rdy:=hny.rd
    have hyn:Qa2 ((2*j+1:Nat):Int) ((L:Nat):Int)=true:=QaS hTr (by omega)
    rcases (show (2*j+1=x)∨(2*j+1≠x∧ny.n.us=false)∨(2*j+1≠x∧ny.n.us=true∧abv ((x:Nat):Int) ((2*j+1:Nat):Int) ((L:Nat):Int)=false)∨(2*j+1≠x∧ny.n.us=true∧abv ((x:Nat):Int) ((2*j+1:Nat):Int) ((L:Nat):Int)=true∧abv ((2*j+1:Nat):Int) (2*((m:Nat):Int)) ((L:Nat):Int)=false)∨(2*j+1≠x∧ny.n.us=true∧abv ((x:Nat):Int) ((2*j+1:Nat):Int) ((L:Nat):Int)=true∧abv ((2*j+1:Nat):Int) (2*((m:Nat):Int)) ((L:Nat):Int)=true∧nth nt.n.ms k∈ny.n.ms)∨(2*j+1≠x∧ny.n.us=true∧abv ((x:Nat):Int) ((2*j+1:Nat):Int) ((L:Nat):Int)=true∧abv ((2*j+1:Nat):Int) (2*((m:Nat):Int)) ((L:Nat):Int)=true∧nth nt.n.ms k∉ny.n.ms) from QjO _ _ _ _ _) with hq | hq | hq | hq | hq | hq
    ·skip
     have hyk:((2*j+1:Nat):Int)≠((x:Nat):Int)→(ndi ts (2*j+1)).n.us=true→abv ((x:Nat):Int) ((2*j+1:Nat):Int) ((L:Nat):Int)=true→abv ((2*j+1:Nat):Int) (2*((m:Nat):Int)) ((L:Nat):Int)=true→((m:Nat):Int)∈(ndi ts (2*j+1)).n.ms:=fun h1 h2 h3 h4=>absurd (by omega) h1
     refine Qab ?_
     refine Qaa (.int .i64 ((2*j+1:Nat):Int)) 80 rfl kj kj ?_
     refine Qaa (.int .i64 ((x:Nat):Int)) 81 rfl kj kj ?_
     refine Qaa (.bool false) 82 rfl kj (Qai (u:=.bool ((((2*j+1:Nat):Int) != ((x:Nat):Int)))) kj (congrArg Value.bool (bne_eq_false_iff_eq.2 (by omega)))) ?_
     refine Qaa (.bool false) 83 rfl kj kj ?_
     refine Qad 84 rfl kj ?_
     refine Qad 85 rfl kj ?_
     refine Qad 86 rfl kj ?_
     refine Qad 87 rfl kj ?_
     refine Qad 88 rfl kj ?_
     refine Qaa (.bool false) 89 rfl kj kj ?_
     refine Qaa (.bool false) 90 rfl kj kj ?_
     refine Qad 91 rfl kj ?_
     refine Qad 92 rfl kj ?_
     refine Qad 93 rfl kj ?_
     refine Qad 94 rfl kj ?_
     refine Qaa (.bool false) 95 rfl kj kj ?_
     refine Qaa (.bool false) 96 rfl kj kj ?_
     refine Qad 97 rfl kj ?_
     refine Qad 98 rfl kj ?_
     refine Qad 99 rfl kj ?_
     refine Qad 100 rfl kj ?_
     refine Qad 101 rfl kj ?_
     refine Qaa (.bool false) 102 rfl kj kj ?_
     refine Qaa (.bool false) 103 rfl kj kj ?_
     refine Qad 104 rfl kj ?_
     refine Qad 105 rfl kj ?_
     refine Qad 106 rfl kj ?_
     refine Qad 107 rfl kj ?_
     refine Qad 108 rfl kj ?_
     refine Qad 109 rfl kj ?_
     refine Qad 110 rfl kj ?_
     refine Qad 111 rfl kj ?_
     refine Qaa (.bool false) 112 rfl kj kj ?_
     refine Qaf ?_
     refine hK35 _ _ ?_
     refine cond_false kj ?_
     refine wp_skip ?_
     refine hK34 _ _ ?_
     refine Qab ?_
     refine Qaa (.int .i64 ((2*j+1:Nat):Int)) 78 rfl kj kj ?_
     refine Qaa (.int .i64 (((2*(j+1)+1:Nat):Int))) 79 rfl kj (Qai (u:=.int .i64 (IntKind.i64.wrap (((2*j+1:Nat):Int)+2))) kj (congrArg (Value.int .i64) ((IntWalk.i64_in _ (by omega)).trans (by omega)))) ?_
     refine Qaa (.int .i64 (((2*(j+1)+1:Nat):Int))) 10 rfl kj kj ?_
     refine Qaf ?_
     repeat (first | with_reducible refine goX1 ?_ | with_reducible refine goX2 ?_ | with_reducible refine goX3 ?_)
     exact Qat (j+1) ⟨rfl,rfl,rfl,rfl,rfl,rfl,rfl,trivial⟩ ⟨(by omega),(fun j2 hj=>by by_cases e:j2=j; (rw [e]; exact hyk); exact hys j2 (by omega)),e5,xx3⟩ (by show ts.length-(j+1)<ts.length-j; omega)
    ·skip
     have hyk:((2*j+1:Nat):Int)≠((x:Nat):Int)→(ndi ts (2*j+1)).n.us=true→abv ((x:Nat):Int) ((2*j+1:Nat):Int) ((L:Nat):Int)=true→abv ((2*j+1:Nat):Int) (2*((m:Nat):Int)) ((L:Nat):Int)=true→((m:Nat):Int)∈(ndi ts (2*j+1)).n.ms:=fun h1 h2 h3 h4=>by rw [←eny,hq.2] at h2; cases h2
     refine Qab ?_
     refine Qaa (.int .i64 ((2*j+1:Nat):Int)) 80 rfl kj kj ?_
     refine Qaa (.int .i64 ((x:Nat):Int)) 81 rfl kj kj ?_
     refine Qaa (.bool true) 82 rfl kj (Qai (u:=.bool ((((2*j+1:Nat):Int) != ((x:Nat):Int)))) kj (congrArg Value.bool (bne_iff_ne.2 (by omega)))) ?_
     refine Qaa (.bool true) 83 rfl kj kj ?_
     refine Qaa (.slice a_t ts.length c_t) 84 rfl kj kj ?_
     refine Qaa (.int .i64 ((2*j+1:Nat):Int)) 85 rfl kj kj ?_
     refine Qaa (.pointer (some ⟨gyT,oyT+(2*j+1)*99,none⟩)) 86 rfl kj (Qap 23 _ _ .i64 (2*j+1) gyT oyT ts.length c_t 50 99 a_t (hay (by omega)) rfl kj kj kj kj (by omega)) ?_
     refine Qaa (.pointer (some ⟨gyT,oyT+(2*j+1)*99,none⟩)) 87 rfl kj kj ?_
     refine Qaa (.bool false) 88 rfl kj (Qak 4 _ _ (.bool false) ((NdAt.at3 hny).1.trans (congrArg (fun z=>some (Value.bool z)) hq.2)) rfl kj kj) ?_
     refine Qaa (.bool false) 89 rfl kj kj ?_
     refine Qaa (.bool false) 90 rfl kj kj ?_
     refine Qad 91 rfl kj ?_
     refine Qad 92 rfl kj ?_
     refine Qad 93 rfl kj ?_
     refine Qad 94 rfl kj ?_
     refine Qaa (.bool false) 95 rfl kj kj ?_
     refine Qaa (.bool false) 96 rfl kj kj ?_
     refine Qad 97 rfl kj ?_
     refine Qad 98 rfl kj ?_
     refine Qad 99 rfl kj ?_
     refine Qad 100 rfl kj ?_
     refine Qad 101 rfl kj ?_
     refine Qaa (.bool false) 102 rfl kj kj ?_
     refine Qaa (.bool false) 103 rfl kj kj ?_
     refine Qad 104 rfl kj ?_
     refine Qad 105 rfl kj ?_
     refine Qad 106 rfl kj ?_
     refine Qad 107 rfl kj ?_
     refine Qad 108 rfl kj ?_
     refine Qad 109 rfl kj ?_
     refine Qad 110 rfl kj ?_
     refine Qad 111 rfl kj ?_
     refine Qaa (.bool false) 112 rfl kj kj ?_
     refine Qaf ?_
     refine hK35 _ _ ?_
     refine cond_false kj ?_
     refine wp_skip ?_
     refine hK34 _ _ ?_
     refine Qab ?_
     refine Qaa (.int .i64 ((2*j+1:Nat):Int)) 78 rfl kj kj ?_
     refine Qaa (.int .i64 (((2*(j+1)+1:Nat):Int))) 79 rfl kj (Qai (u:=.int .i64 (IntKind.i64.wrap (((2*j+1:Nat):Int)+2))) kj (congrArg (Value.int .i64) ((IntWalk.i64_in _ (by omega)).trans (by omega)))) ?_
     refine Qaa (.int .i64 (((2*(j+1)+1:Nat):Int))) 10 rfl kj kj ?_
     refine Qaf ?_
     repeat (first | with_reducible refine goX1 ?_ | with_reducible refine goX2 ?_ | with_reducible refine goX3 ?_)
     exact Qat (j+1) ⟨rfl,rfl,rfl,rfl,rfl,rfl,rfl,trivial⟩ ⟨(by omega),(fun j2 hj=>by by_cases e:j2=j; (rw [e]; exact hyk); exact hys j2 (by omega)),e5,xx3⟩ (by show ts.length-(j+1)<ts.length-j; omega)
    ·skip
     have hyk:((2*j+1:Nat):Int)≠((x:Nat):Int)→(ndi ts (2*j+1)).n.us=true→abv ((x:Nat):Int) ((2*j+1:Nat):Int) ((L:Nat):Int)=true→abv ((2*j+1:Nat):Int) (2*((m:Nat):Int)) ((L:Nat):Int)=true→((m:Nat):Int)∈(ndi ts (2*j+1)).n.ms:=fun h1 h2 h3 h4=>by rw [hq.2.2] at h3; cases h3
     refine Qab ?_
     refine Qaa (.int .i64 ((2*j+1:Nat):Int)) 80 rfl kj kj ?_
     refine Qaa (.int .i64 ((x:Nat):Int)) 81 rfl kj kj ?_
     refine Qaa (.bool true) 82 rfl kj (Qai (u:=.bool ((((2*j+1:Nat):Int) != ((x:Nat):Int)))) kj (congrArg Value.bool (bne_iff_ne.2 (by omega)))) ?_
     refine Qaa (.bool true) 83 rfl kj kj ?_
     refine Qaa (.slice a_t ts.length c_t) 84 rfl kj kj ?_
     refine Qaa (.int .i64 ((2*j+1:Nat):Int)) 85 rfl kj kj ?_
     refine Qaa (.pointer (some ⟨gyT,oyT+(2*j+1)*99,none⟩)) 86 rfl kj (Qap 23 _ _ .i64 (2*j+1) gyT oyT ts.length c_t 50 99 a_t (hay (by omega)) rfl kj kj kj kj (by omega)) ?_
     refine Qaa (.pointer (some ⟨gyT,oyT+(2*j+1)*99,none⟩)) 87 rfl kj kj ?_
     refine Qaa (.bool true) 88 rfl kj (Qak 4 _ _ (.bool true) ((NdAt.at3 hny).1.trans (congrArg (fun z=>some (Value.bool z)) hq.2.1)) rfl kj kj) ?_
     refine Qaa (.bool true) 89 rfl kj kj ?_
     refine Qaa (.bool true) 90 rfl kj kj ?_
     refine Qaa (.int .i64 ((x:Nat):Int)) 91 rfl kj kj ?_
     refine Qaa (.int .i64 ((2*j+1:Nat):Int)) 92 rfl kj kj ?_
     refine Qaa (.int .i64 ((L:Nat):Int)) 93 rfl kj kj ?_
     refine Qal (.bool false) 42 #[.int .i64 ((x:Nat):Int),.int .i64 ((2*j+1:Nat):Int),.int .i64 ((L:Nat):Int)] 94 rfl kj kj (QbB _ _ _ false hq.2.2 _) fun W6 e6=>?_
     have x6:Ext w W6:=Ext.tr xx3 e6
     refine Qaa (.bool false) 95 rfl kj kj ?_
     refine Qaa (.bool false) 96 rfl kj kj ?_
     refine Qad 97 rfl kj ?_
     refine Qad 98 rfl kj ?_
     refine Qad 99 rfl kj ?_
     refine Qad 100 rfl kj ?_
     refine Qad 101 rfl kj ?_
     refine Qaa (.bool false) 102 rfl kj kj ?_
     refine Qaa (.bool false) 103 rfl kj kj ?_
     refine Qad 104 rfl kj ?_
     refine Qad 105 rfl kj ?_
     refine Qad 106 rfl kj ?_
     refine Qad 107 rfl kj ?_
     refine Qad 108 rfl kj ?_
     refine Qad 109 rfl kj ?_
     refine Qad 110 rfl kj ?_
     refine Qad 111 rfl kj ?_
     refine Qaa (.bool false) 112 rfl kj kj ?_
     refine Qaf ?_
     refine hK35 _ _ ?_
     refine cond_false kj ?_
     refine wp_skip ?_
     refine hK34 _ _ ?_
     refine Qab ?_
     refine Qaa (.int .i64 ((2*j+1:Nat):Int)) 78 rfl kj kj ?_
     refine Qaa (.int .i64 (((2*(j+1)+1:Nat):Int))) 79 rfl kj (Qai (u:=.int .i64 (IntKind.i64.wrap (((2*j+1:Nat):Int)+2))) kj (congrArg (Value.int .i64) ((IntWalk.i64_in _ (by omega)).trans (by omega)))) ?_
     refine Qaa (.int .i64 (((2*(j+1)+1:Nat):Int))) 10 rfl kj kj ?_
     refine Qaf ?_
     have y4_6:Ext W4 W6:=(Rely.Ext.trans e5 e6)
     repeat (first | with_reducible refine goX1 ?_ | with_reducible refine goX2 ?_ | with_reducible refine goX3 ?_)
     exact Qat (j+1) ⟨rfl,rfl,rfl,rfl,rfl,rfl,rfl,trivial⟩ ⟨(by omega),(fun j2 hj=>by by_cases e:j2=j; (rw [e]; exact hyk); exact hys j2 (by omega)),y4_6,x6⟩ (by show ts.length-(j+1)<ts.length-j; omega)
    ·skip
     have hyk:((2*j+1:Nat):Int)≠((x:Nat):Int)→(ndi ts (2*j+1)).n.us=true→abv ((x:Nat):Int) ((2*j+1:Nat):Int) ((L:Nat):Int)=true→abv ((2*j+1:Nat):Int) (2*((m:Nat):Int)) ((L:Nat):Int)=true→((m:Nat):Int)∈(ndi ts (2*j+1)).n.ms:=fun h1 h2 h3 h4=>by rw [hq.2.2.2] at h4; cases h4
     refine Qab ?_
     refine Qaa (.int .i64 ((2*j+1:Nat):Int)) 80 rfl kj kj ?_
     refine Qaa (.int .i64 ((x:Nat):Int)) 81 rfl kj kj ?_
     refine Qaa (.bool true) 82 rfl kj (Qai (u:=.bool ((((2*j+1:Nat):Int) != ((x:Nat):Int)))) kj (congrArg Value.bool (bne_iff_ne.2 (by omega)))) ?_
     refine Qaa (.bool true) 83 rfl kj kj ?_
     refine Qaa (.slice a_t ts.length c_t) 84 rfl kj kj ?_
     refine Qaa (.int .i64 ((2*j+1:Nat):Int)) 85 rfl kj kj ?_
     refine Qaa (.pointer (some ⟨gyT,oyT+(2*j+1)*99,none⟩)) 86 rfl kj (Qap 23 _ _ .i64 (2*j+1) gyT oyT ts.length c_t 50 99 a_t (hay (by omega)) rfl kj kj kj kj (by omega)) ?_
     refine Qaa (.pointer (some ⟨gyT,oyT+(2*j+1)*99,none⟩)) 87 rfl kj kj ?_
     refine Qaa (.bool true) 88 rfl kj (Qak 4 _ _ (.bool true) ((NdAt.at3 hny).1.trans (congrArg (fun z=>some (Value.bool z)) hq.2.1)) rfl kj kj) ?_
     refine Qaa (.bool true) 89 rfl kj kj ?_
     refine Qaa (.bool true) 90 rfl kj kj ?_
     refine Qaa (.int .i64 ((x:Nat):Int)) 91 rfl kj kj ?_
     refine Qaa (.int .i64 ((2*j+1:Nat):Int)) 92 rfl kj kj ?_
     refine Qaa (.int .i64 ((L:Nat):Int)) 93 rfl kj kj ?_
     refine Qal (.bool true) 42 #[.int .i64 ((x:Nat):Int),.int .i64 ((2*j+1:Nat):Int),.int .i64 ((L:Nat):Int)] 94 rfl kj kj (QbB _ _ _ true hq.2.2.1 _) fun W6 e6=>?_
     have x6:Ext w W6:=Ext.tr xx3 e6
     refine Qaa (.bool true) 95 rfl kj kj ?_
     refine Qaa (.bool true) 96 rfl kj kj ?_
     refine Qaa (.int .i64 ((2*j+1:Nat):Int)) 97 rfl kj kj ?_
     refine Qaa (.int .i64 (nth (nt.n.ms) (k))) 98 rfl kj kj ?_
     refine Qaa (.int .i64 (2*((m:Nat):Int))) 99 rfl kj (Qai (u:=.int .i64 (IntKind.i64.wrap (2*(nth (nt.n.ms) (k))))) kj (congrArg (Value.int .i64) (by rw [hm]; exact IntWalk.i64_in _ (by omega)))) ?_
     refine Qaa (.int .i64 ((L:Nat):Int)) 100 rfl kj kj ?_
     refine Qal (.bool false) 42 #[.int .i64 ((2*j+1:Nat):Int),.int .i64 (2*((m:Nat):Int)),.int .i64 ((L:Nat):Int)] 101 rfl kj kj (QbB _ _ _ false hq.2.2.2 _) fun W7 e7=>?_
     have x7:Ext w W7:=Ext.tr x6 e7
     refine Qaa (.bool false) 102 rfl kj kj ?_
     refine Qaa (.bool false) 103 rfl kj kj ?_
     refine Qad 104 rfl kj ?_
     refine Qad 105 rfl kj ?_
     refine Qad 106 rfl kj ?_
     refine Qad 107 rfl kj ?_
     refine Qad 108 rfl kj ?_
     refine Qad 109 rfl kj ?_
     refine Qad 110 rfl kj ?_
     refine Qad 111 rfl kj ?_
     refine Qaa (.bool false) 112 rfl kj kj ?_
     refine Qaf ?_
     refine hK35 _ _ ?_
     refine cond_false kj ?_
     refine wp_skip ?_
     refine hK34 _ _ ?_
     refine Qab ?_
     refine Qaa (.int .i64 ((2*j+1:Nat):Int)) 78 rfl kj kj ?_
     refine Qaa (.int .i64 (((2*(j+1)+1:Nat):Int))) 79 rfl kj (Qai (u:=.int .i64 (IntKind.i64.wrap (((2*j+1:Nat):Int)+2))) kj (congrArg (Value.int .i64) ((IntWalk.i64_in _ (by omega)).trans (by omega)))) ?_
     refine Qaa (.int .i64 (((2*(j+1)+1:Nat):Int))) 10 rfl kj kj ?_
     refine Qaf ?_
     have y4_6:Ext W4 W6:=(Rely.Ext.trans e5 e6)
     have y4_7:Ext W4 W7:=(Rely.Ext.trans y4_6 e7)
     repeat (first | with_reducible refine goX1 ?_ | with_reducible refine goX2 ?_ | with_reducible refine goX3 ?_)
     exact Qat (j+1) ⟨rfl,rfl,rfl,rfl,rfl,rfl,rfl,trivial⟩ ⟨(by omega),(fun j2 hj=>by by_cases e:j2=j; (rw [e]; exact hyk); exact hys j2 (by omega)),y4_7,x7⟩ (by show ts.length-(j+1)<ts.length-j; omega)
    ·skip
     have hyk:((2*j+1:Nat):Int)≠((x:Nat):Int)→(ndi ts (2*j+1)).n.us=true→abv ((x:Nat):Int) ((2*j+1:Nat):Int) ((L:Nat):Int)=true→abv ((2*j+1:Nat):Int) (2*((m:Nat):Int)) ((L:Nat):Int)=true→((m:Nat):Int)∈(ndi ts (2*j+1)).n.ms:=fun h1 h2 h3 h4=>by rw [←hm,←eny]; exact hq.2.2.2.2
     refine Qab ?_
     refine Qaa (.int .i64 ((2*j+1:Nat):Int)) 80 rfl kj kj ?_
     refine Qaa (.int .i64 ((x:Nat):Int)) 81 rfl kj kj ?_
     refine Qaa (.bool true) 82 rfl kj (Qai (u:=.bool ((((2*j+1:Nat):Int) != ((x:Nat):Int)))) kj (congrArg Value.bool (bne_iff_ne.2 (by omega)))) ?_
     refine Qaa (.bool true) 83 rfl kj kj ?_
     refine Qaa (.slice a_t ts.length c_t) 84 rfl kj kj ?_
     refine Qaa (.int .i64 ((2*j+1:Nat):Int)) 85 rfl kj kj ?_
     refine Qaa (.pointer (some ⟨gyT,oyT+(2*j+1)*99,none⟩)) 86 rfl kj (Qap 23 _ _ .i64 (2*j+1) gyT oyT ts.length c_t 50 99 a_t (hay (by omega)) rfl kj kj kj kj (by omega)) ?_
     refine Qaa (.pointer (some ⟨gyT,oyT+(2*j+1)*99,none⟩)) 87 rfl kj kj ?_
     refine Qaa (.bool true) 88 rfl kj (Qak 4 _ _ (.bool true) ((NdAt.at3 hny).1.trans (congrArg (fun z=>some (Value.bool z)) hq.2.1)) rfl kj kj) ?_
     refine Qaa (.bool true) 89 rfl kj kj ?_
     refine Qaa (.bool true) 90 rfl kj kj ?_
     refine Qaa (.int .i64 ((x:Nat):Int)) 91 rfl kj kj ?_
     refine Qaa (.int .i64 ((2*j+1:Nat):Int)) 92 rfl kj kj ?_
     refine Qaa (.int .i64 ((L:Nat):Int)) 93 rfl kj kj ?_
     refine Qal (.bool true) 42 #[.int .i64 ((x:Nat):Int),.int .i64 ((2*j+1:Nat):Int),.int .i64 ((L:Nat):Int)] 94 rfl kj kj (QbB _ _ _ true hq.2.2.1 _) fun W6 e6=>?_
     have x6:Ext w W6:=Ext.tr xx3 e6
     refine Qaa (.bool true) 95 rfl kj kj ?_
     refine Qaa (.bool true) 96 rfl kj kj ?_
     refine Qaa (.int .i64 ((2*j+1:Nat):Int)) 97 rfl kj kj ?_
     refine Qaa (.int .i64 (nth (nt.n.ms) (k))) 98 rfl kj kj ?_
     refine Qaa (.int .i64 (2*((m:Nat):Int))) 99 rfl kj (Qai (u:=.int .i64 (IntKind.i64.wrap (2*(nth (nt.n.ms) (k))))) kj (congrArg (Value.int .i64) (by rw [hm]; exact IntWalk.i64_in _ (by omega)))) ?_
     refine Qaa (.int .i64 ((L:Nat):Int)) 100 rfl kj kj ?_
     refine Qal (.bool true) 42 #[.int .i64 ((2*j+1:Nat):Int),.int .i64 (2*((m:Nat):Int)),.int .i64 ((L:Nat):Int)] 101 rfl kj kj (QbB _ _ _ true hq.2.2.2.1 _) fun W7 e7=>?_
     have x7:Ext w W7:=Ext.tr x6 e7
     refine Qaa (.bool true) 102 rfl kj kj ?_
     refine Qaa (.bool true) 103 rfl kj kj ?_
     refine Qaa (.int .i64 (nth (nt.n.ms) (k))) 104 rfl kj kj ?_
     refine Qaa (.slice a_t ts.length c_t) 105 rfl kj kj ?_
     refine Qaa (.int .i64 ((2*j+1:Nat):Int)) 106 rfl kj kj ?_
     refine Qaa (.pointer (some ⟨gyT,oyT+(2*j+1)*99,none⟩)) 107 rfl kj (Qap 23 _ _ .i64 (2*j+1) gyT oyT ts.length c_t 50 99 a_t (hay (by omega)) rfl kj kj kj kj (by omega)) ?_
     refine Qaa (.pointer (some ⟨gyT,oyT+(2*j+1)*99+98,none⟩)) 108 rfl kj kj ?_
     have y5_6:Ext V3 W6:=(Rely.Ext.trans (Rely.Ext.refl V3) e6)
     have y5_7:Ext V3 W7:=(Rely.Ext.trans y5_6 e7)
     refine Qaa (.slice ny.a ny.n.ms.length ny.c) 109 rfl kj (Qak 24 _ _ (.slice ny.a ny.n.ms.length ny.c) (NdAt.at3 (NdAt.ext hny y5_7)).2.2 rfl kj kj) ?_
     refine Qal (.bool true) 41 #[.int .i64 (nth (nt.n.ms) (k)),.slice ny.a ny.n.ms.length ny.c] 110 rfl kj kj (inRb ny.n.ms (nth nt.n.ms k) ny.a ny.c _ _ (eny▸hmt _ (by omega)) (RdK.here (RdK.ext rdy y5_7)) true (decide_eq_true hq.2.2.2.2)) fun W8 e8=>?_
     have x8:Ext w W8:=Ext.tr x7 e8
     refine Qaa (.bool false) 111 rfl kj kj ?_
     refine Qaa (.bool false) 112 rfl kj kj ?_
     refine Qaf ?_
     refine hK35 _ _ ?_
     refine cond_false kj ?_
     refine wp_skip ?_
     refine hK34 _ _ ?_
     refine Qab ?_
     refine Qaa (.int .i64 ((2*j+1:Nat):Int)) 78 rfl kj kj ?_
     refine Qaa (.int .i64 (((2*(j+1)+1:Nat):Int))) 79 rfl kj (Qai (u:=.int .i64 (IntKind.i64.wrap (((2*j+1:Nat):Int)+2))) kj (congrArg (Value.int .i64) ((IntWalk.i64_in _ (by omega)).trans (by omega)))) ?_
     refine Qaa (.int .i64 (((2*(j+1)+1:Nat):Int))) 10 rfl kj kj ?_
     refine Qaf ?_
     have y4_6:Ext W4 W6:=(Rely.Ext.trans e5 e6)
     have y4_7:Ext W4 W7:=(Rely.Ext.trans y4_6 e7)
     have y4_8:Ext W4 W8:=(Rely.Ext.trans y4_7 e8)
     repeat (first | with_reducible refine goX1 ?_ | with_reducible refine goX2 ?_ | with_reducible refine goX3 ?_)
     exact Qat (j+1) ⟨rfl,rfl,rfl,rfl,rfl,rfl,rfl,trivial⟩ ⟨(by omega),(fun j2 hj=>by by_cases e:j2=j; (rw [e]; exact hyk); exact hys j2 (by omega)),y4_8,x8⟩ (by show ts.length-(j+1)<ts.length-j; omega)
    ·skip
     have hb:msOk ts ((L:Nat):Int) ((x:Nat):Int) nt.n.ms k=false:=by
      unfold msOk
      rw [hm,QeN (y:=2*j+1) hxn (by omega) (by omega) hQ.2.2 hyn (by omega) (by omega) hq.2.2.1 hq.2.2.2.1 (eny▸hq.2.1) (by rw [←hm,←eny]; exact hq.2.2.2.2),Bool.and_false]
     refine Qab ?_
     refine Qaa (.int .i64 ((2*j+1:Nat):Int)) 80 rfl kj kj ?_
     refine Qaa (.int .i64 ((x:Nat):Int)) 81 rfl kj kj ?_
     refine Qaa (.bool true) 82 rfl kj (Qai (u:=.bool ((((2*j+1:Nat):Int) != ((x:Nat):Int)))) kj (congrArg Value.bool (bne_iff_ne.2 (by omega)))) ?_
     refine Qaa (.bool true) 83 rfl kj kj ?_
     refine Qaa (.slice a_t ts.length c_t) 84 rfl kj kj ?_
     refine Qaa (.int .i64 ((2*j+1:Nat):Int)) 85 rfl kj kj ?_
     refine Qaa (.pointer (some ⟨gyT,oyT+(2*j+1)*99,none⟩)) 86 rfl kj (Qap 23 _ _ .i64 (2*j+1) gyT oyT ts.length c_t 50 99 a_t (hay (by omega)) rfl kj kj kj kj (by omega)) ?_
     refine Qaa (.pointer (some ⟨gyT,oyT+(2*j+1)*99,none⟩)) 87 rfl kj kj ?_
     refine Qaa (.bool true) 88 rfl kj (Qak 4 _ _ (.bool true) ((NdAt.at3 hny).1.trans (congrArg (fun z=>some (Value.bool z)) hq.2.1)) rfl kj kj) ?_
     refine Qaa (.bool true) 89 rfl kj kj ?_
     refine Qaa (.bool true) 90 rfl kj kj ?_
     refine Qaa (.int .i64 ((x:Nat):Int)) 91 rfl kj kj ?_
     refine Qaa (.int .i64 ((2*j+1:Nat):Int)) 92 rfl kj kj ?_
     refine Qaa (.int .i64 ((L:Nat):Int)) 93 rfl kj kj ?_
     refine Qal (.bool true) 42 #[.int .i64 ((x:Nat):Int),.int .i64 ((2*j+1:Nat):Int),.int .i64 ((L:Nat):Int)] 94 rfl kj kj (QbB _ _ _ true hq.2.2.1 _) fun W6 e6=>?_
     have x6:Ext w W6:=Ext.tr xx3 e6
     refine Qaa (.bool true) 95 rfl kj kj ?_
     refine Qaa (.bool true) 96 rfl kj kj ?_
     refine Qaa (.int .i64 ((2*j+1:Nat):Int)) 97 rfl kj kj ?_
     refine Qaa (.int .i64 (nth (nt.n.ms) (k))) 98 rfl kj kj ?_
     refine Qaa (.int .i64 (2*((m:Nat):Int))) 99 rfl kj (Qai (u:=.int .i64 (IntKind.i64.wrap (2*(nth (nt.n.ms) (k))))) kj (congrArg (Value.int .i64) (by rw [hm]; exact IntWalk.i64_in _ (by omega)))) ?_
     refine Qaa (.int .i64 ((L:Nat):Int)) 100 rfl kj kj ?_
     refine Qal (.bool true) 42 #[.int .i64 ((2*j+1:Nat):Int),.int .i64 (2*((m:Nat):Int)),.int .i64 ((L:Nat):Int)] 101 rfl kj kj (QbB _ _ _ true hq.2.2.2.1 _) fun W7 e7=>?_
     have x7:Ext w W7:=Ext.tr x6 e7
     refine Qaa (.bool true) 102 rfl kj kj ?_
     refine Qaa (.bool true) 103 rfl kj kj ?_
     refine Qaa (.int .i64 (nth (nt.n.ms) (k))) 104 rfl kj kj ?_
     refine Qaa (.slice a_t ts.length c_t) 105 rfl kj kj ?_
     refine Qaa (.int .i64 ((2*j+1:Nat):Int)) 106 rfl kj kj ?_
     refine Qaa (.pointer (some ⟨gyT,oyT+(2*j+1)*99,none⟩)) 107 rfl kj (Qap 23 _ _ .i64 (2*j+1) gyT oyT ts.length c_t 50 99 a_t (hay (by omega)) rfl kj kj kj kj (by omega)) ?_
     refine Qaa (.pointer (some ⟨gyT,oyT+(2*j+1)*99+98,none⟩)) 108 rfl kj kj ?_
     have y5_6:Ext V3 W6:=(Rely.Ext.trans (Rely.Ext.refl V3) e6)
     have y5_7:Ext V3 W7:=(Rely.Ext.trans y5_6 e7)
     refine Qaa (.slice ny.a ny.n.ms.length ny.c) 109 rfl kj (Qak 24 _ _ (.slice ny.a ny.n.ms.length ny.c) (NdAt.at3 (NdAt.ext hny y5_7)).2.2 rfl kj kj) ?_
     refine Qal (.bool false) 41 #[.int .i64 (nth (nt.n.ms) (k)),.slice ny.a ny.n.ms.length ny.c] 110 rfl kj kj (inRb ny.n.ms (nth nt.n.ms k) ny.a ny.c _ _ (eny▸hmt _ (by omega)) (RdK.here (RdK.ext rdy y5_7)) false (decide_eq_false hq.2.2.2.2)) fun W8 e8=>?_
     have x8:Ext w W8:=Ext.tr x7 e8
     refine Qaa (.bool true) 111 rfl kj kj ?_
     refine Qaa (.bool true) 112 rfl kj kj ?_
     refine Qaf ?_
     refine hK35 _ _ ?_
     refine cond_true kj ?_
     refine wp_seq_k fun K36 hK36=>?_
     refine Qab ?_
     refine Qaa (.bool false) 6 rfl kj kj ?_
     refine Qaf ?_
     refine hK36 _ _ ?_
     refine wp_ret ?_
     repeat (first | with_reducible refine goR1 ?_ | with_reducible refine goR2 ?_)
     exact (show bodyPost _ _ _ .ret _ _ from ret1 (.bool false) rfl (Qaq kj) ⟨congrArg (fun z=>Ending.returned (.bool z)) ((Qbn h h1 h2).trans (QcV (k:=k) (by rw [←ent]; exact hlt28) (by rw [←ent]; exact hb))).symm,x8⟩)
   ·skip
    have hy77:¬ 2*j+1<ts.length:=by have:=of_decide_eq_false c33; omega
    refine wp_exit ?_
    refine hK12 _ _ ?_
    refine Qab ?_
    refine Qaa (.int .i64 ((k:Nat):Int)) 29 rfl kj kj ?_
    refine Qaa (.int .i64 ((k+1:Nat):Int)) 30 rfl kj (Qai (u:=.int .i64 (IntKind.i64.wrap (((k:Nat):Int)+1))) kj (congrArg (Value.int .i64) (i64n _ _ (by omega) (by omega)))) ?_
    refine Qaa (.int .i64 ((k+1:Nat):Int)) 8 rfl kj kj ?_
    refine Qaf ?_
    have hb:msOk ts ((L:Nat):Int) ((x:Nat):Int) nt.n.ms k=true:=hb0.trans (QdY hxn (by omega) (by omega) hQ.2.2 (by rw [←enz]; exact hzu) (fun y hy hyo=>by obtain ⟨j2,rfl⟩:∃ j2,y=2*j2+1:=⟨y/2,by omega⟩; exact hys j2 (by omega)))
    have y2_4:Ext W2 W4:=(Rely.Ext.trans e3 e4)
    have y2_5:Ext W2 V3:=(Rely.Ext.trans y2_4 e5)
    repeat (first | with_reducible refine goX1 ?_ | with_reducible refine goX2 ?_ | with_reducible refine goX3 ?_)
    exact Qat (k+1) ⟨rfl,rfl,rfl,rfl,rfl,trivial⟩ ⟨(by omega),(fun j2 hj=>by by_cases e:j2=k; (rw [e]; exact hb); exact hall j2 (by omega)),y2_5,xx3⟩ (by show nt.n.ms.length-(k+1)<nt.n.ms.length-k; omega)
 ·skip
  have heq28:k=nt.n.ms.length:=by have:=of_decide_eq_false c10; omega
  refine wp_exit ?_
  refine hK6 _ _ ?_
  refine wp_seq_k fun K37 hK37=>?_
  refine Qab ?_
  refine Qaa (.bool true) 6 rfl kj kj ?_
  refine Qaf ?_
  refine hK37 _ _ ?_
  refine wp_ret ?_
  repeat (first | with_reducible refine goR1 ?_ | with_reducible refine goR2 ?_)
  exact (show bodyPost _ _ _ .ret _ _ from ret1 (.bool true) rfl (Qaq kj) ⟨congrArg (fun z=>Ending.returned (.bool z)) ((Qbn h h1 h2).trans (Qg0 (by rw [←ent,←heq28]; exact hall))).symm,xx1⟩)
theorem Ql5 (ts : List NdV) (a_t:Option Addr) (c_t B1:Nat) (w:World) (ht:TrAt B1 w a_t ts) (L:Nat) (hL:leaves ((ts.length:Nat):Int)=((L:Nat):Int)) (hlen:ts.length+1=2*L) (hTr:QaG ((L:Nat):Int)=true) (hmt:∀ i,i<ts.length→(ndi ts i).n.ms.length≤1000000) (htl:ts.length≤100000) (x:Nat) (hx:x<ts.length) (h:x%2≠0):Calls Tryd.prog 32 #[.slice a_t ts.length c_t,.int .i64 ((x:Nat):Int),.int .i64 ((L:Nat):Int)] w (Ret w (.bool (Qbq ts ((L:Nat):Int) x))):=by
  by_cases h1:(ndi ts x).n.nm=0
  · by_cases h2:(ndi ts x).n.sg=List.replicate 32 0
    · exact Qkc ts a_t c_t B1 w ht L hL hlen hTr hmt htl x hx h h1 h2
    · exact Qkd ts a_t c_t B1 w ht L hL hlen hTr hmt htl x hx h h1 h2
  · exact Qkb ts a_t c_t B1 w ht L hL hlen hTr hmt htl x hx h h1
end Go.Proofs.YthfkppjajmjpnaaDoor.Te
end
section
namespace Go.Proofs.YthfkppjajmjpnaaDoor.Te
open Go Go.RowKit
open Rely Auto Own Seat Sha
theorem Qea {ts : List NdV} {nm:Int}:∀ {i:Nat},nm∈Qbc ts i↔∃ j,j<i∧(ndi ts (2*j)).n.us=true∧(ndi ts (2*j)).n.nm=nm
  | 0=>by simp [Qbc]
  | i+1=>by
    have ih:=Qea (ts:=ts) (nm:=nm) (i:=i)
    unfold Qbc
    by_cases hu:(ndi ts (2*i)).n.us=true
    · rw [if_pos hu,List.mem_append,ih,List.mem_singleton]
      constructor
      · rintro (⟨j,h1,h2⟩ | h)
        · exact ⟨j,by omega,h2⟩
        · exact ⟨i,by omega,hu,h.symm⟩
      · rintro ⟨j,h1,h2,h3⟩
        by_cases e:j=i
        · subst e; exact .inr h3.symm
        · exact .inl ⟨j,by omega,h2,h3⟩
    · rw [if_neg hu,ih]
      constructor
      · rintro ⟨j,h1,h2⟩; exact ⟨j,by omega,h2⟩
      · rintro ⟨j,h1,h2,h3⟩
        by_cases e:j=i
        · subst e; exact absurd h2 hu
        · exact ⟨j,by omega,h2,h3⟩
theorem Qft {ts : List NdV} {i:Nat} (h:(ndi ts (2*i)).n.us=true):Qbc ts (i+1)=Qbc ts i++[(ndi ts (2*i)).n.nm]:=by rw [Qbc,if_pos h]
theorem Qgl {ts : List NdV} {i:Nat} (h:(ndi ts (2*i)).n.us=false):Qbc ts (i+1)=Qbc ts i:=by rw [Qbc,if_neg (by rw [h]; decide)]
theorem QiV {ts : List NdV} {m:Nat} (h:(Qbc ts m).Nodup) (hn:∀ j,j<m→(ndi ts (2*j)).n.us=true→(ndi ts (2*j)).n.nm≠(ndi ts (2*m)).n.nm):(Qbc ts (m+1)).Nodup:=by
  cases hu:(ndi ts (2*m)).n.us with
  | false=>rw [Qgl hu]; exact h
  | true =>
    rw [Qft hu]
    exact QcI h fun hc=>by
      obtain ⟨j,h1,h2,h3⟩:=Qea.1 hc
      exact hn j h1 h2 h3
theorem QhP {ts : List NdV} {m j:Nat} (hm:2*m<ts.length) (hj:j<m) (hu:(ndi ts (2*j)).n.us=true) (hu2:(ndi ts (2*m)).n.us=true) (hn:(ndi ts (2*j)).n.nm=(ndi ts (2*m)).n.nm):QbV ts=false:=by
  unfold QbV
  refine decide_eq_false (Qec (i:=m+1) ?_ _ (by omega))
  rw [Qft hu2]
  exact fun q=>(List.nodup_append.1 q).2.2 _ (Qea.2 ⟨j,hj,hu,hn⟩) _ (List.mem_singleton.2 rfl) rfl
theorem chk4 {ts : List NdV} {L x:Nat} (e:lvs ts=L) (hx:x<ts.length) (h:Qbd ts ((L:Nat):Int) x=false):chkT ts=false:=by
  unfold chkT
  rw [e,QcV hx h,Bool.and_false]
theorem QjA (b : Bool) (nd:NdV) (hok:NdOk nd.n) (B1:Nat) (w:World) (hm1:nd.n.ms.length≤1000000) (hr1:RdK .i64 B1 nd.n.ms (.slice nd.a nd.n.ms.length nd.c) w) (h:Qb7 nd.n zn.n=b):Calls Tryd.prog 31 #[.agg (cat [#[.bool nd.n.us],#[.int .i64 nd.n.nm],ints .u8 (nd.n.key),ints .u8 (nd.n.sg),ints .u8 (nd.n.pa),#[.slice nd.a nd.n.ms.length nd.c]]),.agg (cat [#[.bool false],#[.int .i64 0],ints .u8 (List.replicate 32 0),ints .u8 (List.replicate 32 0),ints .u8 (List.replicate 32 0),#[.slice none 0 0]])] w (Ret w (.bool b)):=by
  exact h▸QjB nd zn hok Qey B1 0 w hm1 (Nat.zero_le _) hr1 (Qei 0 w)
theorem Qd2 {m L:Nat} (hm:m≤100000) (h:leaves ((m:Nat):Int)=((L:Nat):Int)):QcX ((m:Nat):Int)=((L:Nat):Int):=(leaves_eq _ ⟨by omega,by omega⟩).symm.trans h
set_option maxRecDepth 100000 in
theorem Qme (ts : List NdV) (a_t:Option Addr) (c_t B1:Nat) (w:World) (ht:TrAt B1 w a_t ts) (htl:ts.length≤100000) (hmt:∀ i,i<ts.length→(ndi ts i).n.ms.length≤1000000) (L:Nat) (hL:leaves ((ts.length:Nat):Int)=((L:Nat):Int)) (hL2:2*L≤ts.length+1) (hL4:L≠0→ts.length+1=2*L∧QaG ((L:Nat):Int)=true) (h0:L=0):Calls Tryd.prog 12 #[.slice a_t ts.length c_t] w (Ret w (.bool (chkT ts))):=by
  refine enter 95 [(0,.slice a_t ts.length c_t)] Tryd.func12 rfl rfl kj rfl ?_
  refine wp_seq_k fun K1 hK1=>?_
  refine Qab ?_
  refine Qaa (.bool false) 2 rfl kj kj ?_
  refine Qaf ?_
  refine hK1 _ _ ?_
  refine wp_seq_k fun K2 hK2=>?_
  refine Qab ?_
  refine Qaa (.slice a_t ts.length c_t) 6 rfl kj kj ?_
  refine Qaa (.int .i64 ((ts.length:Nat):Int)) 7 rfl kj kj ?_
  refine Qal (.int .i64 ((L:Nat):Int)) 25 #[.int .i64 ((ts.length:Nat):Int)] 8 rfl kj kj (QeV ((ts.length:Nat):Int) _ (Qd2 htl hL) _) fun W1 e1=>?_
  have x1:Ext w W1:=Ext.tr (Rely.Ext.refl w) e1
  refine Qaa (.int .i64 ((L:Nat):Int)) 3 rfl kj kj ?_
  refine Qaf ?_
  refine hK2 _ _ ?_
  refine wp_seq_k fun K3 hK3=>?_
  refine wp_seq_k fun K4 hK4=>?_
  refine Qab ?_
  refine Qaa (.int .i64 ((L:Nat):Int)) 9 rfl kj kj ?_
  refine Qaa (.bool true) 10 rfl kj (Qai (u:=.bool ((((L:Nat):Int)==0))) kj (congrArg Value.bool (beq_iff_eq.2 (by omega)))) ?_
  refine Qaa (.bool true) 11 rfl kj kj ?_
  refine Qad 12 rfl kj ?_
  refine Qad 13 rfl kj ?_
  refine Qad 14 rfl kj ?_
  refine Qad 15 rfl kj ?_
  refine Qad 16 rfl kj ?_
  refine Qaa (.bool true) 17 rfl kj kj ?_
  refine Qaf ?_
  refine hK4 _ _ ?_
  refine cond_true kj ?_
  refine wp_seq_k fun K5 hK5=>?_
  refine Qab ?_
  refine Qaa (.bool false) 2 rfl kj kj ?_
  refine Qaf ?_
  refine hK5 _ _ ?_
  refine wp_ret ?_
  repeat (first | with_reducible refine goR1 ?_ | with_reducible refine goR2 ?_)
  exact (show bodyPost _ _ _ .ret _ _ from ret1 (.bool false) rfl (Qaq kj) ⟨congrArg (fun z=>Ending.returned (.bool z)) (chk0 (QbZ hL) h0).symm,x1⟩)
set_option maxRecDepth 100000 in
theorem Qmd (ts : List NdV) (a_t:Option Addr) (c_t B1:Nat) (w:World) (ht:TrAt B1 w a_t ts) (htl:ts.length≤100000) (hmt:∀ i,i<ts.length→(ndi ts i).n.ms.length≤1000000) (L:Nat) (hL:leaves ((ts.length:Nat):Int)=((L:Nat):Int)) (hL2:2*L≤ts.length+1) (hL4:L≠0→ts.length+1=2*L∧QaG ((L:Nat):Int)=true) (h0:L≠0) (h2:anyU ts (L/2)=false):Calls Tryd.prog 12 #[.slice a_t ts.length c_t] w (Ret w (.bool (chkT ts))):=by
  obtain ⟨hlen,hTr⟩:=hL4 h0
  refine enter 95 [(0,.slice a_t ts.length c_t)] Tryd.func12 rfl rfl kj rfl ?_
  refine wp_seq_k fun K1 hK1=>?_
  refine Qab ?_
  refine Qaa (.bool false) 2 rfl kj kj ?_
  refine Qaf ?_
  refine hK1 _ _ ?_
  refine wp_seq_k fun K2 hK2=>?_
  refine Qab ?_
  refine Qaa (.slice a_t ts.length c_t) 6 rfl kj kj ?_
  refine Qaa (.int .i64 ((ts.length:Nat):Int)) 7 rfl kj kj ?_
  refine Qal (.int .i64 ((L:Nat):Int)) 25 #[.int .i64 ((ts.length:Nat):Int)] 8 rfl kj kj (QeV ((ts.length:Nat):Int) _ (Qd2 htl hL) _) fun W1 e1=>?_
  have x1:Ext w W1:=Ext.tr (Rely.Ext.refl w) e1
  refine Qaa (.int .i64 ((L:Nat):Int)) 3 rfl kj kj ?_
  refine Qaf ?_
  refine hK2 _ _ ?_
  refine wp_seq_k fun K3 hK3=>?_
  refine wp_seq_k fun K4 hK4=>?_
  refine Qab ?_
  refine Qaa (.int .i64 ((L:Nat):Int)) 9 rfl kj kj ?_
  refine Qaa (.bool false) 10 rfl kj (Qai (u:=.bool ((((L:Nat):Int)==0))) kj (congrArg Value.bool (beq_eq_false_iff_ne.2 (by omega)))) ?_
  refine Qaa (.bool false) 11 rfl kj kj ?_
  refine Qaa (.slice a_t ts.length c_t) 12 rfl kj kj ?_
  refine Qaa (.int .i64 ((L:Nat):Int)) 13 rfl kj kj ?_
  refine Qaa (.int .i64 ((L/2:Nat):Int)) 14 rfl kj (Qai (u:=.int .i64 (IntKind.i64.wrap (Int.tdiv (((L:Nat):Int)) (2)))) kj (congrArg (Value.int .i64) (Qb3 _ 2 (by omega)))) ?_
  refine Qal (.bool false) 30 #[.slice a_t ts.length c_t,.int .i64 ((L/2:Nat):Int)] 15 rfl kj kj ((h2▸Ql4 ts a_t c_t _ _ (TrAt.ext ht x1) htl (L/2) (by omega))) fun W2 e2=>?_
  have x2:Ext w W2:=Ext.tr x1 e2
  refine Qaa (.bool true) 16 rfl kj kj ?_
  refine Qaa (.bool true) 17 rfl kj kj ?_
  refine Qaf ?_
  refine hK4 _ _ ?_
  refine cond_true kj ?_
  refine wp_seq_k fun K5 hK5=>?_
  refine Qab ?_
  refine Qaa (.bool false) 2 rfl kj kj ?_
  refine Qaf ?_
  refine hK5 _ _ ?_
  refine wp_ret ?_
  repeat (first | with_reducible refine goR1 ?_ | with_reducible refine goR2 ?_)
  exact (show bodyPost _ _ _ .ret _ _ from ret1 (.bool false) rfl (Qaq kj) ⟨congrArg (fun z=>Ending.returned (.bool z)) (chk2 (QbZ hL) h2).symm,x2⟩)
set_option maxRecDepth 100000 in
theorem Qmc (ts : List NdV) (a_t:Option Addr) (c_t B1:Nat) (w:World) (ht:TrAt B1 w a_t ts) (htl:ts.length≤100000) (hmt:∀ i,i<ts.length→(ndi ts i).n.ms.length≤1000000) (L:Nat) (hL:leaves ((ts.length:Nat):Int)=((L:Nat):Int)) (hL2:2*L≤ts.length+1) (hL4:L≠0→ts.length+1=2*L∧QaG ((L:Nat):Int)=true) (h0:L≠0) (h2:anyU ts (L/2)=true):Calls Tryd.prog 12 #[.slice a_t ts.length c_t] w (Ret w (.bool (chkT ts))):=by
 obtain ⟨hlen,hTr⟩:=hL4 h0
 refine enter 95 [(0,.slice a_t ts.length c_t)] Tryd.func12 rfl rfl kj rfl ?_
 refine wp_seq_k fun K1 hK1=>?_
 refine Qab ?_
 refine Qaa (.bool false) 2 rfl kj kj ?_
 refine Qaf ?_
 refine hK1 _ _ ?_
 refine wp_seq_k fun K2 hK2=>?_
 refine Qab ?_
 refine Qaa (.slice a_t ts.length c_t) 6 rfl kj kj ?_
 refine Qaa (.int .i64 ((ts.length:Nat):Int)) 7 rfl kj kj ?_
 refine Qal (.int .i64 ((L:Nat):Int)) 25 #[.int .i64 ((ts.length:Nat):Int)] 8 rfl kj kj (QeV ((ts.length:Nat):Int) _ (Qd2 htl hL) _) fun W1 e1=>?_
 have x1:Ext w W1:=Ext.tr (Rely.Ext.refl w) e1
 refine Qaa (.int .i64 ((L:Nat):Int)) 3 rfl kj kj ?_
 refine Qaf ?_
 refine hK2 _ _ ?_
 refine wp_seq_k fun K3 hK3=>?_
 refine wp_seq_k fun K4 hK4=>?_
 refine Qab ?_
 refine Qaa (.int .i64 ((L:Nat):Int)) 9 rfl kj kj ?_
 refine Qaa (.bool false) 10 rfl kj (Qai (u:=.bool ((((L:Nat):Int)==0))) kj (congrArg Value.bool (beq_eq_false_iff_ne.2 (by omega)))) ?_
 refine Qaa (.bool false) 11 rfl kj kj ?_
 refine Qaa (.slice a_t ts.length c_t) 12 rfl kj kj ?_
 refine Qaa (.int .i64 ((L:Nat):Int)) 13 rfl kj kj ?_
 refine Qaa (.int .i64 ((L/2:Nat):Int)) 14 rfl kj (Qai (u:=.int .i64 (IntKind.i64.wrap (Int.tdiv (((L:Nat):Int)) (2)))) kj (congrArg (Value.int .i64) (Qb3 _ 2 (by omega)))) ?_
 refine Qal (.bool true) 30 #[.slice a_t ts.length c_t,.int .i64 ((L/2:Nat):Int)] 15 rfl kj kj ((h2▸Ql4 ts a_t c_t _ _ (TrAt.ext ht x1) htl (L/2) (by omega))) fun W2 e2=>?_
 have x2:Ext w W2:=Ext.tr x1 e2
 refine Qaa (.bool false) 16 rfl kj kj ?_
 refine Qaa (.bool false) 17 rfl kj kj ?_
 refine Qaf ?_
 refine hK4 _ _ ?_
 refine cond_false kj ?_
 refine wp_skip ?_
 refine hK3 _ _ ?_
 refine wp_seq_k fun K5 hK5=>?_
 refine wp_seq_k fun K6 hK6=>?_
 refine Qab ?_
 refine Qaa (.int .i64 0) 4 rfl kj kj ?_
 refine Qaf ?_
 refine hK6 _ _ ?_
 refine wp_block ?_
 refine Qa0 (fun (s1:Nat)=>[(0,.slice a_t ts.length c_t),(3,.int .i64 ((L:Nat):Int)),(4,.int .i64 ((s1:Nat):Int))]) (fun (s1:Nat) W=>(s1≤ts.length)∧(∀ j,j<s1→Qbd ts ((L:Nat):Int) j=true)∧((Qbc ts ((s1+1)/2)).Nodup)∧(Ext W2 W)∧(Ext w W)) (fun (s1:Nat)=>ts.length-s1) 0 ⟨rfl,rfl,rfl,trivial⟩ ⟨(Nat.zero_le _),(fun j hj=>absurd hj (Nat.not_lt_zero j)),List.nodup_nil,(Rely.Ext.refl W2),x2⟩ fun s1 X1 V1 hI1=>?_
 obtain ⟨x,hs1⟩:∃ z,z=s1:=⟨_,rfl⟩
 subst hs1
 obtain ⟨hx,hall,hnd,kk1,xx1⟩:=hI1
 replace hx:x≤ts.length:=hx
 replace hall:∀ j,j<x→Qbd ts ((L:Nat):Int) j=true:=hall
 replace hnd:(Qbc ts ((x+1)/2)).Nodup:=hnd
 replace kk1:Ext W2 V1:=kk1
 replace xx1:Ext w V1:=xx1
 have e3:=kk1
 refine wp_seq_k fun K7 hK7=>?_
 refine wp_seq_k fun K8 hK8=>?_
 refine Qab ?_
 refine Qaa (.int .i64 ((x:Nat):Int)) 18 rfl kj kj ?_
 refine Qaa (.slice a_t ts.length c_t) 19 rfl kj kj ?_
 refine Qaa (.int .i64 ((ts.length:Nat):Int)) 20 rfl kj kj ?_
 refine Qaa (.bool (decide (((x:Nat):Int)<((ts.length:Nat):Int)))) 21 rfl kj kj ?_
 refine Qaf ?_
 refine hK8 _ _ ?_
 refine Qar (t:=decide (((x:Nat):Int)<((ts.length:Nat):Int))) kj (fun c9=>?_) (fun c9=>?_)
 ·skip
  have hlt21:x<ts.length:=by have:=of_decide_eq_true c9; omega
  refine wp_skip ?_
  refine hK7 _ _ ?_
  refine wp_seq_k fun K10 hK10=>?_
  refine wp_block ?_
  refine wp_seq_k fun K11 hK11=>?_
  refine wp_seq_k fun K12 hK12=>?_
  obtain ⟨gtT,otT,hat,hnts⟩:=TrAt.ext ht xx1
  have hnt:=hnts x (by omega)
  obtain ⟨nt,ent⟩:∃ z,z=ndi ts x:=⟨_,rfl⟩
  rw [←ent] at hnt
  have okt:=hnt.ok
  have rdt:=hnt.rd
  rcases (show (nt.n.us=false∧Qb7 nt.n zn.n=true)∨(nt.n.us=false∧Qb7 nt.n zn.n=false)∨(nt.n.us=true∧x%2=1)∨(nt.n.us=true∧x%2=0) from by rcases (show x%2=1∨x%2=0 by omega) with h9 | h9 <;> cases nt.n.us <;> cases Qb7 nt.n zn.n <;> simp [h9]) with hq | hq | hq | hq
  ·skip
   have hb:Qbd ts ((L:Nat):Int) x=true:=by unfold Qbd; rw [←ent,if_neg (by rw [hq.1]; decide)]; exact hq.2
   refine Qab ?_
   refine Qaa (.slice a_t ts.length c_t) 24 rfl kj kj ?_
   refine Qaa (.int .i64 ((x:Nat):Int)) 25 rfl kj kj ?_
   refine Qaa (.pointer (some ⟨gtT,otT+x*99,none⟩)) 26 rfl kj (Qap 23 _ _ .i64 (x) gtT otT ts.length c_t 50 99 a_t (hat (by omega)) rfl kj kj kj kj (by omega)) ?_
   refine Qaa (.pointer (some ⟨gtT,otT+x*99,none⟩)) 27 rfl kj kj ?_
   refine Qaa (.bool false) 28 rfl kj (Qak 4 _ _ (.bool false) ((NdAt.at3 hnt).1.trans (congrArg (fun z=>some (Value.bool z)) hq.1)) rfl kj kj) ?_
   refine Qaa (.bool true) 29 rfl kj kj ?_
   refine Qaa (.bool true) 30 rfl kj kj ?_
   refine Qaa (.slice a_t ts.length c_t) 31 rfl kj kj ?_
   refine Qaa (.int .i64 ((x:Nat):Int)) 32 rfl kj kj ?_
   refine Qaa (.pointer (some ⟨gtT,otT+x*99,none⟩)) 33 rfl kj (Qap 23 _ _ .i64 (x) gtT otT ts.length c_t 50 99 a_t (hat (by omega)) rfl kj kj kj kj (by omega)) ?_
   refine Qaa (.agg (cat [#[.bool nt.n.us],#[.int .i64 nt.n.nm],ints .u8 (nt.n.key),ints .u8 (nt.n.sg),ints .u8 (nt.n.pa),#[.slice nt.a nt.n.ms.length nt.c]])) 34 rfl kj (QaH 50 _ gtT (otT+x*99) nt hnt rfl kj kj kj) ?_
   refine Qaa (.agg (cat [#[.bool false],#[.int .i64 0],ints .u8 (List.replicate 32 0),ints .u8 (List.replicate 32 0),ints .u8 (List.replicate 32 0),#[.slice none 0 0]])) 35 rfl kj kj ?_
   refine Qal (.bool true) 31 #[.agg (cat [#[.bool nt.n.us],#[.int .i64 nt.n.nm],ints .u8 (nt.n.key),ints .u8 (nt.n.sg),ints .u8 (nt.n.pa),#[.slice nt.a nt.n.ms.length nt.c]]),.agg (cat [#[.bool false],#[.int .i64 0],ints .u8 (List.replicate 32 0),ints .u8 (List.replicate 32 0),ints .u8 (List.replicate 32 0),#[.slice none 0 0]])] 36 rfl kj kj (QjA true nt okt _ _ (ent▸hmt x (by omega)) (RdK.here (RdK.ext rdt (Rely.Ext.refl V1))) hq.2) fun W4 e4=>?_
   have x4:Ext w W4:=Ext.tr xx1 e4
   refine Qaa (.bool false) 37 rfl kj kj ?_
   refine Qaa (.bool false) 38 rfl kj kj ?_
   refine Qaf ?_
   refine hK12 _ _ ?_
   refine cond_false kj ?_
   refine wp_skip ?_
   refine hK11 _ _ ?_
   refine wp_seq_k fun K13 hK13=>?_
   refine wp_seq_k fun K14 hK14=>?_
   refine Qab ?_
   refine Qaa (.slice a_t ts.length c_t) 39 rfl kj kj ?_
   refine Qaa (.int .i64 ((x:Nat):Int)) 40 rfl kj kj ?_
   refine Qaa (.pointer (some ⟨gtT,otT+x*99,none⟩)) 41 rfl kj (Qap 23 _ _ .i64 (x) gtT otT ts.length c_t 50 99 a_t (hat (by omega)) rfl kj kj kj kj (by omega)) ?_
   refine Qaa (.pointer (some ⟨gtT,otT+x*99,none⟩)) 42 rfl kj kj ?_
   have y3_4:Ext V1 W4:=(Rely.Ext.trans (Rely.Ext.refl V1) e4)
   refine Qaa (.bool false) 43 rfl kj (Qak 4 _ _ (.bool false) ((NdAt.at3 (NdAt.ext hnt y3_4)).1.trans (congrArg (fun z=>some (Value.bool z)) hq.1)) rfl kj kj) ?_
   refine Qaa (.bool false) 44 rfl kj kj ?_
   refine Qad 45 rfl kj ?_
   refine Qad 46 rfl kj ?_
   refine Qad 47 rfl kj ?_
   refine Qaa (.bool false) 48 rfl kj kj ?_
   refine Qaa (.bool false) 49 rfl kj kj ?_
   refine Qad 50 rfl kj ?_
   refine Qad 51 rfl kj ?_
   refine Qad 52 rfl kj ?_
   refine Qad 53 rfl kj ?_
   refine Qad 54 rfl kj ?_
   refine Qaa (.bool false) 55 rfl kj kj ?_
   refine Qaf ?_
   refine hK14 _ _ ?_
   refine cond_false kj ?_
   refine wp_skip ?_
   refine hK13 _ _ ?_
   refine wp_seq_k fun K15 hK15=>?_
   refine Qab ?_
   refine Qaa (.slice a_t ts.length c_t) 56 rfl kj kj ?_
   refine Qaa (.int .i64 ((x:Nat):Int)) 57 rfl kj kj ?_
   refine Qaa (.pointer (some ⟨gtT,otT+x*99,none⟩)) 58 rfl kj (Qap 23 _ _ .i64 (x) gtT otT ts.length c_t 50 99 a_t (hat (by omega)) rfl kj kj kj kj (by omega)) ?_
   refine Qaa (.pointer (some ⟨gtT,otT+x*99,none⟩)) 59 rfl kj kj ?_
   refine Qaa (.bool false) 60 rfl kj (Qak 4 _ _ (.bool false) ((NdAt.at3 (NdAt.ext hnt y3_4)).1.trans (congrArg (fun z=>some (Value.bool z)) hq.1)) rfl kj kj) ?_
   refine Qaa (.bool false) 61 rfl kj kj ?_
   refine Qad 62 rfl kj ?_
   refine Qad 63 rfl kj ?_
   refine Qad 64 rfl kj ?_
   refine Qaa (.bool false) 65 rfl kj kj ?_
   refine Qaf ?_
   refine hK15 _ _ ?_
   refine cond_false kj ?_
   refine wp_skip ?_
   refine hK10 _ _ ?_
   refine Qab ?_
   refine Qaa (.int .i64 ((x:Nat):Int)) 22 rfl kj kj ?_
   refine Qaa (.int .i64 ((x+1:Nat):Int)) 23 rfl kj (Qai (u:=.int .i64 (IntKind.i64.wrap (((x:Nat):Int)+1))) kj (congrArg (Value.int .i64) (i64n _ _ (by omega) (by omega)))) ?_
   refine Qaa (.int .i64 ((x+1:Nat):Int)) 4 rfl kj kj ?_
   refine Qaf ?_
   have y2_4:Ext W2 W4:=(Rely.Ext.trans e3 e4)
   repeat (first | with_reducible refine goX1 ?_ | with_reducible refine goX2 ?_ | with_reducible refine goX3 ?_)
   exact Qat (x+1) ⟨rfl,rfl,rfl,trivial⟩ ⟨(by omega),(fun j hj=>by by_cases e:j=x; (rw [e]; exact hb); exact hall j (by omega)),(by rcases (show x%2=1∨x%2=0 by omega) with h9 | h9; (rw [show (x+1+1)/2=(x+1)/2 by omega]; exact hnd); (rw [show (x+1+1)/2=x/2+1 by omega,Qgl (by rw [show 2*(x/2)=x by omega,←ent]; exact hq.1),show x/2=(x+1)/2 by omega]; exact hnd)),y2_4,x4⟩ (by show ts.length-(x+1)<ts.length-x; omega)
  ·skip
   have hb:Qbd ts ((L:Nat):Int) x=false:=by unfold Qbd; rw [←ent,if_neg (by rw [hq.1]; decide)]; exact hq.2
   refine Qab ?_
   refine Qaa (.slice a_t ts.length c_t) 24 rfl kj kj ?_
   refine Qaa (.int .i64 ((x:Nat):Int)) 25 rfl kj kj ?_
   refine Qaa (.pointer (some ⟨gtT,otT+x*99,none⟩)) 26 rfl kj (Qap 23 _ _ .i64 (x) gtT otT ts.length c_t 50 99 a_t (hat (by omega)) rfl kj kj kj kj (by omega)) ?_
   refine Qaa (.pointer (some ⟨gtT,otT+x*99,none⟩)) 27 rfl kj kj ?_
   refine Qaa (.bool false) 28 rfl kj (Qak 4 _ _ (.bool false) ((NdAt.at3 hnt).1.trans (congrArg (fun z=>some (Value.bool z)) hq.1)) rfl kj kj) ?_
   refine Qaa (.bool true) 29 rfl kj kj ?_
   refine Qaa (.bool true) 30 rfl kj kj ?_
   refine Qaa (.slice a_t ts.length c_t) 31 rfl kj kj ?_
   refine Qaa (.int .i64 ((x:Nat):Int)) 32 rfl kj kj ?_
   refine Qaa (.pointer (some ⟨gtT,otT+x*99,none⟩)) 33 rfl kj (Qap 23 _ _ .i64 (x) gtT otT ts.length c_t 50 99 a_t (hat (by omega)) rfl kj kj kj kj (by omega)) ?_
   refine Qaa (.agg (cat [#[.bool nt.n.us],#[.int .i64 nt.n.nm],ints .u8 (nt.n.key),ints .u8 (nt.n.sg),ints .u8 (nt.n.pa),#[.slice nt.a nt.n.ms.length nt.c]])) 34 rfl kj (QaH 50 _ gtT (otT+x*99) nt hnt rfl kj kj kj) ?_
   refine Qaa (.agg (cat [#[.bool false],#[.int .i64 0],ints .u8 (List.replicate 32 0),ints .u8 (List.replicate 32 0),ints .u8 (List.replicate 32 0),#[.slice none 0 0]])) 35 rfl kj kj ?_
   refine Qal (.bool false) 31 #[.agg (cat [#[.bool nt.n.us],#[.int .i64 nt.n.nm],ints .u8 (nt.n.key),ints .u8 (nt.n.sg),ints .u8 (nt.n.pa),#[.slice nt.a nt.n.ms.length nt.c]]),.agg (cat [#[.bool false],#[.int .i64 0],ints .u8 (List.replicate 32 0),ints .u8 (List.replicate 32 0),ints .u8 (List.replicate 32 0),#[.slice none 0 0]])] 36 rfl kj kj (QjA false nt okt _ _ (ent▸hmt x (by omega)) (RdK.here (RdK.ext rdt (Rely.Ext.refl V1))) hq.2) fun W4 e4=>?_
   have x4:Ext w W4:=Ext.tr xx1 e4
   refine Qaa (.bool true) 37 rfl kj kj ?_
   refine Qaa (.bool true) 38 rfl kj kj ?_
   refine Qaf ?_
   refine hK12 _ _ ?_
   refine cond_true kj ?_
   refine wp_seq_k fun K16 hK16=>?_
   refine Qab ?_
   refine Qaa (.bool false) 2 rfl kj kj ?_
   refine Qaf ?_
   refine hK16 _ _ ?_
   refine wp_ret ?_
   repeat (first | with_reducible refine goR1 ?_ | with_reducible refine goR2 ?_)
   exact (show bodyPost _ _ _ .ret _ _ from ret1 (.bool false) rfl (Qaq kj) ⟨congrArg (fun z=>Ending.returned (.bool z)) ((chk4 (QbZ hL) hlt21 hb)).symm,x4⟩)
  ·skip
   have hux:(ndi ts x).n.us=true:=ent▸hq.1
   have hb0:Qbd ts ((L:Nat):Int) x=Qbq ts ((L:Nat):Int) x:=by unfold Qbd; rw [if_pos hux]
   refine Qab ?_
   refine Qaa (.slice a_t ts.length c_t) 24 rfl kj kj ?_
   refine Qaa (.int .i64 ((x:Nat):Int)) 25 rfl kj kj ?_
   refine Qaa (.pointer (some ⟨gtT,otT+x*99,none⟩)) 26 rfl kj (Qap 23 _ _ .i64 (x) gtT otT ts.length c_t 50 99 a_t (hat (by omega)) rfl kj kj kj kj (by omega)) ?_
   refine Qaa (.pointer (some ⟨gtT,otT+x*99,none⟩)) 27 rfl kj kj ?_
   refine Qaa (.bool true) 28 rfl kj (Qak 4 _ _ (.bool true) ((NdAt.at3 hnt).1.trans (congrArg (fun z=>some (Value.bool z)) hq.1)) rfl kj kj) ?_
   refine Qaa (.bool false) 29 rfl kj kj ?_
   refine Qaa (.bool false) 30 rfl kj kj ?_
   refine Qad 31 rfl kj ?_
   refine Qad 32 rfl kj ?_
   refine Qad 33 rfl kj ?_
   refine Qad 34 rfl kj ?_
   refine Qad 35 rfl kj ?_
   refine Qad 36 rfl kj ?_
   refine Qad 37 rfl kj ?_
   refine Qaa (.bool false) 38 rfl kj kj ?_
   refine Qaf ?_
   refine hK12 _ _ ?_
   refine cond_false kj ?_
   refine wp_skip ?_
   refine hK11 _ _ ?_
   refine wp_seq_k fun K17 hK17=>?_
   refine wp_seq_k fun K18 hK18=>?_
   refine Qab ?_
   refine Qaa (.slice a_t ts.length c_t) 39 rfl kj kj ?_
   refine Qaa (.int .i64 ((x:Nat):Int)) 40 rfl kj kj ?_
   refine Qaa (.pointer (some ⟨gtT,otT+x*99,none⟩)) 41 rfl kj (Qap 23 _ _ .i64 (x) gtT otT ts.length c_t 50 99 a_t (hat (by omega)) rfl kj kj kj kj (by omega)) ?_
   refine Qaa (.pointer (some ⟨gtT,otT+x*99,none⟩)) 42 rfl kj kj ?_
   refine Qaa (.bool true) 43 rfl kj (Qak 4 _ _ (.bool true) ((NdAt.at3 hnt).1.trans (congrArg (fun z=>some (Value.bool z)) hq.1)) rfl kj kj) ?_
   refine Qaa (.bool true) 44 rfl kj kj ?_
   refine Qaa (.int .i64 ((x:Nat):Int)) 45 rfl kj kj ?_
   refine Qaa (.int .i64 ((x%2:Nat):Int)) 46 rfl kj (Qai (u:=.int .i64 (Int.tmod (((x:Nat):Int)) (2))) kj (congrArg (Value.int .i64) (Qbl _ 2))) ?_
   refine Qaa (.bool true) 47 rfl kj (Qai (u:=.bool ((((x%2:Nat):Int)==1))) kj (congrArg Value.bool (beq_iff_eq.2 (by omega)))) ?_
   refine Qaa (.bool true) 48 rfl kj kj ?_
   refine Qaa (.bool true) 49 rfl kj kj ?_
   refine Qaa (.slice a_t ts.length c_t) 50 rfl kj kj ?_
   refine Qaa (.int .i64 ((x:Nat):Int)) 51 rfl kj kj ?_
   refine Qaa (.int .i64 ((L:Nat):Int)) 52 rfl kj kj ?_
   refine Qal (.bool (Qbq ts ((L:Nat):Int) x)) 32 #[.slice a_t ts.length c_t,.int .i64 ((x:Nat):Int),.int .i64 ((L:Nat):Int)] 53 rfl kj kj (Ql5 ts a_t c_t _ _ (TrAt.ext ht xx1) L hL hlen hTr hmt htl x (by omega) (by omega)) fun W4 e4=>?_
   have x4:Ext w W4:=Ext.tr xx1 e4
   refine Qaa (.bool (!(Qbq ts ((L:Nat):Int) x))) 54 rfl kj kj ?_
   refine Qaa (.bool (!(Qbq ts ((L:Nat):Int) x))) 55 rfl kj kj ?_
   refine Qaf ?_
   refine hK18 _ _ ?_
   refine Qar (t:=!(Qbq ts ((L:Nat):Int) x)) kj (fun c19=>?_) (fun c19=>?_)
   ·skip
    have hb:Qbd ts ((L:Nat):Int) x=false:=by rw [hb0]; simpa using c19
    refine wp_seq_k fun K20 hK20=>?_
    refine Qab ?_
    refine Qaa (.bool false) 2 rfl kj kj ?_
    refine Qaf ?_
    refine hK20 _ _ ?_
    refine wp_ret ?_
    repeat (first | with_reducible refine goR1 ?_ | with_reducible refine goR2 ?_)
    exact (show bodyPost _ _ _ .ret _ _ from ret1 (.bool false) rfl (Qaq kj) ⟨congrArg (fun z=>Ending.returned (.bool z)) ((chk4 (QbZ hL) hlt21 hb)).symm,x4⟩)
   ·skip
    have hb:Qbd ts ((L:Nat):Int) x=true:=by rw [hb0]; simpa using c19
    refine wp_skip ?_
    refine hK17 _ _ ?_
    refine wp_seq_k fun K21 hK21=>?_
    refine Qab ?_
    refine Qaa (.slice a_t ts.length c_t) 56 rfl kj kj ?_
    refine Qaa (.int .i64 ((x:Nat):Int)) 57 rfl kj kj ?_
    refine Qaa (.pointer (some ⟨gtT,otT+x*99,none⟩)) 58 rfl kj (Qap 23 _ _ .i64 (x) gtT otT ts.length c_t 50 99 a_t (hat (by omega)) rfl kj kj kj kj (by omega)) ?_
    refine Qaa (.pointer (some ⟨gtT,otT+x*99,none⟩)) 59 rfl kj kj ?_
    have y3_4:Ext V1 W4:=(Rely.Ext.trans (Rely.Ext.refl V1) e4)
    refine Qaa (.bool true) 60 rfl kj (Qak 4 _ _ (.bool true) ((NdAt.at3 (NdAt.ext hnt y3_4)).1.trans (congrArg (fun z=>some (Value.bool z)) hq.1)) rfl kj kj) ?_
    refine Qaa (.bool true) 61 rfl kj kj ?_
    refine Qaa (.int .i64 ((x:Nat):Int)) 62 rfl kj kj ?_
    refine Qaa (.int .i64 ((x%2:Nat):Int)) 63 rfl kj (Qai (u:=.int .i64 (Int.tmod (((x:Nat):Int)) (2))) kj (congrArg (Value.int .i64) (Qbl _ 2))) ?_
    refine Qaa (.bool false) 64 rfl kj (Qai (u:=.bool ((((x%2:Nat):Int)==0))) kj (congrArg Value.bool (beq_eq_false_iff_ne.2 (by omega)))) ?_
    refine Qaa (.bool false) 65 rfl kj kj ?_
    refine Qaf ?_
    refine hK21 _ _ ?_
    refine cond_false kj ?_
    refine wp_skip ?_
    refine hK10 _ _ ?_
    refine Qab ?_
    refine Qaa (.int .i64 ((x:Nat):Int)) 22 rfl kj kj ?_
    refine Qaa (.int .i64 ((x+1:Nat):Int)) 23 rfl kj (Qai (u:=.int .i64 (IntKind.i64.wrap (((x:Nat):Int)+1))) kj (congrArg (Value.int .i64) (i64n _ _ (by omega) (by omega)))) ?_
    refine Qaa (.int .i64 ((x+1:Nat):Int)) 4 rfl kj kj ?_
    refine Qaf ?_
    have y2_4:Ext W2 W4:=(Rely.Ext.trans e3 e4)
    repeat (first | with_reducible refine goX1 ?_ | with_reducible refine goX2 ?_ | with_reducible refine goX3 ?_)
    exact Qat (x+1) ⟨rfl,rfl,rfl,trivial⟩ ⟨(by omega),(fun j hj=>by by_cases e:j=x; (rw [e]; exact hb); exact hall j (by omega)),(by rw [show (x+1+1)/2=(x+1)/2 by omega]; exact hnd),y2_4,x4⟩ (by show ts.length-(x+1)<ts.length-x; omega)
  ·skip
   have hux:(ndi ts x).n.us=true:=ent▸hq.1
   have hb0:Qbd ts ((L:Nat):Int) x=Qbq ts ((L:Nat):Int) x:=by unfold Qbd; rw [if_pos hux]
   refine Qab ?_
   refine Qaa (.slice a_t ts.length c_t) 24 rfl kj kj ?_
   refine Qaa (.int .i64 ((x:Nat):Int)) 25 rfl kj kj ?_
   refine Qaa (.pointer (some ⟨gtT,otT+x*99,none⟩)) 26 rfl kj (Qap 23 _ _ .i64 (x) gtT otT ts.length c_t 50 99 a_t (hat (by omega)) rfl kj kj kj kj (by omega)) ?_
   refine Qaa (.pointer (some ⟨gtT,otT+x*99,none⟩)) 27 rfl kj kj ?_
   refine Qaa (.bool true) 28 rfl kj (Qak 4 _ _ (.bool true) ((NdAt.at3 hnt).1.trans (congrArg (fun z=>some (Value.bool z)) hq.1)) rfl kj kj) ?_
   refine Qaa (.bool false) 29 rfl kj kj ?_
   refine Qaa (.bool false) 30 rfl kj kj ?_
   refine Qad 31 rfl kj ?_
   refine Qad 32 rfl kj ?_
   refine Qad 33 rfl kj ?_
   refine Qad 34 rfl kj ?_
   refine Qad 35 rfl kj ?_
   refine Qad 36 rfl kj ?_
   refine Qad 37 rfl kj ?_
   refine Qaa (.bool false) 38 rfl kj kj ?_
   refine Qaf ?_
   refine hK12 _ _ ?_
   refine cond_false kj ?_
   refine wp_skip ?_
   refine hK11 _ _ ?_
   refine wp_seq_k fun K22 hK22=>?_
   refine wp_seq_k fun K23 hK23=>?_
   refine Qab ?_
   refine Qaa (.slice a_t ts.length c_t) 39 rfl kj kj ?_
   refine Qaa (.int .i64 ((x:Nat):Int)) 40 rfl kj kj ?_
   refine Qaa (.pointer (some ⟨gtT,otT+x*99,none⟩)) 41 rfl kj (Qap 23 _ _ .i64 (x) gtT otT ts.length c_t 50 99 a_t (hat (by omega)) rfl kj kj kj kj (by omega)) ?_
   refine Qaa (.pointer (some ⟨gtT,otT+x*99,none⟩)) 42 rfl kj kj ?_
   refine Qaa (.bool true) 43 rfl kj (Qak 4 _ _ (.bool true) ((NdAt.at3 hnt).1.trans (congrArg (fun z=>some (Value.bool z)) hq.1)) rfl kj kj) ?_
   refine Qaa (.bool true) 44 rfl kj kj ?_
   refine Qaa (.int .i64 ((x:Nat):Int)) 45 rfl kj kj ?_
   refine Qaa (.int .i64 ((x%2:Nat):Int)) 46 rfl kj (Qai (u:=.int .i64 (Int.tmod (((x:Nat):Int)) (2))) kj (congrArg (Value.int .i64) (Qbl _ 2))) ?_
   refine Qaa (.bool false) 47 rfl kj (Qai (u:=.bool ((((x%2:Nat):Int)==1))) kj (congrArg Value.bool (beq_eq_false_iff_ne.2 (by omega)))) ?_
   refine Qaa (.bool false) 48 rfl kj kj ?_
   refine Qaa (.bool false) 49 rfl kj kj ?_
   refine Qad 50 rfl kj ?_
   refine Qad 51 rfl kj ?_
   refine Qad 52 rfl kj ?_
   refine Qad 53 rfl kj ?_
   refine Qad 54 rfl kj ?_
   refine Qaa (.bool false) 55 rfl kj kj ?_
   refine Qaf ?_
   refine hK23 _ _ ?_
   refine cond_false kj ?_
   refine wp_skip ?_
   refine hK22 _ _ ?_
   refine wp_seq_k fun K24 hK24=>?_
   refine Qab ?_
   refine Qaa (.slice a_t ts.length c_t) 56 rfl kj kj ?_
   refine Qaa (.int .i64 ((x:Nat):Int)) 57 rfl kj kj ?_
   refine Qaa (.pointer (some ⟨gtT,otT+x*99,none⟩)) 58 rfl kj (Qap 23 _ _ .i64 (x) gtT otT ts.length c_t 50 99 a_t (hat (by omega)) rfl kj kj kj kj (by omega)) ?_
   refine Qaa (.pointer (some ⟨gtT,otT+x*99,none⟩)) 59 rfl kj kj ?_
   refine Qaa (.bool true) 60 rfl kj (Qak 4 _ _ (.bool true) ((NdAt.at3 hnt).1.trans (congrArg (fun z=>some (Value.bool z)) hq.1)) rfl kj kj) ?_
   refine Qaa (.bool true) 61 rfl kj kj ?_
   refine Qaa (.int .i64 ((x:Nat):Int)) 62 rfl kj kj ?_
   refine Qaa (.int .i64 ((x%2:Nat):Int)) 63 rfl kj (Qai (u:=.int .i64 (Int.tmod (((x:Nat):Int)) (2))) kj (congrArg (Value.int .i64) (Qbl _ 2))) ?_
   refine Qaa (.bool true) 64 rfl kj (Qai (u:=.bool ((((x%2:Nat):Int)==0))) kj (congrArg Value.bool (beq_iff_eq.2 (by omega)))) ?_
   refine Qaa (.bool true) 65 rfl kj kj ?_
   refine Qaf ?_
   refine hK24 _ _ ?_
   refine cond_true kj ?_
   refine wp_seq_k fun K25 hK25=>?_
   refine wp_seq_k fun K26 hK26=>?_
   refine Qab ?_
   refine Qaa (.slice a_t ts.length c_t) 66 rfl kj kj ?_
   refine Qaa (.int .i64 ((x:Nat):Int)) 67 rfl kj kj ?_
   refine Qaa (.pointer (some ⟨gtT,otT+x*99,none⟩)) 68 rfl kj (Qap 23 _ _ .i64 (x) gtT otT ts.length c_t 50 99 a_t (hat (by omega)) rfl kj kj kj kj (by omega)) ?_
   refine Qaa (.agg (cat [#[.bool nt.n.us],#[.int .i64 nt.n.nm],ints .u8 (nt.n.key),ints .u8 (nt.n.sg),ints .u8 (nt.n.pa),#[.slice nt.a nt.n.ms.length nt.c]])) 69 rfl kj (QaH 50 _ gtT (otT+x*99) nt hnt rfl kj kj kj) ?_
   refine Qal (.bool (QbJ nt.n)) 33 #[.agg (cat [#[.bool nt.n.us],#[.int .i64 nt.n.nm],ints .u8 (nt.n.key),ints .u8 (nt.n.sg),ints .u8 (nt.n.pa),#[.slice nt.a nt.n.ms.length nt.c]])] 70 rfl kj kj (QlZ nt okt _) fun W4 e4=>?_
   have x4:Ext w W4:=Ext.tr xx1 e4
   refine Qaa (.bool (!(QbJ nt.n))) 71 rfl kj kj ?_
   refine Qaf ?_
   refine hK26 _ _ ?_
   refine Qar (t:=!(QbJ nt.n)) kj (fun c27=>?_) (fun c27=>?_)
   ·skip
    have hb:Qbd ts ((L:Nat):Int) x=false:=by rw [hb0,QcF hq.2,←ent]; simpa using c27
    refine wp_seq_k fun K28 hK28=>?_
    refine Qab ?_
    refine Qaa (.bool false) 2 rfl kj kj ?_
    refine Qaf ?_
    refine hK28 _ _ ?_
    refine wp_ret ?_
    repeat (first | with_reducible refine goR1 ?_ | with_reducible refine goR2 ?_)
    exact (show bodyPost _ _ _ .ret _ _ from ret1 (.bool false) rfl (Qaq kj) ⟨congrArg (fun z=>Ending.returned (.bool z)) ((chk4 (QbZ hL) hlt21 hb)).symm,x4⟩)
   ·skip
    have hb:Qbd ts ((L:Nat):Int) x=true:=by rw [hb0,QcF hq.2,←ent]; simpa using c27
    refine wp_skip ?_
    refine hK25 _ _ ?_
    refine wp_seq_k fun K29 hK29=>?_
    refine Qab ?_
    refine Qaa (.int .i64 0) 5 rfl kj kj ?_
    refine Qaf ?_
    refine hK29 _ _ ?_
    refine wp_block ?_
    obtain ⟨mm,hmm⟩:∃ mm,x=2*mm:=⟨x/2,by omega⟩
    refine Qa0 (fun (s2:Nat)=>[(0,.slice a_t ts.length c_t),(3,.int .i64 ((L:Nat):Int)),(4,.int .i64 ((x:Nat):Int)),(5,.int .i64 ((2*s2:Nat):Int))]) (fun (s2:Nat) W=>(s2≤100000)∧(∀ j2,j2<s2→(ndi ts (2*j2)).n.us=true→(ndi ts (2*j2)).n.nm≠(ndi ts (2*mm)).n.nm)∧(Ext W4 W)∧(Ext w W)) (fun (s2:Nat)=>ts.length-s2) 0 ⟨rfl,rfl,rfl,rfl,trivial⟩ ⟨(Nat.zero_le _),(fun j2 hj=>absurd hj (Nat.not_lt_zero j2)),(Rely.Ext.refl W4),x4⟩ fun s2 X2 V2 hI2=>?_
    obtain ⟨j,hs2⟩:∃ z,z=s2:=⟨_,rfl⟩
    subst hs2
    obtain ⟨hj,hjs,kk2,xx2⟩:=hI2
    replace hj:j≤100000:=hj
    replace hjs:∀ j2,j2<j→(ndi ts (2*j2)).n.us=true→(ndi ts (2*j2)).n.nm≠(ndi ts (2*mm)).n.nm:=hjs
    replace kk2:Ext W4 V2:=kk2
    replace xx2:Ext w V2:=xx2
    have e5:=kk2
    refine wp_seq_k fun K30 hK30=>?_
    refine wp_seq_k fun K31 hK31=>?_
    refine Qab ?_
    refine Qaa (.int .i64 ((2*j:Nat):Int)) 72 rfl kj kj ?_
    refine Qaa (.int .i64 ((x:Nat):Int)) 73 rfl kj kj ?_
    refine Qaa (.bool (decide (((2*j:Nat):Int)<((x:Nat):Int)))) 74 rfl kj kj ?_
    refine Qaf ?_
    refine hK31 _ _ ?_
    refine Qar (t:=decide (((2*j:Nat):Int)<((x:Nat):Int))) kj (fun c32=>?_) (fun c32=>?_)
    ·skip
     have h74:2*j<x:=by have:=of_decide_eq_true c32; omega
     refine wp_skip ?_
     refine hK30 _ _ ?_
     refine wp_seq_k fun K33 hK33=>?_
     refine wp_block ?_
     refine wp_seq_k fun K34 hK34=>?_
     obtain ⟨gyT,oyT,hay,hnys⟩:=TrAt.ext ht xx2
     have hny:=hnys (2*j) (by omega)
     obtain ⟨ny,eny⟩:∃ z,z=ndi ts (2*j):=⟨_,rfl⟩
     rw [←eny] at hny
     have oky:=hny.ok
     have rdy:=hny.rd
     obtain ⟨gzT,ozT,haz,hnzs⟩:=TrAt.ext ht xx2
     have hnz:=hnzs (x) (by omega)
     obtain ⟨nz,enz⟩:∃ z,z=ndi ts (x):=⟨_,rfl⟩
     rw [←enz] at hnz
     have okz:=hnz.ok
     have rdz:=hnz.rd
     rcases (show ny.n.us=false∨(ny.n.us=true∧ny.n.nm=nz.n.nm)∨(ny.n.us=true∧ny.n.nm≠nz.n.nm) from by cases h8:ny.n.us; exact .inl rfl; by_cases h7:ny.n.nm=nz.n.nm; exact .inr (.inl ⟨rfl,h7⟩); exact .inr (.inr ⟨rfl,h7⟩)) with hq | hq | hq
     ·skip
      have hjn:(ndi ts (2*j)).n.us=true→(ndi ts (2*j)).n.nm≠(ndi ts (2*mm)).n.nm:=fun h1=>by rw [←eny,hq] at h1; cases h1
      refine QaX 16 [⟨none,[(0,none)]⟩,⟨none,[(5,none)]⟩,⟨none,[(77,some 0),(78,some 1)]⟩,⟨none,[(79,some 2)]⟩,⟨none,[(80,some 3)]⟩,⟨none,[(81,some 4)]⟩,⟨some (82,true),[(0,none),(82,some 5)]⟩,⟨some (82,true),[(5,none),(82,some 5)]⟩,⟨some (82,true),[(83,some 6),(84,some 7),(82,some 5)]⟩,⟨some (82,true),[(85,some 8),(82,some 5)]⟩,⟨some (82,true),[(86,some 9),(82,some 5)]⟩,⟨some (82,true),[(0,none),(82,some 5)]⟩,⟨some (82,true),[(4,none),(82,some 5)]⟩,⟨some (82,true),[(88,some 11),(89,some 12),(82,some 5)]⟩,⟨some (82,true),[(90,some 13),(82,some 5)]⟩,⟨some (82,true),[(91,some 14),(82,some 5)]⟩] kj kj fun F hF=>?_
      refine Qaz (Qam _) (.slice a_t ts.length c_t) kj kj (fun W=>by kernel_rfl) ?_
      refine Qaz (Qam _) (.int .i64 ((2*j:Nat):Int)) kj kj (fun W=>by kernel_rfl) ?_
      refine Qaz (Qam _) (.pointer (some ⟨gyT,oyT+(2*j)*99,none⟩)) kj kj (fun W=>(Qap 23 _ _ .i64 (2*j) gyT oyT ts.length c_t 50 99 a_t (hay (by omega)) rfl kj kj kj kj (by omega))) ?_
      refine Qaz (Qam _) (.pointer (some ⟨gyT,oyT+(2*j)*99,none⟩)) kj kj (fun W=>by kernel_rfl) ?_
      refine QaK (Qam _) (.bool false) kj kj (fun W hR=>(Qak 4 _ _ (.bool false) (((NdAt.at3 (NdAt.ext hny (Rely.Ext.trans (Qax _) hR))).1).trans (congrArg (fun z=>some (Value.bool z)) hq)) rfl kj kj)) ?_
      refine Qaz (Qam _) (.bool false) kj kj (fun W=>by kernel_rfl) ?_
      refine QbN kj kj ?_
      refine QbN kj kj ?_
      refine QbN kj kj ?_
      refine QbN kj kj ?_
      refine QbN kj kj ?_
      refine QbN kj kj ?_
      refine QbN kj kj ?_
      refine QbN kj kj ?_
      refine QbN kj kj ?_
      refine QbN kj kj ?_
      refine QcZ (hF _ fun W6 e6=>?_)
      simp only [List.nil_append,List.cons_append,List.take_succ_cons,List.take_zero,List.drop_succ_cons,List.drop_zero,finE,up]
      clear hF
      have x6:Ext w W6:=Ext.tr xx2 e6
      refine Qad 93 rfl kj ?_
      refine Qaa (.bool false) 94 rfl kj kj ?_
      refine Qaf ?_
      refine hK34 _ _ ?_
      refine cond_false kj ?_
      refine wp_skip ?_
      refine hK33 _ _ ?_
      refine Qab ?_
      refine Qaa (.int .i64 ((2*j:Nat):Int)) 75 rfl kj kj ?_
      refine Qaa (.int .i64 (((2*(j+1):Nat):Int))) 76 rfl kj (Qai (u:=.int .i64 (IntKind.i64.wrap (((2*j:Nat):Int)+2))) kj (congrArg (Value.int .i64) ((IntWalk.i64_in _ (by omega)).trans (by omega)))) ?_
      refine Qaa (.int .i64 (((2*(j+1):Nat):Int))) 5 rfl kj kj ?_
      refine Qaf ?_
      have y4_6:Ext W4 W6:=(Rely.Ext.trans e5 e6)
      repeat (first | with_reducible refine goX1 ?_ | with_reducible refine goX2 ?_ | with_reducible refine goX3 ?_)
      exact Qat (j+1) ⟨rfl,rfl,rfl,rfl,trivial⟩ ⟨(by omega),(fun j2 hj=>by by_cases e:j2=j; (rw [e]; exact hjn); exact hjs j2 (by omega)),y4_6,x6⟩ (by show ts.length-(j+1)<ts.length-j; omega)
     ·skip
      have hbad:chkT ts=false:=chk1 (QhP (m:=mm) (j:=j) (by omega) (by omega) (by rw [←eny]; exact hq.1) (by rw [←hmm]; exact hux) (by rw [←hmm,←eny,←enz]; exact hq.2))
      refine QaX 16 [⟨none,[(0,none)]⟩,⟨none,[(5,none)]⟩,⟨none,[(77,some 0),(78,some 1)]⟩,⟨none,[(79,some 2)]⟩,⟨none,[(80,some 3)]⟩,⟨none,[(81,some 4)]⟩,⟨some (82,true),[(0,none),(82,some 5)]⟩,⟨some (82,true),[(5,none),(82,some 5)]⟩,⟨some (82,true),[(83,some 6),(84,some 7),(82,some 5)]⟩,⟨some (82,true),[(85,some 8),(82,some 5)]⟩,⟨some (82,true),[(86,some 9),(82,some 5)]⟩,⟨some (82,true),[(0,none),(82,some 5)]⟩,⟨some (82,true),[(4,none),(82,some 5)]⟩,⟨some (82,true),[(88,some 11),(89,some 12),(82,some 5)]⟩,⟨some (82,true),[(90,some 13),(82,some 5)]⟩,⟨some (82,true),[(91,some 14),(82,some 5)]⟩] kj kj fun F hF=>?_
      refine Qaz (Qam _) (.slice a_t ts.length c_t) kj kj (fun W=>by kernel_rfl) ?_
      refine Qaz (Qam _) (.int .i64 ((2*j:Nat):Int)) kj kj (fun W=>by kernel_rfl) ?_
      refine Qaz (Qam _) (.pointer (some ⟨gyT,oyT+(2*j)*99,none⟩)) kj kj (fun W=>(Qap 23 _ _ .i64 (2*j) gyT oyT ts.length c_t 50 99 a_t (hay (by omega)) rfl kj kj kj kj (by omega))) ?_
      refine Qaz (Qam _) (.pointer (some ⟨gyT,oyT+(2*j)*99,none⟩)) kj kj (fun W=>by kernel_rfl) ?_
      refine QaK (Qam _) (.bool true) kj kj (fun W hR=>(Qak 4 _ _ (.bool true) (((NdAt.at3 (NdAt.ext hny (Rely.Ext.trans (Qax _) hR))).1).trans (congrArg (fun z=>some (Value.bool z)) hq.1)) rfl kj kj)) ?_
      refine Qaz (Qam _) (.bool true) kj kj (fun W=>by kernel_rfl) ?_
      refine Qaz (Qam _) (.slice a_t ts.length c_t) kj kj (fun W=>by kernel_rfl) ?_
      refine Qaz (Qam _) (.int .i64 ((2*j:Nat):Int)) kj kj (fun W=>by kernel_rfl) ?_
      refine Qaz (Qam _) (.pointer (some ⟨gyT,oyT+(2*j)*99,none⟩)) kj kj (fun W=>(Qap 23 _ _ .i64 (2*j) gyT oyT ts.length c_t 50 99 a_t (hay (by omega)) rfl kj kj kj kj (by omega))) ?_
      refine Qaz (Qam _) (.pointer (some ⟨gyT,oyT+(2*j)*99+1,none⟩)) kj kj (fun W=>by kernel_rfl) ?_
      refine QaK (Qam _) (.int .i64 ny.n.nm) kj kj (fun W hR=>(Qak 3 _ _ (.int .i64 ny.n.nm) (NdAt.at3 (NdAt.ext hny (Rely.Ext.trans (Qax _) hR))).2.1 rfl kj kj)) ?_
      refine Qaz (Qam _) (.slice a_t ts.length c_t) kj kj (fun W=>by kernel_rfl) ?_
      refine Qaz (Qam _) (.int .i64 ((x:Nat):Int)) kj kj (fun W=>by kernel_rfl) ?_
      refine Qaz (Qam _) (.pointer (some ⟨gzT,ozT+(x)*99,none⟩)) kj kj (fun W=>(Qap 23 _ _ .i64 (x) gzT ozT ts.length c_t 50 99 a_t (haz (by omega)) rfl kj kj kj kj (by omega))) ?_
      refine Qaz (Qam _) (.pointer (some ⟨gzT,ozT+(x)*99+1,none⟩)) kj kj (fun W=>by kernel_rfl) ?_
      refine QaK (Qam _) (.int .i64 nz.n.nm) kj kj (fun W hR=>(Qak 3 _ _ (.int .i64 nz.n.nm) (NdAt.at3 (NdAt.ext hnz (Rely.Ext.trans (Qax _) hR))).2.1 rfl kj kj)) ?_
      refine QcZ (hF _ fun W6 e6=>?_)
      simp only [List.nil_append,List.cons_append,List.take_succ_cons,List.take_zero,List.drop_succ_cons,List.drop_zero,finE,up]
      clear hF
      have x6:Ext w W6:=Ext.tr xx2 e6
      refine Qaa (.bool true) 93 rfl kj (Qai (u:=.bool ((ny.n.nm==nz.n.nm))) kj (congrArg Value.bool (beq_iff_eq.2 hq.2))) ?_
      refine Qaa (.bool true) 94 rfl kj kj ?_
      refine Qaf ?_
      refine hK34 _ _ ?_
      refine cond_true kj ?_
      refine wp_seq_k fun K35 hK35=>?_
      refine Qab ?_
      refine Qaa (.bool false) 2 rfl kj kj ?_
      refine Qaf ?_
      refine hK35 _ _ ?_
      refine wp_ret ?_
      repeat (first | with_reducible refine goR1 ?_ | with_reducible refine goR2 ?_)
      exact (show bodyPost _ _ _ .ret _ _ from ret1 (.bool false) rfl (Qaq kj) ⟨congrArg (fun z=>Ending.returned (.bool z)) (hbad).symm,x6⟩)
     ·skip
      have hjn:(ndi ts (2*j)).n.us=true→(ndi ts (2*j)).n.nm≠(ndi ts (2*mm)).n.nm:=fun h1=>by rw [←hmm,←eny,←enz]; exact hq.2
      refine QaX 16 [⟨none,[(0,none)]⟩,⟨none,[(5,none)]⟩,⟨none,[(77,some 0),(78,some 1)]⟩,⟨none,[(79,some 2)]⟩,⟨none,[(80,some 3)]⟩,⟨none,[(81,some 4)]⟩,⟨some (82,true),[(0,none),(82,some 5)]⟩,⟨some (82,true),[(5,none),(82,some 5)]⟩,⟨some (82,true),[(83,some 6),(84,some 7),(82,some 5)]⟩,⟨some (82,true),[(85,some 8),(82,some 5)]⟩,⟨some (82,true),[(86,some 9),(82,some 5)]⟩,⟨some (82,true),[(0,none),(82,some 5)]⟩,⟨some (82,true),[(4,none),(82,some 5)]⟩,⟨some (82,true),[(88,some 11),(89,some 12),(82,some 5)]⟩,⟨some (82,true),[(90,some 13),(82,some 5)]⟩,⟨some (82,true),[(91,some 14),(82,some 5)]⟩] kj kj fun F hF=>?_
      refine Qaz (Qam _) (.slice a_t ts.length c_t) kj kj (fun W=>by kernel_rfl) ?_
      refine Qaz (Qam _) (.int .i64 ((2*j:Nat):Int)) kj kj (fun W=>by kernel_rfl) ?_
      refine Qaz (Qam _) (.pointer (some ⟨gyT,oyT+(2*j)*99,none⟩)) kj kj (fun W=>(Qap 23 _ _ .i64 (2*j) gyT oyT ts.length c_t 50 99 a_t (hay (by omega)) rfl kj kj kj kj (by omega))) ?_
      refine Qaz (Qam _) (.pointer (some ⟨gyT,oyT+(2*j)*99,none⟩)) kj kj (fun W=>by kernel_rfl) ?_
      refine QaK (Qam _) (.bool true) kj kj (fun W hR=>(Qak 4 _ _ (.bool true) (((NdAt.at3 (NdAt.ext hny (Rely.Ext.trans (Qax _) hR))).1).trans (congrArg (fun z=>some (Value.bool z)) hq.1)) rfl kj kj)) ?_
      refine Qaz (Qam _) (.bool true) kj kj (fun W=>by kernel_rfl) ?_
      refine Qaz (Qam _) (.slice a_t ts.length c_t) kj kj (fun W=>by kernel_rfl) ?_
      refine Qaz (Qam _) (.int .i64 ((2*j:Nat):Int)) kj kj (fun W=>by kernel_rfl) ?_
      refine Qaz (Qam _) (.pointer (some ⟨gyT,oyT+(2*j)*99,none⟩)) kj kj (fun W=>(Qap 23 _ _ .i64 (2*j) gyT oyT ts.length c_t 50 99 a_t (hay (by omega)) rfl kj kj kj kj (by omega))) ?_
      refine Qaz (Qam _) (.pointer (some ⟨gyT,oyT+(2*j)*99+1,none⟩)) kj kj (fun W=>by kernel_rfl) ?_
      refine QaK (Qam _) (.int .i64 ny.n.nm) kj kj (fun W hR=>(Qak 3 _ _ (.int .i64 ny.n.nm) (NdAt.at3 (NdAt.ext hny (Rely.Ext.trans (Qax _) hR))).2.1 rfl kj kj)) ?_
      refine Qaz (Qam _) (.slice a_t ts.length c_t) kj kj (fun W=>by kernel_rfl) ?_
      refine Qaz (Qam _) (.int .i64 ((x:Nat):Int)) kj kj (fun W=>by kernel_rfl) ?_
      refine Qaz (Qam _) (.pointer (some ⟨gzT,ozT+(x)*99,none⟩)) kj kj (fun W=>(Qap 23 _ _ .i64 (x) gzT ozT ts.length c_t 50 99 a_t (haz (by omega)) rfl kj kj kj kj (by omega))) ?_
      refine Qaz (Qam _) (.pointer (some ⟨gzT,ozT+(x)*99+1,none⟩)) kj kj (fun W=>by kernel_rfl) ?_
      refine QaK (Qam _) (.int .i64 nz.n.nm) kj kj (fun W hR=>(Qak 3 _ _ (.int .i64 nz.n.nm) (NdAt.at3 (NdAt.ext hnz (Rely.Ext.trans (Qax _) hR))).2.1 rfl kj kj)) ?_
      refine QcZ (hF _ fun W6 e6=>?_)
      simp only [List.nil_append,List.cons_append,List.take_succ_cons,List.take_zero,List.drop_succ_cons,List.drop_zero,finE,up]
      clear hF
      have x6:Ext w W6:=Ext.tr xx2 e6
      refine Qaa (.bool false) 93 rfl kj (Qai (u:=.bool ((ny.n.nm==nz.n.nm))) kj (congrArg Value.bool (beq_eq_false_iff_ne.2 hq.2))) ?_
      refine Qaa (.bool false) 94 rfl kj kj ?_
      refine Qaf ?_
      refine hK34 _ _ ?_
      refine cond_false kj ?_
      refine wp_skip ?_
      refine hK33 _ _ ?_
      refine Qab ?_
      refine Qaa (.int .i64 ((2*j:Nat):Int)) 75 rfl kj kj ?_
      refine Qaa (.int .i64 (((2*(j+1):Nat):Int))) 76 rfl kj (Qai (u:=.int .i64 (IntKind.i64.wrap (((2*j:Nat):Int)+2))) kj (congrArg (Value.int .i64) ((IntWalk.i64_in _ (by omega)).trans (by omega)))) ?_
      refine Qaa (.int .i64 (((2*(j+1):Nat):Int))) 5 rfl kj kj ?_
      refine Qaf ?_
      have y4_6:Ext W4 W6:=(Rely.Ext.trans e5 e6)
      repeat (first | with_reducible refine goX1 ?_ | with_reducible refine goX2 ?_ | with_reducible refine goX3 ?_)
      exact Qat (j+1) ⟨rfl,rfl,rfl,rfl,trivial⟩ ⟨(by omega),(fun j2 hj=>by by_cases e:j2=j; (rw [e]; exact hjn); exact hjs j2 (by omega)),y4_6,x6⟩ (by show ts.length-(j+1)<ts.length-j; omega)
    ·skip
     have h74:¬ 2*j<x:=by have:=of_decide_eq_false c32; omega
     refine wp_exit ?_
     refine hK10 _ _ ?_
     refine Qab ?_
     refine Qaa (.int .i64 ((x:Nat):Int)) 22 rfl kj kj ?_
     refine Qaa (.int .i64 ((x+1:Nat):Int)) 23 rfl kj (Qai (u:=.int .i64 (IntKind.i64.wrap (((x:Nat):Int)+1))) kj (congrArg (Value.int .i64) (i64n _ _ (by omega) (by omega)))) ?_
     refine Qaa (.int .i64 ((x+1:Nat):Int)) 4 rfl kj kj ?_
     refine Qaf ?_
     have y2_4:Ext W2 W4:=(Rely.Ext.trans e3 e4)
     have y2_5:Ext W2 V2:=(Rely.Ext.trans y2_4 e5)
     repeat (first | with_reducible refine goX1 ?_ | with_reducible refine goX2 ?_ | with_reducible refine goX3 ?_)
     exact Qat (x+1) ⟨rfl,rfl,rfl,trivial⟩ ⟨(by omega),(fun j hj=>by by_cases e:j=x; (rw [e]; exact hb); exact hall j (by omega)),(by rw [show (x+1+1)/2=mm+1 by omega]; exact QiV (by rw [show (x+1)/2=mm by omega] at hnd; exact hnd) (fun j2 hj=>hjs j2 (by omega))),y2_5,xx2⟩ (by show ts.length-(x+1)<ts.length-x; omega)
 ·skip
  have heq21:x=ts.length:=by have:=of_decide_eq_false c9; omega
  refine wp_exit ?_
  refine hK5 _ _ ?_
  refine wp_seq_k fun K36 hK36=>?_
  refine Qab ?_
  refine Qaa (.bool true) 2 rfl kj kj ?_
  refine Qaf ?_
  refine hK36 _ _ ?_
  refine wp_ret ?_
  repeat (first | with_reducible refine goR1 ?_ | with_reducible refine goR2 ?_)
  exact (show bodyPost _ _ _ .ret _ _ from ret1 (.bool true) rfl (Qaq kj) ⟨congrArg (fun z=>Ending.returned (.bool z)) (((chk3 (QbZ hL) h0 (decide_eq_true (heq21▸hnd)) h2).trans (Qg0 (heq21▸hall)))).symm,xx1⟩)
theorem Qm9 (ts : List NdV) (a_t:Option Addr) (c_t B1:Nat) (w:World) (ht:TrAt B1 w a_t ts) (htl:ts.length≤100000) (hmt:∀ i,i<ts.length→(ndi ts i).n.ms.length≤1000000):Calls Tryd.prog 12 #[.slice a_t ts.length c_t] w (Ret w (.bool (chkT ts))):=by
  obtain ⟨L,hL,hL2,-,hL4⟩:=Qd1 ts.length htl
  by_cases h0:L=0
  · exact Qme ts a_t c_t B1 w ht htl hmt L hL hL2 hL4 h0
  cases h2:anyU ts (L/2) with
  | false=>exact Qmd ts a_t c_t B1 w ht htl hmt L hL hL2 hL4 h0 h2
  | true=>exact Qmc ts a_t c_t B1 w ht htl hmt L hL hL2 hL4 h0 h2
end Go.Proofs.YthfkppjajmjpnaaDoor.Te
end
section
namespace Go.Proofs.YthfkppjajmjpnaaDoor.Te
open Go Go.RowKit
open Rely Auto Own Seat Sha
theorem QgS (n : NdC):Qb7 n n=true:=by unfold Qb7; simp
theorem QiG {us ts:List NdV} (h:AsC us ts):Qcq us ts=true:=Qfz h.1 fun i hi=>by rw [h.all]; exact QgS _
theorem Qgi (b : Bool) (ts us:List NdV) (a_t a_u:Option Addr) (c_t c_u B1 B2:Nat) (w:World) (htl:ts.length≤1000000) (hul:us.length≤1000000) (hmt:∀ i,i<ts.length→(ndi ts i).n.ms.length≤1000000) (hmu:∀ i,i<us.length→(ndi us i).n.ms.length≤1000000) (ht:TrAt B1 w a_t ts) (hu:TrAt B2 w a_u us) (h:Qcq ts us=b):Calls Tryd.prog 20 #[.slice a_t ts.length c_t,.slice a_u us.length c_u] w (Ret w (.bool b)):=h▸Qmq ts us a_t a_u c_t c_u B1 B2 w htl hul hmt hmu ht hu
theorem Qfj (ts : List NdV) (a_t:Option Addr) (c_t B1:Nat) (w:World) (ht:TrAt B1 w a_t ts) (htl:ts.length≤100000) (hmt:∀ i,i<ts.length→(ndi ts i).n.ms.length≤1000000) (b:Bool) (h:chkT ts=b):Calls Tryd.prog 12 #[.slice a_t ts.length c_t] w (Ret w (.bool b)):=h▸Qm9 ts a_t c_t B1 w ht htl hmt
end Go.Proofs.YthfkppjajmjpnaaDoor.Te
end
section
namespace Go.Proofs.YthfkppjajmjpnaaDoor.Te
open Go Go.RowKit
open Rely Auto Own Seat Sha
end Go.Proofs.YthfkppjajmjpnaaDoor.Te
end
section
namespace Go.Proofs.YthfkppjajmjpnaaDoor.Te
open Go Go.RowKit
open Rely Auto Own Seat Sha
theorem QkV : Qbp (fun n x=>decide (lv x≤5)&&(decide (kidL x=-1)&&decide (kidR x=-1) || (Qa2 (kidL x) n&&Qa2 (kidR x) n&&decide (lv (kidL x)=lv x-1)&&decide (lv (kidR x)=lv x-1))))=true:=by decide +kernel
theorem Qcj {x n:Int} (h:Qa2 x n=true):lv x≤5∧((kidL x=-1∧kidR x=-1)∨(Qa2 (kidL x) n=true∧Qa2 (kidR x) n=true∧lv (kidL x)=lv x-1∧lv (kidR x)=lv x-1)):=by
  have:=QaJ QkV h
  simpa [and_assoc] using this
theorem Qcb {x n:Int} (h:Qa2 x n=true):0≤x:=by unfold Qa2 at h; simp at h; omega
theorem Qcc {x n:Int} (h:Qa2 x n=true):x≤2*n-2:=by unfold Qa2 at h; simp at h; omega
end Go.Proofs.YthfkppjajmjpnaaDoor.Te
end
section
namespace Go.Proofs.YthfkppjajmjpnaaDoor.Te
open Go Go.RowKit
open Rely Auto Own Seat Sha
end Go.Proofs.YthfkppjajmjpnaaDoor.Te
end
section
namespace Go.Proofs.YthfkppjajmjpnaaDoor.Te
open Go Go.RowKit
open Rely Auto Own Seat Sha
def cov (ts : List NdV) (n x i:Int):Bool:=decide ((bel x n).1≤i)&&decide (i≤(bel x n).2)&&!(decide (x%2=1)&&decide (i∈(ndi ts x.toNat).n.ms))
def cnt (ts : List NdV) (n:Int) (xs:List Int) (i:Int):Nat:=xs.countP fun x=>cov ts n x i
theorem Qem {ts : List NdV} {L:Nat} (hL:leaves ((ts.length:Nat):Int)=((L:Nat):Int)) (h:chkT ts=true) {x:Nat} (hx:x<ts.length):Qbd ts ((L:Nat):Int) x=true:=by
  unfold chkT at h
  rw [QbZ hL] at h
  simp only [Bool.and_eq_true] at h
  exact List.all_eq_true.1 h.2 x (List.mem_range.2 hx)
theorem QdZ {ts : List NdV} {L:Nat} (hL:leaves ((ts.length:Nat):Int)=((L:Nat):Int)) (h:chkT ts=true) {x:Nat} (hx:x<ts.length) (hu:(ndi ts x).n.us=true):Qbq ts ((L:Nat):Int) x=true:=by
  have:=Qem hL h hx
  unfold Qbd at this
  rwa [if_pos hu] at this
theorem Qi5 {ts : List NdV} {n:Int} {x:Nat} (he:x%2≠0) (h:Qbq ts n x=true):∀ k,k<(ndi ts x).n.ms.length→msOk ts n ((x:Nat):Int) (ndi ts x).n.ms k=true:=by
  unfold Qbq at h
  rw [if_neg he] at h
  simp only [Bool.and_eq_true] at h
  exact fun k hk=>List.all_eq_true.1 h.2 k (List.mem_range.2 hk)
theorem rises {ms : List Int} (h:∀ k,k<ms.length→k=0∨nth ms (k-1)<nth ms k):∀ k,k<ms.length→∀ j,j<k→nth ms j<nth ms k:=by
  intro k
  induction k with
  | zero=>intro _ j hj; omega
  | succ k ih =>
    intro hk j hj
    have h1:=(h (k+1) hk).resolve_left (by omega)
    rw [Nat.add_sub_cancel] at h1
    rcases Nat.lt_or_ge j k with h2 | h2
    · exact Int.lt_trans (ih (by omega) j h2) h1
    · obtain rfl:j=k:=by omega
      exact h1
theorem QkD {ms : List Int} {i:Int} (h:i∈ms):∃ k,k<ms.length∧nth ms k=i:=by
  obtain ⟨k,hk,e⟩:=List.mem_iff_getElem.1 h
  exact ⟨k,hk,by unfold nth; rw [List.getD_eq_getElem?_getD,List.getElem?_eq_getElem hk]; exact e⟩
structure QmK (ts : List NdV) (L : Nat) (x : Nat) (rs : List Int) : Prop where
  node:∀ z∈rs,Qa2 z ((L:Nat):Int)=true
  out:∀ i:Int,i<(bel ((x:Nat):Int) ((L:Nat):Int)).1∨(bel ((x:Nat):Int) ((L:Nat):Int)).2<i→cnt ts ((L:Nat):Int) rs i=0
  most:∀ i:Int,cnt ts ((L:Nat):Int) rs i≤1
  one:∀ i:Nat,(bel ((x:Nat):Int) ((L:Nat):Int)).1≤((i:Nat):Int)→((i:Nat):Int)≤(bel ((x:Nat):Int) ((L:Nat):Int)).2→(ndi ts (2*i)).n.us=true→cnt ts ((L:Nat):Int) rs ((i:Nat):Int)=1
end Go.Proofs.YthfkppjajmjpnaaDoor.Te
end
section
namespace Go.Proofs.YthfkppjajmjpnaaDoor.Te
open Go Go.RowKit
open Rely Auto Own Seat Sha
structure UpOk (ts : List NdV) (L x : Nat) : Prop where
  nm:(ndi ts x).n.nm=0
  sg:(ndi ts x).n.sg=List.replicate 32 0
  inc:∀ k,k<(ndi ts x).n.ms.length→∀ j,j<k→nth (ndi ts x).n.ms j<nth (ndi ts x).n.ms k
  mem:∀ i∈(ndi ts x).n.ms,∃ m:Nat,i=((m:Nat):Int)∧m<L∧abv ((x:Nat):Int) (2*((m:Nat):Int)) ((L:Nat):Int)=true∧(ndi ts (2*m)).n.us=true∧∀ y:Nat,y<ts.length→y%2=1→y≠x→(ndi ts y).n.us=true→abv ((x:Nat):Int) ((y:Nat):Int) ((L:Nat):Int)=true→abv ((y:Nat):Int) (2*((m:Nat):Int)) ((L:Nat):Int)=true→((m:Nat):Int)∈(ndi ts y).n.ms
structure Form (ts : List NdV) (L : Nat) : Prop where
  tr:QaG ((L:Nat):Int)=true
  len:ts.length+1=2*L
  nms:∀ i j,i<L→j<L→(ndi ts (2*i)).n.us=true→(ndi ts (2*j)).n.us=true→(ndi ts (2*i)).n.nm=(ndi ts (2*j)).n.nm→i=j
  zero:∀ x,x<ts.length→(ndi ts x).n.us=false→(ndi ts x).n=zn.n
  leaf:∀ i,i<L→(ndi ts (2*i)).n.us=true→QbJ (ndi ts (2*i)).n=true
  up:∀ x,x<ts.length→x%2=1→(ndi ts x).n.us=true→UpOk ts L x
theorem Qgs {a b:NdC} (h:Qb7 a b=true):a=b:=by
  unfold Qb7 at h
  simp only [Bool.and_eq_true,beq_iff_eq,decide_eq_true_eq] at h
  obtain ⟨⟨⟨⟨⟨h1,h2⟩,h3⟩,h4⟩,h5⟩,h6⟩:=h
  cases a; cases b
  simp only at h1 h2 h3 h4 h5 h6
  subst h1; subst h2; subst h3; subst h4; subst h5; subst h6; rfl
theorem Qc9 {ts : List NdV} {n:Int}:∀ {k:Nat},n∈Qbc ts k↔∃ i,i<k∧(ndi ts (2*i)).n.us=true∧(ndi ts (2*i)).n.nm=n
  | 0=>⟨fun h=>(by cases h),fun ⟨i,h,_⟩=>absurd h (Nat.not_lt_zero _)⟩
  | k+1=>by
    unfold Qbc
    split
    · rename_i hu
      rw [List.mem_append,Qc9,List.mem_singleton]
      constructor
      · rintro (⟨i,h1,h2,h3⟩ | h)
        · exact ⟨i,by omega,h2,h3⟩
        · exact ⟨k,by omega,hu,h.symm⟩
      · rintro ⟨i,h1,h2,h3⟩
        by_cases e:i=k
        · subst e; exact .inr h3.symm
        · exact .inl ⟨i,by omega,h2,h3⟩
    · rename_i hu
      rw [Qc9]
      constructor
      · rintro ⟨i,h1,h2,h3⟩; exact ⟨i,by omega,h2,h3⟩
      · rintro ⟨i,h1,h2,h3⟩
        by_cases e:i=k
        · subst e; exact absurd h2 hu
        · exact ⟨i,by omega,h2,h3⟩
theorem Qcn {ts : List NdV}:∀ {k:Nat},(Qbc ts k).Nodup↔∀ i j,i<k→j<k→(ndi ts (2*i)).n.us=true→(ndi ts (2*j)).n.us=true→(ndi ts (2*i)).n.nm=(ndi ts (2*j)).n.nm→i=j
  | 0=>⟨fun _ i j h=>absurd h (Nat.not_lt_zero _),fun _=>List.nodup_nil⟩
  | k+1=>by
    constructor
    · intro h i j hi hj ui uj e
      have hk:(Qbc ts k).Nodup:=by
        unfold Qbc at h
        split at h
        · exact (List.nodup_append.1 h).1
        · exact h
      have key:∀ i,i<k→(ndi ts (2*i)).n.us=true→(ndi ts (2*k)).n.us=true→(ndi ts (2*i)).n.nm≠(ndi ts (2*k)).n.nm:=fun i hi ui uk e=>by
        unfold Qbc at h
        rw [if_pos uk] at h
        exact (List.nodup_append.1 h).2.2 _ (Qc9.2 ⟨i,hi,ui,rfl⟩) _ (List.mem_singleton.2 rfl) e
      by_cases e1:i=k
      · by_cases e2:j=k
        · omega
        · exact absurd e.symm (key j (by omega) uj (e1▸ui) |> fun h q=>h (e1▸q))
      · by_cases e2:j=k
        · exact absurd e (key i (by omega) ui (e2▸uj) |> fun h q=>h (e2▸q))
        · exact Qcn.1 hk i j (by omega) (by omega) ui uj e
    · intro h
      have hk:(Qbc ts k).Nodup:=Qcn.2 fun i j hi hj=>h i j (by omega) (by omega)
      unfold Qbc
      split
      · rename_i hu
        refine QcI hk fun hm=>?_
        obtain ⟨i,hi,ui,e⟩:=Qc9.1 hm
        have:=h i k (by omega) (by omega) ui hu e
        omega
      · exact hk
theorem Qi4 {ts : List NdV} {L x:Nat} (hlen:ts.length+1=2*L) (hx:Qa2 ((x:Nat):Int) ((L:Nat):Int)=true) (ho:x%2=1) (i:Int):Qbg ts ((L:Nat):Int) ((x:Nat):Int) i=true↔∃ m:Nat,i=((m:Nat):Int)∧m<L∧abv ((x:Nat):Int) (2*((m:Nat):Int)) ((L:Nat):Int)=true∧(ndi ts (2*m)).n.us=true∧∀ y:Nat,y<ts.length→y%2=1→y≠x→(ndi ts y).n.us=true→abv ((x:Nat):Int) ((y:Nat):Int) ((L:Nat):Int)=true→abv ((y:Nat):Int) (2*((m:Nat):Int)) ((L:Nat):Int)=true→((m:Nat):Int)∈(ndi ts y).n.ms:=by
  constructor
  · intro h
    have h0:=h
    unfold Qbg at h0
    simp only [Bool.and_eq_true,decide_eq_true_eq] at h0
    have hb:=Qca hx
    obtain ⟨m,rfl⟩:=Int.eq_ofNat_of_zero_le (show 0≤i by omega)
    have hm:m<L:=by omega
    have ha:abv ((x:Nat):Int) (2*((m:Nat):Int)) ((L:Nat):Int)=true:=by
      rw [Qfn hx (by omega),decide_eq_true h0.1.1.1,decide_eq_true h0.1.1.2]; rfl
    refine ⟨m,rfl,hm,ha,?_,fun y hy hyo hyx hyu h1 h2=>?_⟩
    · have:=h0.1.2; rwa [show (2*((m:Nat):Int)).toNat=2*m by omega] at this
    · by_cases hm2:((m:Nat):Int)∈(ndi ts y).n.ms
      · exact hm2
      · have hyn:Qa2 ((y:Nat):Int) ((L:Nat):Int)=true:=by
          unfold abv at h2
          simp only [Bool.and_eq_true] at h2
          exact h2.1.1
        have:=QeN (ts:=ts) hx (by omega) (by omega) ha hyn (by omega) (by omega) h1 h2 hyu hm2
        rw [this] at h; cases h
  · rintro ⟨m,rfl,hm,ha,hu,hall⟩
    exact QdY hx (by omega) (by omega) ha hu fun y hy hyo hyx hyu h1 h2=>hall y (by omega) hyo (by omega) hyu h1 h2
theorem QgM {ts : List NdV} {L x:Nat} (hTr:QaG ((L:Nat):Int)=true) (hlen:ts.length+1=2*L) (hx:x<ts.length) (ho:x%2=1) (h:Qbq ts ((L:Nat):Int) x=true):UpOk ts L x:=by
  have hxn:Qa2 ((x:Nat):Int) ((L:Nat):Int)=true:=QaS hTr (by omega)
  have hk:=Qi5 (by omega) h
  have h0:=h
  unfold Qbq at h0
  rw [if_neg (by omega)] at h0
  simp only [Bool.and_eq_true,decide_eq_true_eq] at h0
  refine ⟨h0.1.1,h0.1.2,rises fun k hk2=>?_,fun i hi=>?_⟩
  · have:=hk k hk2
    unfold msOk at this
    simp only [Bool.and_eq_true,Bool.or_eq_true,beq_iff_eq,decide_eq_true_eq] at this
    exact this.1
  · obtain ⟨k,hk2,rfl⟩:=QkD hi
    have:=hk k hk2
    unfold msOk at this
    rw [Bool.and_eq_true] at this
    exact (Qi4 hlen hxn ho _).1 this.2
theorem QbH {ts : List NdV} (htl:ts.length≤100000) (h:chkT ts=true):∃ L:Nat,Form ts L∧anyU ts (L/2)=true:=by
  obtain ⟨L,hL,hL3,hlen,hTr⟩:=Qle htl h
  have hn:=fun x hx=>Qem hL h (x:=x) hx
  have h0:=h
  unfold chkT at h0
  rw [QbZ hL] at h0
  simp only [Bool.and_eq_true] at h0
  refine ⟨L,⟨hTr,hlen,?_,fun x hx hu=>?_,fun i hi hu=>?_,fun x hx ho hu=>QgM hTr hlen hx ho (QdZ hL h hx hu)⟩,h0.1.2⟩
  · have:=h0.1.1.2
    unfold QbV at this
    rw [show (ts.length+1)/2=L by omega] at this
    exact Qcn.1 (of_decide_eq_true this)
  · have:=hn x hx
    unfold Qbd at this
    rw [if_neg (by rw [hu]; decide)] at this
    exact Qgs this
  · have:=QdZ hL h (x:=2*i) (by omega) hu
    rwa [QcF (by omega)] at this
end Go.Proofs.YthfkppjajmjpnaaDoor.Te
end
section
namespace Go.Proofs.YthfkppjajmjpnaaDoor.Te
open Go Go.RowKit
open Rely Auto Own Seat Sha
set_option maxRecDepth 100000 in
theorem Qjo : Qbp (fun h x=>decide (16<h) || (bel x (2*h)==bel x h&&(List.range (2*h.toNat-1)).all fun y=>abv x ((y:Nat):Int) (2*h)==abv x ((y:Nat):Int) h))=true:=by decide +kernel
theorem Qfi {x y h:Nat} (hx:Qa2 ((x:Nat):Int) ((h:Nat):Int)=true) (h16:h≤16) (hy:y+1<2*h):bel ((x:Nat):Int) ((2*h:Nat):Int)=bel ((x:Nat):Int) ((h:Nat):Int)∧abv ((x:Nat):Int) ((y:Nat):Int) ((2*h:Nat):Int)=abv ((x:Nat):Int) ((y:Nat):Int) ((h:Nat):Int):=by
  have:=QaJ Qjo hx
  rw [decide_eq_false (by omega),Bool.false_or,Bool.and_eq_true] at this
  have e:2*((h:Nat):Int)=((2*h:Nat):Int):=by omega
  rw [e] at this
  exact ⟨eq_of_beq this.1,eq_of_beq (List.all_eq_true.1 this.2 y (List.mem_range.2 (by omega)))⟩
theorem QiD {h : Nat} (h1:1≤h) (hT:QaG ((2*h:Nat):Int)=true):QaG ((h:Nat):Int)=true∧h≤16:=by
  rcases (show h=1∨h=2∨h=4∨h=8∨h=16 by have:=Qa9 hT; omega) with rfl | rfl | rfl | rfl | rfl <;> exact ⟨by decide,by decide⟩
theorem Form.half {ts : List NdV} {h:Nat} (f:Form ts (2*h)) (h1:1≤h):Form (ts.take (2*h-1)) h:=by
  obtain ⟨hT,h16⟩:=QiD h1 f.tr
  have hlen:=f.len
  have hl:(ts.take (2*h-1)).length=2*h-1:=by rw [List.length_take]; omega
  have at_:∀ x,x<2*h-1→ndi (ts.take (2*h-1)) x=ndi ts x:=fun x hx=>Qdk hx
  refine ⟨hT,by omega,fun i j hi hj ui uj e=>?_,fun x hx hu=>?_,fun i hi hu=>?_,fun x hx ho hu=>?_⟩
  · rw [at_ _ (by omega)] at ui e
    rw [at_ _ (by omega)] at uj e
    exact f.nms i j (by omega) (by omega) ui uj e
  · rw [hl] at hx
    rw [at_ x hx] at hu ⊢
    exact f.zero x (by omega) hu
  · rw [at_ _ (by omega)] at hu ⊢
    exact f.leaf i (by omega) hu
  · rw [hl] at hx
    have hxn:Qa2 ((x:Nat):Int) ((h:Nat):Int)=true:=QaS hT (by omega)
    have hxn2:Qa2 ((x:Nat):Int) ((2*h:Nat):Int)=true:=QaS f.tr (by omega)
    have ex:=at_ x hx
    rw [ex] at hu
    obtain ⟨u1,u2,u3,u4⟩:=f.up x (by omega) ho hu
    refine ⟨by rw [ex]; exact u1,by rw [ex]; exact u2,by rw [ex]; exact u3,fun i hi=>?_⟩
    rw [ex] at hi
    obtain ⟨j,e,hj,ab,uj,hy⟩:=u4 i hi
    have hjh:j<h:=by
      rw [Qfn hxn2 (by omega),(Qfi hxn h16 (y:=0) (by omega)).1,Bool.and_eq_true,decide_eq_true_eq,decide_eq_true_eq] at ab
      have:=Qca hxn
      omega
    have e2:2*((j:Nat):Int)=((2*j:Nat):Int):=by omega
    refine ⟨j,e,hjh,?_,by rw [at_ _ (by omega)]; exact uj,fun y hy1 hy2 hy3 hy4 hy5 hy6=>?_⟩
    · rw [e2,(Qfi hxn h16 (by omega)).2,←e2] at ab; exact ab
    · rw [hl] at hy1
      have hyn:Qa2 ((y:Nat):Int) ((h:Nat):Int)=true:=QaS hT (by omega)
      rw [at_ y hy1] at hy4 ⊢
      rw [←(Qfi hxn h16 (by omega)).2] at hy5
      rw [e2,←(Qfi hyn h16 (by omega)).2,←e2] at hy6
      exact hy y (by omega) hy2 hy3 hy4 hy5 hy6
theorem QfZ {xs : List Int} {x j:Int} {c:Nat}:j∈insA xs c x↔j=x∨j∈xs:=by
  unfold insA
  rw [List.mem_append,List.mem_append,List.mem_singleton]
  constructor
  · rintro ((h | h) | h)
    · exact .inr (List.mem_of_mem_take h)
    · exact .inl h
    · exact .inr (List.mem_of_mem_drop h)
  · rintro (h | h)
    · exact .inl (.inr h)
    · rw [←List.take_append_drop c xs,List.mem_append] at h
      rcases h with h | h
      · exact .inl (.inl h)
      · exact .inr h
theorem QlL {ms : List Int} (h:∀ k,k<ms.length→∀ j,j<k→nth ms j<nth ms k):ms.Pairwise (· < ·):=by
  rw [List.pairwise_iff_getElem]
  intro i j hi hj hij
  have h1:=h j hj i hij
  unfold nth at h1
  rw [List.getD_eq_getElem?_getD,List.getD_eq_getElem?_getD,List.getElem?_eq_getElem hi,List.getElem?_eq_getElem hj] at h1
  exact h1
theorem QkC {ms : List Int} (h:ms.Pairwise (· < ·)):∀ k,k<ms.length→∀ j,j<k→nth ms j<nth ms k:=fun k hk j hj=>by
  have:=List.pairwise_iff_getElem.1 h j k (by omega) hk hj
  unfold nth
  rw [List.getD_eq_getElem?_getD,List.getD_eq_getElem?_getD,List.getElem?_eq_getElem hk,List.getElem?_eq_getElem (show j<ms.length by omega)]
  exact this
theorem Qhd {xs : List Int} {x:Int} (h:xs.Pairwise (· < ·)) (hx:x∉xs):(insA xs (posI xs x) x).Pairwise (· < ·):=by
  have h1:=Qhe x (h.imp fun q=>Int.le_of_lt q)
  have h2:(insA xs (posI xs x) x).Nodup:=by
    have hn:xs.Nodup:=List.nodup_iff_pairwise_ne.2 (h.imp fun q=>by omega)
    unfold insA
    rw [List.append_assoc]
    have e:=List.take_append_drop (posI xs x) xs
    rw [←e] at hn hx
    rw [List.nodup_append] at hn ⊢
    rw [List.mem_append,not_or] at hx
    refine ⟨hn.1,?_,fun a ha b hb=>?_⟩
    · rw [List.singleton_append,List.nodup_cons]
      exact ⟨hx.2,hn.2.1⟩
    · rw [List.singleton_append,List.mem_cons] at hb
      rcases hb with rfl | hb
      · exact fun e=>hx.1 (e▸ha)
      · exact hn.2.2 a ha b hb
  exact (h1.and (List.nodup_iff_pairwise_ne.1 h2)).imp fun q=>by omega
theorem Form.add {ts rs:List NdV} {L m:Nat} {nd:NdC} (h:Form ts L) (hm:m<L) (hf:(ndi ts (2*m)).n.us=false) (hl:rs.length=ts.length) (hs:QbJ nd=true) (hn:∀ j,j<L→(ndi ts (2*j)).n.us=true→(ndi ts (2*j)).n.nm≠nd.nm)
    (r1:(ndi rs (2*m)).n=nd) (r2:∀ x,x<ts.length→x%2=1→(ndi ts x).n.us=true→abv ((x:Nat):Int) (2*((m:Nat):Int)) ((L:Nat):Int)=true→(ndi rs x).n={ (ndi ts x).n with ms:=insA (ndi ts x).n.ms (posI (ndi ts x).n.ms ((m:Nat):Int)) ((m:Nat):Int) })
    (r3:∀ x,x<ts.length→x%2=1→((ndi ts x).n.us=false∨abv ((x:Nat):Int) (2*((m:Nat):Int)) ((L:Nat):Int)=false)→(ndi rs x).n=(ndi ts x).n) (r4:∀ j,j<L→j≠m→(ndi rs (2*j)).n=(ndi ts (2*j)).n):Form rs L:=by
  have hlen:=h.len
  have hus:nd.us=true:=by unfold QbJ at hs; simp only [Bool.and_eq_true] at hs; exact hs.1.1.1
  have odd:∀ x,x<ts.length→x%2=1→(ndi rs x).n.us=(ndi ts x).n.us:=fun x hx ho=>by
    cases hu:(ndi ts x).n.us with
    | false=>rw [r3 x hx ho (.inl hu)]; exact hu
    | true =>
      cases ha:abv ((x:Nat):Int) (2*((m:Nat):Int)) ((L:Nat):Int) with
      | false=>rw [r3 x hx ho (.inr ha)]; exact hu
      | true=>rw [r2 x hx ho hu ha]; exact hu
  have more:∀ y,y<ts.length→y%2=1→∀ j:Int,j∈(ndi ts y).n.ms→j∈(ndi rs y).n.ms:=fun y hy ho j hj=>by
    cases hu:(ndi ts y).n.us with
    | false=>rw [r3 y hy ho (.inl hu)]; exact hj
    | true =>
      cases ha:abv ((y:Nat):Int) (2*((m:Nat):Int)) ((L:Nat):Int) with
      | false=>rw [r3 y hy ho (.inr ha)]; exact hj
      | true=>rw [r2 y hy ho hu ha]; exact QfZ.2 (.inr hj)
  have lus:∀ j,j<L→(ndi ts (2*j)).n.us=true→(ndi rs (2*j)).n.us=true:=fun j hj hu=>by
    rw [r4 j hj fun e=>by rw [e,hf] at hu; cases hu]; exact hu
  refine ⟨h.tr,by rw [hl]; exact hlen,fun i j hi hj ui uj e=>?_,fun x hx hu=>?_,fun i hi hu=>?_,fun x hx ho hu=>?_⟩
  · by_cases e1:i=m
    · by_cases e2:j=m
      · omega
      · subst e1
        rw [r1] at e
        rw [r4 j hj e2] at uj e
        exact absurd e.symm (hn j hj uj)
    · rw [r4 i hi e1] at ui e
      by_cases e2:j=m
      · subst e2
        rw [r1] at e
        exact absurd e (hn i hi ui)
      · rw [r4 j hj e2] at uj e
        exact h.nms i j hi hj ui uj e
  · rw [hl] at hx
    by_cases ho:x%2=1
    · rw [odd x hx ho] at hu
      rw [r3 x hx ho (.inl hu)]
      exact h.zero x hx hu
    · by_cases e:x/2=m
      · have e2:x=2*m:=by omega
        rw [e2,r1,hus] at hu
        cases hu
      · have e2:x=2*(x/2):=by omega
        rw [e2,r4 _ (by omega) e] at hu ⊢
        exact h.zero _ (by omega) hu
  · by_cases e:i=m
    · subst e; rw [r1]; exact hs
    · rw [r4 i hi e] at hu ⊢
      exact h.leaf i hi hu
  · rw [hl] at hx
    rw [odd x hx ho] at hu
    have hxn:Qa2 ((x:Nat):Int) ((L:Nat):Int)=true:=QaS h.tr (by omega)
    obtain ⟨u1,u2,u3,u4⟩:=h.up x hx ho hu
    have oldm:∀ i∈(ndi ts x).n.ms,∃ j:Nat,i=((j:Nat):Int)∧j<L∧abv ((x:Nat):Int) (2*((j:Nat):Int)) ((L:Nat):Int)=true∧(ndi rs (2*j)).n.us=true∧∀ y:Nat,y<rs.length→y%2=1→y≠x→(ndi rs y).n.us=true→abv ((x:Nat):Int) ((y:Nat):Int) ((L:Nat):Int)=true→abv ((y:Nat):Int) (2*((j:Nat):Int)) ((L:Nat):Int)=true→((j:Nat):Int)∈(ndi rs y).n.ms:=fun i hi=>by
      obtain ⟨j,e,hj,ab,uj,hy⟩:=u4 i hi
      refine ⟨j,e,hj,ab,lus j hj uj,fun y hy1 hy2 hy3 hy4 hy5 hy6=>?_⟩
      rw [hl] at hy1
      rw [odd y hy1 hy2] at hy4
      exact more y hy1 hy2 _ (hy y hy1 hy2 hy3 hy4 hy5 hy6)
    cases ha:abv ((x:Nat):Int) (2*((m:Nat):Int)) ((L:Nat):Int) with
    | false =>
      have ex:=r3 x hx ho (.inr ha)
      exact ⟨by rw [ex]; exact u1,by rw [ex]; exact u2,by rw [ex]; exact u3,fun i hi=>oldm i (by rw [ex] at hi; exact hi)⟩
    | true =>
      have ex:=r2 x hx ho hu ha
      have hmm:((m:Nat):Int)∉(ndi ts x).n.ms:=fun hi=>by
        obtain ⟨j,e,hj,ab,uj,-⟩:=u4 _ hi
        obtain rfl:m=j:=by omega
        rw [hf] at uj; cases uj
      refine ⟨by rw [ex]; exact u1,by rw [ex]; exact u2,by rw [ex]; exact QkC (Qhd (QlL u3) hmm),fun i hi=>?_⟩
      rw [ex] at hi
      rcases QfZ.1 hi with rfl | hi
      · refine ⟨m,rfl,hm,ha,by rw [r1]; exact hus,fun y hy1 hy2 hy3 hy4 hy5 hy6=>?_⟩
        rw [hl] at hy1
        rw [odd y hy1 hy2] at hy4
        rw [r2 y hy1 hy2 hy4 hy6]
        exact QfZ.2 (.inl rfl)
      · exact oldm i hi
end Go.Proofs.YthfkppjajmjpnaaDoor.Te
end
section
namespace Go.Proofs.YthfkppjajmjpnaaDoor.Te
open Go Go.RowKit
open Rely Auto Own Seat Sha
end Go.Proofs.YthfkppjajmjpnaaDoor.Te
end
section
namespace Go.Proofs.YthfkppjajmjpnaaDoor.Te
open Go Go.RowKit
open Rely Auto Own Seat Sha
end Go.Proofs.YthfkppjajmjpnaaDoor.Te
end
section
namespace Go.Proofs.YthfkppjajmjpnaaDoor.Te
open Go Go.RowKit
open Rely Auto Own Seat Sha
theorem Qf8 {xs : List Int} {k:Nat} (h:k<xs.length):nth xs k∈xs:=by
  unfold nth
  rw [List.getD_eq_getElem?_getD,List.getElem?_eq_getElem h]
  exact List.getElem_mem h
end Go.Proofs.YthfkppjajmjpnaaDoor.Te
end
section
namespace Go.Proofs.YthfkppjajmjpnaaDoor.Te
open Go Go.RowKit
open Rely Auto Own Seat Sha
theorem fill_cat (pl : Nat→Option (Nat×Nat)):∀ (ps:List (Nat×Nat×Value×Array Value)) (pre:List (Array Value)) (rest:Array Value) (off:Nat),(cat pre).size=off→okPl pl off ps→tot ps=rest.size →
    Instr.fill pl (cat pre++rest) (ps.map fun x=>(x.1,x.2.2.1))=some (cat (pre++ps.map fun x=>x.2.2.2))
  | [],pre,rest,off,_,_,ht=>by
    have:rest=#[]:=Array.eq_empty_of_size_eq_zero ht.symm
    subst this
    simp [Instr.fill]
  | (i,n,v,p)::r,pre,rest,off,hoff,⟨h1,h2,h3,h4⟩,ht=>by
    subst h2
    have hn:n≤rest.size:=by rw [←ht,tot]; omega
    simp only [List.map_cons,Instr.fill,h1,h3]
    rw [if_neg (by simp; omega)]
    have hz:(v.cells.zipIdx.foldl (fun cs (x:Value×Nat)=>cs.setIfInBounds (off+x.2) x.1) (cat pre++rest))=cat (pre++[v.cells])++rest.extract n rest.size:=by
      have e1:v.cells.zipIdx=(v.cells.toList.zipIdx 0).toArray:=by
        apply Array.ext'
        simp
      rw [e1,List.foldl_toArray',QcD]
      · have e2:rest=rest.extract 0 n++rest.extract n rest.size:=by
          rw [Array.extract_append_extract,Nat.max_eq_right hn]
          simp
        have e3:(cat pre++rest)=cat (pre++([rest.extract 0 n]++[rest.extract n rest.size])):=by
          rw [QaA]
          congr 1
        rw [Nat.add_zero,e3]
        have:=QeH pre [rest.extract 0 n] [v.cells] [rest.extract n rest.size] off hoff (by show v.cells.size=(rest.extract 0 n).size; simp; omega)
        rw [show (cat [v.cells]).toList=v.cells.toList from rfl] at this
        rw [this,←List.append_assoc,QaA (pre++[v.cells])]
        rfl
      · rfl
    have key:=fill_cat pl r (pre++[v.cells]) (rest.extract n rest.size) (off+n) (by rw [QaA]; show (cat pre++v.cells).size=_; simp; omega) h4 (by simp; rw [←ht,tot]; omega)
    rw [←hz] at key
    rw [List.append_assoc] at key
    exact key
theorem Qk2 {P : Program} {ρ:Operand→Value} {o:Oper} {w:World} (t e:TypeId) (sz:Nat) (x:Operand) (v:Value) (ho:o.op=.buildSlice t 1 #[(0,x)]) (hx:ρ x=v) (hu:P.underlying t=some (.slice e)) (hs:(P.info? e).map (·.size)=some sz) (hz:((P.info? e).bind (·.zero)).isSome=true) (hv:v.cells.size=sz) (h0:0<sz) (hl:sz≤2^24) :
    (execOp ρ o).run P w=.ok (.value (.slice (some ⟨w.heap.size,0,none⟩) 1 1)) (w.alloc (.cells v.cells e)):=by
  cases hie:P.info? e with
  | none=>simp [hie] at hs
  | some ie =>
    simp only [hie,Option.map_some,Option.some.injEq,Option.bind_some] at hs hz
    obtain ⟨z,hzz⟩:=Option.isSome_iff_exists.1 hz
    subst hx
    have hf:Instr.fill (fun i=>some (i*ie.size,ie.size)) ((Array.range (1*ie.size)).map (z.cells[·%z.cells.size]!)) (Array.map (fun p:Nat×Operand=>(p.1,ρ p.2)) #[(0,x)]).toList=some (ρ x).cells:=by
      have:=fill_cat (fun i=>some (i*ie.size,ie.size)) [(0,ie.size,ρ x,(ρ x).cells)] [] ((Array.range (1*ie.size)).map (z.cells[·%z.cells.size]!)) 0 rfl ⟨by simp,rfl,by rw [hv,hs],trivial⟩ (by simp [tot])
      simpa [cat] using this
    have hr:=run_buildSlice w t e 1 (Array.map (fun p:Nat×Operand=>(p.1,ρ p.2)) #[(0,x)]) (ρ x).cells ie z hu hie hzz (by rw [hs]; omega) (by rw [hs]; omega) hf
    unfold execOp
    simp only [ho,Sem.run_bind]
    rw [hr]
    rfl
section
variable {ds : List Deferred} {P : Program} {ops : Array Oper} {Q : Exit → Act → World → Prop} {rest : List Oper} {o : Oper} {N : Nat} {L : Env} {W : World}
end
end Go.Proofs.YthfkppjajmjpnaaDoor.Te
end
section

end
section
namespace Go.Proofs.YthfkppjajmjpnaaDoor.Te
open Go Go.RowKit
open Rely Auto Own Seat Sha
section
variable {ds : List Deferred} {P : Program} {ops : Array Oper} {Q : Exit → Act → World → Prop} {rest : List Oper} {o : Oper} {N : Nat} {L : Env} {W : World}
end
end Go.Proofs.YthfkppjajmjpnaaDoor.Te
end
section
namespace Go.Proofs.YthfkppjajmjpnaaDoor.Te
open Go Go.RowKit
open Rely Auto Own Seat Sha
theorem FrT.low {a b:Nat} {us:List NdV} {v:Value} {W:World} (h:FrT b us v W) (hab:a≤b):FrT a us v W:=by
  obtain ⟨x,c,e,h1,h2,h3⟩:=h
  exact ⟨x,c,e,h1,h2.mono fun g hg=>qT hab hg,h3⟩
end Go.Proofs.YthfkppjajmjpnaaDoor.Te
end
section
namespace Go.Proofs.YthfkppjajmjpnaaDoor.Te
open Go Go.RowKit
open Rely Auto Own Seat Sha
section
variable {P : Program} {ρ : Operand → Value} {o : Oper} {w : World}
end
end Go.Proofs.YthfkppjajmjpnaaDoor.Te
end
section
namespace Go.Proofs.YthfkppjajmjpnaaDoor.Te
open Go Go.RowKit
open Rely Auto Own Seat Sha
section
variable {ds : List Deferred} {P : Program} {ops : Array Oper} {Q : Exit → Act → World → Prop} {rest : List Oper} {o : Oper} {N : Nat} {L : Env} {W : World}
end
theorem OwH.list {base g c i M:Nat} {ts:List NdV} {W:World} (hM:ts.length=M) (t:OwT base ts (.slice (some ⟨g,0,none⟩) M c) W) (hi:i<M) (h0:0<(ndi ts i).n.ms.length):∃ b,(ndi ts i).a=some ⟨b,0,none⟩∧base≤b∧b<W.heap.size∧∀ j,j<(ndi ts i).n.ms.length→W.cell? ⟨b,0+j,none⟩=some (.int .i64 (nth (ndi ts i).n.ms j)):=by
  obtain ⟨b,cc,cu,e1,e2,e3,e4,e5,e6,e7⟩:=QhI (t.nd i (by omega) (by simp)).2.2 h0
  unfold slv at e1
  simp only [Value.slice.injEq] at e1
  exact ⟨b,e1.1,e2,Qa5 e3,fun j hj=>by rw [Nat.zero_add,Qfl e3]; exact Qel e7 hj⟩
end Go.Proofs.YthfkppjajmjpnaaDoor.Te
end
section
namespace Go.Proofs.YthfkppjajmjpnaaDoor.Te
open Go Go.RowKit
open Rely Auto Own Seat Sha
end Go.Proofs.YthfkppjajmjpnaaDoor.Te
end
section
namespace Go.Proofs.YthfkppjajmjpnaaDoor.Te
open Go Go.RowKit
open Rely Auto Own Seat Sha
theorem nb_typ {k : IntKind} {T T':TypeId} {base g:Nat} {xs:List Int} {v:Value} {W:World} {c:Array Value} (h:OwnN k T base xs v W) (r:W.heap[g]? = some (.cells c T')) (hne:T≠T'):v.ownBlock≠some g:=fun e=>by
  obtain ⟨c2,hc⟩:=own_typ h e
  rw [r] at hc
  simp only [Option.some.injEq,Obj.cells.injEq] at hc
  exact hne hc.2.1.symm
section
variable {ds : List Deferred} {P : Program} {ops : Array Oper} {Q : Exit → Act → World → Prop} {rest : List Oper} {o : Oper} {N : Nat} {L : Env} {W : World}
end
end Go.Proofs.YthfkppjajmjpnaaDoor.Te
end
section
namespace Go.Proofs.YthfkppjajmjpnaaDoor.Te
open Go Go.RowKit
open Rely Auto Own Seat Sha
theorem Form.ms_lt {ts : List NdV} {L x:Nat} (f:Form ts L) (hx:x<ts.length) (ho:x%2=1) (hu:(ndi ts x).n.us=true):(ndi ts x).n.ms.Pairwise (· < ·)∧∀ j∈(ndi ts x).n.ms,0≤j∧j<32∧(ndi ts (2*j.toNat)).n.us=true:=by
  have u:=f.up x hx ho hu
  refine ⟨QlL u.inc,fun j hj=>?_⟩
  obtain ⟨m,e,hm,-,uj,-⟩:=u.mem j hj
  have:=Qa9 f.tr
  exact ⟨by omega,by omega,by rw [e]; exact uj⟩
end Go.Proofs.YthfkppjajmjpnaaDoor.Te
end
section
namespace Go.Proofs.YthfkppjajmjpnaaDoor.Te
open Go Go.RowKit
open Rely Auto Own Seat Sha
end Go.Proofs.YthfkppjajmjpnaaDoor.Te
end
section
namespace Go.Proofs.YthfkppjajmjpnaaDoor.Te
open Go Go.RowKit
open Rely Auto Own Seat Sha
theorem OwH.nodeH {base g M c i x:Nat} {ts:List NdV} {W:World} (hM:ts.length=M) (t:OwH base ts (.slice (some ⟨g,0,none⟩) M c) W (some i)) (hx:x<M) (hxi:x≠i):NdAt W.heap.size W g (0+x*99) (ndi ts x):=by
  subst hM
  obtain ⟨g',c',cur,e,q2,q3,q4,q5,q6,q7⟩:=t.opens (by omega)
  simp only [Value.slice.injEq,Option.some.injEq,Addr.mk.injEq] at e
  obtain ⟨⟨rfl,-⟩,-,rfl⟩:=e
  refine ⟨Qa5 q3,Qa5 q3,fun j u hu=>?_,RdK.here (OwnN.rd (t.nd x hx (by simpa using hxi)).2.2),t.ok x hx⟩
  have hj:j<99:=by have:=(Array.getElem?_eq_some_iff.1 hu).1; rw [Qcy _ (t.ok x hx)] at this; exact this
  rw [Nat.zero_add,Qfl q3,q7 x hx j hj,hu]
section
variable {ds : List Deferred} {P : Program} {ops : Array Oper} {Q : Exit → Act → World → Prop} {rest : List Oper} {o : Oper} {N : Nat} {L : Env} {W : World}
end
end Go.Proofs.YthfkppjajmjpnaaDoor.Te
end
