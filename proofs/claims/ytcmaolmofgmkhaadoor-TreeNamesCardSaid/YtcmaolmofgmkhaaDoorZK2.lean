/- Texts of this claim, joined (K2). -/
import Derived.Test.YtcmaolmofgmkhaaDoorZK1
import Derived.Shelf.Spec.SlicesInsertGrow
import Derived.Shelf.Slices.SearchI
import Derived.Shelf.Slices.Empties

set_option linter.unusedVariables false
set_option linter.unusedSimpArgs false
set_option maxHeartbeats 4000000
section
namespace Go.Proofs.YtcmaolmofgmkhaaDoor.Te
open Go Go.RowKit
open Rely Auto Own Seat Sha
def msOk (ts : List NdV) (n x:Int) (ms:List Int) (k:Nat):Bool:=(k==0 || decide (nth ms (k-1)<nth ms k))&&Qbd ts n x (nth ms k)
def Qbj (ts : List NdV) (n:Int) (x:Nat):Bool:=if x%2=0 then QaO (ndi ts x).n else decide ((ndi ts x).n.nm=0)&&decide ((ndi ts x).n.sg=List.replicate 32 0)&&(List.range (ndi ts x).n.ms.length).all fun k=>msOk ts n ((x:Nat):Int) (ndi ts x).n.ms k
theorem Qch {ts : List NdV} {n:Int} {x:Nat} (h:x%2=0):Qbj ts n x=QaO (ndi ts x).n:=by unfold Qbj; rw [if_pos h]
theorem Qgo {ts : List NdV} {n:Int} {x:Nat} (h:x%2≠0) (h1:(ndi ts x).n.nm≠0):Qbj ts n x=false:=by unfold Qbj; rw [if_neg h,decide_eq_false h1]; rfl
theorem Qgn {ts : List NdV} {n:Int} {x:Nat} (h:x%2≠0) (h1:(ndi ts x).n.sg≠List.replicate 32 0):Qbj ts n x=false:=by unfold Qbj; rw [if_neg h,decide_eq_false h1]; simp
theorem Qbi {ts : List NdV} {n:Int} {x:Nat} (h:x%2≠0) (h1:(ndi ts x).n.nm=0) (h2:(ndi ts x).n.sg=List.replicate 32 0):Qbj ts n x=(List.range (ndi ts x).n.ms.length).all fun k=>msOk ts n ((x:Nat):Int) (ndi ts x).n.ms k:=by unfold Qbj; rw [if_neg h,decide_eq_true h1,decide_eq_true h2]; rfl
theorem Qf7 {p : Nat→Bool} {n:Nat} (h:∀ j,j<n→p j=true):(List.range n).all p=true:=List.all_eq_true.2 fun j hj=>h j (List.mem_range.1 hj)
theorem QcP {p : Nat→Bool} {n k:Nat} (hk:k<n) (h:p k=false):(List.range n).all p=false:=List.all_eq_false.2 ⟨k,List.mem_range.2 hk,by rw [h]; decide⟩
theorem Qbb {x L:Nat} (hTr:Qax ((L:Nat):Int)=true) (h:x+1<2*L):Qau ((x:Nat):Int) ((L:Nat):Int)=true:=by unfold Qau; rw [hTr]; simp; omega
set_option maxRecDepth 100000 in
theorem QjL (ts : List NdV) (a_t:Option Addr) (c_t B1:Nat) (w:World) (ht:TrAt B1 w a_t ts) (L:Nat) (hL:leaves ((ts.length:Nat):Int)=((L:Nat):Int)) (hlen:ts.length+1=2*L) (hTr:Qax ((L:Nat):Int)=true) (hmt:∀ i,i<ts.length→(ndi ts i).n.ms.length≤1000000) (x:Nat) (hx:x<ts.length) (hT:TabAt w) (h:x%2=0):Calls Tryd.prog 40 #[.slice a_t ts.length c_t,.int .i64 ((x:Nat):Int)] w (Ret w (.bool (Qbj ts ((L:Nat):Int) x))):=by
  have hxn:Qau ((x:Nat):Int) ((L:Nat):Int)=true:=Qbb hTr (by omega)
  refine enter 54 [(0,.slice a_t ts.length c_t),(1,.int .i64 ((x:Nat):Int))] Tryd.func40 rfl rfl kj rfl ?_
  refine wp_seq_k fun K1 hK1=>?_
  refine Qab ?_
  refine Qaa (.bool false) 4 rfl kj kj ?_
  refine Qae ?_
  refine hK1 _ _ ?_
  refine wp_seq_k fun K2 hK2=>?_
  refine Qab ?_
  refine Qaa (.slice a_t ts.length c_t) 8 rfl kj kj ?_
  refine Qaa (.int .i64 ((x:Nat):Int)) 9 rfl kj kj ?_
  obtain ⟨gtT,otT,hat,hnts⟩:=TrAt.ext ht (Rely.Ext.refl w)
  have hnt:=hnts x (by omega)
  obtain ⟨nt,ent⟩:∃ z,z=ndi ts x:=⟨_,rfl⟩
  rw [←ent] at hnt
  have okt:=hnt.ok
  have rdt:=hnt.rd
  refine Qaa (.pointer (some ⟨gtT,otT+x*99,none⟩)) 10 rfl kj (Qao 23 _ _ .i64 x gtT otT ts.length c_t 41 99 a_t (hat (by omega)) rfl kj kj kj kj (by omega)) ?_
  refine Qaa (.agg (cat [#[.bool nt.n.us],#[.int .i64 nt.n.nm],ints .u8 (nt.n.key),ints .u8 (nt.n.sg),ints .u8 (nt.n.pa),#[.slice nt.a nt.n.ms.length nt.c]])) 11 rfl kj (QaH 41 _ gtT (otT+x*99) nt hnt rfl kj kj kj) ?_
  refine Qap (cat [#[.bool false],#[.int .i64 0],ints .u8 (List.replicate 32 0),ints .u8 (List.replicate 32 0),ints .u8 (List.replicate 32 0),#[.slice none 0 0]]) 41 5 rfl kj kj fun g3 W1 l3 e1 r3_1=>?_
  have x1:Ext w W1:=Ext.tr (Rely.Ext.refl w) e1
  have b3:w.heap.size≤g3:=qT (Rely.Ext.refl w).size l3
  refine Qa5 g3 _ (cat [#[.bool nt.n.us],#[.int .i64 nt.n.nm],ints .u8 (nt.n.key),ints .u8 (nt.n.sg),ints .u8 (nt.n.pa),#[.slice nt.a nt.n.ms.length nt.c]]) 41 r3_1 rfl kj (QaE 41 _ _ g3 41 _ _ r3_1 rfl kj kj (isz (n:=99) kj (by rw [Qac,Qac,Qac,Qac,Qac,Qac]; simp only [qS,cat,((Qaf _ _).trans okt.gl),((Qaf _ _).trans okt.kl),((Qaf _ _).trans okt.pl)]; rfl)) (eqsz (n:=99) (by rw [Qac,Qac,Qac,Qac,Qac,Qac]; simp only [qS,cat,((Qaf _ _).trans (qZ (n:=32)))]; rfl) (by rw [Qac,Qac,Qac,Qac,Qac,Qac]; simp only [qS,cat,((Qaf _ _).trans okt.gl),((Qaf _ _).trans okt.kl),((Qaf _ _).trans okt.pl)]; rfl)) (Qbt _ (by intro a ha; simp only [List.mem_cons,List.not_mem_nil,or_false] at ha; rcases ha with rfl | rfl | rfl | rfl | rfl | rfl; exact (Qa2 _ rfl); exact (Qa2 _ rfl); exact (Qa3 _ _); exact (Qa3 _ _); exact (Qa3 _ _); exact (Qa2 _ rfl)))) fun W2 p2 r3_2=>?_
  have x2:Ext w W2:=Puts.ext p2 x1 b3
  refine Qae ?_
  refine hK2 _ _ ?_
  refine wp_seq_k fun K4 hK4=>?_
  refine wp_seq_k fun K5 hK5=>?_
  refine Qab ?_
  refine Qaa (.int .i64 ((x:Nat):Int)) 12 rfl kj kj ?_
  refine Qaa (.int .i64 ((x%2:Nat):Int)) 13 rfl kj (Qai (u:=.int .i64 (Int.tmod (((x:Nat):Int)) (2))) kj (congrArg (Value.int .i64) (Qc5 _ 2))) ?_
  refine Qaa (.bool true) 14 rfl kj (Qai (u:=.bool ((((x%2:Nat):Int)==0))) kj (congrArg Value.bool (beq_iff_eq.2 (by omega)))) ?_
  refine Qae ?_
  refine hK5 _ _ ?_
  refine cond_true kj ?_
  refine wp_seq_k fun K6 hK6=>?_
  refine Qab ?_
  refine Qaa (.agg (cat [#[.bool nt.n.us],#[.int .i64 nt.n.nm],ints .u8 (nt.n.key),ints .u8 (nt.n.sg),ints .u8 (nt.n.pa),#[.slice nt.a nt.n.ms.length nt.c]])) 15 rfl kj (Qa9 41 _ g3 41 _ _ r3_2 rfl kj kj (isz (n:=99) kj (by rw [Qac,Qac,Qac,Qac,Qac,Qac]; simp only [qS,cat,((Qaf _ _).trans okt.gl),((Qaf _ _).trans okt.kl),((Qaf _ _).trans okt.pl)]; rfl))) ?_
  refine Qal (.bool (QaO nt.n)) 50 #[.agg (cat [#[.bool nt.n.us],#[.int .i64 nt.n.nm],ints .u8 (nt.n.key),ints .u8 (nt.n.sg),ints .u8 (nt.n.pa),#[.slice nt.a nt.n.ms.length nt.c]])] 16 rfl kj kj (Qe1 nt okt _) fun W3 e3=>?_
  have x3:Ext w W3:=Ext.tr x2 e3
  refine Qaa (.bool (QaO nt.n)) 4 rfl kj kj ?_
  refine Qae ?_
  refine hK6 _ _ ?_
  refine wp_ret ?_
  repeat (first | with_reducible refine goR1 ?_ | with_reducible refine goR2 ?_)
  exact (show bodyPost _ _ _ .ret _ _ from ret1 (.bool (QaO nt.n)) rfl (Qam kj) ⟨congrArg (fun z=>Ending.returned (.bool z)) (by rw [Qch h,←ent]),x3⟩)
set_option maxRecDepth 100000 in
theorem QjI (ts : List NdV) (a_t:Option Addr) (c_t B1:Nat) (w:World) (ht:TrAt B1 w a_t ts) (L:Nat) (hL:leaves ((ts.length:Nat):Int)=((L:Nat):Int)) (hlen:ts.length+1=2*L) (hTr:Qax ((L:Nat):Int)=true) (hmt:∀ i,i<ts.length→(ndi ts i).n.ms.length≤1000000) (x:Nat) (hx:x<ts.length) (hT:TabAt w) (h:x%2≠0) (h1:(ndi ts x).n.nm≠0):Calls Tryd.prog 40 #[.slice a_t ts.length c_t,.int .i64 ((x:Nat):Int)] w (Ret w (.bool (Qbj ts ((L:Nat):Int) x))):=by
  have hxn:Qau ((x:Nat):Int) ((L:Nat):Int)=true:=Qbb hTr (by omega)
  refine enter 54 [(0,.slice a_t ts.length c_t),(1,.int .i64 ((x:Nat):Int))] Tryd.func40 rfl rfl kj rfl ?_
  refine wp_seq_k fun K1 hK1=>?_
  refine Qab ?_
  refine Qaa (.bool false) 4 rfl kj kj ?_
  refine Qae ?_
  refine hK1 _ _ ?_
  refine wp_seq_k fun K2 hK2=>?_
  refine Qab ?_
  refine Qaa (.slice a_t ts.length c_t) 8 rfl kj kj ?_
  refine Qaa (.int .i64 ((x:Nat):Int)) 9 rfl kj kj ?_
  obtain ⟨gtT,otT,hat,hnts⟩:=TrAt.ext ht (Rely.Ext.refl w)
  have hnt:=hnts x (by omega)
  obtain ⟨nt,ent⟩:∃ z,z=ndi ts x:=⟨_,rfl⟩
  rw [←ent] at hnt
  have okt:=hnt.ok
  have rdt:=hnt.rd
  refine Qaa (.pointer (some ⟨gtT,otT+x*99,none⟩)) 10 rfl kj (Qao 23 _ _ .i64 x gtT otT ts.length c_t 41 99 a_t (hat (by omega)) rfl kj kj kj kj (by omega)) ?_
  refine Qaa (.agg (cat [#[.bool nt.n.us],#[.int .i64 nt.n.nm],ints .u8 (nt.n.key),ints .u8 (nt.n.sg),ints .u8 (nt.n.pa),#[.slice nt.a nt.n.ms.length nt.c]])) 11 rfl kj (QaH 41 _ gtT (otT+x*99) nt hnt rfl kj kj kj) ?_
  refine Qap (cat [#[.bool false],#[.int .i64 0],ints .u8 (List.replicate 32 0),ints .u8 (List.replicate 32 0),ints .u8 (List.replicate 32 0),#[.slice none 0 0]]) 41 5 rfl kj kj fun g3 W1 l3 e1 r3_1=>?_
  have x1:Ext w W1:=Ext.tr (Rely.Ext.refl w) e1
  have b3:w.heap.size≤g3:=qT (Rely.Ext.refl w).size l3
  refine Qa5 g3 _ (cat [#[.bool nt.n.us],#[.int .i64 nt.n.nm],ints .u8 (nt.n.key),ints .u8 (nt.n.sg),ints .u8 (nt.n.pa),#[.slice nt.a nt.n.ms.length nt.c]]) 41 r3_1 rfl kj (QaE 41 _ _ g3 41 _ _ r3_1 rfl kj kj (isz (n:=99) kj (by rw [Qac,Qac,Qac,Qac,Qac,Qac]; simp only [qS,cat,((Qaf _ _).trans okt.gl),((Qaf _ _).trans okt.kl),((Qaf _ _).trans okt.pl)]; rfl)) (eqsz (n:=99) (by rw [Qac,Qac,Qac,Qac,Qac,Qac]; simp only [qS,cat,((Qaf _ _).trans (qZ (n:=32)))]; rfl) (by rw [Qac,Qac,Qac,Qac,Qac,Qac]; simp only [qS,cat,((Qaf _ _).trans okt.gl),((Qaf _ _).trans okt.kl),((Qaf _ _).trans okt.pl)]; rfl)) (Qbt _ (by intro a ha; simp only [List.mem_cons,List.not_mem_nil,or_false] at ha; rcases ha with rfl | rfl | rfl | rfl | rfl | rfl; exact (Qa2 _ rfl); exact (Qa2 _ rfl); exact (Qa3 _ _); exact (Qa3 _ _); exact (Qa3 _ _); exact (Qa2 _ rfl)))) fun W2 p2 r3_2=>?_
  have x2:Ext w W2:=Puts.ext p2 x1 b3
  refine Qae ?_
  refine hK2 _ _ ?_
  refine wp_seq_k fun K4 hK4=>?_
  refine wp_seq_k fun K5 hK5=>?_
  refine Qab ?_
  refine Qaa (.int .i64 ((x:Nat):Int)) 12 rfl kj kj ?_
  refine Qaa (.int .i64 ((x%2:Nat):Int)) 13 rfl kj (Qai (u:=.int .i64 (Int.tmod (((x:Nat):Int)) (2))) kj (congrArg (Value.int .i64) (Qc5 _ 2))) ?_
  refine Qaa (.bool false) 14 rfl kj (Qai (u:=.bool ((((x%2:Nat):Int)==0))) kj (congrArg Value.bool (beq_eq_false_iff_ne.2 (by omega)))) ?_
  refine Qae ?_
  refine hK5 _ _ ?_
  refine cond_false kj ?_
  refine wp_skip ?_
  refine hK4 _ _ ?_
  refine wp_seq_k fun K6 hK6=>?_
  refine wp_seq_k fun K7 hK7=>?_
  refine Qab ?_
  refine Qaa (.pointer (some ⟨g3,1,none⟩)) 17 rfl kj kj ?_
  refine Qaa (.int .i64 nt.n.nm) 18 rfl kj (Qag 3 _ g3 1 41 _ (.int .i64 nt.n.nm) _ r3_2 rfl kj (Qak [#[.bool nt.n.us]] [#[.int .i64 nt.n.nm]] [ints .u8 (nt.n.key),ints .u8 (nt.n.sg),ints .u8 (nt.n.pa),#[.slice nt.a nt.n.ms.length nt.c]] 1 kj 0 _ rfl) kj) ?_
  refine Qaa (.bool true) 19 rfl kj (Qai (u:=.bool ((nt.n.nm != 0))) kj (congrArg Value.bool (bne_iff_ne.2 (ent▸h1)))) ?_
  refine Qaa (.bool true) 20 rfl kj kj ?_
  refine Qad 21 rfl kj ?_
  refine Qad 22 rfl kj ?_
  refine Qad 23 rfl kj ?_
  refine Qad 24 rfl kj ?_
  refine Qaa (.bool true) 25 rfl kj kj ?_
  refine Qae ?_
  refine hK7 _ _ ?_
  refine cond_true kj ?_
  refine wp_seq_k fun K8 hK8=>?_
  refine Qab ?_
  refine Qaa (.bool false) 4 rfl kj kj ?_
  refine Qae ?_
  refine hK8 _ _ ?_
  refine wp_ret ?_
  repeat (first | with_reducible refine goR1 ?_ | with_reducible refine goR2 ?_)
  exact (show bodyPost _ _ _ .ret _ _ from ret1 (.bool false) rfl (Qam kj) ⟨congrArg (fun z=>Ending.returned (.bool z)) (Qgo h h1).symm,x2⟩)
set_option maxRecDepth 100000 in
theorem QjK (ts : List NdV) (a_t:Option Addr) (c_t B1:Nat) (w:World) (ht:TrAt B1 w a_t ts) (L:Nat) (hL:leaves ((ts.length:Nat):Int)=((L:Nat):Int)) (hlen:ts.length+1=2*L) (hTr:Qax ((L:Nat):Int)=true) (hmt:∀ i,i<ts.length→(ndi ts i).n.ms.length≤1000000) (x:Nat) (hx:x<ts.length) (hT:TabAt w) (h:x%2≠0) (h1:(ndi ts x).n.nm=0) (h2:(ndi ts x).n.sg≠List.replicate 32 0):Calls Tryd.prog 40 #[.slice a_t ts.length c_t,.int .i64 ((x:Nat):Int)] w (Ret w (.bool (Qbj ts ((L:Nat):Int) x))):=by
  have hxn:Qau ((x:Nat):Int) ((L:Nat):Int)=true:=Qbb hTr (by omega)
  refine enter 54 [(0,.slice a_t ts.length c_t),(1,.int .i64 ((x:Nat):Int))] Tryd.func40 rfl rfl kj rfl ?_
  refine wp_seq_k fun K1 hK1=>?_
  refine Qab ?_
  refine Qaa (.bool false) 4 rfl kj kj ?_
  refine Qae ?_
  refine hK1 _ _ ?_
  refine wp_seq_k fun K2 hK2=>?_
  refine Qab ?_
  refine Qaa (.slice a_t ts.length c_t) 8 rfl kj kj ?_
  refine Qaa (.int .i64 ((x:Nat):Int)) 9 rfl kj kj ?_
  obtain ⟨gtT,otT,hat,hnts⟩:=TrAt.ext ht (Rely.Ext.refl w)
  have hnt:=hnts x (by omega)
  obtain ⟨nt,ent⟩:∃ z,z=ndi ts x:=⟨_,rfl⟩
  rw [←ent] at hnt
  have okt:=hnt.ok
  have rdt:=hnt.rd
  refine Qaa (.pointer (some ⟨gtT,otT+x*99,none⟩)) 10 rfl kj (Qao 23 _ _ .i64 x gtT otT ts.length c_t 41 99 a_t (hat (by omega)) rfl kj kj kj kj (by omega)) ?_
  refine Qaa (.agg (cat [#[.bool nt.n.us],#[.int .i64 nt.n.nm],ints .u8 (nt.n.key),ints .u8 (nt.n.sg),ints .u8 (nt.n.pa),#[.slice nt.a nt.n.ms.length nt.c]])) 11 rfl kj (QaH 41 _ gtT (otT+x*99) nt hnt rfl kj kj kj) ?_
  refine Qap (cat [#[.bool false],#[.int .i64 0],ints .u8 (List.replicate 32 0),ints .u8 (List.replicate 32 0),ints .u8 (List.replicate 32 0),#[.slice none 0 0]]) 41 5 rfl kj kj fun g3 W1 l3 e1 r3_1=>?_
  have x1:Ext w W1:=Ext.tr (Rely.Ext.refl w) e1
  have b3:w.heap.size≤g3:=qT (Rely.Ext.refl w).size l3
  refine Qa5 g3 _ (cat [#[.bool nt.n.us],#[.int .i64 nt.n.nm],ints .u8 (nt.n.key),ints .u8 (nt.n.sg),ints .u8 (nt.n.pa),#[.slice nt.a nt.n.ms.length nt.c]]) 41 r3_1 rfl kj (QaE 41 _ _ g3 41 _ _ r3_1 rfl kj kj (isz (n:=99) kj (by rw [Qac,Qac,Qac,Qac,Qac,Qac]; simp only [qS,cat,((Qaf _ _).trans okt.gl),((Qaf _ _).trans okt.kl),((Qaf _ _).trans okt.pl)]; rfl)) (eqsz (n:=99) (by rw [Qac,Qac,Qac,Qac,Qac,Qac]; simp only [qS,cat,((Qaf _ _).trans (qZ (n:=32)))]; rfl) (by rw [Qac,Qac,Qac,Qac,Qac,Qac]; simp only [qS,cat,((Qaf _ _).trans okt.gl),((Qaf _ _).trans okt.kl),((Qaf _ _).trans okt.pl)]; rfl)) (Qbt _ (by intro a ha; simp only [List.mem_cons,List.not_mem_nil,or_false] at ha; rcases ha with rfl | rfl | rfl | rfl | rfl | rfl; exact (Qa2 _ rfl); exact (Qa2 _ rfl); exact (Qa3 _ _); exact (Qa3 _ _); exact (Qa3 _ _); exact (Qa2 _ rfl)))) fun W2 p2 r3_2=>?_
  have x2:Ext w W2:=Puts.ext p2 x1 b3
  refine Qae ?_
  refine hK2 _ _ ?_
  refine wp_seq_k fun K4 hK4=>?_
  refine wp_seq_k fun K5 hK5=>?_
  refine Qab ?_
  refine Qaa (.int .i64 ((x:Nat):Int)) 12 rfl kj kj ?_
  refine Qaa (.int .i64 ((x%2:Nat):Int)) 13 rfl kj (Qai (u:=.int .i64 (Int.tmod (((x:Nat):Int)) (2))) kj (congrArg (Value.int .i64) (Qc5 _ 2))) ?_
  refine Qaa (.bool false) 14 rfl kj (Qai (u:=.bool ((((x%2:Nat):Int)==0))) kj (congrArg Value.bool (beq_eq_false_iff_ne.2 (by omega)))) ?_
  refine Qae ?_
  refine hK5 _ _ ?_
  refine cond_false kj ?_
  refine wp_skip ?_
  refine hK4 _ _ ?_
  refine wp_seq_k fun K6 hK6=>?_
  refine wp_seq_k fun K7 hK7=>?_
  refine Qab ?_
  refine Qaa (.pointer (some ⟨g3,1,none⟩)) 17 rfl kj kj ?_
  refine Qaa (.int .i64 nt.n.nm) 18 rfl kj (Qag 3 _ g3 1 41 _ (.int .i64 nt.n.nm) _ r3_2 rfl kj (Qak [#[.bool nt.n.us]] [#[.int .i64 nt.n.nm]] [ints .u8 (nt.n.key),ints .u8 (nt.n.sg),ints .u8 (nt.n.pa),#[.slice nt.a nt.n.ms.length nt.c]] 1 kj 0 _ rfl) kj) ?_
  refine Qaa (.bool false) 19 rfl kj (Qai (u:=.bool ((nt.n.nm != 0))) kj (congrArg Value.bool (bne_eq_false_iff_eq.2 (ent▸h1)))) ?_
  refine Qaa (.bool false) 20 rfl kj kj ?_
  refine Qaa (.pointer (some ⟨g3,34,none⟩)) 21 rfl kj kj ?_
  refine Qaa (.agg (ints .u8 (nt.n.sg))) 22 rfl kj (Qaq 38 _ g3 34 41 _ _ _ r3_2 rfl kj (Qak [#[.bool nt.n.us],#[.int .i64 nt.n.nm],ints .u8 (nt.n.key)] [ints .u8 (nt.n.sg)] [ints .u8 (nt.n.pa),#[.slice nt.a nt.n.ms.length nt.c]] 34 (by rw [Qac,Qac,Qac]; simp only [qS,cat,((Qaf _ _).trans okt.kl)]; rfl)) kj (isz (n:=32) kj ((Qaf _ _).trans okt.gl))) ?_
  refine Qaa (.agg (ints .u8 (List.replicate 32 0))) 23 rfl kj kj ?_
  refine Qaa (.bool true) 24 rfl kj (QaF 38 _ _ _ _ _ (.bool true) rfl kj kj kj (QaY 38 (e:=5) (k:=.u8) (nt.n.sg) (List.replicate 32 0) (decide_eq_false (ent▸h2)) okt.gl (qZ (n:=32)) kj kj kj _)) ?_
  refine Qaa (.bool true) 25 rfl kj kj ?_
  refine Qae ?_
  refine hK7 _ _ ?_
  refine cond_true kj ?_
  refine wp_seq_k fun K8 hK8=>?_
  refine Qab ?_
  refine Qaa (.bool false) 4 rfl kj kj ?_
  refine Qae ?_
  refine hK8 _ _ ?_
  refine wp_ret ?_
  repeat (first | with_reducible refine goR1 ?_ | with_reducible refine goR2 ?_)
  exact (show bodyPost _ _ _ .ret _ _ from ret1 (.bool false) rfl (Qam kj) ⟨congrArg (fun z=>Ending.returned (.bool z)) (Qgn h h2).symm,x2⟩)
set_option maxRecDepth 100000 in
theorem QjJ (ts : List NdV) (a_t:Option Addr) (c_t B1:Nat) (w:World) (ht:TrAt B1 w a_t ts) (L:Nat) (hL:leaves ((ts.length:Nat):Int)=((L:Nat):Int)) (hlen:ts.length+1=2*L) (hTr:Qax ((L:Nat):Int)=true) (hmt:∀ i,i<ts.length→(ndi ts i).n.ms.length≤1000000) (x:Nat) (hx:x<ts.length) (hT:TabAt w) (h:x%2≠0) (h1:(ndi ts x).n.nm=0) (h2:(ndi ts x).n.sg=List.replicate 32 0):Calls Tryd.prog 40 #[.slice a_t ts.length c_t,.int .i64 ((x:Nat):Int)] w (Ret w (.bool (Qbj ts ((L:Nat):Int) x))):=by
 have hxn:Qau ((x:Nat):Int) ((L:Nat):Int)=true:=Qbb hTr (by omega)
 refine enter 54 [(0,.slice a_t ts.length c_t),(1,.int .i64 ((x:Nat):Int))] Tryd.func40 rfl rfl kj rfl ?_
 refine wp_seq_k fun K1 hK1=>?_
 refine Qab ?_
 refine Qaa (.bool false) 4 rfl kj kj ?_
 refine Qae ?_
 refine hK1 _ _ ?_
 refine wp_seq_k fun K2 hK2=>?_
 refine Qab ?_
 refine Qaa (.slice a_t ts.length c_t) 8 rfl kj kj ?_
 refine Qaa (.int .i64 ((x:Nat):Int)) 9 rfl kj kj ?_
 obtain ⟨gtT,otT,hat,hnts⟩:=TrAt.ext ht (Rely.Ext.refl w)
 have hnt:=hnts x (by omega)
 obtain ⟨nt,ent⟩:∃ z,z=ndi ts x:=⟨_,rfl⟩
 rw [←ent] at hnt
 have okt:=hnt.ok
 have rdt:=hnt.rd
 refine Qaa (.pointer (some ⟨gtT,otT+x*99,none⟩)) 10 rfl kj (Qao 23 _ _ .i64 x gtT otT ts.length c_t 41 99 a_t (hat (by omega)) rfl kj kj kj kj (by omega)) ?_
 refine Qaa (.agg (cat [#[.bool nt.n.us],#[.int .i64 nt.n.nm],ints .u8 (nt.n.key),ints .u8 (nt.n.sg),ints .u8 (nt.n.pa),#[.slice nt.a nt.n.ms.length nt.c]])) 11 rfl kj (QaH 41 _ gtT (otT+x*99) nt hnt rfl kj kj kj) ?_
 refine Qap (cat [#[.bool false],#[.int .i64 0],ints .u8 (List.replicate 32 0),ints .u8 (List.replicate 32 0),ints .u8 (List.replicate 32 0),#[.slice none 0 0]]) 41 5 rfl kj kj fun g3 W1 l3 e1 r3_1=>?_
 have x1:Ext w W1:=Ext.tr (Rely.Ext.refl w) e1
 have b3:w.heap.size≤g3:=qT (Rely.Ext.refl w).size l3
 refine Qa5 g3 _ (cat [#[.bool nt.n.us],#[.int .i64 nt.n.nm],ints .u8 (nt.n.key),ints .u8 (nt.n.sg),ints .u8 (nt.n.pa),#[.slice nt.a nt.n.ms.length nt.c]]) 41 r3_1 rfl kj (QaE 41 _ _ g3 41 _ _ r3_1 rfl kj kj (isz (n:=99) kj (by rw [Qac,Qac,Qac,Qac,Qac,Qac]; simp only [qS,cat,((Qaf _ _).trans okt.gl),((Qaf _ _).trans okt.kl),((Qaf _ _).trans okt.pl)]; rfl)) (eqsz (n:=99) (by rw [Qac,Qac,Qac,Qac,Qac,Qac]; simp only [qS,cat,((Qaf _ _).trans (qZ (n:=32)))]; rfl) (by rw [Qac,Qac,Qac,Qac,Qac,Qac]; simp only [qS,cat,((Qaf _ _).trans okt.gl),((Qaf _ _).trans okt.kl),((Qaf _ _).trans okt.pl)]; rfl)) (Qbt _ (by intro a ha; simp only [List.mem_cons,List.not_mem_nil,or_false] at ha; rcases ha with rfl | rfl | rfl | rfl | rfl | rfl; exact (Qa2 _ rfl); exact (Qa2 _ rfl); exact (Qa3 _ _); exact (Qa3 _ _); exact (Qa3 _ _); exact (Qa2 _ rfl)))) fun W2 p2 r3_2=>?_
 have x2:Ext w W2:=Puts.ext p2 x1 b3
 refine Qae ?_
 refine hK2 _ _ ?_
 refine wp_seq_k fun K4 hK4=>?_
 refine wp_seq_k fun K5 hK5=>?_
 refine Qab ?_
 refine Qaa (.int .i64 ((x:Nat):Int)) 12 rfl kj kj ?_
 refine Qaa (.int .i64 ((x%2:Nat):Int)) 13 rfl kj (Qai (u:=.int .i64 (Int.tmod (((x:Nat):Int)) (2))) kj (congrArg (Value.int .i64) (Qc5 _ 2))) ?_
 refine Qaa (.bool false) 14 rfl kj (Qai (u:=.bool ((((x%2:Nat):Int)==0))) kj (congrArg Value.bool (beq_eq_false_iff_ne.2 (by omega)))) ?_
 refine Qae ?_
 refine hK5 _ _ ?_
 refine cond_false kj ?_
 refine wp_skip ?_
 refine hK4 _ _ ?_
 refine wp_seq_k fun K6 hK6=>?_
 refine wp_seq_k fun K7 hK7=>?_
 refine Qab ?_
 refine Qaa (.pointer (some ⟨g3,1,none⟩)) 17 rfl kj kj ?_
 refine Qaa (.int .i64 nt.n.nm) 18 rfl kj (Qag 3 _ g3 1 41 _ (.int .i64 nt.n.nm) _ r3_2 rfl kj (Qak [#[.bool nt.n.us]] [#[.int .i64 nt.n.nm]] [ints .u8 (nt.n.key),ints .u8 (nt.n.sg),ints .u8 (nt.n.pa),#[.slice nt.a nt.n.ms.length nt.c]] 1 kj 0 _ rfl) kj) ?_
 refine Qaa (.bool false) 19 rfl kj (Qai (u:=.bool ((nt.n.nm != 0))) kj (congrArg Value.bool (bne_eq_false_iff_eq.2 (ent▸h1)))) ?_
 refine Qaa (.bool false) 20 rfl kj kj ?_
 refine Qaa (.pointer (some ⟨g3,34,none⟩)) 21 rfl kj kj ?_
 refine Qaa (.agg (ints .u8 (nt.n.sg))) 22 rfl kj (Qaq 38 _ g3 34 41 _ _ _ r3_2 rfl kj (Qak [#[.bool nt.n.us],#[.int .i64 nt.n.nm],ints .u8 (nt.n.key)] [ints .u8 (nt.n.sg)] [ints .u8 (nt.n.pa),#[.slice nt.a nt.n.ms.length nt.c]] 34 (by rw [Qac,Qac,Qac]; simp only [qS,cat,((Qaf _ _).trans okt.kl)]; rfl)) kj (isz (n:=32) kj ((Qaf _ _).trans okt.gl))) ?_
 refine Qaa (.agg (ints .u8 (List.replicate 32 0))) 23 rfl kj kj ?_
 refine Qaa (.bool false) 24 rfl kj (QaF 38 _ _ _ _ _ (.bool false) rfl kj kj kj (QaY 38 (e:=5) (k:=.u8) (nt.n.sg) (List.replicate 32 0) (decide_eq_true (ent▸h2)) okt.gl (qZ (n:=32)) kj kj kj _)) ?_
 refine Qaa (.bool false) 25 rfl kj kj ?_
 refine Qae ?_
 refine hK7 _ _ ?_
 refine cond_false kj ?_
 refine wp_skip ?_
 refine hK6 _ _ ?_
 refine wp_seq_k fun K8 hK8=>?_
 refine wp_seq_k fun K9 hK9=>?_
 refine Qab ?_
 refine Qaa (.pointer (some ⟨g3,98,none⟩)) 26 rfl kj kj ?_
 refine Qaa (.slice nt.a nt.n.ms.length nt.c) 27 rfl kj (Qag 36 _ g3 98 41 _ (.slice nt.a nt.n.ms.length nt.c) _ r3_2 rfl kj (Qak [#[.bool nt.n.us],#[.int .i64 nt.n.nm],ints .u8 (nt.n.key),ints .u8 (nt.n.sg),ints .u8 (nt.n.pa)] [#[.slice nt.a nt.n.ms.length nt.c]] [] 98 (by rw [Qac,Qac,Qac,Qac,Qac]; simp only [qS,cat,((Qaf _ _).trans okt.gl),((Qaf _ _).trans okt.kl),((Qaf _ _).trans okt.pl)]; rfl) 0 _ rfl) kj) ?_
 refine Qaa (.int .i64 ((nt.n.ms.length:Nat):Int)) 28 rfl kj kj ?_
 refine Qaa (.int .i64 0) 29 rfl kj kj ?_
 refine Qae ?_
 refine hK9 _ _ ?_
 refine wp_block ?_
 have hml:nt.n.ms.length≤1000000:=ent▸hmt x hx
 refine Qaz (fun (s1:Nat)=>[(0,.slice a_t ts.length c_t),(1,.int .i64 ((x:Nat):Int)),(5,.pointer (some ⟨g3,0,none⟩)),(27,.slice nt.a nt.n.ms.length nt.c),(28,.int .i64 ((nt.n.ms.length:Nat):Int)),(29,.int .i64 ((s1:Nat):Int))]) (fun (s1:Nat) W=>(s1≤nt.n.ms.length)∧(∀ j,j<s1→msOk ts ((L:Nat):Int) ((x:Nat):Int) nt.n.ms j=true)∧(Ext W2 W)∧(Ext w W)) (fun (s1:Nat)=>nt.n.ms.length-s1) 0 ⟨rfl,rfl,rfl,rfl,rfl,rfl,trivial⟩ ⟨(Nat.zero_le _),(fun j hj=>absurd hj (Nat.not_lt_zero j)),(Rely.Ext.refl W2),x2⟩ fun s1 X1 V1 hI1=>?_
 obtain ⟨k,hs1⟩:∃ z,z=s1:=⟨_,rfl⟩
 subst hs1
 obtain ⟨hk,hall,kk1,xx1⟩:=hI1
 replace hk:k≤nt.n.ms.length:=hk
 replace hall:∀ j,j<k→msOk ts ((L:Nat):Int) ((x:Nat):Int) nt.n.ms j=true:=hall
 replace kk1:Ext W2 V1:=kk1
 replace xx1:Ext w V1:=xx1
 have e3:=kk1
 refine wp_seq_k fun K10 hK10=>?_
 refine Qab ?_
 refine Qaa (.bool (decide (((k:Nat):Int)<((nt.n.ms.length:Nat):Int)))) 30 rfl kj kj ?_
 refine Qae ?_
 refine hK10 _ _ ?_
 refine wp_seq_k fun K11 hK11=>?_
 refine Qat (t:=decide (((k:Nat):Int)<((nt.n.ms.length:Nat):Int))) kj (fun c12=>?_) (fun c12=>?_)
 ·skip
  have hlt30:k<nt.n.ms.length:=by have:=of_decide_eq_true c12; omega
  have y0_1:Ext w W1:=(Rely.Ext.trans (Rely.Ext.refl w) e1)
  have y0_2:Ext w W2:=(Puts.ext p2 y0_1 l3)
  have y0_3:Ext w V1:=(Rely.Ext.trans y0_2 e3)
  have hnx_13:(nt.n.ms).length=nt.n.ms.length:=rfl
  obtain ⟨gcx_13,ocx_13,hax_13,hlx_13,hcx_13⟩:=QaZ (RdK.here (RdK.ext rdt y0_3)) (by rw [hnx_13]; omega)
  refine wp_skip ?_
  refine hK11 _ _ ?_
  refine wp_seq_k fun K14 hK14=>?_
  refine wp_block ?_
  refine wp_seq_k fun K15 hK15=>?_
  refine Qab ?_
  refine Qaa (.int .i64 ((k:Nat):Int)) 31 rfl kj kj ?_
  refine Qaa (.pointer (some ⟨gcx_13,ocx_13+k,none⟩)) 32 rfl kj (QaA 36 _ _ .i64 k gcx_13 ocx_13 nt.n.ms.length nt.c 3 nt.a _ hax_13 rfl rfl kj kj kj kj (Nat.lt_of_lt_of_eq (show k<nt.n.ms.length by omega) hnx_13.symm)) ?_
  refine Qaa (.int .i64 (nth (nt.n.ms) (k))) 33 rfl kj (Qaj 3 _ _ (.int .i64 (nth (nt.n.ms) (k))) (hcx_13 k (Nat.lt_of_lt_of_eq (show k<nt.n.ms.length by omega) hnx_13.symm)) rfl kj kj) ?_
  refine Qaa (.int .i64 ((k:Nat):Int)) 6 rfl kj kj ?_
  refine Qaa (.int .i64 (nth (nt.n.ms) (k))) 7 rfl kj kj ?_
  refine Qae ?_
  refine hK15 _ _ ?_
  refine wp_seq_k fun K16 hK16=>?_
  rcases (show k=0∨(0<k∧nth nt.n.ms k≤nth nt.n.ms (k-1))∨(0<k∧nth nt.n.ms (k-1)<nth nt.n.ms k) by omega) with hq | hq | hq
  ·skip
   have hb0:msOk ts ((L:Nat):Int) ((x:Nat):Int) nt.n.ms k=Qbd ts ((L:Nat):Int) ((x:Nat):Int) (nth nt.n.ms k):=by unfold msOk; rw [hq]; rfl
   refine Qab ?_
   refine Qaa (.int .i64 ((k:Nat):Int)) 34 rfl kj kj ?_
   refine Qaa (.bool false) 35 rfl kj (Qai (u:=.bool (decide (((k:Nat):Int)>0))) kj (congrArg Value.bool (decide_eq_false (by omega)))) ?_
   refine Qaa (.bool false) 36 rfl kj kj ?_
   refine Qad 37 rfl kj ?_
   refine Qad 38 rfl kj ?_
   refine Qad 39 rfl kj ?_
   refine Qad 40 rfl kj ?_
   refine Qad 41 rfl kj ?_
   refine Qad 42 rfl kj ?_
   refine Qad 43 rfl kj ?_
   refine Qad 44 rfl kj ?_
   refine Qaa (.bool false) 45 rfl kj kj ?_
   refine Qaa (.bool false) 46 rfl kj kj ?_
   refine Qaa (.slice a_t ts.length c_t) 47 rfl kj kj ?_
   refine Qaa (.int .i64 ((x:Nat):Int)) 48 rfl kj kj ?_
   refine Qaa (.int .i64 (nth (nt.n.ms) (k))) 49 rfl kj kj ?_
   refine Qal (.bool (Qbd ts ((L:Nat):Int) ((x:Nat):Int) (nth nt.n.ms k))) 64 #[.slice a_t ts.length c_t,.int .i64 ((x:Nat):Int),.int .i64 (nth (nt.n.ms) (k))] 50 rfl kj kj (Qla ts a_t c_t _ _ (TrAt.ext ht xx1) L hL hlen hTr hmt _ hxn (TabAt.ext hT xx1) _) fun W4 e4=>?_
   have x4:Ext w W4:=Ext.tr xx1 e4
   refine Qaa (.bool (!(Qbd ts ((L:Nat):Int) ((x:Nat):Int) (nth nt.n.ms k)))) 51 rfl kj kj ?_
   refine Qaa (.bool (!(Qbd ts ((L:Nat):Int) ((x:Nat):Int) (nth nt.n.ms k)))) 52 rfl kj kj ?_
   refine Qae ?_
   refine hK16 _ _ ?_
   refine Qat (t:=!(Qbd ts ((L:Nat):Int) ((x:Nat):Int) (nth nt.n.ms k))) kj (fun c17=>?_) (fun c17=>?_)
   ·skip
    have hb:msOk ts ((L:Nat):Int) ((x:Nat):Int) nt.n.ms k=false:=by rw [hb0]; simpa using c17
    refine wp_seq_k fun K18 hK18=>?_
    refine Qab ?_
    refine Qaa (.bool false) 4 rfl kj kj ?_
    refine Qae ?_
    refine hK18 _ _ ?_
    refine wp_ret ?_
    repeat (first | with_reducible refine goR1 ?_ | with_reducible refine goR2 ?_)
    exact (show bodyPost _ _ _ .ret _ _ from ret1 (.bool false) rfl (Qam kj) ⟨congrArg (fun z=>Ending.returned (.bool z)) ((Qbi h h1 h2).trans (QcP (k:=k) (by rw [←ent]; exact hlt30) (by rw [←ent]; exact hb))).symm,x4⟩)
   ·skip
    have hb:msOk ts ((L:Nat):Int) ((x:Nat):Int) nt.n.ms k=true:=by rw [hb0]; simpa using c17
    refine wp_skip ?_
    refine hK14 _ _ ?_
    refine Qab ?_
    refine Qaa (.int .i64 ((k+1:Nat):Int)) 53 rfl kj (Qai (u:=.int .i64 (IntKind.i64.wrap (((k:Nat):Int)+1))) kj (congrArg (Value.int .i64) (i64n _ _ (by omega) (by omega)))) ?_
    refine Qaa (.int .i64 ((k+1:Nat):Int)) 29 rfl kj kj ?_
    refine Qae ?_
    have y2_4:Ext W2 W4:=(Rely.Ext.trans e3 e4)
    repeat (first | with_reducible refine goX1 ?_ | with_reducible refine goX2 ?_ | with_reducible refine goX3 ?_)
    exact Qas (k+1) ⟨rfl,rfl,rfl,rfl,rfl,rfl,trivial⟩ ⟨(by omega),(fun j hj=>by by_cases e:j=k; (rw [e]; exact hb); exact hall j (by omega)),y2_4,x4⟩ (by show nt.n.ms.length-(k+1)<nt.n.ms.length-k; omega)
  ·skip
   have hb:msOk ts ((L:Nat):Int) ((x:Nat):Int) nt.n.ms k=false:=by unfold msOk; rw [beq_eq_false_iff_ne.2 (by omega),decide_eq_false (by omega)]; rfl
   refine Qab ?_
   refine Qaa (.int .i64 ((k:Nat):Int)) 34 rfl kj kj ?_
   refine Qaa (.bool true) 35 rfl kj (Qai (u:=.bool (decide (((k:Nat):Int)>0))) kj (congrArg Value.bool (decide_eq_true (by omega)))) ?_
   refine Qaa (.bool true) 36 rfl kj kj ?_
   refine Qaa (.pointer (some ⟨g3,98,none⟩)) 37 rfl kj kj ?_
   have r3_3:=(Qah r3_2 e3)
   refine Qaa (.slice nt.a nt.n.ms.length nt.c) 38 rfl kj (Qag 36 _ g3 98 41 _ (.slice nt.a nt.n.ms.length nt.c) _ r3_3 rfl kj (Qak [#[.bool nt.n.us],#[.int .i64 nt.n.nm],ints .u8 (nt.n.key),ints .u8 (nt.n.sg),ints .u8 (nt.n.pa)] [#[.slice nt.a nt.n.ms.length nt.c]] [] 98 (by rw [Qac,Qac,Qac,Qac,Qac]; simp only [qS,cat,((Qaf _ _).trans okt.gl),((Qaf _ _).trans okt.kl),((Qaf _ _).trans okt.pl)]; rfl) 0 _ rfl) kj) ?_
   refine Qaa (.int .i64 ((k:Nat):Int)) 39 rfl kj kj ?_
   refine Qaa (.int .i64 ((k-1:Nat):Int)) 40 rfl kj (Qai (u:=.int .i64 (IntKind.i64.wrap (((k:Nat):Int)-1))) kj (congrArg (Value.int .i64) (i64n _ _ (by omega) (by omega)))) ?_
   refine Qaa (.pointer (some ⟨gcx_13,ocx_13+(k-1),none⟩)) 41 rfl kj (QaA 36 _ _ .i64 (k-1) gcx_13 ocx_13 nt.n.ms.length nt.c 3 nt.a _ hax_13 rfl rfl kj kj kj kj (Nat.lt_of_lt_of_eq (show k-1<nt.n.ms.length by omega) hnx_13.symm)) ?_
   refine Qaa (.int .i64 (nth (nt.n.ms) ((k-1)))) 42 rfl kj (Qaj 3 _ _ (.int .i64 (nth (nt.n.ms) ((k-1)))) (hcx_13 (k-1) (Nat.lt_of_lt_of_eq (show k-1<nt.n.ms.length by omega) hnx_13.symm)) rfl kj kj) ?_
   refine Qaa (.int .i64 (nth (nt.n.ms) (k))) 43 rfl kj kj ?_
   refine Qaa (.bool true) 44 rfl kj (Qai (u:=.bool (decide ((nth (nt.n.ms) ((k-1)))≥(nth (nt.n.ms) (k))))) kj (congrArg Value.bool (decide_eq_true (by omega)))) ?_
   refine Qaa (.bool true) 45 rfl kj kj ?_
   refine Qaa (.bool true) 46 rfl kj kj ?_
   refine Qad 47 rfl kj ?_
   refine Qad 48 rfl kj ?_
   refine Qad 49 rfl kj ?_
   refine Qad 50 rfl kj ?_
   refine Qad 51 rfl kj ?_
   refine Qaa (.bool true) 52 rfl kj kj ?_
   refine Qae ?_
   refine hK16 _ _ ?_
   refine cond_true kj ?_
   refine wp_seq_k fun K19 hK19=>?_
   refine Qab ?_
   refine Qaa (.bool false) 4 rfl kj kj ?_
   refine Qae ?_
   refine hK19 _ _ ?_
   refine wp_ret ?_
   repeat (first | with_reducible refine goR1 ?_ | with_reducible refine goR2 ?_)
   exact (show bodyPost _ _ _ .ret _ _ from ret1 (.bool false) rfl (Qam kj) ⟨congrArg (fun z=>Ending.returned (.bool z)) ((Qbi h h1 h2).trans (QcP (k:=k) (by rw [←ent]; exact hlt30) (by rw [←ent]; exact hb))).symm,xx1⟩)
  ·skip
   have hb0:msOk ts ((L:Nat):Int) ((x:Nat):Int) nt.n.ms k=Qbd ts ((L:Nat):Int) ((x:Nat):Int) (nth nt.n.ms k):=by unfold msOk; rw [decide_eq_true hq.2]; simp
   refine Qab ?_
   refine Qaa (.int .i64 ((k:Nat):Int)) 34 rfl kj kj ?_
   refine Qaa (.bool true) 35 rfl kj (Qai (u:=.bool (decide (((k:Nat):Int)>0))) kj (congrArg Value.bool (decide_eq_true (by omega)))) ?_
   refine Qaa (.bool true) 36 rfl kj kj ?_
   refine Qaa (.pointer (some ⟨g3,98,none⟩)) 37 rfl kj kj ?_
   have r3_3:=(Qah r3_2 e3)
   refine Qaa (.slice nt.a nt.n.ms.length nt.c) 38 rfl kj (Qag 36 _ g3 98 41 _ (.slice nt.a nt.n.ms.length nt.c) _ r3_3 rfl kj (Qak [#[.bool nt.n.us],#[.int .i64 nt.n.nm],ints .u8 (nt.n.key),ints .u8 (nt.n.sg),ints .u8 (nt.n.pa)] [#[.slice nt.a nt.n.ms.length nt.c]] [] 98 (by rw [Qac,Qac,Qac,Qac,Qac]; simp only [qS,cat,((Qaf _ _).trans okt.gl),((Qaf _ _).trans okt.kl),((Qaf _ _).trans okt.pl)]; rfl) 0 _ rfl) kj) ?_
   refine Qaa (.int .i64 ((k:Nat):Int)) 39 rfl kj kj ?_
   refine Qaa (.int .i64 ((k-1:Nat):Int)) 40 rfl kj (Qai (u:=.int .i64 (IntKind.i64.wrap (((k:Nat):Int)-1))) kj (congrArg (Value.int .i64) (i64n _ _ (by omega) (by omega)))) ?_
   refine Qaa (.pointer (some ⟨gcx_13,ocx_13+(k-1),none⟩)) 41 rfl kj (QaA 36 _ _ .i64 (k-1) gcx_13 ocx_13 nt.n.ms.length nt.c 3 nt.a _ hax_13 rfl rfl kj kj kj kj (Nat.lt_of_lt_of_eq (show k-1<nt.n.ms.length by omega) hnx_13.symm)) ?_
   refine Qaa (.int .i64 (nth (nt.n.ms) ((k-1)))) 42 rfl kj (Qaj 3 _ _ (.int .i64 (nth (nt.n.ms) ((k-1)))) (hcx_13 (k-1) (Nat.lt_of_lt_of_eq (show k-1<nt.n.ms.length by omega) hnx_13.symm)) rfl kj kj) ?_
   refine Qaa (.int .i64 (nth (nt.n.ms) (k))) 43 rfl kj kj ?_
   refine Qaa (.bool false) 44 rfl kj (Qai (u:=.bool (decide ((nth (nt.n.ms) ((k-1)))≥(nth (nt.n.ms) (k))))) kj (congrArg Value.bool (decide_eq_false (by omega)))) ?_
   refine Qaa (.bool false) 45 rfl kj kj ?_
   refine Qaa (.bool false) 46 rfl kj kj ?_
   refine Qaa (.slice a_t ts.length c_t) 47 rfl kj kj ?_
   refine Qaa (.int .i64 ((x:Nat):Int)) 48 rfl kj kj ?_
   refine Qaa (.int .i64 (nth (nt.n.ms) (k))) 49 rfl kj kj ?_
   refine Qal (.bool (Qbd ts ((L:Nat):Int) ((x:Nat):Int) (nth nt.n.ms k))) 64 #[.slice a_t ts.length c_t,.int .i64 ((x:Nat):Int),.int .i64 (nth (nt.n.ms) (k))] 50 rfl kj kj (Qla ts a_t c_t _ _ (TrAt.ext ht xx1) L hL hlen hTr hmt _ hxn (TabAt.ext hT xx1) _) fun W4 e4=>?_
   have x4:Ext w W4:=Ext.tr xx1 e4
   refine Qaa (.bool (!(Qbd ts ((L:Nat):Int) ((x:Nat):Int) (nth nt.n.ms k)))) 51 rfl kj kj ?_
   refine Qaa (.bool (!(Qbd ts ((L:Nat):Int) ((x:Nat):Int) (nth nt.n.ms k)))) 52 rfl kj kj ?_
   refine Qae ?_
   refine hK16 _ _ ?_
   refine Qat (t:=!(Qbd ts ((L:Nat):Int) ((x:Nat):Int) (nth nt.n.ms k))) kj (fun c20=>?_) (fun c20=>?_)
   ·skip
    have hb:msOk ts ((L:Nat):Int) ((x:Nat):Int) nt.n.ms k=false:=by rw [hb0]; simpa using c20
    refine wp_seq_k fun K21 hK21=>?_
    refine Qab ?_
    refine Qaa (.bool false) 4 rfl kj kj ?_
    refine Qae ?_
    refine hK21 _ _ ?_
    refine wp_ret ?_
    repeat (first | with_reducible refine goR1 ?_ | with_reducible refine goR2 ?_)
    exact (show bodyPost _ _ _ .ret _ _ from ret1 (.bool false) rfl (Qam kj) ⟨congrArg (fun z=>Ending.returned (.bool z)) ((Qbi h h1 h2).trans (QcP (k:=k) (by rw [←ent]; exact hlt30) (by rw [←ent]; exact hb))).symm,x4⟩)
   ·skip
    have hb:msOk ts ((L:Nat):Int) ((x:Nat):Int) nt.n.ms k=true:=by rw [hb0]; simpa using c20
    refine wp_skip ?_
    refine hK14 _ _ ?_
    refine Qab ?_
    refine Qaa (.int .i64 ((k+1:Nat):Int)) 53 rfl kj (Qai (u:=.int .i64 (IntKind.i64.wrap (((k:Nat):Int)+1))) kj (congrArg (Value.int .i64) (i64n _ _ (by omega) (by omega)))) ?_
    refine Qaa (.int .i64 ((k+1:Nat):Int)) 29 rfl kj kj ?_
    refine Qae ?_
    have y2_4:Ext W2 W4:=(Rely.Ext.trans e3 e4)
    repeat (first | with_reducible refine goX1 ?_ | with_reducible refine goX2 ?_ | with_reducible refine goX3 ?_)
    exact Qas (k+1) ⟨rfl,rfl,rfl,rfl,rfl,rfl,trivial⟩ ⟨(by omega),(fun j hj=>by by_cases e:j=k; (rw [e]; exact hb); exact hall j (by omega)),y2_4,x4⟩ (by show nt.n.ms.length-(k+1)<nt.n.ms.length-k; omega)
 ·skip
  have heq30:k=nt.n.ms.length:=by have:=of_decide_eq_false c12; omega
  refine wp_exit ?_
  refine hK8 _ _ ?_
  refine wp_seq_k fun K22 hK22=>?_
  refine Qab ?_
  refine Qaa (.bool true) 4 rfl kj kj ?_
  refine Qae ?_
  refine hK22 _ _ ?_
  refine wp_ret ?_
  repeat (first | with_reducible refine goR1 ?_ | with_reducible refine goR2 ?_)
  exact (show bodyPost _ _ _ .ret _ _ from ret1 (.bool true) rfl (Qam kj) ⟨congrArg (fun z=>Ending.returned (.bool z)) ((Qbi h h1 h2).trans (Qf7 (by rw [←ent,←heq30]; exact hall))).symm,xx1⟩)
theorem QlN (ts : List NdV) (a_t:Option Addr) (c_t B1:Nat) (w:World) (ht:TrAt B1 w a_t ts) (L:Nat) (hL:leaves ((ts.length:Nat):Int)=((L:Nat):Int)) (hlen:ts.length+1=2*L) (hTr:Qax ((L:Nat):Int)=true) (hmt:∀ i,i<ts.length→(ndi ts i).n.ms.length≤1000000) (x:Nat) (hx:x<ts.length) (hT:TabAt w):Calls Tryd.prog 40 #[.slice a_t ts.length c_t,.int .i64 ((x:Nat):Int)] w (Ret w (.bool (Qbj ts ((L:Nat):Int) x))):=by
  by_cases h:x%2=0
  · exact QjL ts a_t c_t B1 w ht L hL hlen hTr hmt x hx hT h
  by_cases h1:(ndi ts x).n.nm=0
  · by_cases h2:(ndi ts x).n.sg=List.replicate 32 0
    · exact QjJ ts a_t c_t B1 w ht L hL hlen hTr hmt x hx hT h h1 h2
    · exact QjK ts a_t c_t B1 w ht L hL hlen hTr hmt x hx hT h h1 h2
  · exact QjI ts a_t c_t B1 w ht L hL hlen hTr hmt x hx hT h h1
end Go.Proofs.YtcmaolmofgmkhaaDoor.Te
end
section
namespace Go.Proofs.YtcmaolmofgmkhaaDoor.Te
open Go Go.RowKit
open Rely Auto Own Seat Sha
def zn : NdV:=⟨⟨false,0,List.replicate 32 0,List.replicate 32 0,List.replicate 32 0,[]⟩,none,0⟩
theorem zb : Qb7 (List.replicate 32 0):=fun x hx=>by have:=List.eq_of_mem_replicate hx; omega
theorem Qdj : NdOk zn.n:=⟨rfl,rfl,rfl,zb,zb,zb⟩
theorem QcW (B : Nat) (W:World):RdK .i64 B [] (.slice none 0 0) W:=⟨none,0,rfl,qR _,by decide,fun _=>rfl,.inl rfl⟩
def QaR (ts : List NdV) (n:Int) (x:Nat):Bool:=if (ndi ts x).n.us=true then Qbj ts n x else Qc0 (ndi ts x).n zn.n
def lvs (ts : List NdV):Nat:=(leaves ((ts.length:Nat):Int)).toNat
def chkT (ts : List NdV):Bool:=decide (lvs ts≠0)&&Qbs ts&&anyU ts (lvs ts/2)&&(List.range ts.length).all (QaR ts ((lvs ts:Nat):Int))
theorem Qbx {ts : List NdV} {L:Nat} (hL:leaves ((ts.length:Nat):Int)=((L:Nat):Int)):lvs ts=L:=by unfold lvs; rw [hL]; rfl
theorem chk0 {ts : List NdV} {L:Nat} (e:lvs ts=L) (h:L=0):chkT ts=false:=by unfold chkT; rw [e,h]; rfl
theorem chk1 {ts : List NdV} (h:Qbs ts=false):chkT ts=false:=by unfold chkT; rw [h]; simp
theorem chk2 {ts : List NdV} {L:Nat} (e:lvs ts=L) (h:anyU ts (L/2)=false):chkT ts=false:=by unfold chkT; rw [e,h]; simp
theorem chk3 {ts : List NdV} {L:Nat} (e:lvs ts=L) (h0:L≠0) (h1:Qbs ts=true) (h2:anyU ts (L/2)=true):chkT ts=(List.range ts.length).all (QaR ts ((L:Nat):Int)):=by unfold chkT; rw [e,h1,h2,decide_eq_true h0]; rfl
theorem Qlg (b u:Bool) (nd:NdV) (hok:NdOk nd.n) (B1:Nat) (w:World) (hm1:nd.n.ms.length≤1000000) (hr1:RdK .i64 B1 nd.n.ms (.slice nd.a nd.n.ms.length nd.c) w) (hu:nd.n.us=u) (h:Qc0 nd.n zn.n=b):Calls Tryd.prog 39 #[.agg (cat [#[.bool u],#[.int .i64 nd.n.nm],ints .u8 (nd.n.key),ints .u8 (nd.n.sg),ints .u8 (nd.n.pa),#[.slice nd.a nd.n.ms.length nd.c]]),.agg (cat [#[.bool false],#[.int .i64 0],ints .u8 (List.replicate 32 0),ints .u8 (List.replicate 32 0),ints .u8 (List.replicate 32 0),#[.slice none 0 0]])] w (Ret w (.bool b)):=by
  subst hu
  exact h▸Qli nd zn hok Qdj B1 0 w hm1 (Nat.zero_le _) hr1 (QcW 0 w)
set_option maxRecDepth 100000 in
theorem QkQ (ts : List NdV) (a_t:Option Addr) (c_t B1:Nat) (w:World) (ht:TrAt B1 w a_t ts) (htl:ts.length≤100000) (hmt:∀ i,i<ts.length→(ndi ts i).n.ms.length≤1000000) (hT:TabAt w) (L:Nat) (hL:leaves ((ts.length:Nat):Int)=((L:Nat):Int)) (hL2:2*L≤ts.length+1) (hL4:L≠0→ts.length+1=2*L∧Qax ((L:Nat):Int)=true) (h0:L=0):Calls Tryd.prog 11 #[.slice a_t ts.length c_t] w (Ret w (if chkT ts=true then .nilIface else .iface 30 (.int .i64 3))):=by
  refine enter 48 [(0,.slice a_t ts.length c_t)] Tryd.func11 rfl rfl kj rfl ?_
  refine wp_seq_k fun K1 hK1=>?_
  refine Qab ?_
  refine Qaa (.nilIface) 2 rfl kj kj ?_
  refine Qae ?_
  refine hK1 _ _ ?_
  refine wp_seq_k fun K2 hK2=>?_
  refine wp_seq_k fun K3 hK3=>?_
  refine Qab ?_
  refine Qaa (.slice a_t ts.length c_t) 5 rfl kj kj ?_
  refine Qaa (.int .i64 ((ts.length:Nat):Int)) 6 rfl kj kj ?_
  refine Qal (.int .i64 ((L:Nat):Int)) 36 #[.int .i64 ((ts.length:Nat):Int)] 7 rfl kj kj (Qbr ((ts.length:Nat):Int) ⟨by omega,by omega⟩ _ hL _) fun W1 e1=>?_
  have x1:Ext w W1:=Ext.tr (Rely.Ext.refl w) e1
  refine Qaa (.bool true) 8 rfl kj (Qai (u:=.bool ((((L:Nat):Int)==0))) kj (congrArg Value.bool (beq_iff_eq.2 (by omega)))) ?_
  refine Qaa (.bool true) 9 rfl kj kj ?_
  refine Qad 10 rfl kj ?_
  refine Qad 11 rfl kj ?_
  refine Qad 12 rfl kj ?_
  refine Qaa (.bool true) 13 rfl kj kj ?_
  refine Qaa (.bool true) 14 rfl kj kj ?_
  refine Qad 15 rfl kj ?_
  refine Qad 16 rfl kj ?_
  refine Qad 17 rfl kj ?_
  refine Qaa (.bool true) 18 rfl kj kj ?_
  refine Qae ?_
  refine hK3 _ _ ?_
  refine cond_true kj ?_
  refine wp_seq_k fun K4 hK4=>?_
  refine Qab ?_
  refine Qaa (.iface 30 (.int .i64 3)) 19 rfl kj kj ?_
  refine Qaa (.iface 30 (.int .i64 3)) 2 rfl kj kj ?_
  refine Qae ?_
  refine hK4 _ _ ?_
  refine wp_ret ?_
  repeat (first | with_reducible refine goR1 ?_ | with_reducible refine goR2 ?_)
  exact (show bodyPost _ _ _ .ret _ _ from ret1 (.iface 30 (.int .i64 3)) rfl (Qam kj) ⟨by rw [chk0 (Qbx hL) h0]; rfl,x1⟩)
set_option maxRecDepth 100000 in
theorem QkP (ts : List NdV) (a_t:Option Addr) (c_t B1:Nat) (w:World) (ht:TrAt B1 w a_t ts) (htl:ts.length≤100000) (hmt:∀ i,i<ts.length→(ndi ts i).n.ms.length≤1000000) (hT:TabAt w) (L:Nat) (hL:leaves ((ts.length:Nat):Int)=((L:Nat):Int)) (hL2:2*L≤ts.length+1) (hL4:L≠0→ts.length+1=2*L∧Qax ((L:Nat):Int)=true) (h0:L≠0) (h1:Qbs ts=false):Calls Tryd.prog 11 #[.slice a_t ts.length c_t] w (Ret w (if chkT ts=true then .nilIface else .iface 30 (.int .i64 3))):=by
  obtain ⟨hlen,hTr⟩:=hL4 h0
  refine enter 48 [(0,.slice a_t ts.length c_t)] Tryd.func11 rfl rfl kj rfl ?_
  refine wp_seq_k fun K1 hK1=>?_
  refine Qab ?_
  refine Qaa (.nilIface) 2 rfl kj kj ?_
  refine Qae ?_
  refine hK1 _ _ ?_
  refine wp_seq_k fun K2 hK2=>?_
  refine wp_seq_k fun K3 hK3=>?_
  refine Qab ?_
  refine Qaa (.slice a_t ts.length c_t) 5 rfl kj kj ?_
  refine Qaa (.int .i64 ((ts.length:Nat):Int)) 6 rfl kj kj ?_
  refine Qal (.int .i64 ((L:Nat):Int)) 36 #[.int .i64 ((ts.length:Nat):Int)] 7 rfl kj kj (Qbr ((ts.length:Nat):Int) ⟨by omega,by omega⟩ _ hL _) fun W1 e1=>?_
  have x1:Ext w W1:=Ext.tr (Rely.Ext.refl w) e1
  refine Qaa (.bool false) 8 rfl kj (Qai (u:=.bool ((((L:Nat):Int)==0))) kj (congrArg Value.bool (beq_eq_false_iff_ne.2 (by omega)))) ?_
  refine Qaa (.bool false) 9 rfl kj kj ?_
  refine Qaa (.slice a_t ts.length c_t) 10 rfl kj kj ?_
  refine Qal (.bool false) 37 #[.slice a_t ts.length c_t] 11 rfl kj kj ((h1▸QhR ts a_t c_t _ _ (TrAt.here (TrAt.ext ht x1)) (qR _) htl)) fun W2 e2=>?_
  have x2:Ext w W2:=Ext.tr x1 e2
  refine Qaa (.bool true) 12 rfl kj kj ?_
  refine Qaa (.bool true) 13 rfl kj kj ?_
  refine Qaa (.bool true) 14 rfl kj kj ?_
  refine Qad 15 rfl kj ?_
  refine Qad 16 rfl kj ?_
  refine Qad 17 rfl kj ?_
  refine Qaa (.bool true) 18 rfl kj kj ?_
  refine Qae ?_
  refine hK3 _ _ ?_
  refine cond_true kj ?_
  refine wp_seq_k fun K4 hK4=>?_
  refine Qab ?_
  refine Qaa (.iface 30 (.int .i64 3)) 19 rfl kj kj ?_
  refine Qaa (.iface 30 (.int .i64 3)) 2 rfl kj kj ?_
  refine Qae ?_
  refine hK4 _ _ ?_
  refine wp_ret ?_
  repeat (first | with_reducible refine goR1 ?_ | with_reducible refine goR2 ?_)
  exact (show bodyPost _ _ _ .ret _ _ from ret1 (.iface 30 (.int .i64 3)) rfl (Qam kj) ⟨by rw [chk1 h1]; rfl,x2⟩)
set_option maxRecDepth 100000 in
theorem QkO (ts : List NdV) (a_t:Option Addr) (c_t B1:Nat) (w:World) (ht:TrAt B1 w a_t ts) (htl:ts.length≤100000) (hmt:∀ i,i<ts.length→(ndi ts i).n.ms.length≤1000000) (hT:TabAt w) (L:Nat) (hL:leaves ((ts.length:Nat):Int)=((L:Nat):Int)) (hL2:2*L≤ts.length+1) (hL4:L≠0→ts.length+1=2*L∧Qax ((L:Nat):Int)=true) (h0:L≠0) (h1:Qbs ts=true) (h2:anyU ts (L/2)=false):Calls Tryd.prog 11 #[.slice a_t ts.length c_t] w (Ret w (if chkT ts=true then .nilIface else .iface 30 (.int .i64 3))):=by
  obtain ⟨hlen,hTr⟩:=hL4 h0
  refine enter 48 [(0,.slice a_t ts.length c_t)] Tryd.func11 rfl rfl kj rfl ?_
  refine wp_seq_k fun K1 hK1=>?_
  refine Qab ?_
  refine Qaa (.nilIface) 2 rfl kj kj ?_
  refine Qae ?_
  refine hK1 _ _ ?_
  refine wp_seq_k fun K2 hK2=>?_
  refine wp_seq_k fun K3 hK3=>?_
  refine Qab ?_
  refine Qaa (.slice a_t ts.length c_t) 5 rfl kj kj ?_
  refine Qaa (.int .i64 ((ts.length:Nat):Int)) 6 rfl kj kj ?_
  refine Qal (.int .i64 ((L:Nat):Int)) 36 #[.int .i64 ((ts.length:Nat):Int)] 7 rfl kj kj (Qbr ((ts.length:Nat):Int) ⟨by omega,by omega⟩ _ hL _) fun W1 e1=>?_
  have x1:Ext w W1:=Ext.tr (Rely.Ext.refl w) e1
  refine Qaa (.bool false) 8 rfl kj (Qai (u:=.bool ((((L:Nat):Int)==0))) kj (congrArg Value.bool (beq_eq_false_iff_ne.2 (by omega)))) ?_
  refine Qaa (.bool false) 9 rfl kj kj ?_
  refine Qaa (.slice a_t ts.length c_t) 10 rfl kj kj ?_
  refine Qal (.bool true) 37 #[.slice a_t ts.length c_t] 11 rfl kj kj ((h1▸QhR ts a_t c_t _ _ (TrAt.here (TrAt.ext ht x1)) (qR _) htl)) fun W2 e2=>?_
  have x2:Ext w W2:=Ext.tr x1 e2
  refine Qaa (.bool false) 12 rfl kj kj ?_
  refine Qaa (.bool false) 13 rfl kj kj ?_
  refine Qaa (.bool false) 14 rfl kj kj ?_
  refine Qaa (.slice a_t ts.length c_t) 15 rfl kj kj ?_
  refine Qal (.bool false) 38 #[.slice a_t ts.length c_t] 16 rfl kj kj ((h2▸Qh7 ts a_t c_t _ _ (TrAt.ext ht x2) htl L hL (by omega))) fun W3 e3=>?_
  have x3:Ext w W3:=Ext.tr x2 e3
  refine Qaa (.bool true) 17 rfl kj kj ?_
  refine Qaa (.bool true) 18 rfl kj kj ?_
  refine Qae ?_
  refine hK3 _ _ ?_
  refine cond_true kj ?_
  refine wp_seq_k fun K4 hK4=>?_
  refine Qab ?_
  refine Qaa (.iface 30 (.int .i64 3)) 19 rfl kj kj ?_
  refine Qaa (.iface 30 (.int .i64 3)) 2 rfl kj kj ?_
  refine Qae ?_
  refine hK4 _ _ ?_
  refine wp_ret ?_
  repeat (first | with_reducible refine goR1 ?_ | with_reducible refine goR2 ?_)
  exact (show bodyPost _ _ _ .ret _ _ from ret1 (.iface 30 (.int .i64 3)) rfl (Qam kj) ⟨by rw [chk2 (Qbx hL) h2]; rfl,x3⟩)
set_option maxRecDepth 100000 in
theorem QkN (ts : List NdV) (a_t:Option Addr) (c_t B1:Nat) (w:World) (ht:TrAt B1 w a_t ts) (htl:ts.length≤100000) (hmt:∀ i,i<ts.length→(ndi ts i).n.ms.length≤1000000) (hT:TabAt w) (L:Nat) (hL:leaves ((ts.length:Nat):Int)=((L:Nat):Int)) (hL2:2*L≤ts.length+1) (hL4:L≠0→ts.length+1=2*L∧Qax ((L:Nat):Int)=true) (h0:L≠0) (h1:Qbs ts=true) (h2:anyU ts (L/2)=true):Calls Tryd.prog 11 #[.slice a_t ts.length c_t] w (Ret w (if chkT ts=true then .nilIface else .iface 30 (.int .i64 3))):=by
 obtain ⟨hlen,hTr⟩:=hL4 h0
 refine enter 48 [(0,.slice a_t ts.length c_t)] Tryd.func11 rfl rfl kj rfl ?_
 refine wp_seq_k fun K1 hK1=>?_
 refine Qab ?_
 refine Qaa (.nilIface) 2 rfl kj kj ?_
 refine Qae ?_
 refine hK1 _ _ ?_
 refine wp_seq_k fun K2 hK2=>?_
 refine wp_seq_k fun K3 hK3=>?_
 refine Qab ?_
 refine Qaa (.slice a_t ts.length c_t) 5 rfl kj kj ?_
 refine Qaa (.int .i64 ((ts.length:Nat):Int)) 6 rfl kj kj ?_
 refine Qal (.int .i64 ((L:Nat):Int)) 36 #[.int .i64 ((ts.length:Nat):Int)] 7 rfl kj kj (Qbr ((ts.length:Nat):Int) ⟨by omega,by omega⟩ _ hL _) fun W1 e1=>?_
 have x1:Ext w W1:=Ext.tr (Rely.Ext.refl w) e1
 refine Qaa (.bool false) 8 rfl kj (Qai (u:=.bool ((((L:Nat):Int)==0))) kj (congrArg Value.bool (beq_eq_false_iff_ne.2 (by omega)))) ?_
 refine Qaa (.bool false) 9 rfl kj kj ?_
 refine Qaa (.slice a_t ts.length c_t) 10 rfl kj kj ?_
 refine Qal (.bool true) 37 #[.slice a_t ts.length c_t] 11 rfl kj kj ((h1▸QhR ts a_t c_t _ _ (TrAt.here (TrAt.ext ht x1)) (qR _) htl)) fun W2 e2=>?_
 have x2:Ext w W2:=Ext.tr x1 e2
 refine Qaa (.bool false) 12 rfl kj kj ?_
 refine Qaa (.bool false) 13 rfl kj kj ?_
 refine Qaa (.bool false) 14 rfl kj kj ?_
 refine Qaa (.slice a_t ts.length c_t) 15 rfl kj kj ?_
 refine Qal (.bool true) 38 #[.slice a_t ts.length c_t] 16 rfl kj kj ((h2▸Qh7 ts a_t c_t _ _ (TrAt.ext ht x2) htl L hL (by omega))) fun W3 e3=>?_
 have x3:Ext w W3:=Ext.tr x2 e3
 refine Qaa (.bool false) 17 rfl kj kj ?_
 refine Qaa (.bool false) 18 rfl kj kj ?_
 refine Qae ?_
 refine hK3 _ _ ?_
 refine cond_false kj ?_
 refine wp_skip ?_
 refine hK2 _ _ ?_
 refine wp_seq_k fun K4 hK4=>?_
 refine wp_seq_k fun K5 hK5=>?_
 refine Qab ?_
 refine Qaa (.slice a_t ts.length c_t) 20 rfl kj kj ?_
 refine Qaa (.int .i64 ((ts.length:Nat):Int)) 21 rfl kj kj ?_
 refine Qaa (.int .i64 0) 22 rfl kj kj ?_
 refine Qae ?_
 refine hK5 _ _ ?_
 refine wp_block ?_
 refine Qaz (fun (s1:Nat)=>[(0,.slice a_t ts.length c_t),(20,.slice a_t ts.length c_t),(21,.int .i64 ((ts.length:Nat):Int)),(22,.int .i64 ((s1:Nat):Int))]) (fun (s1:Nat) W=>(s1≤ts.length)∧(∀ j,j<s1→QaR ts ((L:Nat):Int) j=true)∧(Ext W3 W)∧(Ext w W)) (fun (s1:Nat)=>ts.length-s1) 0 ⟨rfl,rfl,rfl,rfl,trivial⟩ ⟨(Nat.zero_le _),(fun j hj=>absurd hj (Nat.not_lt_zero j)),(Rely.Ext.refl W3),x3⟩ fun s1 X1 V1 hI1=>?_
 obtain ⟨x,hs1⟩:∃ z,z=s1:=⟨_,rfl⟩
 subst hs1
 obtain ⟨hx,hall,kk1,xx1⟩:=hI1
 replace hx:x≤ts.length:=hx
 replace hall:∀ j,j<x→QaR ts ((L:Nat):Int) j=true:=hall
 replace kk1:Ext W3 V1:=kk1
 replace xx1:Ext w V1:=xx1
 have e4:=kk1
 refine wp_seq_k fun K6 hK6=>?_
 refine Qab ?_
 refine Qaa (.bool (decide (((x:Nat):Int)<((ts.length:Nat):Int)))) 23 rfl kj kj ?_
 refine Qae ?_
 refine hK6 _ _ ?_
 refine wp_seq_k fun K7 hK7=>?_
 refine Qat (t:=decide (((x:Nat):Int)<((ts.length:Nat):Int))) kj (fun c8=>?_) (fun c8=>?_)
 ·skip
  have hlt23:x<ts.length:=by have:=of_decide_eq_true c8; omega
  refine wp_skip ?_
  refine hK7 _ _ ?_
  refine wp_seq_k fun K9 hK9=>?_
  refine wp_block ?_
  refine wp_seq_k fun K10 hK10=>?_
  refine Qab ?_
  refine Qaa (.int .i64 ((x:Nat):Int)) 24 rfl kj kj ?_
  obtain ⟨gtT,otT,hat,hnts⟩:=TrAt.ext ht xx1
  have hnt:=hnts x (by omega)
  obtain ⟨nt,ent⟩:∃ z,z=ndi ts x:=⟨_,rfl⟩
  rw [←ent] at hnt
  have okt:=hnt.ok
  have rdt:=hnt.rd
  refine Qaa (.pointer (some ⟨gtT,otT+x*99,none⟩)) 25 rfl kj (Qao 23 _ _ .i64 x gtT otT ts.length c_t 41 99 a_t (hat (by omega)) rfl kj kj kj kj (by omega)) ?_
  refine Qaa (.agg (cat [#[.bool nt.n.us],#[.int .i64 nt.n.nm],ints .u8 (nt.n.key),ints .u8 (nt.n.sg),ints .u8 (nt.n.pa),#[.slice nt.a nt.n.ms.length nt.c]])) 26 rfl kj (QaH 41 _ gtT (otT+x*99) nt hnt rfl kj kj kj) ?_
  refine Qap (cat [#[.bool false],#[.int .i64 0],ints .u8 (List.replicate 32 0),ints .u8 (List.replicate 32 0),ints .u8 (List.replicate 32 0),#[.slice none 0 0]]) 41 4 rfl kj kj fun g11 W5 l11 e5 r11_5=>?_
  have x5:Ext w W5:=Ext.tr xx1 e5
  have b11:w.heap.size≤g11:=qT xx1.size l11
  refine Qaa (.int .i64 ((x:Nat):Int)) 3 rfl kj kj ?_
  refine Qa5 g11 _ (cat [#[.bool nt.n.us],#[.int .i64 nt.n.nm],ints .u8 (nt.n.key),ints .u8 (nt.n.sg),ints .u8 (nt.n.pa),#[.slice nt.a nt.n.ms.length nt.c]]) 41 r11_5 rfl kj (QaE 41 _ _ g11 41 _ _ r11_5 rfl kj kj (isz (n:=99) kj (by rw [Qac,Qac,Qac,Qac,Qac,Qac]; simp only [qS,cat,((Qaf _ _).trans okt.gl),((Qaf _ _).trans okt.kl),((Qaf _ _).trans okt.pl)]; rfl)) (eqsz (n:=99) (by rw [Qac,Qac,Qac,Qac,Qac,Qac]; simp only [qS,cat,((Qaf _ _).trans (qZ (n:=32)))]; rfl) (by rw [Qac,Qac,Qac,Qac,Qac,Qac]; simp only [qS,cat,((Qaf _ _).trans okt.gl),((Qaf _ _).trans okt.kl),((Qaf _ _).trans okt.pl)]; rfl)) (Qbt _ (by intro a ha; simp only [List.mem_cons,List.not_mem_nil,or_false] at ha; rcases ha with rfl | rfl | rfl | rfl | rfl | rfl; exact (Qa2 _ rfl); exact (Qa2 _ rfl); exact (Qa3 _ _); exact (Qa3 _ _); exact (Qa3 _ _); exact (Qa2 _ rfl)))) fun W6 p6 r11_6=>?_
  have x6:Ext w W6:=Puts.ext p6 x5 b11
  refine Qae ?_
  refine hK10 _ _ ?_
  refine wp_seq_k fun K12 hK12=>?_
  rcases (show nt.n.us=true∨(nt.n.us=false∧Qc0 nt.n zn.n=true)∨(nt.n.us=false∧Qc0 nt.n zn.n=false) from by cases nt.n.us; (cases Qc0 nt.n zn.n; exact .inr (.inr ⟨rfl,rfl⟩); exact .inr (.inl ⟨rfl,rfl⟩)); exact .inl rfl) with hq | hq | hq
  ·skip
   have ru11_6:W6.heap[g11]? = some (.cells (cat [#[.bool true],#[.int .i64 nt.n.nm],ints .u8 (nt.n.key),ints .u8 (nt.n.sg),ints .u8 (nt.n.pa),#[.slice nt.a nt.n.ms.length nt.c]]) 41):=by have h9:=r11_6; rw [hq] at h9; exact h9
   have hb0:QaR ts ((L:Nat):Int) x=Qbj ts ((L:Nat):Int) x:=by unfold QaR; rw [←ent,if_pos hq]
   refine Qab ?_
   refine Qaa (.pointer (some ⟨g11,0,none⟩)) 27 rfl kj kj ?_
   refine Qaa (.bool true) 28 rfl kj (Qag 4 _ g11 0 41 _ (.bool true) _ ru11_6 rfl kj (Qak [] [#[.bool true]] [#[.int .i64 nt.n.nm],ints .u8 (nt.n.key),ints .u8 (nt.n.sg),ints .u8 (nt.n.pa),#[.slice nt.a nt.n.ms.length nt.c]] 0 kj 0 _ rfl) kj) ?_
   refine Qaa (.bool false) 29 rfl kj kj ?_
   refine Qaa (.bool false) 30 rfl kj kj ?_
   refine Qad 31 rfl kj ?_
   refine Qad 32 rfl kj ?_
   refine Qad 33 rfl kj ?_
   refine Qad 34 rfl kj ?_
   refine Qaa (.bool false) 35 rfl kj kj ?_
   refine Qaa (.bool false) 36 rfl kj kj ?_
   refine Qaa (.pointer (some ⟨g11,0,none⟩)) 37 rfl kj kj ?_
   refine Qaa (.bool true) 38 rfl kj (Qag 4 _ g11 0 41 _ (.bool true) _ ru11_6 rfl kj (Qak [] [#[.bool true]] [#[.int .i64 nt.n.nm],ints .u8 (nt.n.key),ints .u8 (nt.n.sg),ints .u8 (nt.n.pa),#[.slice nt.a nt.n.ms.length nt.c]] 0 kj 0 _ rfl) kj) ?_
   refine Qaa (.bool true) 39 rfl kj kj ?_
   refine Qaa (.slice a_t ts.length c_t) 40 rfl kj kj ?_
   refine Qaa (.int .i64 ((x:Nat):Int)) 41 rfl kj kj ?_
   refine Qal (.bool (Qbj ts ((L:Nat):Int) x)) 40 #[.slice a_t ts.length c_t,.int .i64 ((x:Nat):Int)] 42 rfl kj kj (QlN ts a_t c_t _ _ (TrAt.ext ht x6) L hL hlen hTr hmt x (by omega) (TabAt.ext hT x6)) fun W7 e7=>?_
   have x7:Ext w W7:=Ext.tr x6 e7
   refine Qaa (.bool (!(Qbj ts ((L:Nat):Int) x))) 43 rfl kj kj ?_
   refine Qaa (.bool (!(Qbj ts ((L:Nat):Int) x))) 44 rfl kj kj ?_
   refine Qaa (.bool (!(Qbj ts ((L:Nat):Int) x))) 45 rfl kj kj ?_
   refine Qae ?_
   refine hK12 _ _ ?_
   refine Qat (t:=!(Qbj ts ((L:Nat):Int) x)) kj (fun c13=>?_) (fun c13=>?_)
   ·skip
    have hb:QaR ts ((L:Nat):Int) x=false:=by rw [hb0]; simpa using c13
    refine wp_seq_k fun K14 hK14=>?_
    refine Qab ?_
    refine Qaa (.iface 30 (.int .i64 3)) 46 rfl kj kj ?_
    refine Qaa (.iface 30 (.int .i64 3)) 2 rfl kj kj ?_
    refine Qae ?_
    refine hK14 _ _ ?_
    refine wp_ret ?_
    repeat (first | with_reducible refine goR1 ?_ | with_reducible refine goR2 ?_)
    exact (show bodyPost _ _ _ .ret _ _ from ret1 (.iface 30 (.int .i64 3)) rfl (Qam kj) ⟨by rw [(chk3 (Qbx hL) h0 h1 h2).trans (QcP hlt23 hb)]; rfl,x7⟩)
   ·skip
    have hb:QaR ts ((L:Nat):Int) x=true:=by rw [hb0]; simpa using c13
    refine wp_skip ?_
    refine hK9 _ _ ?_
    refine Qab ?_
    refine Qaa (.int .i64 ((x+1:Nat):Int)) 47 rfl kj (Qai (u:=.int .i64 (IntKind.i64.wrap (((x:Nat):Int)+1))) kj (congrArg (Value.int .i64) (i64n _ _ (by omega) (by omega)))) ?_
    refine Qaa (.int .i64 ((x+1:Nat):Int)) 22 rfl kj kj ?_
    refine Qae ?_
    have y3_5:Ext W3 W5:=(Rely.Ext.trans e4 e5)
    have y3_6:Ext W3 W6:=(Puts.ext p6 y3_5 (qT e4.size l11))
    have y3_7:Ext W3 W7:=(Rely.Ext.trans y3_6 e7)
    repeat (first | with_reducible refine goX1 ?_ | with_reducible refine goX2 ?_ | with_reducible refine goX3 ?_)
    exact Qas (x+1) ⟨rfl,rfl,rfl,rfl,trivial⟩ ⟨(by omega),(fun j hj=>by by_cases e:j=x; (rw [e]; exact hb); exact hall j (by omega)),y3_7,x7⟩ (by show ts.length-(x+1)<ts.length-x; omega)
  ·skip
   have ru11_6:W6.heap[g11]? = some (.cells (cat [#[.bool false],#[.int .i64 nt.n.nm],ints .u8 (nt.n.key),ints .u8 (nt.n.sg),ints .u8 (nt.n.pa),#[.slice nt.a nt.n.ms.length nt.c]]) 41):=by have h9:=r11_6; rw [hq.1] at h9; exact h9
   have hb:QaR ts ((L:Nat):Int) x=true:=by unfold QaR; rw [←ent,if_neg (by rw [hq.1]; decide)]; exact hq.2
   refine Qab ?_
   refine Qaa (.pointer (some ⟨g11,0,none⟩)) 27 rfl kj kj ?_
   refine Qaa (.bool false) 28 rfl kj (Qag 4 _ g11 0 41 _ (.bool false) _ ru11_6 rfl kj (Qak [] [#[.bool false]] [#[.int .i64 nt.n.nm],ints .u8 (nt.n.key),ints .u8 (nt.n.sg),ints .u8 (nt.n.pa),#[.slice nt.a nt.n.ms.length nt.c]] 0 kj 0 _ rfl) kj) ?_
   refine Qaa (.bool true) 29 rfl kj kj ?_
   refine Qaa (.bool true) 30 rfl kj kj ?_
   refine Qaa (.agg (cat [#[.bool false],#[.int .i64 nt.n.nm],ints .u8 (nt.n.key),ints .u8 (nt.n.sg),ints .u8 (nt.n.pa),#[.slice nt.a nt.n.ms.length nt.c]])) 31 rfl kj (Qa9 41 _ g11 41 _ _ ru11_6 rfl kj kj (isz (n:=99) kj (by rw [Qac,Qac,Qac,Qac,Qac,Qac]; simp only [qS,cat,((Qaf _ _).trans okt.gl),((Qaf _ _).trans okt.kl),((Qaf _ _).trans okt.pl)]; rfl))) ?_
   refine Qaa (.agg (cat [#[.bool false],#[.int .i64 0],ints .u8 (List.replicate 32 0),ints .u8 (List.replicate 32 0),ints .u8 (List.replicate 32 0),#[.slice none 0 0]])) 32 rfl kj kj ?_
   have y4_5:Ext V1 W5:=(Rely.Ext.trans (Rely.Ext.refl V1) e5)
   have y4_6:Ext V1 W6:=(Puts.ext p6 y4_5 l11)
   refine Qal (.bool true) 39 #[.agg (cat [#[.bool false],#[.int .i64 nt.n.nm],ints .u8 (nt.n.key),ints .u8 (nt.n.sg),ints .u8 (nt.n.pa),#[.slice nt.a nt.n.ms.length nt.c]]),.agg (cat [#[.bool false],#[.int .i64 0],ints .u8 (List.replicate 32 0),ints .u8 (List.replicate 32 0),ints .u8 (List.replicate 32 0),#[.slice none 0 0]])] 33 rfl kj kj (Qlg true false nt okt _ _ (ent▸hmt x (by omega)) (RdK.here (RdK.ext rdt y4_6)) hq.1 hq.2) fun W7 e7=>?_
   have x7:Ext w W7:=Ext.tr x6 e7
   refine Qaa (.bool false) 34 rfl kj kj ?_
   refine Qaa (.bool false) 35 rfl kj kj ?_
   refine Qaa (.bool false) 36 rfl kj kj ?_
   refine Qaa (.pointer (some ⟨g11,0,none⟩)) 37 rfl kj kj ?_
   have r11_7:=(Qah ru11_6 e7)
   refine Qaa (.bool false) 38 rfl kj (Qag 4 _ g11 0 41 _ (.bool false) _ r11_7 rfl kj (Qak [] [#[.bool false]] [#[.int .i64 nt.n.nm],ints .u8 (nt.n.key),ints .u8 (nt.n.sg),ints .u8 (nt.n.pa),#[.slice nt.a nt.n.ms.length nt.c]] 0 kj 0 _ rfl) kj) ?_
   refine Qaa (.bool false) 39 rfl kj kj ?_
   refine Qad 40 rfl kj ?_
   refine Qad 41 rfl kj ?_
   refine Qad 42 rfl kj ?_
   refine Qad 43 rfl kj ?_
   refine Qaa (.bool false) 44 rfl kj kj ?_
   refine Qaa (.bool false) 45 rfl kj kj ?_
   refine Qae ?_
   refine hK12 _ _ ?_
   refine cond_false kj ?_
   refine wp_skip ?_
   refine hK9 _ _ ?_
   refine Qab ?_
   refine Qaa (.int .i64 ((x+1:Nat):Int)) 47 rfl kj (Qai (u:=.int .i64 (IntKind.i64.wrap (((x:Nat):Int)+1))) kj (congrArg (Value.int .i64) (i64n _ _ (by omega) (by omega)))) ?_
   refine Qaa (.int .i64 ((x+1:Nat):Int)) 22 rfl kj kj ?_
   refine Qae ?_
   have y3_5:Ext W3 W5:=(Rely.Ext.trans e4 e5)
   have y3_6:Ext W3 W6:=(Puts.ext p6 y3_5 (qT e4.size l11))
   have y3_7:Ext W3 W7:=(Rely.Ext.trans y3_6 e7)
   repeat (first | with_reducible refine goX1 ?_ | with_reducible refine goX2 ?_ | with_reducible refine goX3 ?_)
   exact Qas (x+1) ⟨rfl,rfl,rfl,rfl,trivial⟩ ⟨(by omega),(fun j hj=>by by_cases e:j=x; (rw [e]; exact hb); exact hall j (by omega)),y3_7,x7⟩ (by show ts.length-(x+1)<ts.length-x; omega)
  ·skip
   have ru11_6:W6.heap[g11]? = some (.cells (cat [#[.bool false],#[.int .i64 nt.n.nm],ints .u8 (nt.n.key),ints .u8 (nt.n.sg),ints .u8 (nt.n.pa),#[.slice nt.a nt.n.ms.length nt.c]]) 41):=by have h9:=r11_6; rw [hq.1] at h9; exact h9
   have hb:QaR ts ((L:Nat):Int) x=false:=by unfold QaR; rw [←ent,if_neg (by rw [hq.1]; decide)]; exact hq.2
   refine Qab ?_
   refine Qaa (.pointer (some ⟨g11,0,none⟩)) 27 rfl kj kj ?_
   refine Qaa (.bool false) 28 rfl kj (Qag 4 _ g11 0 41 _ (.bool false) _ ru11_6 rfl kj (Qak [] [#[.bool false]] [#[.int .i64 nt.n.nm],ints .u8 (nt.n.key),ints .u8 (nt.n.sg),ints .u8 (nt.n.pa),#[.slice nt.a nt.n.ms.length nt.c]] 0 kj 0 _ rfl) kj) ?_
   refine Qaa (.bool true) 29 rfl kj kj ?_
   refine Qaa (.bool true) 30 rfl kj kj ?_
   refine Qaa (.agg (cat [#[.bool false],#[.int .i64 nt.n.nm],ints .u8 (nt.n.key),ints .u8 (nt.n.sg),ints .u8 (nt.n.pa),#[.slice nt.a nt.n.ms.length nt.c]])) 31 rfl kj (Qa9 41 _ g11 41 _ _ ru11_6 rfl kj kj (isz (n:=99) kj (by rw [Qac,Qac,Qac,Qac,Qac,Qac]; simp only [qS,cat,((Qaf _ _).trans okt.gl),((Qaf _ _).trans okt.kl),((Qaf _ _).trans okt.pl)]; rfl))) ?_
   refine Qaa (.agg (cat [#[.bool false],#[.int .i64 0],ints .u8 (List.replicate 32 0),ints .u8 (List.replicate 32 0),ints .u8 (List.replicate 32 0),#[.slice none 0 0]])) 32 rfl kj kj ?_
   have y4_5:Ext V1 W5:=(Rely.Ext.trans (Rely.Ext.refl V1) e5)
   have y4_6:Ext V1 W6:=(Puts.ext p6 y4_5 l11)
   refine Qal (.bool false) 39 #[.agg (cat [#[.bool false],#[.int .i64 nt.n.nm],ints .u8 (nt.n.key),ints .u8 (nt.n.sg),ints .u8 (nt.n.pa),#[.slice nt.a nt.n.ms.length nt.c]]),.agg (cat [#[.bool false],#[.int .i64 0],ints .u8 (List.replicate 32 0),ints .u8 (List.replicate 32 0),ints .u8 (List.replicate 32 0),#[.slice none 0 0]])] 33 rfl kj kj (Qlg false false nt okt _ _ (ent▸hmt x (by omega)) (RdK.here (RdK.ext rdt y4_6)) hq.1 hq.2) fun W7 e7=>?_
   have x7:Ext w W7:=Ext.tr x6 e7
   refine Qaa (.bool true) 34 rfl kj kj ?_
   refine Qaa (.bool true) 35 rfl kj kj ?_
   refine Qaa (.bool true) 36 rfl kj kj ?_
   refine Qad 37 rfl kj ?_
   refine Qad 38 rfl kj ?_
   refine Qad 39 rfl kj ?_
   refine Qad 40 rfl kj ?_
   refine Qad 41 rfl kj ?_
   refine Qad 42 rfl kj ?_
   refine Qad 43 rfl kj ?_
   refine Qad 44 rfl kj ?_
   refine Qaa (.bool true) 45 rfl kj kj ?_
   refine Qae ?_
   refine hK12 _ _ ?_
   refine cond_true kj ?_
   refine wp_seq_k fun K15 hK15=>?_
   refine Qab ?_
   refine Qaa (.iface 30 (.int .i64 3)) 46 rfl kj kj ?_
   refine Qaa (.iface 30 (.int .i64 3)) 2 rfl kj kj ?_
   refine Qae ?_
   refine hK15 _ _ ?_
   refine wp_ret ?_
   repeat (first | with_reducible refine goR1 ?_ | with_reducible refine goR2 ?_)
   exact (show bodyPost _ _ _ .ret _ _ from ret1 (.iface 30 (.int .i64 3)) rfl (Qam kj) ⟨by rw [(chk3 (Qbx hL) h0 h1 h2).trans (QcP hlt23 hb)]; rfl,x7⟩)
 ·skip
  have heq23:x=ts.length:=by have:=of_decide_eq_false c8; omega
  refine wp_exit ?_
  refine hK4 _ _ ?_
  refine wp_seq_k fun K16 hK16=>?_
  refine Qab ?_
  refine Qaa (.nilIface) 2 rfl kj kj ?_
  refine Qae ?_
  refine hK16 _ _ ?_
  refine wp_ret ?_
  repeat (first | with_reducible refine goR1 ?_ | with_reducible refine goR2 ?_)
  exact (show bodyPost _ _ _ .ret _ _ from ret1 (.nilIface) rfl (Qam kj) ⟨by rw [(chk3 (Qbx hL) h0 h1 h2).trans (Qf7 (heq23▸hall))]; rfl,xx1⟩)
theorem Qj8 (ts : List NdV) (a_t:Option Addr) (c_t B1:Nat) (w:World) (ht:TrAt B1 w a_t ts) (htl:ts.length≤100000) (hmt:∀ i,i<ts.length→(ndi ts i).n.ms.length≤1000000) (hT:TabAt w):Calls Tryd.prog 11 #[.slice a_t ts.length c_t] w (Ret w (if chkT ts=true then .nilIface else .iface 30 (.int .i64 3))):=by
  obtain ⟨L,hL,hL2,-,hL4⟩:=Qdu ts.length htl
  by_cases h0:L=0
  · exact QkQ ts a_t c_t B1 w ht htl hmt hT L hL hL2 hL4 h0
  cases h1:Qbs ts with
  | false=>exact QkP ts a_t c_t B1 w ht htl hmt hT L hL hL2 hL4 h0 h1
  | true =>
    cases h2:anyU ts (L/2) with
    | false=>exact QkO ts a_t c_t B1 w ht htl hmt hT L hL hL2 hL4 h0 h1 h2
    | true=>exact QkN ts a_t c_t B1 w ht htl hmt hT L hL hL2 hL4 h0 h1 h2
theorem Qca (ts : List NdV) (a_t:Option Addr) (c_t B1:Nat) (w:World) (ht:TrAt B1 w a_t ts) (htl:ts.length≤100000) (hmt:∀ i,i<ts.length→(ndi ts i).n.ms.length≤1000000) (hT:TabAt w) (h:chkT ts=true):Calls Tryd.prog 11 #[.slice a_t ts.length c_t] w (Ret w .nilIface):=by
  have:=Qj8 ts a_t c_t B1 w ht htl hmt hT
  rwa [if_pos h] at this
theorem Qiq (ts : List NdV) (a_t:Option Addr) (c_t B1:Nat) (w:World) (ht:TrAt B1 w a_t ts) (htl:ts.length≤100000) (hmt:∀ i,i<ts.length→(ndi ts i).n.ms.length≤1000000) (hT:TabAt w) (h:chkT ts=false):Calls Tryd.prog 11 #[.slice a_t ts.length c_t] w (Ret w (.iface 30 (.int .i64 3))):=by
  have:=Qj8 ts a_t c_t B1 w ht htl hmt hT
  rwa [if_neg (by rw [h]; decide)] at this
end Go.Proofs.YtcmaolmofgmkhaaDoor.Te
end
section
namespace Go.Proofs.YtcmaolmofgmkhaaDoor.Te
open Go Go.RowKit
open Rely Auto Own Seat Sha
def AvT (p : Nat→Prop) (a:Option Addr) (ts:List NdV):Prop:=(∀ g o m,0<ts.length→a=some ⟨g,o,m⟩→p g)∧∀ i,i<ts.length→(ndi ts i).n.ms≠[]→∀ g o m,(ndi ts i).a=some ⟨g,o,m⟩→p g
theorem AvT.mono {p q:Nat→Prop} {a:Option Addr} {ts:List NdV} (h:AvT p a ts) (hpq:∀ g,p g→q g):AvT q a ts:=⟨fun g o m h1 h2=>hpq g (h.1 g o m h1 h2),fun i hi hn g o m e=>hpq g (h.2 i hi hn g o m e)⟩
theorem Qes (a : Option Addr) (ts:List NdV):AvT (fun g=>g∉([]:List Nat)) a ts:=⟨fun g o m _ _=>List.not_mem_nil,fun i _ _ g o m _=>List.not_mem_nil⟩
theorem TrAt.keepC {B : Nat} {gs:List Nat} {V W:World} {a:Option Addr} {ts:List NdV} (h:TrAt B V a ts) (q:QaI gs V W) (hv:AvT (fun g=>g∉gs) a ts):TrAt B W a ts:=by
  obtain ⟨g,o,h1,h2⟩:=h
  refine ⟨g,o,h1,fun i hi=>?_⟩
  have hn:=h2 i hi
  have hg:g∉gs:=hv.1 g o none (by omega) (h1 (by omega))
  refine ⟨hn.lt,qL hn.lt2 q.1,fun j u hu=>q.cell (hn.cell j u hu) hg,?_,hn.ok⟩
  by_cases hne:(ndi ts i).n.ms=[]
  · obtain ⟨a',cap,e,e1,e2,e3,e4⟩:=hn.rd
    exact ⟨a',cap,e,e1,e2,e3,.inl hne⟩
  obtain ⟨a',cap,e,e1,e2,e3,e4⟩:=hn.rd
  refine ⟨a',cap,e,e1,e2,e3,?_⟩
  rcases e4 with e4 | ⟨gm,om,q1,q2,q3,q4⟩
  · exact .inl e4
  · have ha:(ndi ts i).a=some ⟨gm,om,none⟩:=by simp only [Value.slice.injEq] at e; rw [e.1,q1]
    exact .inr ⟨gm,om,q1,q2,qL q3 q.1,fun k hk=>q.cell (q4 k hk) (hv.2 i hi hne gm om none ha)⟩
def QaD (ts : List NdV):Nat→List Nat
  | 0=>[]
  | k+1=>if (ndi ts (2*k)).n.us=true then QaD ts k++[k] else QaD ts k
theorem QbX {ts : List NdV} {k:Nat} (h:(ndi ts (2*k)).n.us=true):QaD ts (k+1)=QaD ts k++[k]:=by rw [QaD,if_pos h]
theorem Qco {ts : List NdV} {k:Nat} (h:(ndi ts (2*k)).n.us=false):QaD ts (k+1)=QaD ts k:=by rw [QaD,if_neg (by rw [h]; decide)]
theorem Qbu (ts : List NdV):∀ k,(QaD ts k).length≤k
  | 0=>qR 0
  | k+1=>by
    have:=Qbu ts k
    unfold QaD
    split
    · rw [List.length_append]; simpa using this
    · omega
theorem QbN {ts : List NdV} {z:Nat}:∀ {k:Nat},z∈QaD ts k↔z<k∧(ndi ts (2*z)).n.us=true
  | 0=>by simp [QaD]
  | k+1=>by
    have ih:=QbN (ts:=ts) (z:=z) (k:=k)
    cases hu:(ndi ts (2*k)).n.us with
    | true =>
      rw [QbX hu,List.mem_append,ih,List.mem_singleton]
      constructor
      · rintro (h | rfl)
        · exact ⟨by omega,h.2⟩
        · exact ⟨by omega,hu⟩
      · rintro ⟨h1,h2⟩
        by_cases e:z=k
        · exact .inr e
        · exact .inl ⟨by omega,h2⟩
    | false =>
      rw [Qco hu,ih]
      constructor
      · exact fun h=>⟨by omega,h.2⟩
      · rintro ⟨h1,h2⟩
        refine ⟨?_,h2⟩
        by_cases e:z=k
        · rw [e,hu] at h2; cases h2
        · omega
def nod (ts : List NdV) (z:Nat):NdV:=if 2*z<ts.length then ndi ts (2*z) else zn
theorem Qf4 {ts : List NdV} {z:Nat} (h:2*z<ts.length):nod ts z=ndi ts (2*z):=by unfold nod; rw [if_pos h]
theorem QhM {P : Program} {m l:Nat} {ts:List NdV} {z:Nat} {W:World} {Q:Ending→World→Prop} {nt:NdV} (h0:2*z<ts.length) (e:nt=ndi ts (2*z)) (h:YieldAt Fence.wide m P l #[.int .i64 ((z:Nat):Int),.agg (cat (ndP (nod ts z)))] W Q):YieldAt Fence.wide m P l #[.int .i64 ((z:Nat):Int),.agg (cat (ndP nt))] W Q:=by rwa [Qf4 h0,←e] at h
theorem Qb1 {B : Nat} {w:World} {a:Option Addr} {ts:List NdV} (h:TrAt B w a ts) (z:Nat):NdOk (nod ts z).n∧RdK .i64 B (nod ts z).n.ms (.slice (nod ts z).a (nod ts z).n.ms.length (nod ts z).c) w:=by
  unfold nod
  split
  · next h2=>obtain ⟨g,o,h1,h3⟩:=h; exact ⟨(h3 _ h2).ok,(h3 _ h2).rd⟩
  · exact ⟨Qdj,QcW B w⟩
set_option maxRecDepth 100000 in
theorem Qdb (m : Nat) (gs:List Nat) (g1:Nat) (ts:List NdV) (a_t:Option Addr) (c_t B1:Nat) (w:World) (ht:TrAt B1 w a_t ts) (htl:ts.length≤100000) (L:Nat) (hL:leaves ((ts.length:Nat):Int)=((L:Nat):Int)) (hL2:2*L≤ts.length+1) (hL3:L≤32) (r1w:w.heap[g1]? = some (.cells (#[.slice a_t ts.length c_t]) 23)) (n1:g1∉gs) (hav:AvT (fun g=>g∉gs) a_t ts) :
  SeqStopsK Fence.wide m Tryd.prog 66 #[.pointer (some ⟨g1,0,none⟩)] (fun i:Nat=>#[Value.int .i64 ((i:Nat):Int),.agg (cat (ndP (nod ts i)))]) (QaI gs) (fun ys=>ys=QaD ts L) (fun ys=>∃ k,k<L∧(ndi ts (2*k)).n.us=true∧ys=QaD ts k++[k]) 32 w:=fun l J Jx Wi hW hJ hJx hY h0=>by
 refine callsIn_wide.2 ?_
 have hti:TrAt B1 Wi a_t ts:=TrAt.ext ht hW
 have r1:=Qah r1w hW
 refine enter 28 [(0,.func (.yield l) #[] #[]),(1,.pointer (some ⟨g1,0,none⟩))] Tryd.func66 rfl rfl kj rfl ?_
 refine wp_seq_k fun K2 hK2=>?_
 refine Qab ?_
 refine Qaa (.slice a_t ts.length c_t) 4 rfl kj (Qag 23 _ g1 0 23 _ (.slice a_t ts.length c_t) _ r1 rfl kj kj kj) ?_
 refine Qaa (.int .i64 ((ts.length:Nat):Int)) 5 rfl kj kj ?_
 refine Qal (.int .i64 ((L:Nat):Int)) 36 #[.int .i64 ((ts.length:Nat):Int)] 6 rfl kj kj (Qbr ((ts.length:Nat):Int) ⟨by omega,by omega⟩ _ hL _) fun W1 e1=>?_
 have x1:Grew Wi W1:=Grew.ext (Grew.refl Wi) e1
 refine Qaa (.int .i64 0) 7 rfl kj kj ?_
 refine Qae ?_
 refine hK2 _ _ ?_
 refine wp_block ?_
 have f3_1:=(Qcl hJ h0 e1)
 have r1_1:=(Qah r1 e1)
 have f4_1:=(TrAt.ext hti e1)
 refine Qaz (fun (s1:Nat)=>[(0,.func (.yield l) #[] #[]),(1,.pointer (some ⟨g1,0,none⟩)),(6,.int .i64 ((L:Nat):Int)),(7,.int .i64 ((s1:Nat):Int))]) (fun (s1:Nat) W=>(s1≤L)∧(J (QaD ts s1) W)∧(W.heap[g1]? = some (.cells (#[.slice a_t ts.length c_t]) 23))∧(TrAt B1 W a_t ts)∧(Grew Wi W)) (fun (s1:Nat)=>L-s1) 0 ⟨rfl,rfl,rfl,rfl,trivial⟩ ⟨(Nat.zero_le _),(show J (QaD ts 0) _ from f3_1),r1_1,f4_1,x1⟩ fun s1 X1 V1 hI1=>?_
 obtain ⟨k,hs1⟩:∃ z,z=s1:=⟨_,rfl⟩
 subst hs1
 obtain ⟨hk,hJ1,rr1,ht1,xx1⟩:=hI1
 replace hk:k≤L:=hk
 replace hJ1:J (QaD ts k) V1:=hJ1
 replace rr1:V1.heap[g1]? = some (.cells (#[.slice a_t ts.length c_t]) 23):=rr1
 replace ht1:TrAt B1 V1 a_t ts:=ht1
 replace xx1:Grew Wi V1:=xx1
 refine wp_seq_k fun K5 hK5=>?_
 refine Qab ?_
 refine Qaa (.bool (decide (((k:Nat):Int)<((L:Nat):Int)))) 8 rfl kj kj ?_
 refine Qae ?_
 refine hK5 _ _ ?_
 refine wp_seq_k fun K6 hK6=>?_
 refine Qat (t:=decide (((k:Nat):Int)<((L:Nat):Int))) kj (fun c7=>?_) (fun c7=>?_)
 ·skip
  have hlt8:k<L:=by have:=of_decide_eq_true c7; omega
  refine wp_skip ?_
  refine hK6 _ _ ?_
  refine wp_seq_k fun K8 hK8=>?_
  refine wp_block ?_
  refine wp_seq_k fun K9 hK9=>?_
  obtain ⟨gtT,otT,hat,hnts⟩:=id (ht1)
  have hnt:=hnts (2*k) (by omega)
  obtain ⟨nt,ent⟩:∃ z,z=ndi ts (2*k):=⟨_,rfl⟩
  rw [←ent] at hnt
  have okt:=hnt.ok
  have rdt:=hnt.rd
  rcases (show nt.n.us=true∨nt.n.us=false from by cases nt.n.us; exact .inr rfl; exact .inl rfl) with hq | hq
  ·skip
   refine Qab ?_
   refine Qaa (.int .i64 ((k:Nat):Int)) 9 rfl kj kj ?_
   refine Qaa (.int .i64 ((k:Nat):Int)) 3 rfl kj kj ?_
   refine Qae ?_
   refine hK9 _ _ ?_
   refine wp_seq_k fun K10 hK10=>?_
   refine (wpIn_wide (n:=m)).1 ?_
   refine Qa1 ?_
   refine Qay (.slice a_t ts.length c_t) 10 rfl (Qa8 _ _) rfl kj (Qag 23 _ g1 0 23 _ (.slice a_t ts.length c_t) _ rr1 rfl kj kj kj) ?_
   refine Qay (.int .i64 ((k:Nat):Int)) 11 rfl (Qa8 _ _) rfl kj kj ?_
   refine Qay (.int .i64 (((2*k:Nat):Int))) 12 rfl (Qa8 _ _) rfl kj (Qai (u:=.int .i64 (IntKind.i64.wrap (2*((k:Nat):Int)))) kj (congrArg (Value.int .i64) ((IntWalk.i64_in _ (by omega)).trans (by omega)))) ?_
   refine Qay (.pointer (some ⟨gtT,otT+(2*k)*99,none⟩)) 13 rfl (Qa8 _ _) rfl kj (Qao 23 _ _ .i64 ((2*k)) gtT otT ts.length c_t 41 99 a_t (hat (by omega)) rfl kj kj kj kj (by omega)) ?_
   refine Qay (.pointer (some ⟨gtT,otT+(2*k)*99,none⟩)) 14 rfl (Qa8 _ _) rfl kj kj ?_
   refine Qay (.bool true) 15 rfl (Qa8 _ _) rfl kj (Qaj 4 _ _ (.bool true) ((NdAt.at3 hnt).1.trans (congrArg (fun z=>some (Value.bool z)) hq)) rfl kj kj) ?_
   refine Qay (.bool true) 16 rfl (Qa8 _ _) rfl kj kj ?_
   refine Qay (.func (.yield l) #[] #[]) 17 rfl (Qa8 _ _) rfl kj kj ?_
   refine Qay (.int .i64 ((k:Nat):Int)) 18 rfl (Qa8 _ _) rfl kj kj ?_
   refine Qay (.slice a_t ts.length c_t) 19 rfl (Qa8 _ _) rfl kj (Qag 23 _ g1 0 23 _ (.slice a_t ts.length c_t) _ rr1 rfl kj kj kj) ?_
   refine Qay (.int .i64 ((k:Nat):Int)) 20 rfl (Qa8 _ _) rfl kj kj ?_
   refine Qay (.int .i64 (((2*k:Nat):Int))) 21 rfl (Qa8 _ _) rfl kj (Qai (u:=.int .i64 (IntKind.i64.wrap (2*((k:Nat):Int)))) kj (congrArg (Value.int .i64) ((IntWalk.i64_in _ (by omega)).trans (by omega)))) ?_
   refine Qay (.pointer (some ⟨gtT,otT+(2*k)*99,none⟩)) 22 rfl (Qa8 _ _) rfl kj (Qao 23 _ _ .i64 ((2*k)) gtT otT ts.length c_t 41 99 a_t (hat (by omega)) rfl kj kj kj kj (by omega)) ?_
   refine Qay (.agg (cat [#[.bool nt.n.us],#[.int .i64 nt.n.nm],ints .u8 (nt.n.key),ints .u8 (nt.n.sg),ints .u8 (nt.n.pa),#[.slice nt.a nt.n.ms.length nt.c]])) 23 rfl (Qa8 _ _) rfl kj (QaH 41 _ gtT (otT+(2*k)*99) nt hnt rfl kj kj kj) ?_
   refine Qfd (m:=m) (l:=l) (args:=#[.int .i64 ((k:Nat):Int),.agg (cat [#[.bool nt.n.us],#[.int .i64 nt.n.nm],ints .u8 (nt.n.key),ints .u8 (nt.n.sg),ints .u8 (nt.n.pa),#[.slice nt.a nt.n.ms.length nt.c]])]) 24 rfl rfl kj kj (QhM (by omega) ent (hY (QaD ts k) k V1 hJ1 (by have:=Qbu ts k; omega))) (fun W' hA=>?_) (fun W' hA=>?_)
   ·skip
    obtain ⟨W3,hW3⟩:∃ z,z=W':=⟨_,rfl⟩
    rw [←hW3] at hA ⊢
    obtain ⟨hj11,hk11⟩:=hA
    have x3:Grew Wi W3:=Grew.keepC xx1 hk11
    refine Qay (.bool false) 25 rfl (Qa8 _ _) rfl kj kj ?_
    refine Qay (.bool false) 26 rfl (Qa8 _ _) rfl kj kj ?_
    refine Qba ?_
    refine hK10 _ _ ?_
    refine cond_false kj ?_
    refine wp_skip ?_
    refine hK8 _ _ ?_
    refine Qab ?_
    refine Qaa (.int .i64 ((k+1:Nat):Int)) 27 rfl kj (Qai (u:=.int .i64 (IntKind.i64.wrap (((k:Nat):Int)+1))) kj (congrArg (Value.int .i64) (i64n _ _ (by omega) (by omega)))) ?_
    refine Qaa (.int .i64 ((k+1:Nat):Int)) 7 rfl kj kj ?_
    refine Qae ?_
    have r1_3:=(QaI.row hk11 rr1 n1)
    have f12_3:=(TrAt.keepC ht1 hk11 hav)
    repeat (first | with_reducible refine goX1 ?_ | with_reducible refine goX2 ?_ | with_reducible refine goX3 ?_)
    exact Qas (k+1) ⟨rfl,rfl,rfl,rfl,trivial⟩ ⟨(by omega),(by rw [QbX (ent▸hq)]; exact hj11),r1_3,f12_3,x3⟩ (by show L-(k+1)<L-k; omega)
   ·skip
    obtain ⟨W3,hW3⟩:∃ z,z=W':=⟨_,rfl⟩
    rw [←hW3] at hA ⊢
    refine Qay (.bool true) 25 rfl (Qa8 _ _) rfl kj kj ?_
    refine Qay (.bool true) 26 rfl (Qa8 _ _) rfl kj kj ?_
    refine Qba ?_
    refine hK10 _ _ ?_
    refine cond_true kj ?_
    refine wp_ret ?_
    repeat (first | with_reducible refine goR1 ?_ | with_reducible refine goR2 ?_)
    exact (show bodyPost _ _ _ .ret _ _ from ret0 rfl ⟨⟨_,rfl⟩,.inr ⟨_,⟨k,hlt8,ent▸hq,rfl⟩,hA⟩⟩)
  ·skip
   refine Qab ?_
   refine Qaa (.int .i64 ((k:Nat):Int)) 9 rfl kj kj ?_
   refine Qaa (.int .i64 ((k:Nat):Int)) 3 rfl kj kj ?_
   refine Qae ?_
   refine hK9 _ _ ?_
   refine wp_seq_k fun K13 hK13=>?_
   refine Qab ?_
   refine Qaa (.slice a_t ts.length c_t) 10 rfl kj (Qag 23 _ g1 0 23 _ (.slice a_t ts.length c_t) _ rr1 rfl kj kj kj) ?_
   refine Qaa (.int .i64 ((k:Nat):Int)) 11 rfl kj kj ?_
   refine Qaa (.int .i64 (((2*k:Nat):Int))) 12 rfl kj (Qai (u:=.int .i64 (IntKind.i64.wrap (2*((k:Nat):Int)))) kj (congrArg (Value.int .i64) ((IntWalk.i64_in _ (by omega)).trans (by omega)))) ?_
   refine Qaa (.pointer (some ⟨gtT,otT+(2*k)*99,none⟩)) 13 rfl kj (Qao 23 _ _ .i64 ((2*k)) gtT otT ts.length c_t 41 99 a_t (hat (by omega)) rfl kj kj kj kj (by omega)) ?_
   refine Qaa (.pointer (some ⟨gtT,otT+(2*k)*99,none⟩)) 14 rfl kj kj ?_
   refine Qaa (.bool false) 15 rfl kj (Qaj 4 _ _ (.bool false) ((NdAt.at3 hnt).1.trans (congrArg (fun z=>some (Value.bool z)) hq)) rfl kj kj) ?_
   refine Qaa (.bool false) 16 rfl kj kj ?_
   refine Qad 17 rfl kj ?_
   refine Qad 18 rfl kj ?_
   refine Qad 19 rfl kj ?_
   refine Qad 20 rfl kj ?_
   refine Qad 21 rfl kj ?_
   refine Qad 22 rfl kj ?_
   refine Qad 23 rfl kj ?_
   refine Qad 24 rfl kj ?_
   refine Qad 25 rfl kj ?_
   refine Qaa (.bool false) 26 rfl kj kj ?_
   refine Qae ?_
   refine hK13 _ _ ?_
   refine cond_false kj ?_
   refine wp_skip ?_
   refine hK8 _ _ ?_
   refine Qab ?_
   refine Qaa (.int .i64 ((k+1:Nat):Int)) 27 rfl kj (Qai (u:=.int .i64 (IntKind.i64.wrap (((k:Nat):Int)+1))) kj (congrArg (Value.int .i64) (i64n _ _ (by omega) (by omega)))) ?_
   refine Qaa (.int .i64 ((k+1:Nat):Int)) 7 rfl kj kj ?_
   refine Qae ?_
   repeat (first | with_reducible refine goX1 ?_ | with_reducible refine goX2 ?_ | with_reducible refine goX3 ?_)
   exact Qas (k+1) ⟨rfl,rfl,rfl,rfl,trivial⟩ ⟨(by omega),(by rw [Qco (ent▸hq)]; exact hJ1),rr1,ht1,xx1⟩ (by show L-(k+1)<L-k; omega)
 ·skip
  have heq8:k=L:=by have:=of_decide_eq_false c7; omega
  refine wp_exit ?_
  repeat (first | with_reducible refine goX1 ?_ | with_reducible refine goX2 ?_ | with_reducible refine goX3 ?_)
  exact (show bodyPost _ _ _ .normal _ _ from end0 rfl ⟨⟨_,rfl⟩,.inl ⟨_,rfl,(by rw [←heq8]; exact hJ1)⟩⟩)
end Go.Proofs.YtcmaolmofgmkhaaDoor.Te
end
section
namespace Go.Proofs.YtcmaolmofgmkhaaDoor.Te
open Go Go.RowKit
open Rely Auto Own Seat Sha
theorem Qis {B : Nat} {gs:List Nat} {w:World} {a:Option Addr} {ts:List NdV} (h:TrAt B w a ts) (hg:∀ g∈gs,w.heap.size≤g):AvT (fun g=>g∉gs) a ts:=by
  obtain ⟨g,o,h1,h2⟩:=h
  refine ⟨fun g' o' m h0 e hm=>?_,fun i hi hn g' o' m e hm=>?_⟩
  · have h3:=h1 h0
    rw [e] at h3
    have:=(h2 0 h0).lt2
    have h4:=hg g' hm
    simp only [Option.some.injEq,Addr.mk.injEq] at h3
    omega
  · obtain ⟨a',cap,e0,e1,e2,e3,e4⟩:=(h2 i hi).rd
    rcases e4 with e4 | ⟨gm,om,q1,q2,q3,q4⟩
    · exact hn e4
    · simp only [Value.slice.injEq] at e0
      rw [e,q1] at e0
      have h4:=hg g' hm
      simp only [Option.some.injEq,Addr.mk.injEq] at e0
      omega
theorem QeW (ts : List NdV) (a_t:Option Addr) (c_t:Nat) (w:World):Calls Tryd.prog 47 #[.slice a_t ts.length c_t] w (QbH w (fun v W=>∃ g1,v=.func (.func 66) #[] #[.pointer (some ⟨g1,0,none⟩)]∧w.heap.size≤g1∧W.heap[g1]? = some (.cells #[.slice a_t ts.length c_t] 23))):=by
  refine enter 4 [(0,.slice a_t ts.length c_t)] Tryd.func47 rfl rfl kj rfl ?_
  refine wp_seq_k fun K1 hK1=>?_
  refine Qab ?_
  refine Qap (#[.slice a_t ts.length c_t]) 23 1 rfl kj kj fun g2 W1 l2 e1 r2_1=>?_
  have x1:Ext w W1:=Ext.tr (Rely.Ext.refl w) e1
  have b2:w.heap.size≤g2:=qT (Rely.Ext.refl w).size l2
  refine Qaa (.nilFunc) 2 rfl kj kj ?_
  refine Qae ?_
  refine hK1 _ _ ?_
  refine wp_seq_k fun K3 hK3=>?_
  refine Qab ?_
  refine Qaa (.func (.func 66) #[] #[.pointer (some ⟨g2,0,none⟩)]) 3 rfl kj kj ?_
  refine Qaa (.func (.func 66) #[] #[.pointer (some ⟨g2,0,none⟩)]) 2 rfl kj kj ?_
  refine Qae ?_
  refine hK3 _ _ ?_
  refine wp_ret ?_
  repeat (first | with_reducible refine goR1 ?_ | with_reducible refine goR2 ?_)
  exact (show bodyPost _ _ _ .ret _ _ from ret1 (.func (.func 66) #[] #[.pointer (some ⟨g2,0,none⟩)]) rfl (Qam kj) ⟨_,rfl,x1,g2,rfl,b2,r2_1⟩)
theorem Qj5 {ts : List NdV} {nm:Int} {k L:Nat} (hL2:2*L≤ts.length+1) (htl:ts.length≤100000) (hL:leaves ((ts.length:Nat):Int)=((L:Nat):Int)) (h:k<L→(ndi ts (2*k)).n.us=true→(nod ts k).n.nm≠nm) (hk0:ts.length<2*L+1:=by omega):fitT ts nm k=false:=by
  unfold fitT
  by_cases h1:2*k<ts.length
  · rw [decide_eq_true h1]
    cases hu:(ndi ts (2*k)).n.us with
    | false=>rfl
    | true =>
      have:=h (by omega) hu
      rw [Qf4 h1] at this
      rw [beq_eq_false_iff_ne.2 this]; rfl
  · rw [decide_eq_false h1]; rfl
set_option maxRecDepth 100000 in
theorem Qij (ts : List NdV) (a_t:Option Addr) (c_t B1:Nat) (w:World) (ht:TrAt B1 w a_t ts) (htl:ts.length≤100000) (L:Nat) (hL:leaves ((ts.length:Nat):Int)=((L:Nat):Int)) (hL2:2*L≤ts.length+1) (hL3:L≤32) (hlen:ts.length+1=2*L) (nm:Int):Calls Tryd.prog 46 #[.slice a_t ts.length c_t,.int .i64 nm] w (Ret w (.int .i64 (QaG ts nm))):=by
 refine Qdf 16 [(0,.slice a_t ts.length c_t),(1,.int .i64 nm)] Tryd.func46 rfl rfl kj rfl ?_
 refine wp_seq_k fun K1 hK1=>?_
 refine Qab ?_
 refine Qap (#[.int .i64 nm]) 3 3 rfl kj kj fun g2 W1 l2 e1 r2_1=>?_
 have x1:Ext w W1:=Ext.tr (Rely.Ext.refl w) e1
 have b2:w.heap.size≤g2:=qT (Rely.Ext.refl w).size l2
 refine Qap (#[.int .i64 0]) 3 4 rfl kj kj fun g3 W2 l3 e2 r3_2=>?_
 have x2:Ext w W2:=Ext.tr x1 e2
 have b3:w.heap.size≤g3:=qT x1.size l3
 refine Qae ?_
 refine hK1 _ _ ?_
 refine wp_seq_k fun K4 hK4=>?_
 refine wp_seq_k fun K5 hK5=>?_
 refine Qab ?_
 refine Qaa (.slice a_t ts.length c_t) 7 rfl kj kj ?_
 refine Qa7 (fun v W'=>(fun v W=>∃ g1,v=.func (.func 66) #[] #[.pointer (some ⟨g1,0,none⟩)]∧W2.heap.size≤g1∧W.heap[g1]? = some (.cells #[.slice a_t ts.length c_t] 23)) v W'∧Ext W2 W') 47 #[.slice a_t ts.length c_t] 8 rfl kj kj ((QeW ts a_t c_t _).mono (by rintro e w' ⟨v,rfl,e1,hv⟩; exact ⟨v,rfl,hv,e1⟩)) fun vv6 W3 hh6=>?_
 obtain ⟨hv6,e3⟩:=hh6
 have x3:Ext w W3:=Ext.tr x2 e3
 obtain ⟨gp1,rfl,lp1,rp1⟩:=hv6
 refine Qae ?_
 refine hK5 _ _ ?_
 refine wp_block ?_
 have r2_2:=(Qah r2_1 e2)
 have r2_3:=(Qah r2_2 e3)
 have r3_3:=(Qah r3_2 e3)
 refine QfU (gf:=66) (lb:=#[.pointer (some ⟨gp1,0,none⟩)]) (enc:=fun z:Nat=>.int .i64 ((z:Nat):Int)) (enc2:=fun z:Nat=>.agg (cat (ndP (nod ts z)))) kj (enters_of Tryd.func66 kj rfl) (Qdb 2 [] gp1 ts a_t c_t B1 W3 (TrAt.ext ht x3) htl L hL hL2 hL3 rp1 QcZ (Qes _ _)) (fun h k=>QaI.trans h k) QaI.book (Below.refl _ _)
   (fun pre W=>((W.heap[g2]? = some (.cells (#[.int .i64 nm]) 3))∧(W.heap[g3]? = some (.cells (#[.int .i64 0]) 3))∧W3.heap.size≤W.heap.size)∧(∀ u∈pre,(nod ts u).n.nm≠nm)∧Ext w W)
   (fun c pre W=>(c=.ret∧∃ q z,pre=q++[z]∧(∀ u∈q,(nod ts u).n.nm≠nm)∧(nod ts z).n.nm=nm∧(W.heap[g3]? = some (.cells (#[.int .i64 ((z:Nat):Int)]) 3)))∧Ext w W) (OwnFrom.and (Own.from (fun s A B row hs hg hr=>⟨QaL hs.1 hg hr,QaL hs.2.1 hg hr,qT hs.2.2 hg.size⟩) _) (OwnFrom.and (Own.from (fun _ _ _ _ hs _ _=>hs) _) (ownFrom_below (qR _) x3.size))) (fun c=>OwnFrom.and (Own.from (fun s A B row hs hg hr=>by obtain ⟨e,q,z,e1,e2,e3,r⟩:=hs; exact ⟨e,q,z,e1,e2,e3,QaL r hg hr⟩) _) (ownFrom_below (qR _) x3.size)) ⟨⟨r2_3,r3_3,qR _⟩,(fun u hu=>by cases hu),x3⟩ (fun e=>QaI.ext e) (fun pre A B h e=>⟨⟨Qah h.1.1 e,Qah h.1.2.1 e,qT h.1.2.2 e.size⟩,h.2.1,Rely.Ext.trans h.2.2 e⟩) (fun pre W h=>h.1.2.2) (fun z g=>[(6,.pointer (some ⟨g,0,none⟩)),(5,.int .i64 ((z:Nat):Int)),(10,.agg (cat [#[.bool (nod ts z).n.us],#[.int .i64 ((nod ts z).n.nm)],ints .u8 ((nod ts z).n.key),ints .u8 ((nod ts z).n.sg),ints .u8 ((nod ts z).n.pa),#[.slice ((nod ts z).a) ((nod ts z).n.ms.length) ((nod ts z).c)]])),(9,.int .i64 ((z:Nat):Int))]) (fun z=>(cat [#[.bool (nod ts z).n.us],#[.int .i64 ((nod ts z).n.nm)],ints .u8 ((nod ts z).n.key),ints .u8 ((nod ts z).n.sg),ints .u8 ((nod ts z).n.pa),#[.slice ((nod ts z).a) ((nod ts z).n.ms.length) ((nod ts z).c)]])) 41 (fun l z W K hK=>?_) (fun l pre z gP Wr hgP hI rP hp=>?_) (fun D ys W lD hS hI rD=>?_) (fun D c pre W lD hSp hIx rD=>?_)
 ·skip
  refine wpIn_seq_k fun K301 hK301=>?_
  refine Qa1 ?_
  refine Qay (.int .i64 ((z:Nat):Int)) 5 rfl (Qan l 1 _) rfl kj kj ?_
  refine Qba ?_
  refine hK301 _ _ ?_
  refine Qa1 ?_
  refine Qff (cat [#[.bool false],#[.int .i64 0],ints .u8 (List.replicate 32 0),ints .u8 (List.replicate 32 0),ints .u8 (List.replicate 32 0),#[.slice none 0 0]]) 41 6 rfl (Qan l 1 _) rfl kj kj fun g302 W1 l302 e1 r302_1=>?_
  have x1:Ext W W1:=Ext.tr (Rely.Ext.refl W) e1
  have b302:W.heap.size≤g302:=qT (Rely.Ext.refl W).size l302
  refine QbJ g302 _ (cat [#[.bool (nod ts z).n.us],#[.int .i64 ((nod ts z).n.nm)],ints .u8 ((nod ts z).n.key),ints .u8 ((nod ts z).n.sg),ints .u8 ((nod ts z).n.pa),#[.slice ((nod ts z).a) ((nod ts z).n.ms.length) ((nod ts z).c)]]) 41 r302_1 rfl (Qan l 1 _) rfl kj (QaE 41 _ _ g302 41 _ _ r302_1 rfl kj kj (isz (n:=99) kj (by rw [Qac,Qac,Qac,Qac,Qac,Qac]; simp only [qS,cat,((Qaf _ _).trans (Qb1 ht z).1.gl),((Qaf _ _).trans (Qb1 ht z).1.kl),((Qaf _ _).trans (Qb1 ht z).1.pl)]; rfl)) (eqsz (n:=99) (by rw [Qac,Qac,Qac,Qac,Qac,Qac]; simp only [qS,cat,((Qaf _ _).trans (qZ (n:=32)))]; rfl) (by rw [Qac,Qac,Qac,Qac,Qac,Qac]; simp only [qS,cat,((Qaf _ _).trans (Qb1 ht z).1.gl),((Qaf _ _).trans (Qb1 ht z).1.kl),((Qaf _ _).trans (Qb1 ht z).1.pl)]; rfl)) (Qbt _ (by intro a ha; simp only [List.mem_cons,List.not_mem_nil,or_false] at ha; rcases ha with rfl | rfl | rfl | rfl | rfl | rfl; exact (Qa2 _ rfl); exact (Qa2 _ rfl); exact (Qa3 _ _); exact (Qa3 _ _); exact (Qa3 _ _); exact (Qa2 _ rfl)))) fun W2 p2 r302_2=>?_
  have x2:Ext W W2:=Puts.ext p2 x1 b302
  refine Qba ?_
  have y0_1:Ext W W1:=(Rely.Ext.trans (Rely.Ext.refl W) e1)
  have y0_2:Ext W W2:=(Puts.ext p2 y0_1 l302)
  exact hK _ _ l302 y0_2 r302_2
 ·skip
  obtain ⟨⟨q3,q4,hsz⟩,hne,xx⟩:=hI
  refine wpIn_block ?_
  refine wpIn_seq_k fun K504 hK504=>?_
  refine Qa1 ?_
  refine Qay (.pointer (some ⟨gP,1,none⟩)) 11 rfl (Qan l 1 _) rfl kj kj ?_
  refine Qay (.int .i64 ((nod ts z).n.nm)) 12 rfl (Qan l 1 _) rfl kj (Qag 3 _ gP 1 41 _ (.int .i64 ((nod ts z).n.nm)) _ rP rfl kj (Qak [#[.bool (nod ts z).n.us]] [#[.int .i64 ((nod ts z).n.nm)]] [ints .u8 ((nod ts z).n.key),ints .u8 ((nod ts z).n.sg),ints .u8 ((nod ts z).n.pa),#[.slice ((nod ts z).a) ((nod ts z).n.ms.length) ((nod ts z).c)]] 1 kj 0 _ rfl) kj) ?_
  refine Qay (.int .i64 nm) 13 rfl (Qan l 1 _) rfl kj (Qag 3 _ g2 0 3 _ (.int .i64 nm) _ q3 rfl kj kj kj) ?_
  refine Qay (.bool ((((nod ts z).n.nm)==nm))) 14 rfl (Qan l 1 _) rfl kj kj ?_
  refine Qba ?_
  refine hK504 _ _ ?_
  refine Qb5 (t:=(((nod ts z).n.nm)==nm)) kj (fun c505=>?_) (fun c505=>?_)
  ·skip
   have hnz:(nod ts z).n.nm=nm:=beq_iff_eq.1 c505
   refine wpIn_seq_k fun K506 hK506=>?_
   refine Qa1 ?_
   refine Qay (.int .i64 ((z:Nat):Int)) 15 rfl (Qan l 1 _) rfl kj kj ?_
   refine QbJ g3 _ (#[.int .i64 ((z:Nat):Int)]) 3 q4 rfl (Qan l 1 _) rfl kj (Qa4 3 _ _ g3 0 3 _ (.int .i64 ((z:Nat):Int)) q4 rfl kj kj kj kj kj rfl) fun W1 p1 r502_1=>?_
   have x1:Ext w W1:=Puts.ext p1 xx b3
   refine Qba ?_
   refine hK506 _ _ ?_
   refine wpIn_ret ?_
   repeat (first | with_reducible refine goR1 ?_ | with_reducible refine goR2 ?_)
   exact ⟨(QbF p1 q4),⟨rfl,pre,z,rfl,hne,hnz,r502_1⟩,x1⟩
  ·skip
   have hnz:(nod ts z).n.nm≠nm:=beq_eq_false_iff_ne.1 c505
   refine wpIn_skip ?_
   repeat (first | with_reducible refine goX1 ?_ | with_reducible refine goX2 ?_ | with_reducible refine goX3 ?_)
   exact ⟨(KeepsOthers.refl _),QaI.ext (Rely.Ext.refl Wr),⟨q3,q4,hsz⟩,(fun u hu=>by rcases List.mem_append.1 hu with h | h; exact hne u h; rw [List.mem_singleton.1 h]; exact hnz),xx⟩
 ·obtain ⟨⟨q3,q4,-⟩,hne,xx⟩:=hI
  subst hS
  have bD:w.heap.size≤D:=qT x3.size lD
  have hfin:QaG ts nm=-1:=Qih fun k hk=>Qj5 hL2 htl hL (fun h1 h2=>hne k (QbN.2 ⟨h1,h2⟩))
  refine hK4 _ _ ?_
  refine wp_seq_k fun K8 hK8=>?_
  refine Qab ?_
  refine Qa5 g3 _ (#[.int .i64 (-1)]) 3 q4 rfl kj (Qa4 3 _ _ g3 0 3 _ (.int .i64 (-1)) q4 rfl kj kj kj kj kj rfl) fun W5 p5 r3_5=>?_
  have x5:Ext w W5:=Puts.ext p5 xx b3
  refine Qae ?_
  refine hK8 _ _ ?_
  refine wp_ret ?_
  repeat (first | with_reducible refine goR1 ?_ | with_reducible refine goR2 ?_)
  have r7_5:=(Puts.row p5 rD (QcO q4 rD))
  exact (show bodyPostM _ _ _ _ _ .ret _ _ from QgX (.int .i64 (-1)) rfl r7_5 (Qbp g3 3 _ (.int .i64 (-1)) (Qcu r3_5 r7_5 _) kj kj rfl) ⟨congrArg (fun z=>Ending.returned (.int .i64 z)) hfin.symm,QbI x5 bD r7_5 _⟩)
 ·obtain ⟨⟨rfl,q,z,rfl,hne,hnz,q4⟩,xx⟩:=hIx
  obtain ⟨k0,hk0,hus,e0⟩:=hSp
  obtain ⟨rfl,e1⟩:=List.append_inj' e0 rfl
  obtain rfl:z=k0:=by simpa using e1
  have bD:w.heap.size≤D:=qT x3.size lD
  rw [Qf4 (by omega)] at hnz
  have hfin:QaG ts nm=((z:Nat):Int):=QgB (by omega) (by unfold fitT; rw [decide_eq_true (show 2*z<ts.length by omega),hus,hnz]; simp) fun k hk=>Qj5 hL2 htl hL (fun h1 h2=>hne k (QbN.2 ⟨hk,h2⟩))
  refine wp_ret ?_
  repeat (first | with_reducible refine goR1 ?_ | with_reducible refine goR2 ?_)
  exact (show bodyPostM _ _ _ _ _ .ret _ _ from QgX (.int .i64 ((z:Nat):Int)) rfl rD (Qbp g3 3 _ (.int .i64 ((z:Nat):Int)) (Qcu q4 rD _) kj kj rfl) ⟨congrArg (fun z=>Ending.returned (.int .i64 z)) hfin.symm,QbI xx bD rD _⟩)
set_option maxRecDepth 100000 in
theorem QjC (ts : List NdV) (a_t:Option Addr) (c_t B1:Nat) (w:World) (ht:TrAt B1 w a_t ts) (htl:ts.length≤100000) (L:Nat) (hL:leaves ((ts.length:Nat):Int)=((L:Nat):Int)) (hL2:2*L≤ts.length+1) (hL3:L≤32) (b:Bool) (hb:((((QaD ts L).length:Nat):Int)==1)=b):Calls Tryd.prog 59 #[.slice a_t ts.length c_t] w (Ret w (.bool b)):=by
 refine Qdf 12 [(0,.slice a_t ts.length c_t)] Tryd.func59 rfl rfl kj rfl ?_
 refine wp_seq_k fun K1 hK1=>?_
 refine Qab ?_
 refine Qaa (.bool false) 2 rfl kj kj ?_
 refine Qae ?_
 refine hK1 _ _ ?_
 refine wp_seq_k fun K2 hK2=>?_
 refine Qab ?_
 refine Qap (#[.int .i64 0]) 3 3 rfl kj kj fun g3 W1 l3 e1 r3_1=>?_
 have x1:Ext w W1:=Ext.tr (Rely.Ext.refl w) e1
 have b3:w.heap.size≤g3:=qT (Rely.Ext.refl w).size l3
 refine Qa5 g3 _ (#[.int .i64 0]) 3 r3_1 rfl kj (Qa4 3 _ _ g3 0 3 _ (.int .i64 0) r3_1 rfl kj kj kj kj kj rfl) fun W2 p2 r3_2=>?_
 have x2:Ext w W2:=Puts.ext p2 x1 b3
 refine Qae ?_
 refine hK2 _ _ ?_
 refine wp_seq_k fun K4 hK4=>?_
 refine wp_seq_k fun K5 hK5=>?_
 refine Qab ?_
 refine Qaa (.slice a_t ts.length c_t) 4 rfl kj kj ?_
 refine Qa7 (fun v W'=>(fun v W=>∃ g1,v=.func (.func 66) #[] #[.pointer (some ⟨g1,0,none⟩)]∧W2.heap.size≤g1∧W.heap[g1]? = some (.cells #[.slice a_t ts.length c_t] 23)) v W'∧Ext W2 W') 47 #[.slice a_t ts.length c_t] 5 rfl kj kj ((QeW ts a_t c_t _).mono (by rintro e w' ⟨v,rfl,e1,hv⟩; exact ⟨v,rfl,hv,e1⟩)) fun vv6 W3 hh6=>?_
 obtain ⟨hv6,e3⟩:=hh6
 have x3:Ext w W3:=Ext.tr x2 e3
 obtain ⟨gp1,rfl,lp1,rp1⟩:=hv6
 refine Qae ?_
 refine hK5 _ _ ?_
 refine wp_block ?_
 have r3_3:=(Qah r3_2 e3)
 have hgs:∀ g∈[g3],w.heap.size≤g:=fun g hg=>by rw [List.mem_singleton.1 hg]; exact b3
 have hn1:gp1∉[g3]:=Qef (Nat.ne_of_gt (qL (QaB r3_2) lp1)) QcZ
 refine Qf1 (gf:=66) (lb:=#[.pointer (some ⟨gp1,0,none⟩)]) (enc:=fun z:Nat=>.int .i64 ((z:Nat):Int)) (enc2:=fun z:Nat=>.agg (cat (ndP (nod ts z)))) kj (enters_of Tryd.func66 kj rfl) (Qdb 2 [g3] gp1 ts a_t c_t B1 W3 (TrAt.ext ht x3) htl L hL hL2 hL3 rp1 hn1 (Qis ht hgs)) (fun h k=>QaI.trans h k) QaI.book (Below.refl _ _)
   (fun pre W=>(W.heap[g3]? = some (.cells (#[.int .i64 ((pre.length:Nat):Int)]) 3))∧Ext w W)
   (fun c pre W=>False∧Ext w W) (OwnFrom.and (Own.from (I:=fun (pre:List Nat) W=>W.heap[g3]? = some (.cells (#[.int .i64 ((pre.length:Nat):Int)]) 3)) (fun s A B row hs hg hr=>QaL hs hg hr) _) (ownFrom_below (qR _) x3.size)) (fun c=>OwnFrom.and (Own.from (fun _ _ _ _ hs _ _=>hs) _) (ownFrom_below (qR _) x3.size)) ⟨r3_3,x3⟩ (fun z=>[(7,.agg (cat (ndP (nod ts z)))),(6,.int .i64 ((z:Nat):Int))]) (fun l z W K hK=>?_) (fun l pre z Wr hI hp=>?_) (fun D ys W lD hS hI rD=>?_) (fun D c pre W lD hSp hIx rD=>?_)
 ·exact wpIn_skip hK
 ·skip
  obtain ⟨q3,xx⟩:=hI
  have hl1:(pre++[z]).length=pre.length+1:=by simp
  refine wpIn_block ?_
  refine Qa1 ?_
  refine Qay (.int .i64 ((pre.length:Nat):Int)) 8 rfl (Qan l 1 _) rfl kj (Qag 3 _ g3 0 3 _ (.int .i64 ((pre.length:Nat):Int)) _ q3 rfl kj kj kj) ?_
  refine Qay (.int .i64 ((pre.length+1:Nat):Int)) 9 rfl (Qan l 1 _) rfl kj (Qai (u:=.int .i64 (IntKind.i64.wrap (((pre.length:Nat):Int)+1))) kj (congrArg (Value.int .i64) (i64n _ _ (by omega) (by omega)))) ?_
  refine QbJ g3 _ (#[.int .i64 ((pre.length+1:Nat):Int)]) 3 q3 rfl (Qan l 1 _) rfl kj (Qa4 3 _ _ g3 0 3 _ (.int .i64 ((pre.length+1:Nat):Int)) q3 rfl kj kj kj kj kj rfl) fun W1 p1 r501_1=>?_
  have x1:Ext w W1:=Puts.ext p1 xx b3
  refine Qba ?_
  repeat (first | with_reducible refine goX1 ?_ | with_reducible refine goX2 ?_ | with_reducible refine goX3 ?_)
  exact ⟨(QbF p1 q3),QaI.keeps (QaQ.puts (QaQ.refl [g3] Wr) p1 (.inl (by simp))),(by rw [hl1]; exact r501_1),x1⟩
 ·obtain ⟨q3,xx⟩:=hI
  subst hS
  have bD:w.heap.size≤D:=qT x3.size lD
  refine hK4 _ _ ?_
  refine wp_seq_k fun K8 hK8=>?_
  refine Qab ?_
  refine Qaa (.int .i64 (((QaD ts L).length:Nat):Int)) 10 rfl kj (Qag 3 _ g3 0 3 _ (.int .i64 (((QaD ts L).length:Nat):Int)) _ q3 rfl kj kj kj) ?_
  refine Qaa (.bool (b)) 11 rfl kj (Qai (u:=.bool (((((QaD ts L).length:Nat):Int)==1))) kj (congrArg Value.bool hb)) ?_
  refine Qaa (.bool (b)) 2 rfl kj kj ?_
  refine Qae ?_
  refine hK8 _ _ ?_
  refine wp_ret ?_
  repeat (first | with_reducible refine goR1 ?_ | with_reducible refine goR2 ?_)
  exact (show bodyPostM _ _ _ _ _ .ret _ _ from QgX (.bool (b)) rfl rD (Qam kj) ⟨rfl,QbI xx bD rD _⟩)
 ·exact hIx.1.elim
theorem Qip {ts : List NdV} (htl:ts.length≤100000) (h:chkT ts=true):∃ L:Nat,leaves ((ts.length:Nat):Int)=((L:Nat):Int)∧L≤32∧ts.length+1=2*L∧Qax ((L:Nat):Int)=true:=by
  obtain ⟨L,hL,hL2,hL3,hL4⟩:=Qdu ts.length htl
  have h0:L≠0:=fun e=>by rw [chk0 (Qbx hL) e] at h; cases h
  exact ⟨L,hL,hL3,hL4 h0⟩
set_option maxRecDepth 100000 in
theorem QlJ (ts : List NdV) (a_t:Option Addr) (c_t B1:Nat) (w:World) (ht:TrAt B1 w a_t ts) (htl:ts.length≤100000) (hmt:∀ i,i<ts.length→(ndi ts i).n.ms.length≤1000000) (hT:TabAt w) (nm:Int) (h:chkT ts=true):Calls Tryd.prog 18 #[.slice a_t ts.length c_t,.int .i64 nm] w (Ret w (.int .i64 (QaG ts nm))):=by
  obtain ⟨L,hL,hL3,hlen,-⟩:=Qip htl h
  refine enter 11 [(0,.slice a_t ts.length c_t),(1,.int .i64 nm)] Tryd.func18 rfl rfl kj rfl ?_
  refine wp_seq_k fun K1 hK1=>?_
  refine Qab ?_
  refine Qaa (.int .i64 0) 4 rfl kj kj ?_
  refine Qae ?_
  refine hK1 _ _ ?_
  refine wp_seq_k fun K2 hK2=>?_
  refine wp_seq_k fun K3 hK3=>?_
  refine Qab ?_
  refine Qaa (.slice a_t ts.length c_t) 5 rfl kj kj ?_
  refine Qal (.nilIface) 11 #[.slice a_t ts.length c_t] 6 rfl kj kj (Qca ts a_t c_t _ _ (TrAt.ext ht (Rely.Ext.refl w)) htl hmt (TabAt.ext hT (Rely.Ext.refl w)) h) fun W1 e1=>?_
  have x1:Ext w W1:=Ext.tr (Rely.Ext.refl w) e1
  refine Qaa (.bool false) 7 rfl kj kj ?_
  refine Qae ?_
  refine hK3 _ _ ?_
  refine cond_false kj ?_
  refine wp_skip ?_
  refine hK2 _ _ ?_
  refine wp_seq_k fun K4 hK4=>?_
  refine Qab ?_
  refine Qaa (.slice a_t ts.length c_t) 8 rfl kj kj ?_
  refine Qaa (.int .i64 nm) 9 rfl kj kj ?_
  refine Qal (.int .i64 (QaG ts nm)) 46 #[.slice a_t ts.length c_t,.int .i64 nm] 10 rfl kj kj (Qij ts a_t c_t _ _ (TrAt.ext ht x1) htl L hL (by omega) hL3 hlen nm) fun W2 e2=>?_
  have x2:Ext w W2:=Ext.tr x1 e2
  refine Qaa (.int .i64 (QaG ts nm)) 4 rfl kj kj ?_
  refine Qae ?_
  refine hK4 _ _ ?_
  refine wp_ret ?_
  repeat (first | with_reducible refine goR1 ?_ | with_reducible refine goR2 ?_)
  exact (show bodyPost _ _ _ .ret _ _ from ret1 (.int .i64 (QaG ts nm)) rfl (Qam kj) ⟨rfl,x2⟩)
end Go.Proofs.YtcmaolmofgmkhaaDoor.Te
end
section
namespace Go.Proofs.YtcmaolmofgmkhaaDoor.Te
open Go Go.RowKit Go.Shelf
open Rely Auto Own Seat
def fren : Nat→Nat
  | 21=>72
  | 25=>71
  | 27=>82
  | 28=>83
  | 35=>87
  | 39=>88
  | 31=>80
  | 32=>81
  | 37=>86
  | n=>n
def tren : Nat→Nat
  | 0=>0
  | 3=>3
  | 4=>4
  | 22=>36
  | 40=>35
  | n=>n
def ren : Ren:=⟨fren,tren,fun n=>n⟩
theorem Qg3 : Lays2.n21 Tryd.prog ren:=⟨by kernel_rfl,by kernel_rfl,by kernel_rfl,by kernel_rfl,by kernel_rfl,by kernel_rfl,by kernel_rfl,fun w=>by kernel_rfl,fun w=>by kernel_rfl,fun w=>by kernel_rfl,by kernel_rfl,fun w=>by kernel_rfl,fun w=>by kernel_rfl,fun w=>by kernel_rfl,by kernel_rfl,fun w=>by kernel_rfl,fun w=>by kernel_rfl,fun w=>by kernel_rfl,by kernel_rfl,fun w=>by kernel_rfl,fun w=>by kernel_rfl,fun w=>by kernel_rfl,by kernel_rfl⟩
theorem Qj4 : Lays2.n25 Tryd.prog ren:=by
  constructor
  all_goals first | kernel_rfl | (intro w; kernel_rfl)
end Go.Proofs.YtcmaolmofgmkhaaDoor.Te
end
section
namespace Go.Proofs.YtcmaolmofgmkhaaDoor.Te
open Go Go.RowKit Go.Shelf
open Rely Auto Own Seat
theorem QaK (vs : List Value):∀ (cur:Array Value) (k:Nat),(splice cur k vs).size=cur.size:=by
  induction vs with
  | nil=>intro cur k; rfl
  | cons v r ih=>intro cur k; rw [splice,ih]; simp
theorem QfN {w : World} {b o:Nat} {cur:Array Value} {T:TypeId} (v:Value) (h:w.heap[b]? = some (.cells cur T)):(w.setCell ⟨b,o,none⟩ v).heap[b]? = some (.cells (cur.setIfInBounds o v) T):=by
  unfold World.setCell
  simp only [Array.getElem?_modify,h]
  simp
theorem QfO {w : World} {b o k:Nat} (v:Value) (h:k≠b):(w.setCell ⟨b,o,none⟩ v).heap[k]? = w.heap[k]?:=by
  unfold World.setCell
  simp only [Array.getElem?_modify]
  rw [if_neg (fun e=>h e.symm)]
theorem Qbn (b : Nat) (T:TypeId):∀ (vs:List Value) (o:Nat) (w:World) (cur:Array Value),w.heap[b]? = some (.cells cur T)→(w.setCells b o vs).heap[b]? = some (.cells (splice cur o vs) T)∧(∀ k,k≠b→(w.setCells b o vs).heap[k]? = w.heap[k]?)∧(w.setCells b o vs).heap.size=w.heap.size∧(w.setCells b o vs).os=w.os∧(w.setCells b o vs).tape=w.tape∧(w.setCells b o vs).output=w.output
  | [],o,w,cur,h=>⟨h,fun _ _=>rfl,rfl,rfl,rfl,rfl⟩
  | v::r,o,w,cur,h=>by
    obtain ⟨h1,h2,h3,h4,h5,h6⟩:=Qbn b T r (o+1) (w.setCell ⟨b,o,none⟩ v) _ (QfN v h)
    refine ⟨h1,fun k hk=>(h2 k hk).trans (QfO v hk),?_,h4,h5,h6⟩
    rw [World.setCells,h3]
    unfold World.setCell
    simp
theorem Qie {b o:Nat} {T:TypeId} {vs:List Value} {w:World} {cur:Array Value} (h:w.heap[b]? = some (.cells cur T)):w.grownBy (w.setCells b o vs) (some b):=by
  obtain ⟨h1,h2,h3,h4,h5,h6⟩:=Qbn b T vs o w cur h
  exact ⟨h4,h5,h6,qE h3.symm,fun k _ hn=>h2 k (fun e=>hn (by rw [e]))⟩
def insA (xs : List Int) (c:Nat) (x:Int):List Int:=xs.take c++[x]++xs.drop c
theorem QcI {xs : List Int} {c:Nat} {x:Int} (h:c≤xs.length):(insA xs c x).length=xs.length+1:=by simp [insA]; omega
theorem Qjb {xs : List Int} {c:Nat} {x:Int} (h:c≤xs.length) (j:Nat):(insA xs c x)[j]? = if j<c then xs[j]? else if j=c then some x else xs[j-1]?:=by
  unfold insA
  by_cases h1:j<c
  · rw [if_pos h1,List.getElem?_append_left (by simp; omega),List.getElem?_append_left (by simp; omega),List.getElem?_take,if_pos h1]
  · rw [if_neg h1]
    by_cases h2:j=c
    · rw [if_pos h2,List.getElem?_append_left (by simp; omega),List.getElem?_append_right (by simp; omega)]
      simp [h2,Nat.min_eq_left h]
    · rw [if_neg h2,List.getElem?_append_right (by simp; omega),List.getElem?_drop]
      congr 1
      simp
      omega
theorem Qg5 {R : Array Value} {xs:List Int} {x:Int} {c n:Nat} (hn:xs.length=n) (hc:c≤n) (hs:n+1≤R.size) (h1:∀ j,j<c→R[j]? = (xs.map (Value.int .i64))[j]?) (h2:R[c]? = some (.int .i64 x)) (h3:∀ j,c<j→j<n+1→R[j]? = (xs.map (Value.int .i64))[j-1]?) :
    R.toList.take (n+1)=(insA xs c x).map (Value.int .i64):=by
  subst hn
  apply List.ext_getElem?
  intro j
  rw [List.getElem?_map,Qjb hc]
  by_cases hj:j<xs.length+1
  · rw [List.getElem?_take,if_pos hj,Array.getElem?_toList]
    by_cases q1:j<c
    · rw [h1 j q1,if_pos q1,List.getElem?_map]
    · rw [if_neg q1]
      by_cases q2:j=c
      · rw [if_pos q2,q2,h2]; rfl
      · rw [if_neg q2,h3 j (by omega) hj,List.getElem?_map]
  · rw [List.getElem?_eq_none (by simp; omega),if_neg (by omega),if_neg (by omega),List.getElem?_eq_none (by omega)]; rfl
theorem QeP {cur : Array Value} {xs:List Int} {n:Nat} (hn:xs.length=n) (ht:cur.toList.take n=xs.map (Value.int .i64)) (j:Nat) (hj:j<n):cur[j]? = (xs.map (Value.int .i64))[j]?:=by
  rw [←ht,List.getElem?_take,if_pos hj,Array.getElem?_toList]
theorem QbU {w : World} {g o:Nat} {cur:Array Value} {T:TypeId} (r:w.heap[g]? = some (.cells cur T)):w.cell? ⟨g,o,none⟩=cur[o]?:=by unfold World.cell?; simp [r]
theorem Qg0 (xs : List Int):∀ v∈xs.map (Value.int .i64),v.oneCell'=true:=fun v hv=>by obtain ⟨x,_,rfl⟩:=List.mem_map.1 hv; rfl
theorem Qdk (n : Nat):(Builtin.zeroCells (Value.int .i64 0).cells n).size=n:=by simp [Builtin.zeroCells,Value.cells]
/-- slices.Insert of one number -/
theorem Qk9 (xs : List Int) (x:Int) (c vb base:Nat) (v:Value) (w:World) (hb:base≤w.heap.size) (h:OwnN .i64 3 base xs v w) (hl:xs.length≤1000000) (hc:c≤xs.length) (rv:w.heap[vb]? = some (.cells #[.int .i64 x] 3)) (hne:v.ownBlock≠some vb) :
    Calls Tryd.prog 72 #[v,.int .i64 ((c:Nat):Int),.slice (some ⟨vb,0,none⟩) 1 1] w fun e W=>∃ u,e=.returned u∧OwnN .i64 3 base (insA xs c x) u W∧w.grownBy W v.ownBlock∧(u.ownBlock=v.ownBlock∨∃ g,u.ownBlock=some g∧w.heap.size≤g):=by
  have hL:=QcI (x:=x) hc
  have hvs:∀ j v,[Value.int .i64 x][j]? = some v→w.cell? ⟨vb,0+j,none⟩=some v:=fun j v hj=>by rw [Nat.zero_add,QbU rv,←hj]; simp
  have h1v:∀ v∈[Value.int .i64 x],v.oneCell'=true:=fun v hv=>by rw [List.mem_singleton.1 hv]; rfl
  have hcl:(xs.map (Value.int .i64)).length=xs.length:=List.length_map ..
  have grow:∀ (bs:Option Addr) (cp:Nat),v=.slice bs xs.length cp→xs.length≤cp→cp<xs.length+1→c=xs.length→(bs=none→xs.length=0)→(∀ a,bs=some a→∀ j v,(xs.map (Value.int .i64))[j]? = some v→w.cell? (a.add j)=some v)→Calls Tryd.prog 72 #[v,.int .i64 ((c:Nat):Int),.slice (some ⟨vb,0,none⟩) 1 1] w fun e W=>∃ u,e=.returned u∧OwnN .i64 3 base (insA xs c x) u W∧w.grownBy W v.ownBlock∧(u.ownBlock=v.ownBlock∨∃ g,u.ownBlock=some g∧w.heap.size≤g):=by
    intro bs cp hv h1 h2 hcx hnil hcs
    subst hv
    rw [hcx]
    refine (Any2.slices_Insert_int_end_grow Qg3 bs xs.length cp vb 0 1 1 (xs.map (Value.int .i64)) [.int .i64 x] w (by omega) h1 h2 (by omega) hcl rfl hnil hcs hvs h1v).mono ?_
    rintro e W ⟨rfl,rfl⟩
    have hge:=grownCap_ge w (xs.length+1) cp 3
    have hle:=grownCap_le_maxLen w (xs.length+1) cp 3 (by unfold maxLen; omega)
    obtain ⟨G,hG⟩:∃ G,G=grownCap w (xs.length+1) cp 3:=⟨_,rfl⟩
    have hG2:grownCap w (xs.length+1) cp (ren.t 3)=G:=hG.symm
    rw [hG2]
    rw [←hG] at hge hle
    obtain ⟨R0,hR0⟩:∃ R0:Array Value,R0=(xs.map (Value.int .i64)++[Value.int .i64 x]).toArray++Builtin.zeroCells (Value.int .i64 0).cells (G-(xs.length+1)):=⟨_,rfl⟩
    have hR0s:R0.size=G:=by rw [hR0,qS,Qdk]; simp; omega
    rw [←hR0]
    refine ⟨_,rfl,?_,?_,.inr ⟨_,rfl,qR _⟩⟩
    · rw [hcx] at hL
      refine QeS hL hb (heap_alloc_new w.drew (.cells R0 3)) hR0s hge hle ?_
      refine Qg5 rfl (qR _) (by omega) (fun j hj=>?_) ?_ (fun j h3 h4=>absurd h4 (by omega))
      · rw [hR0,Array.getElem?_append_left (by simp; omega),List.getElem?_toArray,List.getElem?_append_left (by simpa using hj)]
      · rw [hR0,Array.getElem?_append_left (by simp),List.getElem?_toArray,List.getElem?_append_right (by simp)]; simp
    · have e:=Rely.Ext.trans (Qa0 w) (QbO w.drew (.cells R0 3))
      exact ⟨e.os,e.tape,e.output,e.size,fun k hk _=>e.block k hk⟩
  rcases h.1.2 with ⟨hv,h0⟩ | ⟨g,cp,cur,hv,hg,hr,h4,h5,h6,h7⟩
  · have h0':xs=[]:=List.length_eq_zero_iff.1 h0
    exact grow none 0 (by rw [hv,h0]) (by omega) (by omega) (by omega) (fun _=>h0) (fun a e=>by cases e)
  · rw [Nat.mul_one] at h6 h7
    have hcs:∀ j v,(xs.map (Value.int .i64))[j]? = some v→w.cell? ⟨g,0+j,none⟩=some v:=fun j v hj=>by
      have hjl:=(List.getElem?_eq_some_iff.1 hj).1
      rw [hcl] at hjl
      rw [Nat.zero_add,QbU hr,QeP rfl h7 j hjl,hj]
    by_cases hroom:xs.length+1≤cp
    · have hsp:∀ j,j<xs.length+1→(w.cell? ⟨g,0+j,none⟩).isSome=true:=fun j hj=>by rw [Nat.zero_add,QbU hr,Array.getElem?_eq_getElem (by omega)]; rfl
      have hfz:∀ j,w.frozen? ⟨g,j,none⟩=false:=fun j=>by unfold World.frozen?; simp [hr]
      have hcp:cp≤9223372036854775807:=by unfold maxLen at h5; omega
      by_cases hce:c=xs.length
      · subst hv
        rw [hce]
        refine (Any2.slices_Insert_int_end_room Qg3 g 0 xs.length cp vb 0 1 1 [.int .i64 x] w (by omega) hroom hcp rfl (fun j hj=>by rw [Nat.zero_add]; have:=hsp (xs.length+j) (by omega); rwa [Nat.zero_add] at this) (fun j hj=>hfz _) hvs h1v).mono ?_
        rintro e W ⟨rfl,rfl⟩
        rw [Nat.zero_add]
        refine ⟨_,rfl,?_,Qie hr,.inl rfl⟩
        rw [hce] at hL
        refine QeS hL hg (Qbn g 3 [.int .i64 x] xs.length w cur hr).1 ((QaK _ _ _).trans h6) hroom h5 (Qg5 rfl (qR _) (by rw [QaK]; omega) (fun j hj=>?_) ?_ (fun j q1 q2=>absurd q2 (by omega)))
        · rw [QaU _ _ _ (by simp; omega),if_neg (by omega)]; exact QeP rfl h7 j hj
        · rw [QaU _ _ _ (by simp; omega),if_pos (by simp)]; simp
      · subst hv
        refine (Any2.slices_Insert_int_shift Qg3 g 0 xs.length cp c vb 0 1 1 (xs.map (Value.int .i64)) [.int .i64 x] w (by omega) (by omega) hroom hcp (fun e=>hne (by rw [e]; rfl)) hcl rfl hcs hsp (fun j _=>hfz _) hvs (Qg0 xs) h1v 3 3 1 cur.size (by unfold World.shape?; simp [rv]) (by unfold World.shape?; simp [hr]) (by omega) (by unfold World.frozen?; simp [rv]) (by unfold World.frozen?; simp [rv])).mono ?_
        rintro e W ⟨rfl,rfl⟩
        rw [Nat.zero_add,Nat.zero_add]
        have hr1:=Qbn g 3 ((xs.map (Value.int .i64)).drop c) (c+1) w.drew cur hr
        have hr2:=Qbn g 3 [.int .i64 x] c _ _ hr1.1
        refine ⟨_,rfl,?_,⟨hr2.2.2.2.1.trans hr1.2.2.2.1,hr2.2.2.2.2.1.trans hr1.2.2.2.2.1,hr2.2.2.2.2.2.trans hr1.2.2.2.2.2,qE (hr2.2.2.1.trans hr1.2.2.1).symm,fun k _ hn=>(hr2.2.1 k (fun e=>hn (by rw [e]; rfl))).trans (hr1.2.1 k (fun e=>hn (by rw [e]; rfl)))⟩,.inl rfl⟩
        refine QeS hL hg hr2.1 ((QaK _ _ _).trans ((QaK _ _ _).trans h6)) hroom h5 (Qg5 rfl hc (by rw [QaK,QaK]; omega) (fun j hj=>?_) ?_ (fun j q1 q2=>?_))
        · rw [QaU _ _ _ (by rw [QaK]; simp; omega),if_neg (by omega),QaU _ _ _ (by simp; omega),if_neg (by omega)]; exact QeP rfl h7 j (by omega)
        · rw [QaU _ _ _ (by rw [QaK]; simp; omega),if_pos (by simp)]; simp
        · rw [QaU _ _ _ (by rw [QaK]; simp; omega),if_neg (by simp; omega),QaU _ _ _ (by simp; omega),if_pos (by simp; omega),List.getElem?_drop,show c+(j-(c+1))=j-1 by omega]
    · by_cases hce:c=xs.length
      · refine grow _ cp hv h4 (by omega) hce (fun e=>by cases e) (fun a e j v hj=>?_)
        obtain rfl:=Option.some.inj e
        rw [WideShapes.add_plain]; exact hcs j v hj
      · subst hv
        refine (Any2.slices_Insert_int_grow Qg3 g 0 xs.length cp c vb 0 1 1 (xs.map (Value.int .i64)) [.int .i64 x] w (by omega) (by omega) h4 (by omega) (by omega) hcl rfl hcs hvs (Qg0 xs) h1v).mono ?_
        rintro e W ⟨rfl,rfl⟩
        have hge:=grownCap_ge w (xs.length+1) cp 3
        have hle:=grownCap_le_maxLen w (xs.length+1) cp 3 (by unfold maxLen; omega)
        obtain ⟨G,hG⟩:∃ G,G=grownCap w (xs.length+1) cp 3:=⟨_,rfl⟩
        have hG2:grownCap w (xs.length+1) cp (ren.t 3)=G:=hG.symm
        rw [hG2]
        rw [←hG] at hge hle
        obtain ⟨R0,hR0⟩:∃ R0:Array Value,R0=((xs.map (Value.int .i64)).take c).toArray++Builtin.zeroCells (Value.int .i64 0).cells (xs.length+1-c)++Builtin.zeroCells (Value.int .i64 0).cells (G-(xs.length+1)):=⟨_,rfl⟩
        have hR0s:R0.size=G:=by rw [hR0]; simp only [qS,Qdk,List.size_toArray,List.length_take,hcl]; omega
        rw [←hR0]
        have hra:(w.alloc (.cells R0 3)).drew.heap[w.heap.size]? = some (.cells R0 3):=heap_alloc_new w _
        have hr1:=Qbn w.heap.size 3 [.int .i64 x] c _ _ hra
        have hr2:=Qbn w.heap.size 3 ((xs.map (Value.int .i64)).drop c) (c+1) (((w.alloc (.cells R0 3)).drew.setCells w.heap.size c [.int .i64 x]).drew) _ hr1.1
        have ea:=Rely.Ext.trans (QbO w (.cells R0 3)) (Qa0 _)
        refine ⟨_,rfl,?_,⟨hr2.2.2.2.1.trans (hr1.2.2.2.1.trans ea.os),hr2.2.2.2.2.1.trans (hr1.2.2.2.2.1.trans ea.tape),hr2.2.2.2.2.2.trans (hr1.2.2.2.2.2.trans ea.output),?_,fun k hk _=>(hr2.2.1 k (by omega)).trans ((hr1.2.1 k (by omega)).trans (ea.block k hk))⟩,.inr ⟨_,rfl,qR _⟩⟩
        · refine QeS hL hb hr2.1 ((QaK _ _ _).trans ((QaK _ _ _).trans hR0s)) hge hle (Qg5 rfl hc (by rw [QaK,QaK]; omega) (fun j hj=>?_) ?_ (fun j q1 q2=>?_))
          · rw [QaU _ _ _ (by rw [QaK]; simp; omega),if_neg (by omega),QaU _ _ _ (by simp; omega),if_neg (by omega),hR0,Array.getElem?_append_left (by simp [Qdk]; omega),Array.getElem?_append_left (by simp; omega),List.getElem?_toArray,List.getElem?_take,if_pos hj]
          · rw [QaU _ _ _ (by rw [QaK]; simp; omega),if_neg (by omega),QaU _ _ _ (by simp; omega),if_pos (by simp)]; simp
          · rw [QaU _ _ _ (by rw [QaK]; simp; omega),if_pos (by simp; omega),List.getElem?_drop,show c+(j-(c+1))=j-1 by omega]
        · exact qT ea.size (qE (hr2.2.2.1.trans hr1.2.2.1).symm)
end Go.Proofs.YtcmaolmofgmkhaaDoor.Te
end
section
namespace Go.Proofs.YtcmaolmofgmkhaaDoor.Te
open Go Go.RowKit
open Rely Auto Own Seat Sha
def posI (xs : List Int) (x:Int):Nat:=xs.countP (· < x)
theorem Qds (xs : List Int) (x:Int):posI xs x≤xs.length:=List.countP_le_length
theorem Qjq (xs : List Int) (x:Int) (base:Nat) (v:Value) (w:World) (h:OwnN .i64 3 base xs v w) (hl:xs.length≤1000000) (hs:xs.Pairwise (·≤·)):Calls Tryd.prog 71 #[v,.int .i64 x] w (Ret w (.tuple #[.int .i64 ((posI xs x:Nat):Int),.bool (xs.contains x)])):=by
  rcases h.1.2 with ⟨hv,h0⟩ | ⟨g,cp,cur,hv,hg,hr,h4,h5,h6,h7⟩
  · have h0':xs=[]:=List.length_eq_zero_iff.1 h0
    subst h0'
    rw [hv]
    exact (Any.slices_BinarySearch_int_empty Qj4 none 0 x w).mono fun e W ⟨h1,h2⟩=>⟨h1,h2▸Rely.Ext.refl w⟩
  · rw [Nat.mul_one] at h6 h7
    rw [hv]
    refine (Any.slices_BinarySearch_int Qj4 g 0 xs.length cp xs x w (qR _) (by omega) (fun j hj=>?_) (by rw [List.take_length]; exact hs)).mono ?_
    · rw [Nat.zero_add,QbU hr,QeP rfl h7 j hj,List.getElem?_map,List.getElem?_eq_getElem hj]
      simp [List.getD_eq_getElem?_getD,List.getElem?_eq_getElem hj]
    · rintro e W ⟨rfl,q,rfl⟩
      rw [List.take_length]
      exact ⟨rfl,rfl,rfl,rfl,qR _,fun _ _=>rfl⟩
theorem QfY {w W W':World} {r:Option Nat} (e:Ext w W) (g:W.grownBy W' r):w.grownBy W' r:=⟨g.os.trans e.os,g.tape.trans e.tape,g.output.trans e.output,qT e.size g.size,fun k hk hn=>(g.block k (qL hk e.size) hn).trans (e.block k hk)⟩
theorem Qia (xs : List Int) (x:Int) (base:Nat) (v:Value) (w:World) (hb:base≤w.heap.size) (h:OwnN .i64 3 base xs v w) (hl:xs.length≤1000000) (hs:xs.Pairwise (·≤·)):Calls Tryd.prog 53 #[v,.int .i64 x] w (fun e W=>∃ u,e=.returned u∧OwnN .i64 3 base (insA xs (posI xs x) x) u W∧w.grownBy W (Value.ownBlock v)∧(Value.ownBlock u=Value.ownBlock v∨∃ g,Value.ownBlock u=some g∧w.heap.size≤g)):=by
  refine enter 18 [(0,v),(1,.int .i64 x)] Tryd.func53 rfl rfl kj rfl ?_
  refine wp_seq_k fun K1 hK1=>?_
  refine Qab ?_
  refine Qaa (.slice none 0 0) 4 rfl kj kj ?_
  refine Qae ?_
  refine hK1 _ _ ?_
  refine wp_seq_k fun K2 hK2=>?_
  refine Qab ?_
  refine Qaa (v) 8 rfl kj kj ?_
  refine Qaa (.int .i64 x) 9 rfl kj kj ?_
  refine Qal (.tuple #[.int .i64 ((posI xs x:Nat):Int),.bool (xs.contains x)]) 71 #[v,.int .i64 x] 10 rfl kj kj (Qjq xs x base v _ h hl hs) fun W1 e1=>?_
  have x1:Ext w W1:=Ext.tr (Rely.Ext.refl w) e1
  refine Qaa (.tuple #[.int .i64 ((posI xs x:Nat):Int),.bool (xs.contains x)]) 7 rfl kj kj ?_
  refine Qaa (.int .i64 ((posI xs x:Nat):Int)) 11 rfl kj kj ?_
  refine Qaa (.bool (xs.contains x)) 12 rfl kj kj ?_
  refine Qaa (.int .i64 ((posI xs x:Nat):Int)) 5 rfl kj kj ?_
  refine Qaa (.bool (xs.contains x)) 6 rfl kj kj ?_
  refine Qae ?_
  refine hK2 _ _ ?_
  refine wp_seq_k fun K3 hK3=>?_
  refine Qab ?_
  refine Qaa (v) 13 rfl kj kj ?_
  refine Qaa (.int .i64 ((posI xs x:Nat):Int)) 14 rfl kj kj ?_
  refine Qaa (.int .i64 x) 15 rfl kj kj ?_
  refine Qbw (ints .i64 ([x])) 3 1 16 rfl kj kj fun g4 W2 l4 e2 r4_2=>?_
  have x2:Ext w W2:=Ext.tr x1 e2
  have b4:w.heap.size≤g4:=qT x1.size l4
  have f5_1:=(h.ext e1)
  have f6_2:=(f5_1.ext e2)
  have hnb:Value.ownBlock v≠some g4:=fun e=>by have h1:=h.lt e; have h2:=b4; omega
  refine Qa7 (fun u W'=>OwnN .i64 3 base (insA xs (posI xs x) x) u W'∧W2.grownBy W' (Value.ownBlock v)∧(Value.ownBlock u=Value.ownBlock v∨∃ g,Value.ownBlock u=some g∧W2.heap.size≤g)) 72 #[v,.int .i64 ((posI xs x:Nat):Int),.slice (some ⟨g4,0,none⟩) 1 1] 17 rfl kj kj (Qk9 xs x (posI xs x) g4 base v _ (qT hb x2.size) f6_2 hl (Qds xs x) r4_2 hnb) fun uu W3 hh=>?_
  obtain ⟨hu1,hu2,hu3⟩:=hh
  refine Qaa (uu) 4 rfl kj kj ?_
  refine Qae ?_
  refine hK3 _ _ ?_
  refine wp_ret ?_
  repeat (first | with_reducible refine goR1 ?_ | with_reducible refine goR2 ?_)
  exact (show bodyPost _ _ _ .ret _ _ from ret1 (uu) rfl (Qam kj) ⟨_,rfl,hu1,QfY x2 hu2,hu3.imp id fun ⟨g,q1,q2⟩=>⟨g,q1,qT x2.size q2⟩⟩)
end Go.Proofs.YtcmaolmofgmkhaaDoor.Te
end
section
namespace Go.Proofs.YtcmaolmofgmkhaaDoor.Te
open Go Go.RowKit
open Rely Auto Own Seat
theorem QbP {k : IntKind} {T:TypeId} {base:Nat} {xs:List Int} {v:Value} {W:World} (h:OwnN k T base xs v W) {g:Nat} (hg:v.ownBlock=some g):∃ cur,W.heap[g]? = some (.cells cur T):=by
  rcases h.1.2 with ⟨rfl,_⟩ | ⟨g',c,cur,rfl,q2,q3,_⟩
  · cases hg
  · obtain rfl:g'=g:=Option.some.inj hg
    exact ⟨cur,q3⟩
def slv (n : NdV):Value:=.slice n.a n.n.ms.length n.c
def ob (n : NdV):Option Nat:=(slv n).ownBlock
def NdIn (base : Nat) (W:World) (n:NdV):Prop:=NdOk n.n∧n.n.ms.length≤1000∧OwnN .i64 3 base n.n.ms (slv n) W
theorem QgM (base : Nat) (W:World):NdIn base W zn:=⟨Qdj,by decide,QcG _ _ _ _⟩
def fl (ts : List NdV):List Value:=ts.flatMap fun n=>(cat (ndP n)).toList
def Qhh (cur : Array Value) (ts:List NdV):Prop:=∀ i,i<ts.length→∀ j,j<99→cur[i*99+j]? = (cat (ndP (ndi ts i)))[j]?
theorem QaC {ts : List NdV} {i:Nat} (n:NdV) (h:i<ts.length) (j:Nat):ndi (ts.set i n) j=if j=i then n else ndi ts j:=by
  unfold ndi
  rw [List.getD_eq_getElem?_getD,List.getD_eq_getElem?_getD,List.getElem?_set]
  by_cases e:i=j
  · subst e; rw [if_pos rfl,if_pos rfl,if_pos h]; rfl
  · rw [if_neg e,if_neg (fun q=>e q.symm)]
theorem Qbq (ts us:List NdV) (j:Nat):ndi (ts++us) j=if j<ts.length then ndi ts j else ndi us (j-ts.length):=by
  unfold ndi
  rw [List.getD_eq_getElem?_getD,List.getD_eq_getElem?_getD,List.getD_eq_getElem?_getD]
  by_cases e:j<ts.length
  · rw [if_pos e,List.getElem?_append_left e]
  · rw [if_neg e,List.getElem?_append_right (by omega)]
theorem QbD {n j:Nat} (x:NdV) (h:j<n):ndi (List.replicate n x) j=x:=by
  unfold ndi
  rw [List.getD_eq_getElem?_getD,List.getElem?_replicate,if_pos h]; rfl
theorem QfE : ∀ (ts:List NdV),(∀ i,i<ts.length→NdOk (ndi ts i).n)→∀ i,i<ts.length→∀ j,j<99→(fl ts)[i*99+j]? = (cat (ndP (ndi ts i)))[j]?
  | [],_,i,hi,_,_=>absurd hi (Nat.not_lt_zero _)
  | x::r,ho,i,hi,j,hj=>by
    have hsz:(cat (ndP x)).toList.length=99:=by rw [Array.length_toList]; exact Qbf x (ho 0 (by simp))
    show (((cat (ndP x)).toList++fl r))[i*99+j]? = _
    cases i with
    | zero=>rw [List.getElem?_append_left (by omega),Nat.zero_mul,Nat.zero_add,Array.getElem?_toList]; rfl
    | succ i =>
      rw [List.getElem?_append_right (by omega),hsz,show (i+1)*99+j-99=i*99+j by omega]
      exact QfE r (fun k hk=>ho (k+1) (by simpa using hk)) i (by simpa using hi) j hj
theorem QgA : ∀ (ts:List NdV),(∀ i,i<ts.length→NdOk (ndi ts i).n)→(fl ts).length=ts.length*99
  | [],_=>rfl
  | x::r,ho=>by
    have hsz:(cat (ndP x)).toList.length=99:=by rw [Array.length_toList]; exact Qbf x (ho 0 (by simp))
    show (((cat (ndP x)).toList++fl r)).length=_
    rw [List.length_append,hsz,QgA r (fun k hk=>ho (k+1) (by simpa using hk)),List.length_cons]
    omega
theorem QlV {R : Array Value} {ts:List NdV} (ho:∀ i,i<ts.length→NdOk (ndi ts i).n) (hs:ts.length*99≤R.size) (h:Qhh R ts):R.toList.take (ts.length*99)=fl ts:=by
  apply List.ext_getElem?
  intro k
  by_cases hk:k<ts.length*99
  · rw [List.getElem?_take,if_pos hk,Array.getElem?_toList]
    have e:k=k/99*99+k%99:=by omega
    rw [e,h (k/99) (by omega) (k%99) (by omega),QfE ts ho (k/99) (by omega) (k%99) (by omega)]
  · rw [List.getElem?_eq_none (by simp; omega),List.getElem?_eq_none (by rw [QgA ts ho]; omega)]
structure OwH (base : Nat) (ts : List NdV) (v : Value) (W : World) (h : Option Nat) : Prop where
  ok:∀ i,i<ts.length→NdOk (ndi ts i).n
  row:W.ownsRow base 41 99 v ts.length (fl ts)
  nd:∀ i,i<ts.length→some i≠h→NdIn base W (ndi ts i)
  ap:∀ i j,i<ts.length→j<ts.length→i≠j→some i≠h→some j≠h→∀ g,ob (ndi ts i)=some g→ob (ndi ts j)≠some g
abbrev OwT (base : Nat) (ts : List NdV) (v : Value) (W : World) : Prop := OwH base ts v W none
theorem OwH.opens {base : Nat} {ts:List NdV} {v:Value} {W:World} {h:Option Nat} (t:OwH base ts v W h) (h0:0<ts.length):∃ g c cur,v=.slice (some ⟨g,0,none⟩) ts.length c∧base≤g∧W.heap[g]? = some (.cells cur 41)∧cur.size=c*99∧ts.length≤c∧c≤maxLen∧Qhh cur ts:=by
  rcases t.row.2 with ⟨_,h1⟩ | ⟨g,c,cur,h1,h2,h3,h4,h5,h6,h7⟩
  · omega
  · refine ⟨g,c,cur,h1,h2,h3,h6,h4,h5,fun i hi j hj=>?_⟩
    rw [←QfE ts t.ok i hi j hj,←h7,List.getElem?_take,if_pos (by omega),Array.getElem?_toList]
theorem OwH.made {base g c:Nat} {ts:List NdV} {W:World} {h:Option Nat} {cur:Array Value} (hg:base≤g) (r:W.heap[g]? = some (.cells cur 41)) (hs:cur.size=c*99) (hl:ts.length≤c) (hc:c≤maxLen) (hr:Qhh cur ts)
    (ok:∀ i,i<ts.length→NdOk (ndi ts i).n) (nd:∀ i,i<ts.length→some i≠h→NdIn base W (ndi ts i)) (ap:∀ i j,i<ts.length→j<ts.length→i≠j→some i≠h→some j≠h→∀ g,ob (ndi ts i)=some g→ob (ndi ts j)≠some g):OwH base ts (.slice (some ⟨g,0,none⟩) ts.length c) W h :=
  ⟨ok,⟨QgA ts ok,.inr ⟨g,c,cur,rfl,hg,r,hl,hc,hs,QlV ok (by omega) hr⟩⟩,nd,ap⟩
theorem OwH.slice {base : Nat} {ts:List NdV} {v:Value} {W:World} {h:Option Nat} (t:OwH base ts v W h):∃ a c,v=.slice a ts.length c:=by
  rcases t.row.2 with ⟨e,e2⟩ | ⟨g,cap,cur,e,-⟩
  · exact ⟨none,0,by rw [e,e2]⟩
  · exact ⟨_,_,e⟩
theorem OwH.rowBlock {base : Nat} {ts:List NdV} {v:Value} {W:World} {h:Option Nat} (t:OwH base ts v W h) {g:Nat} (hg:v.ownBlock=some g):base≤g∧∃ cur,W.heap[g]? = some (.cells cur 41):=by
  rcases t.row.2 with ⟨rfl,_⟩ | ⟨g',c,cur,rfl,q2,q3,_⟩
  · cases hg
  · obtain rfl:g'=g:=Option.some.inj hg
    exact ⟨q2,cur,q3⟩
theorem NdIn.keep {base : Nat} {n:NdV} {W W':World} (h:NdIn base W n) (hk:∀ g,ob n=some g→W'.heap[g]? = W.heap[g]?):NdIn base W' n:=⟨h.1,h.2.1,h.2.2.keep hk⟩
theorem NdIn.low {a b:Nat} {n:NdV} {W:World} (h:NdIn b W n) (hab:a≤b):NdIn a W n:=⟨h.1,h.2.1,OwnN.base hab h.2.2⟩
theorem OwH.keep {base : Nat} {ts:List NdV} {v:Value} {W W':World} {h:Option Nat} (t:OwH base ts v W h) (hv:∀ g,v.ownBlock=some g→W'.heap[g]? = W.heap[g]?) (hn:∀ i,i<ts.length→some i≠h→∀ g,ob (ndi ts i)=some g→W'.heap[g]? = W.heap[g]?):OwH base ts v W' h :=
  ⟨t.ok,⟨t.row.1,t.row.2.imp id fun ⟨g,c,cur,q1,q2,q3,q4⟩=>⟨g,c,cur,q1,q2,(hv g (by rw [q1]; rfl)).trans q3,q4⟩⟩,fun i hi hh=>(t.nd i hi hh).keep (hn i hi hh),t.ap⟩
theorem OwH.lt {base : Nat} {ts:List NdV} {v:Value} {W:World} {h:Option Nat} (t:OwH base ts v W h) {g:Nat} (hg:v.ownBlock=some g):g<W.heap.size:=by
  obtain ⟨-,cur,r⟩:=t.rowBlock hg
  exact QaB r
theorem NdIn.lt {base : Nat} {n:NdV} {W:World} (h:NdIn base W n) {g:Nat} (hg:ob n=some g):g<W.heap.size:=h.2.2.lt hg
theorem OwH.ext {base : Nat} {ts:List NdV} {v:Value} {W W':World} {h:Option Nat} (t:OwH base ts v W h) (e:Ext W W'):OwH base ts v W' h:=t.keep (fun g hg=>e.block g (t.lt hg)) fun i hi hh g hg=>e.block g ((t.nd i hi hh).lt hg)
theorem OwH.low {a b:Nat} {ts:List NdV} {v:Value} {W:World} {h:Option Nat} (t:OwH b ts v W h) (hab:a≤b):OwH a ts v W h :=
  ⟨t.ok,⟨t.row.1,t.row.2.imp id fun ⟨g,c,cur,q1,q2,q3⟩=>⟨g,c,cur,q1,qT hab q2,q3⟩⟩,fun i hi hh=>(t.nd i hi hh).low hab,t.ap⟩
theorem OwH.above {base : Nat} {ts:List NdV} {v:Value} {W W':World} {h:Option Nat} (t:OwH base ts v W h) (hk:∀ g,base≤g→g<W.heap.size→W'.heap[g]? = W.heap[g]?):OwH base ts v W' h :=
  t.keep (fun g hg=>hk g (t.rowBlock hg).1 (t.lt hg)) fun i hi hh g hg=>hk g ((t.nd i hi hh).2.2.ge hg) ((t.nd i hi hh).lt hg)
theorem OwH.grown {base : Nat} {ts:List NdV} {v:Value} {W W':World} {h:Option Nat} (t:OwH base ts v W h) {row:Option Nat} (hg:W.grownBy W' row) (hr:∀ r,row=some r→∃ o:Obj,W.heap[r]? = some o∧o.isCells=false):OwH base ts v W' h:=by
  have ne:∀ (g:Nat) (cs:Array Value) (T:TypeId),W.heap[g]? = some (.cells cs T)→W'.heap[g]? = W.heap[g]?:=fun g cs T r=>hg.block g (QaB r) fun e=>by
    obtain ⟨o,h1,h2⟩:=hr g e.symm
    rw [r] at h1
    cases h1
    cases h2
  refine t.keep (fun g hg=>?_) fun i hi hh g hg=>?_
  · obtain ⟨-,cur,r⟩:=t.rowBlock hg
    exact ne g _ _ r
  · obtain ⟨cur,r⟩:=QbP (t.nd i hi hh).2.2 hg
    exact ne g _ _ r
theorem OwH.tr {base : Nat} {ts:List NdV} {a:Option Addr} {c:Nat} {W:World} (t:OwH base ts (.slice a ts.length c) W none):TrAt W.heap.size W a ts:=by
  by_cases h0:0<ts.length
  · obtain ⟨g,cap,cur,e,q2,q3,q4,q5,q6,q7⟩:=t.opens h0
    simp only [Value.slice.injEq] at e
    obtain ⟨rfl,-,rfl⟩:=e
    refine ⟨g,0,fun _=>rfl,fun i hi=>?_⟩
    obtain ⟨h1,h2,h3⟩:=t.nd i hi (by simp)
    refine ⟨QaB q3,QaB q3,fun j u hu=>?_,RdK.here (OwnN.rd h3),h1⟩
    have hj:j<99:=by have:=(Array.getElem?_eq_some_iff.1 hu).1; rw [Qbf _ h1] at this; exact this
    rw [Nat.zero_add,QbU q3,q7 i hi j hj,hu]
  · exact ⟨0,0,fun h1=>absurd h1 h0,fun i hi=>absurd hi (by omega)⟩
theorem QhN (n : NdV):(cat (ndP n)).all (·.oneCell')=true:=by
  rw [Array.all_eq_true']
  intro u hu
  unfold ndP at hu
  rw [←Array.mem_toList_iff] at hu
  simp only [cat,Array.toList_append,ints,List.mem_append,List.mem_map,List.mem_cons,List.not_mem_nil,or_false] at hu
  rcases hu with rfl | rfl | ⟨x,-,rfl⟩ | ⟨x,-,rfl⟩ | ⟨x,-,rfl⟩ | rfl <;> rfl
theorem QfP {cur : Array Value} {ts:List NdV} {n:NdV} {i:Nat} (ok:NdOk n.n) (hi:i<ts.length) (hs:ts.length*99≤cur.size) (h:Qhh cur ts):Qhh (splice cur (i*99) (cat (ndP n)).toList) (ts.set i n):=by
  intro k hk j hj
  rw [List.length_set] at hk
  have hz:(cat (ndP n)).toList.length=99:=by rw [Array.length_toList]; exact Qbf n ok
  rw [QaU _ _ _ (by omega),hz,QaC n hi]
  by_cases e:k=i
  · subst e
    rw [if_pos (by omega),if_pos rfl,show k*99+j-k*99=j by omega,Array.getElem?_toList]
  · rw [if_neg (by omega),if_neg e,h k hk j hj]
theorem QeF {ts : List NdV} {n:NdV} {i:Nat} {h h':Option Nat} (hi:i<ts.length) (ap:∀ i j,i<ts.length→j<ts.length→i≠j→some i≠h→some j≠h→∀ g,ob (ndi ts i)=some g→ob (ndi ts j)≠some g) (hh:∀ k,k≠i→some k≠h'→some k≠h) (hn:some i≠h'→∀ j,j<ts.length→j≠i→some j≠h'→∀ g,ob n=some g→ob (ndi ts j)≠some g):∀ k j,k<(ts.set i n).length→j<(ts.set i n).length→k≠j→some k≠h'→some j≠h'→∀ g,ob (ndi (ts.set i n) k)=some g→ob (ndi (ts.set i n) j)≠some g:=by
  intro k j hk hj hkj hk2 hj2 g
  rw [List.length_set] at hk hj
  rw [QaC n hi,QaC n hi]
  by_cases e1:k=i
  · rw [if_pos e1,if_neg (by omega)]; exact hn (e1▸hk2) j hj (by omega) hj2 g
  · rw [if_neg e1]
    by_cases e2:j=i
    · rw [if_pos e2]; exact fun h1 h2=>hn (e2▸hj2) k hk e1 hk2 g h2 h1
    · rw [if_neg e2]; exact ap k j hk hj hkj (hh k e1 hk2) (hh j e2 hj2) g
theorem OwH.set {base g c i:Nat} {ts:List NdV} {n:NdV} {W W':World} {h:Option Nat} {cur:Array Value} (t:OwH base ts (.slice (some ⟨g,0,none⟩) ts.length c) W h) (hh:h=none∨h=some i) (hi:i<ts.length) (r:W.heap[g]? = some (.cells cur 41)) (p:Puts W g W') (r':W'.heap[g]? = some (.cells (splice cur (i*99) (cat (ndP n)).toList) 41))
    (hn:NdIn base W n) (ha:∀ j,j<ts.length→j≠i→∀ g,ob n=some g→ob (ndi ts j)≠some g):OwT base (ts.set i n) (.slice (some ⟨g,0,none⟩) ts.length c) W':=by
  obtain ⟨g',c',cur',e,q2,q3,q4,q5,q6,q7⟩:=t.opens (by omega)
  simp only [Value.slice.injEq,Option.some.injEq,Addr.mk.injEq] at e
  obtain ⟨⟨rfl,-⟩,-,rfl⟩:=e
  rw [r] at q3
  simp only [Option.some.injEq,Obj.cells.injEq,and_true] at q3
  subst q3
  have kp:∀ m:NdV,NdIn base W m→NdIn base W' m:=fun m hm=>hm.keep fun k hk=>p.2.2.2.2 k fun e=>by
    obtain ⟨cur2,r2⟩:=QbP hm.2.2 hk
    rw [e,r] at r2
    simp at r2
  have ok:∀ k,k<(ts.set i n).length→NdOk (ndi (ts.set i n) k).n:=fun k hk=>by
    rw [List.length_set] at hk
    rw [QaC n hi]
    by_cases e:k=i
    · rw [if_pos e]; exact hn.1
    · rw [if_neg e]; exact t.ok k hk
  have:=OwH.made (h:=none) (ts:=ts.set i n) (c:=c) q2 r' ((QaK _ _ _).trans q4) (by rw [List.length_set]; exact q5) q6 (QfP hn.1 hi (by omega) q7) ok (fun k hk _=>by
    rw [List.length_set] at hk
    rw [QaC n hi]
    by_cases e:k=i
    · rw [if_pos e]; exact kp n hn
    · rw [if_neg e]; exact kp _ (t.nd k hk (by rcases hh with rfl | rfl <;> simp; exact e))) (QeF hi t.ap (fun k hk _=>by rcases hh with rfl | rfl <;> simp; exact hk) fun _ j hj hji _=>ha j hj hji)
  rwa [List.length_set] at this
section
variable {ds : List Deferred} {P : Program} {ops : Array Oper} {Q : Exit → Act → World → Prop} {rest : List Oper} {o : Oper} {N : Nat} {L : Env} {W : World}
theorem QdF {ρ : Operand→Value} (ty:TypeId) (x y:Operand) (g i:Nat) {cur:Array Value} {n:NdV} (r:W.heap[g]? = some (.cells cur 41)) (hs:i*99+99≤cur.size) (hn:NdOk n.n)
    (ho:o.op=.store ty x y) (hx:ρ x=.pointer (some ⟨g,0+i*99,none⟩)) (hy:ρ y=.agg (cat (ndP n))) (hi:(P.info? ty).map (·.size)=some 99):(execOp ρ o).run P W=.ok .skip (W.setRow g (splice cur (i*99) (cat (ndP n)).toList)):=by
  rw [Nat.zero_add] at hx
  exact Qew ty x y g (i*99) _ cur _ r ho hx hy (by rw [hi,Qbf n hn]) (by rw [Qbf n hn]; simpa using hs) (QhN n)
theorem QiD (ty : TypeId) (x y:Operand) (g i c:Nat) {base:Nat} {ts:List NdV} {n:NdV} {h:Option Nat} (t:OwH base ts (.slice (some ⟨g,0,none⟩) ts.length c) W h) (hh:h=none∨h=some i) (hil:i<ts.length) (hn:NdIn base W n) (ha:∀ j,j<ts.length→j≠i→∀ g,ob n=some g→ob (ndi ts j)≠some g)
    (ho:o.op=.store ty x y) (hx:Rely.look (envN N L) x=.pointer (some ⟨g,0+i*99,none⟩)) (hy:Rely.look (envN N L) y=.agg (cat (ndP n))) (hi:(P.info? ty).map (·.size)=some 99) (hd:o.dst=none) (hw:Qbe ops o N L=some true)
    (kk:∀ W',Puts W g W'→OwT base (ts.set i n) (.slice (some ⟨g,0,none⟩) ts.length c) W'→WL P ops Q rest (Qar ds N L) W'):WL P ops Q (o::rest) (Qar ds N L) W:=by
  obtain ⟨g',c',cur,e,q2,q3,q4,q5,q6,q7⟩:=t.opens (by omega)
  simp only [Value.slice.injEq,Option.some.injEq,Addr.mk.injEq] at e
  obtain ⟨⟨rfl,-⟩,-,rfl⟩:=e
  exact Qa5 g cur _ _ q3 hd hw (QdF ty x y g i q3 (by omega) hn.1 ho hx hy hi) fun W' p r'=>kk W' p (t.set hh hil q3 p r' hn ha)
end
theorem Qk0 (n : Nat):Qhh (madeCells (.agg (cat (ndP zn)):Value).cells (n*99)) (List.replicate n zn):=by
  intro i hi j hj
  rw [qZ] at hi
  have hz:(.agg (cat (ndP zn)):Value).cells=cat (ndP zn):=rfl
  have hs:(cat (ndP zn)).size=99:=Qbf zn Qdj
  unfold madeCells
  rw [hz,QbD zn hi]
  simp only [Array.getElem?_map,Array.getElem?_range]
  rw [if_pos (by omega)]
  simp only [Option.map_some,hs]
  rw [show (i*99+j)%99=j by omega,getElem!_pos _ _ (by omega),Array.getElem?_eq_getElem (by omega)]
theorem QiS : ob zn=none:=rfl
theorem QlE {h' : Option Nat} (n:Nat):∀ i j,i<(List.replicate n zn).length→j<(List.replicate n zn).length→i≠j→some i≠h'→some j≠h'→∀ g,ob (ndi (List.replicate n zn) i)=some g→ob (ndi (List.replicate n zn) j)≠some g:=fun i j hi hj _ _ _ g h=>by
  rw [qZ] at hi
  rw [QbD zn hi] at h
  cases h
theorem QiR {base g n:Nat} {W:World} (hg:base≤g) (hn:n≤maxLen) (r:W.heap[g]? = some (.cells (madeCells (.agg (cat (ndP zn)):Value).cells (n*99)) 41)):OwT base (List.replicate n zn) (.slice (some ⟨g,0,none⟩) n n) W:=by
  have h:=OwH.made (h:=none) (ts:=List.replicate n zn) (c:=n) hg r (by unfold madeCells; simp) (by simp) hn (Qk0 n) (fun i hi=>by rw [qZ] at hi; rw [QbD zn hi]; exact Qdj) (fun i hi _=>by rw [qZ] at hi; rw [QbD zn hi]; exact QgM base W) (QlE n)
  rwa [qZ] at h
theorem Qhy {P : Program} {ρ:Operand→Value} {o:Oper} {w:World} (t:TypeId) (x y:Operand) (n b:Nat) (ho:o.op=.makeSlice t x y) (hx:ρ x=.int .i64 (n:Int)) (hy:ρ y=.int .i64 (n:Int))
    (hu:P.underlying t=some (.slice 41)) (hi:(P.info? 41).map (fun i=>(i.zero,i.size,i.bytes))=some (some (.agg (cat (ndP zn))),99,b)) (hb:b≤1000) (hn:n≤1000000) :
    (execOp ρ o).run P w=.ok (.value (.slice (some ⟨w.heap.size,0,none⟩) n n)) (w.alloc (.cells (madeCells (.agg (cat (ndP zn)):Value).cells (n*99)) 41)):=by
  cases hq:P.info? 41 with
  | none=>rw [hq] at hi; cases hi
  | some i =>
    rw [hq] at hi
    simp only [Option.map_some,Option.some.injEq,Prod.mk.injEq] at hi
    obtain ⟨h1,h2,h3⟩:=hi
    have hbb:(i.bytes:Int)*(n:Int)≤281474976710656:=by
      have:i.bytes*n≤1000*1000000:=Nat.mul_le_mul (by omega) hn
      rw [←Int.natCast_mul]; omega
    have h:=run_make w t 41 i _ hu hq h1 .i64 .i64 (n:Int) (n:Int) (by omega) (by omega) hbb (by omega)
    rw [h2,Int.toNat_natCast] at h
    unfold execOp
    simp only [ho,hx,hy,Sem.run_bind,Sem.run_pure,h,Result.andThen_ok]
end Go.Proofs.YtcmaolmofgmkhaaDoor.Te
end
section
namespace Go.Proofs.YtcmaolmofgmkhaaDoor.Te
open Go Go.RowKit
open Rely Auto Own Seat Sha
def AsC (us ts:List NdV):Prop:=us.length=ts.length∧∀ j,j<ts.length→(ndi us j).n=(ndi ts j).n
section
variable {ds : List Deferred} {P : Program} {ops : Array Oper} {Q : Exit → Act → World → Prop} {rest : List Oper} {o : Oper} {N : Nat} {L : Env} {W : World}
theorem QdE (ty : TypeId) (x y:Operand) (g i c:Nat) {M:Nat} {base:Nat} {ts:List NdV} {n:NdV} {h:Option Nat} (hM:ts.length=M) (t:OwH base ts (.slice (some ⟨g,0,none⟩) M c) W h) (hh:h=none∨h=some i) (hil:i<M) (hn:NdIn base W n) (ha:∀ j,j<M→j≠i→∀ g,ob n=some g→ob (ndi ts j)≠some g)
    (ho:o.op=.store ty x y) (hx:Rely.look (envN N L) x=.pointer (some ⟨g,0+i*99,none⟩)) (hy:Rely.look (envN N L) y=.agg (cat (ndP n))) (hi:(P.info? ty).map (·.size)=some 99) (hd:o.dst=none) (hw:Qbe ops o N L=some true)
    (kk:∀ W',Puts W g W'→OwT base (ts.set i n) (.slice (some ⟨g,0,none⟩) M c) W'→WL P ops Q rest (Qar ds N L) W'):WL P ops Q (o::rest) (Qar ds N L) W:=by
  subst hM
  exact QiD ty x y g i c t hh hil hn ha ho hx hy hi hd hw kk
end
theorem Qib : (Tryd.prog.info? 41).map (fun i=>(i.zero,i.size,i.bytes))=some (some (.agg (cat (ndP zn))),99,136):=by kernel_rfl
theorem Qhv {us ts:List NdV} {i:Nat} {n:NdV} (hl:us.length=ts.length) (hi:i<ts.length) (h:∀ j,j<i→(ndi us j).n=(ndi ts j).n) (hn:n.n=(ndi ts i).n):∀ j,j<i+1→(ndi (us.set i n) j).n=(ndi ts j).n:=fun j hj=>by
  rw [QaC n (by omega)]
  by_cases e:j=i
  · rw [if_pos e,hn,e]
  · rw [if_neg e]; exact h j (by omega)
set_option maxRecDepth 100000 in
theorem Qjl (ts : List NdV) (a_t:Option Addr) (c_t B1:Nat) (w:World) (ht:TrAt B1 w a_t ts) (htl:ts.length≤100000) (hmt:∀ i,i<ts.length→(ndi ts i).n.ms.length≤1000):Calls Tryd.prog 16 #[.slice a_t ts.length c_t] w (QbH w (fun v W=>∃ us,AsC us ts∧OwT w.heap.size us v W∧∃ g,v=.slice (some ⟨g,0,none⟩) ts.length ts.length)):=by
 refine enter 23 [(0,.slice a_t ts.length c_t)] Tryd.func16 rfl rfl kj rfl ?_
 refine wp_seq_k fun K1 hK1=>?_
 refine Qab ?_
 refine Qaa (.slice none 0 0) 2 rfl kj kj ?_
 refine Qae ?_
 refine hK1 _ _ ?_
 refine wp_seq_k fun K2 hK2=>?_
 refine Qab ?_
 refine Qaa (.slice a_t ts.length c_t) 6 rfl kj kj ?_
 refine Qaa (.int .i64 ((ts.length:Nat):Int)) 7 rfl kj kj ?_
 refine Qbw (madeCells (.agg (cat (ndP zn)):Value).cells (ts.length*99)) 41 ts.length 8 rfl kj (Qhy 23 _ _ ts.length 136 rfl kj kj kj Qib (by decide) (by omega)) fun gO W1 lgO e1 rgO_1=>?_
 have x1:Ext w W1:=Ext.tr (Rely.Ext.refl w) e1
 have bgO:w.heap.size≤gO:=qT (Rely.Ext.refl w).size lgO
 have hgO:=QiR bgO (show ts.length≤maxLen by unfold maxLen; omega) rgO_1
 refine Qaa (.slice (some ⟨gO,0,none⟩) ts.length ts.length) 3 rfl kj kj ?_
 refine Qae ?_
 refine hK2 _ _ ?_
 refine wp_seq_k fun K4 hK4=>?_
 refine wp_seq_k fun K5 hK5=>?_
 refine Qab ?_
 refine Qaa (.slice a_t ts.length c_t) 9 rfl kj kj ?_
 refine Qaa (.int .i64 ((ts.length:Nat):Int)) 10 rfl kj kj ?_
 refine Qaa (.int .i64 0) 11 rfl kj kj ?_
 refine Qae ?_
 refine hK5 _ _ ?_
 refine wp_block ?_
 refine Qaz (fun (s1:Nat×List NdV)=>[(0,.slice a_t ts.length c_t),(3,.slice (some ⟨gO,0,none⟩) ts.length ts.length),(9,.slice a_t ts.length c_t),(10,.int .i64 ((ts.length:Nat):Int)),(11,.int .i64 ((s1.1:Nat):Int))]) (fun (s1:Nat×List NdV) W=>(s1.1≤ts.length)∧(s1.2.length=ts.length)∧(∀ j,j<s1.1→(ndi s1.2 j).n=(ndi ts j).n)∧(OwT w.heap.size s1.2 (.slice (some ⟨gO,0,none⟩) ts.length ts.length) W)∧(QaQ [gO] W1 W)∧(Ext w W)) (fun (s1:Nat×List NdV)=>ts.length-s1.1) (0,(List.replicate ts.length zn)) ⟨rfl,rfl,rfl,rfl,rfl,trivial⟩ ⟨(Nat.zero_le _),(qZ ..),(fun j h=>absurd h (Nat.not_lt_zero j)),hgO,(QaQ.refl [gO] W1),x1⟩ fun s1 X1 V1 hI1=>?_
 obtain ⟨i,us⟩:=s1
 obtain ⟨hi,hul,huc,hU,kk1,xx1⟩:=hI1
 replace hi:i≤ts.length:=hi
 replace hul:us.length=ts.length:=hul
 replace huc:∀ j,j<i→(ndi us j).n=(ndi ts j).n:=huc
 replace hU:OwT w.heap.size us (.slice (some ⟨gO,0,none⟩) ts.length ts.length) V1:=hU
 replace kk1:QaQ [gO] W1 V1:=kk1
 replace xx1:Ext w V1:=xx1
 have q2:=kk1
 obtain ⟨-,cuO,rOv⟩:=hU.rowBlock (g:=gO) rfl
 refine wp_seq_k fun K6 hK6=>?_
 refine Qab ?_
 refine Qaa (.bool (decide (((i:Nat):Int)<((ts.length:Nat):Int)))) 12 rfl kj kj ?_
 refine Qae ?_
 refine hK6 _ _ ?_
 refine wp_seq_k fun K7 hK7=>?_
 refine Qat (t:=decide (((i:Nat):Int)<((ts.length:Nat):Int))) kj (fun c8=>?_) (fun c8=>?_)
 ·skip
  have hlt12:i<ts.length:=by have:=of_decide_eq_true c8; omega
  refine wp_skip ?_
  refine hK7 _ _ ?_
  refine wp_seq_k fun K9 hK9=>?_
  refine wp_block ?_
  refine wp_seq_k fun K10 hK10=>?_
  refine Qab ?_
  refine Qaa (.int .i64 ((i:Nat):Int)) 13 rfl kj kj ?_
  obtain ⟨gtT,otT,hat,hnts⟩:=TrAt.ext ht xx1
  have hnt:=hnts i (by omega)
  obtain ⟨nt,ent⟩:∃ z,z=ndi ts i:=⟨_,rfl⟩
  rw [←ent] at hnt
  have okt:=hnt.ok
  have rdt:=hnt.rd
  refine Qaa (.pointer (some ⟨gtT,otT+i*99,none⟩)) 14 rfl kj (Qao 23 _ _ .i64 i gtT otT ts.length c_t 41 99 a_t (hat (by omega)) rfl kj kj kj kj (by omega)) ?_
  refine Qaa (.agg (cat [#[.bool nt.n.us],#[.int .i64 nt.n.nm],ints .u8 (nt.n.key),ints .u8 (nt.n.sg),ints .u8 (nt.n.pa),#[.slice nt.a nt.n.ms.length nt.c]])) 15 rfl kj (QaH 41 _ gtT (otT+i*99) nt hnt rfl kj kj kj) ?_
  refine Qap (cat [#[.bool false],#[.int .i64 0],ints .u8 (List.replicate 32 0),ints .u8 (List.replicate 32 0),ints .u8 (List.replicate 32 0),#[.slice none 0 0]]) 41 5 rfl kj kj fun g11 W3 l11 e3 r11_3=>?_
  have x3:Ext w W3:=Ext.tr xx1 e3
  have b11:w.heap.size≤g11:=qT xx1.size l11
  refine Qaa (.int .i64 ((i:Nat):Int)) 4 rfl kj kj ?_
  refine Qa5 g11 _ (cat [#[.bool nt.n.us],#[.int .i64 nt.n.nm],ints .u8 (nt.n.key),ints .u8 (nt.n.sg),ints .u8 (nt.n.pa),#[.slice nt.a nt.n.ms.length nt.c]]) 41 r11_3 rfl kj (QaE 41 _ _ g11 41 _ _ r11_3 rfl kj kj (isz (n:=99) kj (by rw [Qac,Qac,Qac,Qac,Qac,Qac]; simp only [qS,cat,((Qaf _ _).trans okt.gl),((Qaf _ _).trans okt.kl),((Qaf _ _).trans okt.pl)]; rfl)) (eqsz (n:=99) (by rw [Qac,Qac,Qac,Qac,Qac,Qac]; simp only [qS,cat,((Qaf _ _).trans (qZ (n:=32)))]; rfl) (by rw [Qac,Qac,Qac,Qac,Qac,Qac]; simp only [qS,cat,((Qaf _ _).trans okt.gl),((Qaf _ _).trans okt.kl),((Qaf _ _).trans okt.pl)]; rfl)) (Qbt _ (by intro a ha; simp only [List.mem_cons,List.not_mem_nil,or_false] at ha; rcases ha with rfl | rfl | rfl | rfl | rfl | rfl; exact (Qa2 _ rfl); exact (Qa2 _ rfl); exact (Qa3 _ _); exact (Qa3 _ _); exact (Qa3 _ _); exact (Qa2 _ rfl)))) fun W4 p4 r11_4=>?_
  have x4:Ext w W4:=Puts.ext p4 x3 b11
  refine Qae ?_
  refine hK10 _ _ ?_
  refine Qab ?_
  refine Qaa (.slice (some ⟨gO,0,none⟩) ts.length ts.length) 16 rfl kj kj ?_
  refine Qaa (.int .i64 ((i:Nat):Int)) 17 rfl kj kj ?_
  refine Qaa (.agg (cat [#[.bool nt.n.us],#[.int .i64 nt.n.nm],ints .u8 (nt.n.key),ints .u8 (nt.n.sg),ints .u8 (nt.n.pa),#[.slice nt.a nt.n.ms.length nt.c]])) 18 rfl kj (Qa9 41 _ g11 41 _ _ r11_4 rfl kj kj (isz (n:=99) kj (by rw [Qac,Qac,Qac,Qac,Qac,Qac]; simp only [qS,cat,((Qaf _ _).trans okt.gl),((Qaf _ _).trans okt.kl),((Qaf _ _).trans okt.pl)]; rfl))) ?_
  have y2_3:Ext V1 W3:=(Rely.Ext.trans (Rely.Ext.refl V1) e3)
  have y2_4:Ext V1 W4:=(Puts.ext p4 y2_3 l11)
  refine Qa7 (fun v W'=>(fun v W=>∃ u,v=.agg (cat [#[.bool nt.n.us],#[.int .i64 nt.n.nm],ints .u8 (nt.n.key),ints .u8 (nt.n.sg),ints .u8 (nt.n.pa),#[u]])∧OwnN .i64 3 W4.heap.size nt.n.ms u W) v W'∧Ext W4 W') 45 #[.agg (cat [#[.bool nt.n.us],#[.int .i64 nt.n.nm],ints .u8 (nt.n.key),ints .u8 (nt.n.sg),ints .u8 (nt.n.pa),#[.slice nt.a nt.n.ms.length nt.c]])] 19 rfl kj kj ((Qj7 nt okt _ _ (qT (ent▸hmt i (by omega)) (by decide)) (RdK.here (RdK.ext rdt y2_4))).mono (by rintro e w' ⟨v,rfl,e1,hv⟩; exact ⟨v,rfl,hv,e1⟩)) fun vv12 W5 hh12=>?_
  obtain ⟨hv12,e5⟩:=hh12
  have x5:Ext w W5:=Ext.tr x4 e5
  obtain ⟨u5,rfl,hu5⟩:=hv12
  obtain ⟨a5,c5,rfl,-⟩:=id (OwnN.rd hu5)
  refine Qaa (.pointer (some ⟨gO,0+i*99,none⟩)) 20 rfl kj (Qa6 23 _ _ .i64 i gO 0 ts.length ts.length 41 99 rfl kj kj kj kj (by omega)) ?_
  have y2_5:Ext V1 W5:=(Rely.Ext.trans y2_4 e5)
  have hn5:NdIn w.heap.size W5 ⟨nt.n,a5,c5⟩:=⟨okt,ent▸hmt i (by omega),OwnN.base (x4.size) hu5⟩
  refine QdE 41 _ _ gO i ts.length (h:=none) hul (OwH.ext hU y2_5) (.inl rfl) (by omega) hn5 (fun j hj hji g h1 h2=>by have h3:=OwnN.ge hu5 h1; have h4:=(hU.nd j (by omega) (by simp)).lt h2; have h5:=(y2_4).size; omega) rfl kj kj kj rfl kj fun W6 p6 hU2=>?_
  have x6:Ext w W6:=Puts.ext p6 x5 bgO
  refine Qae ?_
  refine hK9 _ _ ?_
  refine Qab ?_
  refine Qaa (.int .i64 ((i+1:Nat):Int)) 21 rfl kj (Qai (u:=.int .i64 (IntKind.i64.wrap (((i:Nat):Int)+1))) kj (congrArg (Value.int .i64) (i64n _ _ (by omega) (by omega)))) ?_
  refine Qaa (.int .i64 ((i+1:Nat):Int)) 11 rfl kj kj ?_
  refine Qae ?_
  repeat (first | with_reducible refine goX1 ?_ | with_reducible refine goX2 ?_ | with_reducible refine goX3 ?_)
  exact Qas ((i+1),(us.set i ⟨nt.n,a5,c5⟩)) ⟨rfl,rfl,rfl,rfl,rfl,trivial⟩ ⟨(by omega),((List.length_set ..).trans hul),(Qhv hul (by omega) huc (show nt.n=(ndi ts i).n by rw [ent])),hU2,(QaQ.puts (QaQ.step (QaQ.puts (QaQ.step q2 e3) p4 (.inr (qT (QaQ.size q2) (qT (qR _) l11)))) e5) p6 (.inl (by simp))),x6⟩ (by show ts.length-(i+1)<ts.length-i; omega)
 ·skip
  have heq12:i=ts.length:=by have:=of_decide_eq_false c8; omega
  refine wp_exit ?_
  refine hK4 _ _ ?_
  refine wp_seq_k fun K13 hK13=>?_
  refine Qab ?_
  refine Qaa (.slice (some ⟨gO,0,none⟩) ts.length ts.length) 22 rfl kj kj ?_
  refine Qaa (.slice (some ⟨gO,0,none⟩) ts.length ts.length) 2 rfl kj kj ?_
  refine Qae ?_
  refine hK13 _ _ ?_
  refine wp_ret ?_
  repeat (first | with_reducible refine goR1 ?_ | with_reducible refine goR2 ?_)
  exact (show bodyPost _ _ _ .ret _ _ from ret1 (.slice (some ⟨gO,0,none⟩) ts.length ts.length) rfl (Qam kj) ⟨_,rfl,xx1,us,⟨hul,fun j hj=>huc j (by omega)⟩,hU,gO,rfl⟩)
end Go.Proofs.YtcmaolmofgmkhaaDoor.Te
end
section
namespace Go.Proofs.YtcmaolmofgmkhaaDoor.Te
open Go Go.RowKit
open Rely Auto Own Seat Sha
def blkL (ts : List NdV) (y n:Int) (pre:List Nat):List NdV:=pre.foldl (fun us z=>us.set (upN y n z) zn) ts
theorem Qfg (ts : List NdV) (y n:Int):∀ pre:List Nat,∀ us:List NdV,us.length=ts.length→(blkL us y n pre).length=ts.length
  | [],us,h=>h
  | z::r,us,h=>Qfg ts y n r (us.set (upN y n z) zn) (by rw [List.length_set]; exact h)
theorem QgG (ts : List NdV) (y n:Int) (pre:List Nat) (z:Nat):blkL ts y n (pre++[z])=(blkL ts y n pre).set (upN y n z) zn:=by unfold blkL; rw [List.foldl_append]; rfl
def blkT (ts : List NdV) (y n:Int):List NdV:=blkL ts y n ((List.range 6).filter fun k=>decide (0≤upn y n k))
theorem Qd4 {p : Nat→Bool} {K:Nat} (h1:∀ i,i<K→p i=true) (h2:∀ i,K≤i→p i=false):∀ m,K≤m→(List.range m).filter p=List.range K
  | 0,h=>by
      obtain rfl:K=0:=by omega
      rfl
  | m+1,h=>by
    by_cases e:K=m+1
    · rw [e,List.filter_eq_self]
      intro a ha
      exact h1 a (by have:=List.mem_range.1 ha; omega)
    · rw [List.range_succ,List.filter_append,Qd4 h1 h2 m (by omega)]
      simp [h2 m (by omega)]
theorem QdT {y n:Int} {K:Nat} (hneg:upn y n K<0) (hall:∀ i,i<K→0≤upn y n i):(List.range 6).filter (fun k=>decide (0≤upn y n k))=List.range K:=by
  refine Qd4 (fun i hi=>decide_eq_true (hall i hi)) (fun i hi=>decide_eq_false (by have:=QfK hneg i hi; omega)) 6 ?_
  rcases K with _ | k
  · omega
  · have:=Qe0 (hall k (by omega)); omega
theorem Qi9 {g : Nat} {w W:World} (h:TabAt w) (q:ExtB g w W) (hn:0≠g):TabAt W:=⟨qL h.1 q.2.2.2.1,fun j hj=>by
  rw [←h.2 j hj]
  exact World.cell?_of_block (q.2.2.2.2 _ h.1 hn)⟩
section
variable {ds : List Deferred} {P : Program} {ops : Array Oper} {Q : Exit → Act → World → Prop} {rest : List Oper} {o : Oper} {N : Nat} {L : Env} {W : World} {Fe : Fence} {nf : Nat}
theorem QkC (ty : TypeId) (x y:Operand) (g i c:Nat) {M:Nat} {base:Nat} {ts:List NdV} {n:NdV} {h:Option Nat} (hM:ts.length=M) (t:OwH base ts (.slice (some ⟨g,0,none⟩) M c) W h) (hh:h=none∨h=some i) (hil:i<M) (hn:NdIn base W n) (ha:∀ j,j<M→j≠i→∀ g,ob n=some g→ob (ndi ts j)≠some g)
    (ho:o.op=.store ty x y) (hx:Rely.look (envN N L) x=.pointer (some ⟨g,0+i*99,none⟩)) (hy:Rely.look (envN N L) y=.agg (cat (ndP n))) (hi:(P.info? ty).map (·.size)=some 99) (hd:o.dst=none) (hF:Free Fe nf P) (hnd:QaX o=true) (hw:Qbe ops o N L=some true)
    (kk:∀ W',Puts W g W'→OwT base (ts.set i n) (.slice (some ⟨g,0,none⟩) M c) W'→WLI Fe nf P ops Q rest (Qar ds N L) W'):WLI Fe nf P ops Q (o::rest) (Qar ds N L) W:=by
  subst hM
  obtain ⟨g',c',cur,e,q2,q3,q4,q5,q6,q7⟩:=t.opens (by omega)
  simp only [Value.slice.injEq,Option.some.injEq,Addr.mk.injEq] at e
  obtain ⟨⟨rfl,-⟩,-,rfl⟩:=e
  exact QbJ g cur _ _ q3 hd hF hnd hw (QdF ty x y g i q3 (by omega) hn.1 ho hx hy hi) fun W' p r'=>kk W' p (t.set hh hil q3 p r' hn ha)
end
set_option maxRecDepth 100000 in
theorem QlD (ts : List NdV) (gO M c base:Nat) (w:World) (hM:ts.length=M) (t:OwT base ts (.slice (some ⟨gO,0,none⟩) M c) w) (L:Nat) (hL:leaves ((M:Nat):Int)=((L:Nat):Int)) (hlen:M+1=2*L) (hTr:Qax ((L:Nat):Int)=true) (hML:M≤100000) (hT:TabAt w) (hTg:0≠gO) (i:Nat) (hi:i<L):Calls Tryd.prog 56 #[(.slice (some ⟨gO,0,none⟩) M c),.int .i64 ((i:Nat):Int)] w (fun e W=>e=.returned (.tuple #[])∧ExtB gO w W∧OwT base (blkT ts (2*((i:Nat):Int)) ((L:Nat):Int)) (.slice (some ⟨gO,0,none⟩) M c) W):=by
 have hYi:i64 (2*((i:Nat):Int)):=⟨by omega,by omega⟩
 refine Qdf 16 [(0,.slice (some ⟨gO,0,none⟩) M c),(1,.int .i64 ((i:Nat):Int))] Tryd.func56 rfl rfl kj rfl ?_
 refine wp_seq_k fun K1 hK1=>?_
 refine Qab ?_
 refine Qap (#[.slice (some ⟨gO,0,none⟩) M c]) 23 2 rfl kj kj fun g2 W1 l2 e1 r2_1=>?_
 have x1:ExtB gO w W1:=ExtB.ext (Qep gO w) e1
 have b2:w.heap.size≤g2:=qT (Qep gO w).size l2
 refine Qae ?_
 refine hK1 _ _ ?_
 refine wp_seq_k fun K3 hK3=>?_
 refine Qab ?_
 refine Qaa (.int .i64 ((i:Nat):Int)) 5 rfl kj kj ?_
 refine Qaa (.int .i64 (2*((i:Nat):Int))) 6 rfl kj (Qai (u:=.int .i64 (IntKind.i64.wrap (2*((i:Nat):Int)))) kj (congrArg (Value.int .i64) (IntWalk.i64_in _ (by omega)))) ?_
 refine Qaa (.slice (some ⟨gO,0,none⟩) M c) 7 rfl kj (Qag 23 _ g2 0 23 _ (.slice (some ⟨gO,0,none⟩) M c) _ r2_1 rfl kj kj kj) ?_
 refine Qaa (.int .i64 ((M:Nat):Int)) 8 rfl kj kj ?_
 refine Qal (.int .i64 ((L:Nat):Int)) 36 #[.int .i64 ((M:Nat):Int)] 9 rfl kj kj (Qbr ((M:Nat):Int) ⟨by omega,by omega⟩ _ hL _) fun W2 e2=>?_
 have x2:ExtB gO w W2:=ExtB.ext x1 e2
 refine Qa7 (fun v W'=>(fun v W=>∃ g1 g2,v=.func (.func 69) #[] #[.pointer (some ⟨g1,0,none⟩),.pointer (some ⟨g2,0,none⟩)]∧W2.heap.size≤g1∧W2.heap.size≤g2∧W.heap[g1]? = some (.cells #[.int .i64 (2*((i:Nat):Int))] 3)∧W.heap[g2]? = some (.cells #[.int .i64 (((L:Nat):Int))] 3)) v W'∧Ext W2 W') 52 #[.int .i64 (2*((i:Nat):Int)),.int .i64 ((L:Nat):Int)] 10 rfl kj kj ((QiQ (2*((i:Nat):Int)) (((L:Nat):Int)) _).mono (by rintro e w' ⟨v,rfl,e1,hv⟩; exact ⟨v,rfl,hv,e1⟩)) fun vv4 W3 hh4=>?_
 obtain ⟨hv4,e3⟩:=hh4
 have x3:ExtB gO w W3:=ExtB.ext x2 e3
 obtain ⟨gp1,gp2,rfl,lp1,lp2,rp1,rp2⟩:=hv4
 refine Qae ?_
 refine hK3 _ _ ?_
 refine wp_block ?_
 have r2_2:=(Qah r2_1 e2)
 have r2_3:=(Qah r2_2 e3)
 have y0_1:Ext w W1:=(Rely.Ext.trans (Rely.Ext.refl w) e1)
 have y0_2:Ext w W2:=(Rely.Ext.trans y0_1 e2)
 have y0_3:Ext w W3:=(Rely.Ext.trans y0_2 e3)
 have hgO:gO<w.heap.size:=t.lt rfl
 have hp1:gp1∉[gO]:=Qef (Nat.ne_of_gt (qL (qL hgO x2.2.2.2.1) lp1)) QcZ
 have hp2:gp2∉[gO]:=Qef (Nat.ne_of_gt (qL (qL hgO x2.2.2.2.1) lp2)) QcZ
 have h0:OwT base (blkL ts (2*((i:Nat):Int)) ((L:Nat):Int) []) (.slice (some ⟨gO,0,none⟩) M c) W3:=t.ext y0_3
 refine QcE (gf:=69) (lb:=#[.pointer (some ⟨gp1,0,none⟩),.pointer (some ⟨gp2,0,none⟩)]) (enc:=fun z:Nat=>.int .i64 ((upN (2*((i:Nat):Int)) ((L:Nat):Int) z:Nat):Int)) kj (enters_of Tryd.func69 kj rfl) (Qeb 2 [gO] gp1 gp2 (2*((i:Nat):Int)) ((L:Nat):Int) hYi W3 (Qi9 hT x3 hTg) rp1 rp2 hp1 hp2 (Qef hTg QcZ)) (fun h k=>QaI.trans h k) QaI.book (Below.refl _ _)
   (fun pre W=>((W.heap[g2]? = some (.cells (#[.slice (some ⟨gO,0,none⟩) M c]) 23))∧OwT base (blkL ts (2*((i:Nat):Int)) ((L:Nat):Int) pre) (.slice (some ⟨gO,0,none⟩) M c) W)∧ExtB gO w W)
   (fun c pre W=>False∧ExtB gO w W) (OwnFrom.and (Own.from (fun s A B row hs hg hr=>⟨QaL hs.1 hg hr,OwH.grown hs.2 hg hr⟩) _) (QgD x3.2.2.2.1)) (fun c=>OwnFrom.and (Own.from (fun _ _ _ _ hs _ _=>hs) _) (QgD x3.2.2.2.1)) ⟨⟨r2_3,h0⟩,x3⟩ (fun z=>[(4,.int .i64 ((upN (2*((i:Nat):Int)) ((L:Nat):Int) z:Nat):Int)),(11,.int .i64 ((upN (2*((i:Nat):Int)) ((L:Nat):Int) z:Nat):Int))]) (fun l z W K hK=>?_) (fun l pre z W hI hp=>?_) (fun D ys W lD hS hI rD=>?_) (fun D c pre W lD hSp hIx rD=>?_)
 ·refine Qa1 ?_
  refine Qay (.int .i64 ((upN (2*((i:Nat):Int)) ((L:Nat):Int) z:Nat):Int)) 4 rfl (Qan l 1 _) rfl kj kj ?_
  refine Qba ?_
  exact hK
 ·skip
  obtain ⟨⟨q2,hU⟩,xx⟩:=hI
  have hul:=Qdz (x:=2*((i:Nat):Int)) z hTr
  obtain ⟨u,hu⟩:∃ u,u=upN (2*((i:Nat):Int)) ((L:Nat):Int) z:=⟨_,rfl⟩
  rw [←hu] at hul ⊢
  have hlB:=Qfg ts (2*((i:Nat):Int)) ((L:Nat):Int) pre ts rfl
  obtain ⟨-,cuO,rO0⟩:=hU.rowBlock (g:=gO) rfl
  have n2O:g2≠gO:=Nat.ne_of_gt (qL hgO b2)
  refine wpIn_block ?_
  refine Qa1 ?_
  refine Qay (.slice (some ⟨gO,0,none⟩) M c) 12 rfl (Qan l 1 _) rfl kj (Qag 23 _ g2 0 23 _ (.slice (some ⟨gO,0,none⟩) M c) _ q2 rfl kj kj kj) ?_
  refine Qay (.int .i64 ((u:Nat):Int)) 13 rfl (Qan l 1 _) rfl kj kj ?_
  refine Qay (.agg (cat [#[.bool false],#[.int .i64 0],ints .u8 (List.replicate 32 0),ints .u8 (List.replicate 32 0),ints .u8 (List.replicate 32 0),#[.slice none 0 0]])) 14 rfl (Qan l 1 _) rfl kj kj ?_
  refine Qay (.pointer (some ⟨gO,0+u*99,none⟩)) 15 rfl (Qan l 1 _) rfl kj (Qa6 23 _ _ .i64 u gO 0 M c 41 99 rfl kj kj kj kj (by omega)) ?_
  refine QkC 41 _ _ gO u c (h:=none) (hlB.trans hM) hU (.inl rfl) (by omega) (QgM base W) (fun j _ _ g h=>by rw [QiS] at h; cases h) rfl kj kj kj rfl (Qan l 1 _) rfl kj fun W1 p1 hU2=>?_
  have x1:ExtB gO w W1:=ExtB.puts xx p1
  refine Qba ?_
  repeat (first | with_reducible refine goX1 ?_ | with_reducible refine goX2 ?_ | with_reducible refine goX3 ?_)
  exact ⟨QbF p1 rO0,Ql5 p1 (by simp),⟨Puts.row p1 q2 n2O,(by rw [QgG,←hu]; exact hU2)⟩,x1⟩
 ·obtain ⟨⟨q2,hU⟩,xx⟩:=hI
  obtain ⟨k1,rfl,hneg,hall⟩:=hS
  have bD:w.heap.size≤D:=qT x3.2.2.2.1 lD
  repeat (first | with_reducible refine goX1 ?_ | with_reducible refine goX2 ?_ | with_reducible refine goX3 ?_)
  exact (show bodyPostM _ _ _ _ _ .normal _ _ from QlW rfl rD ⟨rfl,QhC xx bD rD _,(by unfold blkT; rw [QdT hneg hall]; exact hU.grown (grownBy_putObj' W D _) (fun r e=>by cases e; exact ⟨_,rD,rfl⟩))⟩)
 ·exact hIx.1.elim
end Go.Proofs.YtcmaolmofgmkhaaDoor.Te
end
section
namespace Go.Proofs.YtcmaolmofgmkhaaDoor.Te
open Go Go.RowKit
open Rely Auto Own Seat Sha
theorem Qb3 {ts : List NdV} {n i:Nat} (h:i<n):ndi (ts.take n) i=ndi ts i:=by
  unfold ndi
  rw [List.getD_eq_getElem?_getD,List.getD_eq_getElem?_getD,List.getElem?_take,if_pos h]
theorem TrAt.take {B : Nat} {w:World} {a:Option Addr} {ts:List NdV} (h:TrAt B w a ts) (n:Nat):TrAt B w a (ts.take n):=by
  obtain ⟨g,o,h1,h2⟩:=h
  refine ⟨g,o,fun h0=>h1 (by rw [List.length_take] at h0; omega),fun i hi=>?_⟩
  rw [List.length_take] at hi
  rw [Qb3 (by omega)]
  exact h2 i (by omega)
theorem AvT.take {p : Nat→Prop} {a:Option Addr} {ts:List NdV} (h:AvT p a ts) (n:Nat):AvT p a (ts.take n):=by
  refine ⟨fun g o m h0 e=>h.1 g o m (by rw [List.length_take] at h0; omega) e,fun i hi hn g o m e=>?_⟩
  rw [List.length_take] at hi
  rw [Qb3 (by omega)] at hn e
  exact h.2 i (by omega) hn g o m e
def FrT (base : Nat) (us:List NdV) (v:Value) (W:World):Prop:=∃ a c,v=.slice a us.length c∧TrAt W.heap.size W a us∧AvT (fun g=>base≤g) a us∧∀ i,i<us.length→(ndi us i).n.ms.length≤1000
theorem Qge {base : Nat} {us:List NdV} {a:Option Addr} {c:Nat} {W:World} (t:OwT base us (.slice a us.length c) W):AvT (fun g=>base≤g) a us:=by
  refine ⟨fun g o m h0 e=>?_,fun i hi hn g o m e=>?_⟩
  · subst e
    exact (t.rowBlock (g:=g) rfl).1
  · have h1:=(t.nd i hi (by simp)).2.2
    exact h1.ge (g:=g) (by unfold slv; rw [e]; rfl)
theorem OwH.fr {base : Nat} {us:List NdV} {v:Value} {W:World} (t:OwT base us v W):FrT base us v W:=by
  obtain ⟨a,c,rfl⟩:=t.slice
  exact ⟨a,c,rfl,t.tr,Qge t,fun i hi=>(t.nd i hi (by simp)).2.1⟩
def cutT : Nat→List NdV→List NdV
  | 0,ts=>ts
  | k+1,ts=>if anyU ts (lvs ts/2)=true then ts else cutT k (ts.take (ts.length/2))
theorem QdL {m : Nat} {ts:List NdV} {L:Nat} (e:lvs ts=L) (h:anyU ts (L/2)=true):cutT m ts=ts:=by
  cases m with
  | zero=>rfl
  | succ k=>rw [cutT,e,if_pos h]
theorem Qdg {m : Nat} {ts:List NdV} {L:Nat} (e:lvs ts=L) (hm:0<m) (h:anyU ts (L/2)=false):cutT m ts=cutT (m-1) (ts.take (ts.length/2)):=by
  obtain ⟨k,rfl⟩:∃ k,m=k+1:=⟨m-1,by omega⟩
  rw [cutT,e,if_neg (by rw [h]; decide)]; rfl
theorem QbK {ts : List NdV} {k:Nat}:anyU ts k=true↔∃ j,k≤j∧2*j<ts.length∧(ndi ts (2*j)).n.us=true:=by
  unfold anyU
  rw [List.any_eq_true]
  constructor
  · rintro ⟨j,hj,h⟩
    simp only [Bool.and_eq_true,decide_eq_true_eq] at h
    exact ⟨j,h.1.1,h.1.2,h.2⟩
  · rintro ⟨j,h1,h2,h3⟩
    exact ⟨j,List.mem_range.2 (by omega),by simp [h1,h2,h3]⟩
theorem Qdi {ts : List NdV} {L:Nat} (hl:ts.length+1=2*L) (hL:L%2=0) (h0:anyU ts 0=true) (h1:anyU ts (L/2)=false):anyU (ts.take (ts.length/2)) 0=true:=by
  obtain ⟨j,-,h3,h4⟩:=QbK.1 h0
  have hj:j<L/2:=by
    rcases Nat.lt_or_ge j (L/2) with h | h
    · exact h
    · rw [QbK.2 ⟨j,h,h3,h4⟩] at h1; cases h1
  exact QbK.2 ⟨j,Nat.zero_le _,by rw [List.length_take]; omega,by rw [Qb3 (by omega)]; exact h4⟩
theorem Qfq {L : Nat} (h:Qax ((L:Nat):Int)=true) (h1:L≠1):L%2=0∧Qax ((L/2:Nat):Int)=true:=by
  have:=Qav h
  rcases (show L=2∨L=4∨L=8∨L=16∨L=32 by omega) with rfl | rfl | rfl | rfl | rfl <;> exact ⟨rfl,rfl⟩
theorem Qbh {m L:Nat} (hl:m+1=2*L) (h:Qax ((L:Nat):Int)=true):leaves ((m:Nat):Int)=((L:Nat):Int):=by
  have hL:=Qav h
  rcases (show (L=1∧m=1)∨(L=2∧m=3)∨(L=4∧m=7)∨(L=8∧m=15)∨(L=16∧m=31)∨(L=32∧m=63) by omega) with ⟨rfl,rfl⟩ | ⟨rfl,rfl⟩ | ⟨rfl,rfl⟩ | ⟨rfl,rfl⟩ | ⟨rfl,rfl⟩ | ⟨rfl,rfl⟩ <;> (rw [QfA _ ⟨by decide,by decide⟩]; decide)
theorem Qlj {M : Nat} (ts:List NdV) (a_t:Option Addr) (c_t B1:Nat) (w:World) (ht:TrAt B1 w a_t ts) (hM:ts.length=M) (htl:ts.length≤100000) (L:Nat) (hL:leaves ((ts.length:Nat):Int)=((L:Nat):Int)) (hL2:L≤100000):Calls Tryd.prog 38 #[.slice a_t M c_t] w (Ret w (.bool (anyU ts (L/2)))):=by
  subst hM
  exact Qh7 ts a_t c_t B1 w ht htl L hL hL2
section
variable {P : Program} {ρ : Operand → Value} {o : Oper} {w : World}
theorem QgU (t : TypeId) (x y z:Operand) (h:Nat) (e:TypeId) (ho:o.op=.slice t x none (some y) (some z)) {a:Option Addr} {len cap:Nat} (hx:ρ x=.slice a len cap)
    (hu:P.underlying t=some (.slice e)) (ky kz:IntKind) (hy:ρ y=.int ky (h:Int)) (hz:ρ z=.int kz (h:Int)) (sz:Nat) (hs:(P.info? e).map (·.size)=some sz) (h2:h≤cap) :
    (execOp ρ o).run P w=.ok (.value (.slice a h h)) w:=by
  cases hq:P.info? e with
  | none=>simp [hq] at hs
  | some i =>
    have hs':i.size=sz:=by simpa [hq] using hs
    unfold execOp
    have hadd:∀ a:Option Addr,Option.map (fun x=>x.add 0) a=a:=fun a=>by
      cases a with
      | none=>rfl
      | some a=>obtain ⟨b,o,s⟩:=a; cases s <;> simp [Addr.add]
    simp [ho,hx,hy,hz,Instr.sliceAt,Instr.slice,Instr.sliceBounds,run_sliceBound,run_underlying hu,sizeOf,typeInfo,hq,hs',h2,hadd]
end
theorem trM {base M:Nat} {us:List NdV} {a:Option Addr} {c:Nat} {W:World} (hM:us.length=M) (t:OwT base us (.slice a M c) W):TrAt W.heap.size W a us∧AvT (fun g=>base≤g) a us:=by
  subst hM
  exact ⟨t.tr,Qge t⟩
def remT (ts : List NdV) (m L:Nat):List NdV:=cutT ts.length (blkT (ts.set (2*m) zn) (2*((m:Nat):Int)) ((L:Nat):Int))
theorem Qcv (ts : List NdV) (y n:Int):(blkT ts y n).length=ts.length:=Qfg ts y n _ ts rfl
theorem QhH : QbL (fun n x=>decide (par x n=-1) || decide (par x n%2=1))=true:=by decide +kernel
theorem QcL {x n:Int}:∀ {k:Nat},0≤upn x n k→upn x n k%2=1
  | 0,h=>by
    have h:0≤par x n:=h
    show par x n%2=1
    cases hd:Qau x n with
    | false=>rw [Qc4 hd] at h; omega
    | true =>
      have:=QaS QhH hd
      simp only [Bool.or_eq_true,decide_eq_true_eq] at this
      omega
  | k+1,h=>by
    have h:0≤par (upn x n k) n:=h
    show par (upn x n k) n%2=1
    cases hd:Qau (upn x n k) n with
    | false=>rw [Qc4 hd] at h; omega
    | true =>
      have:=QaS QhH hd
      simp only [Bool.or_eq_true,decide_eq_true_eq] at this
      omega
theorem Qe7 {ts : List NdV} {i j:Nat} (n:NdV) (h:j≠i):ndi (ts.set i n) j=ndi ts j:=by
  unfold ndi
  rw [List.getD_eq_getElem?_getD,List.getD_eq_getElem?_getD,List.getElem?_set_ne (fun e=>h e.symm)]
theorem Qfh (y n:Int) (i:Nat):∀ (pre:List Nat) (us:List NdV),(∀ z∈pre,upN y n z≠i)→ndi (blkL us y n pre) i=ndi us i
  | [],us,h=>rfl
  | z::r,us,h=>(Qfh y n i r (us.set (upN y n z) zn) fun q hq=>h q (List.mem_cons_of_mem _ hq)).trans (Qe7 zn fun e=>h z List.mem_cons_self e.symm)
theorem Qdh (ts : List NdV) (y n:Int) (j:Nat):ndi (blkT ts y n) (2*j)=ndi ts (2*j):=Qfh y n (2*j) _ ts fun z hz e=>by
  have h:=of_decide_eq_true (List.mem_filter.1 hz).2
  have h2:=QcL h
  rw [←Qb8 h,e] at h2
  omega
theorem Qcn (ts : List NdV):∀ k,(QaD ts k).Nodup
  | 0=>List.nodup_nil
  | k+1=>by
    cases hu:(ndi ts (2*k)).n.us with
    | false=>rw [Qco hu]; exact Qcn ts k
    | true =>
      rw [QbX hu,List.nodup_append]
      refine ⟨Qcn ts k,by simp,fun a ha b hb e=>?_⟩
      rw [List.mem_singleton] at hb
      have:=(QbN.1 ha).1
      omega
theorem Qf3 {l : List Nat} {m:Nat} (hn:l.Nodup) (hm:m∈l) (hl:l.length≠1):∃ j,j∈l∧j≠m:=by
  rcases l with _ | ⟨a,_ | ⟨b,r⟩⟩
  · cases hm
  · exact absurd rfl hl
  · by_cases e:a=m
    · refine ⟨b,by simp,fun e2=>?_⟩
      rw [List.nodup_cons] at hn
      exact hn.1 (by rw [e,e2]; simp)
    · exact ⟨a,by simp,e⟩
theorem Qh8 {us ts:List NdV} {L m:Nat} (has:AsC us ts) (hlen:ts.length+1=2*L) (hTr:Qax ((L:Nat):Int)=true) (hm:m<L) (hus:(ndi ts (2*m)).n.us=true) (hal:((((QaD ts L).length:Nat):Int)==1)=false):anyU (blkT (us.set (2*m) zn) (2*((m:Nat):Int)) ((L:Nat):Int)) 0=true:=by
  obtain ⟨j,hj,hjm⟩:=Qf3 (Qcn ts L) (QbN.2 ⟨hm,hus⟩) (fun e=>by rw [e] at hal; cases hal)
  obtain ⟨h1,h2⟩:=QbN.1 hj
  refine QbK.2 ⟨j,Nat.zero_le _,by rw [Qcv,List.length_set,has.1]; omega,?_⟩
  rw [Qdh,Qe7 zn (by omega),has.2 _ (by omega)]
  exact h2
set_option maxRecDepth 100000 in
theorem QiK (ts : List NdV) (a_t:Option Addr) (c_t B1:Nat) (w:World) (ht:TrAt B1 w a_t ts) (htl:ts.length≤100000) (hmt:∀ i,i<ts.length→(ndi ts i).n.ms.length≤1000) (hT:TabAt w) (hc:chkT ts=false) (n:Int):Calls Tryd.prog 29 #[.slice a_t ts.length c_t,.int .i64 n] w (Ret w (.tuple #[.slice none 0 0,.iface 30 (.int .i64 3)])):=by
  refine enter 42 [(0,.slice a_t ts.length c_t),(1,.int .i64 n)] Tryd.func29 rfl rfl kj rfl ?_
  refine wp_seq_k fun K1 hK1=>?_
  refine Qab ?_
  refine Qaa (.slice none 0 0) 4 rfl kj kj ?_
  refine Qaa (.nilIface) 5 rfl kj kj ?_
  refine Qae ?_
  refine hK1 _ _ ?_
  refine wp_seq_k fun K2 hK2=>?_
  refine wp_seq_k fun K3 hK3=>?_
  refine Qab ?_
  refine Qaa (.slice a_t ts.length c_t) 8 rfl kj kj ?_
  refine Qal (.iface 30 (.int .i64 3)) 11 #[.slice a_t ts.length c_t] 9 rfl kj kj (Qiq ts a_t c_t _ _ (TrAt.ext ht (Rely.Ext.refl w)) htl (fun i hi=>qT (hmt i hi) (by decide)) (TabAt.ext hT (Rely.Ext.refl w)) hc) fun W1 e1=>?_
  have x1:Ext w W1:=Ext.tr (Rely.Ext.refl w) e1
  refine Qaa (.bool true) 10 rfl kj kj ?_
  refine Qae ?_
  refine hK3 _ _ ?_
  refine cond_true kj ?_
  refine wp_seq_k fun K4 hK4=>?_
  refine Qab ?_
  refine Qaa (.iface 30 (.int .i64 3)) 11 rfl kj kj ?_
  refine Qaa (.slice none 0 0) 4 rfl kj kj ?_
  refine Qaa (.iface 30 (.int .i64 3)) 5 rfl kj kj ?_
  refine Qae ?_
  refine hK4 _ _ ?_
  refine wp_ret ?_
  repeat (first | with_reducible refine goR1 ?_ | with_reducible refine goR2 ?_)
  exact (show bodyPost _ _ _ .ret _ _ from ret2 (.slice none 0 0) (.iface 30 (.int .i64 3)) rfl (Qam kj) (Qam kj) ⟨rfl,x1⟩)
set_option maxRecDepth 100000 in
theorem QiO (ts : List NdV) (a_t:Option Addr) (c_t B1:Nat) (w:World) (ht:TrAt B1 w a_t ts) (htl:ts.length≤100000) (hmt:∀ i,i<ts.length→(ndi ts i).n.ms.length≤1000) (hT:TabAt w) (hc:chkT ts=true) (L:Nat) (hL:leaves ((ts.length:Nat):Int)=((L:Nat):Int)) (hL3:L≤32) (hlen:ts.length+1=2*L) (hTr:Qax ((L:Nat):Int)=true) (n:Int) (h0:n<0):Calls Tryd.prog 29 #[.slice a_t ts.length c_t,.int .i64 n] w (Ret w (.tuple #[.slice none 0 0,.iface 30 (.int .i64 9)])):=by
  refine enter 42 [(0,.slice a_t ts.length c_t),(1,.int .i64 n)] Tryd.func29 rfl rfl kj rfl ?_
  refine wp_seq_k fun K1 hK1=>?_
  refine Qab ?_
  refine Qaa (.slice none 0 0) 4 rfl kj kj ?_
  refine Qaa (.nilIface) 5 rfl kj kj ?_
  refine Qae ?_
  refine hK1 _ _ ?_
  refine wp_seq_k fun K2 hK2=>?_
  refine wp_seq_k fun K3 hK3=>?_
  refine Qab ?_
  refine Qaa (.slice a_t ts.length c_t) 8 rfl kj kj ?_
  refine Qal (.nilIface) 11 #[.slice a_t ts.length c_t] 9 rfl kj kj (Qca ts a_t c_t _ _ (TrAt.ext ht (Rely.Ext.refl w)) htl (fun i hi=>qT (hmt i hi) (by decide)) (TabAt.ext hT (Rely.Ext.refl w)) hc) fun W1 e1=>?_
  have x1:Ext w W1:=Ext.tr (Rely.Ext.refl w) e1
  refine Qaa (.bool false) 10 rfl kj kj ?_
  refine Qae ?_
  refine hK3 _ _ ?_
  refine cond_false kj ?_
  refine wp_skip ?_
  refine hK2 _ _ ?_
  refine wp_seq_k fun K4 hK4=>?_
  refine wp_seq_k fun K5 hK5=>?_
  refine Qab ?_
  refine Qaa (.slice a_t ts.length c_t) 12 rfl kj kj ?_
  refine Qaa (.int .i64 n) 13 rfl kj kj ?_
  refine Qal (.bool false) 55 #[.slice a_t ts.length c_t,.int .i64 n] 14 rfl kj kj (QjO ts a_t c_t _ _ (TrAt.ext ht x1) htl L hL (by omega) n h0) fun W2 e2=>?_
  have x2:Ext w W2:=Ext.tr x1 e2
  refine Qaa (.bool true) 15 rfl kj kj ?_
  refine Qaa (.bool true) 16 rfl kj kj ?_
  refine Qad 17 rfl kj ?_
  refine Qad 18 rfl kj ?_
  refine Qaa (.bool true) 19 rfl kj kj ?_
  refine Qae ?_
  refine hK5 _ _ ?_
  refine cond_true kj ?_
  refine wp_seq_k fun K6 hK6=>?_
  refine Qab ?_
  refine Qaa (.iface 30 (.int .i64 9)) 20 rfl kj kj ?_
  refine Qaa (.slice none 0 0) 4 rfl kj kj ?_
  refine Qaa (.iface 30 (.int .i64 9)) 5 rfl kj kj ?_
  refine Qae ?_
  refine hK6 _ _ ?_
  refine wp_ret ?_
  repeat (first | with_reducible refine goR1 ?_ | with_reducible refine goR2 ?_)
  exact (show bodyPost _ _ _ .ret _ _ from ret2 (.slice none 0 0) (.iface 30 (.int .i64 9)) rfl (Qam kj) (Qam kj) ⟨rfl,x2⟩)
set_option maxRecDepth 100000 in
theorem QiN (ts : List NdV) (a_t:Option Addr) (c_t B1:Nat) (w:World) (ht:TrAt B1 w a_t ts) (htl:ts.length≤100000) (hmt:∀ i,i<ts.length→(ndi ts i).n.ms.length≤1000) (hT:TabAt w) (hc:chkT ts=true) (L:Nat) (hL:leaves ((ts.length:Nat):Int)=((L:Nat):Int)) (hL3:L≤32) (hlen:ts.length+1=2*L) (hTr:Qax ((L:Nat):Int)=true) (n:Int) (h0:0≤n) (h1:((L:Nat):Int)≤n):Calls Tryd.prog 29 #[.slice a_t ts.length c_t,.int .i64 n] w (Ret w (.tuple #[.slice none 0 0,.iface 30 (.int .i64 9)])):=by
  refine enter 42 [(0,.slice a_t ts.length c_t),(1,.int .i64 n)] Tryd.func29 rfl rfl kj rfl ?_
  refine wp_seq_k fun K1 hK1=>?_
  refine Qab ?_
  refine Qaa (.slice none 0 0) 4 rfl kj kj ?_
  refine Qaa (.nilIface) 5 rfl kj kj ?_
  refine Qae ?_
  refine hK1 _ _ ?_
  refine wp_seq_k fun K2 hK2=>?_
  refine wp_seq_k fun K3 hK3=>?_
  refine Qab ?_
  refine Qaa (.slice a_t ts.length c_t) 8 rfl kj kj ?_
  refine Qal (.nilIface) 11 #[.slice a_t ts.length c_t] 9 rfl kj kj (Qca ts a_t c_t _ _ (TrAt.ext ht (Rely.Ext.refl w)) htl (fun i hi=>qT (hmt i hi) (by decide)) (TabAt.ext hT (Rely.Ext.refl w)) hc) fun W1 e1=>?_
  have x1:Ext w W1:=Ext.tr (Rely.Ext.refl w) e1
  refine Qaa (.bool false) 10 rfl kj kj ?_
  refine Qae ?_
  refine hK3 _ _ ?_
  refine cond_false kj ?_
  refine wp_skip ?_
  refine hK2 _ _ ?_
  refine wp_seq_k fun K4 hK4=>?_
  refine wp_seq_k fun K5 hK5=>?_
  refine Qab ?_
  refine Qaa (.slice a_t ts.length c_t) 12 rfl kj kj ?_
  refine Qaa (.int .i64 n) 13 rfl kj kj ?_
  refine Qal (.bool false) 55 #[.slice a_t ts.length c_t,.int .i64 n] 14 rfl kj kj (QjN ts a_t c_t _ _ (TrAt.ext ht x1) htl L hL (by omega) n h0 h1) fun W2 e2=>?_
  have x2:Ext w W2:=Ext.tr x1 e2
  refine Qaa (.bool true) 15 rfl kj kj ?_
  refine Qaa (.bool true) 16 rfl kj kj ?_
  refine Qad 17 rfl kj ?_
  refine Qad 18 rfl kj ?_
  refine Qaa (.bool true) 19 rfl kj kj ?_
  refine Qae ?_
  refine hK5 _ _ ?_
  refine cond_true kj ?_
  refine wp_seq_k fun K6 hK6=>?_
  refine Qab ?_
  refine Qaa (.iface 30 (.int .i64 9)) 20 rfl kj kj ?_
  refine Qaa (.slice none 0 0) 4 rfl kj kj ?_
  refine Qaa (.iface 30 (.int .i64 9)) 5 rfl kj kj ?_
  refine Qae ?_
  refine hK6 _ _ ?_
  refine wp_ret ?_
  repeat (first | with_reducible refine goR1 ?_ | with_reducible refine goR2 ?_)
  exact (show bodyPost _ _ _ .ret _ _ from ret2 (.slice none 0 0) (.iface 30 (.int .i64 9)) rfl (Qam kj) (Qam kj) ⟨rfl,x2⟩)
set_option maxRecDepth 100000 in
theorem QiM (ts : List NdV) (a_t:Option Addr) (c_t B1:Nat) (w:World) (ht:TrAt B1 w a_t ts) (htl:ts.length≤100000) (hmt:∀ i,i<ts.length→(ndi ts i).n.ms.length≤1000) (hT:TabAt w) (hc:chkT ts=true) (L:Nat) (hL:leaves ((ts.length:Nat):Int)=((L:Nat):Int)) (hL3:L≤32) (hlen:ts.length+1=2*L) (hTr:Qax ((L:Nat):Int)=true) (m:Nat) (hm:m<L) (hus:(ndi ts (2*m)).n.us=false):Calls Tryd.prog 29 #[.slice a_t ts.length c_t,.int .i64 ((m:Nat):Int)] w (Ret w (.tuple #[.slice none 0 0,.iface 30 (.int .i64 9)])):=by
  refine enter 42 [(0,.slice a_t ts.length c_t),(1,.int .i64 ((m:Nat):Int))] Tryd.func29 rfl rfl kj rfl ?_
  refine wp_seq_k fun K1 hK1=>?_
  refine Qab ?_
  refine Qaa (.slice none 0 0) 4 rfl kj kj ?_
  refine Qaa (.nilIface) 5 rfl kj kj ?_
  refine Qae ?_
  refine hK1 _ _ ?_
  refine wp_seq_k fun K2 hK2=>?_
  refine wp_seq_k fun K3 hK3=>?_
  refine Qab ?_
  refine Qaa (.slice a_t ts.length c_t) 8 rfl kj kj ?_
  refine Qal (.nilIface) 11 #[.slice a_t ts.length c_t] 9 rfl kj kj (Qca ts a_t c_t _ _ (TrAt.ext ht (Rely.Ext.refl w)) htl (fun i hi=>qT (hmt i hi) (by decide)) (TabAt.ext hT (Rely.Ext.refl w)) hc) fun W1 e1=>?_
  have x1:Ext w W1:=Ext.tr (Rely.Ext.refl w) e1
  refine Qaa (.bool false) 10 rfl kj kj ?_
  refine Qae ?_
  refine hK3 _ _ ?_
  refine cond_false kj ?_
  refine wp_skip ?_
  refine hK2 _ _ ?_
  refine wp_seq_k fun K4 hK4=>?_
  refine wp_seq_k fun K5 hK5=>?_
  refine Qab ?_
  refine Qaa (.slice a_t ts.length c_t) 12 rfl kj kj ?_
  refine Qaa (.int .i64 ((m:Nat):Int)) 13 rfl kj kj ?_
  refine Qal (.bool false) 55 #[.slice a_t ts.length c_t,.int .i64 ((m:Nat):Int)] 14 rfl kj kj ((hus▸QfI ts a_t c_t _ _ (TrAt.ext ht x1) htl L hL (by omega) m hm)) fun W2 e2=>?_
  have x2:Ext w W2:=Ext.tr x1 e2
  refine Qaa (.bool true) 15 rfl kj kj ?_
  refine Qaa (.bool true) 16 rfl kj kj ?_
  refine Qad 17 rfl kj ?_
  refine Qad 18 rfl kj ?_
  refine Qaa (.bool true) 19 rfl kj kj ?_
  refine Qae ?_
  refine hK5 _ _ ?_
  refine cond_true kj ?_
  refine wp_seq_k fun K6 hK6=>?_
  refine Qab ?_
  refine Qaa (.iface 30 (.int .i64 9)) 20 rfl kj kj ?_
  refine Qaa (.slice none 0 0) 4 rfl kj kj ?_
  refine Qaa (.iface 30 (.int .i64 9)) 5 rfl kj kj ?_
  refine Qae ?_
  refine hK6 _ _ ?_
  refine wp_ret ?_
  repeat (first | with_reducible refine goR1 ?_ | with_reducible refine goR2 ?_)
  exact (show bodyPost _ _ _ .ret _ _ from ret2 (.slice none 0 0) (.iface 30 (.int .i64 9)) rfl (Qam kj) (Qam kj) ⟨rfl,x2⟩)
set_option maxRecDepth 100000 in
theorem QiL (ts : List NdV) (a_t:Option Addr) (c_t B1:Nat) (w:World) (ht:TrAt B1 w a_t ts) (htl:ts.length≤100000) (hmt:∀ i,i<ts.length→(ndi ts i).n.ms.length≤1000) (hT:TabAt w) (hc:chkT ts=true) (L:Nat) (hL:leaves ((ts.length:Nat):Int)=((L:Nat):Int)) (hL3:L≤32) (hlen:ts.length+1=2*L) (hTr:Qax ((L:Nat):Int)=true) (m:Nat) (hm:m<L) (hus:(ndi ts (2*m)).n.us=true) (hal:((((QaD ts L).length:Nat):Int)==1)=true):Calls Tryd.prog 29 #[.slice a_t ts.length c_t,.int .i64 ((m:Nat):Int)] w (Ret w (.tuple #[.slice none 0 0,.iface 30 (.int .i64 9)])):=by
  refine enter 42 [(0,.slice a_t ts.length c_t),(1,.int .i64 ((m:Nat):Int))] Tryd.func29 rfl rfl kj rfl ?_
  refine wp_seq_k fun K1 hK1=>?_
  refine Qab ?_
  refine Qaa (.slice none 0 0) 4 rfl kj kj ?_
  refine Qaa (.nilIface) 5 rfl kj kj ?_
  refine Qae ?_
  refine hK1 _ _ ?_
  refine wp_seq_k fun K2 hK2=>?_
  refine wp_seq_k fun K3 hK3=>?_
  refine Qab ?_
  refine Qaa (.slice a_t ts.length c_t) 8 rfl kj kj ?_
  refine Qal (.nilIface) 11 #[.slice a_t ts.length c_t] 9 rfl kj kj (Qca ts a_t c_t _ _ (TrAt.ext ht (Rely.Ext.refl w)) htl (fun i hi=>qT (hmt i hi) (by decide)) (TabAt.ext hT (Rely.Ext.refl w)) hc) fun W1 e1=>?_
  have x1:Ext w W1:=Ext.tr (Rely.Ext.refl w) e1
  refine Qaa (.bool false) 10 rfl kj kj ?_
  refine Qae ?_
  refine hK3 _ _ ?_
  refine cond_false kj ?_
  refine wp_skip ?_
  refine hK2 _ _ ?_
  refine wp_seq_k fun K4 hK4=>?_
  refine wp_seq_k fun K5 hK5=>?_
  refine Qab ?_
  refine Qaa (.slice a_t ts.length c_t) 12 rfl kj kj ?_
  refine Qaa (.int .i64 ((m:Nat):Int)) 13 rfl kj kj ?_
  refine Qal (.bool true) 55 #[.slice a_t ts.length c_t,.int .i64 ((m:Nat):Int)] 14 rfl kj kj ((hus▸QfI ts a_t c_t _ _ (TrAt.ext ht x1) htl L hL (by omega) m hm)) fun W2 e2=>?_
  have x2:Ext w W2:=Ext.tr x1 e2
  refine Qaa (.bool false) 15 rfl kj kj ?_
  refine Qaa (.bool false) 16 rfl kj kj ?_
  refine Qaa (.slice a_t ts.length c_t) 17 rfl kj kj ?_
  refine Qal (.bool true) 59 #[.slice a_t ts.length c_t] 18 rfl kj kj (QjC ts a_t c_t _ _ (TrAt.ext ht x2) htl L hL (by omega) hL3 true hal) fun W3 e3=>?_
  have x3:Ext w W3:=Ext.tr x2 e3
  refine Qaa (.bool true) 19 rfl kj kj ?_
  refine Qae ?_
  refine hK5 _ _ ?_
  refine cond_true kj ?_
  refine wp_seq_k fun K6 hK6=>?_
  refine Qab ?_
  refine Qaa (.iface 30 (.int .i64 9)) 20 rfl kj kj ?_
  refine Qaa (.slice none 0 0) 4 rfl kj kj ?_
  refine Qaa (.iface 30 (.int .i64 9)) 5 rfl kj kj ?_
  refine Qae ?_
  refine hK6 _ _ ?_
  refine wp_ret ?_
  repeat (first | with_reducible refine goR1 ?_ | with_reducible refine goR2 ?_)
  exact (show bodyPost _ _ _ .ret _ _ from ret2 (.slice none 0 0) (.iface 30 (.int .i64 9)) rfl (Qam kj) (Qam kj) ⟨rfl,x3⟩)
set_option maxRecDepth 100000 in
theorem QeR (ts : List NdV) (a_t:Option Addr) (c_t B1:Nat) (w:World) (ht:TrAt B1 w a_t ts) (htl:ts.length≤100000) (hmt:∀ i,i<ts.length→(ndi ts i).n.ms.length≤1000) (hT:TabAt w) (hc:chkT ts=true) (L:Nat) (hL:leaves ((ts.length:Nat):Int)=((L:Nat):Int)) (hL3:L≤32) (hlen:ts.length+1=2*L) (hTr:Qax ((L:Nat):Int)=true) (m:Nat) (hm:m<L) (hus:(ndi ts (2*m)).n.us=true) (hal:((((QaD ts L).length:Nat):Int)==1)=false):Calls Tryd.prog 29 #[.slice a_t ts.length c_t,.int .i64 ((m:Nat):Int)] w (QbH w (fun v W=>∃ us rs,AsC us ts∧rs=remT us m L∧∃ u e,v=.tuple #[u,e]∧e=.nilIface∧FrT w.heap.size rs u W)):=by
 refine enter 42 [(0,.slice a_t ts.length c_t),(1,.int .i64 ((m:Nat):Int))] Tryd.func29 rfl rfl kj rfl ?_
 refine wp_seq_k fun K1 hK1=>?_
 refine Qab ?_
 refine Qaa (.slice none 0 0) 4 rfl kj kj ?_
 refine Qaa (.nilIface) 5 rfl kj kj ?_
 refine Qae ?_
 refine hK1 _ _ ?_
 refine wp_seq_k fun K2 hK2=>?_
 refine wp_seq_k fun K3 hK3=>?_
 refine Qab ?_
 refine Qaa (.slice a_t ts.length c_t) 8 rfl kj kj ?_
 refine Qal (.nilIface) 11 #[.slice a_t ts.length c_t] 9 rfl kj kj (Qca ts a_t c_t _ _ (TrAt.ext ht (Rely.Ext.refl w)) htl (fun i hi=>qT (hmt i hi) (by decide)) (TabAt.ext hT (Rely.Ext.refl w)) hc) fun W1 e1=>?_
 have x1:Ext w W1:=Ext.tr (Rely.Ext.refl w) e1
 refine Qaa (.bool false) 10 rfl kj kj ?_
 refine Qae ?_
 refine hK3 _ _ ?_
 refine cond_false kj ?_
 refine wp_skip ?_
 refine hK2 _ _ ?_
 refine wp_seq_k fun K4 hK4=>?_
 refine wp_seq_k fun K5 hK5=>?_
 refine Qab ?_
 refine Qaa (.slice a_t ts.length c_t) 12 rfl kj kj ?_
 refine Qaa (.int .i64 ((m:Nat):Int)) 13 rfl kj kj ?_
 refine Qal (.bool true) 55 #[.slice a_t ts.length c_t,.int .i64 ((m:Nat):Int)] 14 rfl kj kj ((hus▸QfI ts a_t c_t _ _ (TrAt.ext ht x1) htl L hL (by omega) m hm)) fun W2 e2=>?_
 have x2:Ext w W2:=Ext.tr x1 e2
 refine Qaa (.bool false) 15 rfl kj kj ?_
 refine Qaa (.bool false) 16 rfl kj kj ?_
 refine Qaa (.slice a_t ts.length c_t) 17 rfl kj kj ?_
 refine Qal (.bool false) 59 #[.slice a_t ts.length c_t] 18 rfl kj kj (QjC ts a_t c_t _ _ (TrAt.ext ht x2) htl L hL (by omega) hL3 false hal) fun W3 e3=>?_
 have x3:Ext w W3:=Ext.tr x2 e3
 refine Qaa (.bool false) 19 rfl kj kj ?_
 refine Qae ?_
 refine hK5 _ _ ?_
 refine cond_false kj ?_
 refine wp_skip ?_
 refine hK4 _ _ ?_
 refine wp_seq_k fun K6 hK6=>?_
 refine Qab ?_
 refine Qaa (.slice a_t ts.length c_t) 21 rfl kj kj ?_
 refine Qa7 (fun v W'=>(fun v W=>∃ us,AsC us ts∧OwT W3.heap.size us v W∧∃ g,v=.slice (some ⟨g,0,none⟩) ts.length ts.length) v W'∧Ext W3 W') 16 #[.slice a_t ts.length c_t] 22 rfl kj kj ((Qjl ts a_t _ _ _ (TrAt.ext ht x3) htl hmt).mono (by rintro e w' ⟨v,rfl,e1,hv⟩; exact ⟨v,rfl,hv,e1⟩)) fun vv7 W4 hh7=>?_
 obtain ⟨hv7,e4⟩:=hh7
 have x4:Ext w W4:=Ext.tr x3 e4
 obtain ⟨us,has,hU,gO,rfl⟩:=hv7
 obtain ⟨lgO,cuO,rO4⟩:=hU.rowBlock (g:=gO) rfl
 have bgO:w.heap.size≤gO:=qT x3.size lgO
 refine Qaa (.slice (some ⟨gO,0,none⟩) ts.length ts.length) 6 rfl kj kj ?_
 refine Qae ?_
 refine hK6 _ _ ?_
 refine wp_seq_k fun K9 hK9=>?_
 refine Qab ?_
 refine Qaa (.slice (some ⟨gO,0,none⟩) ts.length ts.length) 23 rfl kj kj ?_
 refine Qaa (.int .i64 ((m:Nat):Int)) 24 rfl kj kj ?_
 refine Qaa (.int .i64 (((2*m:Nat):Int))) 25 rfl kj (Qai (u:=.int .i64 (IntKind.i64.wrap (2*((m:Nat):Int)))) kj (congrArg (Value.int .i64) ((IntWalk.i64_in _ (by omega)).trans (by omega)))) ?_
 refine Qaa (.agg (cat [#[.bool false],#[.int .i64 0],ints .u8 (List.replicate 32 0),ints .u8 (List.replicate 32 0),ints .u8 (List.replicate 32 0),#[.slice none 0 0]])) 26 rfl kj kj ?_
 refine Qaa (.pointer (some ⟨gO,0+(2*m)*99,none⟩)) 27 rfl kj (Qa6 23 _ _ .i64 (2*m) gO 0 ts.length ts.length 41 99 rfl kj kj kj kj (by omega)) ?_
 refine QdE 41 _ _ gO (2*m) ts.length (h:=none) (has.1) hU (.inl rfl) (by omega) (QgM _ _) (fun j _ _ g h=>by rw [QiS] at h; cases h) rfl kj kj kj rfl kj fun W5 p5 hU2=>?_
 have x5:Ext w W5:=Puts.ext p5 x4 bgO
 refine Qae ?_
 refine hK9 _ _ ?_
 refine wp_seq_k fun K10 hK10=>?_
 refine Qab ?_
 refine Qaa (.slice (some ⟨gO,0,none⟩) ts.length ts.length) 28 rfl kj kj ?_
 refine Qaa (.int .i64 ((m:Nat):Int)) 29 rfl kj kj ?_
 refine Qa7 (fun v W'=>v=.tuple #[]∧ExtB gO W5 W'∧OwT W3.heap.size (blkT (us.set (2*m) zn) (2*((m:Nat):Int)) ((L:Nat):Int)) (.slice (some ⟨gO,0,none⟩) ts.length ts.length) W') 56 #[.slice (some ⟨gO,0,none⟩) ts.length ts.length,.int .i64 ((m:Nat):Int)] 30 rfl kj kj ((QlD (us.set (2*m) zn) gO ts.length ts.length _ _ ((List.length_set ..).trans has.1) hU2 L hL hlen hTr htl (TabAt.ext hT x5) (Nat.ne_of_lt (qL hT.1 bgO)) m (by omega)).mono (by rintro e w' ⟨rfl,q1,q2⟩; exact ⟨_,rfl,rfl,q1,q2⟩)) fun vv11 W6 hh11=>?_
 obtain ⟨rfl,q6,hU3⟩:=hh11
 have x6:Ext w W6:=ExtB.up x5 q6 bgO
 refine Qae ?_
 refine hK10 _ _ ?_
 refine wp_seq_k fun K12 hK12=>?_
 refine wp_block ?_
 have hl3:(blkT (us.set (2*m) zn) (2*((m:Nat):Int)) ((L:Nat):Int)).length=ts.length:=by rw [Qcv,List.length_set]; exact has.1
 obtain ⟨ht3,hav3⟩:=trM hl3 hU3
 have hms3:∀ i,i<ts.length→(ndi (blkT (us.set (2*m) zn) (2*((m:Nat):Int)) ((L:Nat):Int)) i).n.ms.length≤1000:=fun i hi=>(hU3.nd i (by omega) (by simp)).2.1
 have han3:anyU (blkT (us.set (2*m) zn) (2*((m:Nat):Int)) ((L:Nat):Int)) 0=true:=Qh8 has hlen hTr hm hus hal
 refine Qaz (fun (s1:Nat×Nat×Nat×List NdV)=>[(6,.slice (some ⟨gO,0,none⟩) s1.2.1 s1.2.1)]) (fun (s1:Nat×Nat×Nat×List NdV) W=>(s1.2.2.2.length=s1.2.1)∧(s1.2.1+1=2*s1.2.2.1)∧(Qax ((s1.2.2.1:Nat):Int)=true)∧(s1.2.1≤s1.1)∧(cutT ts.length (blkT (us.set (2*m) zn) (2*((m:Nat):Int)) ((L:Nat):Int))=cutT s1.1 s1.2.2.2)∧(anyU s1.2.2.2 0=true)∧(TrAt W.heap.size W (some ⟨gO,0,none⟩) s1.2.2.2)∧(AvT (fun g=>W3.heap.size≤g) (some ⟨gO,0,none⟩) s1.2.2.2)∧(∀ i,i<s1.2.1→(ndi s1.2.2.2 i).n.ms.length≤1000)∧(s1.2.1≤100000)∧(Ext W6 W)∧(Ext w W)) (fun (s1:Nat×Nat×Nat×List NdV)=>s1.2.1) (ts.length,ts.length,L,(blkT (us.set (2*m) zn) (2*((m:Nat):Int)) ((L:Nat):Int))) ⟨rfl,trivial⟩ ⟨hl3,hlen,hTr,(qR _),rfl,han3,ht3,hav3,hms3,htl,(Rely.Ext.refl W6),x6⟩ fun s1 X1 V1 hI1=>?_
 obtain ⟨fu,nq,Lc,cu⟩:=s1
 obtain ⟨hcn,hcl,hcT,hfu,hcut,han,htc,hav,hms,hnl,kk1,xx1⟩:=hI1
 replace hcn:cu.length=nq:=hcn
 replace hcl:nq+1=2*Lc:=hcl
 replace hcT:Qax ((Lc:Nat):Int)=true:=hcT
 replace hfu:nq≤fu:=hfu
 replace hcut:cutT ts.length (blkT (us.set (2*m) zn) (2*((m:Nat):Int)) ((L:Nat):Int))=cutT fu cu:=hcut
 replace han:anyU cu 0=true:=han
 replace htc:TrAt V1.heap.size V1 (some ⟨gO,0,none⟩) cu:=htc
 replace hav:AvT (fun g=>W3.heap.size≤g) (some ⟨gO,0,none⟩) cu:=hav
 replace hms:∀ i,i<nq→(ndi cu i).n.ms.length≤1000:=hms
 replace hnl:nq≤100000:=hnl
 replace kk1:Ext W6 V1:=kk1
 replace xx1:Ext w V1:=xx1
 have e7:=kk1
 refine wp_seq_k fun K13 hK13=>?_
 refine wp_seq_k fun K14 hK14=>?_
 refine Qab ?_
 refine Qaa (.slice (some ⟨gO,0,none⟩) nq nq) 31 rfl kj kj ?_
 refine Qal (.bool (anyU cu (Lc/2))) 38 #[.slice (some ⟨gO,0,none⟩) nq nq] 32 rfl kj kj (Qlj cu _ _ _ _ (TrAt.ext htc (Rely.Ext.refl V1)) hcn (by omega) Lc (hcn▸Qbh hcl hcT) (by omega)) fun W8 e8=>?_
 have x8:Ext w W8:=Ext.tr xx1 e8
 refine Qaa (.bool (!(anyU cu (Lc/2)))) 33 rfl kj kj ?_
 refine Qae ?_
 refine hK14 _ _ ?_
 refine Qat (t:=!(anyU cu (Lc/2))) kj (fun c15=>?_) (fun c15=>?_)
 ·skip
  have hany:anyU cu (Lc/2)=false:=by simpa using c15
  have hLc1:Lc≠1:=fun e=>by rw [e] at hany; rw [show 1/2=0 from rfl,han] at hany; cases hany
  obtain ⟨hLe,hLh⟩:=Qfq hcT hLc1
  have hcl0:lvs cu=Lc:=Qbx (hcn▸Qbh hcl hcT)
  refine wp_skip ?_
  refine hK13 _ _ ?_
  refine wp_block ?_
  refine wp_seq_k fun K16 hK16=>?_
  refine Qab ?_
  refine Qaa (.slice (some ⟨gO,0,none⟩) nq nq) 34 rfl kj kj ?_
  refine Qaa (.int .i64 ((nq:Nat):Int)) 35 rfl kj kj ?_
  refine Qaa (.int .i64 ((nq/2:Nat):Int)) 36 rfl kj (Qai (u:=.int .i64 (IntKind.i64.wrap (Int.tdiv (((nq:Nat):Int)) (2)))) kj (congrArg (Value.int .i64) (QcR _ 2 (by omega)))) ?_
  refine Qaa (.int .i64 ((nq/2:Nat):Int)) 7 rfl kj kj ?_
  refine Qae ?_
  refine hK16 _ _ ?_
  refine Qab ?_
  refine Qaa (.slice (some ⟨gO,0,none⟩) nq nq) 37 rfl kj kj ?_
  refine Qaa (.int .i64 ((nq/2:Nat):Int)) 38 rfl kj kj ?_
  refine Qaa (.int .i64 ((nq/2:Nat):Int)) 39 rfl kj kj ?_
  refine Qaa (.slice (some ⟨gO,0,none⟩) (nq/2) (nq/2)) 40 rfl kj (QgU (a:=some ⟨gO,0,none⟩) (len:=nq) (cap:=nq) 23 _ _ _ (nq/2) 41 rfl kj kj .i64 .i64 kj kj 99 kj (by omega)) ?_
  refine Qaa (.slice (some ⟨gO,0,none⟩) (nq/2) (nq/2)) 6 rfl kj kj ?_
  refine Qae ?_
  have y7_8:Ext V1 W8:=(Rely.Ext.trans (Rely.Ext.refl V1) e8)
  have y6_8:Ext W6 W8:=(Rely.Ext.trans e7 e8)
  repeat (first | with_reducible refine goX1 ?_ | with_reducible refine goX2 ?_ | with_reducible refine goX3 ?_)
  exact Qas ((fu-1),(nq/2),(Lc/2),(cu.take (nq/2))) ⟨rfl,trivial⟩ ⟨(by show (cu.take (nq/2)).length=nq/2; rw [List.length_take,hcn]; omega),(by show nq/2+1=2*(Lc/2); omega),hLh,(by show nq/2≤fu-1; omega),(hcut.trans (hcn▸Qdg hcl0 (by omega) hany)),(hcn▸Qdi (by omega) hLe han hany),((TrAt.here (TrAt.ext htc y7_8)).take _),(hav.take _),(fun i hi=>by have hi:i<nq/2:=hi; show (ndi (cu.take (nq/2)) i).n.ms.length≤1000; rw [Qb3 hi]; exact hms i (by omega)),(by show nq/2≤100000; omega),y6_8,x8⟩ (by show nq/2<nq; omega)
 ·skip
  have hany:anyU cu (Lc/2)=true:=by simpa using c15
  refine wp_exit ?_
  refine hK12 _ _ ?_
  refine wp_seq_k fun K17 hK17=>?_
  refine Qab ?_
  refine Qaa (.slice (some ⟨gO,0,none⟩) nq nq) 41 rfl kj kj ?_
  refine Qaa (.slice (some ⟨gO,0,none⟩) nq nq) 4 rfl kj kj ?_
  refine Qaa (.nilIface) 5 rfl kj kj ?_
  refine Qae ?_
  refine hK17 _ _ ?_
  refine wp_ret ?_
  repeat (first | with_reducible refine goR1 ?_ | with_reducible refine goR2 ?_)
  have y7_8:Ext V1 W8:=(Rely.Ext.trans (Rely.Ext.refl V1) e8)
  exact (show bodyPost _ _ _ .ret _ _ from ret2 (.slice (some ⟨gO,0,none⟩) nq nq) (.nilIface) rfl (Qam kj) (Qam kj) ⟨_,rfl,x8,us,cu,has,(by rw [remT,has.1,hcut,QdL (Qbx (hcn▸Qbh hcl hcT)) hany]),_,_,rfl,rfl,by subst hcn; exact ⟨_,_,rfl,(TrAt.here (TrAt.ext htc y7_8)),hav.mono (fun g h=>qT x3.size h),hms⟩⟩)
end Go.Proofs.YtcmaolmofgmkhaaDoor.Te
end
section
namespace Go.Proofs.YtcmaolmofgmkhaaDoor.Te
open Go Go.RowKit
open Rely Auto Own Seat Sha
def Qb0 (p : Nat→Prop) (A B:World):Prop:=A.heap.size≤B.heap.size∧∀ k cs t fr,A.heap[k]? = some (.cells cs t fr)→¬ p k→B.heap[k]? = some (.cells cs t fr)
section
variable {p : Nat → Prop} {A B C : World}
theorem Qb0.trans (h : Qb0 p A B) (k:Qb0 p B C):Qb0 p A C:=⟨qT h.1 k.1,fun i cs t fr q n=>k.2 i cs t fr (h.2 i cs t fr q n) n⟩
theorem Qb0.ext (e : Ext A B):Qb0 p A B:=⟨e.size,fun k cs t fr q _=>(e.block k (QaB q)).trans q⟩
theorem Qb0.book {w : World} (W:World) (l:Nat) (o o':Obj) (hl:w.heap.size≤l) (h:W.heap[l]? = some o) (hc:o.isCells=false) (_:o.isWalk=false):Qb0 p W (W.putObj l o') :=
  ⟨by simp,fun k cs t fr q _=>(World.putObj_heap_other (fun e=>by subst e; rw [h] at q; cases q; cases hc)).trans q⟩
theorem Qb0.row {k : Nat} {cs:Array Value} {t:TypeId} (h:Qb0 p A B) (r:A.heap[k]? = some (.cells cs t)) (n:¬ p k):B.heap[k]? = some (.cells cs t):=h.2 k cs t _ r n
theorem Qb0.cell {b off:Nat} {v:Value} (h:Qb0 p A B) (hc:A.cell? ⟨b,off,none⟩=some v) (n:¬ p b):B.cell? ⟨b,off,none⟩=some v:=by
  unfold World.cell? at hc ⊢
  cases hb:A.heap[b]? with
  | none=>simp [hb] at hc
  | some ob =>
    cases ob with
    | cells cs t fr=>rw [h.2 b cs t fr hb n]; rw [hb] at hc; exact hc
    | _=>simp [hb] at hc
theorem Grew.keepP {w W W':World} (h:Grew w W) (k:Qb0 p W W'):Grew w W':=qT h k.1
theorem TabAt.keepP (h : TabAt A) (k:Qb0 p A B) (n:¬ p 0):TabAt B:=⟨qL h.1 k.1,fun j hj=>k.cell (h.2 j hj) n⟩
end
theorem Qea (m : Nat) (p:Nat→Prop) (g1 g2:Nat) (x n:Int) (hx:i64 x) (w:World) (hTw:TabAt w) (r1w:w.heap[g1]? = some (.cells #[.int .i64 x] 3)) (r2w:w.heap[g2]? = some (.cells #[.int .i64 n] 3)) (n1:¬ p g1) (n2:¬ p g2) (nT:¬ p 0) :
  SeqStopsK Fence.wide m Tryd.prog 69 #[.pointer (some ⟨g1,0,none⟩),.pointer (some ⟨g2,0,none⟩)] (fun i:Nat=>#[Value.int .i64 ((upN x n i:Nat):Int)]) (Qb0 p) (SP x n) (SPp x n) 7 w:=fun l J Jx Wi hW hJ hJx hY h0=>by
 refine callsIn_wide.2 ?_
 have hT:TabAt Wi:=hTw.ext hW
 have r1:=Qah r1w hW
 have r2:=Qah r2w hW
 refine enter 17 [(0,.func (.yield l) #[] #[]),(1,.pointer (some ⟨g1,0,none⟩)),(2,.pointer (some ⟨g2,0,none⟩))] Tryd.func69 rfl rfl kj rfl ?_
 refine wp_seq_k fun K3 hK3=>?_
 refine Qab ?_
 refine Qaa (.int .i64 x) 5 rfl kj (Qag 3 _ g1 0 3 _ (.int .i64 x) _ r1 rfl kj kj kj) ?_
 refine Qaa (.int .i64 n) 6 rfl kj (Qag 3 _ g2 0 3 _ (.int .i64 n) _ r2 rfl kj kj kj) ?_
 refine Qal (.int .i64 (upn x n 0)) 70 #[.int .i64 x,.int .i64 n] 7 rfl kj kj ((fun W hT=>quiet (parent x n hx W hT)) _ hT) fun W1 e1=>?_
 have x1:Grew Wi W1:=Grew.ext (Grew.refl Wi) e1
 refine Qaa (.int .i64 (upn x n 0)) 4 rfl kj kj ?_
 refine Qae ?_
 refine hK3 _ _ ?_
 refine wp_block ?_
 have f4_1:=(Qcl hJ h0 e1)
 have r1_1:=(Qah r1 e1)
 have r2_1:=(Qah r2 e1)
 have f5_1:=(TabAt.ext hT e1)
 refine Qaz (fun (s1:Nat)=>[(0,.func (.yield l) #[] #[]),(1,.pointer (some ⟨g1,0,none⟩)),(2,.pointer (some ⟨g2,0,none⟩)),(4,.int .i64 (upn x n s1))]) (fun (s1:Nat) W=>(s1≤6)∧(∀ i,i<s1→0≤upn x n i)∧(J (List.range s1) W)∧(W.heap[g1]? = some (.cells #[.int .i64 x] 3))∧(W.heap[g2]? = some (.cells #[.int .i64 n] 3))∧(TabAt W)∧(Grew Wi W)) (fun (s1:Nat)=>6-s1) 0 ⟨rfl,rfl,rfl,rfl,trivial⟩ ⟨(by omega),(fun i hi=>by omega),(show J (List.range 0) _ from f4_1),r1_1,r2_1,f5_1,x1⟩ fun s1 X1 V1 hI1=>?_
 obtain ⟨k,hs1⟩:∃ z,z=s1:=⟨_,rfl⟩
 subst hs1
 obtain ⟨hk,hall,hJ1,rr1,rr2,hT1,xx1⟩:=hI1
 replace hk:k≤6:=hk
 replace hall:∀ i,i<k→0≤upn x n i:=hall
 replace hJ1:J (List.range k) V1:=hJ1
 replace rr1:V1.heap[g1]? = some (.cells #[.int .i64 x] 3):=rr1
 replace rr2:V1.heap[g2]? = some (.cells #[.int .i64 n] 3):=rr2
 replace hT1:TabAt V1:=hT1
 replace xx1:Grew Wi V1:=xx1
 refine wp_seq_k fun K6 hK6=>?_
 refine wp_seq_k fun K7 hK7=>?_
 refine Qab ?_
 refine Qaa (.int .i64 (upn x n k)) 8 rfl kj kj ?_
 refine Qaa (.bool (decide ((upn x n k)≥0))) 9 rfl kj kj ?_
 refine Qae ?_
 refine hK7 _ _ ?_
 refine Qat (t:=decide ((upn x n k)≥0)) kj (fun c8=>?_) (fun c8=>?_)
 ·skip
  have hk0:0≤upn x n k:=of_decide_eq_true c8
  have hk6:=Qe0 hk0
  refine wp_skip ?_
  refine hK6 _ _ ?_
  refine wp_seq_k fun K9 hK9=>?_
  refine wp_block ?_
  refine wp_seq_k fun K10 hK10=>?_
  refine (wpIn_wide (n:=m)).1 ?_
  refine Qa1 ?_
  refine Qay (.func (.yield l) #[] #[]) 13 rfl (Qa8 _ _) rfl kj kj ?_
  refine Qay (.int .i64 (upn x n k)) 14 rfl (Qa8 _ _) rfl kj kj ?_
  refine Qfd (m:=m) (l:=l) (args:=#[.int .i64 (upn x n k)]) 15 rfl rfl kj kj (Qfp hk0 (hY (List.range k) k V1 hJ1 (by rw [List.length_range]; omega))) (fun W' hA=>?_) (fun W' hA=>?_)
  ·skip
   obtain ⟨W3,hW3⟩:∃ z,z=W':=⟨_,rfl⟩
   rw [←hW3] at hA ⊢
   obtain ⟨hj11,hk11⟩:=hA
   have x3:Grew Wi W3:=Grew.keepP xx1 hk11
   refine Qay (.bool false) 16 rfl (Qa8 _ _) rfl kj kj ?_
   refine Qba ?_
   refine hK10 _ _ ?_
   refine cond_false kj ?_
   refine wp_skip ?_
   refine hK9 _ _ ?_
   refine Qab ?_
   refine Qaa (.int .i64 (upn x n k)) 10 rfl kj kj ?_
   have r2_3:=(Qb0.row hk11 rr2 n2)
   refine Qaa (.int .i64 n) 11 rfl kj (Qag 3 _ g2 0 3 _ (.int .i64 n) _ r2_3 rfl kj kj kj) ?_
   have f12_3:=(TabAt.keepP hT1 hk11 nT)
   refine Qal (.int .i64 (upn x n (k+1))) 70 #[.int .i64 (upn x n k),.int .i64 n] 12 rfl kj kj ((fun W hT=>quiet (parent (upn x n k) n (Qhl x n k) W hT)) _ f12_3) fun W4 e4=>?_
   have x4:Grew Wi W4:=Grew.ext x3 e4
   refine Qaa (.int .i64 (upn x n (k+1))) 4 rfl kj kj ?_
   refine Qae ?_
   have f13_4:=(Qcl hJ hj11 e4)
   have r1_3:=(Qb0.row hk11 rr1 n1)
   have r1_4:=(Qah r1_3 e4)
   have r2_4:=(Qah r2_3 e4)
   have f14_4:=(TabAt.ext f12_3 e4)
   repeat (first | with_reducible refine goX1 ?_ | with_reducible refine goX2 ?_ | with_reducible refine goX3 ?_)
   exact Qas (k+1) ⟨rfl,rfl,rfl,rfl,trivial⟩ ⟨(by omega),(fun i hi=>by rcases Nat.lt_or_ge i k with h | h; exact hall i h; rw [show i=k by omega]; exact hk0),(by rw [List.range_succ]; exact f13_4),r1_4,r2_4,f14_4,x4⟩ (by show 6-(k+1)<6-k; omega)
  ·skip
   obtain ⟨W3,hW3⟩:∃ z,z=W':=⟨_,rfl⟩
   rw [←hW3] at hA ⊢
   refine Qay (.bool true) 16 rfl (Qa8 _ _) rfl kj kj ?_
   refine Qba ?_
   refine hK10 _ _ ?_
   refine cond_true kj ?_
   refine wp_ret ?_
   repeat (first | with_reducible refine goR1 ?_ | with_reducible refine goR2 ?_)
   exact (show bodyPost _ _ _ .ret _ _ from ret0 rfl ⟨⟨_,rfl⟩,.inr ⟨_,⟨k+1,List.range_succ.symm,fun i hi=>by rcases Nat.lt_or_ge i k with h | h; exact hall i h; rw [show i=k by omega]; exact hk0⟩,hA⟩⟩)
 ·skip
  have hk0:upn x n k<0:=by have:=of_decide_eq_false c8; omega
  refine wp_exit ?_
  repeat (first | with_reducible refine goX1 ?_ | with_reducible refine goX2 ?_ | with_reducible refine goX3 ?_)
  exact (show bodyPost _ _ _ .normal _ _ from end0 rfl ⟨⟨_,rfl⟩,.inl ⟨_,⟨k,rfl,hk0,hall⟩,hJ1⟩⟩)
theorem Qi0 (k : Nat):∀ i,i<k→∀ j,j<99→(Builtin.zeroCells (.agg (cat (ndP zn)):Value).cells k)[i*99+j]? = (cat (ndP zn))[j]?:=by
  intro i hi j hj
  have hz:(.agg (cat (ndP zn)):Value).cells=cat (ndP zn):=rfl
  have hs:(cat (ndP zn)).size=99:=Qbf zn Qdj
  unfold Builtin.zeroCells
  rw [hz]
  simp only [Array.getElem?_map,Array.getElem?_range,hs]
  rw [if_pos (by omega)]
  simp only [Option.map_some]
  rw [show (i*99+j)%99=j by omega,getElem!_pos _ _ (by omega),Array.getElem?_eq_getElem (by omega)]
theorem QeH (k : Nat):(Builtin.zeroCells (.agg (cat (ndP zn)):Value).cells k).size=k*99:=by
  have hs:(.agg (cat (ndP zn)):Value).cells.size=99:=Qbf zn Qdj
  unfold Builtin.zeroCells
  simp [hs]
theorem Qhz {P : Program} {ρ:Operand→Value} {o:Oper} {w:World} (s x:Operand) (t tn:TypeId) (ho:o.op=.call { callee:=.builtin .append,args:=#[s,x],argTypes:=#[t,tn] }) {M k g base base':Nat} {us:List NdV} (hM:us.length=M) (h:OwT base us (.slice (some ⟨g,0,none⟩) M M) w) (hs:ρ s=.slice (some ⟨g,0,none⟩) M M) (hx:ρ x=.int .i64 (k:Int))
    (ht:P.underlying t=some (.slice 41)) (htn:P.underlying tn=some (.int .i64)) (hi:(P.info? 41).map (fun i=>(i.zero,i.size,i.bytes))=some (some (.agg (cat (ndP zn))),99,136)) (h0:0<k) (hM0:0<M) (hb:M+k≤1000000) (hbase:base≤w.heap.size) :
    ∃ g' c' W,(execOp ρ o).run P w=.ok (.value (.slice (some ⟨g',0,none⟩) (M+k) c')) W∧Ext w W∧w.heap.size≤g'∧OwT base (us++List.replicate k zn) (.slice (some ⟨g',0,none⟩) (M+k) c') W:=by
  subst hM
  obtain ⟨g0,c0,cur,e,q2,q3,q4,q5,q6,q7⟩:=h.opens hM0
  simp only [Value.slice.injEq,Option.some.injEq,Addr.mk.injEq] at e
  obtain ⟨⟨rfl,-⟩,-,rfl⟩:=e
  cases hq:P.info? 41 with
  | none=>rw [hq] at hi; cases hi
  | some i =>
    rw [hq] at hi
    simp only [Option.map_some,Option.some.injEq,Prod.mk.injEq] at hi
    obtain ⟨i1,i2,i3⟩:=hi
    have hfl:=QgA us h.ok
    have hold:(Builtin.firstCells i.size us.length (.slice (some ⟨g,0,none⟩) us.length us.length)).run P w.drew=.ok (fl us).toArray w.drew:=by
      rw [i2]
      exact run_firstCells_some w.drew 99 us.length ⟨g,0,none⟩ us.length us.length (fl us) (by rw [hfl]) (fun j v hj=>by
        have hjl:=(List.getElem?_eq_some_iff.1 hj).1
        rw [hfl] at hjl
        rw [WideShapes.add_plain,Nat.zero_add,show w.drew.cell? ⟨g,j,none⟩=w.cell? ⟨g,j,none⟩ from rfl,QbU q3,show j=j/99*99+j%99 by omega,q7 (j/99) (by omega) (j%99) (by omega),←QfE us h.ok (j/99) (by omega) (j%99) (by omega),show j/99*99+j%99=j by omega,hj])
    have hbb:k*i.bytes≤281474976710656:=by
      have:k*i.bytes≤1000000*136:=Nat.mul_le_mul (by omega) (by omega)
      omega
    have hrun:=Lib.run_append_grow_zeros w t tn o.type 41 i _ .i64 .i64 ht htn hq i1 (some ⟨g,0,none⟩) us.length us.length (fl us) hold k h0 (by omega) (by omega) (by omega) hbb (growslice_fits (by omega) (by
      have:(us.length+k)*i.bytes≤1000000*136:=Nat.mul_le_mul hb (by omega)
      omega))
    have hge:=grownCap_ge w (us.length+k) us.length 41
    have hcm:grownCap w (us.length+k) us.length 41≤maxLen:=grownCap_le_maxLen w _ _ _ (by unfold maxLen; omega)
    obtain ⟨G,hG⟩:∃ G,G=grownCap w (us.length+k) us.length 41:=⟨_,rfl⟩
    rw [←hG] at hrun hge hcm
    obtain ⟨R,hR⟩:∃ R:Array Value,R=(fl us).toArray++Builtin.zeroCells (.agg (cat (ndP zn)):Value).cells k++Builtin.zeroCells (.agg (cat (ndP zn)):Value).cells (G-(us.length+k)):=⟨_,rfl⟩
    rw [←hR] at hrun
    have e1:=Rely.Ext.trans (Qa0 w) (QbO w.drew (.cells R 41))
    have hl:(us++List.replicate k zn).length=us.length+k:=by simp
    have hRs:R.size=G*99:=by rw [hR]; simp only [qS,QeH,List.size_toArray,hfl]; omega
    refine ⟨w.heap.size,G,_,?_,e1,qR _,?_⟩
    · unfold execOp
      simp only [ho,resolve,invoke,builtin,Sem.run_bind,Sem.run_pure,Result.andThen_ok,List.map_toArray,List.map_cons,List.map_nil,hs,hx,hrun]
    · have hin:∀ j,j<us.length+k→NdIn base (w.drew.alloc (.cells R 41)) (ndi (us++List.replicate k zn) j):=fun j hj=>by
        rw [Qbq]
        split
        · next h1=>exact (h.nd j h1 (by simp)).keep fun b hb'=>e1.block b ((h.nd j h1 (by simp)).lt hb')
        · rw [QbD zn (by omega)]; exact QgM _ _
      have:=OwH.made (h:=none) (ts:=us++List.replicate k zn) (c:=G) (qT hbase (qR _):base≤w.heap.size) (heap_alloc_new w.drew (.cells R 41)) hRs (by rw [hl]; exact hge) hcm (fun j hj l hl'=>by
        rw [hl] at hj
        rw [Qbq,hR]
        split
        · next h1=>rw [Array.getElem?_append_left (by simp [QeH,hfl]; omega),Array.getElem?_append_left (by simp [hfl]; omega),List.getElem?_toArray,QfE us h.ok j h1 l hl']
        · next h1 =>
          rw [QbD zn (by omega),Array.getElem?_append_left (by simp [QeH,hfl]; omega),Array.getElem?_append_right (by simp [hfl]; omega)]
          rw [show j*99+l-(fl us).toArray.size=(j-us.length)*99+l by simp [hfl]; omega]
          exact Qi0 k (j-us.length) (by omega) l hl') (fun j hj=>(hin j (by rw [hl] at hj; exact hj)).1) (fun j hj _=>hin j (by rw [hl] at hj; exact hj)) (fun a b ha hb' hab _ _ q hq1 hq2=>by
        rw [hl] at ha hb'
        rw [Qbq] at hq1 hq2
        split at hq1
        · next h1 =>
          split at hq2
          · next h2=>exact h.ap a b h1 h2 hab (by simp) (by simp) q hq1 hq2
          · rw [QbD zn (by omega)] at hq2; cases hq2
        · rw [QbD zn (by omega)] at hq1; cases hq1)
      rwa [hl] at this
theorem Qf5 (n : NdV):cat (ndP n)=(#[.bool n.n.us]++#[.int .i64 n.n.nm]++ints .u8 n.n.key++ints .u8 n.n.sg++ints .u8 n.n.pa)++#[slv n]:=by
  unfold ndP slv
  simp [cat,Array.append_assoc]
theorem Qj2 (n : NdV) (ok:NdOk n.n) (ms:List Int) (a:Option Addr) (c j:Nat) (hj:j<99):(cat (ndP ⟨{ n.n with ms:=ms },a,c⟩))[j]? = if j=98 then some (.slice a ms.length c) else (cat (ndP n))[j]?:=by
  have hs:(#[Value.bool n.n.us]++#[Value.int .i64 n.n.nm]++ints .u8 n.n.key++ints .u8 n.n.sg++ints .u8 n.n.pa).size=98:=by simp only [qS,Qaf,ok.kl,ok.gl,ok.pl]; rfl
  rw [Qf5,Qf5]
  show ((#[Value.bool n.n.us]++#[Value.int .i64 n.n.nm]++ints .u8 n.n.key++ints .u8 n.n.sg++ints .u8 n.n.pa)++#[Value.slice a ms.length c])[j]? = _
  by_cases e:j=98
  · rw [if_pos e,Array.getElem?_append_right (by omega),hs,e]; rfl
  · rw [if_neg e]; exact (Array.getElem?_append_left (by omega)).trans (Array.getElem?_append_left (by omega)).symm
theorem OwH.setF {base g c i M:Nat} {ts:List NdV} {ms:List Int} {a':Option Addr} {c':Nat} {W W':World} {cur:Array Value} (hM:ts.length=M) (t:OwH base ts (.slice (some ⟨g,0,none⟩) M c) W (some i)) (hi:i<M) (r:W.heap[g]? = some (.cells cur 41)) (p:Puts W g W') (r':W'.heap[g]? = some (.cells (cur.setIfInBounds (i*99+98) (.slice a' ms.length c')) 41))
    (hn:NdIn base W ⟨{ (ndi ts i).n with ms:=ms },a',c'⟩) (ha:∀ j,j<M→j≠i→∀ g,ob ⟨{ (ndi ts i).n with ms:=ms },a',c'⟩=some g→ob (ndi ts j)≠some g):OwT base (ts.set i ⟨{ (ndi ts i).n with ms:=ms },a',c'⟩) (.slice (some ⟨g,0,none⟩) M c) W':=by
  subst hM
  obtain ⟨g',c2,cur',e,q2,q3,q4,q5,q6,q7⟩:=t.opens (by omega)
  simp only [Value.slice.injEq,Option.some.injEq,Addr.mk.injEq] at e
  obtain ⟨⟨rfl,-⟩,-,rfl⟩:=e
  rw [r] at q3
  simp only [Option.some.injEq,Obj.cells.injEq,and_true] at q3
  subst q3
  obtain ⟨n,hnn⟩:∃ n:NdV,n=⟨{ (ndi ts i).n with ms:=ms },a',c'⟩:=⟨_,rfl⟩
  rw [←hnn] at hn ha ⊢
  have kp:∀ m:NdV,NdIn base W m→NdIn base W' m:=fun m hm=>hm.keep fun k hk=>p.2.2.2.2 k fun e=>by
    obtain ⟨cur2,r2⟩:=QbP hm.2.2 hk
    rw [e,r] at r2
    simp at r2
  have ok:∀ k,k<(ts.set i n).length→NdOk (ndi (ts.set i n) k).n:=fun k hk=>by
    rw [List.length_set] at hk
    rw [QaC n hi]
    by_cases e:k=i
    · rw [if_pos e]; exact hn.1
    · rw [if_neg e]; exact t.ok k hk
  have:=OwH.made (h:=none) (ts:=ts.set i n) (c:=c) q2 r' (by rw [Array.size_setIfInBounds]; exact q4) (by rw [List.length_set]; exact q5) q6 (fun k hk j hj=>by
    rw [List.length_set] at hk
    rw [QaC n hi,Array.getElem?_setIfInBounds]
    by_cases e:k=i
    · subst e
      rw [if_pos rfl,hnn,Qj2 _ (t.ok k hk) ms a' c' j hj]
      by_cases e2:j=98
      · rw [if_pos (by omega),if_pos e2,if_pos (by omega)]
      · rw [if_neg (by omega),if_neg e2,q7 k hk j hj]
    · rw [if_neg (by omega),if_neg e,q7 k hk j hj]) ok (fun k hk _=>by
    rw [List.length_set] at hk
    rw [QaC n hi]
    by_cases e:k=i
    · rw [if_pos e]; exact kp n hn
    · rw [if_neg e]; exact kp _ (t.nd k hk (by simp; exact e))) (QeF hi t.ap (fun k hk _=>by simpa using hk) fun _ j hj hji _=>ha j hj hji)
  rwa [List.length_set] at this
theorem OwH.node {base g M c i:Nat} {ts:List NdV} {W:World} (hM:ts.length=M) (t:OwT base ts (.slice (some ⟨g,0,none⟩) M c) W) (hi:i<M):NdAt W.heap.size W g (0+i*99) (ndi ts i):=by
  subst hM
  obtain ⟨g',o',h1,h2⟩:=t.tr
  have:=h1 (by omega)
  simp only [Option.some.injEq,Addr.mk.injEq,and_true] at this
  obtain ⟨rfl,rfl⟩:=this
  exact h2 i hi
end Go.Proofs.YtcmaolmofgmkhaaDoor.Te
end
section
namespace Go.Proofs.YtcmaolmofgmkhaaDoor.Wk
open Go Go.RowKit
open Rely Auto Own
variable {P : Program} {ops : Array Oper} {Q : Exit → Act → World → Prop} {Fe : Fence} {nf : Nat}
def allI (Fe : Fence) (nf:Nat) (P:Program) (ops:Array Oper) (Q:Exit→Act→World→Prop) (Rd:World→Prop):Nat→Array Bool→Act→World→Prop
  | 0,listed,a,w=>Region.ready .any ops listed=[]∧Q .normal a w
  | fuel+1,listed,a,w=>(Region.ready .any ops listed=[]→Q .normal a w)∧∀ i∈Region.ready .any ops listed,wpOpIn Fe nf P ops Q i (fun a' w'=>Rd w'∧allI Fe nf P ops Q Rd fuel (listed.setIfInBounds i true) a' w') a w
theorem QgJ {Rd : World→Prop}:∀ (fuel:Nat) (listed:Array Bool) (a:Act) (w:World),allI Fe nf P ops Q Rd fuel listed a w→wpAnyIn Fe nf P .any ops Q fuel listed a w
  | 0,_,_,_,h=>h
  | _+1,_,_,_,h=>⟨h.1,fun i hi=>wpOpIn_mono (fun a w h=>QgJ _ _ a w h.2) (h.2 i hi)⟩
def QbQ (P : Program) (ops:Array Oper) (Rd:World→Prop) (o:Oper) (v:Value) (a:Act):Prop :=
  (Region.wanted o (yielded ops a.tmps)=true∧∀ w,Rd w→(execOp a.eval o).run P w=.ok (.value v) w)∨(Region.wanted o (yielded ops a.tmps)=false∧v=undef)
theorem QbQ.wpOp {Rd : World→Prop} (hF:Free Fe nf P) {i:Nat} {o:Oper} {v:Value} {a:Act} (hnd:QaX o=true) (hi:ops[i]? = some o) (hy:QbQ P ops Rd o v a) {K:Act→World→Prop} {w:World} (hw:Rd w) (h:K (a.put o.dst v) w):wpOpIn Fe nf P ops Q i K a w:=by
  unfold wpOpIn
  simp only [hi]
  rcases hy with ⟨hw1,hv⟩ | ⟨hw1,rfl⟩
  · simp only [hw1,if_true,Oper.wpIn]
    rw [Oper.semAt_plain Fe _ _ (QbC hnd),hv w hw]
    exact ⟨fun f _=>hF.fn f,h⟩
  · simp only [hw1,Bool.false_eq_true,if_false]; exact ⟨fun f _=>hF.fn f,h⟩
theorem QbQ.same {Rd : World→Prop} {o:Oper} {v:Value} {a a':Act} (hy:QbQ P ops Rd o v a) (he:execOp a'.eval o=execOp a.eval o) (hw:Region.wanted o (yielded ops a'.tmps)=Region.wanted o (yielded ops a.tmps)):QbQ P ops Rd o v a':=by
  unfold QbQ at *
  rw [he,hw]
  exact hy
theorem Qkt {Rd : World→Prop} (hF:Free Fe nf P) {j:Nat} {oi oj:Oper} {v:Value} (hnd:QaX oj=true) (hj:ops[j]? = some oj) (hap:oi.apart ops oj=true) (hsi:∀ cs b,oi.op≠.select cs b) (hsj:∀ cs b,oj.op≠.select cs b)
    (hQ:∀ c a w,Q (.panic c) (a.put oi.dst v) w→Q (.panic c) a w) {K:Act→World→Prop} {a:Act} {w:World} (hy:QbQ P ops Rd oi v a) (h:wpOpIn Fe nf P ops Q j K (a.put oi.dst v) w) :
    wpOpIn Fe nf P ops Q j (fun a' w'=>QbQ P ops Rd oi v a'∧K (a'.put oi.dst v) w') a w:=by
  obtain ⟨h1,h2,h3⟩:=Oper.apart_spec hap
  have keep:∀ (a:Act),QbQ P ops Rd oi v a→∀ u,QbQ P ops Rd oi v (a.put oj.dst u):=fun a hy u=>hy.same (execOp_put oi hsi a oj.dst u h3) (wanted_put oi a oj.dst u h3)
  have keepD:∀ d,QbQ P ops Rd oi v { a with defers:=d::a.defers }:=fun d=>hy.same rfl rfl
  unfold wpOpIn at *
  simp only [hj] at *
  rw [wanted_put oj a oi.dst v h1] at h
  split
  · rename_i hw
    simp only [hw,if_true] at h
    unfold Oper.wpIn at *
    refine ⟨fun f _=>hF.fn f,?_⟩
    have h:=h.2
    rw [Oper.semAt_plain Fe _ _ (QbC hnd),execOp_put oj hsj a oi.dst v h1] at h
    rw [Oper.semAt_plain Fe _ _ (QbC hnd)]
    generalize (execOp a.eval oj).run P w=r at *
    cases r with
    | ok x w' =>
      cases x <;> simp only [Oper.uponIn] at h ⊢
      case value u=>exact ⟨keep a hy u,by rw [←Act.put_comm a v u h2]; exact h⟩
      case skip=>exact ⟨keep a hy _,by rw [←Act.put_comm a v undef h2]; exact h⟩
      case defer d =>
        refine ⟨keep _ (keepD d) _,?_⟩
        rw [←Act.put_comm _ v undef h2,←Act.put_defers]
        exact h
      case enter f args =>
        refine ⟨h.1,CallsIn.mono h.2 fun e w'' he=>?_⟩
        cases e with
        | returned u=>exact ⟨keep a hy u,by rw [←Act.put_comm a v u h2]; exact he⟩
        | panicked c=>exact hQ _ _ _ he
        | outgrown=>exact he
      case row row args=>exact ⟨h.1,RowsIn.mono h.2 fun u w'' he=>⟨keep a hy u,by rw [←Act.put_comm a v u h2]; exact he⟩⟩
      case round l f tmps assign body =>
        refine ⟨h.1,RoundIn.mono h.2 fun e w'' he=>?_⟩
        cases e with
        | returned u=>exact ⟨keep a hy u,by rw [←Act.put_comm a v u h2]; exact he⟩
        | panicked c=>exact hQ _ _ _ he
        | outgrown=>exact he
    | halt x w' =>
      cases x <;> simp only [Oper.uponIn] at h ⊢
      case panic u=>exact hQ _ _ _ h
  · rename_i hw
    simp only [hw] at h
    exact ⟨fun f _=>hF.fn f,keep a hy _,by rw [←Act.put_comm a v undef h2]; exact h.2⟩
theorem Qhg {Rd : World→Prop} (hF:Free Fe nf P) (hnd:∀ (j:Nat) (o:Oper),ops[j]? = some o→QaX o=true) {i:Nat} {oi:Oper} {v:Value} (hi:ops[i]? = some oi) (hsel:∀ (j:Nat) (o:Oper) cs b,ops[j]? = some o→o.op≠.select cs b) (hQ:∀ c a w,Q (.panic c) (a.put oi.dst v) w→Q (.panic c) a w) :
    ∀ (fuel:Nat) (listed:Array Bool) (a:Act) (w:World),Rd w →
      (∀ j oj,ops[j]? = some oj→j≠i→listed.getD j true=false→(∀ e∈oj.after,Region.binds .any e=true→e.on≠i)→oi.apart ops oj=true) →
      i∈Region.ready .any ops listed→QbQ P ops Rd oi v a→allI Fe nf P ops Q Rd fuel (listed.setIfInBounds i true) (a.put oi.dst v) w→allI Fe nf P ops Q Rd (fuel+1) listed a w:=by
  intro fuel
  induction fuel with
  | zero =>
    intro listed a w hw _ hr hy H
    refine ⟨fun h=>(by rw [h] at hr; cases hr),fun j hj=>?_⟩
    by_cases hji:j=i
    · subst hji; exact hy.wpOp hF (hnd _ _ hi) hi hw ⟨hw,H⟩
    · have:=ready_mono hj hji
      rw [H.1] at this
      cases this
  | succ fuel ih =>
    intro listed a w hw hfree hr hy H
    refine ⟨fun h=>(by rw [h] at hr; cases hr),fun j hj=>?_⟩
    by_cases hji:j=i
    · subst hji; exact hy.wpOp hF (hnd _ _ hi) hi hw ⟨hw,H⟩
    · have h1:=H.2 j (ready_mono hj hji)
      obtain ⟨hjun,oj,hoj,hall⟩:=mem_ready.1 hj
      have hnot:∀ e∈oj.after,Region.binds .any e=true→e.on≠i:=fun e he hb heq=>by
        have h1:=hall e he hb
        have h0:=(mem_ready.1 hr).1
        rw [heq] at h1
        rcases Nat.lt_or_ge i listed.size with h' | h'
        · simp [h'] at h0 h1; rw [h0] at h1; cases h1
        · simp [Array.getElem?_eq_none h'] at h1
      have h2:=Qkt hF (hnd _ _ hoj) hoj (hfree j oj hoj hji hjun hnot) (fun cs b=>hsel i oi cs b hi) (fun cs b=>hsel j oj cs b hoj) hQ hy h1
      have hfree':∀ k ok,ops[k]? = some ok→k≠i→(listed.setIfInBounds j true).getD k true=false→(∀ e∈ok.after,Region.binds .any e=true→e.on≠i)→oi.apart ops ok=true:=fun k ok hk hki hun hno=>by
        refine hfree k ok hk hki ?_ hno
        by_cases hjk:j=k
        · subst hjk; exact hjun
        · rw [getD_set_ne true hjk] at hun; exact hun
      refine wpOpIn_mono (fun a' w' h3=>⟨h3.2.1,ih (listed.setIfInBounds j true) a' w' h3.2.1 hfree' (ready_mono hr (Ne.symm hji)) h3.1 ?_⟩) h2
      rw [Array.setIfInBounds_comm _ _ hji]
      exact h3.2.2
structure WBI (Fe : Fence) (nf : Nat) (P : Program) (ops : Array Oper) (Q : Exit → Act → World → Prop) (Rd : World → Prop) (fuel : Nat) (listed : Array Bool) (a : Act) (w : World) : Prop where
  out:Rd w→allI Fe nf P ops Q Rd fuel listed a w
structure WOI (Fe : Fence) (nf : Nat) (P : Program) (ops : Array Oper) (Q : Exit → Act → World → Prop) (Rd : World → Prop) (k fuel : Nat) (listed : Array Bool) (a : Act) (w : World) : Prop where
  out:wpOpIn Fe nf P ops Q k (fun a' w'=>Rd w'∧allI Fe nf P ops Q Rd fuel (listed.setIfInBounds k true) a' w') a w
variable {o : Oper} {N : Nat} {L : Env} {w V : World} {ds : List Deferred} {fuel : Nat} {listed : Array Bool} {k : Nat} {a : Act} {Rd : World → Prop}
def QeV (ops : Array Oper):Bool:=ops.all QaX
theorem QeU (h : QeV ops=true) (j:Nat) (o:Oper) (hj:ops[j]? = some o):QaX o=true:=by
  unfold QeV at h
  rw [Array.all_eq_true'] at h
  exact h o (Array.mem_of_getElem? hj)
theorem region_walkI {id : Nat} {l:List Oper} (Rd:World→Prop) (hm:P.follows .mixedOrders=true) (h:∀ W,Ext w W→Rd W∧WBI Fe nf P l.toArray Q Rd l.length (Array.replicate l.length false) (Qar ds N L) W):(Code.region id l.toArray true).wpIn Fe nf P Q (Qar ds N L) w:=by
  refine wpIn_region_any hm ?_
  obtain ⟨h1,h2⟩:=h w.drew (Qa0 w)
  have:=QgJ _ _ _ _ (h2.out h1)
  simpa using this
theorem wi_val (hF : Free Fe nf P) (k:Nat) (v:Value) (d:Nat) (ho:ops[k]? = some o) (hd:o.dst=some d) (hg:Qbe ops o N L=some true) (hc:(Region.noSelect ops&&Region.free .any ops listed k&&(Region.ready .any ops listed).contains k&&QeV ops)=true)
    (hQ:∀ c a w,Q (.panic c) (a.put o.dst v) w→Q (.panic c) a w) (h:∀ W,Rd W→(execOp (Rely.look (envN N L)) o).run P W=.ok (.value v) W) (kk:WBI Fe nf P ops Q Rd fuel (listed.setIfInBounds k true) (Qar ds N ((d,v)::L)) w):WBI Fe nf P ops Q Rd (fuel+1) listed (Qar ds N L) w:=by
  simp only [Bool.and_eq_true] at hc
  refine ⟨fun hw=>Qhg hF (QeU hc.2) ho (Region.noSelect_spec hc.1.1.1) hQ fuel listed _ w hw (Region.free_spec ho hc.1.1.2) (by simpa using hc.1.2) (.inl ⟨QbM hg,fun W hW=>?_⟩) ?_⟩
  · rw [QaN]; exact h W hW
  · rw [hd,QaP]; exact kk.out hw
theorem wi_one (k : Nat) (hr:Region.ready .any ops listed=[k]) (h:WOI Fe nf P ops Q Rd k fuel listed a w):WBI Fe nf P ops Q Rd (fuel+1) listed a w :=
  ⟨fun _=>⟨fun h0=>(by rw [hr] at h0; cases h0),fun i hi=>by
    rw [hr] at hi; obtain rfl:i=k:=by simpa using hi
    exact h.out⟩⟩
theorem wio_callR (hF : Free Fe nf P) (ho:ops[k]? = some o) (hnd:QaX o=true) (R:Value→World→Prop) (f:FuncId) (args:Array Value) (d:Nat) (hd:o.dst=some d) (hg:Qbe ops o N L=some true)
    (h:(execOp (Rely.look (envN N L)) o).run P w=.ok (.enter f args) w) (hc:Calls P f args w fun e w'=>∃ v,e=.returned v∧R v w') (hR:∀ v W,R v W→Rd W) (kk:∀ (v:Value) (W:World),R v W→WBI Fe nf P ops Q Rd fuel (listed.setIfInBounds k true) (Qar ds N ((d,v)::L)) W):WOI Fe nf P ops Q Rd k fuel listed (Qar ds N L) w:=by
  refine ⟨?_⟩
  unfold wpOpIn
  rw [ho]
  simp only [QbM hg,if_true]
  unfold Oper.wpIn
  rw [Oper.semAt_plain Fe _ _ (QbC hnd),QaN,h]
  refine ⟨fun f _=>hF.fn f,hF.dp,(hF.calls hc).mono ?_⟩
  rintro e w' ⟨v,rfl,hw⟩
  show _∧allI _ _ _ _ _ _ _ _ _ _
  rw [hd,QaP]
  exact ⟨hR v w' hw,(kk v w' hw).out (hR v w' hw)⟩
theorem wio_run (hF : Free Fe nf P) (ho:ops[k]? = some o) (hnd:QaX o=true) (v:Value) (W:World) (d:Nat) (hd:o.dst=some d) (hg:Qbe ops o N L=some true) (h:(execOp (Rely.look (envN N L)) o).run P w=.ok (.value v) W) (hR:Rd W)
    (kk:WBI Fe nf P ops Q Rd fuel (listed.setIfInBounds k true) (Qar ds N ((d,v)::L)) W):WOI Fe nf P ops Q Rd k fuel listed (Qar ds N L) w:=by
  refine ⟨?_⟩
  unfold wpOpIn
  rw [ho]
  simp only [QbM hg,if_true]
  unfold Oper.wpIn
  rw [Oper.semAt_plain Fe _ _ (QbC hnd),QaN,h]
  refine ⟨fun f _=>hF.fn f,?_⟩
  show _∧allI _ _ _ _ _ _ _ _ _ _
  rw [hd,QaP]
  exact ⟨hR,kk.out hR⟩
theorem wio_void (hF : Free Fe nf P) (ho:ops[k]? = some o) (hnd:QaX o=true) (W:World) (hd:o.dst=none) (hg:Qbe ops o N L=some true) (h:(execOp (Rely.look (envN N L)) o).run P w=.ok .skip W) (hR:Rd W)
    (kk:WBI Fe nf P ops Q Rd fuel (listed.setIfInBounds k true) (Qar ds N L) W):WOI Fe nf P ops Q Rd k fuel listed (Qar ds N L) w:=by
  refine ⟨?_⟩
  unfold wpOpIn
  rw [ho]
  simp only [QbM hg,if_true]
  unfold Oper.wpIn
  rw [Oper.semAt_plain Fe _ _ (QbC hnd),QaN,h]
  refine ⟨fun f _=>hF.fn f,?_⟩
  show _∧allI _ _ _ _ _ _ _ _ _ _
  rw [hd]
  exact ⟨hR,kk.out hR⟩
theorem wi_nil (hr : Region.ready .any ops listed=[]) (h:Q .normal (Qar ds N L) w):WBI Fe nf P ops Q Rd fuel listed (Qar ds N L) w :=
  ⟨fun _=>by cases fuel with
    | zero=>exact ⟨hr,h⟩
    | succ n=>exact ⟨fun _=>h,by rw [hr]; simp⟩⟩
end Go.Proofs.YtcmaolmofgmkhaaDoor.Wk
end
