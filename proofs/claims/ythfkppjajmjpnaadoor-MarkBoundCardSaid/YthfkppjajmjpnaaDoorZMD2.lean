/- Texts of this claim, joined (MD2). -/
import Derived.Test.YthfkppjajmjpnaaDoorZMD1

set_option linter.unusedVariables false
set_option linter.unusedSimpArgs false
set_option maxHeartbeats 4000000
section
namespace Go.Proofs.YthfkppjajmjpnaaDoor.Te
open Go Go.RowKit
open Rely Auto Own Seat Sha
theorem QbA (x y n:Int) (b:Bool) (h:abv x y n=b) (W:World):Calls Tryd.prog 42 #[.int .i64 x,.int .i64 y,.int .i64 n] W (Ret W (.bool b)):=h▸quiet (rabove x y n W)
theorem inRb (xs : List Int) (n:Int) (a_x:Option Addr) (c_x B1:Nat) (w:World) (hxl:xs.length≤1000000) (hx:RdK .i64 B1 xs (.slice a_x xs.length c_x) w) (b:Bool) (h:decide (n∈xs)=b):Calls Tryd.prog 41 #[.int .i64 n,.slice a_x xs.length c_x] w (Ret w (.bool b)):=h▸inR xs n a_x c_x B1 w hxl hx
theorem QjO (A : Prop) (b c d:Bool) (E:Prop):A∨(¬ A∧b=false)∨(¬ A∧b=true∧c=false)∨(¬ A∧b=true∧c=true∧d=false)∨(¬ A∧b=true∧c=true∧d=true∧E)∨(¬ A∧b=true∧c=true∧d=true∧¬ E):=by
  by_cases hA:A
  · exact .inl hA
  by_cases hE:E <;> cases b <;> cases c <;> cases d <;> simp [hA,hE]
theorem Qms (i : Int) (n p:Int) (k:Nat) (u a:Bool):(i<0)∨(i≥0∧n≤i)∨((i≥0∧i<n)∧0<k∧i≤p)∨((i≥0∧i<n)∧(k=0)∧u=false)∨((i≥0∧i<n)∧(0<k∧p<i)∧u=false)∨((i≥0∧i<n)∧(k=0)∧u=true∧a=false)∨((i≥0∧i<n)∧(0<k∧p<i)∧u=true∧a=false)∨((i≥0∧i<n)∧(k=0)∧u=true∧a=true)∨((i≥0∧i<n)∧(0<k∧p<i)∧u=true∧a=true):=by
  rcases (show i<0∨(i≥0∧n≤i)∨((i≥0∧i<n)∧0<k∧i≤p)∨((i≥0∧i<n)∧k=0)∨((i≥0∧i<n)∧0<k∧p<i) by omega) with h | h | h | h | h
  · exact .inl h
  · exact .inr (.inl h)
  · exact .inr (.inr (.inl h))
  · cases u
    · exact .inr (.inr (.inr (.inl ⟨h.1,h.2,rfl⟩)))
    · cases a
      · exact .inr (.inr (.inr (.inr (.inr (.inl ⟨h.1,h.2,rfl,rfl⟩)))))
      · exact .inr (.inr (.inr (.inr (.inr (.inr (.inr (.inl ⟨h.1,h.2,rfl,rfl⟩)))))))
  · cases u
    · exact .inr (.inr (.inr (.inr (.inl ⟨h.1,h.2,rfl⟩))))
    · cases a
      · exact .inr (.inr (.inr (.inr (.inr (.inr (.inl ⟨h.1,h.2,rfl,rfl⟩))))))
      · exact .inr (.inr (.inr (.inr (.inr (.inr (.inr (.inr ⟨h.1,h.2,rfl,rfl⟩)))))))
set_option maxRecDepth 100000 in
theorem Qkb (ts : List NdV) (a_t:Option Addr) (c_t B1:Nat) (w:World) (ht:TrAt B1 w a_t ts) (L:Nat) (hL:leaves ((ts.length:Nat):Int)=((L:Nat):Int)) (hlen:ts.length+1=2*L) (hTr:QaF ((L:Nat):Int)=true) (hmt:∀ i,i<ts.length→(ndi ts i).n.ms.length≤1000000) (htl:ts.length≤100000) (x:Nat) (hx:x<ts.length) (h:x%2≠0) (h1:(ndi ts x).n.nm≠0):Calls Tryd.prog 32 #[.slice a_t ts.length c_t,.int .i64 ((x:Nat):Int),.int .i64 ((L:Nat):Int)] w (Ret w (.bool (QbC ts ((L:Nat):Int) x))):=by
  have hxn:Qa4 ((x:Nat):Int) ((L:Nat):Int)=true:=QaK hTr (by omega)
  refine enter 113 [(0,.slice a_t ts.length c_t),(1,.int .i64 ((x:Nat):Int)),(2,.int .i64 ((L:Nat):Int))] Tryd.func32 rfl rfl kj rfl <| sgB kj <| sgC fun K2 hK2=>sg 2 kj ?_
  obtain ⟨gtT,otT,hat,hnts⟩:=TrAt.ext ht (Rely.Ext.refl w)
  have hnt:=hnts x (by omega)
  obtain ⟨nt,ent⟩:∃ z,z=ndi ts x:=⟨_,rfl⟩
  rw [←ent] at hnt
  have okt:=hnt.ok
  have rdt:=hnt.rd
  refine Qaa (.pointer (some ⟨gtT,otT+x*99,none⟩)) 13 rfl kj (Qan 23 _ _ .i64 x gtT otT ts.length c_t 50 99 a_t (hat (by omega)) rfl kj kj kj kj (by omega)) <| Qaa (.agg (cat [#[.bool nt.n.us],#[.int .i64 nt.n.nm],ints .u8 (nt.n.key),ints .u8 (nt.n.sg),ints .u8 (nt.n.pa),#[.slice nt.a nt.n.ms.length nt.c]])) 14 rfl kj (QaI 50 _ gtT (otT+x*99) nt hnt rfl kj kj kj) <| Qal (cat [#[.bool false],#[.int .i64 0],ints .u8 (List.replicate 32 0),ints .u8 (List.replicate 32 0),ints .u8 (List.replicate 32 0),#[.slice none 0 0]]) 50 7 rfl kj kj fun g3 W1 l3 e1 r3_1=>Qav g3 _ (cat [#[.bool nt.n.us],#[.int .i64 nt.n.nm],ints .u8 (nt.n.key),ints .u8 (nt.n.sg),ints .u8 (nt.n.pa),#[.slice nt.a nt.n.ms.length nt.c]]) 50 r3_1 rfl kj (Qat 50 _ _ g3 50 _ _ r3_1 rfl kj kj (isz (n:=99) kj (by rw [Qab,Qab,Qab,Qab,Qab,Qab]; simp only [qS,cat,((Qac _ _).trans okt.gl),((Qac _ _).trans okt.kl),((Qac _ _).trans okt.pl)]; rfl)) (eqsz (n:=99) (by rw [Qab,Qab,Qab,Qab,Qab,Qab]; simp only [qS,cat,((Qac _ _).trans (qZ (n:=32)))]; rfl) (by rw [Qab,Qab,Qab,Qab,Qab,Qab]; simp only [qS,cat,((Qac _ _).trans okt.gl),((Qac _ _).trans okt.kl),((Qac _ _).trans okt.pl)]; rfl)) (Qbo _ (by intro a ha; simp only [List.mem_cons,List.not_mem_nil,or_false] at ha; rcases ha with rfl | rfl | rfl | rfl | rfl | rfl; exact (Qa7 _ rfl); exact (Qa7 _ rfl); exact (Qau _ _); exact (Qau _ _); exact (Qau _ _); exact (Qa7 _ rfl)))) fun W2 p2 r3_2=>?_
  refine sgN hK2 <| wp_seq_k fun K4 hK4=>sgC fun K5 hK5=>sg 1 kj <| Qaa (.int .i64 nt.n.nm) 16 rfl kj (Qaf 3 _ g3 1 50 _ (.int .i64 nt.n.nm) _ r3_2 rfl kj (Qah [#[.bool nt.n.us]] [#[.int .i64 nt.n.nm]] [ints .u8 (nt.n.key),ints .u8 (nt.n.sg),ints .u8 (nt.n.pa),#[.slice nt.a nt.n.ms.length nt.c]] 1 kj 0 _ rfl) kj) <| Qaa (.bool true) 17 rfl kj (Qag (u:=.bool ((nt.n.nm != 0))) kj (congrArg Value.bool (bne_iff_ne.2 (ent▸h1)))) <| sg 6 kj <| sgN hK5 <| cond_true kj <| sgB kj ?_
  refine wp_ret ?_
  repeat (first | with_reducible refine goR1 ?_ | with_reducible refine goR2 ?_)
  exact (show bodyPost _ _ _ .ret _ _ from ret1 (.bool false) rfl (Qar kj) ⟨congrArg (fun z=>Ending.returned (.bool z)) (Qgv h h1).symm,(Puts.ext p2 (Ext.tr (Rely.Ext.refl w) e1) (qT (Rely.Ext.refl w).size l3))⟩)
set_option maxRecDepth 100000 in
theorem Qkd (ts : List NdV) (a_t:Option Addr) (c_t B1:Nat) (w:World) (ht:TrAt B1 w a_t ts) (L:Nat) (hL:leaves ((ts.length:Nat):Int)=((L:Nat):Int)) (hlen:ts.length+1=2*L) (hTr:QaF ((L:Nat):Int)=true) (hmt:∀ i,i<ts.length→(ndi ts i).n.ms.length≤1000000) (htl:ts.length≤100000) (x:Nat) (hx:x<ts.length) (h:x%2≠0) (h1:(ndi ts x).n.nm=0) (h2:(ndi ts x).n.sg≠List.replicate 32 0):Calls Tryd.prog 32 #[.slice a_t ts.length c_t,.int .i64 ((x:Nat):Int),.int .i64 ((L:Nat):Int)] w (Ret w (.bool (QbC ts ((L:Nat):Int) x))):=by
  have hxn:Qa4 ((x:Nat):Int) ((L:Nat):Int)=true:=QaK hTr (by omega)
  refine enter 113 [(0,.slice a_t ts.length c_t),(1,.int .i64 ((x:Nat):Int)),(2,.int .i64 ((L:Nat):Int))] Tryd.func32 rfl rfl kj rfl <| sgB kj <| sgC fun K2 hK2=>sg 2 kj ?_
  obtain ⟨gtT,otT,hat,hnts⟩:=TrAt.ext ht (Rely.Ext.refl w)
  have hnt:=hnts x (by omega)
  obtain ⟨nt,ent⟩:∃ z,z=ndi ts x:=⟨_,rfl⟩
  rw [←ent] at hnt
  have okt:=hnt.ok
  have rdt:=hnt.rd
  refine Qaa (.pointer (some ⟨gtT,otT+x*99,none⟩)) 13 rfl kj (Qan 23 _ _ .i64 x gtT otT ts.length c_t 50 99 a_t (hat (by omega)) rfl kj kj kj kj (by omega)) <| Qaa (.agg (cat [#[.bool nt.n.us],#[.int .i64 nt.n.nm],ints .u8 (nt.n.key),ints .u8 (nt.n.sg),ints .u8 (nt.n.pa),#[.slice nt.a nt.n.ms.length nt.c]])) 14 rfl kj (QaI 50 _ gtT (otT+x*99) nt hnt rfl kj kj kj) <| Qal (cat [#[.bool false],#[.int .i64 0],ints .u8 (List.replicate 32 0),ints .u8 (List.replicate 32 0),ints .u8 (List.replicate 32 0),#[.slice none 0 0]]) 50 7 rfl kj kj fun g3 W1 l3 e1 r3_1=>Qav g3 _ (cat [#[.bool nt.n.us],#[.int .i64 nt.n.nm],ints .u8 (nt.n.key),ints .u8 (nt.n.sg),ints .u8 (nt.n.pa),#[.slice nt.a nt.n.ms.length nt.c]]) 50 r3_1 rfl kj (Qat 50 _ _ g3 50 _ _ r3_1 rfl kj kj (isz (n:=99) kj (by rw [Qab,Qab,Qab,Qab,Qab,Qab]; simp only [qS,cat,((Qac _ _).trans okt.gl),((Qac _ _).trans okt.kl),((Qac _ _).trans okt.pl)]; rfl)) (eqsz (n:=99) (by rw [Qab,Qab,Qab,Qab,Qab,Qab]; simp only [qS,cat,((Qac _ _).trans (qZ (n:=32)))]; rfl) (by rw [Qab,Qab,Qab,Qab,Qab,Qab]; simp only [qS,cat,((Qac _ _).trans okt.gl),((Qac _ _).trans okt.kl),((Qac _ _).trans okt.pl)]; rfl)) (Qbo _ (by intro a ha; simp only [List.mem_cons,List.not_mem_nil,or_false] at ha; rcases ha with rfl | rfl | rfl | rfl | rfl | rfl; exact (Qa7 _ rfl); exact (Qa7 _ rfl); exact (Qau _ _); exact (Qau _ _); exact (Qau _ _); exact (Qa7 _ rfl)))) fun W2 p2 r3_2=>?_
  refine sgN hK2 <| wp_seq_k fun K4 hK4=>sgC fun K5 hK5=>sg 1 kj <| Qaa (.int .i64 nt.n.nm) 16 rfl kj (Qaf 3 _ g3 1 50 _ (.int .i64 nt.n.nm) _ r3_2 rfl kj (Qah [#[.bool nt.n.us]] [#[.int .i64 nt.n.nm]] [ints .u8 (nt.n.key),ints .u8 (nt.n.sg),ints .u8 (nt.n.pa),#[.slice nt.a nt.n.ms.length nt.c]] 1 kj 0 _ rfl) kj) <| Qaa (.bool false) 17 rfl kj (Qag (u:=.bool ((nt.n.nm != 0))) kj (congrArg Value.bool (bne_eq_false_iff_eq.2 (ent▸h1)))) <| sg 2 kj <| Qaa (.agg (ints .u8 (nt.n.sg))) 20 rfl kj (Qao 48 _ g3 34 50 _ _ _ r3_2 rfl kj (Qah [#[.bool nt.n.us],#[.int .i64 nt.n.nm],ints .u8 (nt.n.key)] [ints .u8 (nt.n.sg)] [ints .u8 (nt.n.pa),#[.slice nt.a nt.n.ms.length nt.c]] 34 (by rw [Qab,Qab,Qab]; simp only [qS,cat,((Qac _ _).trans okt.kl)]; rfl)) kj (isz (n:=32) kj ((Qac _ _).trans okt.gl))) ?_
  refine sg 1 kj <| Qaa (.bool true) 22 rfl kj (QaH 48 _ _ _ _ _ (.bool true) rfl kj kj kj (QaW 48 (e:=5) (k:=.u8) (nt.n.sg) (List.replicate 32 0) (decide_eq_false (ent▸h2)) okt.gl (qZ (n:=32)) kj kj kj _)) <| sg 1 kj <| sgN hK5 <| cond_true kj <| sgB kj <| wp_ret ?_
  repeat (first | with_reducible refine goR1 ?_ | with_reducible refine goR2 ?_)
  exact (show bodyPost _ _ _ .ret _ _ from ret1 (.bool false) rfl (Qar kj) ⟨congrArg (fun z=>Ending.returned (.bool z)) (Qgu h h2).symm,(Puts.ext p2 (Ext.tr (Rely.Ext.refl w) e1) (qT (Rely.Ext.refl w).size l3))⟩)
set_option maxRecDepth 100000 in
theorem Qkc (ts : List NdV) (a_t:Option Addr) (c_t B1:Nat) (w:World) (ht:TrAt B1 w a_t ts) (L:Nat) (hL:leaves ((ts.length:Nat):Int)=((L:Nat):Int)) (hlen:ts.length+1=2*L) (hTr:QaF ((L:Nat):Int)=true) (hmt:∀ i,i<ts.length→(ndi ts i).n.ms.length≤1000000) (htl:ts.length≤100000) (x:Nat) (hx:x<ts.length) (h:x%2≠0) (h1:(ndi ts x).n.nm=0) (h2:(ndi ts x).n.sg=List.replicate 32 0):Calls Tryd.prog 32 #[.slice a_t ts.length c_t,.int .i64 ((x:Nat):Int),.int .i64 ((L:Nat):Int)] w (Ret w (.bool (QbC ts ((L:Nat):Int) x))):=by
 have hxn:Qa4 ((x:Nat):Int) ((L:Nat):Int)=true:=QaK hTr (by omega)
 refine enter 113 [(0,.slice a_t ts.length c_t),(1,.int .i64 ((x:Nat):Int)),(2,.int .i64 ((L:Nat):Int))] Tryd.func32 rfl rfl kj rfl <| sgB kj <| sgC fun K2 hK2=>sg 2 kj ?_
 obtain ⟨gtT,otT,hat,hnts⟩:=TrAt.ext ht (Rely.Ext.refl w)
 have hnt:=hnts x (by omega)
 obtain ⟨nt,ent⟩:∃ z,z=ndi ts x:=⟨_,rfl⟩
 rw [←ent] at hnt
 have okt:=hnt.ok
 have rdt:=hnt.rd
 refine Qaa (.pointer (some ⟨gtT,otT+x*99,none⟩)) 13 rfl kj (Qan 23 _ _ .i64 x gtT otT ts.length c_t 50 99 a_t (hat (by omega)) rfl kj kj kj kj (by omega)) <| Qaa (.agg (cat [#[.bool nt.n.us],#[.int .i64 nt.n.nm],ints .u8 (nt.n.key),ints .u8 (nt.n.sg),ints .u8 (nt.n.pa),#[.slice nt.a nt.n.ms.length nt.c]])) 14 rfl kj (QaI 50 _ gtT (otT+x*99) nt hnt rfl kj kj kj) <| Qal (cat [#[.bool false],#[.int .i64 0],ints .u8 (List.replicate 32 0),ints .u8 (List.replicate 32 0),ints .u8 (List.replicate 32 0),#[.slice none 0 0]]) 50 7 rfl kj kj fun g3 W1 l3 e1 r3_1=>Qav g3 _ (cat [#[.bool nt.n.us],#[.int .i64 nt.n.nm],ints .u8 (nt.n.key),ints .u8 (nt.n.sg),ints .u8 (nt.n.pa),#[.slice nt.a nt.n.ms.length nt.c]]) 50 r3_1 rfl kj (Qat 50 _ _ g3 50 _ _ r3_1 rfl kj kj (isz (n:=99) kj (by rw [Qab,Qab,Qab,Qab,Qab,Qab]; simp only [qS,cat,((Qac _ _).trans okt.gl),((Qac _ _).trans okt.kl),((Qac _ _).trans okt.pl)]; rfl)) (eqsz (n:=99) (by rw [Qab,Qab,Qab,Qab,Qab,Qab]; simp only [qS,cat,((Qac _ _).trans (qZ (n:=32)))]; rfl) (by rw [Qab,Qab,Qab,Qab,Qab,Qab]; simp only [qS,cat,((Qac _ _).trans okt.gl),((Qac _ _).trans okt.kl),((Qac _ _).trans okt.pl)]; rfl)) (Qbo _ (by intro a ha; simp only [List.mem_cons,List.not_mem_nil,or_false] at ha; rcases ha with rfl | rfl | rfl | rfl | rfl | rfl; exact (Qa7 _ rfl); exact (Qa7 _ rfl); exact (Qau _ _); exact (Qau _ _); exact (Qau _ _); exact (Qa7 _ rfl)))) fun W2 p2 r3_2=>?_
 refine sgN hK2 <| wp_seq_k fun K4 hK4=>sgC fun K5 hK5=>sg 1 kj <| Qaa (.int .i64 nt.n.nm) 16 rfl kj (Qaf 3 _ g3 1 50 _ (.int .i64 nt.n.nm) _ r3_2 rfl kj (Qah [#[.bool nt.n.us]] [#[.int .i64 nt.n.nm]] [ints .u8 (nt.n.key),ints .u8 (nt.n.sg),ints .u8 (nt.n.pa),#[.slice nt.a nt.n.ms.length nt.c]] 1 kj 0 _ rfl) kj) <| Qaa (.bool false) 17 rfl kj (Qag (u:=.bool ((nt.n.nm != 0))) kj (congrArg Value.bool (bne_eq_false_iff_eq.2 (ent▸h1)))) <| sg 2 kj <| Qaa (.agg (ints .u8 (nt.n.sg))) 20 rfl kj (Qao 48 _ g3 34 50 _ _ _ r3_2 rfl kj (Qah [#[.bool nt.n.us],#[.int .i64 nt.n.nm],ints .u8 (nt.n.key)] [ints .u8 (nt.n.sg)] [ints .u8 (nt.n.pa),#[.slice nt.a nt.n.ms.length nt.c]] 34 (by rw [Qab,Qab,Qab]; simp only [qS,cat,((Qac _ _).trans okt.kl)]; rfl)) kj (isz (n:=32) kj ((Qac _ _).trans okt.gl))) ?_
 refine sg 1 kj <| Qaa (.bool false) 22 rfl kj (QaH 48 _ _ _ _ _ (.bool false) rfl kj kj kj (QaW 48 (e:=5) (k:=.u8) (nt.n.sg) (List.replicate 32 0) (decide_eq_true (ent▸h2)) okt.gl (qZ (n:=32)) kj kj kj _)) <| sg 1 kj <| sgN hK5 <| cond_false kj <| wp_skip <| hK4 _ _ <| wp_seq_k fun K6 hK6=>sgB kj <| wp_block ?_
 have hml:nt.n.ms.length≤1000000:=ent▸hmt x hx
 refine Qay (fun (s1:Nat)=>[(0,.slice a_t ts.length c_t),(1,.int .i64 ((x:Nat):Int)),(2,.int .i64 ((L:Nat):Int)),(7,.pointer (some ⟨g3,0,none⟩)),(8,.int .i64 ((s1:Nat):Int))]) (fun (s1:Nat) W=>(s1≤nt.n.ms.length)∧(∀ j,j<s1→msOk ts ((L:Nat):Int) ((x:Nat):Int) nt.n.ms j=true)∧(Ext W2 W)∧(Ext w W)) (fun (s1:Nat)=>nt.n.ms.length-s1) 0 ⟨kj,kj,kj,kj,kj,trivial⟩ ⟨(Nat.zero_le _),(fun j hj=>absurd hj (Nat.not_lt_zero j)),(Rely.Ext.refl W2),(Puts.ext p2 (Ext.tr (Rely.Ext.refl w) e1) (qT (Rely.Ext.refl w).size l3))⟩ fun s1 X1 V1 hI1=>?_
 obtain ⟨k,hs1⟩:∃ z,z=s1:=⟨_,rfl⟩
 subst hs1
 obtain ⟨hk,hall,kk1,xx1⟩:=hI1
 replace hk:k≤nt.n.ms.length:=hk
 replace hall:∀ j,j<k→msOk ts ((L:Nat):Int) ((x:Nat):Int) nt.n.ms j=true:=hall
 replace kk1:Ext W2 V1:=kk1
 replace xx1:Ext w V1:=xx1
 have e3:=kk1
 refine wp_seq_k fun K8 hK8=>sgC fun K9 hK9=>sg 2 kj ?_
 have r3_3:=(Qae r3_2 e3)
 refine Qaa (.slice nt.a nt.n.ms.length nt.c) 26 rfl kj (Qaf 24 _ g3 98 50 _ (.slice nt.a nt.n.ms.length nt.c) _ r3_3 rfl kj (Qah [#[.bool nt.n.us],#[.int .i64 nt.n.nm],ints .u8 (nt.n.key),ints .u8 (nt.n.sg),ints .u8 (nt.n.pa)] [#[.slice nt.a nt.n.ms.length nt.c]] [] 98 (by rw [Qab,Qab,Qab,Qab,Qab]; simp only [qS,cat,((Qac _ _).trans okt.gl),((Qac _ _).trans okt.kl),((Qac _ _).trans okt.pl)]; rfl) 0 _ rfl) kj) ?_
 refine sg 2 kj <| sgN hK9 <| Qaq (t:=decide (((k:Nat):Int)<((nt.n.ms.length:Nat):Int))) kj (fun c10=>?_) (fun c10=>?_)
 ·skip
  have hlt28:k<nt.n.ms.length:=by have:=of_decide_eq_true c10; omega
  have hnx_11:(nt.n.ms).length=nt.n.ms.length:=rfl
  obtain ⟨gcx_11,ocx_11,hax_11,hlx_11,hcx_11⟩:=QaO (RdK.here (RdK.ext rdt (Rely.Ext.trans (Puts.ext p2 (Rely.Ext.trans (Rely.Ext.refl w) e1) l3) e3))) (by rw [hnx_11]; omega)
  refine wp_skip <| hK8 _ _ <| wp_seq_k fun K12 hK12=>wp_block <| sgC fun K13 hK13=>sg 1 kj <| Qaa (.slice nt.a nt.n.ms.length nt.c) 32 rfl kj (Qaf 24 _ g3 98 50 _ (.slice nt.a nt.n.ms.length nt.c) _ r3_3 rfl kj (Qah [#[.bool nt.n.us],#[.int .i64 nt.n.nm],ints .u8 (nt.n.key),ints .u8 (nt.n.sg),ints .u8 (nt.n.pa)] [#[.slice nt.a nt.n.ms.length nt.c]] [] 98 (by rw [Qab,Qab,Qab,Qab,Qab]; simp only [qS,cat,((Qac _ _).trans okt.gl),((Qac _ _).trans okt.kl),((Qac _ _).trans okt.pl)]; rfl) 0 _ rfl) kj) ?_
  refine sg 1 kj <| Qaa (.pointer (some ⟨gcx_11,ocx_11+k,none⟩)) 34 rfl kj (Qa1 24 _ _ .i64 k gcx_11 ocx_11 nt.n.ms.length nt.c 3 nt.a _ hax_11 rfl rfl kj kj kj kj (Nat.lt_of_lt_of_eq (show k<nt.n.ms.length by omega) hnx_11.symm)) <| Qaa (.int .i64 (nth (nt.n.ms) (k))) 35 rfl kj (Qai 3 _ _ (.int .i64 (nth (nt.n.ms) (k))) (hcx_11 k (Nat.lt_of_lt_of_eq (show k<nt.n.ms.length by omega) hnx_11.symm)) rfl kj kj) <| sg 1 kj <| sgN hK13 <| wp_seq_k fun K14 hK14=>wp_seq_k fun K15 hK15=>?_
  have hbn:=QbN hxn
  have hQ0:(nth nt.n.ms k<0)∨(nth nt.n.ms k≥0∧((L:Nat):Int)≤nth nt.n.ms k)∨((nth nt.n.ms k≥0∧nth nt.n.ms k<((L:Nat):Int))∧0<k∧nth nt.n.ms k≤nth nt.n.ms (k-1))∨((nth nt.n.ms k≥0∧nth nt.n.ms k<((L:Nat):Int))∧(k=0)∧(ndi ts (2*(nth nt.n.ms k).toNat)).n.us=false)∨((nth nt.n.ms k≥0∧nth nt.n.ms k<((L:Nat):Int))∧(0<k∧nth nt.n.ms (k-1)<nth nt.n.ms k)∧(ndi ts (2*(nth nt.n.ms k).toNat)).n.us=false)∨((nth nt.n.ms k≥0∧nth nt.n.ms k<((L:Nat):Int))∧(k=0)∧(ndi ts (2*(nth nt.n.ms k).toNat)).n.us=true∧abv ((x:Nat):Int) (2*nth nt.n.ms k) ((L:Nat):Int)=false)∨((nth nt.n.ms k≥0∧nth nt.n.ms k<((L:Nat):Int))∧(0<k∧nth nt.n.ms (k-1)<nth nt.n.ms k)∧(ndi ts (2*(nth nt.n.ms k).toNat)).n.us=true∧abv ((x:Nat):Int) (2*nth nt.n.ms k) ((L:Nat):Int)=false)∨((nth nt.n.ms k≥0∧nth nt.n.ms k<((L:Nat):Int))∧(k=0)∧(ndi ts (2*(nth nt.n.ms k).toNat)).n.us=true∧abv ((x:Nat):Int) (2*nth nt.n.ms k) ((L:Nat):Int)=true)∨((nth nt.n.ms k≥0∧nth nt.n.ms k<((L:Nat):Int))∧(0<k∧nth nt.n.ms (k-1)<nth nt.n.ms k)∧(ndi ts (2*(nth nt.n.ms k).toNat)).n.us=true∧abv ((x:Nat):Int) (2*nth nt.n.ms k) ((L:Nat):Int)=true):=Qms _ _ _ _ _ _
  rcases hQ0 with hQ | hQ | ⟨hR,hQ⟩ | ⟨hR,hQ⟩ | ⟨hR,hQ⟩ | ⟨hR,hQ⟩ | ⟨hR,hQ⟩ | ⟨hR,hQ⟩ | ⟨hR,hQ⟩
  ·skip
   have hb:msOk ts ((L:Nat):Int) ((x:Nat):Int) nt.n.ms k=false:=by unfold msOk; rw [Qf2 (by omega),Bool.and_false]
   refine Qad <| sg 1 kj <| Qaa (.bool true) 37 rfl kj (Qag (u:=.bool (decide ((nth (nt.n.ms) (k))<0))) kj (congrArg Value.bool (decide_eq_true (by omega)))) <| sg 36 kj <| sgN hK15 <| cond_true kj <| sgB kj <| wp_ret ?_
   repeat (first | with_reducible refine goR1 ?_ | with_reducible refine goR2 ?_)
   exact (show bodyPost _ _ _ .ret _ _ from ret1 (.bool false) rfl (Qar kj) ⟨congrArg (fun z=>Ending.returned (.bool z)) ((Qbu h h1 h2).trans (QcU (k:=k) (by rw [←ent]; exact hlt28) (by rw [←ent]; exact hb))).symm,xx1⟩)
  ·skip
   have hb:msOk ts ((L:Nat):Int) ((x:Nat):Int) nt.n.ms k=false:=by unfold msOk; rw [QeF (by omega),Bool.and_false]
   refine Qad <| sg 1 kj <| Qaa (.bool false) 37 rfl kj (Qag (u:=.bool (decide ((nth (nt.n.ms) (k))<0))) kj (congrArg Value.bool (decide_eq_false (by omega)))) <| sg 3 kj <| Qaa (.bool true) 41 rfl kj (Qag (u:=.bool (decide ((nth (nt.n.ms) (k))≥((L:Nat):Int)))) kj (congrArg Value.bool (decide_eq_true (by omega)))) <| sg 32 kj <| sgN hK15 <| cond_true kj <| sgB kj <| wp_ret ?_
   repeat (first | with_reducible refine goR1 ?_ | with_reducible refine goR2 ?_)
   exact (show bodyPost _ _ _ .ret _ _ from ret1 (.bool false) rfl (Qar kj) ⟨congrArg (fun z=>Ending.returned (.bool z)) ((Qbu h h1 h2).trans (QcU (k:=k) (by rw [←ent]; exact hlt28) (by rw [←ent]; exact hb))).symm,xx1⟩)
  ·skip
   have hb:msOk ts ((L:Nat):Int) ((x:Nat):Int) nt.n.ms k=false:=by unfold msOk; rw [beq_eq_false_iff_ne.2 (by omega),decide_eq_false (by omega)]; rfl
   refine Qad <| sg 1 kj <| Qaa (.bool false) 37 rfl kj (Qag (u:=.bool (decide ((nth (nt.n.ms) (k))<0))) kj (congrArg Value.bool (decide_eq_false (by omega)))) <| sg 3 kj <| Qaa (.bool false) 41 rfl kj (Qag (u:=.bool (decide ((nth (nt.n.ms) (k))≥((L:Nat):Int)))) kj (congrArg Value.bool (decide_eq_false (by omega)))) <| sg 3 kj <| Qaa (.bool true) 45 rfl kj (Qag (u:=.bool (decide (((k:Nat):Int)>0))) kj (congrArg Value.bool (decide_eq_true (by omega)))) <| sg 3 kj <| Qaa (.slice nt.a nt.n.ms.length nt.c) 49 rfl kj (Qaf 24 _ g3 98 50 _ (.slice nt.a nt.n.ms.length nt.c) _ r3_3 rfl kj (Qah [#[.bool nt.n.us],#[.int .i64 nt.n.nm],ints .u8 (nt.n.key),ints .u8 (nt.n.sg),ints .u8 (nt.n.pa)] [#[.slice nt.a nt.n.ms.length nt.c]] [] 98 (by rw [Qab,Qab,Qab,Qab,Qab]; simp only [qS,cat,((Qac _ _).trans okt.gl),((Qac _ _).trans okt.kl),((Qac _ _).trans okt.pl)]; rfl) 0 _ rfl) kj) ?_
   refine sg 1 kj <| Qaa (.int .i64 ((k-1:Nat):Int)) 51 rfl kj (Qag (u:=.int .i64 (IntKind.i64.wrap (((k:Nat):Int)-1))) kj (congrArg (Value.int .i64) (i64n _ _ (by omega) (by omega)))) <| Qaa (.pointer (some ⟨gcx_11,ocx_11+(k-1),none⟩)) 52 rfl kj (Qa1 24 _ _ .i64 (k-1) gcx_11 ocx_11 nt.n.ms.length nt.c 3 nt.a _ hax_11 rfl rfl kj kj kj kj (Nat.lt_of_lt_of_eq (show k-1<nt.n.ms.length by omega) hnx_11.symm)) <| Qaa (.int .i64 (nth (nt.n.ms) ((k-1)))) 53 rfl kj (Qai 3 _ _ (.int .i64 (nth (nt.n.ms) ((k-1)))) (hcx_11 (k-1) (Nat.lt_of_lt_of_eq (show k-1<nt.n.ms.length by omega) hnx_11.symm)) rfl kj kj) <| Qaa (.bool true) 54 rfl kj (Qag (u:=.bool (decide ((nth (nt.n.ms) (k))≤(nth (nt.n.ms) ((k-1)))))) kj (congrArg Value.bool (decide_eq_true (by omega)))) <| sg 19 kj <| sgN hK15 <| cond_true kj <| sgB kj <| wp_ret ?_
   repeat (first | with_reducible refine goR1 ?_ | with_reducible refine goR2 ?_)
   exact (show bodyPost _ _ _ .ret _ _ from ret1 (.bool false) rfl (Qar kj) ⟨congrArg (fun z=>Ending.returned (.bool z)) ((Qbu h h1 h2).trans (QcU (k:=k) (by rw [←ent]; exact hlt28) (by rw [←ent]; exact hb))).symm,xx1⟩)
  ·skip
   obtain ⟨m,hm⟩:∃ m:Nat,nth nt.n.ms k=((m:Nat):Int):=⟨(nth nt.n.ms k).toNat,by omega⟩
   have hml2:m<L:=by omega
   have hb0:msOk ts ((L:Nat):Int) ((x:Nat):Int) nt.n.ms k=Qbq ts ((L:Nat):Int) ((x:Nat):Int) ((m:Nat):Int):=by unfold msOk; rw [hm,hQ.1]; rfl
   obtain ⟨gzT,ozT,haz,hnzs⟩:=TrAt.ext ht xx1
   have hnz:=hnzs (2*m) (by omega)
   obtain ⟨nz,enz⟩:∃ z,z=ndi ts (2*m):=⟨_,rfl⟩
   rw [←enz] at hnz
   have okz:=hnz.ok
   have rdz:=hnz.rd
   have hzu:nz.n.us=false:=by rw [enz]; have h9:=hQ.2; rw [hm] at h9; exact h9
   have hb:msOk ts ((L:Nat):Int) ((x:Nat):Int) nt.n.ms k=false:=hb0.trans (QeY (enz▸hzu))
   refine Qad <| sg 1 kj <| Qaa (.bool false) 37 rfl kj (Qag (u:=.bool (decide ((nth (nt.n.ms) (k))<0))) kj (congrArg Value.bool (decide_eq_false (by omega)))) <| sg 3 kj <| Qaa (.bool false) 41 rfl kj (Qag (u:=.bool (decide ((nth (nt.n.ms) (k))≥((L:Nat):Int)))) kj (congrArg Value.bool (decide_eq_false (by omega)))) <| sg 3 kj <| Qaa (.bool false) 45 rfl kj (Qag (u:=.bool (decide (((k:Nat):Int)>0))) kj (congrArg Value.bool (decide_eq_false (by omega)))) <| sg 14 kj <| Qaa (.int .i64 (((2*m:Nat):Int))) 60 rfl kj (Qag (u:=.int .i64 (IntKind.i64.wrap (2*(nth (nt.n.ms) (k))))) kj (congrArg (Value.int .i64) (by rw [hm]; exact ((IntWalk.i64_in _ (by omega)).trans (by omega))))) ?_
   refine Qaa (.pointer (some ⟨gzT,ozT+(2*m)*99,none⟩)) 61 rfl kj (Qan 23 _ _ .i64 (2*m) gzT ozT ts.length c_t 50 99 a_t (haz (by omega)) rfl kj kj kj kj (by omega)) <| sg 1 kj <| Qaa (.bool false) 63 rfl kj (Qai 4 _ _ (.bool false) ((NdAt.at3 hnz).1.trans (congrArg (fun z=>some (Value.bool z)) hzu)) rfl kj kj) <| sg 10 kj <| sgN hK15 <| cond_true kj <| sgB kj <| wp_ret ?_
   repeat (first | with_reducible refine goR1 ?_ | with_reducible refine goR2 ?_)
   exact (show bodyPost _ _ _ .ret _ _ from ret1 (.bool false) rfl (Qar kj) ⟨congrArg (fun z=>Ending.returned (.bool z)) ((Qbu h h1 h2).trans (QcU (k:=k) (by rw [←ent]; exact hlt28) (by rw [←ent]; exact hb))).symm,xx1⟩)
  ·skip
   obtain ⟨m,hm⟩:∃ m:Nat,nth nt.n.ms k=((m:Nat):Int):=⟨(nth nt.n.ms k).toNat,by omega⟩
   have hml2:m<L:=by omega
   have hb0:msOk ts ((L:Nat):Int) ((x:Nat):Int) nt.n.ms k=Qbq ts ((L:Nat):Int) ((x:Nat):Int) ((m:Nat):Int):=by unfold msOk; rw [decide_eq_true hQ.1.2,hm,Bool.or_true,Bool.true_and]
   obtain ⟨gzT,ozT,haz,hnzs⟩:=TrAt.ext ht xx1
   have hnz:=hnzs (2*m) (by omega)
   obtain ⟨nz,enz⟩:∃ z,z=ndi ts (2*m):=⟨_,rfl⟩
   rw [←enz] at hnz
   have okz:=hnz.ok
   have rdz:=hnz.rd
   have hzu:nz.n.us=false:=by rw [enz]; have h9:=hQ.2; rw [hm] at h9; exact h9
   have hb:msOk ts ((L:Nat):Int) ((x:Nat):Int) nt.n.ms k=false:=hb0.trans (QeY (enz▸hzu))
   refine Qad <| sg 1 kj <| Qaa (.bool false) 37 rfl kj (Qag (u:=.bool (decide ((nth (nt.n.ms) (k))<0))) kj (congrArg Value.bool (decide_eq_false (by omega)))) <| sg 3 kj <| Qaa (.bool false) 41 rfl kj (Qag (u:=.bool (decide ((nth (nt.n.ms) (k))≥((L:Nat):Int)))) kj (congrArg Value.bool (decide_eq_false (by omega)))) <| sg 3 kj <| Qaa (.bool true) 45 rfl kj (Qag (u:=.bool (decide (((k:Nat):Int)>0))) kj (congrArg Value.bool (decide_eq_true (by omega)))) <| sg 3 kj <| Qaa (.slice nt.a nt.n.ms.length nt.c) 49 rfl kj (Qaf 24 _ g3 98 50 _ (.slice nt.a nt.n.ms.length nt.c) _ r3_3 rfl kj (Qah [#[.bool nt.n.us],#[.int .i64 nt.n.nm],ints .u8 (nt.n.key),ints .u8 (nt.n.sg),ints .u8 (nt.n.pa)] [#[.slice nt.a nt.n.ms.length nt.c]] [] 98 (by rw [Qab,Qab,Qab,Qab,Qab]; simp only [qS,cat,((Qac _ _).trans okt.gl),((Qac _ _).trans okt.kl),((Qac _ _).trans okt.pl)]; rfl) 0 _ rfl) kj) ?_
   refine sg 1 kj <| Qaa (.int .i64 ((k-1:Nat):Int)) 51 rfl kj (Qag (u:=.int .i64 (IntKind.i64.wrap (((k:Nat):Int)-1))) kj (congrArg (Value.int .i64) (i64n _ _ (by omega) (by omega)))) <| Qaa (.pointer (some ⟨gcx_11,ocx_11+(k-1),none⟩)) 52 rfl kj (Qa1 24 _ _ .i64 (k-1) gcx_11 ocx_11 nt.n.ms.length nt.c 3 nt.a _ hax_11 rfl rfl kj kj kj kj (Nat.lt_of_lt_of_eq (show k-1<nt.n.ms.length by omega) hnx_11.symm)) <| Qaa (.int .i64 (nth (nt.n.ms) ((k-1)))) 53 rfl kj (Qai 3 _ _ (.int .i64 (nth (nt.n.ms) ((k-1)))) (hcx_11 (k-1) (Nat.lt_of_lt_of_eq (show k-1<nt.n.ms.length by omega) hnx_11.symm)) rfl kj kj) <| Qaa (.bool false) 54 rfl kj (Qag (u:=.bool (decide ((nth (nt.n.ms) (k))≤(nth (nt.n.ms) ((k-1)))))) kj (congrArg Value.bool (decide_eq_false (by omega)))) <| sg 5 kj <| Qaa (.int .i64 (((2*m:Nat):Int))) 60 rfl kj (Qag (u:=.int .i64 (IntKind.i64.wrap (2*(nth (nt.n.ms) (k))))) kj (congrArg (Value.int .i64) (by rw [hm]; exact ((IntWalk.i64_in _ (by omega)).trans (by omega))))) ?_
   refine Qaa (.pointer (some ⟨gzT,ozT+(2*m)*99,none⟩)) 61 rfl kj (Qan 23 _ _ .i64 (2*m) gzT ozT ts.length c_t 50 99 a_t (haz (by omega)) rfl kj kj kj kj (by omega)) <| sg 1 kj <| Qaa (.bool false) 63 rfl kj (Qai 4 _ _ (.bool false) ((NdAt.at3 hnz).1.trans (congrArg (fun z=>some (Value.bool z)) hzu)) rfl kj kj) <| sg 10 kj <| sgN hK15 <| cond_true kj <| sgB kj <| wp_ret ?_
   repeat (first | with_reducible refine goR1 ?_ | with_reducible refine goR2 ?_)
   exact (show bodyPost _ _ _ .ret _ _ from ret1 (.bool false) rfl (Qar kj) ⟨congrArg (fun z=>Ending.returned (.bool z)) ((Qbu h h1 h2).trans (QcU (k:=k) (by rw [←ent]; exact hlt28) (by rw [←ent]; exact hb))).symm,xx1⟩)
  ·skip
   obtain ⟨m,hm⟩:∃ m:Nat,nth nt.n.ms k=((m:Nat):Int):=⟨(nth nt.n.ms k).toNat,by omega⟩
   have hml2:m<L:=by omega
   have hb0:msOk ts ((L:Nat):Int) ((x:Nat):Int) nt.n.ms k=Qbq ts ((L:Nat):Int) ((x:Nat):Int) ((m:Nat):Int):=by unfold msOk; rw [hm,hQ.1]; rfl
   obtain ⟨gzT,ozT,haz,hnzs⟩:=TrAt.ext ht xx1
   have hnz:=hnzs (2*m) (by omega)
   obtain ⟨nz,enz⟩:∃ z,z=ndi ts (2*m):=⟨_,rfl⟩
   rw [←enz] at hnz
   have okz:=hnz.ok
   have rdz:=hnz.rd
   have hzu:nz.n.us=true:=by rw [enz]; have h9:=hQ.2.1; rw [hm] at h9; exact h9
   have habz:abv ((x:Nat):Int) (2*((m:Nat):Int)) ((L:Nat):Int)=false:=by have h9:=hQ.2.2; rw [hm] at h9; exact h9
   have hb:msOk ts ((L:Nat):Int) ((x:Nat):Int) nt.n.ms k=false:=hb0.trans (Qgr hxn (by omega) habz)
   refine Qad <| sg 1 kj <| Qaa (.bool false) 37 rfl kj (Qag (u:=.bool (decide ((nth (nt.n.ms) (k))<0))) kj (congrArg Value.bool (decide_eq_false (by omega)))) <| sg 3 kj <| Qaa (.bool false) 41 rfl kj (Qag (u:=.bool (decide ((nth (nt.n.ms) (k))≥((L:Nat):Int)))) kj (congrArg Value.bool (decide_eq_false (by omega)))) <| sg 3 kj <| Qaa (.bool false) 45 rfl kj (Qag (u:=.bool (decide (((k:Nat):Int)>0))) kj (congrArg Value.bool (decide_eq_false (by omega)))) <| sg 14 kj <| Qaa (.int .i64 (((2*m:Nat):Int))) 60 rfl kj (Qag (u:=.int .i64 (IntKind.i64.wrap (2*(nth (nt.n.ms) (k))))) kj (congrArg (Value.int .i64) (by rw [hm]; exact ((IntWalk.i64_in _ (by omega)).trans (by omega))))) ?_
   refine Qaa (.pointer (some ⟨gzT,ozT+(2*m)*99,none⟩)) 61 rfl kj (Qan 23 _ _ .i64 (2*m) gzT ozT ts.length c_t 50 99 a_t (haz (by omega)) rfl kj kj kj kj (by omega)) <| sg 1 kj <| Qaa (.bool true) 63 rfl kj (Qai 4 _ _ (.bool true) ((NdAt.at3 hnz).1.trans (congrArg (fun z=>some (Value.bool z)) hzu)) rfl kj kj) <| sg 5 kj <| Qaa (.int .i64 (2*((m:Nat):Int))) 69 rfl kj (Qag (u:=.int .i64 (IntKind.i64.wrap (2*(nth (nt.n.ms) (k))))) kj (congrArg (Value.int .i64) (by rw [hm]; exact IntWalk.i64_in _ (by omega)))) ?_
   refine sg 1 kj <| Qak (.bool false) 42 #[.int .i64 ((x:Nat):Int),.int .i64 (2*((m:Nat):Int)),.int .i64 ((L:Nat):Int)] 71 rfl kj kj (QbA _ _ _ false habz _) fun W4 e4=>?_
   have x4:=Ext.tr xx1 e4
   refine sg 2 kj <| sgN hK15 <| cond_true kj <| sgB kj <| wp_ret ?_
   repeat (first | with_reducible refine goR1 ?_ | with_reducible refine goR2 ?_)
   exact (show bodyPost _ _ _ .ret _ _ from ret1 (.bool false) rfl (Qar kj) ⟨congrArg (fun z=>Ending.returned (.bool z)) ((Qbu h h1 h2).trans (QcU (k:=k) (by rw [←ent]; exact hlt28) (by rw [←ent]; exact hb))).symm,x4⟩)
  ·skip
   obtain ⟨m,hm⟩:∃ m:Nat,nth nt.n.ms k=((m:Nat):Int):=⟨(nth nt.n.ms k).toNat,by omega⟩
   have hml2:m<L:=by omega
   have hb0:msOk ts ((L:Nat):Int) ((x:Nat):Int) nt.n.ms k=Qbq ts ((L:Nat):Int) ((x:Nat):Int) ((m:Nat):Int):=by unfold msOk; rw [decide_eq_true hQ.1.2,hm,Bool.or_true,Bool.true_and]
   obtain ⟨gzT,ozT,haz,hnzs⟩:=TrAt.ext ht xx1
   have hnz:=hnzs (2*m) (by omega)
   obtain ⟨nz,enz⟩:∃ z,z=ndi ts (2*m):=⟨_,rfl⟩
   rw [←enz] at hnz
   have okz:=hnz.ok
   have rdz:=hnz.rd
   have hzu:nz.n.us=true:=by rw [enz]; have h9:=hQ.2.1; rw [hm] at h9; exact h9
   have habz:abv ((x:Nat):Int) (2*((m:Nat):Int)) ((L:Nat):Int)=false:=by have h9:=hQ.2.2; rw [hm] at h9; exact h9
   have hb:msOk ts ((L:Nat):Int) ((x:Nat):Int) nt.n.ms k=false:=hb0.trans (Qgr hxn (by omega) habz)
   refine Qad <| sg 1 kj <| Qaa (.bool false) 37 rfl kj (Qag (u:=.bool (decide ((nth (nt.n.ms) (k))<0))) kj (congrArg Value.bool (decide_eq_false (by omega)))) <| sg 3 kj <| Qaa (.bool false) 41 rfl kj (Qag (u:=.bool (decide ((nth (nt.n.ms) (k))≥((L:Nat):Int)))) kj (congrArg Value.bool (decide_eq_false (by omega)))) <| sg 3 kj <| Qaa (.bool true) 45 rfl kj (Qag (u:=.bool (decide (((k:Nat):Int)>0))) kj (congrArg Value.bool (decide_eq_true (by omega)))) <| sg 3 kj <| Qaa (.slice nt.a nt.n.ms.length nt.c) 49 rfl kj (Qaf 24 _ g3 98 50 _ (.slice nt.a nt.n.ms.length nt.c) _ r3_3 rfl kj (Qah [#[.bool nt.n.us],#[.int .i64 nt.n.nm],ints .u8 (nt.n.key),ints .u8 (nt.n.sg),ints .u8 (nt.n.pa)] [#[.slice nt.a nt.n.ms.length nt.c]] [] 98 (by rw [Qab,Qab,Qab,Qab,Qab]; simp only [qS,cat,((Qac _ _).trans okt.gl),((Qac _ _).trans okt.kl),((Qac _ _).trans okt.pl)]; rfl) 0 _ rfl) kj) ?_
   refine sg 1 kj <| Qaa (.int .i64 ((k-1:Nat):Int)) 51 rfl kj (Qag (u:=.int .i64 (IntKind.i64.wrap (((k:Nat):Int)-1))) kj (congrArg (Value.int .i64) (i64n _ _ (by omega) (by omega)))) <| Qaa (.pointer (some ⟨gcx_11,ocx_11+(k-1),none⟩)) 52 rfl kj (Qa1 24 _ _ .i64 (k-1) gcx_11 ocx_11 nt.n.ms.length nt.c 3 nt.a _ hax_11 rfl rfl kj kj kj kj (Nat.lt_of_lt_of_eq (show k-1<nt.n.ms.length by omega) hnx_11.symm)) <| Qaa (.int .i64 (nth (nt.n.ms) ((k-1)))) 53 rfl kj (Qai 3 _ _ (.int .i64 (nth (nt.n.ms) ((k-1)))) (hcx_11 (k-1) (Nat.lt_of_lt_of_eq (show k-1<nt.n.ms.length by omega) hnx_11.symm)) rfl kj kj) <| Qaa (.bool false) 54 rfl kj (Qag (u:=.bool (decide ((nth (nt.n.ms) (k))≤(nth (nt.n.ms) ((k-1)))))) kj (congrArg Value.bool (decide_eq_false (by omega)))) <| sg 5 kj <| Qaa (.int .i64 (((2*m:Nat):Int))) 60 rfl kj (Qag (u:=.int .i64 (IntKind.i64.wrap (2*(nth (nt.n.ms) (k))))) kj (congrArg (Value.int .i64) (by rw [hm]; exact ((IntWalk.i64_in _ (by omega)).trans (by omega))))) ?_
   refine Qaa (.pointer (some ⟨gzT,ozT+(2*m)*99,none⟩)) 61 rfl kj (Qan 23 _ _ .i64 (2*m) gzT ozT ts.length c_t 50 99 a_t (haz (by omega)) rfl kj kj kj kj (by omega)) <| sg 1 kj <| Qaa (.bool true) 63 rfl kj (Qai 4 _ _ (.bool true) ((NdAt.at3 hnz).1.trans (congrArg (fun z=>some (Value.bool z)) hzu)) rfl kj kj) <| sg 5 kj <| Qaa (.int .i64 (2*((m:Nat):Int))) 69 rfl kj (Qag (u:=.int .i64 (IntKind.i64.wrap (2*(nth (nt.n.ms) (k))))) kj (congrArg (Value.int .i64) (by rw [hm]; exact IntWalk.i64_in _ (by omega)))) ?_
   refine sg 1 kj <| Qak (.bool false) 42 #[.int .i64 ((x:Nat):Int),.int .i64 (2*((m:Nat):Int)),.int .i64 ((L:Nat):Int)] 71 rfl kj kj (QbA _ _ _ false habz _) fun W4 e4=>?_
   have x4:=Ext.tr xx1 e4
   refine sg 2 kj <| sgN hK15 <| cond_true kj <| sgB kj <| wp_ret ?_
   repeat (first | with_reducible refine goR1 ?_ | with_reducible refine goR2 ?_)
   exact (show bodyPost _ _ _ .ret _ _ from ret1 (.bool false) rfl (Qar kj) ⟨congrArg (fun z=>Ending.returned (.bool z)) ((Qbu h h1 h2).trans (QcU (k:=k) (by rw [←ent]; exact hlt28) (by rw [←ent]; exact hb))).symm,x4⟩)
  ·skip
   obtain ⟨m,hm⟩:∃ m:Nat,nth nt.n.ms k=((m:Nat):Int):=⟨(nth nt.n.ms k).toNat,by omega⟩
   have hml2:m<L:=by omega
   have hb0:msOk ts ((L:Nat):Int) ((x:Nat):Int) nt.n.ms k=Qbq ts ((L:Nat):Int) ((x:Nat):Int) ((m:Nat):Int):=by unfold msOk; rw [hm,hQ.1]; rfl
   obtain ⟨gzT,ozT,haz,hnzs⟩:=TrAt.ext ht xx1
   have hnz:=hnzs (2*m) (by omega)
   obtain ⟨nz,enz⟩:∃ z,z=ndi ts (2*m):=⟨_,rfl⟩
   rw [←enz] at hnz
   have okz:=hnz.ok
   have rdz:=hnz.rd
   have hzu:nz.n.us=true:=by rw [enz]; have h9:=hQ.2.1; rw [hm] at h9; exact h9
   have habz:abv ((x:Nat):Int) (2*((m:Nat):Int)) ((L:Nat):Int)=true:=by have h9:=hQ.2.2; rw [hm] at h9; exact h9
   have hQ1:=hQ.1
   replace hQ:True∧True∧abv ((x:Nat):Int) (2*((m:Nat):Int)) ((L:Nat):Int)=true:=⟨trivial,trivial,habz⟩
   refine Qad <| sg 1 kj <| Qaa (.bool false) 37 rfl kj (Qag (u:=.bool (decide ((nth (nt.n.ms) (k))<0))) kj (congrArg Value.bool (decide_eq_false (by omega)))) <| sg 3 kj <| Qaa (.bool false) 41 rfl kj (Qag (u:=.bool (decide ((nth (nt.n.ms) (k))≥((L:Nat):Int)))) kj (congrArg Value.bool (decide_eq_false (by omega)))) <| sg 3 kj <| Qaa (.bool false) 45 rfl kj (Qag (u:=.bool (decide (((k:Nat):Int)>0))) kj (congrArg Value.bool (decide_eq_false (by omega)))) <| sg 14 kj <| Qaa (.int .i64 (((2*m:Nat):Int))) 60 rfl kj (Qag (u:=.int .i64 (IntKind.i64.wrap (2*(nth (nt.n.ms) (k))))) kj (congrArg (Value.int .i64) (by rw [hm]; exact ((IntWalk.i64_in _ (by omega)).trans (by omega))))) ?_
   refine Qaa (.pointer (some ⟨gzT,ozT+(2*m)*99,none⟩)) 61 rfl kj (Qan 23 _ _ .i64 (2*m) gzT ozT ts.length c_t 50 99 a_t (haz (by omega)) rfl kj kj kj kj (by omega)) <| sg 1 kj <| Qaa (.bool true) 63 rfl kj (Qai 4 _ _ (.bool true) ((NdAt.at3 hnz).1.trans (congrArg (fun z=>some (Value.bool z)) hzu)) rfl kj kj) <| sg 5 kj <| Qaa (.int .i64 (2*((m:Nat):Int))) 69 rfl kj (Qag (u:=.int .i64 (IntKind.i64.wrap (2*(nth (nt.n.ms) (k))))) kj (congrArg (Value.int .i64) (by rw [hm]; exact IntWalk.i64_in _ (by omega)))) ?_
   refine sg 1 kj <| Qak (.bool true) 42 #[.int .i64 ((x:Nat):Int),.int .i64 (2*((m:Nat):Int)),.int .i64 ((L:Nat):Int)] 71 rfl kj kj (QbA _ _ _ true habz _) fun W4 e4=>?_
   have x4:=Ext.tr xx1 e4
   refine sg 2 kj <| sgN hK15 <| cond_false kj <| wp_skip <| hK14 _ _ <| sgB kj <| wp_block <| Qay (fun (s2:Nat)=>[(0,.slice a_t ts.length c_t),(1,.int .i64 ((x:Nat):Int)),(2,.int .i64 ((L:Nat):Int)),(7,.pointer (some ⟨g3,0,none⟩)),(8,.int .i64 ((k:Nat):Int)),(9,.int .i64 (nth (nt.n.ms) (k))),(10,.int .i64 ((2*s2+1:Nat):Int))]) (fun (s2:Nat) W=>(s2≤100000)∧(∀ j2,j2<s2→((2*j2+1:Nat):Int)≠((x:Nat):Int)→(ndi ts (2*j2+1)).n.us=true→abv ((x:Nat):Int) ((2*j2+1:Nat):Int) ((L:Nat):Int)=true→abv ((2*j2+1:Nat):Int) (2*((m:Nat):Int)) ((L:Nat):Int)=true→((m:Nat):Int)∈(ndi ts (2*j2+1)).n.ms)∧(Ext W4 W)∧(Ext w W)) (fun (s2:Nat)=>ts.length-s2) 0 ⟨kj,kj,kj,kj,kj,kj,kj,trivial⟩ ⟨(Nat.zero_le _),(fun j2 hj=>absurd hj (Nat.not_lt_zero j2)),(Rely.Ext.refl W4),x4⟩ fun s2 X2 V2 hI2=>?_
   obtain ⟨j,hs2⟩:∃ z,z=s2:=⟨_,rfl⟩
   subst hs2
   obtain ⟨hj,hys,kk2,xx2⟩:=hI2
   replace hj:j≤100000:=hj
   replace hys:∀ j2,j2<j→((2*j2+1:Nat):Int)≠((x:Nat):Int)→(ndi ts (2*j2+1)).n.us=true→abv ((x:Nat):Int) ((2*j2+1:Nat):Int) ((L:Nat):Int)=true→abv ((2*j2+1:Nat):Int) (2*((m:Nat):Int)) ((L:Nat):Int)=true→((m:Nat):Int)∈(ndi ts (2*j2+1)).n.ms:=hys
   replace kk2:Ext W4 V2:=kk2
   replace xx2:Ext w V2:=xx2
   have e5:=kk2
   refine wp_seq_k fun K24 hK24=>sgB kj <| Qaq (t:=decide (((2*j+1:Nat):Int)<((ts.length:Nat):Int))) kj (fun c26=>?_) (fun c26=>?_)
   ·skip
    have hy77:2*j+1<ts.length:=by have:=of_decide_eq_true c26; omega
    refine wp_skip <| hK24 _ _ <| wp_seq_k fun K27 hK27=>wp_block <| wp_seq_k fun K28 hK28=>?_
    obtain ⟨gyT,oyT,hay,hnys⟩:=TrAt.ext ht xx2
    have hny:=hnys (2*j+1) (by omega)
    obtain ⟨ny,eny⟩:∃ z,z=ndi ts (2*j+1):=⟨_,rfl⟩
    rw [←eny] at hny
    have oky:=hny.ok
    have rdy:=hny.rd
    have hyn:Qa4 ((2*j+1:Nat):Int) ((L:Nat):Int)=true:=QaK hTr (by omega)
    rcases (show (2*j+1=x)∨(2*j+1≠x∧ny.n.us=false)∨(2*j+1≠x∧ny.n.us=true∧abv ((x:Nat):Int) ((2*j+1:Nat):Int) ((L:Nat):Int)=false)∨(2*j+1≠x∧ny.n.us=true∧abv ((x:Nat):Int) ((2*j+1:Nat):Int) ((L:Nat):Int)=true∧abv ((2*j+1:Nat):Int) (2*((m:Nat):Int)) ((L:Nat):Int)=false)∨(2*j+1≠x∧ny.n.us=true∧abv ((x:Nat):Int) ((2*j+1:Nat):Int) ((L:Nat):Int)=true∧abv ((2*j+1:Nat):Int) (2*((m:Nat):Int)) ((L:Nat):Int)=true∧nth nt.n.ms k∈ny.n.ms)∨(2*j+1≠x∧ny.n.us=true∧abv ((x:Nat):Int) ((2*j+1:Nat):Int) ((L:Nat):Int)=true∧abv ((2*j+1:Nat):Int) (2*((m:Nat):Int)) ((L:Nat):Int)=true∧nth nt.n.ms k∉ny.n.ms) from QjO _ _ _ _ _) with hq | hq | hq | hq | hq | hq
    ·skip
     have hyk:((2*j+1:Nat):Int)≠((x:Nat):Int)→(ndi ts (2*j+1)).n.us=true→abv ((x:Nat):Int) ((2*j+1:Nat):Int) ((L:Nat):Int)=true→abv ((2*j+1:Nat):Int) (2*((m:Nat):Int)) ((L:Nat):Int)=true→((m:Nat):Int)∈(ndi ts (2*j+1)).n.ms:=fun h1 h2 h3 h4=>absurd (by omega) h1
     refine Qad <| sg 2 kj <| Qaa (.bool false) 82 rfl kj (Qag (u:=.bool ((((2*j+1:Nat):Int) != ((x:Nat):Int)))) kj (congrArg Value.bool (bne_eq_false_iff_eq.2 (by omega)))) <| sg 30 kj <| sgN hK28 <| cond_false kj <| wp_skip <| hK27 _ _ <| Qad <| sg 1 kj ?_
     refine Qaa (.int .i64 (((2*(j+1)+1:Nat):Int))) 79 rfl kj (Qag (u:=.int .i64 (IntKind.i64.wrap (((2*j+1:Nat):Int)+2))) kj (congrArg (Value.int .i64) ((IntWalk.i64_in _ (by omega)).trans (by omega)))) <| sg 1 kj <| Qaj ?_
     repeat (first | with_reducible refine goX1 ?_ | with_reducible refine goX2 ?_ | with_reducible refine goX3 ?_)
     exact Qap (j+1) ⟨kj,kj,kj,kj,kj,kj,kj,trivial⟩ ⟨(by omega),(fun j2 hj=>by by_cases e:j2=j; (rw [e]; exact hyk); exact hys j2 (by omega)),e5,xx2⟩ (by show ts.length-(j+1)<ts.length-j; omega)
    ·skip
     have hyk:((2*j+1:Nat):Int)≠((x:Nat):Int)→(ndi ts (2*j+1)).n.us=true→abv ((x:Nat):Int) ((2*j+1:Nat):Int) ((L:Nat):Int)=true→abv ((2*j+1:Nat):Int) (2*((m:Nat):Int)) ((L:Nat):Int)=true→((m:Nat):Int)∈(ndi ts (2*j+1)).n.ms:=fun h1 h2 h3 h4=>by rw [←eny,hq.2] at h2; cases h2
     refine Qad <| sg 2 kj <| Qaa (.bool true) 82 rfl kj (Qag (u:=.bool ((((2*j+1:Nat):Int) != ((x:Nat):Int)))) kj (congrArg Value.bool (bne_iff_ne.2 (by omega)))) <| sg 3 kj <| Qaa (.pointer (some ⟨gyT,oyT+(2*j+1)*99,none⟩)) 86 rfl kj (Qan 23 _ _ .i64 (2*j+1) gyT oyT ts.length c_t 50 99 a_t (hay (by omega)) rfl kj kj kj kj (by omega)) <| sg 1 kj <| Qaa (.bool false) 88 rfl kj (Qai 4 _ _ (.bool false) ((NdAt.at3 hny).1.trans (congrArg (fun z=>some (Value.bool z)) hq.2)) rfl kj kj) <| sg 24 kj <| sgN hK28 <| cond_false kj ?_
     refine wp_skip <| hK27 _ _ <| Qad <| sg 1 kj <| Qaa (.int .i64 (((2*(j+1)+1:Nat):Int))) 79 rfl kj (Qag (u:=.int .i64 (IntKind.i64.wrap (((2*j+1:Nat):Int)+2))) kj (congrArg (Value.int .i64) ((IntWalk.i64_in _ (by omega)).trans (by omega)))) <| sg 1 kj <| Qaj ?_
     repeat (first | with_reducible refine goX1 ?_ | with_reducible refine goX2 ?_ | with_reducible refine goX3 ?_)
     exact Qap (j+1) ⟨kj,kj,kj,kj,kj,kj,kj,trivial⟩ ⟨(by omega),(fun j2 hj=>by by_cases e:j2=j; (rw [e]; exact hyk); exact hys j2 (by omega)),e5,xx2⟩ (by show ts.length-(j+1)<ts.length-j; omega)
    ·skip
     have hyk:((2*j+1:Nat):Int)≠((x:Nat):Int)→(ndi ts (2*j+1)).n.us=true→abv ((x:Nat):Int) ((2*j+1:Nat):Int) ((L:Nat):Int)=true→abv ((2*j+1:Nat):Int) (2*((m:Nat):Int)) ((L:Nat):Int)=true→((m:Nat):Int)∈(ndi ts (2*j+1)).n.ms:=fun h1 h2 h3 h4=>by rw [hq.2.2] at h3; cases h3
     refine Qad <| sg 2 kj <| Qaa (.bool true) 82 rfl kj (Qag (u:=.bool ((((2*j+1:Nat):Int) != ((x:Nat):Int)))) kj (congrArg Value.bool (bne_iff_ne.2 (by omega)))) <| sg 3 kj <| Qaa (.pointer (some ⟨gyT,oyT+(2*j+1)*99,none⟩)) 86 rfl kj (Qan 23 _ _ .i64 (2*j+1) gyT oyT ts.length c_t 50 99 a_t (hay (by omega)) rfl kj kj kj kj (by omega)) <| sg 1 kj <| Qaa (.bool true) 88 rfl kj (Qai 4 _ _ (.bool true) ((NdAt.at3 hny).1.trans (congrArg (fun z=>some (Value.bool z)) hq.2.1)) rfl kj kj) <| sg 5 kj <| Qak (.bool false) 42 #[.int .i64 ((x:Nat):Int),.int .i64 ((2*j+1:Nat):Int),.int .i64 ((L:Nat):Int)] 94 rfl kj kj (QbA _ _ _ false hq.2.2 _) fun W6 e6=>?_
     have x6:=Ext.tr xx2 e6
     refine sg 18 kj <| sgN hK28 <| cond_false kj <| wp_skip <| hK27 _ _ <| Qad <| sg 1 kj <| Qaa (.int .i64 (((2*(j+1)+1:Nat):Int))) 79 rfl kj (Qag (u:=.int .i64 (IntKind.i64.wrap (((2*j+1:Nat):Int)+2))) kj (congrArg (Value.int .i64) ((IntWalk.i64_in _ (by omega)).trans (by omega)))) <| sg 1 kj <| Qaj ?_
     have y4_6:=(Rely.Ext.trans e5 e6)
     repeat (first | with_reducible refine goX1 ?_ | with_reducible refine goX2 ?_ | with_reducible refine goX3 ?_)
     exact Qap (j+1) ⟨kj,kj,kj,kj,kj,kj,kj,trivial⟩ ⟨(by omega),(fun j2 hj=>by by_cases e:j2=j; (rw [e]; exact hyk); exact hys j2 (by omega)),y4_6,x6⟩ (by show ts.length-(j+1)<ts.length-j; omega)
    ·skip
     have hyk:((2*j+1:Nat):Int)≠((x:Nat):Int)→(ndi ts (2*j+1)).n.us=true→abv ((x:Nat):Int) ((2*j+1:Nat):Int) ((L:Nat):Int)=true→abv ((2*j+1:Nat):Int) (2*((m:Nat):Int)) ((L:Nat):Int)=true→((m:Nat):Int)∈(ndi ts (2*j+1)).n.ms:=fun h1 h2 h3 h4=>by rw [hq.2.2.2] at h4; cases h4
     refine Qad <| sg 2 kj <| Qaa (.bool true) 82 rfl kj (Qag (u:=.bool ((((2*j+1:Nat):Int) != ((x:Nat):Int)))) kj (congrArg Value.bool (bne_iff_ne.2 (by omega)))) <| sg 3 kj <| Qaa (.pointer (some ⟨gyT,oyT+(2*j+1)*99,none⟩)) 86 rfl kj (Qan 23 _ _ .i64 (2*j+1) gyT oyT ts.length c_t 50 99 a_t (hay (by omega)) rfl kj kj kj kj (by omega)) <| sg 1 kj <| Qaa (.bool true) 88 rfl kj (Qai 4 _ _ (.bool true) ((NdAt.at3 hny).1.trans (congrArg (fun z=>some (Value.bool z)) hq.2.1)) rfl kj kj) <| sg 5 kj <| Qak (.bool true) 42 #[.int .i64 ((x:Nat):Int),.int .i64 ((2*j+1:Nat):Int),.int .i64 ((L:Nat):Int)] 94 rfl kj kj (QbA _ _ _ true hq.2.2.1 _) fun W6 e6=>?_
     have x6:=Ext.tr xx2 e6
     refine sg 4 kj <| Qaa (.int .i64 (2*((m:Nat):Int))) 99 rfl kj (Qag (u:=.int .i64 (IntKind.i64.wrap (2*(nth (nt.n.ms) (k))))) kj (congrArg (Value.int .i64) (by rw [hm]; exact IntWalk.i64_in _ (by omega)))) ?_
     refine sg 1 kj <| Qak (.bool false) 42 #[.int .i64 ((2*j+1:Nat):Int),.int .i64 (2*((m:Nat):Int)),.int .i64 ((L:Nat):Int)] 101 rfl kj kj (QbA _ _ _ false hq.2.2.2 _) fun W7 e7=>?_
     have x7:=Ext.tr x6 e7
     refine sg 11 kj <| sgN hK28 <| cond_false kj <| wp_skip <| hK27 _ _ <| Qad <| sg 1 kj <| Qaa (.int .i64 (((2*(j+1)+1:Nat):Int))) 79 rfl kj (Qag (u:=.int .i64 (IntKind.i64.wrap (((2*j+1:Nat):Int)+2))) kj (congrArg (Value.int .i64) ((IntWalk.i64_in _ (by omega)).trans (by omega)))) <| sg 1 kj <| Qaj ?_
     have y4_6:=(Rely.Ext.trans e5 e6)
     have y4_7:=(Rely.Ext.trans y4_6 e7)
     repeat (first | with_reducible refine goX1 ?_ | with_reducible refine goX2 ?_ | with_reducible refine goX3 ?_)
     exact Qap (j+1) ⟨kj,kj,kj,kj,kj,kj,kj,trivial⟩ ⟨(by omega),(fun j2 hj=>by by_cases e:j2=j; (rw [e]; exact hyk); exact hys j2 (by omega)),y4_7,x7⟩ (by show ts.length-(j+1)<ts.length-j; omega)
    ·skip
     have hyk:((2*j+1:Nat):Int)≠((x:Nat):Int)→(ndi ts (2*j+1)).n.us=true→abv ((x:Nat):Int) ((2*j+1:Nat):Int) ((L:Nat):Int)=true→abv ((2*j+1:Nat):Int) (2*((m:Nat):Int)) ((L:Nat):Int)=true→((m:Nat):Int)∈(ndi ts (2*j+1)).n.ms:=fun h1 h2 h3 h4=>by rw [←hm,←eny]; exact hq.2.2.2.2
     refine Qad <| sg 2 kj <| Qaa (.bool true) 82 rfl kj (Qag (u:=.bool ((((2*j+1:Nat):Int) != ((x:Nat):Int)))) kj (congrArg Value.bool (bne_iff_ne.2 (by omega)))) <| sg 3 kj <| Qaa (.pointer (some ⟨gyT,oyT+(2*j+1)*99,none⟩)) 86 rfl kj (Qan 23 _ _ .i64 (2*j+1) gyT oyT ts.length c_t 50 99 a_t (hay (by omega)) rfl kj kj kj kj (by omega)) <| sg 1 kj <| Qaa (.bool true) 88 rfl kj (Qai 4 _ _ (.bool true) ((NdAt.at3 hny).1.trans (congrArg (fun z=>some (Value.bool z)) hq.2.1)) rfl kj kj) <| sg 5 kj <| Qak (.bool true) 42 #[.int .i64 ((x:Nat):Int),.int .i64 ((2*j+1:Nat):Int),.int .i64 ((L:Nat):Int)] 94 rfl kj kj (QbA _ _ _ true hq.2.2.1 _) fun W6 e6=>?_
     have x6:=Ext.tr xx2 e6
     refine sg 4 kj <| Qaa (.int .i64 (2*((m:Nat):Int))) 99 rfl kj (Qag (u:=.int .i64 (IntKind.i64.wrap (2*(nth (nt.n.ms) (k))))) kj (congrArg (Value.int .i64) (by rw [hm]; exact IntWalk.i64_in _ (by omega)))) ?_
     refine sg 1 kj <| Qak (.bool true) 42 #[.int .i64 ((2*j+1:Nat):Int),.int .i64 (2*((m:Nat):Int)),.int .i64 ((L:Nat):Int)] 101 rfl kj kj (QbA _ _ _ true hq.2.2.2.1 _) fun W7 e7=>?_
     have x7:=Ext.tr x6 e7
     refine sg 5 kj <| Qaa (.pointer (some ⟨gyT,oyT+(2*j+1)*99,none⟩)) 107 rfl kj (Qan 23 _ _ .i64 (2*j+1) gyT oyT ts.length c_t 50 99 a_t (hay (by omega)) rfl kj kj kj kj (by omega)) <| sg 1 kj ?_
     have y5_6:=(Rely.Ext.trans (Rely.Ext.refl V2) e6)
     have y5_7:=(Rely.Ext.trans y5_6 e7)
     refine Qaa (.slice ny.a ny.n.ms.length ny.c) 109 rfl kj (Qai 24 _ _ (.slice ny.a ny.n.ms.length ny.c) (NdAt.at3 (NdAt.ext hny y5_7)).2.2 rfl kj kj) <| Qak (.bool true) 41 #[.int .i64 (nth (nt.n.ms) (k)),.slice ny.a ny.n.ms.length ny.c] 110 rfl kj kj (inRb ny.n.ms (nth nt.n.ms k) ny.a ny.c _ _ (eny▸hmt _ (by omega)) (RdK.here (RdK.ext rdy y5_7)) true (decide_eq_true hq.2.2.2.2)) fun W8 e8=>?_
     have x8:=Ext.tr x7 e8
     refine sg 2 kj <| sgN hK28 <| cond_false kj <| wp_skip <| hK27 _ _ <| Qad <| sg 1 kj <| Qaa (.int .i64 (((2*(j+1)+1:Nat):Int))) 79 rfl kj (Qag (u:=.int .i64 (IntKind.i64.wrap (((2*j+1:Nat):Int)+2))) kj (congrArg (Value.int .i64) ((IntWalk.i64_in _ (by omega)).trans (by omega)))) <| sg 1 kj <| Qaj ?_
     have y4_6:=(Rely.Ext.trans e5 e6)
     have y4_7:=(Rely.Ext.trans y4_6 e7)
     have y4_8:=(Rely.Ext.trans y4_7 e8)
     repeat (first | with_reducible refine goX1 ?_ | with_reducible refine goX2 ?_ | with_reducible refine goX3 ?_)
     exact Qap (j+1) ⟨kj,kj,kj,kj,kj,kj,kj,trivial⟩ ⟨(by omega),(fun j2 hj=>by by_cases e:j2=j; (rw [e]; exact hyk); exact hys j2 (by omega)),y4_8,x8⟩ (by show ts.length-(j+1)<ts.length-j; omega)
    ·skip
     have hb:msOk ts ((L:Nat):Int) ((x:Nat):Int) nt.n.ms k=false:=by
      unfold msOk
      rw [hm,QeX (y:=2*j+1) hxn (by omega) (by omega) hQ.2.2 hyn (by omega) (by omega) hq.2.2.1 hq.2.2.2.1 (eny▸hq.2.1) (by rw [←hm,←eny]; exact hq.2.2.2.2),Bool.and_false]
     refine Qad <| sg 2 kj <| Qaa (.bool true) 82 rfl kj (Qag (u:=.bool ((((2*j+1:Nat):Int) != ((x:Nat):Int)))) kj (congrArg Value.bool (bne_iff_ne.2 (by omega)))) <| sg 3 kj <| Qaa (.pointer (some ⟨gyT,oyT+(2*j+1)*99,none⟩)) 86 rfl kj (Qan 23 _ _ .i64 (2*j+1) gyT oyT ts.length c_t 50 99 a_t (hay (by omega)) rfl kj kj kj kj (by omega)) <| sg 1 kj <| Qaa (.bool true) 88 rfl kj (Qai 4 _ _ (.bool true) ((NdAt.at3 hny).1.trans (congrArg (fun z=>some (Value.bool z)) hq.2.1)) rfl kj kj) <| sg 5 kj <| Qak (.bool true) 42 #[.int .i64 ((x:Nat):Int),.int .i64 ((2*j+1:Nat):Int),.int .i64 ((L:Nat):Int)] 94 rfl kj kj (QbA _ _ _ true hq.2.2.1 _) fun W6 e6=>?_
     have x6:=Ext.tr xx2 e6
     refine sg 4 kj <| Qaa (.int .i64 (2*((m:Nat):Int))) 99 rfl kj (Qag (u:=.int .i64 (IntKind.i64.wrap (2*(nth (nt.n.ms) (k))))) kj (congrArg (Value.int .i64) (by rw [hm]; exact IntWalk.i64_in _ (by omega)))) ?_
     refine sg 1 kj <| Qak (.bool true) 42 #[.int .i64 ((2*j+1:Nat):Int),.int .i64 (2*((m:Nat):Int)),.int .i64 ((L:Nat):Int)] 101 rfl kj kj (QbA _ _ _ true hq.2.2.2.1 _) fun W7 e7=>?_
     have x7:=Ext.tr x6 e7
     refine sg 5 kj <| Qaa (.pointer (some ⟨gyT,oyT+(2*j+1)*99,none⟩)) 107 rfl kj (Qan 23 _ _ .i64 (2*j+1) gyT oyT ts.length c_t 50 99 a_t (hay (by omega)) rfl kj kj kj kj (by omega)) <| sg 1 kj ?_
     have y5_6:=(Rely.Ext.trans (Rely.Ext.refl V2) e6)
     have y5_7:=(Rely.Ext.trans y5_6 e7)
     refine Qaa (.slice ny.a ny.n.ms.length ny.c) 109 rfl kj (Qai 24 _ _ (.slice ny.a ny.n.ms.length ny.c) (NdAt.at3 (NdAt.ext hny y5_7)).2.2 rfl kj kj) <| Qak (.bool false) 41 #[.int .i64 (nth (nt.n.ms) (k)),.slice ny.a ny.n.ms.length ny.c] 110 rfl kj kj (inRb ny.n.ms (nth nt.n.ms k) ny.a ny.c _ _ (eny▸hmt _ (by omega)) (RdK.here (RdK.ext rdy y5_7)) false (decide_eq_false hq.2.2.2.2)) fun W8 e8=>?_
     have x8:=Ext.tr x7 e8
     refine sg 2 kj <| sgN hK28 <| cond_true kj <| sgB kj <| wp_ret ?_
     repeat (first | with_reducible refine goR1 ?_ | with_reducible refine goR2 ?_)
     exact (show bodyPost _ _ _ .ret _ _ from ret1 (.bool false) rfl (Qar kj) ⟨congrArg (fun z=>Ending.returned (.bool z)) ((Qbu h h1 h2).trans (QcU (k:=k) (by rw [←ent]; exact hlt28) (by rw [←ent]; exact hb))).symm,x8⟩)
   ·skip
    have hy77:¬ 2*j+1<ts.length:=by have:=of_decide_eq_false c26; omega
    refine wp_exit <| hK12 _ _ <| Qad <| sg 1 kj <| Qaa (.int .i64 ((k+1:Nat):Int)) 30 rfl kj (Qag (u:=.int .i64 (IntKind.i64.wrap (((k:Nat):Int)+1))) kj (congrArg (Value.int .i64) (i64n _ _ (by omega) (by omega)))) <| sg 1 kj <| Qaj ?_
    have hb:msOk ts ((L:Nat):Int) ((x:Nat):Int) nt.n.ms k=true:=hb0.trans (Qea hxn (by omega) (by omega) hQ.2.2 (by rw [←enz]; exact hzu) (fun y hy hyo=>by obtain ⟨j2,rfl⟩:∃ j2,y=2*j2+1:=⟨y/2,by omega⟩; exact hys j2 (by omega)))
    have y2_4:=(Rely.Ext.trans e3 e4)
    have y2_5:=(Rely.Ext.trans y2_4 e5)
    repeat (first | with_reducible refine goX1 ?_ | with_reducible refine goX2 ?_ | with_reducible refine goX3 ?_)
    exact Qap (k+1) ⟨kj,kj,kj,kj,kj,trivial⟩ ⟨(by omega),(fun j2 hj=>by by_cases e:j2=k; (rw [e]; exact hb); exact hall j2 (by omega)),y2_5,xx2⟩ (by show nt.n.ms.length-(k+1)<nt.n.ms.length-k; omega)
  ·skip
   obtain ⟨m,hm⟩:∃ m:Nat,nth nt.n.ms k=((m:Nat):Int):=⟨(nth nt.n.ms k).toNat,by omega⟩
   have hml2:m<L:=by omega
   have hb0:msOk ts ((L:Nat):Int) ((x:Nat):Int) nt.n.ms k=Qbq ts ((L:Nat):Int) ((x:Nat):Int) ((m:Nat):Int):=by unfold msOk; rw [decide_eq_true hQ.1.2,hm,Bool.or_true,Bool.true_and]
   obtain ⟨gzT,ozT,haz,hnzs⟩:=TrAt.ext ht xx1
   have hnz:=hnzs (2*m) (by omega)
   obtain ⟨nz,enz⟩:∃ z,z=ndi ts (2*m):=⟨_,rfl⟩
   rw [←enz] at hnz
   have okz:=hnz.ok
   have rdz:=hnz.rd
   have hzu:nz.n.us=true:=by rw [enz]; have h9:=hQ.2.1; rw [hm] at h9; exact h9
   have habz:abv ((x:Nat):Int) (2*((m:Nat):Int)) ((L:Nat):Int)=true:=by have h9:=hQ.2.2; rw [hm] at h9; exact h9
   have hQ1:=hQ.1
   replace hQ:True∧True∧abv ((x:Nat):Int) (2*((m:Nat):Int)) ((L:Nat):Int)=true:=⟨trivial,trivial,habz⟩
   refine Qad <| sg 1 kj <| Qaa (.bool false) 37 rfl kj (Qag (u:=.bool (decide ((nth (nt.n.ms) (k))<0))) kj (congrArg Value.bool (decide_eq_false (by omega)))) <| sg 3 kj <| Qaa (.bool false) 41 rfl kj (Qag (u:=.bool (decide ((nth (nt.n.ms) (k))≥((L:Nat):Int)))) kj (congrArg Value.bool (decide_eq_false (by omega)))) <| sg 3 kj <| Qaa (.bool true) 45 rfl kj (Qag (u:=.bool (decide (((k:Nat):Int)>0))) kj (congrArg Value.bool (decide_eq_true (by omega)))) <| sg 3 kj <| Qaa (.slice nt.a nt.n.ms.length nt.c) 49 rfl kj (Qaf 24 _ g3 98 50 _ (.slice nt.a nt.n.ms.length nt.c) _ r3_3 rfl kj (Qah [#[.bool nt.n.us],#[.int .i64 nt.n.nm],ints .u8 (nt.n.key),ints .u8 (nt.n.sg),ints .u8 (nt.n.pa)] [#[.slice nt.a nt.n.ms.length nt.c]] [] 98 (by rw [Qab,Qab,Qab,Qab,Qab]; simp only [qS,cat,((Qac _ _).trans okt.gl),((Qac _ _).trans okt.kl),((Qac _ _).trans okt.pl)]; rfl) 0 _ rfl) kj) ?_
   refine sg 1 kj <| Qaa (.int .i64 ((k-1:Nat):Int)) 51 rfl kj (Qag (u:=.int .i64 (IntKind.i64.wrap (((k:Nat):Int)-1))) kj (congrArg (Value.int .i64) (i64n _ _ (by omega) (by omega)))) <| Qaa (.pointer (some ⟨gcx_11,ocx_11+(k-1),none⟩)) 52 rfl kj (Qa1 24 _ _ .i64 (k-1) gcx_11 ocx_11 nt.n.ms.length nt.c 3 nt.a _ hax_11 rfl rfl kj kj kj kj (Nat.lt_of_lt_of_eq (show k-1<nt.n.ms.length by omega) hnx_11.symm)) <| Qaa (.int .i64 (nth (nt.n.ms) ((k-1)))) 53 rfl kj (Qai 3 _ _ (.int .i64 (nth (nt.n.ms) ((k-1)))) (hcx_11 (k-1) (Nat.lt_of_lt_of_eq (show k-1<nt.n.ms.length by omega) hnx_11.symm)) rfl kj kj) <| Qaa (.bool false) 54 rfl kj (Qag (u:=.bool (decide ((nth (nt.n.ms) (k))≤(nth (nt.n.ms) ((k-1)))))) kj (congrArg Value.bool (decide_eq_false (by omega)))) <| sg 5 kj <| Qaa (.int .i64 (((2*m:Nat):Int))) 60 rfl kj (Qag (u:=.int .i64 (IntKind.i64.wrap (2*(nth (nt.n.ms) (k))))) kj (congrArg (Value.int .i64) (by rw [hm]; exact ((IntWalk.i64_in _ (by omega)).trans (by omega))))) ?_
   refine Qaa (.pointer (some ⟨gzT,ozT+(2*m)*99,none⟩)) 61 rfl kj (Qan 23 _ _ .i64 (2*m) gzT ozT ts.length c_t 50 99 a_t (haz (by omega)) rfl kj kj kj kj (by omega)) <| sg 1 kj <| Qaa (.bool true) 63 rfl kj (Qai 4 _ _ (.bool true) ((NdAt.at3 hnz).1.trans (congrArg (fun z=>some (Value.bool z)) hzu)) rfl kj kj) <| sg 5 kj <| Qaa (.int .i64 (2*((m:Nat):Int))) 69 rfl kj (Qag (u:=.int .i64 (IntKind.i64.wrap (2*(nth (nt.n.ms) (k))))) kj (congrArg (Value.int .i64) (by rw [hm]; exact IntWalk.i64_in _ (by omega)))) ?_
   refine sg 1 kj <| Qak (.bool true) 42 #[.int .i64 ((x:Nat):Int),.int .i64 (2*((m:Nat):Int)),.int .i64 ((L:Nat):Int)] 71 rfl kj kj (QbA _ _ _ true habz _) fun W4 e4=>?_
   have x4:=Ext.tr xx1 e4
   refine sg 2 kj <| sgN hK15 <| cond_false kj <| wp_skip <| hK14 _ _ <| sgB kj <| wp_block <| Qay (fun (s3:Nat)=>[(0,.slice a_t ts.length c_t),(1,.int .i64 ((x:Nat):Int)),(2,.int .i64 ((L:Nat):Int)),(7,.pointer (some ⟨g3,0,none⟩)),(8,.int .i64 ((k:Nat):Int)),(9,.int .i64 (nth (nt.n.ms) (k))),(10,.int .i64 ((2*s3+1:Nat):Int))]) (fun (s3:Nat) W=>(s3≤100000)∧(∀ j2,j2<s3→((2*j2+1:Nat):Int)≠((x:Nat):Int)→(ndi ts (2*j2+1)).n.us=true→abv ((x:Nat):Int) ((2*j2+1:Nat):Int) ((L:Nat):Int)=true→abv ((2*j2+1:Nat):Int) (2*((m:Nat):Int)) ((L:Nat):Int)=true→((m:Nat):Int)∈(ndi ts (2*j2+1)).n.ms)∧(Ext W4 W)∧(Ext w W)) (fun (s3:Nat)=>ts.length-s3) 0 ⟨kj,kj,kj,kj,kj,kj,kj,trivial⟩ ⟨(Nat.zero_le _),(fun j2 hj=>absurd hj (Nat.not_lt_zero j2)),(Rely.Ext.refl W4),x4⟩ fun s3 X3 V3 hI3=>?_
   obtain ⟨j,hs3⟩:∃ z,z=s3:=⟨_,rfl⟩
   subst hs3
   obtain ⟨hj,hys,kk3,xx3⟩:=hI3
   replace hj:j≤100000:=hj
   replace hys:∀ j2,j2<j→((2*j2+1:Nat):Int)≠((x:Nat):Int)→(ndi ts (2*j2+1)).n.us=true→abv ((x:Nat):Int) ((2*j2+1:Nat):Int) ((L:Nat):Int)=true→abv ((2*j2+1:Nat):Int) (2*((m:Nat):Int)) ((L:Nat):Int)=true→((m:Nat):Int)∈(ndi ts (2*j2+1)).n.ms:=hys
   replace kk3:Ext W4 V3:=kk3
   replace xx3:Ext w V3:=xx3
   have e5:=kk3
   refine wp_seq_k fun K31 hK31=>sgB kj <| Qaq (t:=decide (((2*j+1:Nat):Int)<((ts.length:Nat):Int))) kj (fun c33=>?_) (fun c33=>?_)
   ·skip
    have hy77:2*j+1<ts.length:=by have:=of_decide_eq_true c33; omega
    refine wp_skip <| hK31 _ _ <| wp_seq_k fun K34 hK34=>wp_block <| wp_seq_k fun K35 hK35=>?_
    obtain ⟨gyT,oyT,hay,hnys⟩:=TrAt.ext ht xx3
    have hny:=hnys (2*j+1) (by omega)
    obtain ⟨ny,eny⟩:∃ z,z=ndi ts (2*j+1):=⟨_,rfl⟩
    rw [←eny] at hny
    have oky:=hny.ok
    have rdy:=hny.rd
    have hyn:Qa4 ((2*j+1:Nat):Int) ((L:Nat):Int)=true:=QaK hTr (by omega)
    rcases (show (2*j+1=x)∨(2*j+1≠x∧ny.n.us=false)∨(2*j+1≠x∧ny.n.us=true∧abv ((x:Nat):Int) ((2*j+1:Nat):Int) ((L:Nat):Int)=false)∨(2*j+1≠x∧ny.n.us=true∧abv ((x:Nat):Int) ((2*j+1:Nat):Int) ((L:Nat):Int)=true∧abv ((2*j+1:Nat):Int) (2*((m:Nat):Int)) ((L:Nat):Int)=false)∨(2*j+1≠x∧ny.n.us=true∧abv ((x:Nat):Int) ((2*j+1:Nat):Int) ((L:Nat):Int)=true∧abv ((2*j+1:Nat):Int) (2*((m:Nat):Int)) ((L:Nat):Int)=true∧nth nt.n.ms k∈ny.n.ms)∨(2*j+1≠x∧ny.n.us=true∧abv ((x:Nat):Int) ((2*j+1:Nat):Int) ((L:Nat):Int)=true∧abv ((2*j+1:Nat):Int) (2*((m:Nat):Int)) ((L:Nat):Int)=true∧nth nt.n.ms k∉ny.n.ms) from QjO _ _ _ _ _) with hq | hq | hq | hq | hq | hq
    ·skip
     have hyk:((2*j+1:Nat):Int)≠((x:Nat):Int)→(ndi ts (2*j+1)).n.us=true→abv ((x:Nat):Int) ((2*j+1:Nat):Int) ((L:Nat):Int)=true→abv ((2*j+1:Nat):Int) (2*((m:Nat):Int)) ((L:Nat):Int)=true→((m:Nat):Int)∈(ndi ts (2*j+1)).n.ms:=fun h1 h2 h3 h4=>absurd (by omega) h1
     refine Qad <| sg 2 kj <| Qaa (.bool false) 82 rfl kj (Qag (u:=.bool ((((2*j+1:Nat):Int) != ((x:Nat):Int)))) kj (congrArg Value.bool (bne_eq_false_iff_eq.2 (by omega)))) <| sg 30 kj <| sgN hK35 <| cond_false kj <| wp_skip <| hK34 _ _ <| Qad <| sg 1 kj ?_
     refine Qaa (.int .i64 (((2*(j+1)+1:Nat):Int))) 79 rfl kj (Qag (u:=.int .i64 (IntKind.i64.wrap (((2*j+1:Nat):Int)+2))) kj (congrArg (Value.int .i64) ((IntWalk.i64_in _ (by omega)).trans (by omega)))) <| sg 1 kj <| Qaj ?_
     repeat (first | with_reducible refine goX1 ?_ | with_reducible refine goX2 ?_ | with_reducible refine goX3 ?_)
     exact Qap (j+1) ⟨kj,kj,kj,kj,kj,kj,kj,trivial⟩ ⟨(by omega),(fun j2 hj=>by by_cases e:j2=j; (rw [e]; exact hyk); exact hys j2 (by omega)),e5,xx3⟩ (by show ts.length-(j+1)<ts.length-j; omega)
    ·skip
     have hyk:((2*j+1:Nat):Int)≠((x:Nat):Int)→(ndi ts (2*j+1)).n.us=true→abv ((x:Nat):Int) ((2*j+1:Nat):Int) ((L:Nat):Int)=true→abv ((2*j+1:Nat):Int) (2*((m:Nat):Int)) ((L:Nat):Int)=true→((m:Nat):Int)∈(ndi ts (2*j+1)).n.ms:=fun h1 h2 h3 h4=>by rw [←eny,hq.2] at h2; cases h2
     refine Qad <| sg 2 kj <| Qaa (.bool true) 82 rfl kj (Qag (u:=.bool ((((2*j+1:Nat):Int) != ((x:Nat):Int)))) kj (congrArg Value.bool (bne_iff_ne.2 (by omega)))) <| sg 3 kj <| Qaa (.pointer (some ⟨gyT,oyT+(2*j+1)*99,none⟩)) 86 rfl kj (Qan 23 _ _ .i64 (2*j+1) gyT oyT ts.length c_t 50 99 a_t (hay (by omega)) rfl kj kj kj kj (by omega)) <| sg 1 kj <| Qaa (.bool false) 88 rfl kj (Qai 4 _ _ (.bool false) ((NdAt.at3 hny).1.trans (congrArg (fun z=>some (Value.bool z)) hq.2)) rfl kj kj) <| sg 24 kj <| sgN hK35 <| cond_false kj ?_
     refine wp_skip <| hK34 _ _ <| Qad <| sg 1 kj <| Qaa (.int .i64 (((2*(j+1)+1:Nat):Int))) 79 rfl kj (Qag (u:=.int .i64 (IntKind.i64.wrap (((2*j+1:Nat):Int)+2))) kj (congrArg (Value.int .i64) ((IntWalk.i64_in _ (by omega)).trans (by omega)))) <| sg 1 kj <| Qaj ?_
     repeat (first | with_reducible refine goX1 ?_ | with_reducible refine goX2 ?_ | with_reducible refine goX3 ?_)
     exact Qap (j+1) ⟨kj,kj,kj,kj,kj,kj,kj,trivial⟩ ⟨(by omega),(fun j2 hj=>by by_cases e:j2=j; (rw [e]; exact hyk); exact hys j2 (by omega)),e5,xx3⟩ (by show ts.length-(j+1)<ts.length-j; omega)
    ·skip
     have hyk:((2*j+1:Nat):Int)≠((x:Nat):Int)→(ndi ts (2*j+1)).n.us=true→abv ((x:Nat):Int) ((2*j+1:Nat):Int) ((L:Nat):Int)=true→abv ((2*j+1:Nat):Int) (2*((m:Nat):Int)) ((L:Nat):Int)=true→((m:Nat):Int)∈(ndi ts (2*j+1)).n.ms:=fun h1 h2 h3 h4=>by rw [hq.2.2] at h3; cases h3
     refine Qad <| sg 2 kj <| Qaa (.bool true) 82 rfl kj (Qag (u:=.bool ((((2*j+1:Nat):Int) != ((x:Nat):Int)))) kj (congrArg Value.bool (bne_iff_ne.2 (by omega)))) <| sg 3 kj <| Qaa (.pointer (some ⟨gyT,oyT+(2*j+1)*99,none⟩)) 86 rfl kj (Qan 23 _ _ .i64 (2*j+1) gyT oyT ts.length c_t 50 99 a_t (hay (by omega)) rfl kj kj kj kj (by omega)) <| sg 1 kj <| Qaa (.bool true) 88 rfl kj (Qai 4 _ _ (.bool true) ((NdAt.at3 hny).1.trans (congrArg (fun z=>some (Value.bool z)) hq.2.1)) rfl kj kj) <| sg 5 kj <| Qak (.bool false) 42 #[.int .i64 ((x:Nat):Int),.int .i64 ((2*j+1:Nat):Int),.int .i64 ((L:Nat):Int)] 94 rfl kj kj (QbA _ _ _ false hq.2.2 _) fun W6 e6=>?_
     have x6:=Ext.tr xx3 e6
     refine sg 18 kj <| sgN hK35 <| cond_false kj <| wp_skip <| hK34 _ _ <| Qad <| sg 1 kj <| Qaa (.int .i64 (((2*(j+1)+1:Nat):Int))) 79 rfl kj (Qag (u:=.int .i64 (IntKind.i64.wrap (((2*j+1:Nat):Int)+2))) kj (congrArg (Value.int .i64) ((IntWalk.i64_in _ (by omega)).trans (by omega)))) <| sg 1 kj <| Qaj ?_
     have y4_6:=(Rely.Ext.trans e5 e6)
     repeat (first | with_reducible refine goX1 ?_ | with_reducible refine goX2 ?_ | with_reducible refine goX3 ?_)
     exact Qap (j+1) ⟨kj,kj,kj,kj,kj,kj,kj,trivial⟩ ⟨(by omega),(fun j2 hj=>by by_cases e:j2=j; (rw [e]; exact hyk); exact hys j2 (by omega)),y4_6,x6⟩ (by show ts.length-(j+1)<ts.length-j; omega)
    ·skip
     have hyk:((2*j+1:Nat):Int)≠((x:Nat):Int)→(ndi ts (2*j+1)).n.us=true→abv ((x:Nat):Int) ((2*j+1:Nat):Int) ((L:Nat):Int)=true→abv ((2*j+1:Nat):Int) (2*((m:Nat):Int)) ((L:Nat):Int)=true→((m:Nat):Int)∈(ndi ts (2*j+1)).n.ms:=fun h1 h2 h3 h4=>by rw [hq.2.2.2] at h4; cases h4
     refine Qad <| sg 2 kj <| Qaa (.bool true) 82 rfl kj (Qag (u:=.bool ((((2*j+1:Nat):Int) != ((x:Nat):Int)))) kj (congrArg Value.bool (bne_iff_ne.2 (by omega)))) <| sg 3 kj <| Qaa (.pointer (some ⟨gyT,oyT+(2*j+1)*99,none⟩)) 86 rfl kj (Qan 23 _ _ .i64 (2*j+1) gyT oyT ts.length c_t 50 99 a_t (hay (by omega)) rfl kj kj kj kj (by omega)) <| sg 1 kj <| Qaa (.bool true) 88 rfl kj (Qai 4 _ _ (.bool true) ((NdAt.at3 hny).1.trans (congrArg (fun z=>some (Value.bool z)) hq.2.1)) rfl kj kj) <| sg 5 kj <| Qak (.bool true) 42 #[.int .i64 ((x:Nat):Int),.int .i64 ((2*j+1:Nat):Int),.int .i64 ((L:Nat):Int)] 94 rfl kj kj (QbA _ _ _ true hq.2.2.1 _) fun W6 e6=>?_
     have x6:=Ext.tr xx3 e6
     refine sg 4 kj <| Qaa (.int .i64 (2*((m:Nat):Int))) 99 rfl kj (Qag (u:=.int .i64 (IntKind.i64.wrap (2*(nth (nt.n.ms) (k))))) kj (congrArg (Value.int .i64) (by rw [hm]; exact IntWalk.i64_in _ (by omega)))) ?_
     refine sg 1 kj <| Qak (.bool false) 42 #[.int .i64 ((2*j+1:Nat):Int),.int .i64 (2*((m:Nat):Int)),.int .i64 ((L:Nat):Int)] 101 rfl kj kj (QbA _ _ _ false hq.2.2.2 _) fun W7 e7=>?_
     have x7:=Ext.tr x6 e7
     refine sg 11 kj <| sgN hK35 <| cond_false kj <| wp_skip <| hK34 _ _ <| Qad <| sg 1 kj <| Qaa (.int .i64 (((2*(j+1)+1:Nat):Int))) 79 rfl kj (Qag (u:=.int .i64 (IntKind.i64.wrap (((2*j+1:Nat):Int)+2))) kj (congrArg (Value.int .i64) ((IntWalk.i64_in _ (by omega)).trans (by omega)))) <| sg 1 kj <| Qaj ?_
     have y4_6:=(Rely.Ext.trans e5 e6)
     have y4_7:=(Rely.Ext.trans y4_6 e7)
     repeat (first | with_reducible refine goX1 ?_ | with_reducible refine goX2 ?_ | with_reducible refine goX3 ?_)
     exact Qap (j+1) ⟨kj,kj,kj,kj,kj,kj,kj,trivial⟩ ⟨(by omega),(fun j2 hj=>by by_cases e:j2=j; (rw [e]; exact hyk); exact hys j2 (by omega)),y4_7,x7⟩ (by show ts.length-(j+1)<ts.length-j; omega)
    ·skip
     have hyk:((2*j+1:Nat):Int)≠((x:Nat):Int)→(ndi ts (2*j+1)).n.us=true→abv ((x:Nat):Int) ((2*j+1:Nat):Int) ((L:Nat):Int)=true→abv ((2*j+1:Nat):Int) (2*((m:Nat):Int)) ((L:Nat):Int)=true→((m:Nat):Int)∈(ndi ts (2*j+1)).n.ms:=fun h1 h2 h3 h4=>by rw [←hm,←eny]; exact hq.2.2.2.2
     refine Qad <| sg 2 kj <| Qaa (.bool true) 82 rfl kj (Qag (u:=.bool ((((2*j+1:Nat):Int) != ((x:Nat):Int)))) kj (congrArg Value.bool (bne_iff_ne.2 (by omega)))) <| sg 3 kj <| Qaa (.pointer (some ⟨gyT,oyT+(2*j+1)*99,none⟩)) 86 rfl kj (Qan 23 _ _ .i64 (2*j+1) gyT oyT ts.length c_t 50 99 a_t (hay (by omega)) rfl kj kj kj kj (by omega)) <| sg 1 kj <| Qaa (.bool true) 88 rfl kj (Qai 4 _ _ (.bool true) ((NdAt.at3 hny).1.trans (congrArg (fun z=>some (Value.bool z)) hq.2.1)) rfl kj kj) <| sg 5 kj <| Qak (.bool true) 42 #[.int .i64 ((x:Nat):Int),.int .i64 ((2*j+1:Nat):Int),.int .i64 ((L:Nat):Int)] 94 rfl kj kj (QbA _ _ _ true hq.2.2.1 _) fun W6 e6=>?_
     have x6:=Ext.tr xx3 e6
     refine sg 4 kj <| Qaa (.int .i64 (2*((m:Nat):Int))) 99 rfl kj (Qag (u:=.int .i64 (IntKind.i64.wrap (2*(nth (nt.n.ms) (k))))) kj (congrArg (Value.int .i64) (by rw [hm]; exact IntWalk.i64_in _ (by omega)))) ?_
     refine sg 1 kj <| Qak (.bool true) 42 #[.int .i64 ((2*j+1:Nat):Int),.int .i64 (2*((m:Nat):Int)),.int .i64 ((L:Nat):Int)] 101 rfl kj kj (QbA _ _ _ true hq.2.2.2.1 _) fun W7 e7=>?_
     have x7:=Ext.tr x6 e7
     refine sg 5 kj <| Qaa (.pointer (some ⟨gyT,oyT+(2*j+1)*99,none⟩)) 107 rfl kj (Qan 23 _ _ .i64 (2*j+1) gyT oyT ts.length c_t 50 99 a_t (hay (by omega)) rfl kj kj kj kj (by omega)) <| sg 1 kj ?_
     have y5_6:=(Rely.Ext.trans (Rely.Ext.refl V3) e6)
     have y5_7:=(Rely.Ext.trans y5_6 e7)
     refine Qaa (.slice ny.a ny.n.ms.length ny.c) 109 rfl kj (Qai 24 _ _ (.slice ny.a ny.n.ms.length ny.c) (NdAt.at3 (NdAt.ext hny y5_7)).2.2 rfl kj kj) <| Qak (.bool true) 41 #[.int .i64 (nth (nt.n.ms) (k)),.slice ny.a ny.n.ms.length ny.c] 110 rfl kj kj (inRb ny.n.ms (nth nt.n.ms k) ny.a ny.c _ _ (eny▸hmt _ (by omega)) (RdK.here (RdK.ext rdy y5_7)) true (decide_eq_true hq.2.2.2.2)) fun W8 e8=>?_
     have x8:=Ext.tr x7 e8
     refine sg 2 kj <| sgN hK35 <| cond_false kj <| wp_skip <| hK34 _ _ <| Qad <| sg 1 kj <| Qaa (.int .i64 (((2*(j+1)+1:Nat):Int))) 79 rfl kj (Qag (u:=.int .i64 (IntKind.i64.wrap (((2*j+1:Nat):Int)+2))) kj (congrArg (Value.int .i64) ((IntWalk.i64_in _ (by omega)).trans (by omega)))) <| sg 1 kj <| Qaj ?_
     have y4_6:=(Rely.Ext.trans e5 e6)
     have y4_7:=(Rely.Ext.trans y4_6 e7)
     have y4_8:=(Rely.Ext.trans y4_7 e8)
     repeat (first | with_reducible refine goX1 ?_ | with_reducible refine goX2 ?_ | with_reducible refine goX3 ?_)
     exact Qap (j+1) ⟨kj,kj,kj,kj,kj,kj,kj,trivial⟩ ⟨(by omega),(fun j2 hj=>by by_cases e:j2=j; (rw [e]; exact hyk); exact hys j2 (by omega)),y4_8,x8⟩ (by show ts.length-(j+1)<ts.length-j; omega)
    ·skip
     have hb:msOk ts ((L:Nat):Int) ((x:Nat):Int) nt.n.ms k=false:=by
      unfold msOk
      rw [hm,QeX (y:=2*j+1) hxn (by omega) (by omega) hQ.2.2 hyn (by omega) (by omega) hq.2.2.1 hq.2.2.2.1 (eny▸hq.2.1) (by rw [←hm,←eny]; exact hq.2.2.2.2),Bool.and_false]
     refine Qad <| sg 2 kj <| Qaa (.bool true) 82 rfl kj (Qag (u:=.bool ((((2*j+1:Nat):Int) != ((x:Nat):Int)))) kj (congrArg Value.bool (bne_iff_ne.2 (by omega)))) <| sg 3 kj <| Qaa (.pointer (some ⟨gyT,oyT+(2*j+1)*99,none⟩)) 86 rfl kj (Qan 23 _ _ .i64 (2*j+1) gyT oyT ts.length c_t 50 99 a_t (hay (by omega)) rfl kj kj kj kj (by omega)) <| sg 1 kj <| Qaa (.bool true) 88 rfl kj (Qai 4 _ _ (.bool true) ((NdAt.at3 hny).1.trans (congrArg (fun z=>some (Value.bool z)) hq.2.1)) rfl kj kj) <| sg 5 kj <| Qak (.bool true) 42 #[.int .i64 ((x:Nat):Int),.int .i64 ((2*j+1:Nat):Int),.int .i64 ((L:Nat):Int)] 94 rfl kj kj (QbA _ _ _ true hq.2.2.1 _) fun W6 e6=>?_
     have x6:=Ext.tr xx3 e6
     refine sg 4 kj <| Qaa (.int .i64 (2*((m:Nat):Int))) 99 rfl kj (Qag (u:=.int .i64 (IntKind.i64.wrap (2*(nth (nt.n.ms) (k))))) kj (congrArg (Value.int .i64) (by rw [hm]; exact IntWalk.i64_in _ (by omega)))) ?_
     refine sg 1 kj <| Qak (.bool true) 42 #[.int .i64 ((2*j+1:Nat):Int),.int .i64 (2*((m:Nat):Int)),.int .i64 ((L:Nat):Int)] 101 rfl kj kj (QbA _ _ _ true hq.2.2.2.1 _) fun W7 e7=>?_
     have x7:=Ext.tr x6 e7
     refine sg 5 kj <| Qaa (.pointer (some ⟨gyT,oyT+(2*j+1)*99,none⟩)) 107 rfl kj (Qan 23 _ _ .i64 (2*j+1) gyT oyT ts.length c_t 50 99 a_t (hay (by omega)) rfl kj kj kj kj (by omega)) <| sg 1 kj ?_
     have y5_6:=(Rely.Ext.trans (Rely.Ext.refl V3) e6)
     have y5_7:=(Rely.Ext.trans y5_6 e7)
     refine Qaa (.slice ny.a ny.n.ms.length ny.c) 109 rfl kj (Qai 24 _ _ (.slice ny.a ny.n.ms.length ny.c) (NdAt.at3 (NdAt.ext hny y5_7)).2.2 rfl kj kj) <| Qak (.bool false) 41 #[.int .i64 (nth (nt.n.ms) (k)),.slice ny.a ny.n.ms.length ny.c] 110 rfl kj kj (inRb ny.n.ms (nth nt.n.ms k) ny.a ny.c _ _ (eny▸hmt _ (by omega)) (RdK.here (RdK.ext rdy y5_7)) false (decide_eq_false hq.2.2.2.2)) fun W8 e8=>?_
     have x8:=Ext.tr x7 e8
     refine sg 2 kj <| sgN hK35 <| cond_true kj <| sgB kj <| wp_ret ?_
     repeat (first | with_reducible refine goR1 ?_ | with_reducible refine goR2 ?_)
     exact (show bodyPost _ _ _ .ret _ _ from ret1 (.bool false) rfl (Qar kj) ⟨congrArg (fun z=>Ending.returned (.bool z)) ((Qbu h h1 h2).trans (QcU (k:=k) (by rw [←ent]; exact hlt28) (by rw [←ent]; exact hb))).symm,x8⟩)
   ·skip
    have hy77:¬ 2*j+1<ts.length:=by have:=of_decide_eq_false c33; omega
    refine wp_exit <| hK12 _ _ <| Qad <| sg 1 kj <| Qaa (.int .i64 ((k+1:Nat):Int)) 30 rfl kj (Qag (u:=.int .i64 (IntKind.i64.wrap (((k:Nat):Int)+1))) kj (congrArg (Value.int .i64) (i64n _ _ (by omega) (by omega)))) <| sg 1 kj <| Qaj ?_
    have hb:msOk ts ((L:Nat):Int) ((x:Nat):Int) nt.n.ms k=true:=hb0.trans (Qea hxn (by omega) (by omega) hQ.2.2 (by rw [←enz]; exact hzu) (fun y hy hyo=>by obtain ⟨j2,rfl⟩:∃ j2,y=2*j2+1:=⟨y/2,by omega⟩; exact hys j2 (by omega)))
    have y2_4:=(Rely.Ext.trans e3 e4)
    have y2_5:=(Rely.Ext.trans y2_4 e5)
    repeat (first | with_reducible refine goX1 ?_ | with_reducible refine goX2 ?_ | with_reducible refine goX3 ?_)
    exact Qap (k+1) ⟨kj,kj,kj,kj,kj,trivial⟩ ⟨(by omega),(fun j2 hj=>by by_cases e:j2=k; (rw [e]; exact hb); exact hall j2 (by omega)),y2_5,xx3⟩ (by show nt.n.ms.length-(k+1)<nt.n.ms.length-k; omega)
 ·skip
  have heq28:k=nt.n.ms.length:=by have:=of_decide_eq_false c10; omega
  refine wp_exit <| hK6 _ _ <| sgB kj <| wp_ret ?_
  repeat (first | with_reducible refine goR1 ?_ | with_reducible refine goR2 ?_)
  exact (show bodyPost _ _ _ .ret _ _ from ret1 (.bool true) rfl (Qar kj) ⟨congrArg (fun z=>Ending.returned (.bool z)) ((Qbu h h1 h2).trans (Qg8 (by rw [←ent,←heq28]; exact hall))).symm,xx1⟩)
theorem QlC (ts : List NdV) (a_t:Option Addr) (c_t B1:Nat) (w:World) (ht:TrAt B1 w a_t ts) (L:Nat) (hL:leaves ((ts.length:Nat):Int)=((L:Nat):Int)) (hlen:ts.length+1=2*L) (hTr:QaF ((L:Nat):Int)=true) (hmt:∀ i,i<ts.length→(ndi ts i).n.ms.length≤1000000) (htl:ts.length≤100000) (x:Nat) (hx:x<ts.length) (h:x%2≠0):Calls Tryd.prog 32 #[.slice a_t ts.length c_t,.int .i64 ((x:Nat):Int),.int .i64 ((L:Nat):Int)] w (Ret w (.bool (QbC ts ((L:Nat):Int) x))):=by
  by_cases h1:(ndi ts x).n.nm=0
  · by_cases h2:(ndi ts x).n.sg=List.replicate 32 0
    · exact Qkc ts a_t c_t B1 w ht L hL hlen hTr hmt htl x hx h h1 h2
    · exact Qkd ts a_t c_t B1 w ht L hL hlen hTr hmt htl x hx h h1 h2
  · exact Qkb ts a_t c_t B1 w ht L hL hlen hTr hmt htl x hx h h1
end Go.Proofs.YthfkppjajmjpnaaDoor.Te
end
section
namespace Go.Proofs.YthfkppjajmjpnaaDoor.Te
open Go Go.RowKit
open Rely Auto Own Seat Sha
theorem Qec {ts : List NdV} {nm:Int}:∀ {i:Nat},nm∈Qbg ts i↔∃ j,j<i∧(ndi ts (2*j)).n.us=true∧(ndi ts (2*j)).n.nm=nm
  | 0=>by simp [Qbg]
  | i+1=>by
    have ih:=Qec (ts:=ts) (nm:=nm) (i:=i)
    unfold Qbg
    by_cases hu:(ndi ts (2*i)).n.us=true
    · rw [if_pos hu,List.mem_append,ih,List.mem_singleton]
      constructor
      · rintro (⟨j,h1,h2⟩ | h)
        · exact ⟨j,by omega,h2⟩
        · exact ⟨i,by omega,hu,h.symm⟩
      · rintro ⟨j,h1,h2,h3⟩
        by_cases e:j=i
        · subst e; exact .inr h3.symm
        · exact .inl ⟨j,by omega,h2,h3⟩
    · rw [if_neg hu,ih]
      constructor
      · rintro ⟨j,h1,h2⟩; exact ⟨j,by omega,h2⟩
      · rintro ⟨j,h1,h2,h3⟩
        by_cases e:j=i
        · subst e; exact absurd h2 hu
        · exact ⟨j,by omega,h2,h3⟩
theorem Qf4 {ts : List NdV} {i:Nat} (h:(ndi ts (2*i)).n.us=true):Qbg ts (i+1)=Qbg ts i++[(ndi ts (2*i)).n.nm]:=by rw [Qbg,if_pos h]
theorem Qgt {ts : List NdV} {i:Nat} (h:(ndi ts (2*i)).n.us=false):Qbg ts (i+1)=Qbg ts i:=by rw [Qbg,if_neg (by rw [h]; decide)]
theorem QiX {ts : List NdV} {m:Nat} (h:(Qbg ts m).Nodup) (hn:∀ j,j<m→(ndi ts (2*j)).n.us=true→(ndi ts (2*j)).n.nm≠(ndi ts (2*m)).n.nm):(Qbg ts (m+1)).Nodup:=by
  cases hu:(ndi ts (2*m)).n.us with
  | false=>rw [Qgt hu]; exact h
  | true =>
    rw [Qf4 hu]
    exact QcJ h fun hc=>by
      obtain ⟨j,h1,h2,h3⟩:=Qec.1 hc
      exact hn j h1 h2 h3
theorem QhT {ts : List NdV} {m j:Nat} (hm:2*m<ts.length) (hj:j<m) (hu:(ndi ts (2*j)).n.us=true) (hu2:(ndi ts (2*m)).n.us=true) (hn:(ndi ts (2*j)).n.nm=(ndi ts (2*m)).n.nm):Qcg ts=false:=by
  unfold Qcg
  refine decide_eq_false (Qee (i:=m+1) ?_ _ (by omega))
  rw [Qf4 hu2]
  exact fun q=>(List.nodup_append.1 q).2.2 _ (Qec.2 ⟨j,hj,hu,hn⟩) _ (List.mem_singleton.2 rfl) rfl
theorem chk4 {ts : List NdV} {L x:Nat} (e:lvs ts=L) (hx:x<ts.length) (h:Qbh ts ((L:Nat):Int) x=false):chkT ts=false:=by
  unfold chkT
  rw [e,QcU hx h,Bool.and_false]
theorem Qj5 (b : Bool) (nd:NdV) (hok:NdOk nd.n) (B1:Nat) (w:World) (hm1:nd.n.ms.length≤1000000) (hr1:RdK .i64 B1 nd.n.ms (.slice nd.a nd.n.ms.length nd.c) w) (h:QcR nd.n zn.n=b):Calls Tryd.prog 31 #[.agg (cat [#[.bool nd.n.us],#[.int .i64 nd.n.nm],ints .u8 (nd.n.key),ints .u8 (nd.n.sg),ints .u8 (nd.n.pa),#[.slice nd.a nd.n.ms.length nd.c]]),.agg (cat [#[.bool false],#[.int .i64 0],ints .u8 (List.replicate 32 0),ints .u8 (List.replicate 32 0),ints .u8 (List.replicate 32 0),#[.slice none 0 0]])] w (Ret w (.bool b)):=by
  exact h▸QlN nd zn hok Qe8 B1 0 w hm1 (Nat.zero_le _) hr1 (QeK 0 w)
theorem QcK {m L:Nat} (hm:m≤100000) (h:leaves ((m:Nat):Int)=((L:Nat):Int)):QcW ((m:Nat):Int)=((L:Nat):Int):=(leaves_eq _ ⟨by omega,by omega⟩).symm.trans h
set_option maxRecDepth 100000 in
theorem Qml (ts : List NdV) (a_t:Option Addr) (c_t B1:Nat) (w:World) (ht:TrAt B1 w a_t ts) (htl:ts.length≤100000) (hmt:∀ i,i<ts.length→(ndi ts i).n.ms.length≤1000000) (L:Nat) (hL:leaves ((ts.length:Nat):Int)=((L:Nat):Int)) (hL2:2*L≤ts.length+1) (hL4:L≠0→ts.length+1=2*L∧QaF ((L:Nat):Int)=true) (h0:L=0):Calls Tryd.prog 12 #[.slice a_t ts.length c_t] w (Ret w (.bool (chkT ts))):=by
  refine enter 95 [(0,.slice a_t ts.length c_t)] Tryd.func12 rfl rfl kj rfl <| sgB kj <| sgC fun K2 hK2=>sg 2 kj <| Qak (.int .i64 ((L:Nat):Int)) 25 #[.int .i64 ((ts.length:Nat):Int)] 8 rfl kj kj (QdS ((ts.length:Nat):Int) _ (QcK htl hL) _) fun W1 e1=>sg 1 kj <| sgN hK2 <| wp_seq_k fun K3 hK3=>sgC fun K4 hK4=>sg 1 kj ?_
  refine Qaa (.bool true) 10 rfl kj (Qag (u:=.bool ((((L:Nat):Int)==0))) kj (congrArg Value.bool (beq_iff_eq.2 (by omega)))) <| sg 7 kj <| sgN hK4 <| cond_true kj <| sgB kj <| wp_ret ?_
  repeat (first | with_reducible refine goR1 ?_ | with_reducible refine goR2 ?_)
  exact (show bodyPost _ _ _ .ret _ _ from ret1 (.bool false) rfl (Qar kj) ⟨congrArg (fun z=>Ending.returned (.bool z)) (chk0 (Qcj hL) h0).symm,(Ext.tr (Rely.Ext.refl w) e1)⟩)
set_option maxRecDepth 100000 in
theorem Qmk (ts : List NdV) (a_t:Option Addr) (c_t B1:Nat) (w:World) (ht:TrAt B1 w a_t ts) (htl:ts.length≤100000) (hmt:∀ i,i<ts.length→(ndi ts i).n.ms.length≤1000000) (L:Nat) (hL:leaves ((ts.length:Nat):Int)=((L:Nat):Int)) (hL2:2*L≤ts.length+1) (hL4:L≠0→ts.length+1=2*L∧QaF ((L:Nat):Int)=true) (h0:L≠0) (h2:anyU ts (L/2)=false):Calls Tryd.prog 12 #[.slice a_t ts.length c_t] w (Ret w (.bool (chkT ts))):=by
  obtain ⟨hlen,hTr⟩:=hL4 h0
  refine enter 95 [(0,.slice a_t ts.length c_t)] Tryd.func12 rfl rfl kj rfl <| sgB kj <| sgC fun K2 hK2=>sg 2 kj <| Qak (.int .i64 ((L:Nat):Int)) 25 #[.int .i64 ((ts.length:Nat):Int)] 8 rfl kj kj (QdS ((ts.length:Nat):Int) _ (QcK htl hL) _) fun W1 e1=>?_
  have x1:=Ext.tr (Rely.Ext.refl w) e1
  refine sg 1 kj <| sgN hK2 <| wp_seq_k fun K3 hK3=>sgC fun K4 hK4=>sg 1 kj <| Qaa (.bool false) 10 rfl kj (Qag (u:=.bool ((((L:Nat):Int)==0))) kj (congrArg Value.bool (beq_eq_false_iff_ne.2 (by omega)))) <| sg 3 kj <| Qaa (.int .i64 ((L/2:Nat):Int)) 14 rfl kj (Qag (u:=.int .i64 (IntKind.i64.wrap (Int.tdiv (((L:Nat):Int)) (2)))) kj (congrArg (Value.int .i64) (Qb7 _ 2 (by omega)))) <| Qak (.bool false) 30 #[.slice a_t ts.length c_t,.int .i64 ((L/2:Nat):Int)] 15 rfl kj kj ((h2▸QlB ts a_t c_t _ _ (TrAt.ext ht x1) htl (L/2) (by omega))) fun W2 e2=>sg 2 kj ?_
  refine sgN hK4 <| cond_true kj <| sgB kj <| wp_ret ?_
  repeat (first | with_reducible refine goR1 ?_ | with_reducible refine goR2 ?_)
  exact (show bodyPost _ _ _ .ret _ _ from ret1 (.bool false) rfl (Qar kj) ⟨congrArg (fun z=>Ending.returned (.bool z)) (chk2 (Qcj hL) h2).symm,(Ext.tr x1 e2)⟩)
set_option maxRecDepth 100000 in
theorem Qmj (ts : List NdV) (a_t:Option Addr) (c_t B1:Nat) (w:World) (ht:TrAt B1 w a_t ts) (htl:ts.length≤100000) (hmt:∀ i,i<ts.length→(ndi ts i).n.ms.length≤1000000) (L:Nat) (hL:leaves ((ts.length:Nat):Int)=((L:Nat):Int)) (hL2:2*L≤ts.length+1) (hL4:L≠0→ts.length+1=2*L∧QaF ((L:Nat):Int)=true) (h0:L≠0) (h2:anyU ts (L/2)=true):Calls Tryd.prog 12 #[.slice a_t ts.length c_t] w (Ret w (.bool (chkT ts))):=by
 obtain ⟨hlen,hTr⟩:=hL4 h0
 refine enter 95 [(0,.slice a_t ts.length c_t)] Tryd.func12 rfl rfl kj rfl <| sgB kj <| sgC fun K2 hK2=>sg 2 kj <| Qak (.int .i64 ((L:Nat):Int)) 25 #[.int .i64 ((ts.length:Nat):Int)] 8 rfl kj kj (QdS ((ts.length:Nat):Int) _ (QcK htl hL) _) fun W1 e1=>?_
 have x1:=Ext.tr (Rely.Ext.refl w) e1
 refine sg 1 kj <| sgN hK2 <| wp_seq_k fun K3 hK3=>sgC fun K4 hK4=>sg 1 kj <| Qaa (.bool false) 10 rfl kj (Qag (u:=.bool ((((L:Nat):Int)==0))) kj (congrArg Value.bool (beq_eq_false_iff_ne.2 (by omega)))) <| sg 3 kj <| Qaa (.int .i64 ((L/2:Nat):Int)) 14 rfl kj (Qag (u:=.int .i64 (IntKind.i64.wrap (Int.tdiv (((L:Nat):Int)) (2)))) kj (congrArg (Value.int .i64) (Qb7 _ 2 (by omega)))) <| Qak (.bool true) 30 #[.slice a_t ts.length c_t,.int .i64 ((L/2:Nat):Int)] 15 rfl kj kj ((h2▸QlB ts a_t c_t _ _ (TrAt.ext ht x1) htl (L/2) (by omega))) fun W2 e2=>sg 2 kj ?_
 refine sgN hK4 <| cond_false kj <| wp_skip <| hK3 _ _ <| wp_seq_k fun K5 hK5=>sgB kj <| wp_block <| Qay (fun (s1:Nat)=>[(0,.slice a_t ts.length c_t),(3,.int .i64 ((L:Nat):Int)),(4,.int .i64 ((s1:Nat):Int))]) (fun (s1:Nat) W=>(s1≤ts.length)∧(∀ j,j<s1→Qbh ts ((L:Nat):Int) j=true)∧((Qbg ts ((s1+1)/2)).Nodup)∧(Ext W2 W)∧(Ext w W)) (fun (s1:Nat)=>ts.length-s1) 0 ⟨kj,kj,kj,trivial⟩ ⟨(Nat.zero_le _),(fun j hj=>absurd hj (Nat.not_lt_zero j)),List.nodup_nil,(Rely.Ext.refl W2),(Ext.tr x1 e2)⟩ fun s1 X1 V1 hI1=>?_
 obtain ⟨x,hs1⟩:∃ z,z=s1:=⟨_,rfl⟩
 subst hs1
 obtain ⟨hx,hall,hnd,kk1,xx1⟩:=hI1
 replace hx:x≤ts.length:=hx
 replace hall:∀ j,j<x→Qbh ts ((L:Nat):Int) j=true:=hall
 replace hnd:(Qbg ts ((x+1)/2)).Nodup:=hnd
 replace kk1:Ext W2 V1:=kk1
 replace xx1:Ext w V1:=xx1
 have e3:=kk1
 refine wp_seq_k fun K7 hK7=>sgB kj <| Qaq (t:=decide (((x:Nat):Int)<((ts.length:Nat):Int))) kj (fun c9=>?_) (fun c9=>?_)
 ·skip
  have hlt21:x<ts.length:=by have:=of_decide_eq_true c9; omega
  refine wp_skip <| hK7 _ _ <| wp_seq_k fun K10 hK10=>wp_block <| wp_seq_k fun K11 hK11=>wp_seq_k fun K12 hK12=>?_
  obtain ⟨gtT,otT,hat,hnts⟩:=TrAt.ext ht xx1
  have hnt:=hnts x (by omega)
  obtain ⟨nt,ent⟩:∃ z,z=ndi ts x:=⟨_,rfl⟩
  rw [←ent] at hnt
  have okt:=hnt.ok
  have rdt:=hnt.rd
  rcases (show (nt.n.us=false∧QcR nt.n zn.n=true)∨(nt.n.us=false∧QcR nt.n zn.n=false)∨(nt.n.us=true∧x%2=1)∨(nt.n.us=true∧x%2=0) from by rcases (show x%2=1∨x%2=0 by omega) with h9 | h9 <;> cases nt.n.us <;> cases QcR nt.n zn.n <;> simp [h9]) with hq | hq | hq | hq
  ·skip
   have hb:Qbh ts ((L:Nat):Int) x=true:=by unfold Qbh; rw [←ent,if_neg (by rw [hq.1]; decide)]; exact hq.2
   refine Qad <| sg 2 kj <| Qaa (.pointer (some ⟨gtT,otT+x*99,none⟩)) 26 rfl kj (Qan 23 _ _ .i64 (x) gtT otT ts.length c_t 50 99 a_t (hat (by omega)) rfl kj kj kj kj (by omega)) <| sg 1 kj <| Qaa (.bool false) 28 rfl kj (Qai 4 _ _ (.bool false) ((NdAt.at3 hnt).1.trans (congrArg (fun z=>some (Value.bool z)) hq.1)) rfl kj kj) <| sg 4 kj <| Qaa (.pointer (some ⟨gtT,otT+x*99,none⟩)) 33 rfl kj (Qan 23 _ _ .i64 (x) gtT otT ts.length c_t 50 99 a_t (hat (by omega)) rfl kj kj kj kj (by omega)) <| Qaa (.agg (cat [#[.bool nt.n.us],#[.int .i64 nt.n.nm],ints .u8 (nt.n.key),ints .u8 (nt.n.sg),ints .u8 (nt.n.pa),#[.slice nt.a nt.n.ms.length nt.c]])) 34 rfl kj (QaI 50 _ gtT (otT+x*99) nt hnt rfl kj kj kj) <| sg 1 kj <| Qak (.bool true) 31 #[.agg (cat [#[.bool nt.n.us],#[.int .i64 nt.n.nm],ints .u8 (nt.n.key),ints .u8 (nt.n.sg),ints .u8 (nt.n.pa),#[.slice nt.a nt.n.ms.length nt.c]]),.agg (cat [#[.bool false],#[.int .i64 0],ints .u8 (List.replicate 32 0),ints .u8 (List.replicate 32 0),ints .u8 (List.replicate 32 0),#[.slice none 0 0]])] 36 rfl kj kj (Qj5 true nt okt _ _ (ent▸hmt x (by omega)) (RdK.here (RdK.ext rdt (Rely.Ext.refl V1))) hq.2) fun W4 e4=>?_
   have x4:=Ext.tr xx1 e4
   refine sg 2 kj <| sgN hK12 <| cond_false kj <| wp_skip <| hK11 _ _ <| wp_seq_k fun K13 hK13=>sgC fun K14 hK14=>sg 2 kj <| Qaa (.pointer (some ⟨gtT,otT+x*99,none⟩)) 41 rfl kj (Qan 23 _ _ .i64 (x) gtT otT ts.length c_t 50 99 a_t (hat (by omega)) rfl kj kj kj kj (by omega)) <| sg 1 kj ?_
   have y3_4:=(Rely.Ext.trans (Rely.Ext.refl V1) e4)
   refine Qaa (.bool false) 43 rfl kj (Qai 4 _ _ (.bool false) ((NdAt.at3 (NdAt.ext hnt y3_4)).1.trans (congrArg (fun z=>some (Value.bool z)) hq.1)) rfl kj kj) <| sg 12 kj <| sgN hK14 <| cond_false kj <| wp_skip <| hK13 _ _ <| sgC fun K15 hK15=>sg 2 kj <| Qaa (.pointer (some ⟨gtT,otT+x*99,none⟩)) 58 rfl kj (Qan 23 _ _ .i64 (x) gtT otT ts.length c_t 50 99 a_t (hat (by omega)) rfl kj kj kj kj (by omega)) <| sg 1 kj ?_
   refine Qaa (.bool false) 60 rfl kj (Qai 4 _ _ (.bool false) ((NdAt.at3 (NdAt.ext hnt y3_4)).1.trans (congrArg (fun z=>some (Value.bool z)) hq.1)) rfl kj kj) <| sg 5 kj <| sgN hK15 <| cond_false kj <| wp_skip <| hK10 _ _ <| Qad <| sg 1 kj <| Qaa (.int .i64 ((x+1:Nat):Int)) 23 rfl kj (Qag (u:=.int .i64 (IntKind.i64.wrap (((x:Nat):Int)+1))) kj (congrArg (Value.int .i64) (i64n _ _ (by omega) (by omega)))) <| sg 1 kj ?_
   refine Qaj ?_
   have y2_4:=(Rely.Ext.trans e3 e4)
   repeat (first | with_reducible refine goX1 ?_ | with_reducible refine goX2 ?_ | with_reducible refine goX3 ?_)
   exact Qap (x+1) ⟨kj,kj,kj,trivial⟩ ⟨(by omega),(fun j hj=>by by_cases e:j=x; (rw [e]; exact hb); exact hall j (by omega)),(by rcases (show x%2=1∨x%2=0 by omega) with h9 | h9; (rw [show (x+1+1)/2=(x+1)/2 by omega]; exact hnd); (rw [show (x+1+1)/2=x/2+1 by omega,Qgt (by rw [show 2*(x/2)=x by omega,←ent]; exact hq.1),show x/2=(x+1)/2 by omega]; exact hnd)),y2_4,x4⟩ (by show ts.length-(x+1)<ts.length-x; omega)
  ·skip
   have hb:Qbh ts ((L:Nat):Int) x=false:=by unfold Qbh; rw [←ent,if_neg (by rw [hq.1]; decide)]; exact hq.2
   refine Qad <| sg 2 kj <| Qaa (.pointer (some ⟨gtT,otT+x*99,none⟩)) 26 rfl kj (Qan 23 _ _ .i64 (x) gtT otT ts.length c_t 50 99 a_t (hat (by omega)) rfl kj kj kj kj (by omega)) <| sg 1 kj <| Qaa (.bool false) 28 rfl kj (Qai 4 _ _ (.bool false) ((NdAt.at3 hnt).1.trans (congrArg (fun z=>some (Value.bool z)) hq.1)) rfl kj kj) <| sg 4 kj <| Qaa (.pointer (some ⟨gtT,otT+x*99,none⟩)) 33 rfl kj (Qan 23 _ _ .i64 (x) gtT otT ts.length c_t 50 99 a_t (hat (by omega)) rfl kj kj kj kj (by omega)) <| Qaa (.agg (cat [#[.bool nt.n.us],#[.int .i64 nt.n.nm],ints .u8 (nt.n.key),ints .u8 (nt.n.sg),ints .u8 (nt.n.pa),#[.slice nt.a nt.n.ms.length nt.c]])) 34 rfl kj (QaI 50 _ gtT (otT+x*99) nt hnt rfl kj kj kj) <| sg 1 kj <| Qak (.bool false) 31 #[.agg (cat [#[.bool nt.n.us],#[.int .i64 nt.n.nm],ints .u8 (nt.n.key),ints .u8 (nt.n.sg),ints .u8 (nt.n.pa),#[.slice nt.a nt.n.ms.length nt.c]]),.agg (cat [#[.bool false],#[.int .i64 0],ints .u8 (List.replicate 32 0),ints .u8 (List.replicate 32 0),ints .u8 (List.replicate 32 0),#[.slice none 0 0]])] 36 rfl kj kj (Qj5 false nt okt _ _ (ent▸hmt x (by omega)) (RdK.here (RdK.ext rdt (Rely.Ext.refl V1))) hq.2) fun W4 e4=>?_
   have x4:=Ext.tr xx1 e4
   refine sg 2 kj <| sgN hK12 <| cond_true kj <| sgB kj <| wp_ret ?_
   repeat (first | with_reducible refine goR1 ?_ | with_reducible refine goR2 ?_)
   exact (show bodyPost _ _ _ .ret _ _ from ret1 (.bool false) rfl (Qar kj) ⟨congrArg (fun z=>Ending.returned (.bool z)) ((chk4 (Qcj hL) hlt21 hb)).symm,x4⟩)
  ·skip
   have hux:(ndi ts x).n.us=true:=ent▸hq.1
   have hb0:Qbh ts ((L:Nat):Int) x=QbC ts ((L:Nat):Int) x:=by unfold Qbh; rw [if_pos hux]
   refine Qad <| sg 2 kj <| Qaa (.pointer (some ⟨gtT,otT+x*99,none⟩)) 26 rfl kj (Qan 23 _ _ .i64 (x) gtT otT ts.length c_t 50 99 a_t (hat (by omega)) rfl kj kj kj kj (by omega)) <| sg 1 kj <| Qaa (.bool true) 28 rfl kj (Qai 4 _ _ (.bool true) ((NdAt.at3 hnt).1.trans (congrArg (fun z=>some (Value.bool z)) hq.1)) rfl kj kj) <| sg 10 kj <| sgN hK12 <| cond_false kj <| wp_skip <| hK11 _ _ ?_
   refine wp_seq_k fun K17 hK17=>sgC fun K18 hK18=>sg 2 kj <| Qaa (.pointer (some ⟨gtT,otT+x*99,none⟩)) 41 rfl kj (Qan 23 _ _ .i64 (x) gtT otT ts.length c_t 50 99 a_t (hat (by omega)) rfl kj kj kj kj (by omega)) <| sg 1 kj <| Qaa (.bool true) 43 rfl kj (Qai 4 _ _ (.bool true) ((NdAt.at3 hnt).1.trans (congrArg (fun z=>some (Value.bool z)) hq.1)) rfl kj kj) <| sg 2 kj <| Qaa (.int .i64 ((x%2:Nat):Int)) 46 rfl kj (Qag (u:=.int .i64 (Int.tmod (((x:Nat):Int)) (2))) kj (congrArg (Value.int .i64) (Qbr _ 2))) <| Qaa (.bool true) 47 rfl kj (Qag (u:=.bool ((((x%2:Nat):Int)==1))) kj (congrArg Value.bool (beq_iff_eq.2 (by omega)))) <| sg 5 kj ?_
   refine Qak (.bool (QbC ts ((L:Nat):Int) x)) 32 #[.slice a_t ts.length c_t,.int .i64 ((x:Nat):Int),.int .i64 ((L:Nat):Int)] 53 rfl kj kj (QlC ts a_t c_t _ _ (TrAt.ext ht xx1) L hL hlen hTr hmt htl x (by omega) (by omega)) fun W4 e4=>?_
   have x4:=Ext.tr xx1 e4
   refine sg 2 kj <| sgN hK18 <| Qaq (t:=!(QbC ts ((L:Nat):Int) x)) kj (fun c19=>?_) (fun c19=>?_)
   ·skip
    have hb:Qbh ts ((L:Nat):Int) x=false:=by rw [hb0]; simpa using c19
    refine sgB kj <| wp_ret ?_
    repeat (first | with_reducible refine goR1 ?_ | with_reducible refine goR2 ?_)
    exact (show bodyPost _ _ _ .ret _ _ from ret1 (.bool false) rfl (Qar kj) ⟨congrArg (fun z=>Ending.returned (.bool z)) ((chk4 (Qcj hL) hlt21 hb)).symm,x4⟩)
   ·skip
    have hb:Qbh ts ((L:Nat):Int) x=true:=by rw [hb0]; simpa using c19
    refine wp_skip <| hK17 _ _ <| sgC fun K21 hK21=>sg 2 kj <| Qaa (.pointer (some ⟨gtT,otT+x*99,none⟩)) 58 rfl kj (Qan 23 _ _ .i64 (x) gtT otT ts.length c_t 50 99 a_t (hat (by omega)) rfl kj kj kj kj (by omega)) <| sg 1 kj ?_
    have y3_4:=(Rely.Ext.trans (Rely.Ext.refl V1) e4)
    refine Qaa (.bool true) 60 rfl kj (Qai 4 _ _ (.bool true) ((NdAt.at3 (NdAt.ext hnt y3_4)).1.trans (congrArg (fun z=>some (Value.bool z)) hq.1)) rfl kj kj) <| sg 2 kj <| Qaa (.int .i64 ((x%2:Nat):Int)) 63 rfl kj (Qag (u:=.int .i64 (Int.tmod (((x:Nat):Int)) (2))) kj (congrArg (Value.int .i64) (Qbr _ 2))) <| Qaa (.bool false) 64 rfl kj (Qag (u:=.bool ((((x%2:Nat):Int)==0))) kj (congrArg Value.bool (beq_eq_false_iff_ne.2 (by omega)))) <| sg 1 kj <| sgN hK21 <| cond_false kj <| wp_skip <| hK10 _ _ <| Qad ?_
    refine sg 1 kj <| Qaa (.int .i64 ((x+1:Nat):Int)) 23 rfl kj (Qag (u:=.int .i64 (IntKind.i64.wrap (((x:Nat):Int)+1))) kj (congrArg (Value.int .i64) (i64n _ _ (by omega) (by omega)))) <| sg 1 kj <| Qaj ?_
    have y2_4:=(Rely.Ext.trans e3 e4)
    repeat (first | with_reducible refine goX1 ?_ | with_reducible refine goX2 ?_ | with_reducible refine goX3 ?_)
    exact Qap (x+1) ⟨kj,kj,kj,trivial⟩ ⟨(by omega),(fun j hj=>by by_cases e:j=x; (rw [e]; exact hb); exact hall j (by omega)),(by rw [show (x+1+1)/2=(x+1)/2 by omega]; exact hnd),y2_4,x4⟩ (by show ts.length-(x+1)<ts.length-x; omega)
  ·skip
   have hux:(ndi ts x).n.us=true:=ent▸hq.1
   have hb0:Qbh ts ((L:Nat):Int) x=QbC ts ((L:Nat):Int) x:=by unfold Qbh; rw [if_pos hux]
   refine Qad <| sg 2 kj <| Qaa (.pointer (some ⟨gtT,otT+x*99,none⟩)) 26 rfl kj (Qan 23 _ _ .i64 (x) gtT otT ts.length c_t 50 99 a_t (hat (by omega)) rfl kj kj kj kj (by omega)) <| sg 1 kj <| Qaa (.bool true) 28 rfl kj (Qai 4 _ _ (.bool true) ((NdAt.at3 hnt).1.trans (congrArg (fun z=>some (Value.bool z)) hq.1)) rfl kj kj) <| sg 10 kj <| sgN hK12 <| cond_false kj <| wp_skip <| hK11 _ _ ?_
   refine wp_seq_k fun K22 hK22=>sgC fun K23 hK23=>sg 2 kj <| Qaa (.pointer (some ⟨gtT,otT+x*99,none⟩)) 41 rfl kj (Qan 23 _ _ .i64 (x) gtT otT ts.length c_t 50 99 a_t (hat (by omega)) rfl kj kj kj kj (by omega)) <| sg 1 kj <| Qaa (.bool true) 43 rfl kj (Qai 4 _ _ (.bool true) ((NdAt.at3 hnt).1.trans (congrArg (fun z=>some (Value.bool z)) hq.1)) rfl kj kj) <| sg 2 kj <| Qaa (.int .i64 ((x%2:Nat):Int)) 46 rfl kj (Qag (u:=.int .i64 (Int.tmod (((x:Nat):Int)) (2))) kj (congrArg (Value.int .i64) (Qbr _ 2))) <| Qaa (.bool false) 47 rfl kj (Qag (u:=.bool ((((x%2:Nat):Int)==1))) kj (congrArg Value.bool (beq_eq_false_iff_ne.2 (by omega)))) <| sg 8 kj ?_
   refine sgN hK23 <| cond_false kj <| wp_skip <| hK22 _ _ <| sgC fun K24 hK24=>sg 2 kj <| Qaa (.pointer (some ⟨gtT,otT+x*99,none⟩)) 58 rfl kj (Qan 23 _ _ .i64 (x) gtT otT ts.length c_t 50 99 a_t (hat (by omega)) rfl kj kj kj kj (by omega)) <| sg 1 kj <| Qaa (.bool true) 60 rfl kj (Qai 4 _ _ (.bool true) ((NdAt.at3 hnt).1.trans (congrArg (fun z=>some (Value.bool z)) hq.1)) rfl kj kj) <| sg 2 kj ?_
   refine Qaa (.int .i64 ((x%2:Nat):Int)) 63 rfl kj (Qag (u:=.int .i64 (Int.tmod (((x:Nat):Int)) (2))) kj (congrArg (Value.int .i64) (Qbr _ 2))) <| Qaa (.bool true) 64 rfl kj (Qag (u:=.bool ((((x%2:Nat):Int)==0))) kj (congrArg Value.bool (beq_iff_eq.2 (by omega)))) <| sg 1 kj <| sgN hK24 <| cond_true kj <| wp_seq_k fun K25 hK25=>sgC fun K26 hK26=>sg 2 kj <| Qaa (.pointer (some ⟨gtT,otT+x*99,none⟩)) 68 rfl kj (Qan 23 _ _ .i64 (x) gtT otT ts.length c_t 50 99 a_t (hat (by omega)) rfl kj kj kj kj (by omega)) <| Qaa (.agg (cat [#[.bool nt.n.us],#[.int .i64 nt.n.nm],ints .u8 (nt.n.key),ints .u8 (nt.n.sg),ints .u8 (nt.n.pa),#[.slice nt.a nt.n.ms.length nt.c]])) 69 rfl kj (QaI 50 _ gtT (otT+x*99) nt hnt rfl kj kj kj) ?_
   refine Qak (.bool (QbT nt.n)) 33 #[.agg (cat [#[.bool nt.n.us],#[.int .i64 nt.n.nm],ints .u8 (nt.n.key),ints .u8 (nt.n.sg),ints .u8 (nt.n.pa),#[.slice nt.a nt.n.ms.length nt.c]])] 70 rfl kj kj (Qmg nt okt _) fun W4 e4=>?_
   have x4:=Ext.tr xx1 e4
   refine sg 1 kj <| sgN hK26 <| Qaq (t:=!(QbT nt.n)) kj (fun c27=>?_) (fun c27=>?_)
   ·skip
    have hb:Qbh ts ((L:Nat):Int) x=false:=by rw [hb0,QcG hq.2,←ent]; simpa using c27
    refine sgB kj <| wp_ret ?_
    repeat (first | with_reducible refine goR1 ?_ | with_reducible refine goR2 ?_)
    exact (show bodyPost _ _ _ .ret _ _ from ret1 (.bool false) rfl (Qar kj) ⟨congrArg (fun z=>Ending.returned (.bool z)) ((chk4 (Qcj hL) hlt21 hb)).symm,x4⟩)
   ·skip
    have hb:Qbh ts ((L:Nat):Int) x=true:=by rw [hb0,QcG hq.2,←ent]; simpa using c27
    refine wp_skip <| hK25 _ _ <| sgB kj <| wp_block ?_
    obtain ⟨mm,hmm⟩:∃ mm,x=2*mm:=⟨x/2,by omega⟩
    refine Qay (fun (s2:Nat)=>[(0,.slice a_t ts.length c_t),(3,.int .i64 ((L:Nat):Int)),(4,.int .i64 ((x:Nat):Int)),(5,.int .i64 ((2*s2:Nat):Int))]) (fun (s2:Nat) W=>(s2≤100000)∧(∀ j2,j2<s2→(ndi ts (2*j2)).n.us=true→(ndi ts (2*j2)).n.nm≠(ndi ts (2*mm)).n.nm)∧(Ext W4 W)∧(Ext w W)) (fun (s2:Nat)=>ts.length-s2) 0 ⟨kj,kj,kj,kj,trivial⟩ ⟨(Nat.zero_le _),(fun j2 hj=>absurd hj (Nat.not_lt_zero j2)),(Rely.Ext.refl W4),x4⟩ fun s2 X2 V2 hI2=>?_
    obtain ⟨j,hs2⟩:∃ z,z=s2:=⟨_,rfl⟩
    subst hs2
    obtain ⟨hj,hjs,kk2,xx2⟩:=hI2
    replace hj:j≤100000:=hj
    replace hjs:∀ j2,j2<j→(ndi ts (2*j2)).n.us=true→(ndi ts (2*j2)).n.nm≠(ndi ts (2*mm)).n.nm:=hjs
    replace kk2:Ext W4 V2:=kk2
    replace xx2:Ext w V2:=xx2
    have e5:=kk2
    refine wp_seq_k fun K30 hK30=>sgB kj <| Qaq (t:=decide (((2*j:Nat):Int)<((x:Nat):Int))) kj (fun c32=>?_) (fun c32=>?_)
    ·skip
     have h74:2*j<x:=by have:=of_decide_eq_true c32; omega
     refine wp_skip <| hK30 _ _ <| wp_seq_k fun K33 hK33=>wp_block <| wp_seq_k fun K34 hK34=>?_
     obtain ⟨gyT,oyT,hay,hnys⟩:=TrAt.ext ht xx2
     have hny:=hnys (2*j) (by omega)
     obtain ⟨ny,eny⟩:∃ z,z=ndi ts (2*j):=⟨_,rfl⟩
     rw [←eny] at hny
     have oky:=hny.ok
     have rdy:=hny.rd
     obtain ⟨gzT,ozT,haz,hnzs⟩:=TrAt.ext ht xx2
     have hnz:=hnzs (x) (by omega)
     obtain ⟨nz,enz⟩:∃ z,z=ndi ts (x):=⟨_,rfl⟩
     rw [←enz] at hnz
     have okz:=hnz.ok
     have rdz:=hnz.rd
     rcases (show ny.n.us=false∨(ny.n.us=true∧ny.n.nm=nz.n.nm)∨(ny.n.us=true∧ny.n.nm≠nz.n.nm) from by cases h8:ny.n.us; exact .inl rfl; by_cases h7:ny.n.nm=nz.n.nm; exact .inr (.inl ⟨rfl,h7⟩); exact .inr (.inr ⟨rfl,h7⟩)) with hq | hq | hq
     ·skip
      have hjn:(ndi ts (2*j)).n.us=true→(ndi ts (2*j)).n.nm≠(ndi ts (2*mm)).n.nm:=fun h1=>by rw [←eny,hq] at h1; cases h1
      refine QaY 16 [⟨none,[(0,none)]⟩,⟨none,[(5,none)]⟩,⟨none,[(77,some 0),(78,some 1)]⟩,⟨none,[(79,some 2)]⟩,⟨none,[(80,some 3)]⟩,⟨none,[(81,some 4)]⟩,⟨some (82,true),[(0,none),(82,some 5)]⟩,⟨some (82,true),[(5,none),(82,some 5)]⟩,⟨some (82,true),[(83,some 6),(84,some 7),(82,some 5)]⟩,⟨some (82,true),[(85,some 8),(82,some 5)]⟩,⟨some (82,true),[(86,some 9),(82,some 5)]⟩,⟨some (82,true),[(0,none),(82,some 5)]⟩,⟨some (82,true),[(4,none),(82,some 5)]⟩,⟨some (82,true),[(88,some 11),(89,some 12),(82,some 5)]⟩,⟨some (82,true),[(90,some 13),(82,some 5)]⟩,⟨some (82,true),[(91,some 14),(82,some 5)]⟩] kj kj fun F hF=>Qa2 (Qam _) (.slice a_t ts.length c_t) kj kj (fun W=>by kernel_rfl) <| Qa2 (Qam _) (.int .i64 ((2*j:Nat):Int)) kj kj (fun W=>by kernel_rfl) <| Qa2 (Qam _) (.pointer (some ⟨gyT,oyT+(2*j)*99,none⟩)) kj kj (fun W=>(Qan 23 _ _ .i64 (2*j) gyT oyT ts.length c_t 50 99 a_t (hay (by omega)) rfl kj kj kj kj (by omega))) <| Qa2 (Qam _) (.pointer (some ⟨gyT,oyT+(2*j)*99,none⟩)) kj kj (fun W=>by kernel_rfl) <| QaM (Qam _) (.bool false) kj kj (fun W hR=>(Qai 4 _ _ (.bool false) (((NdAt.at3 (NdAt.ext hny (Rely.Ext.trans (Qaz _) hR))).1).trans (congrArg (fun z=>some (Value.bool z)) hq)) rfl kj kj)) <| Qa2 (Qam _) (.bool false) kj kj (fun W=>by kernel_rfl) <| QbU kj kj <| QbU kj kj <| QbU kj kj ?_
      refine QbU kj kj <| QbU kj kj <| QbU kj kj <| QbU kj kj <| QbU kj kj <| QbU kj kj <| QbU kj kj <| Qda (hF _ fun W6 e6=>?_)
      simp only [List.nil_append,List.cons_append,List.take_succ_cons,List.take_zero,List.drop_succ_cons,List.drop_zero,finE,up]
      clear hF
      have x6:=Ext.tr xx2 e6
      refine sg 2 kj <| sgN hK34 <| cond_false kj <| wp_skip <| hK33 _ _ <| Qad <| sg 1 kj <| Qaa (.int .i64 (((2*(j+1):Nat):Int))) 76 rfl kj (Qag (u:=.int .i64 (IntKind.i64.wrap (((2*j:Nat):Int)+2))) kj (congrArg (Value.int .i64) ((IntWalk.i64_in _ (by omega)).trans (by omega)))) <| sg 1 kj <| Qaj ?_
      have y4_6:=(Rely.Ext.trans e5 e6)
      repeat (first | with_reducible refine goX1 ?_ | with_reducible refine goX2 ?_ | with_reducible refine goX3 ?_)
      exact Qap (j+1) ⟨kj,kj,kj,kj,trivial⟩ ⟨(by omega),(fun j2 hj=>by by_cases e:j2=j; (rw [e]; exact hjn); exact hjs j2 (by omega)),y4_6,x6⟩ (by show ts.length-(j+1)<ts.length-j; omega)
     ·skip
      have hbad:chkT ts=false:=chk1 (QhT (m:=mm) (j:=j) (by omega) (by omega) (by rw [←eny]; exact hq.1) (by rw [←hmm]; exact hux) (by rw [←hmm,←eny,←enz]; exact hq.2))
      refine QaY 16 [⟨none,[(0,none)]⟩,⟨none,[(5,none)]⟩,⟨none,[(77,some 0),(78,some 1)]⟩,⟨none,[(79,some 2)]⟩,⟨none,[(80,some 3)]⟩,⟨none,[(81,some 4)]⟩,⟨some (82,true),[(0,none),(82,some 5)]⟩,⟨some (82,true),[(5,none),(82,some 5)]⟩,⟨some (82,true),[(83,some 6),(84,some 7),(82,some 5)]⟩,⟨some (82,true),[(85,some 8),(82,some 5)]⟩,⟨some (82,true),[(86,some 9),(82,some 5)]⟩,⟨some (82,true),[(0,none),(82,some 5)]⟩,⟨some (82,true),[(4,none),(82,some 5)]⟩,⟨some (82,true),[(88,some 11),(89,some 12),(82,some 5)]⟩,⟨some (82,true),[(90,some 13),(82,some 5)]⟩,⟨some (82,true),[(91,some 14),(82,some 5)]⟩] kj kj fun F hF=>Qa2 (Qam _) (.slice a_t ts.length c_t) kj kj (fun W=>by kernel_rfl) <| Qa2 (Qam _) (.int .i64 ((2*j:Nat):Int)) kj kj (fun W=>by kernel_rfl) <| Qa2 (Qam _) (.pointer (some ⟨gyT,oyT+(2*j)*99,none⟩)) kj kj (fun W=>(Qan 23 _ _ .i64 (2*j) gyT oyT ts.length c_t 50 99 a_t (hay (by omega)) rfl kj kj kj kj (by omega))) <| Qa2 (Qam _) (.pointer (some ⟨gyT,oyT+(2*j)*99,none⟩)) kj kj (fun W=>by kernel_rfl) <| QaM (Qam _) (.bool true) kj kj (fun W hR=>(Qai 4 _ _ (.bool true) (((NdAt.at3 (NdAt.ext hny (Rely.Ext.trans (Qaz _) hR))).1).trans (congrArg (fun z=>some (Value.bool z)) hq.1)) rfl kj kj)) <| Qa2 (Qam _) (.bool true) kj kj (fun W=>by kernel_rfl) <| Qa2 (Qam _) (.slice a_t ts.length c_t) kj kj (fun W=>by kernel_rfl) <| Qa2 (Qam _) (.int .i64 ((2*j:Nat):Int)) kj kj (fun W=>by kernel_rfl) <| Qa2 (Qam _) (.pointer (some ⟨gyT,oyT+(2*j)*99,none⟩)) kj kj (fun W=>(Qan 23 _ _ .i64 (2*j) gyT oyT ts.length c_t 50 99 a_t (hay (by omega)) rfl kj kj kj kj (by omega))) ?_
      refine Qa2 (Qam _) (.pointer (some ⟨gyT,oyT+(2*j)*99+1,none⟩)) kj kj (fun W=>by kernel_rfl) <| QaM (Qam _) (.int .i64 ny.n.nm) kj kj (fun W hR=>(Qai 3 _ _ (.int .i64 ny.n.nm) (NdAt.at3 (NdAt.ext hny (Rely.Ext.trans (Qaz _) hR))).2.1 rfl kj kj)) <| Qa2 (Qam _) (.slice a_t ts.length c_t) kj kj (fun W=>by kernel_rfl) <| Qa2 (Qam _) (.int .i64 ((x:Nat):Int)) kj kj (fun W=>by kernel_rfl) <| Qa2 (Qam _) (.pointer (some ⟨gzT,ozT+(x)*99,none⟩)) kj kj (fun W=>(Qan 23 _ _ .i64 (x) gzT ozT ts.length c_t 50 99 a_t (haz (by omega)) rfl kj kj kj kj (by omega))) <| Qa2 (Qam _) (.pointer (some ⟨gzT,ozT+(x)*99+1,none⟩)) kj kj (fun W=>by kernel_rfl) <| QaM (Qam _) (.int .i64 nz.n.nm) kj kj (fun W hR=>(Qai 3 _ _ (.int .i64 nz.n.nm) (NdAt.at3 (NdAt.ext hnz (Rely.Ext.trans (Qaz _) hR))).2.1 rfl kj kj)) <| Qda (hF _ fun W6 e6=>?_)
      simp only [List.nil_append,List.cons_append,List.take_succ_cons,List.take_zero,List.drop_succ_cons,List.drop_zero,finE,up]
      clear hF
      have x6:=Ext.tr xx2 e6
      refine Qaa (.bool true) 93 rfl kj (Qag (u:=.bool ((ny.n.nm==nz.n.nm))) kj (congrArg Value.bool (beq_iff_eq.2 hq.2))) <| sg 1 kj <| sgN hK34 <| cond_true kj <| sgB kj <| wp_ret ?_
      repeat (first | with_reducible refine goR1 ?_ | with_reducible refine goR2 ?_)
      exact (show bodyPost _ _ _ .ret _ _ from ret1 (.bool false) rfl (Qar kj) ⟨congrArg (fun z=>Ending.returned (.bool z)) (hbad).symm,x6⟩)
     ·skip
      have hjn:(ndi ts (2*j)).n.us=true→(ndi ts (2*j)).n.nm≠(ndi ts (2*mm)).n.nm:=fun h1=>by rw [←hmm,←eny,←enz]; exact hq.2
      refine QaY 16 [⟨none,[(0,none)]⟩,⟨none,[(5,none)]⟩,⟨none,[(77,some 0),(78,some 1)]⟩,⟨none,[(79,some 2)]⟩,⟨none,[(80,some 3)]⟩,⟨none,[(81,some 4)]⟩,⟨some (82,true),[(0,none),(82,some 5)]⟩,⟨some (82,true),[(5,none),(82,some 5)]⟩,⟨some (82,true),[(83,some 6),(84,some 7),(82,some 5)]⟩,⟨some (82,true),[(85,some 8),(82,some 5)]⟩,⟨some (82,true),[(86,some 9),(82,some 5)]⟩,⟨some (82,true),[(0,none),(82,some 5)]⟩,⟨some (82,true),[(4,none),(82,some 5)]⟩,⟨some (82,true),[(88,some 11),(89,some 12),(82,some 5)]⟩,⟨some (82,true),[(90,some 13),(82,some 5)]⟩,⟨some (82,true),[(91,some 14),(82,some 5)]⟩] kj kj fun F hF=>Qa2 (Qam _) (.slice a_t ts.length c_t) kj kj (fun W=>by kernel_rfl) <| Qa2 (Qam _) (.int .i64 ((2*j:Nat):Int)) kj kj (fun W=>by kernel_rfl) <| Qa2 (Qam _) (.pointer (some ⟨gyT,oyT+(2*j)*99,none⟩)) kj kj (fun W=>(Qan 23 _ _ .i64 (2*j) gyT oyT ts.length c_t 50 99 a_t (hay (by omega)) rfl kj kj kj kj (by omega))) <| Qa2 (Qam _) (.pointer (some ⟨gyT,oyT+(2*j)*99,none⟩)) kj kj (fun W=>by kernel_rfl) <| QaM (Qam _) (.bool true) kj kj (fun W hR=>(Qai 4 _ _ (.bool true) (((NdAt.at3 (NdAt.ext hny (Rely.Ext.trans (Qaz _) hR))).1).trans (congrArg (fun z=>some (Value.bool z)) hq.1)) rfl kj kj)) <| Qa2 (Qam _) (.bool true) kj kj (fun W=>by kernel_rfl) <| Qa2 (Qam _) (.slice a_t ts.length c_t) kj kj (fun W=>by kernel_rfl) <| Qa2 (Qam _) (.int .i64 ((2*j:Nat):Int)) kj kj (fun W=>by kernel_rfl) <| Qa2 (Qam _) (.pointer (some ⟨gyT,oyT+(2*j)*99,none⟩)) kj kj (fun W=>(Qan 23 _ _ .i64 (2*j) gyT oyT ts.length c_t 50 99 a_t (hay (by omega)) rfl kj kj kj kj (by omega))) ?_
      refine Qa2 (Qam _) (.pointer (some ⟨gyT,oyT+(2*j)*99+1,none⟩)) kj kj (fun W=>by kernel_rfl) <| QaM (Qam _) (.int .i64 ny.n.nm) kj kj (fun W hR=>(Qai 3 _ _ (.int .i64 ny.n.nm) (NdAt.at3 (NdAt.ext hny (Rely.Ext.trans (Qaz _) hR))).2.1 rfl kj kj)) <| Qa2 (Qam _) (.slice a_t ts.length c_t) kj kj (fun W=>by kernel_rfl) <| Qa2 (Qam _) (.int .i64 ((x:Nat):Int)) kj kj (fun W=>by kernel_rfl) <| Qa2 (Qam _) (.pointer (some ⟨gzT,ozT+(x)*99,none⟩)) kj kj (fun W=>(Qan 23 _ _ .i64 (x) gzT ozT ts.length c_t 50 99 a_t (haz (by omega)) rfl kj kj kj kj (by omega))) <| Qa2 (Qam _) (.pointer (some ⟨gzT,ozT+(x)*99+1,none⟩)) kj kj (fun W=>by kernel_rfl) <| QaM (Qam _) (.int .i64 nz.n.nm) kj kj (fun W hR=>(Qai 3 _ _ (.int .i64 nz.n.nm) (NdAt.at3 (NdAt.ext hnz (Rely.Ext.trans (Qaz _) hR))).2.1 rfl kj kj)) <| Qda (hF _ fun W6 e6=>?_)
      simp only [List.nil_append,List.cons_append,List.take_succ_cons,List.take_zero,List.drop_succ_cons,List.drop_zero,finE,up]
      clear hF
      have x6:=Ext.tr xx2 e6
      refine Qaa (.bool false) 93 rfl kj (Qag (u:=.bool ((ny.n.nm==nz.n.nm))) kj (congrArg Value.bool (beq_eq_false_iff_ne.2 hq.2))) <| sg 1 kj <| sgN hK34 <| cond_false kj <| wp_skip <| hK33 _ _ <| Qad <| sg 1 kj <| Qaa (.int .i64 (((2*(j+1):Nat):Int))) 76 rfl kj (Qag (u:=.int .i64 (IntKind.i64.wrap (((2*j:Nat):Int)+2))) kj (congrArg (Value.int .i64) ((IntWalk.i64_in _ (by omega)).trans (by omega)))) <| sg 1 kj ?_
      refine Qaj ?_
      have y4_6:=(Rely.Ext.trans e5 e6)
      repeat (first | with_reducible refine goX1 ?_ | with_reducible refine goX2 ?_ | with_reducible refine goX3 ?_)
      exact Qap (j+1) ⟨kj,kj,kj,kj,trivial⟩ ⟨(by omega),(fun j2 hj=>by by_cases e:j2=j; (rw [e]; exact hjn); exact hjs j2 (by omega)),y4_6,x6⟩ (by show ts.length-(j+1)<ts.length-j; omega)
    ·skip
     have h74:¬ 2*j<x:=by have:=of_decide_eq_false c32; omega
     refine wp_exit <| hK10 _ _ <| Qad <| sg 1 kj <| Qaa (.int .i64 ((x+1:Nat):Int)) 23 rfl kj (Qag (u:=.int .i64 (IntKind.i64.wrap (((x:Nat):Int)+1))) kj (congrArg (Value.int .i64) (i64n _ _ (by omega) (by omega)))) <| sg 1 kj <| Qaj ?_
     have y2_4:=(Rely.Ext.trans e3 e4)
     repeat (first | with_reducible refine goX1 ?_ | with_reducible refine goX2 ?_ | with_reducible refine goX3 ?_)
     exact Qap (x+1) ⟨kj,kj,kj,trivial⟩ ⟨(by omega),(fun j hj=>by by_cases e:j=x; (rw [e]; exact hb); exact hall j (by omega)),(by rw [show (x+1+1)/2=mm+1 by omega]; exact QiX (by rw [show (x+1)/2=mm by omega] at hnd; exact hnd) (fun j2 hj=>hjs j2 (by omega))),(Rely.Ext.trans y2_4 e5),xx2⟩ (by show ts.length-(x+1)<ts.length-x; omega)
 ·skip
  have heq21:x=ts.length:=by have:=of_decide_eq_false c9; omega
  refine wp_exit <| hK5 _ _ <| sgB kj <| wp_ret ?_
  repeat (first | with_reducible refine goR1 ?_ | with_reducible refine goR2 ?_)
  exact (show bodyPost _ _ _ .ret _ _ from ret1 (.bool true) rfl (Qar kj) ⟨congrArg (fun z=>Ending.returned (.bool z)) (((chk3 (Qcj hL) h0 (decide_eq_true (heq21▸hnd)) h2).trans (Qg8 (heq21▸hall)))).symm,xx1⟩)
theorem QmK (ts : List NdV) (a_t:Option Addr) (c_t B1:Nat) (w:World) (ht:TrAt B1 w a_t ts) (htl:ts.length≤100000) (hmt:∀ i,i<ts.length→(ndi ts i).n.ms.length≤1000000):Calls Tryd.prog 12 #[.slice a_t ts.length c_t] w (Ret w (.bool (chkT ts))):=by
  obtain ⟨L,hL,hL2,-,hL4⟩:=Qd6 ts.length htl
  by_cases h0:L=0
  · exact Qml ts a_t c_t B1 w ht htl hmt L hL hL2 hL4 h0
  cases h2:anyU ts (L/2) with
  | false=>exact Qmk ts a_t c_t B1 w ht htl hmt L hL hL2 hL4 h0 h2
  | true=>exact Qmj ts a_t c_t B1 w ht htl hmt L hL hL2 hL4 h0 h2
end Go.Proofs.YthfkppjajmjpnaaDoor.Te
end
section
namespace Go.Proofs.YthfkppjajmjpnaaDoor.Te
open Go Go.RowKit
open Rely Auto Own Seat Sha
theorem Qmm (ts : List NdV) (a_t:Option Addr) (c_t B1:Nat) (w:World) (ht:TrAt B1 w a_t ts) (htl:ts.length≤100000) (hmt:∀ i,i<ts.length→(ndi ts i).n.ms.length≤1000000) (b:Bool) (h:chkT ts=b):Calls Tryd.prog 12 #[.slice a_t ts.length c_t] w (Ret w (.bool b)):=h▸QmK ts a_t c_t B1 w ht htl hmt
end Go.Proofs.YthfkppjajmjpnaaDoor.Te
end
section
namespace Go.Proofs.YthfkppjajmjpnaaDoor.Te
open Go Go.RowKit
open Rely Auto Own Seat Sha
end Go.Proofs.YthfkppjajmjpnaaDoor.Te
end
section
namespace Go.Proofs.YthfkppjajmjpnaaDoor.Te
open Go Go.RowKit
open Rely Auto Own Seat Sha
def dbl (i : Int):Int:=IntKind.i64.wrap (2*i)
def resL (ts : List NdV) (x k:Nat):List Int:=((x:Nat):Int)::((ndi ts x).n.ms.take k).map dbl
theorem Qfh (ts : List NdV) (x k:Nat):(resL ts x k).length≤k+1:=by unfold resL; simp; omega
theorem QfB {ts : List NdV} {x k:Nat} (h:k<(ndi ts x).n.ms.length):resL ts x (k+1)=resL ts x k++[dbl (nth (ndi ts x).n.ms k)]:=by
  unfold resL
  rw [List.take_add_one,List.map_append,List.cons_append,List.getElem?_eq_getElem h]
  simp [nth,List.getD_eq_getElem?_getD,List.getElem?_eq_getElem h]
def resN (ts : List NdV):Nat→Nat→List Int
  | 0,x=>if (ndi ts x).n.us=true then resL ts x (ndi ts x).n.ms.length else []
  | k+1,x=>if (ndi ts x).n.us=true then resL ts x (ndi ts x).n.ms.length else if kidL ((x:Nat):Int)<0 then [] else resN ts k (kidL ((x:Nat):Int)).toNat++resN ts k (kidR ((x:Nat):Int)).toNat
theorem Qfe {ts : List NdV} {x:Nat} (k:Nat) (h:(ndi ts x).n.us=true):resN ts k x=resL ts x (ndi ts x).n.ms.length:=by cases k <;> (unfold resN; rw [if_pos h])
theorem Qff {ts : List NdV} {x:Nat} (k:Nat) (h:(ndi ts x).n.us=false) (h2:kidL ((x:Nat):Int)<0):resN ts k x=[]:=by cases k <;> (unfold resN; rw [if_neg (by rw [h]; decide)]); rw [if_pos h2]
theorem Qfg {ts : List NdV} {x l r:Nat} (k:Nat) (h:(ndi ts x).n.us=false) (hl:kidL ((x:Nat):Int)=((l:Nat):Int)) (hr:kidR ((x:Nat):Int)=((r:Nat):Int)):resN ts (k+1) x=resN ts k l++resN ts k r:=by
  show (if _ then _ else if _ then _ else _)=_
  rw [if_neg (by rw [h]; decide),if_neg (by omega),hl,hr]; rfl
theorem Qdk {ts : List NdV} {b:Nat} (hm:∀ i,i<ts.length→(ndi ts i).n.ms.length≤b):∀ k x,(resN ts k x).length≤2^k*(b+1):=by
  have h0:∀ x,(resL ts x (ndi ts x).n.ms.length).length≤b+1:=fun x=>by
    have h1:=Qfh ts x (ndi ts x).n.ms.length
    rcases Nat.lt_or_ge x ts.length with h | h
    · have:=hm x h; omega
    · have:(ndi ts x).n.ms.length=0:=by unfold ndi; rw [List.getD_eq_getElem?_getD,List.getElem?_eq_none h]; rfl
      omega
  intro k
  induction k with
  | zero=>intro x; unfold resN; split; (have:=h0 x; omega); exact Nat.zero_le _
  | succ k ih =>
    intro x; unfold resN; split
    · exact qT (h0 x) (Nat.le_mul_of_pos_left _ (Nat.two_pow_pos _))
    · split
      · exact Nat.zero_le _
      · rw [List.length_append]; have h1:=ih (kidL ((x:Nat):Int)).toNat; have h2:=ih (kidR ((x:Nat):Int)).toNat; rw [Nat.pow_succ,Nat.mul_right_comm]; omega
theorem Qlf : Qbx (fun n x=>decide (lv x≤5)&&(decide (kidL x=-1)&&decide (kidR x=-1) || (Qa4 (kidL x) n&&Qa4 (kidR x) n&&decide (lv (kidL x)=lv x-1)&&decide (lv (kidR x)=lv x-1))))=true:=by decide +kernel
def resT (ts : List NdV) (x:Nat):List Int:=resN ts 5 x
theorem QbP {x n:Int} (h:Qa4 x n=true):lv x≤5∧((kidL x=-1∧kidR x=-1)∨(Qa4 (kidL x) n=true∧Qa4 (kidR x) n=true∧lv (kidL x)=lv x-1∧lv (kidR x)=lv x-1)):=by
  have:=QaN Qlf h
  simpa [and_assoc] using this
theorem QbL {x n:Int} (h:Qa4 x n=true):0≤x:=by unfold Qa4 at h; simp at h; omega
theorem QbQ {x n:Int} (h:Qa4 x n=true):x≤2*n-2:=by unfold Qa4 at h; simp at h; omega
set_option maxRecDepth 100000 in
theorem QjB (ts : List NdV) (a_t:Option Addr) (c_t B1:Nat) (htl:ts.length≤100000) (hmt:∀ i,i<ts.length→(ndi ts i).n.ms.length≤1000000) (w:World) (ht:TrAt B1 w a_t ts) (hT:TabAt w) (kN:Nat) (x:Nat) (hx:x<ts.length) (hus:(ndi ts x).n.us=true):Calls Tryd.prog 73 #[.slice a_t ts.length c_t,.int .i64 ((x:Nat):Int)] w (Qbs w (OwnN .i64 3 w.heap.size (resN ts kN x))):=by
 refine enter 48 [(0,.slice a_t ts.length c_t),(1,.int .i64 ((x:Nat):Int))] Tryd.func73 rfl rfl kj rfl <| sgB kj <| wp_seq_k fun K2 hK2=>wp_seq_k fun K3 hK3=>?_
 obtain ⟨gyT,oyT,hay,hnys⟩:=TrAt.ext ht (Rely.Ext.refl w)
 have hny:=hnys (x) (by omega)
 obtain ⟨ny,eny⟩:∃ z,z=ndi ts (x):=⟨_,rfl⟩
 rw [←eny] at hny
 have oky:=hny.ok
 have rdy:=hny.rd
 skip
 ·skip
  refine Qad <| sg 2 kj <| Qaa (.pointer (some ⟨gyT,oyT+(x)*99,none⟩)) 12 rfl kj (Qan 23 _ _ .i64 (x) gyT oyT ts.length c_t 50 99 a_t (hay (by omega)) rfl kj kj kj kj (by omega)) <| sg 1 kj <| Qaa (.bool true) 14 rfl kj (Qai 4 _ _ (.bool true) ((NdAt.at3 hny).1.trans (congrArg (fun z=>some (Value.bool z)) (eny▸hus))) rfl kj kj) <| sgN hK3 <| cond_true kj <| sgC fun K4 hK4=>sg 1 kj <| Qa9 (ints .i64 ([((x:Nat):Int)])) 3 1 16 rfl kj kj fun g5 W1 l5 e1 r5_1=>?_
  refine sg 1 kj <| sgN hK4 <| wp_seq_k fun K6 hK6=>wp_seq_k fun K7 hK7=>?_
  skip
  ·skip
   refine Qad <| sg 2 kj <| Qaa (.pointer (some ⟨gyT,oyT+(x)*99,none⟩)) 19 rfl kj (Qan 23 _ _ .i64 (x) gyT oyT ts.length c_t 50 99 a_t (hay (by omega)) rfl kj kj kj kj (by omega)) <| sg 1 kj ?_
   have y0_1:=(Rely.Ext.trans (Rely.Ext.refl w) e1)
   refine Qaa (.slice ny.a ny.n.ms.length ny.c) 21 rfl kj (Qai 24 _ _ (.slice ny.a ny.n.ms.length ny.c) (NdAt.at3 (NdAt.ext hny y0_1)).2.2 rfl kj kj) <| sg 2 kj <| sgN hK7 <| wp_block <| Qay (fun (s1:Nat×Value)=>[(0,.slice a_t ts.length c_t),(1,.int .i64 ((x:Nat):Int)),(5,s1.2),(21,.slice ny.a ny.n.ms.length ny.c),(22,.int .i64 ((ny.n.ms.length:Nat):Int)),(23,.int .i64 ((s1.1:Nat):Int))]) (fun (s1:Nat×Value) W=>(s1.1≤(ndi ts x).n.ms.length)∧(OwnN .i64 3 w.heap.size (resL ts x s1.1) s1.2 W)∧(Below w.heap.size W1 W)∧(Ext w W)) (fun (s1:Nat×Value)=>(ndi ts x).n.ms.length-s1.1) (0,(.slice (some ⟨g5,0,none⟩) 1 1)) ⟨kj,kj,kj,kj,kj,kj,trivial⟩ ⟨(Nat.zero_le _),(Qb4 (xs:=[((x:Nat):Int)]) rfl (qT (Rely.Ext.refl w).size l5) r5_1 (by decide)),(RowKit.Below.refl _ W1),(Ext.tr (Rely.Ext.refl w) e1)⟩ fun s1 X1 V1 hI1=>?_
   obtain ⟨k,u⟩:=s1
   obtain ⟨hk,hu,kk1,xx1⟩:=hI1
   replace hk:k≤(ndi ts x).n.ms.length:=hk
   replace hu:OwnN .i64 3 w.heap.size (resL ts x k) u V1:=hu
   replace kk1:Below w.heap.size W1 V1:=kk1
   replace xx1:Ext w V1:=xx1
   have l2:=kk1
   have hk2:k≤ny.n.ms.length:=eny▸hk
   have hnm:ny.n.ms.length≤1000000:=eny▸hmt x hx
   refine sgB kj <| wp_seq_k fun K9 hK9=>Qaq (t:=decide (((k:Nat):Int)<((ny.n.ms.length:Nat):Int))) kj (fun c10=>?_) (fun c10=>?_)
   ·skip
    have hlt24:k<ny.n.ms.length:=by have:=of_decide_eq_true c10; omega
    have hlt:=hlt24
    have y0_2:=(Ext.low y0_1 l2 (Rely.Ext.refl w).size)
    have hnx_11:(ny.n.ms).length=ny.n.ms.length:=rfl
    obtain ⟨gcx_11,ocx_11,hax_11,hlx_11,hcx_11⟩:=QaO (RdK.here (RdK.ext rdy y0_2)) (by rw [hnx_11]; omega)
    refine wp_skip <| hK9 _ _ <| wp_seq_k fun K12 hK12=>wp_block <| sgC fun K13 hK13=>Qaa (.pointer (some ⟨gcx_11,ocx_11+k,none⟩)) 25 rfl kj (Qa1 24 _ _ .i64 k gcx_11 ocx_11 ny.n.ms.length ny.c 3 ny.a _ hax_11 rfl rfl kj kj kj kj (Nat.lt_of_lt_of_eq (show k<ny.n.ms.length by omega) hnx_11.symm)) <| Qaa (.int .i64 (nth (ny.n.ms) (k))) 26 rfl kj (Qai 3 _ _ (.int .i64 (nth (ny.n.ms) (k))) (hcx_11 k (Nat.lt_of_lt_of_eq (show k<ny.n.ms.length by omega) hnx_11.symm)) rfl kj kj) <| sg 1 kj <| sgN hK13 <| Qad ?_
    refine sg 2 kj <| Qaa (.int .i64 ((dbl (nth ny.n.ms k)))) 29 rfl kj (Qag (u:=.int .i64 (IntKind.i64.wrap (2*(nth (ny.n.ms) (k))))) kj (congrArg (Value.int .i64) rfl)) <| Qa9 (ints .i64 ([((dbl (nth ny.n.ms k)))])) 3 1 30 rfl kj kj fun g14 W3 l14 e3 r14_3=>?_
    have b14:=qT xx1.size l14
    refine QaC (k:=.i64) (T:=3) (xs:=resL ts x k) (ys:=[dbl (nth ny.n.ms k)]) (V:=w) 8 (.tmp 27) (.tmp 30) 24 rfl kj kj (by decide) 31 rfl kj kj kj (hu.ext e3) (QaJ (xs:=[((dbl (nth ny.n.ms k)))]) (n:=1) rfl r14_3 (Qa5 r14_3) (show 1≤maxLen from by decide)) (by have h9:=Qfh ts x k; have h8:=hmt x hx; rw [eny] at hlt; show (resL ts x k).length+1≤1000000000; omega) (Rely.Ext.trans y0_2 e3) fun u2 W4 f16 y4 l4=>?_
    refine sg 1 kj <| Qaj <| hK12 _ _ <| Qad <| Qaa (.int .i64 ((k+1:Nat):Int)) 32 rfl kj (Qag (u:=.int .i64 (IntKind.i64.wrap (((k:Nat):Int)+1))) kj (congrArg (Value.int .i64) (i64n _ _ (by omega) (by omega)))) <| sg 1 kj <| Qaj ?_
    repeat (first | with_reducible refine goX1 ?_ | with_reducible refine goX2 ?_ | with_reducible refine goX3 ?_)
    exact Qap ((k+1),u2) ⟨kj,kj,kj,kj,kj,kj,trivial⟩ ⟨(eny▸hlt),(by rw [QfB (eny▸hlt),←eny]; exact f16),(RowKit.Below.trans (RowKit.Below.trans l2 (RowKit.Below.mono e3 y0_2.size)) l4),(Ext.low (Ext.tr xx1 e3) l4 (Rely.Ext.refl w).size)⟩ (by show (ndi ts x).n.ms.length-(k+1)<(ndi ts x).n.ms.length-k; rw [eny] at hlt; omega)
   ·skip
    have heq24:k=ny.n.ms.length:=by have:=of_decide_eq_false c10; omega
    have hlt:=heq24
    refine wp_exit <| hK6 _ _ <| sgB kj <| wp_ret ?_
    repeat (first | with_reducible refine goR1 ?_ | with_reducible refine goR2 ?_)
    exact (show bodyPost _ _ _ .ret _ _ from ret1 (u) rfl (Qar kj) ⟨u,rfl,xx1,by rw [Qfe kN hus,show (ndi ts x).n.ms.length=k by rw [←eny,hlt]]; exact hu⟩)
set_option maxRecDepth 100000 in
theorem QjA (ts : List NdV) (a_t:Option Addr) (c_t B1:Nat) (htl:ts.length≤100000) (hmt:∀ i,i<ts.length→(ndi ts i).n.ms.length≤1000000) (w:World) (ht:TrAt B1 w a_t ts) (hT:TabAt w) (k:Nat) (x:Nat) (hx:x<ts.length) (hus:(ndi ts x).n.us=false) (h0:kidL ((x:Nat):Int)=-1) (hkid:∀ W,TabAt W→Calls Tryd.prog 36 #[.int .i64 ((x:Nat):Int)] W (Ret W (.tuple #[.int .i64 (-1),.int .i64 (-1)]))):Calls Tryd.prog 73 #[.slice a_t ts.length c_t,.int .i64 ((x:Nat):Int)] w (Qbs w (OwnN .i64 3 w.heap.size (resN ts k x))):=by
 refine enter 48 [(0,.slice a_t ts.length c_t),(1,.int .i64 ((x:Nat):Int))] Tryd.func73 rfl rfl kj rfl <| sgB kj <| wp_seq_k fun K2 hK2=>wp_seq_k fun K3 hK3=>?_
 obtain ⟨gyT,oyT,hay,hnys⟩:=TrAt.ext ht (Rely.Ext.refl w)
 have hny:=hnys (x) (by omega)
 obtain ⟨ny,eny⟩:∃ z,z=ndi ts (x):=⟨_,rfl⟩
 rw [←eny] at hny
 have oky:=hny.ok
 have rdy:=hny.rd
 skip
 ·skip
  refine Qad <| sg 2 kj <| Qaa (.pointer (some ⟨gyT,oyT+(x)*99,none⟩)) 12 rfl kj (Qan 23 _ _ .i64 (x) gyT oyT ts.length c_t 50 99 a_t (hay (by omega)) rfl kj kj kj kj (by omega)) <| sg 1 kj <| Qaa (.bool false) 14 rfl kj (Qai 4 _ _ (.bool false) ((NdAt.at3 hny).1.trans (congrArg (fun z=>some (Value.bool z)) (eny▸hus))) rfl kj kj) <| sgN hK3 <| cond_false kj <| wp_skip <| hK2 _ _ <| sgC fun K4 hK4=>?_
  refine sg 1 kj <| Qak (.tuple #[.int .i64 (-1),.int .i64 (-1)]) 36 #[.int .i64 ((x:Nat):Int)] 36 rfl kj kj (hkid _ (TabAt.ext hT (Rely.Ext.refl w))) fun W1 e1=>sg 5 kj <| sgN hK4 <| wp_seq_k fun K5 hK5=>sgB kj <| cond_true kj <| sgB kj <| wp_ret ?_
  repeat (first | with_reducible refine goR1 ?_ | with_reducible refine goR2 ?_)
  exact (show bodyPost _ _ _ .ret _ _ from ret1 (.slice none 0 0) rfl (Qar kj) ⟨_,rfl,(Ext.tr (Rely.Ext.refl w) e1),by rw [Qff k hus (by omega)]; exact QbM _ _ _ _⟩)
set_option maxRecDepth 100000 in
theorem QlR (ts : List NdV) (a_t:Option Addr) (c_t B1:Nat) (htl:ts.length≤100000) (hmt:∀ i,i<ts.length→(ndi ts i).n.ms.length≤1000000) (w:World) (ht:TrAt B1 w a_t ts) (hT:TabAt w) (k:Nat) (x:Nat) (hx:x<ts.length) (hus:(ndi ts x).n.us=false) (hk5:k≤5) (l r:Nat) (hl0:kidL ((x:Nat):Int)=((l:Nat):Int)) (hr0:kidR ((x:Nat):Int)=((r:Nat):Int)) (hkid:∀ W,TabAt W→Calls Tryd.prog 36 #[.int .i64 ((x:Nat):Int)] W (Ret W (.tuple #[.int .i64 ((l:Nat):Int),.int .i64 ((r:Nat):Int)]))) (hl:∀ w,TrAt B1 w a_t ts→TabAt w→Calls Tryd.prog 73 #[.slice a_t ts.length c_t,.int .i64 ((l:Nat):Int)] w (Qbs w (OwnN .i64 3 w.heap.size (resN ts k l)))) (hr:∀ w,TrAt B1 w a_t ts→TabAt w→Calls Tryd.prog 73 #[.slice a_t ts.length c_t,.int .i64 ((r:Nat):Int)] w (Qbs w (OwnN .i64 3 w.heap.size (resN ts k r)))):Calls Tryd.prog 73 #[.slice a_t ts.length c_t,.int .i64 ((x:Nat):Int)] w (Qbs w (OwnN .i64 3 w.heap.size (resN ts (k+1) x))):=by
 refine enter 48 [(0,.slice a_t ts.length c_t),(1,.int .i64 ((x:Nat):Int))] Tryd.func73 rfl rfl kj rfl <| sgB kj <| wp_seq_k fun K2 hK2=>wp_seq_k fun K3 hK3=>?_
 obtain ⟨gyT,oyT,hay,hnys⟩:=TrAt.ext ht (Rely.Ext.refl w)
 have hny:=hnys (x) (by omega)
 obtain ⟨ny,eny⟩:∃ z,z=ndi ts (x):=⟨_,rfl⟩
 rw [←eny] at hny
 have oky:=hny.ok
 have rdy:=hny.rd
 skip
 ·skip
  refine Qad <| sg 2 kj <| Qaa (.pointer (some ⟨gyT,oyT+(x)*99,none⟩)) 12 rfl kj (Qan 23 _ _ .i64 (x) gyT oyT ts.length c_t 50 99 a_t (hay (by omega)) rfl kj kj kj kj (by omega)) <| sg 1 kj <| Qaa (.bool false) 14 rfl kj (Qai 4 _ _ (.bool false) ((NdAt.at3 hny).1.trans (congrArg (fun z=>some (Value.bool z)) (eny▸hus))) rfl kj kj) <| sgN hK3 <| cond_false kj <| wp_skip <| hK2 _ _ <| sgC fun K4 hK4=>?_
  refine sg 1 kj <| Qak (.tuple #[.int .i64 ((l:Nat):Int),.int .i64 ((r:Nat):Int)]) 36 #[.int .i64 ((x:Nat):Int)] 36 rfl kj kj (hkid _ (TabAt.ext hT (Rely.Ext.refl w))) fun W1 e1=>?_
  have x1:=Ext.tr (Rely.Ext.refl w) e1
  refine sg 5 kj <| sgN hK4 <| wp_seq_k fun K5 hK5=>sgC fun K6 hK6=>sg 1 kj <| Qaa (.bool false) 40 rfl kj (Qag (u:=.bool (decide (((l:Nat):Int)<0))) kj (congrArg Value.bool (decide_eq_false (by omega)))) <| sgN hK6 <| cond_false kj <| wp_skip <| hK5 _ _ ?_
  refine sgC fun K7 hK7=>sg 2 kj <| Qa0 (fun v W'=>(OwnN .i64 3 W1.heap.size (resN ts k l)) v W'∧Ext W1 W') 73 #[.slice a_t ts.length c_t,.int .i64 ((l:Nat):Int)] 43 rfl kj kj ((hl _ (TrAt.ext ht x1) (TabAt.ext hT x1)).mono (by rintro e w' ⟨v,rfl,e1,hv⟩; exact ⟨v,rfl,hv,e1⟩)) fun vv8 W2 hh8=>?_
  obtain ⟨hv8,e2⟩:=hh8
  have x2:=Ext.tr x1 e2
  replace hv8:OwnN .i64 3 w.heap.size (resN ts k l) vv8 W2:=OwnN.base x1.size hv8
  refine sg 2 kj <| Qa0 (fun v W'=>(OwnN .i64 3 W2.heap.size (resN ts k r)) v W'∧Ext W2 W') 73 #[.slice a_t ts.length c_t,.int .i64 ((r:Nat):Int)] 46 rfl kj kj ((hr _ (TrAt.ext ht x2) (TabAt.ext hT x2)).mono (by rintro e w' ⟨v,rfl,e1,hv⟩; exact ⟨v,rfl,hv,e1⟩)) fun vv9 W3 hh9=>?_
  obtain ⟨hv9,e3⟩:=hh9
  refine QaC (k:=.i64) (T:=3) (xs:=resN ts k l) (ys:=resN ts k r) (V:=w) 8 (.tmp 43) (.tmp 46) 24 rfl kj kj (by decide) 47 rfl kj kj kj (hv8.ext e3) (OwnN.rd hv9) (by have h9:=Qdk hmt k l; have h8:=Qdk hmt k r; have h7:=Nat.pow_le_pow_right (show 0<2 by decide) hk5; omega) (Rely.Ext.trans (Rely.Ext.trans (Rely.Ext.trans (Rely.Ext.refl w) e1) e2) e3) fun u2 W4 f11 y4 l4=>?_
  refine sg 1 kj <| sgN hK7 <| wp_ret ?_
  repeat (first | with_reducible refine goR1 ?_ | with_reducible refine goR2 ?_)
  exact (show bodyPost _ _ _ .ret _ _ from ret1 (u2) rfl (Qar kj) ⟨_,rfl,(Ext.low (Ext.tr x2 e3) l4 (Rely.Ext.refl w).size),by rw [Qfg k hus hl0 hr0]; exact f11⟩)
theorem resP (ts : List NdV) (a_t:Option Addr) (c_t B1:Nat) (htl:ts.length≤100000) (hmt:∀ i,i<ts.length→(ndi ts i).n.ms.length≤1000000) (L:Nat) (hlen:ts.length+1=2*L) (hTr:QaF ((L:Nat):Int)=true):∀ (k x:Nat),k≤5→x<ts.length→lv ((x:Nat):Int)≤((k:Nat):Int)→∀ w,TrAt B1 w a_t ts→TabAt w→Calls Tryd.prog 73 #[.slice a_t ts.length c_t,.int .i64 ((x:Nat):Int)] w (Qbs w (OwnN .i64 3 w.heap.size (resN ts k x))):=by
  intro k
  induction k with
  | zero =>
    intro x hk hx hl w ht hT
    cases hus:(ndi ts x).n.us with
    | true=>exact QjB ts a_t c_t B1 htl hmt w ht hT 0 x hx hus
    | false =>
      have hi:i64 ((x:Nat):Int):=⟨by omega,by omega⟩
      have hl:=(show lv ((x:Nat):Int)≤0 from hl)
      have h0:kidL ((x:Nat):Int)=-1:=by unfold kidL; rw [if_pos hl]
      have h1:kidR ((x:Nat):Int)=-1:=by unfold kidR; rw [if_pos hl]
      exact QjA ts a_t c_t B1 htl hmt w ht hT 0 x hx hus h0 (fun W=>by have:=(fun W h=>quiet (children _ hi W h)) W; rw [h0,h1] at this; exact this)
  | succ k ih =>
    intro x hk hx hl w ht hT
    cases hus:(ndi ts x).n.us with
    | true=>exact QjB ts a_t c_t B1 htl hmt w ht hT (k+1) x hx hus
    | false =>
      have hi:i64 ((x:Nat):Int):=⟨by omega,by omega⟩
      rcases QbP (QaK hTr (x:=x) (by omega)) with ⟨-,⟨h0,h1⟩ | ⟨h2,h3,h4,h5⟩⟩
      · exact QjA ts a_t c_t B1 htl hmt w ht hT (k+1) x hx hus h0 (fun W=>by have:=(fun W h=>quiet (children _ hi W h)) W; rw [h0,h1] at this; exact this)
      · obtain ⟨l,hl0⟩:=Int.eq_ofNat_of_zero_le (QbL h2)
        obtain ⟨r,hr0⟩:=Int.eq_ofNat_of_zero_le (QbL h3)
        have hll:=QbQ h2
        have hrl:=QbQ h3
        exact QlR ts a_t c_t B1 htl hmt w ht hT k x hx hus (by omega) l r hl0 hr0 (fun W=>by have:=(fun W h=>quiet (children _ hi W h)) W; rw [hl0,hr0] at this; exact this) (fun w ht hT=>ih l (by omega) (by omega) (by rw [←hl0]; omega) w ht hT) (fun w ht hT=>ih r (by omega) (by omega) (by rw [←hr0]; omega) w ht hT)
set_option maxRecDepth 100000 in
theorem Qj9 (ts : List NdV) (a_t:Option Addr) (c_t B1:Nat) (htl:ts.length≤100000) (hmt:∀ i,i<ts.length→(ndi ts i).n.ms.length≤1000000) (w:World) (ht:TrAt B1 w a_t ts) (kN:Nat) (x:Nat) (hx:x<ts.length) (hus:(ndi ts x).n.us=true):Calls Tryd.prog 40 #[.slice a_t ts.length c_t,.int .i64 ((x:Nat):Int)] w (Qbs w (OwnN .i64 3 w.heap.size (resN ts kN x))):=by
 refine enter 53 [(0,.slice a_t ts.length c_t),(1,.int .i64 ((x:Nat):Int))] Tryd.func40 rfl rfl kj rfl <| sgB kj <| wp_seq_k fun K2 hK2=>wp_seq_k fun K3 hK3=>?_
 obtain ⟨gyT,oyT,hay,hnys⟩:=TrAt.ext ht (Rely.Ext.refl w)
 have hny:=hnys (x) (by omega)
 obtain ⟨ny,eny⟩:∃ z,z=ndi ts (x):=⟨_,rfl⟩
 rw [←eny] at hny
 have oky:=hny.ok
 have rdy:=hny.rd
 skip
 ·skip
  refine Qad <| sg 2 kj <| Qaa (.pointer (some ⟨gyT,oyT+(x)*99,none⟩)) 11 rfl kj (Qan 23 _ _ .i64 (x) gyT oyT ts.length c_t 50 99 a_t (hay (by omega)) rfl kj kj kj kj (by omega)) <| sg 1 kj <| Qaa (.bool true) 13 rfl kj (Qai 4 _ _ (.bool true) ((NdAt.at3 hny).1.trans (congrArg (fun z=>some (Value.bool z)) (eny▸hus))) rfl kj kj) <| sgN hK3 <| cond_true kj <| sgC fun K4 hK4=>sg 1 kj <| Qa9 (ints .i64 ([((x:Nat):Int)])) 3 1 15 rfl kj kj fun g5 W1 l5 e1 r5_1=>?_
  refine sg 1 kj <| sgN hK4 <| wp_seq_k fun K6 hK6=>sgB kj <| wp_block <| Qay (fun (s1:Nat×Value)=>[(0,.slice a_t ts.length c_t),(1,.int .i64 ((x:Nat):Int)),(5,s1.2),(6,.int .i64 ((s1.1:Nat):Int))]) (fun (s1:Nat×Value) W=>(s1.1≤(ndi ts x).n.ms.length)∧(OwnN .i64 3 w.heap.size (resL ts x s1.1) s1.2 W)∧(Below w.heap.size W1 W)∧(Ext w W)) (fun (s1:Nat×Value)=>(ndi ts x).n.ms.length-s1.1) (0,(.slice (some ⟨g5,0,none⟩) 1 1)) ⟨kj,kj,kj,kj,trivial⟩ ⟨(Nat.zero_le _),(Qb4 (xs:=[((x:Nat):Int)]) rfl (qT (Rely.Ext.refl w).size l5) r5_1 (by decide)),(RowKit.Below.refl _ W1),(Ext.tr (Rely.Ext.refl w) e1)⟩ fun s1 X1 V1 hI1=>?_
  obtain ⟨k,u⟩:=s1
  obtain ⟨hk,hu,kk1,xx1⟩:=hI1
  replace hk:k≤(ndi ts x).n.ms.length:=hk
  replace hu:OwnN .i64 3 w.heap.size (resL ts x k) u V1:=hu
  replace kk1:Below w.heap.size W1 V1:=kk1
  replace xx1:Ext w V1:=xx1
  have l2:=kk1
  obtain ⟨gyT,oyT,hay,hnys⟩:=TrAt.ext ht xx1
  have hny:=hnys (x) (by omega)
  obtain ⟨ny,eny⟩:∃ z,z=ndi ts (x):=⟨_,rfl⟩
  rw [←eny] at hny
  have oky:=hny.ok
  have rdy:=hny.rd
  have hk2:k≤ny.n.ms.length:=eny▸hk
  have hnm:ny.n.ms.length≤1000000:=eny▸hmt x hx
  refine wp_seq_k fun K8 hK8=>sgC fun K9 hK9=>sg 3 kj <| Qaa (.pointer (some ⟨gyT,oyT+(x)*99,none⟩)) 19 rfl kj (Qan 23 _ _ .i64 (x) gyT oyT ts.length c_t 50 99 a_t (hay (by omega)) rfl kj kj kj kj (by omega)) <| sg 1 kj <| Qaa (.slice ny.a ny.n.ms.length ny.c) 21 rfl kj (Qai 24 _ _ (.slice ny.a ny.n.ms.length ny.c) (NdAt.at3 hny).2.2 rfl kj kj) <| sg 2 kj <| sgN hK9 <| Qaq (t:=decide (((k:Nat):Int)<((ny.n.ms.length:Nat):Int))) kj (fun c10=>?_) (fun c10=>?_)
  ·skip
   have hlt:k<ny.n.ms.length:=by have:=of_decide_eq_true c10; have h7:=hk; rw [←eny] at h7; omega
   refine wp_skip <| hK8 _ _ <| wp_seq_k fun K11 hK11=>wp_block <| Qad <| sg 3 kj <| Qaa (.pointer (some ⟨gyT,oyT+(x)*99,none⟩)) 29 rfl kj (Qan 23 _ _ .i64 (x) gyT oyT ts.length c_t 50 99 a_t (hay (by omega)) rfl kj kj kj kj (by omega)) <| sg 1 kj <| Qaa (.slice ny.a ny.n.ms.length ny.c) 31 rfl kj (Qai 24 _ _ (.slice ny.a ny.n.ms.length ny.c) (NdAt.at3 hny).2.2 rfl kj kj) ?_
   have hnx_12:(ny.n.ms).length=ny.n.ms.length:=rfl
   obtain ⟨gcx_12,ocx_12,hax_12,hlx_12,hcx_12⟩:=QaO (RdK.here (RdK.ext rdy (Rely.Ext.refl V1))) (by rw [hnx_12]; omega)
   refine sg 1 kj <| Qaa (.pointer (some ⟨gcx_12,ocx_12+k,none⟩)) 33 rfl kj (Qa1 24 _ _ .i64 k gcx_12 ocx_12 ny.n.ms.length ny.c 3 ny.a _ hax_12 rfl rfl kj kj kj kj (Nat.lt_of_lt_of_eq (show k<ny.n.ms.length by omega) hnx_12.symm)) <| Qaa (.int .i64 (nth (ny.n.ms) (k))) 34 rfl kj (Qai 3 _ _ (.int .i64 (nth (ny.n.ms) (k))) (hcx_12 k (Nat.lt_of_lt_of_eq (show k<ny.n.ms.length by omega) hnx_12.symm)) rfl kj kj) <| Qaa (.int .i64 ((dbl (nth ny.n.ms k)))) 35 rfl kj (Qag (u:=.int .i64 (IntKind.i64.wrap (2*(nth (ny.n.ms) (k))))) kj (congrArg (Value.int .i64) rfl)) <| Qa9 (ints .i64 ([((dbl (nth ny.n.ms k)))])) 3 1 36 rfl kj kj fun g13 W3 l13 e3 r13_3=>?_
   have b13:=qT xx1.size l13
   have y0_2:=(Ext.low (Rely.Ext.trans (Rely.Ext.refl w) e1) l2 (Rely.Ext.refl w).size)
   refine QaC (k:=.i64) (T:=3) (xs:=resL ts x k) (ys:=[dbl (nth ny.n.ms k)]) (V:=w) 8 (.tmp 26) (.tmp 36) 24 rfl kj kj (by decide) 37 rfl kj kj kj (hu.ext e3) (QaJ (xs:=[((dbl (nth ny.n.ms k)))]) (n:=1) rfl r13_3 (Qa5 r13_3) (show 1≤maxLen from by decide)) (by have h9:=Qfh ts x k; have h8:=hmt x hx; rw [eny] at hlt; show (resL ts x k).length+1≤1000000000; omega) (Rely.Ext.trans y0_2 e3) fun u2 W4 f15 y4 l4=>?_
   refine sg 1 kj <| Qaj <| hK11 _ _ <| Qad <| sg 1 kj <| Qaa (.int .i64 ((k+1:Nat):Int)) 25 rfl kj (Qag (u:=.int .i64 (IntKind.i64.wrap (((k:Nat):Int)+1))) kj (congrArg (Value.int .i64) (i64n _ _ (by omega) (by omega)))) <| sg 1 kj <| Qaj ?_
   repeat (first | with_reducible refine goX1 ?_ | with_reducible refine goX2 ?_ | with_reducible refine goX3 ?_)
   exact Qap ((k+1),u2) ⟨kj,kj,kj,kj,trivial⟩ ⟨(eny▸hlt),(by rw [QfB (eny▸hlt),←eny]; exact f15),(RowKit.Below.trans (RowKit.Below.trans l2 (RowKit.Below.mono e3 y0_2.size)) l4),(Ext.low (Ext.tr xx1 e3) l4 (Rely.Ext.refl w).size)⟩ (by show (ndi ts x).n.ms.length-(k+1)<(ndi ts x).n.ms.length-k; rw [eny] at hlt; omega)
  ·skip
   have hlt:k=ny.n.ms.length:=by have:=of_decide_eq_false c10; have h7:=hk; rw [←eny] at h7; omega
   refine wp_exit <| hK6 _ _ <| sgB kj <| wp_ret ?_
   repeat (first | with_reducible refine goR1 ?_ | with_reducible refine goR2 ?_)
   exact (show bodyPost _ _ _ .ret _ _ from ret1 (u) rfl (Qar kj) ⟨u,rfl,xx1,by rw [Qfe kN hus,show (ndi ts x).n.ms.length=k by rw [←eny,hlt]]; exact hu⟩)
set_option maxRecDepth 100000 in
theorem Qj8 (ts : List NdV) (a_t:Option Addr) (c_t B1:Nat) (htl:ts.length≤100000) (hmt:∀ i,i<ts.length→(ndi ts i).n.ms.length≤1000000) (w:World) (ht:TrAt B1 w a_t ts) (k:Nat) (x:Nat) (hx:x<ts.length) (hus:(ndi ts x).n.us=false) (h0:kidL ((x:Nat):Int)=-1) (hkid:∀ W,Calls Tryd.prog 16 #[.int .i64 ((x:Nat):Int)] W (Ret W (.tuple #[.int .i64 (-1),.int .i64 (-1)]))):Calls Tryd.prog 40 #[.slice a_t ts.length c_t,.int .i64 ((x:Nat):Int)] w (Qbs w (OwnN .i64 3 w.heap.size (resN ts k x))):=by
 refine enter 53 [(0,.slice a_t ts.length c_t),(1,.int .i64 ((x:Nat):Int))] Tryd.func40 rfl rfl kj rfl <| sgB kj <| wp_seq_k fun K2 hK2=>wp_seq_k fun K3 hK3=>?_
 obtain ⟨gyT,oyT,hay,hnys⟩:=TrAt.ext ht (Rely.Ext.refl w)
 have hny:=hnys (x) (by omega)
 obtain ⟨ny,eny⟩:∃ z,z=ndi ts (x):=⟨_,rfl⟩
 rw [←eny] at hny
 have oky:=hny.ok
 have rdy:=hny.rd
 skip
 ·skip
  refine Qad <| sg 2 kj <| Qaa (.pointer (some ⟨gyT,oyT+(x)*99,none⟩)) 11 rfl kj (Qan 23 _ _ .i64 (x) gyT oyT ts.length c_t 50 99 a_t (hay (by omega)) rfl kj kj kj kj (by omega)) <| sg 1 kj <| Qaa (.bool false) 13 rfl kj (Qai 4 _ _ (.bool false) ((NdAt.at3 hny).1.trans (congrArg (fun z=>some (Value.bool z)) (eny▸hus))) rfl kj kj) <| sgN hK3 <| cond_false kj <| wp_skip <| hK2 _ _ <| sgC fun K4 hK4=>?_
  refine sg 1 kj <| Qak (.tuple #[.int .i64 (-1),.int .i64 (-1)]) 16 #[.int .i64 ((x:Nat):Int)] 41 rfl kj kj (hkid _) fun W1 e1=>sg 5 kj <| sgN hK4 <| wp_seq_k fun K5 hK5=>sgB kj <| cond_true kj <| sgB kj <| wp_ret ?_
  repeat (first | with_reducible refine goR1 ?_ | with_reducible refine goR2 ?_)
  exact (show bodyPost _ _ _ .ret _ _ from ret1 (.slice none 0 0) rfl (Qar kj) ⟨_,rfl,(Ext.tr (Rely.Ext.refl w) e1),by rw [Qff k hus (by omega)]; exact QbM _ _ _ _⟩)
set_option maxRecDepth 100000 in
theorem QlQ (ts : List NdV) (a_t:Option Addr) (c_t B1:Nat) (htl:ts.length≤100000) (hmt:∀ i,i<ts.length→(ndi ts i).n.ms.length≤1000000) (w:World) (ht:TrAt B1 w a_t ts) (k:Nat) (x:Nat) (hx:x<ts.length) (hus:(ndi ts x).n.us=false) (hk5:k≤5) (l r:Nat) (hl0:kidL ((x:Nat):Int)=((l:Nat):Int)) (hr0:kidR ((x:Nat):Int)=((r:Nat):Int)) (hkid:∀ W,Calls Tryd.prog 16 #[.int .i64 ((x:Nat):Int)] W (Ret W (.tuple #[.int .i64 ((l:Nat):Int),.int .i64 ((r:Nat):Int)]))) (hl:∀ w,TrAt B1 w a_t ts→Calls Tryd.prog 40 #[.slice a_t ts.length c_t,.int .i64 ((l:Nat):Int)] w (Qbs w (OwnN .i64 3 w.heap.size (resN ts k l)))) (hr:∀ w,TrAt B1 w a_t ts→Calls Tryd.prog 40 #[.slice a_t ts.length c_t,.int .i64 ((r:Nat):Int)] w (Qbs w (OwnN .i64 3 w.heap.size (resN ts k r)))):Calls Tryd.prog 40 #[.slice a_t ts.length c_t,.int .i64 ((x:Nat):Int)] w (Qbs w (OwnN .i64 3 w.heap.size (resN ts (k+1) x))):=by
 refine enter 53 [(0,.slice a_t ts.length c_t),(1,.int .i64 ((x:Nat):Int))] Tryd.func40 rfl rfl kj rfl <| sgB kj <| wp_seq_k fun K2 hK2=>wp_seq_k fun K3 hK3=>?_
 obtain ⟨gyT,oyT,hay,hnys⟩:=TrAt.ext ht (Rely.Ext.refl w)
 have hny:=hnys (x) (by omega)
 obtain ⟨ny,eny⟩:∃ z,z=ndi ts (x):=⟨_,rfl⟩
 rw [←eny] at hny
 have oky:=hny.ok
 have rdy:=hny.rd
 skip
 ·skip
  refine Qad <| sg 2 kj <| Qaa (.pointer (some ⟨gyT,oyT+(x)*99,none⟩)) 11 rfl kj (Qan 23 _ _ .i64 (x) gyT oyT ts.length c_t 50 99 a_t (hay (by omega)) rfl kj kj kj kj (by omega)) <| sg 1 kj <| Qaa (.bool false) 13 rfl kj (Qai 4 _ _ (.bool false) ((NdAt.at3 hny).1.trans (congrArg (fun z=>some (Value.bool z)) (eny▸hus))) rfl kj kj) <| sgN hK3 <| cond_false kj <| wp_skip <| hK2 _ _ <| sgC fun K4 hK4=>?_
  refine sg 1 kj <| Qak (.tuple #[.int .i64 ((l:Nat):Int),.int .i64 ((r:Nat):Int)]) 16 #[.int .i64 ((x:Nat):Int)] 41 rfl kj kj (hkid _) fun W1 e1=>?_
  have x1:=Ext.tr (Rely.Ext.refl w) e1
  refine sg 5 kj <| sgN hK4 <| wp_seq_k fun K5 hK5=>sgC fun K6 hK6=>sg 1 kj <| Qaa (.bool false) 45 rfl kj (Qag (u:=.bool (decide (((l:Nat):Int)<0))) kj (congrArg Value.bool (decide_eq_false (by omega)))) <| sgN hK6 <| cond_false kj <| wp_skip <| hK5 _ _ ?_
  refine sgC fun K7 hK7=>sg 2 kj <| Qa0 (fun v W'=>(OwnN .i64 3 W1.heap.size (resN ts k l)) v W'∧Ext W1 W') 40 #[.slice a_t ts.length c_t,.int .i64 ((l:Nat):Int)] 48 rfl kj kj ((hl _ (TrAt.ext ht x1)).mono (by rintro e w' ⟨v,rfl,e1,hv⟩; exact ⟨v,rfl,hv,e1⟩)) fun vv8 W2 hh8=>?_
  obtain ⟨hv8,e2⟩:=hh8
  have x2:=Ext.tr x1 e2
  replace hv8:OwnN .i64 3 w.heap.size (resN ts k l) vv8 W2:=OwnN.base x1.size hv8
  refine sg 2 kj <| Qa0 (fun v W'=>(OwnN .i64 3 W2.heap.size (resN ts k r)) v W'∧Ext W2 W') 40 #[.slice a_t ts.length c_t,.int .i64 ((r:Nat):Int)] 51 rfl kj kj ((hr _ (TrAt.ext ht x2)).mono (by rintro e w' ⟨v,rfl,e1,hv⟩; exact ⟨v,rfl,hv,e1⟩)) fun vv9 W3 hh9=>?_
  obtain ⟨hv9,e3⟩:=hh9
  refine QaC (k:=.i64) (T:=3) (xs:=resN ts k l) (ys:=resN ts k r) (V:=w) 8 (.tmp 48) (.tmp 51) 24 rfl kj kj (by decide) 52 rfl kj kj kj (hv8.ext e3) (OwnN.rd hv9) (by have h9:=Qdk hmt k l; have h8:=Qdk hmt k r; have h7:=Nat.pow_le_pow_right (show 0<2 by decide) hk5; omega) (Rely.Ext.trans (Rely.Ext.trans (Rely.Ext.trans (Rely.Ext.refl w) e1) e2) e3) fun u2 W4 f11 y4 l4=>?_
  refine sg 1 kj <| sgN hK7 <| wp_ret ?_
  repeat (first | with_reducible refine goR1 ?_ | with_reducible refine goR2 ?_)
  exact (show bodyPost _ _ _ .ret _ _ from ret1 (u2) rfl (Qar kj) ⟨_,rfl,(Ext.low (Ext.tr x2 e3) l4 (Rely.Ext.refl w).size),by rw [Qfg k hus hl0 hr0]; exact f11⟩)
theorem resR (ts : List NdV) (a_t:Option Addr) (c_t B1:Nat) (htl:ts.length≤100000) (hmt:∀ i,i<ts.length→(ndi ts i).n.ms.length≤1000000) (L:Nat) (hlen:ts.length+1=2*L) (hTr:QaF ((L:Nat):Int)=true):∀ (k x:Nat),k≤5→x<ts.length→lv ((x:Nat):Int)≤((k:Nat):Int)→∀ w,TrAt B1 w a_t ts→Calls Tryd.prog 40 #[.slice a_t ts.length c_t,.int .i64 ((x:Nat):Int)] w (Qbs w (OwnN .i64 3 w.heap.size (resN ts k x))):=by
  intro k
  induction k with
  | zero =>
    intro x hk hx hl w ht
    cases hus:(ndi ts x).n.us with
    | true=>exact Qj9 ts a_t c_t B1 htl hmt w ht 0 x hx hus
    | false =>
      have hi:i64 ((x:Nat):Int):=⟨by omega,by omega⟩
      have hl:=(show lv ((x:Nat):Int)≤0 from hl)
      have h0:kidL ((x:Nat):Int)=-1:=by unfold kidL; rw [if_pos hl]
      have h1:kidR ((x:Nat):Int)=-1:=by unfold kidR; rw [if_pos hl]
      exact Qj8 ts a_t c_t B1 htl hmt w ht 0 x hx hus h0 (fun W=>by have:=(fun W=>quiet (rchildren _ hi W)) W; rw [h0,h1] at this; exact this)
  | succ k ih =>
    intro x hk hx hl w ht
    cases hus:(ndi ts x).n.us with
    | true=>exact Qj9 ts a_t c_t B1 htl hmt w ht (k+1) x hx hus
    | false =>
      have hi:i64 ((x:Nat):Int):=⟨by omega,by omega⟩
      rcases QbP (QaK hTr (x:=x) (by omega)) with ⟨-,⟨h0,h1⟩ | ⟨h2,h3,h4,h5⟩⟩
      · exact Qj8 ts a_t c_t B1 htl hmt w ht (k+1) x hx hus h0 (fun W=>by have:=(fun W=>quiet (rchildren _ hi W)) W; rw [h0,h1] at this; exact this)
      · obtain ⟨l,hl0⟩:=Int.eq_ofNat_of_zero_le (QbL h2)
        obtain ⟨r,hr0⟩:=Int.eq_ofNat_of_zero_le (QbL h3)
        have hll:=QbQ h2
        have hrl:=QbQ h3
        exact QlQ ts a_t c_t B1 htl hmt w ht k x hx hus (by omega) l r hl0 hr0 (fun W=>by have:=(fun W=>quiet (rchildren _ hi W)) W; rw [hl0,hr0] at this; exact this) (fun w ht=>ih l (by omega) (by omega) (by rw [←hl0]; omega) w ht) (fun w ht=>ih r (by omega) (by omega) (by rw [←hr0]; omega) w ht)
end Go.Proofs.YthfkppjajmjpnaaDoor.Te
end
section
namespace Go.Proofs.YthfkppjajmjpnaaDoor.Te
open Go Go.RowKit
open Rely Auto Own Seat Sha
set_option maxRecDepth 100000 in
theorem QkB (ts : List NdV) (a_t:Option Addr) (c_t B1:Nat) (w:World) (ht:TrAt B1 w a_t ts) (htl:ts.length≤100000) (hmt:∀ i,i<ts.length→(ndi ts i).n.ms.length≤1000000) (hT:TabAt w) (x:Nat) (hx:x<ts.length) (h:chkT ts=true):Calls Tryd.prog 59 #[.slice a_t ts.length c_t,.int .i64 ((x:Nat):Int)] w (Qbs w (OwnN .i64 3 w.heap.size (resT ts x))):=by
  obtain ⟨L,hL,hL3,hlen,hTr⟩:=Qiw htl h
  have hlv:=(QbP (QaK hTr (x:=x) (by omega))).1
  refine enter 21 [(0,.slice a_t ts.length c_t),(1,.int .i64 ((x:Nat):Int))] Tryd.func59 rfl rfl kj rfl <| sgB kj <| wp_seq_k fun K2 hK2=>sgC fun K3 hK3=>sg 1 kj <| Qaa (.bool false) 6 rfl kj (Qag (u:=.bool (decide (((x:Nat):Int)<0))) kj (congrArg Value.bool (decide_eq_false (by omega)))) <| sg 4 kj <| Qaa (.bool false) 11 rfl kj (Qag (u:=.bool (decide (((x:Nat):Int)≥((ts.length:Nat):Int)))) kj (congrArg Value.bool (decide_eq_false (by omega)))) <| sg 3 kj <| Qak (.nilIface) 26 #[.slice a_t ts.length c_t] 15 rfl kj kj (QgO ts a_t c_t _ _ (TrAt.ext ht (Rely.Ext.refl w)) htl hmt (TabAt.ext hT (Rely.Ext.refl w)) h) fun W1 e1=>?_
  have x1:=Ext.tr (Rely.Ext.refl w) e1
  refine sg 2 kj <| sgN hK3 <| cond_false kj <| wp_skip <| hK2 _ _ <| sgC fun K4 hK4=>sg 2 kj <| Qa0 (fun v W'=>(OwnN .i64 3 W1.heap.size (resT ts x)) v W'∧Ext W1 W') 73 #[.slice a_t ts.length c_t,.int .i64 ((x:Nat):Int)] 20 rfl kj kj ((resP ts a_t c_t B1 htl hmt L hlen hTr 5 x (by decide) hx hlv _ (TrAt.ext ht x1) (TabAt.ext hT x1)).mono (by rintro e w' ⟨v,rfl,e1,hv⟩; exact ⟨v,rfl,hv,e1⟩)) fun vv5 W2 hh5=>?_
  obtain ⟨hv5,e2⟩:=hh5
  refine sg 1 kj <| sgN hK4 <| wp_ret ?_
  repeat (first | with_reducible refine goR1 ?_ | with_reducible refine goR2 ?_)
  exact (show bodyPost _ _ _ .ret _ _ from ret1 (vv5) rfl (Qar kj) ⟨_,rfl,(Ext.tr x1 e2),OwnN.base x1.size hv5⟩)
end Go.Proofs.YthfkppjajmjpnaaDoor.Te
end
section
namespace Go.Proofs.YthfkppjajmjpnaaDoor.Te
open Go Go.RowKit
open Rely Auto Own Seat Sha
def cov (ts : List NdV) (n x i:Int):Bool:=decide ((bel x n).1≤i)&&decide (i≤(bel x n).2)&&!(decide (x%2=1)&&decide (i∈(ndi ts x.toNat).n.ms))
def cnt (ts : List NdV) (n:Int) (xs:List Int) (i:Int):Nat:=xs.countP fun x=>cov ts n x i
theorem Qeq {ts : List NdV} {L:Nat} (hL:leaves ((ts.length:Nat):Int)=((L:Nat):Int)) (h:chkT ts=true) {x:Nat} (hx:x<ts.length):Qbh ts ((L:Nat):Int) x=true:=by
  unfold chkT at h
  rw [Qcj hL] at h
  simp only [Bool.and_eq_true] at h
  exact List.all_eq_true.1 h.2 x (List.mem_range.2 hx)
theorem Qeb {ts : List NdV} {L:Nat} (hL:leaves ((ts.length:Nat):Int)=((L:Nat):Int)) (h:chkT ts=true) {x:Nat} (hx:x<ts.length) (hu:(ndi ts x).n.us=true):QbC ts ((L:Nat):Int) x=true:=by
  have:=Qeq hL h hx
  unfold Qbh at this
  rwa [if_pos hu] at this
theorem QiA {ts : List NdV} {n:Int} {x:Nat} (he:x%2≠0) (h:QbC ts n x=true):∀ k,k<(ndi ts x).n.ms.length→msOk ts n ((x:Nat):Int) (ndi ts x).n.ms k=true:=by
  unfold QbC at h
  rw [if_neg he] at h
  simp only [Bool.and_eq_true] at h
  exact fun k hk=>List.all_eq_true.1 h.2 k (List.mem_range.2 hk)
theorem rises {ms : List Int} (h:∀ k,k<ms.length→k=0∨nth ms (k-1)<nth ms k):∀ k,k<ms.length→∀ j,j<k→nth ms j<nth ms k:=by
  intro k
  induction k with
  | zero=>intro _ j hj; omega
  | succ k ih =>
    intro hk j hj
    have h1:=(h (k+1) hk).resolve_left (by omega)
    rw [Nat.add_sub_cancel] at h1
    rcases Nat.lt_or_ge j k with h2 | h2
    · exact Int.lt_trans (ih (by omega) j h2) h1
    · obtain rfl:j=k:=by omega
      exact h1
theorem QkM {ms : List Int} {i:Int} (h:i∈ms):∃ k,k<ms.length∧nth ms k=i:=by
  obtain ⟨k,hk,e⟩:=List.mem_iff_getElem.1 h
  exact ⟨k,hk,by unfold nth; rw [List.getD_eq_getElem?_getD,List.getElem?_eq_getElem hk]; exact e⟩
structure QmU (ts : List NdV) (L : Nat) (x : Nat) (rs : List Int) : Prop where
  node:∀ z∈rs,Qa4 z ((L:Nat):Int)=true
  out:∀ i:Int,i<(bel ((x:Nat):Int) ((L:Nat):Int)).1∨(bel ((x:Nat):Int) ((L:Nat):Int)).2<i→cnt ts ((L:Nat):Int) rs i=0
  most:∀ i:Int,cnt ts ((L:Nat):Int) rs i≤1
  one:∀ i:Nat,(bel ((x:Nat):Int) ((L:Nat):Int)).1≤((i:Nat):Int)→((i:Nat):Int)≤(bel ((x:Nat):Int) ((L:Nat):Int)).2→(ndi ts (2*i)).n.us=true→cnt ts ((L:Nat):Int) rs ((i:Nat):Int)=1
end Go.Proofs.YthfkppjajmjpnaaDoor.Te
end
section
namespace Go.Proofs.YthfkppjajmjpnaaDoor.Te
open Go Go.RowKit
open Rely Auto Own Seat Sha
structure UpOk (ts : List NdV) (L x : Nat) : Prop where
  nm:(ndi ts x).n.nm=0
  sg:(ndi ts x).n.sg=List.replicate 32 0
  inc:∀ k,k<(ndi ts x).n.ms.length→∀ j,j<k→nth (ndi ts x).n.ms j<nth (ndi ts x).n.ms k
  mem:∀ i∈(ndi ts x).n.ms,∃ m:Nat,i=((m:Nat):Int)∧m<L∧abv ((x:Nat):Int) (2*((m:Nat):Int)) ((L:Nat):Int)=true∧(ndi ts (2*m)).n.us=true∧∀ y:Nat,y<ts.length→y%2=1→y≠x→(ndi ts y).n.us=true→abv ((x:Nat):Int) ((y:Nat):Int) ((L:Nat):Int)=true→abv ((y:Nat):Int) (2*((m:Nat):Int)) ((L:Nat):Int)=true→((m:Nat):Int)∈(ndi ts y).n.ms
structure Form (ts : List NdV) (L : Nat) : Prop where
  tr:QaF ((L:Nat):Int)=true
  len:ts.length+1=2*L
  nms:∀ i j,i<L→j<L→(ndi ts (2*i)).n.us=true→(ndi ts (2*j)).n.us=true→(ndi ts (2*i)).n.nm=(ndi ts (2*j)).n.nm→i=j
  zero:∀ x,x<ts.length→(ndi ts x).n.us=false→(ndi ts x).n=zn.n
  leaf:∀ i,i<L→(ndi ts (2*i)).n.us=true→QbT (ndi ts (2*i)).n=true
  up:∀ x,x<ts.length→x%2=1→(ndi ts x).n.us=true→UpOk ts L x
theorem QiH {a b:NdC} (h:QcR a b=true):a=b:=by
  unfold QcR at h
  simp only [Bool.and_eq_true,beq_iff_eq,decide_eq_true_eq] at h
  obtain ⟨⟨⟨⟨⟨h1,h2⟩,h3⟩,h4⟩,h5⟩,h6⟩:=h
  cases a; cases b
  simp only at h1 h2 h3 h4 h5 h6
  subst h1; subst h2; subst h3; subst h4; subst h5; subst h6; rfl
theorem QcA {ts : List NdV} {n:Int}:∀ {k:Nat},n∈Qbg ts k↔∃ i,i<k∧(ndi ts (2*i)).n.us=true∧(ndi ts (2*i)).n.nm=n
  | 0=>⟨fun h=>(by cases h),fun ⟨i,h,_⟩=>absurd h (Nat.not_lt_zero _)⟩
  | k+1=>by
    unfold Qbg
    split
    · rename_i hu
      rw [List.mem_append,QcA,List.mem_singleton]
      constructor
      · rintro (⟨i,h1,h2,h3⟩ | h)
        · exact ⟨i,by omega,h2,h3⟩
        · exact ⟨k,by omega,hu,h.symm⟩
      · rintro ⟨i,h1,h2,h3⟩
        by_cases e:i=k
        · subst e; exact .inr h3.symm
        · exact .inl ⟨i,by omega,h2,h3⟩
    · rename_i hu
      rw [QcA]
      constructor
      · rintro ⟨i,h1,h2,h3⟩; exact ⟨i,by omega,h2,h3⟩
      · rintro ⟨i,h1,h2,h3⟩
        by_cases e:i=k
        · subst e; exact absurd h2 hu
        · exact ⟨i,by omega,h2,h3⟩
theorem Qcq {ts : List NdV}:∀ {k:Nat},(Qbg ts k).Nodup↔∀ i j,i<k→j<k→(ndi ts (2*i)).n.us=true→(ndi ts (2*j)).n.us=true→(ndi ts (2*i)).n.nm=(ndi ts (2*j)).n.nm→i=j
  | 0=>⟨fun _ i j h=>absurd h (Nat.not_lt_zero _),fun _=>List.nodup_nil⟩
  | k+1=>by
    constructor
    · intro h i j hi hj ui uj e
      have hk:(Qbg ts k).Nodup:=by
        unfold Qbg at h
        split at h
        · exact (List.nodup_append.1 h).1
        · exact h
      have key:∀ i,i<k→(ndi ts (2*i)).n.us=true→(ndi ts (2*k)).n.us=true→(ndi ts (2*i)).n.nm≠(ndi ts (2*k)).n.nm:=fun i hi ui uk e=>by
        unfold Qbg at h
        rw [if_pos uk] at h
        exact (List.nodup_append.1 h).2.2 _ (QcA.2 ⟨i,hi,ui,rfl⟩) _ (List.mem_singleton.2 rfl) e
      by_cases e1:i=k
      · by_cases e2:j=k
        · omega
        · exact absurd e.symm (key j (by omega) uj (e1▸ui) |> fun h q=>h (e1▸q))
      · by_cases e2:j=k
        · exact absurd e (key i (by omega) ui (e2▸uj) |> fun h q=>h (e2▸q))
        · exact Qcq.1 hk i j (by omega) (by omega) ui uj e
    · intro h
      have hk:(Qbg ts k).Nodup:=Qcq.2 fun i j hi hj=>h i j (by omega) (by omega)
      unfold Qbg
      split
      · rename_i hu
        refine QcJ hk fun hm=>?_
        obtain ⟨i,hi,ui,e⟩:=QcA.1 hm
        have:=h i k (by omega) (by omega) ui hu e
        omega
      · exact hk
theorem Qi9 {ts : List NdV} {L x:Nat} (hlen:ts.length+1=2*L) (hx:Qa4 ((x:Nat):Int) ((L:Nat):Int)=true) (ho:x%2=1) (i:Int):Qbq ts ((L:Nat):Int) ((x:Nat):Int) i=true↔∃ m:Nat,i=((m:Nat):Int)∧m<L∧abv ((x:Nat):Int) (2*((m:Nat):Int)) ((L:Nat):Int)=true∧(ndi ts (2*m)).n.us=true∧∀ y:Nat,y<ts.length→y%2=1→y≠x→(ndi ts y).n.us=true→abv ((x:Nat):Int) ((y:Nat):Int) ((L:Nat):Int)=true→abv ((y:Nat):Int) (2*((m:Nat):Int)) ((L:Nat):Int)=true→((m:Nat):Int)∈(ndi ts y).n.ms:=by
  constructor
  · intro h
    have h0:=h
    unfold Qbq at h0
    simp only [Bool.and_eq_true,decide_eq_true_eq] at h0
    have hb:=QbN hx
    obtain ⟨m,rfl⟩:=Int.eq_ofNat_of_zero_le (show 0≤i by omega)
    have hm:m<L:=by omega
    have ha:abv ((x:Nat):Int) (2*((m:Nat):Int)) ((L:Nat):Int)=true:=by
      rw [Qe4 hx (by omega),decide_eq_true h0.1.1.1,decide_eq_true h0.1.1.2]; rfl
    refine ⟨m,rfl,hm,ha,?_,fun y hy hyo hyx hyu h1 h2=>?_⟩
    · have:=h0.1.2; rwa [show (2*((m:Nat):Int)).toNat=2*m by omega] at this
    · by_cases hm2:((m:Nat):Int)∈(ndi ts y).n.ms
      · exact hm2
      · have hyn:Qa4 ((y:Nat):Int) ((L:Nat):Int)=true:=by
          unfold abv at h2
          simp only [Bool.and_eq_true] at h2
          exact h2.1.1
        have:=QeX (ts:=ts) hx (by omega) (by omega) ha hyn (by omega) (by omega) h1 h2 hyu hm2
        rw [this] at h; cases h
  · rintro ⟨m,rfl,hm,ha,hu,hall⟩
    exact Qea hx (by omega) (by omega) ha hu fun y hy hyo hyx hyu h1 h2=>hall y (by omega) hyo (by omega) hyu h1 h2
theorem QgW {ts : List NdV} {L x:Nat} (hTr:QaF ((L:Nat):Int)=true) (hlen:ts.length+1=2*L) (hx:x<ts.length) (ho:x%2=1) (h:QbC ts ((L:Nat):Int) x=true):UpOk ts L x:=by
  have hxn:Qa4 ((x:Nat):Int) ((L:Nat):Int)=true:=QaK hTr (by omega)
  have hk:=QiA (by omega) h
  have h0:=h
  unfold QbC at h0
  rw [if_neg (by omega)] at h0
  simp only [Bool.and_eq_true,decide_eq_true_eq] at h0
  refine ⟨h0.1.1,h0.1.2,rises fun k hk2=>?_,fun i hi=>?_⟩
  · have:=hk k hk2
    unfold msOk at this
    simp only [Bool.and_eq_true,Bool.or_eq_true,beq_iff_eq,decide_eq_true_eq] at this
    exact this.1
  · obtain ⟨k,hk2,rfl⟩:=QkM hi
    have:=hk k hk2
    unfold msOk at this
    rw [Bool.and_eq_true] at this
    exact (Qi9 hlen hxn ho _).1 this.2
theorem Qc1 {ts : List NdV} (htl:ts.length≤100000) (h:chkT ts=true):∃ L:Nat,Form ts L∧anyU ts (L/2)=true:=by
  obtain ⟨L,hL,hL3,hlen,hTr⟩:=Qiw htl h
  have hn:=fun x hx=>Qeq hL h (x:=x) hx
  have h0:=h
  unfold chkT at h0
  rw [Qcj hL] at h0
  simp only [Bool.and_eq_true] at h0
  refine ⟨L,⟨hTr,hlen,?_,fun x hx hu=>?_,fun i hi hu=>?_,fun x hx ho hu=>QgW hTr hlen hx ho (Qeb hL h hx hu)⟩,h0.1.2⟩
  · have:=h0.1.1.2
    unfold Qcg at this
    rw [show (ts.length+1)/2=L by omega] at this
    exact Qcq.1 (of_decide_eq_true this)
  · have:=hn x hx
    unfold Qbh at this
    rw [if_neg (by rw [hu]; decide)] at this
    exact QiH this
  · have:=Qeb hL h (x:=2*i) (by omega) hu
    rwa [QcG (by omega)] at this
end Go.Proofs.YthfkppjajmjpnaaDoor.Te
end
section
namespace Go.Proofs.YthfkppjajmjpnaaDoor.Te
open Go Go.RowKit
open Rely Auto Own Seat Sha
set_option maxRecDepth 100000 in
theorem Qjm : Qbx (fun h x=>decide (16<h) || (bel x (2*h)==bel x h&&(List.range (2*h.toNat-1)).all fun y=>abv x ((y:Nat):Int) (2*h)==abv x ((y:Nat):Int) h))=true:=by decide +kernel
theorem QcY {x y h:Nat} (hx:Qa4 ((x:Nat):Int) ((h:Nat):Int)=true) (h16:h≤16) (hy:y+1<2*h):bel ((x:Nat):Int) ((2*h:Nat):Int)=bel ((x:Nat):Int) ((h:Nat):Int)∧abv ((x:Nat):Int) ((y:Nat):Int) ((2*h:Nat):Int)=abv ((x:Nat):Int) ((y:Nat):Int) ((h:Nat):Int):=by
  have:=QaN Qjm hx
  rw [decide_eq_false (by omega),Bool.false_or,Bool.and_eq_true] at this
  have e:2*((h:Nat):Int)=((2*h:Nat):Int):=by omega
  rw [e] at this
  exact ⟨eq_of_beq this.1,eq_of_beq (List.all_eq_true.1 this.2 y (List.mem_range.2 (by omega)))⟩
theorem QiF {h : Nat} (h1:1≤h) (hT:QaF ((2*h:Nat):Int)=true):QaF ((h:Nat):Int)=true∧h≤16:=by
  rcases (show h=1∨h=2∨h=4∨h=8∨h=16 by have:=QaB hT; omega) with rfl | rfl | rfl | rfl | rfl <;> exact ⟨by decide,by decide⟩
theorem Form.half {ts : List NdV} {h:Nat} (f:Form ts (2*h)) (h1:1≤h):Form (ts.take (2*h-1)) h:=by
  obtain ⟨hT,h16⟩:=QiF h1 f.tr
  have hlen:=f.len
  have hl:(ts.take (2*h-1)).length=2*h-1:=by rw [List.length_take]; omega
  have at_:∀ x,x<2*h-1→ndi (ts.take (2*h-1)) x=ndi ts x:=fun x hx=>Qdo hx
  refine ⟨hT,by omega,fun i j hi hj ui uj e=>?_,fun x hx hu=>?_,fun i hi hu=>?_,fun x hx ho hu=>?_⟩
  · rw [at_ _ (by omega)] at ui e
    rw [at_ _ (by omega)] at uj e
    exact f.nms i j (by omega) (by omega) ui uj e
  · rw [hl] at hx
    rw [at_ x hx] at hu ⊢
    exact f.zero x (by omega) hu
  · rw [at_ _ (by omega)] at hu ⊢
    exact f.leaf i (by omega) hu
  · rw [hl] at hx
    have hxn:Qa4 ((x:Nat):Int) ((h:Nat):Int)=true:=QaK hT (by omega)
    have hxn2:Qa4 ((x:Nat):Int) ((2*h:Nat):Int)=true:=QaK f.tr (by omega)
    have ex:=at_ x hx
    rw [ex] at hu
    obtain ⟨u1,u2,u3,u4⟩:=f.up x (by omega) ho hu
    refine ⟨by rw [ex]; exact u1,by rw [ex]; exact u2,by rw [ex]; exact u3,fun i hi=>?_⟩
    rw [ex] at hi
    obtain ⟨j,e,hj,ab,uj,hy⟩:=u4 i hi
    have hjh:j<h:=by
      rw [Qe4 hxn2 (by omega),(QcY hxn h16 (y:=0) (by omega)).1,Bool.and_eq_true,decide_eq_true_eq,decide_eq_true_eq] at ab
      have:=QbN hxn
      omega
    have e2:2*((j:Nat):Int)=((2*j:Nat):Int):=by omega
    refine ⟨j,e,hjh,?_,by rw [at_ _ (by omega)]; exact uj,fun y hy1 hy2 hy3 hy4 hy5 hy6=>?_⟩
    · rw [e2,(QcY hxn h16 (by omega)).2,←e2] at ab; exact ab
    · rw [hl] at hy1
      have hyn:Qa4 ((y:Nat):Int) ((h:Nat):Int)=true:=QaK hT (by omega)
      rw [at_ y hy1] at hy4 ⊢
      rw [←(QcY hxn h16 (by omega)).2] at hy5
      rw [e2,←(QcY hyn h16 (by omega)).2,←e2] at hy6
      exact hy y (by omega) hy2 hy3 hy4 hy5 hy6
theorem Form.dbl {ts : List NdV} {h:Nat} (f:Form ts h) (h16:h≤16):Form (ts++List.replicate (ts.length+1) zn) (2*h):=by
  have hlen:=f.len
  have hT2:QaF ((2*h:Nat):Int)=true:=by
    rcases (show h=1∨h=2∨h=4∨h=8∨h=16 by have:=QaB f.tr; omega) with rfl | rfl | rfl | rfl | rfl <;> decide
  have hl:(ts++List.replicate (ts.length+1) zn).length=2*ts.length+1:=by rw [List.length_append,qZ]; omega
  have at_:∀ x,x<ts.length→ndi (ts++List.replicate (ts.length+1) zn) x=ndi ts x:=fun x hx=>by rw [Qfn,if_pos hx]
  have az:∀ x,ts.length≤x→x<2*ts.length+1→ndi (ts++List.replicate (ts.length+1) zn) x=zn:=fun x hx hx2=>by rw [Qfn,if_neg (by omega),QkP zn (by omega)]
  have old:∀ x,x<2*ts.length+1→(ndi (ts++List.replicate (ts.length+1) zn) x).n.us=true→x<ts.length:=fun x hx hu=>by
    rcases Nat.lt_or_ge x ts.length with h | h
    · exact h
    · rw [az x h hx] at hu; cases hu
  refine ⟨hT2,by omega,fun i j hi hj ui uj e=>?_,fun x hx hu=>?_,fun i hi hu=>?_,fun x hx ho hu=>?_⟩
  · have q1:=old _ (by omega) ui
    have q2:=old _ (by omega) uj
    rw [at_ _ q1] at ui e
    rw [at_ _ q2] at uj e
    exact f.nms i j (by omega) (by omega) ui uj e
  · rw [hl] at hx
    rcases Nat.lt_or_ge x ts.length with q | q
    · rw [at_ x q] at hu ⊢; exact f.zero x q hu
    · rw [az x q hx]
  · have q1:=old _ (by omega) hu
    rw [at_ _ q1] at hu ⊢
    exact f.leaf i (by omega) hu
  · rw [hl] at hx
    have q1:=old x hx hu
    have hxn:Qa4 ((x:Nat):Int) ((h:Nat):Int)=true:=QaK f.tr (by omega)
    have ex:=at_ x q1
    rw [ex] at hu
    obtain ⟨u1,u2,u3,u4⟩:=f.up x q1 ho hu
    refine ⟨by rw [ex]; exact u1,by rw [ex]; exact u2,by rw [ex]; exact u3,fun i hi=>?_⟩
    rw [ex] at hi
    obtain ⟨j,e,hj,ab,uj,hy⟩:=u4 i hi
    have e2:2*((j:Nat):Int)=((2*j:Nat):Int):=by omega
    refine ⟨j,e,by omega,?_,by rw [at_ _ (by omega)]; exact uj,fun y hy1 hy2 hy3 hy4 hy5 hy6=>?_⟩
    · rw [e2,(QcY hxn h16 (by omega)).2,←e2]; exact ab
    · rw [hl] at hy1
      have q2:=old y hy1 hy4
      have hyn:Qa4 ((y:Nat):Int) ((h:Nat):Int)=true:=QaK f.tr (by omega)
      rw [at_ y q2] at hy4 ⊢
      rw [(QcY hxn h16 (by omega)).2] at hy5
      rw [e2,(QcY hyn h16 (by omega)).2,←e2] at hy6
      exact hy y q2 hy2 hy3 hy4 hy5 hy6
theorem Qgg {xs : List Int} {x j:Int} {c:Nat}:j∈insA xs c x↔j=x∨j∈xs:=by
  unfold insA
  rw [List.mem_append,List.mem_append,List.mem_singleton]
  constructor
  · rintro ((h | h) | h)
    · exact .inr (List.mem_of_mem_take h)
    · exact .inl h
    · exact .inr (List.mem_of_mem_drop h)
  · rintro (h | h)
    · exact .inl (.inr h)
    · rw [←List.take_append_drop c xs,List.mem_append] at h
      rcases h with h | h
      · exact .inl (.inl h)
      · exact .inr h
theorem QlT {ms : List Int} (h:∀ k,k<ms.length→∀ j,j<k→nth ms j<nth ms k):ms.Pairwise (· < ·):=by
  rw [List.pairwise_iff_getElem]
  intro i j hi hj hij
  have h1:=h j hj i hij
  unfold nth at h1
  rw [List.getD_eq_getElem?_getD,List.getD_eq_getElem?_getD,List.getElem?_eq_getElem hi,List.getElem?_eq_getElem hj] at h1
  exact h1
theorem QkL {ms : List Int} (h:ms.Pairwise (· < ·)):∀ k,k<ms.length→∀ j,j<k→nth ms j<nth ms k:=fun k hk j hj=>by
  have:=List.pairwise_iff_getElem.1 h j k (by omega) hk hj
  unfold nth
  rw [List.getD_eq_getElem?_getD,List.getD_eq_getElem?_getD,List.getElem?_eq_getElem hk,List.getElem?_eq_getElem (show j<ms.length by omega)]
  exact this
theorem Qhm {xs : List Int} {x:Int} (h:xs.Pairwise (· < ·)) (hx:x∉xs):(insA xs (posI xs x) x).Pairwise (· < ·):=by
  have h1:=Qhn x (h.imp fun q=>Int.le_of_lt q)
  have h2:(insA xs (posI xs x) x).Nodup:=by
    have hn:xs.Nodup:=List.nodup_iff_pairwise_ne.2 (h.imp fun q=>by omega)
    unfold insA
    rw [List.append_assoc]
    have e:=List.take_append_drop (posI xs x) xs
    rw [←e] at hn hx
    rw [List.nodup_append] at hn ⊢
    rw [List.mem_append,not_or] at hx
    refine ⟨hn.1,?_,fun a ha b hb=>?_⟩
    · rw [List.singleton_append,List.nodup_cons]
      exact ⟨hx.2,hn.2.1⟩
    · rw [List.singleton_append,List.mem_cons] at hb
      rcases hb with rfl | hb
      · exact fun e=>hx.1 (e▸ha)
      · exact hn.2.2 a ha b hb
  exact (h1.and (List.nodup_iff_pairwise_ne.1 h2)).imp fun q=>by omega
theorem Form.add {ts rs:List NdV} {L m:Nat} {nd:NdC} (h:Form ts L) (hm:m<L) (hf:(ndi ts (2*m)).n.us=false) (hl:rs.length=ts.length) (hs:QbT nd=true) (hn:∀ j,j<L→(ndi ts (2*j)).n.us=true→(ndi ts (2*j)).n.nm≠nd.nm)
    (r1:(ndi rs (2*m)).n=nd) (r2:∀ x,x<ts.length→x%2=1→(ndi ts x).n.us=true→abv ((x:Nat):Int) (2*((m:Nat):Int)) ((L:Nat):Int)=true→(ndi rs x).n={ (ndi ts x).n with ms:=insA (ndi ts x).n.ms (posI (ndi ts x).n.ms ((m:Nat):Int)) ((m:Nat):Int) })
    (r3:∀ x,x<ts.length→x%2=1→((ndi ts x).n.us=false∨abv ((x:Nat):Int) (2*((m:Nat):Int)) ((L:Nat):Int)=false)→(ndi rs x).n=(ndi ts x).n) (r4:∀ j,j<L→j≠m→(ndi rs (2*j)).n=(ndi ts (2*j)).n):Form rs L:=by
  have hlen:=h.len
  have hus:nd.us=true:=by unfold QbT at hs; simp only [Bool.and_eq_true] at hs; exact hs.1.1.1
  have odd:∀ x,x<ts.length→x%2=1→(ndi rs x).n.us=(ndi ts x).n.us:=fun x hx ho=>by
    cases hu:(ndi ts x).n.us with
    | false=>rw [r3 x hx ho (.inl hu)]; exact hu
    | true =>
      cases ha:abv ((x:Nat):Int) (2*((m:Nat):Int)) ((L:Nat):Int) with
      | false=>rw [r3 x hx ho (.inr ha)]; exact hu
      | true=>rw [r2 x hx ho hu ha]; exact hu
  have more:∀ y,y<ts.length→y%2=1→∀ j:Int,j∈(ndi ts y).n.ms→j∈(ndi rs y).n.ms:=fun y hy ho j hj=>by
    cases hu:(ndi ts y).n.us with
    | false=>rw [r3 y hy ho (.inl hu)]; exact hj
    | true =>
      cases ha:abv ((y:Nat):Int) (2*((m:Nat):Int)) ((L:Nat):Int) with
      | false=>rw [r3 y hy ho (.inr ha)]; exact hj
      | true=>rw [r2 y hy ho hu ha]; exact Qgg.2 (.inr hj)
  have lus:∀ j,j<L→(ndi ts (2*j)).n.us=true→(ndi rs (2*j)).n.us=true:=fun j hj hu=>by
    rw [r4 j hj fun e=>by rw [e,hf] at hu; cases hu]; exact hu
  refine ⟨h.tr,by rw [hl]; exact hlen,fun i j hi hj ui uj e=>?_,fun x hx hu=>?_,fun i hi hu=>?_,fun x hx ho hu=>?_⟩
  · by_cases e1:i=m
    · by_cases e2:j=m
      · omega
      · subst e1
        rw [r1] at e
        rw [r4 j hj e2] at uj e
        exact absurd e.symm (hn j hj uj)
    · rw [r4 i hi e1] at ui e
      by_cases e2:j=m
      · subst e2
        rw [r1] at e
        exact absurd e (hn i hi ui)
      · rw [r4 j hj e2] at uj e
        exact h.nms i j hi hj ui uj e
  · rw [hl] at hx
    by_cases ho:x%2=1
    · rw [odd x hx ho] at hu
      rw [r3 x hx ho (.inl hu)]
      exact h.zero x hx hu
    · by_cases e:x/2=m
      · have e2:x=2*m:=by omega
        rw [e2,r1,hus] at hu
        cases hu
      · have e2:x=2*(x/2):=by omega
        rw [e2,r4 _ (by omega) e] at hu ⊢
        exact h.zero _ (by omega) hu
  · by_cases e:i=m
    · subst e; rw [r1]; exact hs
    · rw [r4 i hi e] at hu ⊢
      exact h.leaf i hi hu
  · rw [hl] at hx
    rw [odd x hx ho] at hu
    have hxn:Qa4 ((x:Nat):Int) ((L:Nat):Int)=true:=QaK h.tr (by omega)
    obtain ⟨u1,u2,u3,u4⟩:=h.up x hx ho hu
    have oldm:∀ i∈(ndi ts x).n.ms,∃ j:Nat,i=((j:Nat):Int)∧j<L∧abv ((x:Nat):Int) (2*((j:Nat):Int)) ((L:Nat):Int)=true∧(ndi rs (2*j)).n.us=true∧∀ y:Nat,y<rs.length→y%2=1→y≠x→(ndi rs y).n.us=true→abv ((x:Nat):Int) ((y:Nat):Int) ((L:Nat):Int)=true→abv ((y:Nat):Int) (2*((j:Nat):Int)) ((L:Nat):Int)=true→((j:Nat):Int)∈(ndi rs y).n.ms:=fun i hi=>by
      obtain ⟨j,e,hj,ab,uj,hy⟩:=u4 i hi
      refine ⟨j,e,hj,ab,lus j hj uj,fun y hy1 hy2 hy3 hy4 hy5 hy6=>?_⟩
      rw [hl] at hy1
      rw [odd y hy1 hy2] at hy4
      exact more y hy1 hy2 _ (hy y hy1 hy2 hy3 hy4 hy5 hy6)
    cases ha:abv ((x:Nat):Int) (2*((m:Nat):Int)) ((L:Nat):Int) with
    | false =>
      have ex:=r3 x hx ho (.inr ha)
      exact ⟨by rw [ex]; exact u1,by rw [ex]; exact u2,by rw [ex]; exact u3,fun i hi=>oldm i (by rw [ex] at hi; exact hi)⟩
    | true =>
      have ex:=r2 x hx ho hu ha
      have hmm:((m:Nat):Int)∉(ndi ts x).n.ms:=fun hi=>by
        obtain ⟨j,e,hj,ab,uj,-⟩:=u4 _ hi
        obtain rfl:m=j:=by omega
        rw [hf] at uj; cases uj
      refine ⟨by rw [ex]; exact u1,by rw [ex]; exact u2,by rw [ex]; exact QkL (Qhm (QlT u3) hmm),fun i hi=>?_⟩
      rw [ex] at hi
      rcases Qgg.1 hi with rfl | hi
      · refine ⟨m,rfl,hm,ha,by rw [r1]; exact hus,fun y hy1 hy2 hy3 hy4 hy5 hy6=>?_⟩
        rw [hl] at hy1
        rw [odd y hy1 hy2] at hy4
        rw [r2 y hy1 hy2 hy4 hy6]
        exact Qgg.2 (.inl rfl)
      · exact oldm i hi
end Go.Proofs.YthfkppjajmjpnaaDoor.Te
end
section
namespace Go.Proofs.YthfkppjajmjpnaaDoor.Te
open Go Go.RowKit
open Rely Auto Own Seat Sha
end Go.Proofs.YthfkppjajmjpnaaDoor.Te
end
section
namespace Go.Proofs.YthfkppjajmjpnaaDoor.Te
open Go Go.RowKit
open Rely Auto Own Seat Sha
end Go.Proofs.YthfkppjajmjpnaaDoor.Te
end
section
namespace Go.Proofs.YthfkppjajmjpnaaDoor.Te
open Go Go.RowKit
open Rely Auto Own Seat Sha
theorem Qc8 {xs : List Int} {k:Nat} (h:k<xs.length):nth xs k∈xs:=by
  unfold nth
  rw [List.getD_eq_getElem?_getD,List.getElem?_eq_getElem h]
  exact List.getElem_mem h
end Go.Proofs.YthfkppjajmjpnaaDoor.Te
end
section
namespace Go.Proofs.YthfkppjajmjpnaaDoor.Te
open Go Go.RowKit
open Rely Auto Own Seat Sha
section
variable {ds : List Deferred} {P : Program} {ops : Array Oper} {Q : Exit → Act → World → Prop} {rest : List Oper} {o : Oper} {N : Nat} {L : Env} {W : World}
end
end Go.Proofs.YthfkppjajmjpnaaDoor.Te
end
section

end
section
namespace Go.Proofs.YthfkppjajmjpnaaDoor.Te
open Go Go.RowKit
open Rely Auto Own Seat Sha
section
variable {ds : List Deferred} {P : Program} {ops : Array Oper} {Q : Exit → Act → World → Prop} {rest : List Oper} {o : Oper} {N : Nat} {L : Env} {W : World}
end
end Go.Proofs.YthfkppjajmjpnaaDoor.Te
end
section
namespace Go.Proofs.YthfkppjajmjpnaaDoor.Te
open Go Go.RowKit
open Rely Auto Own Seat Sha
theorem FrT.low {a b:Nat} {us:List NdV} {v:Value} {W:World} (h:FrT b us v W) (hab:a≤b):FrT a us v W:=by
  obtain ⟨x,c,e,h1,h2,h3⟩:=h
  exact ⟨x,c,e,h1,h2.mono fun g hg=>qT hab hg,h3⟩
end Go.Proofs.YthfkppjajmjpnaaDoor.Te
end
section
namespace Go.Proofs.YthfkppjajmjpnaaDoor.Te
open Go Go.RowKit
open Rely Auto Own Seat Sha
section
variable {P : Program} {ρ : Operand → Value} {o : Oper} {w : World}
end
end Go.Proofs.YthfkppjajmjpnaaDoor.Te
end
section
namespace Go.Proofs.YthfkppjajmjpnaaDoor.Te
open Go Go.RowKit
open Rely Auto Own Seat Sha
section
variable {ds : List Deferred} {P : Program} {ops : Array Oper} {Q : Exit → Act → World → Prop} {rest : List Oper} {o : Oper} {N : Nat} {L : Env} {W : World}
end
theorem OwH.list {base g c i M:Nat} {ts:List NdV} {W:World} (hM:ts.length=M) (t:OwT base ts (.slice (some ⟨g,0,none⟩) M c) W) (hi:i<M) (h0:0<(ndi ts i).n.ms.length):∃ b,(ndi ts i).a=some ⟨b,0,none⟩∧base≤b∧b<W.heap.size∧∀ j,j<(ndi ts i).n.ms.length→W.cell? ⟨b,0+j,none⟩=some (.int .i64 (nth (ndi ts i).n.ms j)):=by
  obtain ⟨b,cc,cu,e1,e2,e3,e4,e5,e6,e7⟩:=QhL (t.nd i (by omega) (by simp)).2.2 h0
  unfold slv at e1
  simp only [Value.slice.injEq] at e1
  exact ⟨b,e1.1,e2,Qa5 e3,fun j hj=>by rw [Nat.zero_add,Qfy e3]; exact Qep e7 hj⟩
end Go.Proofs.YthfkppjajmjpnaaDoor.Te
end
section
namespace Go.Proofs.YthfkppjajmjpnaaDoor.Te
open Go Go.RowKit
open Rely Auto Own Seat Sha
end Go.Proofs.YthfkppjajmjpnaaDoor.Te
end
section
namespace Go.Proofs.YthfkppjajmjpnaaDoor.Te
open Go Go.RowKit
open Rely Auto Own Seat Sha
theorem nb_typ {k : IntKind} {T T':TypeId} {base g:Nat} {xs:List Int} {v:Value} {W:World} {c:Array Value} (h:OwnN k T base xs v W) (r:W.heap[g]? = some (.cells c T')) (hne:T≠T'):v.ownBlock≠some g:=fun e=>by
  obtain ⟨c2,hc⟩:=own_typ h e
  rw [r] at hc
  simp only [Option.some.injEq,Obj.cells.injEq] at hc
  exact hne hc.2.1.symm
section
variable {ds : List Deferred} {P : Program} {ops : Array Oper} {Q : Exit → Act → World → Prop} {rest : List Oper} {o : Oper} {N : Nat} {L : Env} {W : World}
end
end Go.Proofs.YthfkppjajmjpnaaDoor.Te
end
section
namespace Go.Proofs.YthfkppjajmjpnaaDoor.Te
open Go Go.RowKit
open Rely Auto Own Seat Sha
theorem QjE : ∀ {a b:List Int},a.Pairwise (· < ·)→b.Pairwise (· < ·)→(∀ x,x∈a↔x∈b)→a=b
  | [],[],_,_,_=>rfl
  | [],y::b,_,_,h=>absurd ((h y).2 List.mem_cons_self) List.not_mem_nil
  | x::a,[],_,_,h=>absurd ((h x).1 List.mem_cons_self) List.not_mem_nil
  | x::a,y::b,ha,hb,h=>by
    rw [List.pairwise_cons] at ha hb
    have e:x=y:=by
      rcases List.mem_cons.1 ((h x).1 List.mem_cons_self) with e | e
      · exact e
      · rcases List.mem_cons.1 ((h y).2 List.mem_cons_self) with q | q
        · exact q.symm
        · have:=ha.1 y q
          have:=hb.1 x e
          omega
    subst e
    rw [QjE ha.2 hb.2 fun z=>⟨fun hz=>?_,fun hz=>?_⟩]
    · rcases List.mem_cons.1 ((h z).1 (List.mem_cons_of_mem _ hz)) with q | q
      · have:=ha.1 z hz; omega
      · exact q
    · rcases List.mem_cons.1 ((h z).2 (List.mem_cons_of_mem _ hz)) with q | q
      · have:=hb.1 z hz; omega
      · exact q
theorem Form.ms_lt {ts : List NdV} {L x:Nat} (f:Form ts L) (hx:x<ts.length) (ho:x%2=1) (hu:(ndi ts x).n.us=true):(ndi ts x).n.ms.Pairwise (· < ·)∧∀ j∈(ndi ts x).n.ms,0≤j∧j<32∧(ndi ts (2*j.toNat)).n.us=true:=by
  have u:=f.up x hx ho hu
  refine ⟨QlT u.inc,fun j hj=>?_⟩
  obtain ⟨m,e,hm,-,uj,-⟩:=u.mem j hj
  have:=QaB f.tr
  exact ⟨by omega,by omega,by rw [e]; exact uj⟩
end Go.Proofs.YthfkppjajmjpnaaDoor.Te
end
section
namespace Go.Proofs.YthfkppjajmjpnaaDoor.Te
open Go Go.RowKit
open Rely Auto Own Seat Sha
end Go.Proofs.YthfkppjajmjpnaaDoor.Te
end
section
namespace Go.Proofs.YthfkppjajmjpnaaDoor.Te
open Go Go.RowKit
open Rely Auto Own Seat Sha
theorem OwH.nodeH {base g M c i x:Nat} {ts:List NdV} {W:World} (hM:ts.length=M) (t:OwH base ts (.slice (some ⟨g,0,none⟩) M c) W (some i)) (hx:x<M) (hxi:x≠i):NdAt W.heap.size W g (0+x*99) (ndi ts x):=by
  subst hM
  obtain ⟨g',c',cur,e,q2,q3,q4,q5,q6,q7⟩:=t.opens (by omega)
  simp only [Value.slice.injEq,Option.some.injEq,Addr.mk.injEq] at e
  obtain ⟨⟨rfl,-⟩,-,rfl⟩:=e
  refine ⟨Qa5 q3,Qa5 q3,fun j u hu=>?_,RdK.here (OwnN.rd (t.nd x hx (by simpa using hxi)).2.2),t.ok x hx⟩
  have hj:j<99:=by have:=(Array.getElem?_eq_some_iff.1 hu).1; rw [Qcz _ (t.ok x hx)] at this; exact this
  rw [Nat.zero_add,Qfy q3,q7 x hx j hj,hu]
section
variable {ds : List Deferred} {P : Program} {ops : Array Oper} {Q : Exit → Act → World → Prop} {rest : List Oper} {o : Oper} {N : Nat} {L : Env} {W : World}
end
end Go.Proofs.YthfkppjajmjpnaaDoor.Te
end
section
namespace Go.Proofs.YthfkppjajmjpnaaDoor.Te
open Go Go.RowKit
open Rely Auto Own Seat Sha
end Go.Proofs.YthfkppjajmjpnaaDoor.Te
end
section
namespace Go.Proofs.YthfkppjajmjpnaaDoor.Te
open Go Go.RowKit
open Rely Auto Own Seat Sha
end Go.Proofs.YthfkppjajmjpnaaDoor.Te
end
section
namespace Go.Proofs.YthfkppjajmjpnaaDoor.Te
open Go Go.RowKit
open Rely Auto Own Seat Sha
def named (ts : List NdV) (x:Int):Prop:=∃ j,2*j<ts.length∧(ndi ts (2*j)).n.us=true∧(ndi ts (2*j)).n.nm=x
theorem QkQ {us ts:List NdV} (h:AsC us ts) (x:Int):named us x↔named ts x:=by
  unfold named
  simp only [h.1,h.all]
def QmS (ts : List NdV) (nd:NdV) (m:Nat) (R:List NdV):Prop:=(∀ x,named R x↔named ts x∨x=nd.n.nm)∧¬ named ts nd.n.nm∧2*m<R.length∧(ndi R (2*m)).n.us=true∧(ndi R (2*m)).n.nm=nd.n.nm
def Nms (ts : List NdV) (ks:List Int):Prop:=ks.Nodup∧∀ x,x∈ks↔named ts x
theorem Nms.start {ts : List NdV} {L:Nat} (f:Form ts L):Nms ts (Qbg ts L):=by
  have hlen:=f.len
  refine ⟨Qcq.2 f.nms,fun x=>QcA.trans ⟨?_,?_⟩⟩
  · rintro ⟨j,h1,h2,h3⟩; exact ⟨j,by omega,h2,h3⟩
  · rintro ⟨j,h1,h2,h3⟩; exact ⟨j,by omega,h2,h3⟩
theorem Nms.add {ts R:List NdV} {ks:List Int} {nd:NdV} {m:Nat} (h:Nms ts ks) (a:QmS ts nd m R):Nms R (ks++[nd.n.nm]):=by
  refine ⟨QcJ h.1 fun q=>a.2.1 ((h.2 _).1 q),fun x=>?_⟩
  rw [List.mem_append,List.mem_singleton,h.2,a.1]
theorem Nms.c {us ts:List NdV} {ks:List Int} (h:Nms ts ks) (e:AsC us ts):Nms us ks:=⟨h.1,fun x=>(h.2 x).trans (QkQ e x).symm⟩
theorem Qfk : ∀ {xs ys:List Int},xs.Nodup→(∀ x∈xs,x∈ys)→xs.length≤ys.length
  | [],_,_,_=>Nat.zero_le _
  | x::r,ys,h,hs=>by
    have hx:x∈ys:=hs x (by simp)
    have hn:=List.nodup_cons.1 h
    have:=Qfk (ys:=ys.erase x) hn.2 fun z hz=>(List.mem_erase_of_ne (fun e=>by rw [e] at hz; exact hn.1 hz)).2 (hs z (List.mem_cons_of_mem _ hz))
    rw [List.length_erase_of_mem hx] at this
    have:=List.length_pos_of_mem hx
    rw [List.length_cons]; omega
theorem Qed (ts : List NdV):∀ k,(Qbg ts k).length=(Qht ts k).length
  | 0=>rfl
  | k+1=>by
    unfold Qbg Qht
    split
    · rw [List.length_append,List.length_append,Qed ts k]; rfl
    · exact Qed ts k
theorem Nms.len {ts : List NdV} {ks:List Int} {L:Nat} (f:Form ts L) (h:Nms ts ks):(Qht ts L).length=ks.length:=by
  have s:=Nms.start f
  rw [←Qed]
  exact Nat.le_antisymm (Qfk s.1 fun x hx=>(h.2 x).2 ((s.2 x).1 hx)) (Qfk h.1 fun x hx=>(s.2 x).2 ((h.2 x).1 hx))
def IntV (ms : List (Int×Value)):Prop:=∀ p∈ms,∃ v:Int,p.2=.int .i64 v
theorem IntV.get {ms : List (Int×Value)} (h:IntV ms) (n:Int):∃ v:Int,mget ms n (.int .i64 0)=.int .i64 v:=by
  unfold mget
  cases hf:ms.find? (fun p=>p.1==n) with
  | none=>exact ⟨0,rfl⟩
  | some p=>exact h p (List.mem_of_find?_eq_some hf)
theorem IntV.snoc {ms : List (Int×Value)} (h:IntV ms) (n v:Int):IntV (ms++[(n,.int .i64 v)]):=fun p hp=>by
  rcases List.mem_append.1 hp with q | q
  · exact h p q
  · rw [List.mem_singleton.1 q]; exact ⟨v,rfl⟩
theorem IntV.set {ms : List (Int×Value)} (h:IntV ms) (n v:Int):IntV (mset ms n (.int .i64 v)):=fun p hp=>by
  obtain ⟨q,hq,rfl⟩:=List.mem_map.1 hp
  split
  · exact ⟨v,rfl⟩
  · exact h q hq
def Cnt (nm : Nat→Int) (g:Nat) (pre:List Nat) (W:World):Prop:=∃ ms,MpAt g ms W∧IntV ms∧((pre.map nm).Nodup→ms=(pre.map nm).map tmv)
theorem Cnt.keep {nm : Nat→Int} {g:Nat} {pre:List Nat} {W W':World} (h:Cnt nm g pre W) (e:W'.heap[g]? = W.heap[g]?):Cnt nm g pre W':=by
  obtain ⟨ms,h1,h2⟩:=h
  exact ⟨ms,h1.keep e,h2⟩
theorem Cnt.lt {nm : Nat→Int} {g:Nat} {pre:List Nat} {W:World} (h:Cnt nm g pre W):g<W.heap.size:=by
  obtain ⟨ms,h1,-⟩:=h
  exact h1.lt
theorem Cnt.step {nm : Nat→Int} {g:Nat} {pre:List Nat} {W:World} (h:Cnt nm g pre W) (z:Nat):∃ ms,MpAt g ms W∧∃ v:Int,mget ms (nm z) (.int .i64 0)=.int .i64 v ∧
    ((nm z∉ms.map Prod.fst∧∀ W',MpAt g (ms++[(nm z,.int .i64 (IntKind.i64.wrap (v+1)))]) W'→Cnt nm g (pre++[z]) W')∨(nm z∈ms.map Prod.fst∧∀ W',MpAt g (mset ms (nm z) (.int .i64 (IntKind.i64.wrap (v+1)))) W'→Cnt nm g (pre++[z]) W')):=by
  obtain ⟨ms,h1,h2,h3⟩:=h
  obtain ⟨v,hv⟩:=h2.get (nm z)
  refine ⟨ms,h1,v,hv,?_⟩
  by_cases q:nm z∈ms.map Prod.fst
  · refine .inr ⟨q,fun W' hW=>⟨_,hW,h2.set _ _,fun hd=>?_⟩⟩
    rw [List.map_append] at hd
    have hd:=List.nodup_append.1 hd
    have e:=h3 hd.1
    rw [e,Qeg] at q
    exact absurd rfl (hd.2.2 _ q _ (by simp))
  · refine .inl ⟨q,fun W' hW=>⟨_,hW,h2.snoc _ _,fun hd=>?_⟩⟩
    rw [List.map_append] at hd ⊢
    have e:=h3 (List.nodup_append.1 hd).1
    rw [e] at hv q ⊢
    rw [Qeg] at q
    rw [Qj3 q] at hv
    simp only [Value.int.injEq,true_and] at hv
    subst hv
    rw [List.map_append]; rfl
end Go.Proofs.YthfkppjajmjpnaaDoor.Te
end
section
namespace Go.Proofs.YthfkppjajmjpnaaDoor.Te
open Go Go.RowKit
open Rely Auto Own Seat Sha
theorem QjD {xs : List Int} (h:xs.Pairwise (· < ·)) (hb:∀ j∈xs,0≤j∧j<32):xs.length≤32:=by
  have key:∀ k:Nat,k<xs.length→((k:Nat):Int)≤nth xs k:=by
    intro k
    induction k with
    | zero=>intro hk; have:=hb _ (Qc8 hk); omega
    | succ k ih=>intro hk; have:=ih (by omega); have:=QkL h (k+1) hk k (by omega); omega
  rcases Nat.lt_or_ge 32 xs.length with q | q
  · have h1:=key 32 q
    have h2:=hb _ (Qc8 q)
    omega
  · exact q
theorem Form.small {ts : List NdV} {L:Nat} (f:Form ts L):ts.length≤63∧Rise 32 ts:=by
  have hlen:=f.len
  have hT:=QaB f.tr
  refine ⟨by omega,fun j hj=>?_⟩
  have nil:(ndi ts j).n.ms=[]→(ndi ts j).n.ms.Pairwise (·≤·)∧(ndi ts j).n.ms.length≤32:=fun e=>by rw [e]; exact ⟨List.Pairwise.nil,by decide⟩
  cases hu:(ndi ts j).n.us with
  | false=>exact nil (by rw [f.zero j hj hu]; rfl)
  | true =>
    by_cases ho:j%2=1
    · have h:=f.ms_lt hj ho hu
      exact ⟨h.1.imp fun q=>Int.le_of_lt q,QjD h.1 fun x hx=>⟨(h.2 x hx).1,(h.2 x hx).2.1⟩⟩
    · have e:j=2*(j/2):=by omega
      have h:=f.leaf (j/2) (by omega) (by rw [←e]; exact hu)
      rw [←e] at h
      unfold QbT at h
      simp only [Bool.and_eq_true,beq_iff_eq] at h
      exact nil (List.length_eq_zero_iff.1 h.1.1.2)
end Go.Proofs.YthfkppjajmjpnaaDoor.Te
end
section
namespace Go.Proofs.YthfkppjajmjpnaaDoor.Te
open Go Go.RowKit
open Rely Auto Own Seat Sha
structure QmT (nd : NdV) (w : World) : Prop where
  rd:∃ B,RdK .i64 B nd.n.ms (.slice nd.a nd.n.ms.length nd.c) w
end Go.Proofs.YthfkppjajmjpnaaDoor.Te
end
section
namespace Go.Proofs.YthfkppjajmjpnaaDoor.Te
open Go Go.RowKit
open Rely Auto Own Seat Sha
end Go.Proofs.YthfkppjajmjpnaaDoor.Te
end
section
namespace Go.Proofs.YthfkppjajmjpnaaDoor.Te
open Go Go.RowKit
open Rely Auto Own Seat Sha
theorem FrT.parts {base : Nat} {us:List NdV} {v:Value} {W:World} (h:FrT base us v W):∃ a c,v=.slice a us.length c∧TrAt W.heap.size W a us∧AvT (fun g=>base≤g) a us:=by
  obtain ⟨a,c,e,h1,h2,-⟩:=h
  exact ⟨a,c,e,h1,h2⟩
end Go.Proofs.YthfkppjajmjpnaaDoor.Te
end
section
namespace Go.Proofs.YthfkppjajmjpnaaDoor.Sha
open Go Go.RowKit
open Rely Auto Own
theorem Qi8 (n : Nat) (h0:0<n) (hn:n<32):IntKind.u64.wrap (-(n:Int))=18446744073709551616-(n:Int):=by
  have:IntKind.u64.wrap (-(n:Int))=(-(n:Int))%2^64:=rfl
  rw [this]; omega
theorem QmQ : ∀ n:Nat,0<n→n<32→bits .and .u64 (18446744073709551616-(n:Int)) 31=((32-n:Nat):Int):=by
  have h:∀ n:Fin 32,0<n.1→bits .and .u64 (18446744073709551616-(n.1:Int)) 31=((32-n.1:Nat):Int):=by decide
  intro n h0 hn
  exact h ⟨n,hn⟩ h0
theorem QlI (n : Nat) (hn:n<32):IntKind.u64.wrap (32-((32-n:Nat):Int))=((n:Nat):Int):=by
  have:∀ z:Int,IntKind.u64.wrap z=z%2^64:=fun _=>rfl
  rw [this]; omega
theorem rotC (x : Wd) (n:Nat) (m:Int) (hm:m=-(n:Int)) (h0:0<n) (hn:n<32) (w:World):Calls Tryd.prog 83 #[.int .u32 (wv x),.int .i64 m] w (Ret w (.int .u32 (wv (rr x n)))):=by
  refine enter 17 [(0,.int .u32 (wv x)),(1,.int .i64 m)] Tryd.func83 rfl rfl kj rfl <| sgB kj <| sgC fun K2 hK2=>sg 1 kj <| Qaa (.int .u64 (18446744073709551616-(n:Int))) 7 rfl kj (Qag (u:=.int .u64 (IntKind.u64.wrap (m))) kj (congrArg (Value.int .u64) (by rw [hm]; exact Qi8 n h0 hn))) ?_
  refine Qaa (.int .u64 (((32-n:Nat):Int))) 8 rfl kj (Qag (u:=.int .u64 (bits .and .u64 ((18446744073709551616-(n:Int))) (31))) kj (congrArg (Value.int .u64) (QmQ n h0 hn))) <| sg 1 kj <| sgN hK2 <| sgC fun K3 hK3=>sg 2 kj <| Qaa (.int .u32 (wv (x<<<(32-n)))) 11 rfl kj (Qbk .shl _ _ _ _ .u32 .u64 _ _ _ rfl kj kj (Qi1 _ _ _ _ _ _ (by omega) (QjW x _ (32-n) rfl (by omega)))) <| sg 2 kj <| Qaa (.int .u64 (((n:Nat):Int))) 14 rfl kj (Qag (u:=.int .u64 (IntKind.u64.wrap (32-((32-n:Nat):Int)))) kj (congrArg (Value.int .u64) (QlI n hn))) <| Qaa (.int .u32 (wv (x>>>n))) 15 rfl kj (Qbk .shr _ _ _ _ .u32 .u64 _ _ _ rfl kj kj (QcO _ _ _ _ _ _ (by omega) (Qf3 x _ n rfl (by omega)))) <| Qaa (.int .u32 (wv (((x<<<(32-n)))|||((x>>>n))))) 16 rfl kj (Qag kj (congrArg (Value.int .u32) (w_or _ _))) ?_
  refine sg 1 kj <| sgN hK3 <| wp_ret ?_
  repeat (first | with_reducible refine goR1 ?_ | with_reducible refine goR2 ?_)
  exact (show bodyPost _ _ _ .ret _ _ from ret1 (.int .u32 (wv (((x<<<(32-n)))|||((x>>>n))))) rfl (Qar kj) ⟨rfl,(Rely.Ext.refl w)⟩)
theorem Qkg (n : Nat) (hn:n<32):IntKind.u64.wrap (32-((n:Nat):Int))=((32-n:Nat):Int):=by
  have:∀ z:Int,IntKind.u64.wrap z=z%2^64:=fun _=>rfl
  rw [this]; omega
theorem QeB (x : Wd) (n:Nat) (m:Int) (hm:m=(n:Int)) (h0:0<n) (hn:n<32) (w:World):Calls Tryd.prog 56 #[.int .u32 (wv x),.int .u64 m] w (Ret w (.int .u32 (wv (rr x n)))):=by
  subst hm
  refine enter 13 [(0,.int .u32 (wv x)),(1,.int .u64 ((n:Nat):Int))] Tryd.func56 rfl rfl kj rfl <| sgB kj <| sgC fun K2 hK2=>sg 2 kj <| Qaa (.int .u32 (wv (x>>>n))) 7 rfl kj (Qbk .shr _ _ _ _ .u32 .u64 _ _ _ rfl kj kj (QcO _ _ _ _ _ _ (by omega) (Qf3 x _ n rfl (by omega)))) <| sg 2 kj <| Qaa (.int .u64 (((32-n:Nat):Int))) 10 rfl kj (Qag (u:=.int .u64 (IntKind.u64.wrap (32-((n:Nat):Int)))) kj (congrArg (Value.int .u64) (Qkg n hn))) <| Qaa (.int .u32 (wv (x<<<(32-n)))) 11 rfl kj (Qbk .shl _ _ _ _ .u32 .u64 _ _ _ rfl kj kj (Qi1 _ _ _ _ _ _ (by omega) (QjW x _ (32-n) rfl (by omega)))) <| Qaa (.int .u32 (wv (((x>>>n))+((x<<<(32-n)))))) 12 rfl kj (Qag kj (congrArg (Value.int .u32) (Qcc _ _))) <| sg 1 kj ?_
  refine sgN hK2 <| wp_ret ?_
  repeat (first | with_reducible refine goR1 ?_ | with_reducible refine goR2 ?_)
  exact (show bodyPost _ _ _ .ret _ _ from ret1 (.int .u32 (wv (((x>>>n))+((x<<<(32-n)))))) rfl (Qar kj) ⟨congrArg (fun z=>Ending.returned (.int .u32 (wv z))) (Ql9 x n h0 hn),(Rely.Ext.refl w)⟩)
theorem Qc5 (ws : List Wd) (n:Nat):(wmore ws n).length=ws.length+n:=by
  induction n with
  | zero=>rfl
  | succ n ih=>simp [wmore,ih]; omega
theorem QfW (b : List Int):(w16 b).length=16:=by simp [w16]
theorem QbG (b : List Int):(w64 b).length=64:=by rw [w64,Qc5,QfW]
theorem QdZ (ws : List Wd) (n m j:Nat) (hj:j<ws.length+n) (hm:n≤m):wget (wmore ws m) j=wget (wmore ws n) j:=by
  induction m with
  | zero =>
    obtain rfl:n=0:=by omega
    rfl
  | succ m ih =>
    rcases Nat.lt_or_ge m n with h | h
    · obtain rfl:n=m+1:=by omega
      rfl
    · rw [←ih h]
      show wget (wmore ws m++_) j=_
      unfold wget
      rw [List.getD_eq_getElem?_getD,List.getElem?_append_left (by rw [Qc5]; omega),←List.getD_eq_getElem?_getD]
theorem QgV (ws : List Wd) (n:Nat):wget (wmore ws (n+1)) (ws.length+n)=wnext (wmore ws n):=by
  show wget (wmore ws n++[_]) _=_
  unfold wget
  rw [List.getD_eq_getElem?_getD,List.getElem?_append_right (by rw [Qc5]; omega),Qc5,Nat.sub_self]
  rfl
theorem Qgs (b : List Int) (i:Nat) (h:16≤i) (hi:i<64):wget (w64 b) i=sig1 (wget (w64 b) (i-2))+wget (w64 b) (i-7)+sig0 (wget (w64 b) (i-15))+wget (w64 b) (i-16):=by
  obtain ⟨n,rfl⟩:∃ n,i=16+n:=⟨i-16,by omega⟩
  have hl:=QfW b
  have g:∀ j,j<16+n→wget (w64 b) j=wget (wmore (w16 b) n) j:=fun j hj=>QdZ (w16 b) n 48 j (by omega) (by omega)
  have g1:wget (w64 b) (16+n)=wget (wmore (w16 b) (n+1)) (16+n):=QdZ (w16 b) (n+1) 48 _ (by omega) (by omega)
  rw [g1,g _ (by omega),g _ (by omega),g _ (by omega),g _ (by omega)]
  have h2:=QgV (w16 b) n
  rw [hl] at h2
  rw [h2]
  unfold wnext
  rw [Qc5,hl]
theorem Qhs (b : List Int) (i:Nat) (hi:i<16):wget (w64 b) i=be4 (nth b (4*i)) (nth b (4*i+1)) (nth b (4*i+2)) (nth b (4*i+3)):=by
  have g1:wget (w64 b) i=wget (w16 b) i:=QdZ (w16 b) 0 48 i (by rw [QfW]; omega) (by omega)
  rw [g1]
  unfold wget w16
  rw [List.getD_eq_getElem?_getD,List.getElem?_map,List.getElem?_range hi]
  rfl
def hor (b : List Int) (i:Nat):Nat→Wd
  | 0=>0
  | j+1=>hor b i j<<<8|||BitVec.ofInt 32 (nth b (4*i+j))
theorem Qjl {b : List Int} (hb:Qax b) (i j:Nat):hor b i j<<<8|||BitVec.ofInt 32 (nth b (4*i+j))=hor b i (j+1):=rfl
theorem or_byte (x : Wd) (n:Int) (h:0≤n∧n≤255):x<<<8|||BitVec.ofInt 32 n=BitVec.ofInt 32 (wv x*256+n):=by
  have e:x<<<8|||BitVec.ofInt 32 n=x<<<8+BitVec.ofInt 32 n:=by
    refine (BitVec.add_eq_or_of_and_eq_zero _ _ ?_).symm
    apply BitVec.eq_of_getLsbD_eq
    intro i hi
    simp only [BitVec.getLsbD_and,BitVec.getLsbD_shiftLeft,BitVec.getLsbD_zero]
    rcases Nat.lt_or_ge i 8 with h1 | h1
    · simp [h1]
    · have:(BitVec.ofInt 32 n).getLsbD i=false:=by
        have hn:(BitVec.ofInt 32 n).toNat<2^i:=by
          have e:(BitVec.ofInt 32 n).toNat=n.toNat:=by rw [BitVec.toNat_ofInt]; omega
          rw [e]
          have:2^8≤2^i:=Nat.pow_le_pow_right (by decide) h1
          omega
        exact BitVec.testBit_toNat _▸Nat.testBit_lt_two_pow hn
      rw [this,Bool.and_false]
  rw [e]
  apply BitVec.eq_of_toNat_eq
  rw [BitVec.toNat_add,BitVec.toNat_shiftLeft,Nat.shiftLeft_eq,BitVec.toNat_ofInt,BitVec.toNat_ofInt]
  unfold wv
  have:=x.isLt
  omega
theorem hor4 {b : List Int} (hb:Qax b) (i:Nat):hor b i 4=be4 (nth b (4*i)) (nth b (4*i+1)) (nth b (4*i+2)) (nth b (4*i+3)):=by
  have h0:=hb.nth (4*i)
  have h1:=hb.nth (4*i+1)
  have h2:=hb.nth (4*i+2)
  have h3:=hb.nth (4*i+3)
  show ((((0:Wd)<<<8|||BitVec.ofInt 32 (nth b (4*i+0)))<<<8|||BitVec.ofInt 32 (nth b (4*i+1)))<<<8|||BitVec.ofInt 32 (nth b (4*i+2)))<<<8|||BitVec.ofInt 32 (nth b (4*i+3))=_
  rw [Nat.add_zero,or_byte _ _ h3,or_byte _ _ h2,or_byte _ _ h1,or_byte _ _ h0]
  unfold be4
  apply BitVec.eq_of_toNat_eq
  rw [BitVec.toNat_ofInt,BitVec.toNat_ofInt]
  simp only [QeU]
  have:wv 0=0:=rfl
  rw [this]
  omega
theorem QmO {b : List Int} (hb:Qax b) (i:Nat):IntKind.u32.wrap (nth b i)=wv (BitVec.ofInt 32 (nth b i)):=by rw [QdX,QeU]
theorem Qir {b : List Int} {i:Nat} (h:((w64 b).map wv).length=64) (hi:i<64):fill ((w64 b).map wv) 64 i=(fill ((w64 b).map wv) 64 i).set i (wv (hor b i 0)):=by
  have e:nth (fill ((w64 b).map wv) 64 i) i=0:=Qip h (qR _)
  have h0:wv (hor b i 0)=nth (fill ((w64 b).map wv) 64 i) i:=by rw [e]; rfl
  rw [h0]
  have hl:i<(fill ((w64 b).map wv) 64 i).length:=by rw [Qb1 h (by omega)]; exact hi
  rw [show nth (fill ((w64 b).map wv) 64 i) i=(fill ((w64 b).map wv) 64 i)[i] by simp [nth,hl],List.set_getElem_self]
theorem Qiq {b : List Int} {i:Nat} (h:((w64 b).map wv).length=64) (hi:i<16) (hb:Qax b):(fill ((w64 b).map wv) 64 i).set i (wv (hor b i 4))=fill ((w64 b).map wv) 64 (i+1):=by
  rw [←QcL h (by omega),QbK,hor4 hb,Qhs b i hi]
theorem Qkl (b : List Int) (hbl:b.length=64) (hbb:Qax b) (w:World):Calls Tryd.prog 82 #[.agg (ints .u8 b)] w (Ret w (.agg (ints .u32 ((w64 b).map wv)))):=by
 refine enter 81 [(0,.agg (ints .u8 (b)))] Tryd.func82 rfl rfl kj rfl <| sgC fun K1 hK1=>Qal (ints .u8 (b)) 97 1 rfl kj kj fun g2 W1 l2 e1 r2_1=>?_
 have x1:=Ext.tr (Rely.Ext.refl w) e1
 have b2:=qT (Rely.Ext.refl w).size l2
 refine Qal (ints .u32 (List.replicate 64 0)) 106 2 rfl kj kj fun g3 W2 l3 e2 r3_2=>?_
 have x2:=Ext.tr x1 e2
 refine sgN hK1 <| sgC fun K4 hK4=>Qal (ints .u32 (List.replicate 64 0)) 106 3 rfl kj kj fun g5 W3 l5 e3 r5_3=>?_
 have b5:=qT x2.size l5
 refine sgN hK4 <| wp_seq_k fun K6 hK6=>sgB kj <| wp_block ?_
 have hl64:((w64 b).map wv).length=64:=by rw [List.length_map,QbG]
 refine Qay (fun (s1:Nat)=>[(12,.int .i64 ((s1:Nat):Int)),(1,.pointer (some ⟨g2,0,none⟩)),(2,.pointer (some ⟨g3,0,none⟩)),(3,.pointer (some ⟨g5,0,none⟩))]) (fun (s1:Nat) W=>(s1≤16)∧(W.heap[g5]? = some (.cells (ints .u32 (fill ((w64 b).map wv) 64 s1)) 106))∧(Qa8 [g5] W3 W)∧(Ext w W)) (fun (s1:Nat)=>16-s1) 0 ⟨kj,kj,kj,kj,trivial⟩ ⟨(Nat.zero_le _),(Qbc r5_3 (Qdt _ 64).symm),(Qa8.refl [g5] W3),(Ext.tr x2 e3)⟩ fun s1 X1 V1 hI1=>?_
 obtain ⟨i,hs1⟩:∃ z,z=s1:=⟨_,rfl⟩
 subst hs1
 obtain ⟨hi,q5_1,kk1,xx1⟩:=hI1
 replace hi:i≤16:=hi
 replace q5_1:V1.heap[g5]? = some (.cells (ints .u32 (fill ((w64 b).map wv) 64 i)) 106):=q5_1
 replace kk1:Qa8 [g5] W3 V1:=kk1
 replace xx1:Ext w V1:=xx1
 have q4:=kk1
 refine sgB kj <| wp_seq_k fun K9 hK9=>Qaq (t:=decide (((i:Nat):Int)<16)) kj (fun c10=>?_) (fun c10=>?_)
 ·skip
  have hlt13:i<16:=by have:=of_decide_eq_true c10; omega
  refine wp_skip <| hK9 _ _ <| wp_seq_k fun K11 hK11=>wp_block <| sgB kj <| sgC fun K13 hK13=>sg 1 kj <| Qaa (.int .i64 ((4*i:Nat):Int)) 16 rfl kj (Qag (u:=.int .i64 (IntKind.i64.wrap (4*((i:Nat):Int)))) kj (congrArg (Value.int .i64) (i64n _ _ (by omega) (by omega)))) <| sg 1 kj <| Qaa (.int .i64 ((4*i:Nat):Int)) 18 rfl kj (Qag (u:=.int .i64 (IntKind.i64.wrap (4*((i:Nat):Int)))) kj (congrArg (Value.int .i64) (i64n _ _ (by omega) (by omega)))) ?_
  refine Qaa (.int .i64 (((4*i)+4:Nat):Int)) 19 rfl kj (Qag (u:=.int .i64 (IntKind.i64.wrap (((4*i:Nat):Int)+4))) kj (congrArg (Value.int .i64) (i64n _ _ (by omega) (by omega)))) <| Qaa (.slice (some ⟨g2,0+(4*i),none⟩) (((4*i)+4)-(4*i)) (64-(4*i))) 20 rfl kj (QeI 97 _ _ _ (4*i) ((4*i)+4) 64 g2 0 5 rfl kj kj kj ⟨.i64,by kernel_rfl⟩ ⟨.i64,by kernel_rfl⟩ (by omega) (by omega) (by omega)) <| sg 2 kj <| sgN hK13 <| wp_block <| Qay (fun (s2:Nat)=>[(4,.int .i64 ((i:Nat):Int)),(12,.int .i64 ((i:Nat):Int)),(20,.slice (some ⟨g2,0+(4*i),none⟩) (((4*i)+4)-(4*i)) (64-(4*i))),(21,.int .i64 ((((4*i)+4)-(4*i):Nat):Int)),(22,.int .i64 ((s2:Nat):Int)),(1,.pointer (some ⟨g2,0,none⟩)),(2,.pointer (some ⟨g3,0,none⟩)),(3,.pointer (some ⟨g5,0,none⟩))]) (fun (s2:Nat) W=>(s2≤4)∧(W.heap[g5]? = some (.cells (ints .u32 ((fill ((w64 b).map wv) 64 i).set i (wv (hor b i s2)))) 106))∧(Qa8 [g5] V1 W)∧(Ext w W)) (fun (s2:Nat)=>4-s2) 0 ⟨kj,kj,kj,kj,kj,kj,kj,kj,trivial⟩ ⟨(Nat.zero_le _),(Qbc q5_1 (Qir hl64 (by omega))),(Qa8.refl [g5] V1),xx1⟩ fun s2 X2 V2 hI2=>?_
  obtain ⟨j,hs2⟩:∃ z,z=s2:=⟨_,rfl⟩
  subst hs2
  obtain ⟨hj,q5_2,kk2,xx2⟩:=hI2
  replace hj:j≤4:=hj
  replace q5_2:V2.heap[g5]? = some (.cells (ints .u32 ((fill ((w64 b).map wv) 64 i).set i (wv (hor b i j)))) 106):=q5_2
  replace kk2:Qa8 [g5] V1 V2:=kk2
  replace xx2:Ext w V2:=xx2
  have q5:=kk2
  refine sgB kj <| wp_seq_k fun K15 hK15=>Qaq (t:=decide (((j:Nat):Int)<((((4*i)+4)-(4*i):Nat):Int))) kj (fun c16=>?_) (fun c16=>?_)
  ·skip
   have hlt23:j<4:=by have:=of_decide_eq_true c16; omega
   refine wp_skip <| hK15 _ _ <| wp_seq_k fun K17 hK17=>wp_block <| sgC fun K18 hK18=>Qaa (.pointer (some ⟨g2,0+(4*i)+j,none⟩)) 24 rfl kj (Qd1 59 _ _ .i64 j g2 (0+(4*i)) (((4*i)+4)-(4*i)) (64-(4*i)) 5 rfl kj kj kj kj (by omega)) ?_
   have r2_2:=(Qae r2_1 e2)
   refine Qaa (.int .u8 (nth b (4*i+j))) 25 rfl kj (Qaf 5 _ g2 (0+(4*i)+j) 97 _ (.int .u8 (nth b (4*i+j))) _ (Qa8.row q5 (Qa8.row q4 (Qae r2_2 e3) (Qb3 (Qaw r2_2 l5) QbE)) (Qb3 (Qaw r2_2 l5) QbE)) rfl kj ((QaZ _ _ _ (Nat.lt_of_lt_of_eq (by omega) hbl.symm)).trans (congrArg (fun z=>some (Value.int .u8 z)) (by rw [Nat.zero_add]))) kj) <| sg 1 kj <| sgN hK18 <| Qad <| sg 2 kj <| Qaa (.pointer (some ⟨g5,i,none⟩)) 28 rfl kj (QaV _ _ _ .i64 (i) _ 64 76 rfl kj kj kj kj (by omega)) <| Qaa (.int .u32 (wv (hor b i j))) 29 rfl kj (Qaf 76 _ g5 i 106 _ (.int .u32 (wv (hor b i j))) _ q5_2 rfl kj ((QaZ _ _ _ (Nat.lt_of_lt_of_eq (by omega) ((List.length_set ..).trans (Qb1 hl64 (by omega))).symm)).trans (congrArg (fun z=>some (Value.int .u32 z)) (QfG (by rw [Qb1 hl64 (by omega)]; omega)))) kj) ?_
   refine Qaa (.int .u32 (wv (hor b i j<<<8))) 30 rfl kj (Qbk .shl _ _ _ _ .u32 .u64 _ _ _ rfl kj kj (Qi1 _ _ _ _ _ _ (by decide) (QjW _ _ 8 rfl (by decide)))) <| sg 1 kj <| Qaa (.int .u32 (wv (BitVec.ofInt 32 (nth b (4*i+j))))) 32 rfl kj (Qag (u:=.int .u32 (IntKind.u32.wrap (nth b (4*i+j)))) kj (congrArg (Value.int .u32) (QmO hbb _))) <| Qaa (.int .u32 (wv (((hor b i j<<<8))|||((BitVec.ofInt 32 (nth b (4*i+j))))))) 33 rfl kj (Qag kj (congrArg (Value.int .u32) (w_or _ _))) <| Qaa (.pointer (some ⟨g5,i,none⟩)) 34 rfl kj (QaV _ _ _ .i64 (i) _ 64 76 rfl kj kj kj kj (by omega)) <| Qav g5 _ (ints .u32 (((fill ((w64 b).map wv) 64 i).set i (wv (hor b i j))).set i (wv (((hor b i j<<<8))|||((BitVec.ofInt 32 (nth b (4*i+j)))))))) 106 q5_2 rfl kj (Qbi 76 _ _ g5 i 106 _ _ q5_2 rfl kj kj kj (Nat.lt_of_lt_of_eq (by omega) ((List.length_set ..).trans (Qb1 hl64 (by omega))).symm)) fun W6 p6 r5_6=>?_
   have x6:=Puts.ext p6 xx2 b5
   refine Qaj <| hK17 _ _ <| Qad <| Qaa (.int .i64 ((j+1:Nat):Int)) 35 rfl kj (Qag (u:=.int .i64 (IntKind.i64.wrap (((j:Nat):Int)+1))) kj (congrArg (Value.int .i64) (i64n _ _ (by omega) (by omega)))) <| sg 1 kj <| Qaj ?_
   repeat (first | with_reducible refine goX1 ?_ | with_reducible refine goX2 ?_ | with_reducible refine goX3 ?_)
   exact Qap (j+1) ⟨kj,kj,kj,kj,kj,kj,kj,kj,trivial⟩ ⟨(by omega),(Qbc r5_6 (by rw [List.set_set]; exact congrArg (fun z=>(fill ((w64 b).map wv) 64 i).set i (wv z)) (Qjl hbb i j))),(Qa8.puts q5 p6 (.inl (by simp))),x6⟩ (by omega)
  ·skip
   have heq23:j=4:=by have:=of_decide_eq_false c16; omega
   refine wp_exit <| hK11 _ _ <| Qad <| Qaa (.int .i64 ((i+1:Nat):Int)) 36 rfl kj (Qag (u:=.int .i64 (IntKind.i64.wrap (((i:Nat):Int)+1))) kj (congrArg (Value.int .i64) (i64n _ _ (by omega) (by omega)))) <| sg 1 kj <| Qaj ?_
   repeat (first | with_reducible refine goX1 ?_ | with_reducible refine goX2 ?_ | with_reducible refine goX3 ?_)
   exact Qap (i+1) ⟨kj,kj,kj,kj,trivial⟩ ⟨(by omega),(Qbc q5_2 (by rw [heq23]; exact Qiq hl64 hlt13 hbb)),(Qa8.keeps q4 q5 (Qeo (.inl (by simp)) QfE)),xx2⟩ (by omega)
 ·skip
  have heq13:i=16:=by have:=of_decide_eq_false c10; omega
  refine wp_exit <| hK6 _ _ <| wp_seq_k fun K19 hK19=>sgB kj <| wp_block <| Qay (fun (s3:Nat)=>[(7,.int .i64 ((s3:Nat):Int)),(1,.pointer (some ⟨g2,0,none⟩)),(2,.pointer (some ⟨g3,0,none⟩)),(3,.pointer (some ⟨g5,0,none⟩))]) (fun (s3:Nat) W=>(16≤s3)∧(s3≤64)∧(W.heap[g5]? = some (.cells (ints .u32 (fill ((w64 b).map wv) 64 s3)) 106))∧(Qa8 [g5] V1 W)∧(Ext w W)) (fun (s3:Nat)=>64-s3) 16 ⟨kj,kj,kj,kj,trivial⟩ ⟨(qR _),(by omega),(Qbc q5_1 (by rw [heq13])),(Qa8.refl [g5] V1),xx1⟩ fun s3 X3 V3 hI3=>?_
  obtain ⟨i,hs3⟩:∃ z,z=s3:=⟨_,rfl⟩
  subst hs3
  obtain ⟨h16,hi,q5_3,kk3,xx3⟩:=hI3
  replace h16:16≤i:=h16
  replace hi:i≤64:=hi
  replace q5_3:V3.heap[g5]? = some (.cells (ints .u32 (fill ((w64 b).map wv) 64 i)) 106):=q5_3
  replace kk3:Qa8 [g5] V1 V3:=kk3
  replace xx3:Ext w V3:=xx3
  have q5:=kk3
  refine wp_seq_k fun K21 hK21=>sgB kj <| Qaq (t:=decide (((i:Nat):Int)<64)) kj (fun c23=>?_) (fun c23=>?_)
  ·skip
   have hlt38:i<64:=by have:=of_decide_eq_true c23; omega
   refine wp_skip <| hK21 _ _ <| wp_seq_k fun K24 hK24=>wp_block <| wp_seq_k fun K25 hK25=>QcN 9 [⟨none,[(7,none)]⟩,⟨none,[(41,some 0)]⟩,⟨none,[(3,none),(42,some 1)]⟩,⟨none,[(43,some 2)]⟩,⟨none,[(7,none)]⟩,⟨none,[(45,some 4)]⟩,⟨none,[(3,none),(46,some 5)]⟩,⟨none,[(47,some 6)]⟩,⟨none,[(44,some 3)]⟩] kj kj fun F hF=>QaE (.int .i64 ((i:Nat):Int)) kj kj (fun W=>by kernel_rfl) <| QaE (.int .i64 ((i-2:Nat):Int)) kj kj (fun W=>(Qag (u:=.int .i64 (IntKind.i64.wrap (((i:Nat):Int)-2))) kj (congrArg (Value.int .i64) (i64n _ _ (by omega) (by omega))))) <| QaE (.pointer (some ⟨g5,i-2,none⟩)) kj kj (fun W=>(QaV _ _ _ .i64 (i-2) _ 64 76 rfl kj kj kj kj (by omega))) <| Qb2 (.int .u32 (wv (wget (w64 b) (i-2)))) kj kj (fun W hR=>(Qaf 76 _ g5 (i-2) 106 _ (.int .u32 (wv (wget (w64 b) (i-2)))) _ (Qae (Qae q5_3 (Qaz _)) hR) rfl kj ((QaZ _ _ _ (Nat.lt_of_lt_of_eq (by omega) (Qb1 (show ((w64 b).map wv).length=64 by rw [List.length_map,QbG]) (by omega)).symm)).trans (congrArg (fun z=>some (Value.int .u32 z)) ((QdV hl64 (by omega) (by omega)).trans (QbK _ _)))) kj)) ?_
   refine QaE (.int .i64 ((i:Nat):Int)) kj kj (fun W=>by kernel_rfl) <| QaE (.int .i64 ((i-15:Nat):Int)) kj kj (fun W=>(Qag (u:=.int .i64 (IntKind.i64.wrap (((i:Nat):Int)-15))) kj (congrArg (Value.int .i64) (i64n _ _ (by omega) (by omega))))) <| QaE (.pointer (some ⟨g5,i-15,none⟩)) kj kj (fun W=>(QaV _ _ _ .i64 (i-15) _ 64 76 rfl kj kj kj kj (by omega))) <| Qb2 (.int .u32 (wv (wget (w64 b) (i-15)))) kj kj (fun W hR=>(Qaf 76 _ g5 (i-15) 106 _ (.int .u32 (wv (wget (w64 b) (i-15)))) _ (Qae (Qae q5_3 (Qaz _)) hR) rfl kj ((QaZ _ _ _ (Nat.lt_of_lt_of_eq (by omega) (Qb1 (show ((w64 b).map wv).length=64 by rw [List.length_map,QbG]) (by omega)).symm)).trans (congrArg (fun z=>some (Value.int .u32 z)) ((QdV hl64 (by omega) (by omega)).trans (QbK _ _)))) kj)) <| QaE (.int .u32 (wv (wget (w64 b) (i-2)))) kj kj (fun W=>by kernel_rfl) <| Qdg (hF _ kj fun W6 e6=>?_)
   simp only [ups,up,Kn.val,List.take_succ_cons,List.take_zero,List.drop_succ_cons,List.drop_zero,List.nil_append,List.cons_append]
   clear hF
   have x6:=Ext.tr xx3 e6
   refine sg 1 kj <| sgN hK25 <| sgC fun K26 hK26=>sg 1 kj <| Qak (.int .u32 (wv (rr (wget (w64 b) (i-2)) 17))) 83 #[.int .u32 (wv (wget (w64 b) (i-2))),.int .i64 (-17)] 50 rfl kj kj ((rotC (wget (w64 b) (i-2)) 17 (-17) (by decide) (by decide) (by decide)) _) fun W7 e7=>sg 1 kj <| Qak (.int .u32 (wv (rr (wget (w64 b) (i-2)) 19))) 83 #[.int .u32 (wv (wget (w64 b) (i-2))),.int .i64 (-19)] 52 rfl kj kj ((rotC (wget (w64 b) (i-2)) 19 (-19) (by decide) (by decide) (by decide)) _) fun W8 e8=>Qaa (.int .u32 (wv (((rr (wget (w64 b) (i-2)) 17))^^^((rr (wget (w64 b) (i-2)) 19))))) 53 rfl kj (Qag kj (congrArg (Value.int .u32) (w_xor _ _))) <| sg 1 kj <| Qaa (.int .u32 (wv (((wget (w64 b) (i-2)))>>>10))) 55 rfl kj (Qbk .shr _ _ _ _ .u32 .u64 _ _ _ rfl kj kj (QcO _ _ _ _ _ _ (by decide) (Qf3 _ _ 10 rfl (by decide)))) ?_
   refine Qaa (.int .u32 (wv (((((rr (wget (w64 b) (i-2)) 17))^^^((rr (wget (w64 b) (i-2)) 19))))^^^((((wget (w64 b) (i-2)))>>>10))))) 56 rfl kj (Qag kj (congrArg (Value.int .u32) (w_xor _ _))) <| sg 1 kj <| sgN hK26 <| sgC fun K27 hK27=>sg 1 kj <| Qak (.int .u32 (wv (rr (wget (w64 b) (i-15)) 7))) 83 #[.int .u32 (wv (wget (w64 b) (i-15))),.int .i64 (-7)] 58 rfl kj kj ((rotC (wget (w64 b) (i-15)) 7 (-7) (by decide) (by decide) (by decide)) _) fun W9 e9=>sg 1 kj <| Qak (.int .u32 (wv (rr (wget (w64 b) (i-15)) 18))) 83 #[.int .u32 (wv (wget (w64 b) (i-15))),.int .i64 (-18)] 60 rfl kj kj ((rotC (wget (w64 b) (i-15)) 18 (-18) (by decide) (by decide) (by decide)) _) fun W10 e10=>Qaa (.int .u32 (wv (((rr (wget (w64 b) (i-15)) 7))^^^((rr (wget (w64 b) (i-15)) 18))))) 61 rfl kj (Qag kj (congrArg (Value.int .u32) (w_xor _ _))) <| sg 1 kj ?_
   refine Qaa (.int .u32 (wv (((wget (w64 b) (i-15)))>>>3))) 63 rfl kj (Qbk .shr _ _ _ _ .u32 .u64 _ _ _ rfl kj kj (QcO _ _ _ _ _ _ (by decide) (Qf3 _ _ 3 rfl (by decide)))) <| Qaa (.int .u32 (wv (((((rr (wget (w64 b) (i-15)) 7))^^^((rr (wget (w64 b) (i-15)) 18))))^^^((((wget (w64 b) (i-15)))>>>3))))) 64 rfl kj (Qag kj (congrArg (Value.int .u32) (w_xor _ _))) <| sg 1 kj <| sgN hK27 <| QcN 15 [⟨none,[(7,none)]⟩,⟨none,[(10,none)]⟩,⟨none,[(7,none)]⟩,⟨none,[(67,some 2)]⟩,⟨none,[(3,none),(68,some 3)]⟩,⟨none,[(69,some 4)]⟩,⟨none,[(66,some 1),(70,some 5)]⟩,⟨none,[(11,none)]⟩,⟨none,[(71,some 6),(72,some 7)]⟩,⟨none,[(7,none)]⟩,⟨none,[(74,some 9)]⟩,⟨none,[(3,none),(75,some 10)]⟩,⟨none,[(76,some 11)]⟩,⟨none,[(73,some 8),(77,some 12)]⟩,⟨none,[(3,none),(65,some 0)]⟩] kj kj fun F hF=>QaE (.int .i64 ((i:Nat):Int)) kj kj (fun W=>by kernel_rfl) <| QaE (.int .u32 (wv (((((rr (wget (w64 b) (i-2)) 17))^^^((rr (wget (w64 b) (i-2)) 19))))^^^((((wget (w64 b) (i-2)))>>>10))))) kj kj (fun W=>by kernel_rfl) <| QaE (.int .i64 ((i:Nat):Int)) kj kj (fun W=>by kernel_rfl) <| QaE (.int .i64 ((i-7:Nat):Int)) kj kj (fun W=>(Qag (u:=.int .i64 (IntKind.i64.wrap (((i:Nat):Int)-7))) kj (congrArg (Value.int .i64) (i64n _ _ (by omega) (by omega))))) <| QaE (.pointer (some ⟨g5,i-7,none⟩)) kj kj (fun W=>(QaV _ _ _ .i64 (i-7) _ 64 76 rfl kj kj kj kj (by omega))) ?_
   have r5_6:=(Qae q5_3 e6)
   have r5_10:=(Qae (Qae (Qae (Qae r5_6 e7) e8) e9) e10)
   refine Qb2 (.int .u32 (wv (wget (w64 b) (i-7)))) kj kj (fun W hR=>(Qaf 76 _ g5 (i-7) 106 _ (.int .u32 (wv (wget (w64 b) (i-7)))) _ (Qae (Qae r5_10 (Qaz _)) hR) rfl kj ((QaZ _ _ _ (Nat.lt_of_lt_of_eq (by omega) (Qb1 (show ((w64 b).map wv).length=64 by rw [List.length_map,QbG]) (by omega)).symm)).trans (congrArg (fun z=>some (Value.int .u32 z)) ((QdV hl64 (by omega) (by omega)).trans (QbK _ _)))) kj)) <| QaE (.int .u32 (wv (((((((rr (wget (w64 b) (i-2)) 17))^^^((rr (wget (w64 b) (i-2)) 19))))^^^((((wget (w64 b) (i-2)))>>>10))))+((wget (w64 b) (i-7)))))) kj kj (fun W=>(Qag kj (congrArg (Value.int .u32) (Qcc _ _)))) <| QaE (.int .u32 (wv (((((rr (wget (w64 b) (i-15)) 7))^^^((rr (wget (w64 b) (i-15)) 18))))^^^((((wget (w64 b) (i-15)))>>>3))))) kj kj (fun W=>by kernel_rfl) <| QaE (.int .u32 (wv (((((((((rr (wget (w64 b) (i-2)) 17))^^^((rr (wget (w64 b) (i-2)) 19))))^^^((((wget (w64 b) (i-2)))>>>10))))+((wget (w64 b) (i-7)))))+((((((rr (wget (w64 b) (i-15)) 7))^^^((rr (wget (w64 b) (i-15)) 18))))^^^((((wget (w64 b) (i-15)))>>>3))))))) kj kj (fun W=>(Qag kj (congrArg (Value.int .u32) (Qcc _ _)))) <| QaE (.int .i64 ((i:Nat):Int)) kj kj (fun W=>by kernel_rfl) <| QaE (.int .i64 ((i-16:Nat):Int)) kj kj (fun W=>(Qag (u:=.int .i64 (IntKind.i64.wrap (((i:Nat):Int)-16))) kj (congrArg (Value.int .i64) (i64n _ _ (by omega) (by omega))))) <| QaE (.pointer (some ⟨g5,i-16,none⟩)) kj kj (fun W=>(QaV _ _ _ .i64 (i-16) _ 64 76 rfl kj kj kj kj (by omega))) <| Qb2 (.int .u32 (wv (wget (w64 b) (i-16)))) kj kj (fun W hR=>(Qaf 76 _ g5 (i-16) 106 _ (.int .u32 (wv (wget (w64 b) (i-16)))) _ (Qae (Qae r5_10 (Qaz _)) hR) rfl kj ((QaZ _ _ _ (Nat.lt_of_lt_of_eq (by omega) (Qb1 (show ((w64 b).map wv).length=64 by rw [List.length_map,QbG]) (by omega)).symm)).trans (congrArg (fun z=>some (Value.int .u32 z)) ((QdV hl64 (by omega) (by omega)).trans (QbK _ _)))) kj)) <| QaE (.int .u32 (wv (((((((((((rr (wget (w64 b) (i-2)) 17))^^^((rr (wget (w64 b) (i-2)) 19))))^^^((((wget (w64 b) (i-2)))>>>10))))+((wget (w64 b) (i-7)))))+((((((rr (wget (w64 b) (i-15)) 7))^^^((rr (wget (w64 b) (i-15)) 18))))^^^((((wget (w64 b) (i-15)))>>>3))))))+((wget (w64 b) (i-16)))))) kj kj (fun W=>(Qag kj (congrArg (Value.int .u32) (Qcc _ _)))) <| QaE (.pointer (some ⟨g5,i,none⟩)) kj kj (fun W=>(QaV _ _ _ .i64 (i) _ 64 76 rfl kj kj kj kj (by omega))) ?_
   refine Qdg (hF _ kj fun W11 e11=>?_)
   simp only [ups,up,Kn.val,List.take_succ_cons,List.take_zero,List.drop_succ_cons,List.drop_zero,List.nil_append,List.cons_append]
   clear hF
   have r5_11:=(Qae r5_10 e11)
   refine Qav g5 _ (ints .u32 ((fill ((w64 b).map wv) 64 i).set i (wv (((((((((((rr (wget (w64 b) (i-2)) 17))^^^((rr (wget (w64 b) (i-2)) 19))))^^^((((wget (w64 b) (i-2)))>>>10))))+((wget (w64 b) (i-7)))))+((((((rr (wget (w64 b) (i-15)) 7))^^^((rr (wget (w64 b) (i-15)) 18))))^^^((((wget (w64 b) (i-15)))>>>3))))))+((wget (w64 b) (i-16))))))) 106 r5_11 rfl kj (Qbi 76 _ _ g5 i 106 _ _ r5_11 rfl kj kj kj (Nat.lt_of_lt_of_eq (by omega) (Qb1 (show ((w64 b).map wv).length=64 by rw [List.length_map,QbG]) (by omega)).symm)) fun W12 p12 r5_12=>Qaj <| hK24 _ _ <| Qad <| sg 1 kj <| Qaa (.int .i64 ((i+1:Nat):Int)) 40 rfl kj (Qag (u:=.int .i64 (IntKind.i64.wrap (((i:Nat):Int)+1))) kj (congrArg (Value.int .i64) (i64n _ _ (by omega) (by omega)))) <| sg 1 kj <| Qaj ?_
   repeat (first | with_reducible refine goX1 ?_ | with_reducible refine goX2 ?_ | with_reducible refine goX3 ?_)
   exact Qap (i+1) ⟨kj,kj,kj,kj,trivial⟩ ⟨(by omega),(by omega),(Qbc r5_12 (by rw [←QcL hl64 hlt38,QbK,Qgs b i h16 hlt38]; rfl)),(Qa8.puts (Qa8.step (Qa8.step (Qa8.step (Qa8.step (Qa8.step (Qa8.step q5 e6) e7) e8) e9) e10) e11) p12 (.inl (by simp))),(Puts.ext p12 (Ext.tr (Ext.tr (Ext.tr (Ext.tr (Ext.tr x6 e7) e8) e9) e10) e11) b5)⟩ (by omega)
  ·skip
   have heq38:i=64:=by have:=of_decide_eq_false c23; omega
   have r5_5_28:V3.heap[g5]? = some (.cells (ints .u32 ((w64 b).map wv)) 106):=Qbc q5_3 (by rw [heq38]; exact Qdu hl64)
   refine wp_exit <| hK19 _ _ <| sgC fun K29 hK29=>Qaa (.agg (ints .u32 ((w64 b).map wv))) 80 rfl kj (QaA 106 _ g5 106 _ _ r5_5_28 rfl kj kj (isz (n:=64) kj ((Qac _ _).trans hl64))) ?_
   have r3_5:=(Qa8.row q5 (Qa8.row q4 (Qae r3_2 e3) (Qb3 (Qaw r3_2 l5) QbE)) (Qb3 (Qaw r3_2 l5) QbE))
   refine Qav g3 _ (ints .u32 ((w64 b).map wv)) 106 r3_5 rfl kj (Qat 106 _ _ g3 106 _ _ r3_5 rfl kj kj (isz (n:=64) kj ((Qac _ _).trans hl64)) (eqsz (n:=64) ((Qac _ _).trans (qZ (n:=64))) ((Qac _ _).trans hl64)) (Qau _ _)) fun W6 p6 r3_6=>?_
   have x6:=Puts.ext p6 xx3 (qT x1.size l3)
   refine sgN hK29 <| wp_ret ?_
   repeat (first | with_reducible refine goR1 ?_ | with_reducible refine goR2 ?_)
   exact (show bodyPost _ _ _ .ret _ _ from ret1 (.agg (ints .u32 ((w64 b).map wv))) rfl (Qbv g3 106 _ r3_6 kj kj (isz (n:=64) kj ((Qac _ _).trans hl64))) ⟨rfl,x6⟩)
end Go.Proofs.YthfkppjajmjpnaaDoor.Sha
end
section
namespace Go.Proofs.YthfkppjajmjpnaaDoor.Sha
open Go Go.RowKit
open Rely Auto Own
def Qbn : List Int:=QjL.map Int.ofNat
def QaQ : List Int:=[0x6a09e667f3bcc908,0xbb67ae8584caa73b,0x3c6ef372fe94f82b,0xa54ff53a5f1d36f1,0x510e527fade682d1,0x9b05688c2b3e6c1f,0x1f83d9abfb41bd6b,0x5be0cd19137e2179]
theorem QjM (i : Nat) (h:i<64):IntKind.u32.wrap (nth Qbn i/4294967296)=wv (wget KK i):=by
  have:∀ i:Fin 64,IntKind.u32.wrap (nth Qbn i.1/4294967296)=wv (wget KK i.1):=by decide +kernel
  exact this ⟨i,h⟩
theorem QlL (n : Int):n.fdiv (2^min (32:Int).toNat IntKind.u64.bits)=n/4294967296:=Int.fdiv_eq_ediv_of_nonneg n (by decide)
def mixW (p q:List Wd) (i:Nat):List Wd:=(List.zipWith (· + ·) p q).take i++p.drop i
theorem Qfp (s r:S8) {i:Nat} (hi:i≤8):((mixW s.l r.l i).map wv).length=8:=by
  rcases (show i=0∨i=1∨i=2∨i=3∨i=4∨i=5∨i=6∨i=7∨i=8 by omega) with rfl | rfl | rfl | rfl | rfl | rfl | rfl | rfl | rfl <;> rfl
theorem QhX (s r:S8) {i:Nat} (hi:i<8):nth ((mixW s.l r.l i).map wv) i=wv (wget s.l i):=by
  rcases (show i=0∨i=1∨i=2∨i=3∨i=4∨i=5∨i=6∨i=7 by omega) with rfl | rfl | rfl | rfl | rfl | rfl | rfl | rfl <;> rfl
theorem QhW (s r:S8) {i:Nat} (hi:i<8):((mixW s.l r.l i).map wv).set i (wv (wget s.l i+wget r.l i))=(mixW s.l r.l (i+1)).map wv:=by
  rcases (show i=0∨i=1∨i=2∨i=3∨i=4∨i=5∨i=6∨i=7 by omega) with rfl | rfl | rfl | rfl | rfl | rfl | rfl | rfl <;> rfl
theorem Qm7 (g : Nat) (s:S8) (b:List Int) (hbl:b.length=64) (hbb:Qax b) (m:Int) (tc:TypeId) (w:World) (hc:w.heap[2]? = some (.cells (ints .u64 Qbn) tc)) (hg:w.heap[g]? = some (.cells (cat [ints .u32 ([wv s.a,wv s.b,wv s.c,wv s.d,wv s.e,wv s.f,wv s.g,wv s.h]),ints .u8 (b),#[.int .i64 m]]) 99)) :
  Calls Tryd.prog 76 #[.pointer (some ⟨g,0,none⟩)] w (fun e W=>e=.returned (.tuple #[])∧ExtB g w W∧W.heap[g]? = some (.cells (cat [ints .u32 ((blk s b).l.map wv),ints .u8 b,#[.int .i64 m]]) 99)):=by
 have hl64:((w64 b).map wv).length=64:=by rw [List.length_map,QbG]
 refine enter 137 [(0,.pointer (some ⟨g,0,none⟩))] Tryd.func76 rfl rfl kj rfl <| sgC fun K3 hK3=>sg 3 kj <| Qaa (.agg (ints .u8 (b))) 23 rfl kj (Qao 97 _ g 8 99 _ _ _ hg rfl kj (Qah [ints .u32 ([wv s.a,wv s.b,wv s.c,wv s.d,wv s.e,wv s.f,wv s.g,wv s.h])] [ints .u8 (b)] [#[.int .i64 m]] 8 kj) kj (isz (n:=64) kj ((Qac _ _).trans hbl))) <| Qak (.agg (ints .u32 ((w64 b).map wv))) 82 #[.agg (ints .u8 (b))] 24 rfl kj kj ((Qkl b hbl hbb) _) fun W1 e1=>?_
 have x1:=ExtB.ext (ExtB.refl g w) e1
 refine Qal (ints .u32 (List.replicate 64 0)) 106 2 rfl kj kj fun g4 W2 l4 e2 r4_2=>Qav g4 _ (ints .u32 ((w64 b).map wv)) 106 r4_2 rfl kj (Qat 106 _ _ g4 106 _ _ r4_2 rfl kj kj (isz (n:=64) kj ((Qac _ _).trans hl64)) (eqsz (n:=64) ((Qac _ _).trans (qZ (n:=64))) ((Qac _ _).trans hl64)) (Qau _ _)) fun W3 p3 r4_3=>?_
 have x3:=ExtB.putsN (ExtB.ext x1 e2) p3 (qT x1.size l4)
 refine sgN hK3 <| sgC fun K5 hK5=>sg 3 kj ?_
 have r2_1:=(Qae hg e1)
 have r2_3:=(Puts.row p3 (Qae r2_1 e2) (Qaw r2_1 l4))
 refine Qaa (.agg (ints .u32 ([wv s.a,wv s.b,wv s.c,wv s.d,wv s.e,wv s.f,wv s.g,wv s.h]))) 28 rfl kj (Qao 77 _ g 0 99 _ _ _ r2_3 rfl kj (Qah [] [ints .u32 ([wv s.a,wv s.b,wv s.c,wv s.d,wv s.e,wv s.f,wv s.g,wv s.h])] [ints .u8 (b),#[.int .i64 m]] 0 kj) kj (isz (n:=8) kj kj)) <| Qal (ints .u32 ([0,0,0,0,0,0,0,0])) 77 3 rfl kj kj fun g6 W4 l6 e4 r6_4=>Qav g6 _ (ints .u32 ([wv s.a,wv s.b,wv s.c,wv s.d,wv s.e,wv s.f,wv s.g,wv s.h])) 77 r6_4 rfl kj (Qat 77 _ _ g6 77 _ _ r6_4 rfl kj kj (isz (n:=8) kj kj) (eqsz (n:=8) kj kj) (Qau _ _)) fun W5 p5 r6_5=>sgN hK5 <| wp_seq_k fun K7 hK7=>QcN 23 [⟨none,[(3,none)]⟩,⟨none,[(29,some 0)]⟩,⟨none,[(3,none)]⟩,⟨none,[(31,some 2)]⟩,⟨none,[(3,none)]⟩,⟨none,[(33,some 4)]⟩,⟨none,[(3,none)]⟩,⟨none,[(35,some 6)]⟩,⟨none,[(3,none)]⟩,⟨none,[(37,some 8)]⟩,⟨none,[(3,none)]⟩,⟨none,[(39,some 10)]⟩,⟨none,[(3,none)]⟩,⟨none,[(41,some 12)]⟩,⟨none,[(3,none)]⟩,⟨none,[(43,some 14)]⟩,⟨none,[(30,some 1)]⟩,⟨none,[(32,some 3)]⟩,⟨none,[(34,some 5)]⟩,⟨none,[(36,some 7)]⟩,⟨none,[(38,some 9)]⟩,⟨none,[(40,some 11)]⟩,⟨none,[(42,some 13)]⟩] kj kj fun F hF=>QaE (.pointer (some ⟨g6,0,none⟩)) kj kj (fun W=>by kernel_rfl) <| Qb2 (.int .u32 (wv s.a)) kj kj (fun W hR=>(Qaf 76 _ g6 0 77 _ (.int .u32 (wv s.a)) _ (Qae (Qae r6_5 (Qaz _)) hR) rfl kj kj kj)) <| QaE (.pointer (some ⟨g6,1,none⟩)) kj kj (fun W=>by kernel_rfl) <| Qb2 (.int .u32 (wv s.b)) kj kj (fun W hR=>(Qaf 76 _ g6 1 77 _ (.int .u32 (wv s.b)) _ (Qae (Qae r6_5 (Qaz _)) hR) rfl kj kj kj)) ?_
 refine QaE (.pointer (some ⟨g6,2,none⟩)) kj kj (fun W=>by kernel_rfl) <| Qb2 (.int .u32 (wv s.c)) kj kj (fun W hR=>(Qaf 76 _ g6 2 77 _ (.int .u32 (wv s.c)) _ (Qae (Qae r6_5 (Qaz _)) hR) rfl kj kj kj)) <| QaE (.pointer (some ⟨g6,3,none⟩)) kj kj (fun W=>by kernel_rfl) <| Qb2 (.int .u32 (wv s.d)) kj kj (fun W hR=>(Qaf 76 _ g6 3 77 _ (.int .u32 (wv s.d)) _ (Qae (Qae r6_5 (Qaz _)) hR) rfl kj kj kj)) <| QaE (.pointer (some ⟨g6,4,none⟩)) kj kj (fun W=>by kernel_rfl) <| Qb2 (.int .u32 (wv s.e)) kj kj (fun W hR=>(Qaf 76 _ g6 4 77 _ (.int .u32 (wv s.e)) _ (Qae (Qae r6_5 (Qaz _)) hR) rfl kj kj kj)) <| QaE (.pointer (some ⟨g6,5,none⟩)) kj kj (fun W=>by kernel_rfl) <| Qb2 (.int .u32 (wv s.f)) kj kj (fun W hR=>(Qaf 76 _ g6 5 77 _ (.int .u32 (wv s.f)) _ (Qae (Qae r6_5 (Qaz _)) hR) rfl kj kj kj)) <| QaE (.pointer (some ⟨g6,6,none⟩)) kj kj (fun W=>by kernel_rfl) <| Qb2 (.int .u32 (wv s.g)) kj kj (fun W hR=>(Qaf 76 _ g6 6 77 _ (.int .u32 (wv s.g)) _ (Qae (Qae r6_5 (Qaz _)) hR) rfl kj kj kj)) ?_
 refine QaE (.pointer (some ⟨g6,7,none⟩)) kj kj (fun W=>by kernel_rfl) <| Qb2 (.int .u32 (wv s.h)) kj kj (fun W hR=>(Qaf 76 _ g6 7 77 _ (.int .u32 (wv s.h)) _ (Qae (Qae r6_5 (Qaz _)) hR) rfl kj kj kj)) <| QaE (.int .u32 (wv s.a)) kj kj (fun W=>by kernel_rfl) <| QaE (.int .u32 (wv s.b)) kj kj (fun W=>by kernel_rfl) <| QaE (.int .u32 (wv s.c)) kj kj (fun W=>by kernel_rfl) <| QaE (.int .u32 (wv s.d)) kj kj (fun W=>by kernel_rfl) <| QaE (.int .u32 (wv s.e)) kj kj (fun W=>by kernel_rfl) <| QaE (.int .u32 (wv s.f)) kj kj (fun W=>by kernel_rfl) <| QaE (.int .u32 (wv s.g)) kj kj (fun W=>by kernel_rfl) <| Qdg (hF _ kj fun W6 e6=>?_)
 simp only [ups,up,Kn.val,List.take_succ_cons,List.take_zero,List.drop_succ_cons,List.drop_zero,List.nil_append,List.cons_append]
 clear hF
 refine sg 1 kj <| sgN hK7 <| wp_seq_k fun K8 hK8=>sgC fun K9 hK9=>Qaa (.agg (ints .u32 ((w64 b).map wv))) 45 rfl kj (QaA 106 _ g4 106 _ _ (Qae (Puts.row p5 (Qae r4_3 e4) (Qaw r4_3 l6)) e6) rfl kj kj (isz (n:=64) kj ((Qac _ _).trans hl64))) <| sg 1 kj <| sgN hK9 <| wp_block <| Qay (fun (s1:Nat)=>[(0,.pointer (some ⟨g,0,none⟩)),(45,.agg (ints .u32 ((w64 b).map wv))),(46,.int .i64 ((s1:Nat):Int)),(4,.int .u32 (wv ((rnds KK (w64 b) s s1).a))),(5,.int .u32 (wv ((rnds KK (w64 b) s s1).b))),(6,.int .u32 (wv ((rnds KK (w64 b) s s1).c))),(7,.int .u32 (wv ((rnds KK (w64 b) s s1).d))),(8,.int .u32 (wv ((rnds KK (w64 b) s s1).e))),(9,.int .u32 (wv ((rnds KK (w64 b) s s1).f))),(10,.int .u32 (wv ((rnds KK (w64 b) s s1).g))),(11,.int .u32 (wv ((rnds KK (w64 b) s s1).h)))]) (fun (s1:Nat) W=>(s1≤64)∧(Ext W6 W)∧(ExtB g w W)) (fun (s1:Nat)=>64-s1) 0 ⟨kj,kj,kj,kj,kj,kj,kj,kj,kj,kj,kj,trivial⟩ ⟨(Nat.zero_le _),(Rely.Ext.refl W6),(ExtB.ext (ExtB.putsN (ExtB.ext x3 e4) p5 (qT x3.size l6)) e6)⟩ fun s1 X1 V1 hI1=>?_
 obtain ⟨i,hs1⟩:∃ z,z=s1:=⟨_,rfl⟩
 subst hs1
 obtain ⟨hi,kk1,xx1⟩:=hI1
 replace hi:i≤64:=hi
 replace kk1:Ext W6 V1:=kk1
 replace xx1:ExtB g w V1:=xx1
 have e7:=kk1
 refine sgB kj <| wp_seq_k fun K11 hK11=>Qaq (t:=decide (((i:Nat):Int)<64)) kj (fun c12=>?_) (fun c12=>?_)
 ·skip
  have hlt47:i<64:=by have:=of_decide_eq_true c12; omega
  refine wp_skip <| hK11 _ _ <| wp_seq_k fun K13 hK13=>wp_block <| sgC fun K14 hK14=>sg 1 kj <| Qaa (.int .u32 (wv (wget (w64 b) i))) 49 rfl kj (Qch 106 _ _ .i64 .u32 ((w64 b).map wv) i 64 76 (wv (wget (w64 b) i)) rfl kj kj kj kj kj hl64 (by omega) (QbK _ _)) <| sg 2 kj <| sgN hK14 <| sgC fun K15 hK15=>?_
  refine sg 1 kj <| Qak (.int .u32 (wv (rr ((rnds KK (w64 b) s i).e) 6))) 83 #[.int .u32 (wv ((rnds KK (w64 b) s i).e)),.int .i64 (-6)] 51 rfl kj kj ((rotC ((rnds KK (w64 b) s i).e) 6 (-6) (by decide) (by decide) (by decide)) _) fun W8 e8=>sg 1 kj <| Qak (.int .u32 (wv (rr ((rnds KK (w64 b) s i).e) 11))) 83 #[.int .u32 (wv ((rnds KK (w64 b) s i).e)),.int .i64 (-11)] 53 rfl kj kj ((rotC ((rnds KK (w64 b) s i).e) 11 (-11) (by decide) (by decide) (by decide)) _) fun W9 e9=>?_
  have x9:=ExtB.ext (ExtB.ext xx1 e8) e9
  refine Qaa (.int .u32 (wv (((rr ((rnds KK (w64 b) s i).e) 6))^^^((rr ((rnds KK (w64 b) s i).e) 11))))) 54 rfl kj (Qag kj (congrArg (Value.int .u32) (w_xor _ _))) <| sg 1 kj <| Qak (.int .u32 (wv (rr ((rnds KK (w64 b) s i).e) 25))) 83 #[.int .u32 (wv ((rnds KK (w64 b) s i).e)),.int .i64 (-25)] 56 rfl kj kj ((rotC ((rnds KK (w64 b) s i).e) 25 (-25) (by decide) (by decide) (by decide)) _) fun W10 e10=>?_
  have x10:=ExtB.ext x9 e10
  refine Qaa (.int .u32 (wv (((((rr ((rnds KK (w64 b) s i).e) 6))^^^((rr ((rnds KK (w64 b) s i).e) 11))))^^^((rr ((rnds KK (w64 b) s i).e) 25))))) 57 rfl kj (Qag kj (congrArg (Value.int .u32) (w_xor _ _))) <| sg 1 kj <| sgN hK15 <| sgC fun K16 hK16=>sg 1 kj <| Qak (.int .u32 (wv (rr ((rnds KK (w64 b) s i).a) 2))) 83 #[.int .u32 (wv ((rnds KK (w64 b) s i).a)),.int .i64 (-2)] 59 rfl kj kj ((rotC ((rnds KK (w64 b) s i).a) 2 (-2) (by decide) (by decide) (by decide)) _) fun W11 e11=>sg 1 kj <| Qak (.int .u32 (wv (rr ((rnds KK (w64 b) s i).a) 13))) 83 #[.int .u32 (wv ((rnds KK (w64 b) s i).a)),.int .i64 (-13)] 61 rfl kj kj ((rotC ((rnds KK (w64 b) s i).a) 13 (-13) (by decide) (by decide) (by decide)) _) fun W12 e12=>Qaa (.int .u32 (wv (((rr ((rnds KK (w64 b) s i).a) 2))^^^((rr ((rnds KK (w64 b) s i).a) 13))))) 62 rfl kj (Qag kj (congrArg (Value.int .u32) (w_xor _ _))) <| sg 1 kj ?_
  refine Qak (.int .u32 (wv (rr ((rnds KK (w64 b) s i).a) 22))) 83 #[.int .u32 (wv ((rnds KK (w64 b) s i).a)),.int .i64 (-22)] 64 rfl kj kj ((rotC ((rnds KK (w64 b) s i).a) 22 (-22) (by decide) (by decide) (by decide)) _) fun W13 e13=>Qaa (.int .u32 (wv (((((rr ((rnds KK (w64 b) s i).a) 2))^^^((rr ((rnds KK (w64 b) s i).a) 13))))^^^((rr ((rnds KK (w64 b) s i).a) 22))))) 65 rfl kj (Qag kj (congrArg (Value.int .u32) (w_xor _ _))) <| sg 1 kj <| sgN hK16 <| sgC fun K17 hK17=>sg 2 kj <| Qaa (.int .u32 (wv ((((rnds KK (w64 b) s i).h))+((((((rr ((rnds KK (w64 b) s i).e) 6))^^^((rr ((rnds KK (w64 b) s i).e) 11))))^^^((rr ((rnds KK (w64 b) s i).e) 25))))))) 68 rfl kj (Qag kj (congrArg (Value.int .u32) (Qcc _ _))) <| sg 2 kj <| Qaa (.int .u32 (wv ((((rnds KK (w64 b) s i).e))&&&(((rnds KK (w64 b) s i).f))))) 71 rfl kj (Qag kj (congrArg (Value.int .u32) (QeA _ _))) <| sg 1 kj ?_
  refine Qaa (.int .u32 (wv (~~~(((rnds KK (w64 b) s i).e))))) 73 rfl kj (Qag kj (congrArg (Value.int .u32) (Qm4 _))) <| sg 1 kj <| Qaa (.int .u32 (wv (((~~~(((rnds KK (w64 b) s i).e))))&&&(((rnds KK (w64 b) s i).g))))) 75 rfl kj (Qag kj (congrArg (Value.int .u32) (QeA _ _))) <| Qaa (.int .u32 (wv ((((((rnds KK (w64 b) s i).e))&&&(((rnds KK (w64 b) s i).f))))^^^((((~~~(((rnds KK (w64 b) s i).e))))&&&(((rnds KK (w64 b) s i).g))))))) 76 rfl kj (Qag kj (congrArg (Value.int .u32) (w_xor _ _))) <| Qaa (.int .u32 (wv ((((((rnds KK (w64 b) s i).h))+((((((rr ((rnds KK (w64 b) s i).e) 6))^^^((rr ((rnds KK (w64 b) s i).e) 11))))^^^((rr ((rnds KK (w64 b) s i).e) 25))))))+(((((((rnds KK (w64 b) s i).e))&&&(((rnds KK (w64 b) s i).f))))^^^((((~~~(((rnds KK (w64 b) s i).e))))&&&(((rnds KK (w64 b) s i).g))))))))) 77 rfl kj (Qag kj (congrArg (Value.int .u32) (Qcc _ _))) <| sg 1 kj <| Qaa (.pointer (some ⟨2,i,none⟩)) 79 rfl kj (QaV _ _ _ .i64 (i) _ 80 78 rfl kj kj kj kj (by omega)) ?_
  have r1_1:=(Qae hc e1)
  have r1_3:=(Puts.row p3 (Qae r1_1 e2) (Qaw r1_1 l4))
  refine Qaa (.int .u64 (nth (Qbn) i)) 80 rfl kj (Qaf 78 _ 2 i tc _ (.int .u64 (nth (Qbn) i)) _ (Qae (Qae (Qae (Qae (Qae (Qae (Qae (Qae (Puts.row p5 (Qae r1_3 e4) (Qaw r1_3 l6)) e6) e7) e8) e9) e10) e11) e12) e13) rfl kj (QaZ _ _ _ (Nat.lt_of_lt_of_eq (by omega) (show Qbn.length=80 from rfl).symm)) kj) <| Qaa (.int .u64 (nth Qbn i/4294967296)) 81 rfl kj (Qbk .shr _ _ _ _ .u64 .u64 _ _ _ rfl kj kj (QcO _ _ _ _ _ _ (by decide) (QlL _))) <| Qaa (.int .u32 (wv (wget KK i))) 82 rfl kj (Qag (u:=.int .u32 (IntKind.u32.wrap (nth Qbn i/4294967296))) kj (congrArg (Value.int .u32) (QjM i hlt47))) <| Qaa (.int .u32 (wv ((((((((rnds KK (w64 b) s i).h))+((((((rr ((rnds KK (w64 b) s i).e) 6))^^^((rr ((rnds KK (w64 b) s i).e) 11))))^^^((rr ((rnds KK (w64 b) s i).e) 25))))))+(((((((rnds KK (w64 b) s i).e))&&&(((rnds KK (w64 b) s i).f))))^^^((((~~~(((rnds KK (w64 b) s i).e))))&&&(((rnds KK (w64 b) s i).g))))))))+((wget KK i))))) 83 rfl kj (Qag kj (congrArg (Value.int .u32) (Qcc _ _))) <| sg 1 kj <| Qaa (.int .u32 (wv ((((((((((rnds KK (w64 b) s i).h))+((((((rr ((rnds KK (w64 b) s i).e) 6))^^^((rr ((rnds KK (w64 b) s i).e) 11))))^^^((rr ((rnds KK (w64 b) s i).e) 25))))))+(((((((rnds KK (w64 b) s i).e))&&&(((rnds KK (w64 b) s i).f))))^^^((((~~~(((rnds KK (w64 b) s i).e))))&&&(((rnds KK (w64 b) s i).g))))))))+((wget KK i))))+((wget (w64 b) i))))) 85 rfl kj (Qag kj (congrArg (Value.int .u32) (Qcc _ _))) <| sg 1 kj <| sgN hK17 <| sgC fun K18 hK18=>sg 3 kj ?_
  refine Qaa (.int .u32 (wv ((((rnds KK (w64 b) s i).a))&&&(((rnds KK (w64 b) s i).b))))) 89 rfl kj (Qag kj (congrArg (Value.int .u32) (QeA _ _))) <| sg 2 kj <| Qaa (.int .u32 (wv ((((rnds KK (w64 b) s i).a))&&&(((rnds KK (w64 b) s i).c))))) 92 rfl kj (Qag kj (congrArg (Value.int .u32) (QeA _ _))) <| Qaa (.int .u32 (wv ((((((rnds KK (w64 b) s i).a))&&&(((rnds KK (w64 b) s i).b))))^^^(((((rnds KK (w64 b) s i).a))&&&(((rnds KK (w64 b) s i).c))))))) 93 rfl kj (Qag kj (congrArg (Value.int .u32) (w_xor _ _))) <| sg 2 kj <| Qaa (.int .u32 (wv ((((rnds KK (w64 b) s i).b))&&&(((rnds KK (w64 b) s i).c))))) 96 rfl kj (Qag kj (congrArg (Value.int .u32) (QeA _ _))) <| Qaa (.int .u32 (wv ((((((((rnds KK (w64 b) s i).a))&&&(((rnds KK (w64 b) s i).b))))^^^(((((rnds KK (w64 b) s i).a))&&&(((rnds KK (w64 b) s i).c))))))^^^(((((rnds KK (w64 b) s i).b))&&&(((rnds KK (w64 b) s i).c))))))) 97 rfl kj (Qag kj (congrArg (Value.int .u32) (w_xor _ _))) <| Qaa (.int .u32 (wv (((((((rr ((rnds KK (w64 b) s i).a) 2))^^^((rr ((rnds KK (w64 b) s i).a) 13))))^^^((rr ((rnds KK (w64 b) s i).a) 22))))+(((((((((rnds KK (w64 b) s i).a))&&&(((rnds KK (w64 b) s i).b))))^^^(((((rnds KK (w64 b) s i).a))&&&(((rnds KK (w64 b) s i).c))))))^^^(((((rnds KK (w64 b) s i).b))&&&(((rnds KK (w64 b) s i).c))))))))) 98 rfl kj (Qag kj (congrArg (Value.int .u32) (Qcc _ _))) <| sg 1 kj <| sgN hK18 ?_
  refine Qad <| sg 5 kj <| Qaa (.int .u32 (wv ((((rnds KK (w64 b) s i).d))+(((((((((((rnds KK (w64 b) s i).h))+((((((rr ((rnds KK (w64 b) s i).e) 6))^^^((rr ((rnds KK (w64 b) s i).e) 11))))^^^((rr ((rnds KK (w64 b) s i).e) 25))))))+(((((((rnds KK (w64 b) s i).e))&&&(((rnds KK (w64 b) s i).f))))^^^((((~~~(((rnds KK (w64 b) s i).e))))&&&(((rnds KK (w64 b) s i).g))))))))+((wget KK i))))+((wget (w64 b) i))))))) 104 rfl kj (Qag kj (congrArg (Value.int .u32) (Qcc _ _))) <| sg 5 kj <| Qaa (.int .u32 (wv ((((((((((((rnds KK (w64 b) s i).h))+((((((rr ((rnds KK (w64 b) s i).e) 6))^^^((rr ((rnds KK (w64 b) s i).e) 11))))^^^((rr ((rnds KK (w64 b) s i).e) 25))))))+(((((((rnds KK (w64 b) s i).e))&&&(((rnds KK (w64 b) s i).f))))^^^((((~~~(((rnds KK (w64 b) s i).e))))&&&(((rnds KK (w64 b) s i).g))))))))+((wget KK i))))+((wget (w64 b) i))))+((((((((rr ((rnds KK (w64 b) s i).a) 2))^^^((rr ((rnds KK (w64 b) s i).a) 13))))^^^((rr ((rnds KK (w64 b) s i).a) 22))))+(((((((((rnds KK (w64 b) s i).a))&&&(((rnds KK (w64 b) s i).b))))^^^(((((rnds KK (w64 b) s i).a))&&&(((rnds KK (w64 b) s i).c))))))^^^(((((rnds KK (w64 b) s i).b))&&&(((rnds KK (w64 b) s i).c))))))))))) 110 rfl kj (Qag kj (congrArg (Value.int .u32) (Qcc _ _))) <| sg 8 kj <| Qaj <| hK13 _ _ <| Qad <| Qaa (.int .i64 ((i+1:Nat):Int)) 111 rfl kj (Qag (u:=.int .i64 (IntKind.i64.wrap (((i:Nat):Int)+1))) kj (congrArg (Value.int .i64) (i64n _ _ (by omega) (by omega)))) ?_
  refine sg 1 kj <| Qaj ?_
  repeat (first | with_reducible refine goX1 ?_ | with_reducible refine goX2 ?_ | with_reducible refine goX3 ?_)
  exact Qap (i+1) ⟨kj,kj,kj,kj,kj,kj,kj,kj,kj,kj,kj,trivial⟩ ⟨(by omega),(Rely.Ext.trans (Rely.Ext.trans (Rely.Ext.trans (Rely.Ext.trans (Rely.Ext.trans (Rely.Ext.trans e7 e8) e9) e10) e11) e12) e13),(ExtB.ext (ExtB.ext (ExtB.ext x10 e11) e12) e13)⟩ (by omega)
 ·skip
  have heq47:i=64:=by have:=of_decide_eq_false c12; omega
  refine wp_exit <| hK8 _ _ <| sgB kj <| wp_block ?_
  obtain ⟨r,hr9⟩:∃ z,z=rnds KK (w64 b) s i:=⟨_,rfl⟩
  have rg_:V1.heap[g]? = some (.cells (cat [ints .u32 (s.l.map wv),ints .u8 (b),#[.int .i64 m]]) 99):=(Qae (Qae (Puts.row p5 (Qae r2_3 e4) (Qaw r2_3 l6)) e6) e7)
  refine Qay (fun (s2:Nat)=>[(0,.pointer (some ⟨g,0,none⟩)),(120,.agg (ints .u32 ([wv (rnds KK (w64 b) s i).a,wv (rnds KK (w64 b) s i).b,wv (rnds KK (w64 b) s i).c,wv (rnds KK (w64 b) s i).d,wv (rnds KK (w64 b) s i).e,wv (rnds KK (w64 b) s i).f,wv (rnds KK (w64 b) s i).g,wv (rnds KK (w64 b) s i).h]))),(121,.int .i64 ((s2:Nat):Int))]) (fun (s2:Nat) W=>(s2≤8)∧(W.heap[g]? = some (.cells (cat [ints .u32 ((mixW s.l r.l s2).map wv),ints .u8 (b),#[.int .i64 m]]) 99))∧(Qa8 [g] V1 W)∧(ExtB g w W)) (fun (s2:Nat)=>8-s2) 0 ⟨kj,kj,kj,trivial⟩ ⟨(Nat.zero_le _),rg_,(Qa8.refl [g] V1),xx1⟩ fun s2 X2 V2 hI2=>?_
  obtain ⟨p,hs2⟩:∃ z,z=s2:=⟨_,rfl⟩
  subst hs2
  obtain ⟨hp,q2_2,kk2,xx2⟩:=hI2
  replace hp:p≤8:=hp
  replace q2_2:V2.heap[g]? = some (.cells (cat [ints .u32 ((mixW s.l r.l p).map wv),ints .u8 (b),#[.int .i64 m]]) 99):=q2_2
  replace kk2:Qa8 [g] V1 V2:=kk2
  replace xx2:ExtB g w V2:=xx2
  have q8:=kk2
  refine sgB kj <| wp_seq_k fun K21 hK21=>Qaq (t:=decide (((p:Nat):Int)<8)) kj (fun c22=>?_) (fun c22=>?_)
  ·skip
   have hlt122:p<8:=by have:=of_decide_eq_true c22; omega
   refine wp_skip <| hK21 _ _ <| wp_seq_k fun K23 hK23=>wp_block <| sgC fun K24 hK24=>sg 1 kj <| Qaa (.int .u32 (wv (wget r.l p))) 124 rfl kj (Qch 77 _ _ .i64 .u32 ([wv (rnds KK (w64 b) s i).a,wv (rnds KK (w64 b) s i).b,wv (rnds KK (w64 b) s i).c,wv (rnds KK (w64 b) s i).d,wv (rnds KK (w64 b) s i).e,wv (rnds KK (w64 b) s i).f,wv (rnds KK (w64 b) s i).g,wv (rnds KK (w64 b) s i).h]) p 8 76 (wv (wget r.l p)) rfl kj kj kj kj kj rfl (by omega) (by rw [hr9]; exact QbK (rnds KK (w64 b) s i).l p)) ?_
   refine sg 2 kj <| sgN hK24 <| QcN 11 [⟨none,[(0,none)]⟩,⟨none,[(18,none)]⟩,⟨none,[(125,some 0)]⟩,⟨none,[(127,some 2)]⟩,⟨none,[(128,some 3),(126,some 1)]⟩,⟨none,[(129,some 4)]⟩,⟨none,[(19,none)]⟩,⟨none,[(130,some 5),(131,some 6)]⟩,⟨none,[(125,some 0)]⟩,⟨none,[(133,some 8)]⟩,⟨none,[(134,some 9),(126,some 1)]⟩] kj kj fun F hF=>QaE (.pointer (some ⟨g,0,none⟩)) kj kj (fun W=>by kernel_rfl) <| QaE (.int .i64 ((p:Nat):Int)) kj kj (fun W=>by kernel_rfl) <| QaE (.pointer (some ⟨g,0,none⟩)) kj kj (fun W=>by kernel_rfl) <| QaE (.pointer (some ⟨g,0,none⟩)) kj kj (fun W=>by kernel_rfl) <| QaE (.pointer (some ⟨g,0+p*1,none⟩)) kj kj (fun W=>(QbX 77 _ _ .i64 p g 0 8 76 1 rfl kj kj kj kj (show p<8 by omega))) <| Qb2 (.int .u32 (wv (wget s.l p))) kj kj (fun W hR=>(Qaf 76 _ g (0+p*1) 99 _ (.int .u32 (wv (wget s.l p))) _ (Qae (Qae q2_2 (Qaz _)) hR) rfl kj ((Qbf [] [ints .u8 (b),#[.int .i64 m]] ((mixW s.l r.l p).map wv) 0 p (0+p*1) kj (by omega) (Nat.lt_of_lt_of_eq (show p<8 by omega) (Qfp s r hp).symm)).trans (congrArg (fun z=>some (Value.int .u32 z)) (QhX s r hlt122))) kj)) <| QaE (.int .u32 (wv (wget r.l p))) kj kj (fun W=>by kernel_rfl) ?_
   refine QaE (.int .u32 (wv (((wget s.l p))+((wget r.l p))))) kj kj (fun W=>(Qag kj (congrArg (Value.int .u32) (Qcc _ _)))) <| QaE (.pointer (some ⟨g,0,none⟩)) kj kj (fun W=>by kernel_rfl) <| QaE (.pointer (some ⟨g,0,none⟩)) kj kj (fun W=>by kernel_rfl) <| QaE (.pointer (some ⟨g,0+p*1,none⟩)) kj kj (fun W=>(QbX 77 _ _ .i64 p g 0 8 76 1 rfl kj kj kj kj (show p<8 by omega))) <| Qdg (hF _ kj fun W9 e9=>?_)
   simp only [ups,up,Kn.val,List.take_succ_cons,List.take_zero,List.drop_succ_cons,List.drop_zero,List.nil_append,List.cons_append]
   clear hF
   have x9:=ExtB.ext xx2 e9
   have r2_9:=(Qae q2_2 e9)
   refine Qav g _ (cat [ints .u32 (((mixW s.l r.l p).map wv).set p (wv (((wget s.l p))+((wget r.l p))))),ints .u8 (b),#[.int .i64 m]]) 99 r2_9 rfl kj (QeH 76 _ _ g (0+p*1) 99 [] [ints .u8 (b),#[.int .i64 m]] ((mixW s.l r.l p).map wv) 0 p _ r2_9 rfl kj kj kj kj (by omega) (Nat.lt_of_lt_of_eq (show p<8 by omega) (Qfp s r hp).symm)) fun W10 p10 r2_10=>?_
   have x10:=ExtB.puts x9 p10
   refine Qaj <| hK23 _ _ <| Qad <| Qaa (.int .i64 ((p+1:Nat):Int)) 136 rfl kj (Qag (u:=.int .i64 (IntKind.i64.wrap (((p:Nat):Int)+1))) kj (congrArg (Value.int .i64) (i64n _ _ (by omega) (by omega)))) <| sg 1 kj <| Qaj ?_
   have rh_:W10.heap[g]? = some (.cells (cat [ints .u32 ((mixW s.l r.l (p+1)).map wv),ints .u8 (b),#[.int .i64 m]]) 99):=by have h9:=r2_10; rw [QhW s r hlt122] at h9; exact h9
   repeat (first | with_reducible refine goX1 ?_ | with_reducible refine goX2 ?_ | with_reducible refine goX3 ?_)
   exact Qap (p+1) ⟨kj,kj,kj,trivial⟩ ⟨(by omega),rh_,(Qa8.puts (Qa8.step q8 e9) p10 (.inl (by simp))),x10⟩ (by show 8-(p+1)<8-p; omega)
  ·skip
   have heq122:p=8:=by have:=of_decide_eq_false c22; omega
   refine wp_exit ?_
   repeat (first | with_reducible refine goX1 ?_ | with_reducible refine goX2 ?_ | with_reducible refine goX3 ?_)
   exact (show bodyPost _ _ _ .normal _ _ from end0 rfl ⟨rfl,xx2,by have h9:=q2_2; rw [heq122,hr9,heq47] at h9; exact h9⟩)
end Go.Proofs.YthfkppjajmjpnaaDoor.Sha
end
section
namespace Go.Proofs.YthfkppjajmjpnaaDoor.Sha
open Go Go.RowKit
open Rely Auto Own
theorem Qdc (s : S8) (t u:List Int):∀ n:Nat,64*n≤t.length→absorb s (t++u) n=absorb s t n
  | 0,_=>rfl
  | n+1,h=>by
    show blk (absorb s (t++u) n) _=blk (absorb s t n) _
    rw [Qdc s t u n (by omega)]
    congr 1
    rw [List.drop_append_of_le_length (by omega),List.take_append_of_le_length (by rw [List.length_drop]; omega)]
def HasD (g : Nat) (t:List Int) (W:World):Prop:=∃ b:List Int,b.length=64∧Qax b∧b.take (t.length%64)=t.drop (64*(t.length/64))∧t.length≤1000000000 ∧
  W.heap[g]? = some (.cells (cat [ints .u32 ((absorb S0 t (t.length/64)).l.map wv),ints .u8 b,#[.int .i64 ((t.length:Nat):Int)]]) 99)
theorem HasD.row {g : Nat} {t:List Int} {W W':World} (h:HasD g t W) (e:W'.heap[g]? = W.heap[g]?):HasD g t W':=by
  obtain ⟨b,h1,h2,h3,h4,h5⟩:=h
  exact ⟨b,h1,h2,h3,h4,e.trans h5⟩
theorem HasD.lt {g : Nat} {t:List Int} {W:World} (h:HasD g t W):g<W.heap.size:=by
  obtain ⟨b,h1,h2,h3,h4,h5⟩:=h
  exact Qa5 h5
theorem HasD.ext {g : Nat} {t:List Int} {W W':World} (h:HasD g t W) (e:Ext W W'):HasD g t W':=h.row (e.block g h.lt)
theorem HasD.stable (g : Nat) (t:List Int):QbB Ext (fun _=>HasD g t):=fun _ _ _ hR h=>h.ext hR
def into (b z:List Int) (q n:Nat):List Int:=b.take q++z.take n++b.drop (q+n)
theorem QgF {b z:List Int} {q n:Nat} (hb:b.length=64) (hz:n≤z.length) (hq:q+n≤64):(into b z q n).length=64:=by
  simp only [into,List.length_append,List.length_take,List.length_drop]; omega
theorem Qd7 {b z:List Int} {q n:Nat} (hb:Qax b) (hz:Qax z):Qax (into b z q n):=fun x hx=>by
  rcases List.mem_append.1 hx with hx | hx
  · rcases List.mem_append.1 hx with hx | hx
    · exact hb x (List.mem_of_mem_take hx)
    · exact hz x (List.mem_of_mem_take hx)
  · exact hb x (List.mem_of_mem_drop hx)
theorem QfN {b z t:List Int} {n:Nat} (hb:b.length=64) (hz:n≤z.length) (hp:b.take (t.length%64)=t.drop (64*(t.length/64))):(into b z (t.length%64) n).take (t.length%64+n)=(t++z.take n).drop (64*(t.length/64)):=by
  have e1:(b.take (t.length%64)++z.take n).length=t.length%64+n:=by
    rw [List.length_append,List.length_take,List.length_take]; omega
  unfold into
  rw [←e1,List.take_left,hp,List.drop_append_of_le_length (by omega)]
theorem Qig {b z t:List Int} {n:Nat} (hb:b.length=64) (hz:n≤z.length) (hp:b.take (t.length%64)=t.drop (64*(t.length/64))) (hn:t.length%64+n<64) :
    (into b z (t.length%64) n).take ((t++z.take n).length%64)=(t++z.take n).drop (64*((t++z.take n).length/64)):=by
  have hl:(t++z.take n).length=t.length+n:=by rw [List.length_append,List.length_take]; omega
  rw [hl,show (t.length+n)%64=t.length%64+n by omega,show (t.length+n)/64=t.length/64 by omega]
  exact QfN hb hz hp
theorem Qif {b z t:List Int} {n:Nat} (hb:b.length=64) (hz:n≤z.length) (hp:b.take (t.length%64)=t.drop (64*(t.length/64))) (hn:t.length%64+n=64) :
    blk (absorb S0 t (t.length/64)) (into b z (t.length%64) n)=absorb S0 (t++z.take n) ((t++z.take n).length/64):=by
  have hl:(t++z.take n).length=t.length+n:=by rw [List.length_append,List.length_take]; omega
  rw [hl,show (t.length+n)/64=t.length/64+1 by omega]
  show _=blk (absorb S0 (t++z.take n) (t.length/64)) _
  rw [Qdc S0 t _ _ (by omega)]
  have h1:=QfN hb hz hp
  rw [hn,List.take_of_length_le (by rw [QgF hb hz (by omega)]; omega)] at h1
  rw [h1,List.take_of_length_le (l:=(t++z.take n).drop (64*(t.length/64))) (by rw [List.length_drop,hl]; omega)]
theorem QgZ {z t:List Int} {n:Nat} (hz:n≤z.length) (hn:t.length%64+n<64):absorb S0 (t++z.take n) ((t++z.take n).length/64)=absorb S0 t (t.length/64):=by
  have hl:(t++z.take n).length=t.length+n:=by rw [List.length_append,List.length_take]; omega
  rw [hl,show (t.length+n)/64=t.length/64 by omega,Qdc S0 t _ _ (by omega)]
section
variable {ds : List Deferred} {ops : Array Oper} {Q : Exit → Act → World → Prop} {rest : List Oper} {o : Oper} {N : Nat} {L : Env} {W : World}
theorem cat3 (a b c:Array Value):(cat [a,b,c]).toList=a.toList++(b.toList++c.toList):=by
  show (a++(b++c)).toList=_
  simp
theorem Qjt {st b z:List Int} {u:Value} {q n:Nat} (hst:st.length=8) (hb:b.length=64) (hz:n≤z.length) (hq:q+n≤64) :
    ((cat [ints .u32 st,ints .u8 b,#[u]]).toList.take (8+q)++(z.take n).map (Value.int .u8)++(cat [ints .u32 st,ints .u8 b,#[u]]).toList.drop (8+q+n)).toArray=cat [ints .u32 st,ints .u8 (into b z q n),#[u]]:=by
  apply Array.ext'
  rw [cat3,cat3]
  have e1:(ints .u32 st).toList=st.map (Value.int .u32):=rfl
  have e2:∀ b,(ints .u8 b).toList=b.map (Value.int .u8):=fun _=>rfl
  rw [e1,e2,e2]
  have l1:(st.map (Value.int .u32)).length=8:=by simpa using hst
  have l2:(b.map (Value.int .u8)).length=64:=by simpa using hb
  show (st.map (Value.int .u32)++(b.map (Value.int .u8)++[u])).take (8+q)++(z.take n).map (Value.int .u8)++(st.map (Value.int .u32)++(b.map (Value.int .u8)++[u])).drop (8+q+n)=_
  rw [show 8+q+n=8+(q+n) by omega]
  rw [←l1,List.take_length_add_append,List.drop_length_add_append,List.take_append_of_le_length (by omega)]
  rw [List.drop_append_of_le_length (by omega)]
  unfold into
  simp only [List.map_append,List.map_take,List.map_drop,List.append_assoc]
theorem Qh8 (x y:Operand) (tx ty:TypeId) (d:Nat) (ho:o.op=.call { callee:=.builtin .copy,args:=#[x,y],argTypes:=#[tx,ty] }) (hu:Tryd.prog.underlying tx=some (.slice 5)) (hd:o.dst=some d) (hgd:Qby ops o N L=some true)
    {g q n B:Nat} {st b z:List Int} {u v:Value} {T:TypeId} (hst:st.length=8) (hb:b.length=64) (hx:Rely.look (envN N L) x=.slice (some ⟨g,8+q,none⟩) (64-q) (64-q)) (hy:Rely.look (envN N L) y=v) (hr:RdK .u8 B z v W)
    (hg:W.heap[g]? = some (.cells (cat [ints .u32 st,ints .u8 b,#[u]]) T)) (hq:q<64) (hn:n=min z.length (64-q)) (h0:0<z.length)
    (k:∀ W':World,Puts W g W'→W'.heap[g]? = some (.cells (cat [ints .u32 st,ints .u8 (into b z q n),#[u]]) T)→WL Tryd.prog ops Q rest (Qa3 ds N ((d,.int .i64 ((n:Nat):Int))::L)) W'):WL Tryd.prog ops Q (o::rest) (Qa3 ds N L) W:=by
  obtain ⟨a,cap,rfl,y2,y3,y4,y5⟩:=hr
  obtain ⟨gz,oz,rfl,z2,z3,z4⟩:=y5.resolve_left (fun e=>by rw [e] at h0; simp at h0)
  have hlen:((z.take n).map (Value.int .u8)).length=n:=by simp; omega
  have hsz:(cat [ints .u32 st,ints .u8 b,#[u]]).size=73:=by
    rw [←Array.length_toList,cat3]; simp [ints]; omega
  have h:=run_copy_row (P:=Tryd.prog) W tx ty o.type 5 g (8+q) (64-q) (64-q) ⟨gz,oz,none⟩ z.length cap (cat [ints .u32 st,ints .u8 b,#[u]]) T ((z.take n).map (Value.int .u8)) hu kj hg (by rw [hlen]; exact hn)
    (QlY (k:=.u8) (ys:=z.take n) fun i hi=>by
      rw [List.length_take] at hi
      rw [z4 i (by omega)]
      simp [nth,show i<n by omega]) (by rw [hlen,hsz]; omega) (QlW .u8 _)
  rw [hlen,Qjt hst hb (by omega) (by omega)] at h
  refine QbW (.int .i64 ((n:Nat):Int)) _ d hd hgd ?_ (k _ (QbJ _ _ _) (setRow_heap _ _ _ _ _ _ hg))
  unfold execOp
  simp only [ho,resolve,invoke,builtin,Sem.run_bind,Sem.run_pure,Result.andThen_ok,List.map_toArray,List.map_cons,List.map_nil,hx,hy,h,goInt]
theorem Qhb {P : Program} {ρ:Operand→Value} {k:IntKind} {B:Nat} {ys:List Int} {v:Value} (t:TypeId) (x z:Operand) (l n:Nat) (e:TypeId) (ho:o.op=.slice t x (some z) none none) (hx:ρ x=v) (hv:RdK k B ys v W)
    (hu:P.underlying t=some (.slice e)) (hs:(P.info? e).map (·.size)=some 1) (kz:IntKind) (hz:ρ z=.int kz (l:Int)) (h1:l≤ys.length) (hn:ys.length-l=n) :
    ∃ a c,(execOp ρ o).run P W=.ok (.value (.slice a n c)) W∧RdK k B (ys.drop l) (.slice a n c) W∧(Value.slice a n c).ownBlock=v.ownBlock:=by
  obtain ⟨u,h2,h3,h5⟩:=Qfd t x z l e ho hx hv hu hs kz hz h1
  obtain ⟨a,c,rfl,h4⟩:=id h3
  rw [List.length_drop,hn] at h2 h3 h5
  exact ⟨a,c,h2,h3,h5⟩
end
section
variable {ds : List Deferred} {ops : Array Oper} {Q : Exit → Act → World → Prop} {rest : List Oper} {o : Oper} {N : Nat} {L : Env} {W : World}
theorem Qfc {P : Program} {k:IntKind} {B:Nat} {ys:List Int} {v:Value} (t:TypeId) (x z:Operand) (l n:Nat) (e:TypeId) (d:Nat) (ho:o.op=.slice t x (some z) none none) (hd:o.dst=some d) (hg:Qby ops o N L=some true) (hx:Rely.look (envN N L) x=v) (hv:RdK k B ys v W)
    (hu:P.underlying t=some (.slice e)) (hs:(P.info? e).map (·.size)=some 1) (kz:IntKind) (hz:Rely.look (envN N L) z=.int kz (l:Int)) (h1:l≤ys.length) (hn:ys.length-l=n)
    (kk:∀ a c,RdK k B (ys.drop l) (.slice a n c) W→(Value.slice a n c).ownBlock=v.ownBlock→WL P ops Q rest (Qa3 ds N ((d,.slice a n c)::L)) W):WL P ops Q (o::rest) (Qa3 ds N L) W:=by
  obtain ⟨a,c,h2,h3,h4⟩:=Qhb (ρ:=Rely.look (envN N L)) t x z l n e ho hx hv hu hs kz hz h1 hn
  exact QbW _ _ d hd hg h2 (kk a c h3 h4)
end
theorem run_storeQ {P : Program} {ρ:Operand→Value} {o:Oper} {w:World} (ty:TypeId) (x y:Operand) (g off:Nat) (t:TypeId) (pre post:List (Array Value)) (u v:Value) (hg:w.heap[g]? = some (.cells (cat (pre++([#[u]]++post))) t))
    (ho:o.op=.store ty x y) (hx:ρ x=.pointer (some ⟨g,off,none⟩)) (hy:ρ y=v) (hi:(P.info? ty).map (·.size)=some 1) (hp:(cat pre).size=off) (h1:v.oneCell'=true) (hcs:v.cells=#[v]) :
    (execOp ρ o).run P w=.ok .skip (w.setRow g (cat (pre++([#[v]]++post)))):=by
  subst hp
  have hs:Nat.blt (cat pre).size (cat (pre++([#[u]]++post))).size=true:=by
    have:(cat pre).size<(cat (pre++([#[u]]++post))).size:=by
      rw [QaL,QaL,qS,qS]
      have e1:(cat [#[u]]).size=1:=rfl
      omega
    simpa using this
  have e:(cat (pre++([#[u]]++post))).setIfInBounds (cat pre).size v=cat (pre++([#[v]]++post)):=by
    rw [QaL,QaL,QaL,QaL]
    have e1:∀ z,cat [#[z]]=#[z]:=fun z=>rfl
    rw [e1,e1,Array.setIfInBounds_append_right (qR _),Nat.sub_self,Array.setIfInBounds_append_left (by simp)]
    rfl
  rw [←e]
  exact QaX ty x y g _ t _ v hg ho hx hy hi hs h1 hcs
end Go.Proofs.YthfkppjajmjpnaaDoor.Sha
end
section
namespace Go.Proofs.YthfkppjajmjpnaaDoor.Sha
open Go Go.RowKit
open Rely Auto Own
theorem addC (g B:Nat) (t ys:List Int) (v:Value) (tc:TypeId) (w:World) (hc:w.heap[2]? = some (.cells (ints .u64 Qbn) tc)) (hcg:2≠g) (hB:ys=[]∨v.ownBlock≠some g) (hyb:Qax ys) (hlen:t.length+ys.length≤1000000000) (hd:HasD g t w) (hy:RdK .u8 B ys v w) :
  Calls Tryd.prog 68 #[.pointer (some ⟨g,0,none⟩),v] w (fun e W=>e=.returned (.tuple #[])∧ExtB g w W∧HasD g (t++ys) W):=by
 obtain ⟨a0,c0,rfl,-⟩:=id hy
 refine enter 40 [(0,.pointer (some ⟨g,0,none⟩)),(1,.slice a0 ys.length c0)] Tryd.func68 rfl rfl kj rfl <| wp_seq_k fun K3 hK3=>sgB kj <| cond_false kj <| wp_skip <| hK3 _ _ <| wp_block ?_
 have hyb2:∀ {k:Nat},Qax (ys.drop k):=fun x hx=>hyb x (List.mem_of_mem_drop hx)
 refine Qay (fun (s1:Nat×Option Addr×Nat)=>[(0,.pointer (some ⟨g,0,none⟩)),(1,.slice s1.2.1 (ys.length-s1.1) s1.2.2)]) (fun (s1:Nat×Option Addr×Nat) W=>(s1.1≤ys.length)∧(RdK .u8 B (ys.drop s1.1) (.slice s1.2.1 (ys.length-s1.1) s1.2.2) W)∧(s1.1<ys.length→(Value.slice s1.2.1 (ys.length-s1.1) s1.2.2).ownBlock≠some g)∧(HasD g (t++ys.take s1.1) W)∧(ExtB g w W)) (fun (s1:Nat×Option Addr×Nat)=>ys.length-s1.1) (0,a0,c0) ⟨kj,kj,trivial⟩ ⟨(Nat.zero_le _),hy,(fun h=>hB.resolve_left (fun e=>by rw [e] at h; exact absurd h (Nat.lt_irrefl _))),(by simpa using hd),(ExtB.refl g w)⟩ fun s1 X1 V1 hI1=>?_
 obtain ⟨k,a,c⟩:=s1
 obtain ⟨hk,hr,hnb,hD,xx1⟩:=hI1
 replace hk:k≤ys.length:=hk
 replace hr:RdK .u8 B (ys.drop k) (.slice a (ys.length-k) c) V1:=hr
 replace hnb:k<ys.length→(Value.slice a (ys.length-k) c).ownBlock≠some g:=hnb
 replace hD:HasD g (t++ys.take k) V1:=hD
 replace xx1:ExtB g w V1:=xx1
 refine wp_seq_k fun K5 hK5=>sgB kj <| Qaq (t:=decide (((ys.length-k:Nat):Int)>0)) kj (fun c7=>?_) (fun c7=>?_)
 ·skip
  have hk2:k<ys.length:=by have:=of_decide_eq_true c7; omega
  obtain ⟨b,hbl,hbb,hbp,hmany,hrow⟩:=hD
  obtain ⟨t1,ht1⟩:∃ z,z=t++ys.take k:=⟨_,rfl⟩
  rw [←ht1] at hbp hmany hrow
  have hlt1:t1.length=t.length+k:=by rw [ht1,List.length_append,List.length_take]; omega
  obtain ⟨m,hm⟩:∃ z,z=t1.length:=⟨_,rfl⟩
  obtain ⟨s,hs⟩:∃ z,z=absorb S0 t1 (t1.length/64):=⟨_,rfl⟩
  obtain ⟨n,hn⟩:∃ z,z=min (ys.drop k).length (64-m%64):=⟨_,rfl⟩
  have hn0:0<n:=by rw [hn,List.length_drop]; omega
  have hn1:n≤ys.length-k:=by rw [hn,List.length_drop]; omega
  have hn2:n≤64-m%64:=by rw [hn]; omega
  rw [←hs,←hm] at hrow
  replace hrow:V1.heap[g]? = some (.cells (cat [ints .u32 ([wv s.a,wv s.b,wv s.c,wv s.d,wv s.e,wv s.f,wv s.g,wv s.h]),ints .u8 (b),#[.int .i64 ((m:Nat):Int)]]) 99):=hrow
  refine wp_skip <| hK5 _ _ <| wp_block <| wp_seq_k fun K8 hK8=>QaY 10 [⟨none,[(0,none)]⟩,⟨none,[(10,some 0)]⟩,⟨none,[(11,some 1)]⟩,⟨none,[(0,none)]⟩,⟨none,[(13,some 3)]⟩,⟨none,[(14,some 4)]⟩,⟨none,[(15,some 5)]⟩,⟨none,[(16,some 6)]⟩,⟨none,[(12,some 2),(17,some 7)]⟩,⟨none,[(1,none)]⟩] kj kj fun F hF=>Qa2 (Qam _) (.pointer (some ⟨g,0,none⟩)) kj kj (fun W=>by kernel_rfl) <| Qa2 (Qam _) (.pointer (some ⟨g,0,none⟩)) kj kj (fun W=>by kernel_rfl) <| Qa2 (Qam _) (.pointer (some ⟨g,8,none⟩)) kj kj (fun W=>by kernel_rfl) <| Qa2 (Qam _) (.pointer (some ⟨g,0,none⟩)) kj kj (fun W=>by kernel_rfl) <| Qa2 (Qam _) (.pointer (some ⟨g,0,none⟩)) kj kj (fun W=>by kernel_rfl) ?_
  refine Qa2 (Qam _) (.pointer (some ⟨g,72,none⟩)) kj kj (fun W=>by kernel_rfl) <| QaM (Qam _) (.int .i64 ((m:Nat):Int)) kj kj (fun W hR=>(Qaf 3 _ g 72 99 _ (.int .i64 ((m:Nat):Int)) _ (Qae (Qae hrow (Qaz _)) hR) rfl kj (Qah [ints .u32 ([wv s.a,wv s.b,wv s.c,wv s.d,wv s.e,wv s.f,wv s.g,wv s.h]),ints .u8 (b)] [#[.int .i64 ((m:Nat):Int)]] [] 72 (by rw [Qab,Qab]; simp only [qS,cat,((Qac _ _).trans hbl)]; rfl) 0 _ rfl) kj)) ?_
  refine Qa2 (Qam _) (.int .i64 ((m%64:Nat):Int)) kj kj (fun W=>(Qag (u:=.int .i64 (Int.tmod (((m:Nat):Int)) (64))) kj (congrArg (Value.int .i64) (Qbr _ 64)))) <| Qa2 (Qam _) (.slice (some ⟨g,8+(m%64),none⟩) (64-(m%64)) (64-(m%64))) kj kj (fun W=>(QeI 97 _ _ _ (m%64) 64 64 g 8 5 rfl kj kj kj ⟨.i64,by kernel_rfl⟩ rfl (by omega) (by omega) (by omega))) <| Qa2 (Qam _) (.slice a (ys.length-k) c) kj kj (fun W=>by kernel_rfl) <| Qda (hF _ fun W2 e2=>?_)
  simp only [List.nil_append,List.cons_append,List.take_succ_cons,List.take_zero,List.drop_succ_cons,List.drop_zero,finE,up]
  clear hF
  have f9_2:=(hr.ext e2)
  have hbl2:(into b (ys.drop k) (m%64) n).length=64:=QgF hbl (by rw [List.length_drop]; omega) (by omega)
  refine Qh8 (.tmp 18) (.tmp 19) 59 59 20 rfl kj rfl kj (q:=m%64) (n:=n) (b:=b) rfl hbl kj kj f9_2 (Qae hrow e2) (by omega) hn (by rw [List.length_drop]; omega) fun W3 p3 r2_3=>?_
  refine sg 1 kj <| sgN hK8 <| sgC fun K10 hK10=>sg 2 kj <| Qfc 59 (.tmp 21) (.tmp 22) n (ys.length-k-n) 5 23 rfl rfl kj kj (f9_2.putsN p3 (hnb hk2)) kj kj .i64 kj (by rw [List.length_drop]; omega) (by rw [List.length_drop]) fun a2 c2 hr2 hob=>?_
  have hnb2:(Value.slice a2 (ys.length-k-n) c2).ownBlock≠some g:=by rw [hob]; exact hnb hk2
  refine sg 1 kj <| sgN hK10 <| sgC fun K12 hK12=>sg 3 kj <| Qaa (.int .i64 ((m:Nat):Int)) 27 rfl kj (Qaf 3 _ g 72 99 _ (.int .i64 ((m:Nat):Int)) _ r2_3 rfl kj (Qah [ints .u32 ([wv s.a,wv s.b,wv s.c,wv s.d,wv s.e,wv s.f,wv s.g,wv s.h]),ints .u8 (into b (ys.drop k) (m%64) n)] [#[.int .i64 ((m:Nat):Int)]] [] 72 (by rw [Qab,Qab]; simp only [qS,cat,((Qac _ _).trans hbl2)]; rfl) 0 _ rfl) kj) ?_
  refine sg 1 kj <| Qaa (.int .i64 ((m+n:Nat):Int)) 29 rfl kj (Qag (u:=.int .i64 (IntKind.i64.wrap (((m:Nat):Int)+((n:Nat):Int)))) kj (congrArg (Value.int .i64) (i64n _ _ (by omega) (by omega)))) <| sg 2 kj <| Qav g _ (cat [ints .u32 ([wv s.a,wv s.b,wv s.c,wv s.d,wv s.e,wv s.f,wv s.g,wv s.h]),ints .u8 (into b (ys.drop k) (m%64) n),#[.int .i64 ((m+n:Nat):Int)]]) 99 r2_3 rfl kj (run_storeQ 3 _ _ g 72 99 [ints .u32 ([wv s.a,wv s.b,wv s.c,wv s.d,wv s.e,wv s.f,wv s.g,wv s.h]),ints .u8 (into b (ys.drop k) (m%64) n)] [] _ (.int .i64 ((m+n:Nat):Int)) r2_3 rfl kj kj kj (by rw [Qab,Qab]; simp only [qS,cat,((Qac _ _).trans hbl2)]; rfl) rfl rfl) fun W4 p4 r2_4=>?_
  have x4:=ExtB.puts (ExtB.puts (ExtB.ext xx1 e2) p3) p4
  refine sgN hK12 <| sgC fun K13 hK13=>sg 3 kj <| Qaa (.int .i64 ((m+n:Nat):Int)) 35 rfl kj (Qaf 3 _ g 72 99 _ (.int .i64 ((m+n:Nat):Int)) _ r2_4 rfl kj (Qah [ints .u32 ([wv s.a,wv s.b,wv s.c,wv s.d,wv s.e,wv s.f,wv s.g,wv s.h]),ints .u8 (into b (ys.drop k) (m%64) n)] [#[.int .i64 ((m+n:Nat):Int)]] [] 72 (by rw [Qab,Qab]; simp only [qS,cat,((Qac _ _).trans hbl2)]; rfl) 0 _ rfl) kj) ?_
  refine Qaa (.int .i64 (((m+n)%64:Nat):Int)) 36 rfl kj (Qag (u:=.int .i64 (Int.tmod (((m+n:Nat):Int)) (64))) kj (congrArg (Value.int .i64) (Qbr _ 64))) <| sg 1 kj <| sgN hK13 <| Qaq (t:=((((m+n)%64:Nat):Int)==0)) kj (fun c14=>?_) (fun c14=>?_)
  ·skip
   have hmod:(m+n)%64=0:=by have:=c14; have h2:=eq_of_beq this; omega
   refine Qad <| sg 1 kj <| Qa0 (fun v W'=>v=.tuple #[]∧ExtB g W4 W'∧W'.heap[g]? = some (.cells (cat [ints .u32 ((blk s (into b (ys.drop k) (m%64) n)).l.map wv),ints .u8 (into b (ys.drop k) (m%64) n),#[.int .i64 ((m+n:Nat):Int)]]) 99)) 76 #[.pointer (some ⟨g,0,none⟩)] 39 rfl kj kj ((Qm7 g s _ hbl2 (Qd7 hbb hyb2) _ tc _ (Puts.row p4 (Puts.row p3 (Qae (ExtB.row xx1 hc hcg) e2) hcg) hcg) r2_4).mono fun e w' h=>⟨_,h.1,rfl,h.2⟩) fun v W5 h=>?_
   obtain ⟨rfl,q5,r2_5⟩:=h
   refine Qaj ?_
   have hr3:RdK .u8 B (ys.drop (k+n)) (.slice a2 (ys.length-(k+n)) c2) W5:=by
    have h:=((hr2.putsN p4 hnb2).extN q5 hnb2)
    rw [List.drop_drop,show ys.length-k-n=ys.length-(k+n) by omega] at h
    exact h
   have hlen3:(t1++(ys.drop k).take n).length=m+n:=by rw [List.length_append,List.length_take,List.length_drop]; omega
   have hnb3:(Value.slice a2 (ys.length-(k+n)) c2).ownBlock≠some g:=by rw [show ys.length-(k+n)=ys.length-k-n by omega]; exact hnb2
   have hT:t++ys.take (k+n)=t1++(ys.drop k).take n:=by rw [ht1,List.append_assoc,List.take_add]
   have hzn:n≤(ys.drop k).length:=by rw [List.length_drop]; omega
   have hb0:(into b (ys.drop k) (m%64) n).take ((t++ys.take (k+n)).length%64)=(t++ys.take (k+n)).drop (64*((t++ys.take (k+n)).length/64)):=by
    rw [hT,hlen3,hmod,List.take_zero,List.drop_of_length_le (by omega)]
   have hst:blk s (into b (ys.drop k) (m%64) n)=absorb S0 (t++ys.take (k+n)) ((t++ys.take (k+n)).length/64):=by rw [hT,hs,hm]; exact Qif hbl hzn hbp (by omega)
   have hD2:HasD g (t++ys.take (k+n)) W5:=⟨_,hbl2,Qd7 hbb hyb2,hb0,by rw [hT,hlen3]; omega,by rw [←hst,hT,hlen3]; exact r2_5⟩
   repeat (first | with_reducible refine goX1 ?_ | with_reducible refine goX2 ?_ | with_reducible refine goX3 ?_)
   exact Qap (k+n,a2,c2) ⟨kj,(congrArg (fun z=>Value.slice a2 z c2) (by omega)),trivial⟩ ⟨(by omega),hr3,(fun _=>hnb3),hD2,(ExtB.trans x4 q5)⟩ (by show ys.length-(k+n)<ys.length-k; omega)
  ·skip
   have hmod:¬ (m+n)%64=0:=by have:=c14; intro h0; rw [h0] at this; exact absurd this (by decide)
   refine wp_skip ?_
   have hr3:RdK .u8 B (ys.drop (k+n)) (.slice a2 (ys.length-(k+n)) c2) W4:=by
    have h:=(hr2.putsN p4 hnb2)
    rw [List.drop_drop,show ys.length-k-n=ys.length-(k+n) by omega] at h
    exact h
   have hlen3:(t1++(ys.drop k).take n).length=m+n:=by rw [List.length_append,List.length_take,List.length_drop]; omega
   have hnb3:(Value.slice a2 (ys.length-(k+n)) c2).ownBlock≠some g:=by rw [show ys.length-(k+n)=ys.length-k-n by omega]; exact hnb2
   have hT:t++ys.take (k+n)=t1++(ys.drop k).take n:=by rw [ht1,List.append_assoc,List.take_add]
   have hzn:n≤(ys.drop k).length:=by rw [List.length_drop]; omega
   have hb0:(into b (ys.drop k) (m%64) n).take ((t++ys.take (k+n)).length%64)=(t++ys.take (k+n)).drop (64*((t++ys.take (k+n)).length/64)):=by
    rw [hT,hm]; exact Qig hbl hzn hbp (by omega)
   have hst:s=absorb S0 (t++ys.take (k+n)) ((t++ys.take (k+n)).length/64):=by rw [hT,hs]; exact (QgZ hzn (by omega)).symm
   have hD2:HasD g (t++ys.take (k+n)) W4:=⟨_,hbl2,Qd7 hbb hyb2,hb0,by rw [hT,hlen3]; omega,by rw [←hst,hT,hlen3]; exact r2_4⟩
   repeat (first | with_reducible refine goX1 ?_ | with_reducible refine goX2 ?_ | with_reducible refine goX3 ?_)
   exact Qap (k+n,a2,c2) ⟨kj,(congrArg (fun z=>Value.slice a2 z c2) (by omega)),trivial⟩ ⟨(by omega),hr3,(fun _=>hnb3),hD2,x4⟩ (by show ys.length-(k+n)<ys.length-k; omega)
 ·skip
  have hk2:k=ys.length:=by have:=of_decide_eq_false c7; omega
  refine wp_exit ?_
  repeat (first | with_reducible refine goX1 ?_ | with_reducible refine goX2 ?_ | with_reducible refine goX3 ?_)
  exact (show bodyPost _ _ _ .normal _ _ from end0 rfl ⟨rfl,xx1,by rw [hk2,List.take_length] at hD; exact hD⟩)
end Go.Proofs.YthfkppjajmjpnaaDoor.Sha
end
section
namespace Go.Proofs.YthfkppjajmjpnaaDoor.Sha
open Go Go.RowKit
open Rely Auto Own
theorem Qe0 (n : Nat):Qax (List.replicate n 0):=fun x hx=>by
  have:=List.eq_of_mem_replicate hx
  subst this; decide
theorem Qlm (n : Nat):(64-(n+1+8)%64)%64=QaP n:=by unfold QaP; omega
theorem QlG (n : Nat) (h:n≤1000000000):IntKind.u64.wrap ((n:Nat):Int)=((n:Nat):Int):=by
  have:∀ z:Int,IntKind.u64.wrap z=z%2^64:=fun _=>rfl
  rw [this]; omega
theorem Qm6 (n : Nat) (h:n≤1000000000):IntKind.u64.wrap (((n:Nat):Int)*2^min (3:Int).toNat IntKind.u64.bits)=((8*n:Nat):Int):=by
  have:∀ z:Int,IntKind.u64.wrap z=z%2^64:=fun _=>rfl
  rw [this,show ((2:Int)^min (3:Int).toNat IntKind.u64.bits)=8 from rfl]; omega
theorem QlH (n : Nat) (h:n≤1000000000):((n:Nat):Int).fdiv (2^min (61:Int).toNat IntKind.u64.bits)=0:=by
  rw [Int.fdiv_eq_ediv_of_nonneg _ (by decide),show ((2:Int)^min (61:Int).toNat IntKind.u64.bits)=2305843009213693952 from rfl]; omega
theorem byteN (m : Nat):IntKind.u8.wrap ((m:Nat):Int)=((m%256:Nat):Int):=by
  have:∀ z:Int,IntKind.u8.wrap z=z%2^8:=fun _=>rfl
  rw [this]; omega
theorem Qm8 (n i:Nat):((8*n/256^i:Nat):Int).fdiv (2^min (8:Int).toNat IntKind.u64.bits)=((8*n/256^(i+1):Nat):Int):=by
  rw [Int.fdiv_eq_ediv_of_nonneg _ (by decide),show ((2:Int)^min (8:Int).toNat IntKind.u64.bits)=256 from rfl,Nat.pow_succ,←Nat.div_div_eq_div_mul]; omega
theorem lowlt (n i:Nat) (h:n≤1000000000):8*n/256^(i+1)<18446744073709551616:=Nat.lt_of_le_of_lt (Nat.div_le_self _ _) (by omega)
theorem or0 (m : Nat) (h:m<18446744073709551616):bits .or .u64 ((m:Nat):Int) 0=((m:Nat):Int):=by
  have:=bits_or_u64_nat m 0 h (by decide)
  rw [Nat.or_zero] at this
  exact this
def padL (n i:Nat):List Int:=128::(List.replicate (QaP n) 0++(List.replicate (8-i) 0++(be8 (8*n)).drop (8-i)))
theorem QiR (n : Nat) {i:Nat} (h:i≤8):(padL n i).length=1+QaP n+8:=by
  have:(be8 (8*n)).length=8:=rfl
  simp [padL,this]; omega
theorem Qdf (n : Nat):(QdN n).length=1+QaP n+8:=by
  have:(be8 (8*n)).length=8:=rfl
  simp [QdN,this]; omega
theorem QlV (n : Nat):(List.replicate (1+QaP n+8) (0:Int)).set 0 128=padL n 0:=by
  rw [show 1+QaP n+8=(QaP n+8)+1 by omega,List.replicate_succ,List.set_cons_zero,←List.replicate_append_replicate]
  rfl
theorem QiQ (n i:Nat) (h:i<8):(padL n i).set (1+QaP n+8-1-i) ((8*n/256^i%256:Nat):Int)=padL n (i+1):=by
  unfold padL
  rw [show 1+QaP n+8-1-i=(QaP n+(7-i))+1 by omega,List.set_cons_succ,List.set_append_right _ _ (by simp),qZ,Nat.add_sub_cancel_left]
  congr 2
  match i,h with
  | 0,_=>rfl
  | 1,_=>rfl
  | 2,_=>rfl
  | 3,_=>rfl
  | 4,_=>rfl
  | 5,_=>rfl
  | 6,_=>rfl
  | 7,_=>rfl
theorem QiO (n : Nat) (hn:n≤1000000000) (w:World):Calls Tryd.prog 77 #[.int .i64 ((n:Nat):Int),.int .i64 64,.int .i64 8] w (Qbs w (OwnN .u8 5 w.heap.size (QdN n))):=by
 have hF:QaP n<64:=by unfold QaP; omega
 refine enter 59 [(0,.int .i64 ((n:Nat):Int)),(1,.int .i64 64),(2,.int .i64 8)] Tryd.func77 rfl rfl kj rfl <| sgB kj <| sgC fun K2 hK2=>sg 2 kj <| Qaa (.int .i64 ((n+1:Nat):Int)) 15 rfl kj (Qag (u:=.int .i64 (IntKind.i64.wrap (((n:Nat):Int)+1))) kj (congrArg (Value.int .i64) (i64n _ _ (by omega) (by omega)))) <| sg 1 kj <| Qaa (.int .i64 (((n+1)+8:Nat):Int)) 17 rfl kj (Qag (u:=.int .i64 (IntKind.i64.wrap (((n+1:Nat):Int)+8))) kj (congrArg (Value.int .i64) (i64n _ _ (by omega) (by omega)))) <| sg 1 kj <| Qaa (.int .i64 ((((n+1)+8)%64:Nat):Int)) 19 rfl kj (Qag (u:=.int .i64 (Int.tmod ((((n+1)+8:Nat):Int)) (64))) kj (congrArg (Value.int .i64) (Qbr _ 64))) <| Qaa (.int .i64 ((64-(((n+1)+8)%64):Nat):Int)) 20 rfl kj (Qag (u:=.int .i64 (IntKind.i64.wrap (64-((((n+1)+8)%64:Nat):Int)))) kj (congrArg (Value.int .i64) (i64n _ _ (by omega) (by omega)))) ?_
 refine sg 1 kj <| Qaa (.int .i64 (((QaP n:Nat):Int))) 22 rfl kj (Qag (u:=.int .i64 (Int.tmod (((64-(((n+1)+8)%64):Nat):Int)) (64))) kj (congrArg (Value.int .i64) ((Qbr _ 64).trans (congrArg (fun z:Nat=>(z:Int)) (Qlm n))))) <| sg 1 kj <| sgN hK2 <| sgC fun K3 hK3=>sg 1 kj <| Qaa (.int .i64 ((1+(QaP n):Nat):Int)) 24 rfl kj (Qag (u:=.int .i64 (IntKind.i64.wrap (1+(((QaP n:Nat):Int))))) kj (congrArg (Value.int .i64) (i64n _ _ (by omega) (by omega)))) <| sg 1 kj <| Qaa (.int .i64 (((1+(QaP n))+8:Nat):Int)) 26 rfl kj (Qag (u:=.int .i64 (IntKind.i64.wrap (((1+(QaP n):Nat):Int)+8))) kj (congrArg (Value.int .i64) (i64n _ _ (by omega) (by omega)))) <| Qa9 (ints .u8 (List.replicate ((1+(QaP n))+8) 0)) 5 ((1+(QaP n))+8) 27 rfl kj (Qh9 59 _ _ .i64 .i64 ((1+(QaP n))+8) 5 rfl kj kj kj (.inr kj) (by omega)) fun g4 W1 l4 e1 r4_1=>?_
 have b4:=qT (Rely.Ext.refl w).size l4
 refine sg 1 kj <| sgN hK3 <| sgC fun K5 hK5=>sg 1 kj <| Qaa (.pointer (some ⟨g4,0,none⟩)) 29 rfl kj (QbI 59 _ _ .i64 (0) g4 ((1+(QaP n))+8) ((1+(QaP n))+8) 5 rfl kj kj kj kj (by omega)) <| Qav g4 _ (ints .u8 ((List.replicate ((1+(QaP n))+8) 0).set 0 128)) 5 r4_1 rfl kj (Qbi 5 _ _ g4 0 5 _ _ r4_1 rfl kj kj kj (Nat.lt_of_lt_of_eq (by omega) (qZ (n:=((1+(QaP n))+8))).symm)) fun W2 p2 r4_2=>sgN hK5 <| sgC fun K6 hK6=>sg 1 kj <| Qaa (.int .u64 (((n:Nat):Int))) 31 rfl kj (Qag (u:=.int .u64 (IntKind.u64.wrap ((n:Nat):Int))) kj (congrArg (Value.int .u64) (QlG n (by omega)))) ?_
 refine Qaa (.int .u64 (((8*n:Nat):Int))) 32 rfl kj (Qbk .shl _ _ _ _ .u64 .u64 _ _ _ rfl kj kj (Qi1 _ _ _ _ _ _ (by decide) (Qm6 n (by omega)))) <| sg 1 kj <| Qaa (.int .u64 (((n:Nat):Int))) 34 rfl kj (Qag (u:=.int .u64 (IntKind.u64.wrap ((n:Nat):Int))) kj (congrArg (Value.int .u64) (QlG n (by omega)))) <| Qaa (.int .u64 (0)) 35 rfl kj (Qbk .shr _ _ _ _ .u64 .u64 _ _ _ rfl kj kj (QcO _ _ _ _ _ _ (by decide) (QlH n (by omega)))) <| sg 2 kj <| sgN hK6 <| wp_seq_k fun K7 hK7=>sgB kj <| wp_block <| Qay (fun (s1:Nat)=>[(8,.slice (some ⟨g4,0,none⟩) ((1+(QaP n))+8) ((1+(QaP n))+8)),(9,.int .u64 ((8*n/256^s1:Nat):Int)),(10,.int .u64 0),(36,.int .i64 8),(37,.int .i64 ((s1:Nat):Int))]) (fun (s1:Nat) W=>(s1≤8)∧(W.heap[g4]? = some (.cells (ints .u8 (padL n s1)) 5))∧(Qa8 [g4] W2 W)∧(Ext w W)) (fun (s1:Nat)=>8-s1) 0 ⟨kj,(congrArg (fun z:Nat=>Value.int .u64 (z:Int)) (Nat.div_one _).symm),kj,kj,kj,trivial⟩ ⟨(Nat.zero_le _),(Qbc r4_2 (QlV n)),(Qa8.refl [g4] W2),(Puts.ext p2 (Ext.tr (Rely.Ext.refl w) e1) b4)⟩ fun s1 X1 V1 hI1=>?_
 obtain ⟨i,hs1⟩:∃ z,z=s1:=⟨_,rfl⟩
 subst hs1
 obtain ⟨hi,q4_1,kk1,xx1⟩:=hI1
 replace hi:i≤8:=hi
 replace q4_1:V1.heap[g4]? = some (.cells (ints .u8 (padL n i)) 5):=q4_1
 replace kk1:Qa8 [g4] W2 V1:=kk1
 replace xx1:Ext w V1:=xx1
 have q3:=kk1
 refine sgB kj <| wp_seq_k fun K10 hK10=>Qaq (t:=decide (((i:Nat):Int)<8)) kj (fun c11=>?_) (fun c11=>?_)
 ·skip
  have hlt38:i<8:=by have:=of_decide_eq_true c11; omega
  refine wp_skip <| hK10 _ _ <| wp_seq_k fun K12 hK12=>wp_block <| sgB kj <| sgC fun K14 hK14=>sg 1 kj <| Qaa (.int .u8 (((8*n/256^i%256:Nat):Int))) 41 rfl kj (Qag (u:=.int .u8 (IntKind.u8.wrap ((8*n/256^i:Nat):Int))) kj (congrArg (Value.int .u8) (byteN _))) <| sg 1 kj <| sgN hK14 ?_
  refine sgC fun K15 hK15=>sg 3 kj <| Qaa (.int .i64 ((((1+(QaP n))+8)-1:Nat):Int)) 45 rfl kj (Qag (u:=.int .i64 (IntKind.i64.wrap ((((1+(QaP n))+8:Nat):Int)-1))) kj (congrArg (Value.int .i64) (i64n _ _ (by omega) (by omega)))) <| sg 1 kj <| Qaa (.int .i64 (((((1+(QaP n))+8)-1)-i:Nat):Int)) 47 rfl kj (Qag (u:=.int .i64 (IntKind.i64.wrap (((((1+(QaP n))+8)-1:Nat):Int)-((i:Nat):Int)))) kj (congrArg (Value.int .i64) (i64n _ _ (by omega) (by omega)))) <| sg 1 kj <| Qaa (.pointer (some ⟨g4,((((1+(QaP n))+8)-1)-i),none⟩)) 49 rfl kj (QbI 59 _ _ .i64 ((((1+(QaP n))+8)-1)-i) g4 ((1+(QaP n))+8) ((1+(QaP n))+8) 5 rfl kj kj kj kj (by omega)) <| Qav g4 _ (ints .u8 ((padL n i).set ((((1+(QaP n))+8)-1)-i) (((8*n/256^i%256:Nat):Int)))) 5 q4_1 rfl kj (Qbi 5 _ _ g4 ((((1+(QaP n))+8)-1)-i) 5 _ _ q4_1 rfl kj kj kj (Nat.lt_of_lt_of_eq (by omega) (QiR n (by omega)).symm)) fun W4 p4 r4_4=>sgN hK15 <| sgC fun K16 hK16=>?_
  refine sg 1 kj <| Qaa (.int .u64 (((8*n/256^(i+1):Nat):Int))) 51 rfl kj (Qbk .shr _ _ _ _ .u64 .u64 _ _ _ rfl kj kj (QcO _ _ _ _ _ _ (by decide) (Qm8 n i))) <| sg 1 kj <| Qaa (.int .u64 (0)) 53 rfl kj (Qbk .shl _ _ _ _ .u64 .u64 _ _ _ rfl kj kj (Qi1 _ _ _ _ _ _ (by decide) (show IntKind.u64.wrap (0*2^min (56:Int).toNat IntKind.u64.bits)=0 from rfl))) <| Qaa (.int .u64 (((8*n/256^(i+1):Nat):Int))) 54 rfl kj (Qag (u:=.int .u64 (bits .or .u64 (((8*n/256^(i+1):Nat):Int)) (0))) kj (congrArg (Value.int .u64) (or0 _ (lowlt n i (by omega))))) <| sg 1 kj <| sgN hK16 <| Qad <| sg 1 kj <| Qaa (.int .u64 (0)) 56 rfl kj (Qbk .shr _ _ _ _ .u64 .u64 _ _ _ rfl kj kj (QcO _ _ _ _ _ _ (by decide) (show Int.fdiv 0 (2^min (8:Int).toNat IntKind.u64.bits)=0 from rfl))) ?_
  refine sg 1 kj <| Qaj <| hK12 _ _ <| Qad <| Qaa (.int .i64 ((i+1:Nat):Int)) 57 rfl kj (Qag (u:=.int .i64 (IntKind.i64.wrap (((i:Nat):Int)+1))) kj (congrArg (Value.int .i64) (i64n _ _ (by omega) (by omega)))) <| sg 1 kj <| Qaj ?_
  repeat (first | with_reducible refine goX1 ?_ | with_reducible refine goX2 ?_ | with_reducible refine goX3 ?_)
  exact Qap (i+1) ⟨kj,kj,kj,kj,kj,trivial⟩ ⟨(by omega),(Qbc r4_4 (QiQ n i hlt38)),(Qa8.puts q3 p4 (.inl (by simp))),(Puts.ext p4 xx1 b4)⟩ (by omega)
 ·skip
  have heq38:i=8:=by have:=of_decide_eq_false c11; omega
  have r4_3_17:V1.heap[g4]? = some (.cells (ints .u8 (QdN n)) 5):=Qbc q4_1 (by rw [heq38]; rfl)
  refine wp_exit <| hK7 _ _ <| sgB kj <| wp_ret ?_
  repeat (first | with_reducible refine goR1 ?_ | with_reducible refine goR2 ?_)
  exact (show bodyPost _ _ _ .ret _ _ from ret1 (.slice (some ⟨g4,0,none⟩) ((1+(QaP n))+8) ((1+(QaP n))+8)) rfl (Qar kj) ⟨_,rfl,xx1,Qb4 (Qdf n) b4 r4_3_17 (by simp only [maxLen]; omega)⟩)
theorem newC (tq : TypeId) (w:World) (hq:w.heap[0]? = some (.cells (ints .u64 QaQ) tq)):Calls Tryd.prog 67 #[] w (Qbs w (fun v W=>∃ g,v=.pointer (some ⟨g,0,none⟩)∧w.heap.size≤g∧HasD g [] W)):=by
 refine enter 21 [] Tryd.func67 rfl rfl kj rfl <| sgB kj <| sgC fun K3 hK3=>sg 1 kj <| Qal (cat [ints .u32 ([0,0,0,0,0,0,0,0]),ints .u8 (List.replicate 64 0),#[.int .i64 0]]) 99 5 rfl kj kj fun g4 W1 l4 e1 r4_1=>?_
 have b4:=qT (Rely.Ext.refl w).size l4
 refine sg 1 kj <| sgN hK3 <| wp_seq_k fun K5 hK5=>sgC fun K6 hK6=>Qaa (.agg (ints .u64 (QaQ))) 6 rfl kj (QaA 100 _ 0 tq _ _ (Qae hq e1) rfl kj kj (isz (n:=8) kj ((Qac _ _).trans (show QaQ.length=8 from rfl)))) <| sg 1 kj <| sgN hK6 <| wp_block ?_
 have rz_:W1.heap[g4]? = some (.cells (cat [ints .u32 (fill (S0.l.map wv) 8 0),ints .u8 (List.replicate 64 0),#[.int .i64 0]]) 99):=r4_1
 refine Qay (fun (s1:Nat)=>[(1,.pointer (some ⟨g4,0,none⟩)),(4,.agg (cat [ints .u32 ([0,0,0,0,0,0,0,0]),ints .u8 (List.replicate 64 0),#[.int .i64 0]])),(5,.pointer (some ⟨g4,0,none⟩)),(6,.agg (ints .u64 (QaQ))),(7,.int .i64 ((s1:Nat):Int))]) (fun (s1:Nat) W=>(s1≤8)∧(W.heap[g4]? = some (.cells (cat [ints .u32 (fill (S0.l.map wv) 8 s1),ints .u8 (List.replicate 64 0),#[.int .i64 0]]) 99))∧(Qa8 [g4] W1 W)∧(Ext w W)) (fun (s1:Nat)=>8-s1) 0 ⟨kj,kj,kj,kj,kj,trivial⟩ ⟨(Nat.zero_le _),rz_,(Qa8.refl [g4] W1),(Ext.tr (Rely.Ext.refl w) e1)⟩ fun s1 X1 V1 hI1=>?_
 obtain ⟨p,hs1⟩:∃ z,z=s1:=⟨_,rfl⟩
 subst hs1
 obtain ⟨hp,q4_1,kk1,xx1⟩:=hI1
 replace hp:p≤8:=hp
 replace q4_1:V1.heap[g4]? = some (.cells (cat [ints .u32 (fill (S0.l.map wv) 8 p),ints .u8 (List.replicate 64 0),#[.int .i64 0]]) 99):=q4_1
 replace kk1:Qa8 [g4] W1 V1:=kk1
 replace xx1:Ext w V1:=xx1
 have q2:=kk1
 refine sgB kj <| wp_seq_k fun K8 hK8=>Qaq (t:=decide (((p:Nat):Int)<8)) kj (fun c9=>?_) (fun c9=>?_)
 ·skip
  have hlt8:p<8:=by have:=of_decide_eq_true c9; omega
  refine wp_skip <| hK8 _ _ <| wp_seq_k fun K10 hK10=>wp_block <| sgC fun K11 hK11=>sg 1 kj <| Qaa (.int .u64 (nth QaQ p)) 10 rfl kj (Qch 100 _ _ .i64 .u64 (QaQ) p 8 78 (nth QaQ p) rfl kj kj kj kj kj (show QaQ.length=8 from rfl) (by omega) rfl) <| sg 2 kj <| sgN hK11 <| Qad ?_
  refine sg 3 kj <| Qaa (.int .u64 (nth QaQ p/4294967296)) 14 rfl kj (Qbk .shr _ _ _ _ .u64 .u64 _ _ _ rfl kj kj (QcO _ _ _ _ _ _ (by decide) (QlL _))) <| Qaa (.int .u32 (nth (S0.l.map wv) p)) 15 rfl kj (Qag (u:=.int .u32 (IntKind.u32.wrap (nth QaQ p/4294967296))) kj (congrArg (Value.int .u32) ((by decide +kernel:∀ i:Fin 8,IntKind.u32.wrap (nth QaQ i.val/4294967296)=nth (S0.l.map wv) i.val) ⟨p,hlt8⟩))) <| sg 2 kj <| Qaa (.pointer (some ⟨g4,0+p*1,none⟩)) 18 rfl kj (QbX 77 _ _ .i64 p g4 0 8 76 1 rfl kj kj kj kj (show p<8 by omega)) <| Qav g4 _ (cat [ints .u32 ((fill (S0.l.map wv) 8 p).set p (nth (S0.l.map wv) p)),ints .u8 (List.replicate 64 0),#[.int .i64 0]]) 99 q4_1 rfl kj (QeH 76 _ _ g4 (0+p*1) 99 [] [ints .u8 (List.replicate 64 0),#[.int .i64 0]] (fill (S0.l.map wv) 8 p) 0 p _ q4_1 rfl kj kj kj kj (by omega) (Nat.lt_of_lt_of_eq (show p<8 by omega) (Qb1 (n:=8) rfl hp).symm)) fun W3 p3 r4_3=>Qaj <| hK10 _ _ <| Qad <| Qaa (.int .i64 ((p+1:Nat):Int)) 19 rfl kj (Qag (u:=.int .i64 (IntKind.i64.wrap (((p:Nat):Int)+1))) kj (congrArg (Value.int .i64) (i64n _ _ (by omega) (by omega)))) ?_
  refine sg 1 kj <| Qaj ?_
  have rg_:W3.heap[g4]? = some (.cells (cat [ints .u32 (fill (S0.l.map wv) 8 (p+1)),ints .u8 (List.replicate 64 0),#[.int .i64 0]]) 99):=by have h9:=r4_3; rw [QcL (n:=8) rfl hlt8] at h9; exact h9
  repeat (first | with_reducible refine goX1 ?_ | with_reducible refine goX2 ?_ | with_reducible refine goX3 ?_)
  exact Qap (p+1) ⟨kj,kj,kj,kj,kj,trivial⟩ ⟨(by omega),rg_,(Qa8.puts q2 p3 (.inl (by simp))),(Puts.ext p3 xx1 b4)⟩ (by show 8-(p+1)<8-p; omega)
 ·skip
  have heq8:p=8:=by have:=of_decide_eq_false c9; omega
  have rh_:V1.heap[g4]? = some (.cells (cat [ints .u32 (S0.l.map wv),ints .u8 (List.replicate 64 0),#[.int .i64 0]]) 99):=by have h9:=q4_1; rw [heq8,Qdu (show (S0.l.map wv).length=8 from rfl)] at h9; exact h9
  refine wp_exit <| hK5 _ _ <| sgB kj <| wp_ret ?_
  repeat (first | with_reducible refine goR1 ?_ | with_reducible refine goR2 ?_)
  exact (show bodyPost _ _ _ .ret _ _ from ret1 (.pointer (some ⟨g4,0,none⟩)) rfl (Qar kj) ⟨_,rfl,xx1,_,rfl,b4,List.replicate 64 0,qZ,Qe0 64,rfl,Nat.zero_le _,rh_⟩)
end Go.Proofs.YthfkppjajmjpnaaDoor.Sha
end
section
namespace Go.Proofs.YthfkppjajmjpnaaDoor.Sha
open Go Go.RowKit
open Rely Auto Own
theorem Ql7 (x : Int):IntKind.u8.wrap x=x%256:=by
  have:IntKind.u8.wrap x=x%2^8:=rfl
  rw [this]; rfl
theorem QlA (x : Wd) (n d:Nat) (h:2^n=d):IntKind.u8.wrap (wv (x>>>n))=((x.toNat/d%256:Nat):Int):=by
  subst h
  rw [Ql7]; unfold wv; rw [BitVec.toNat_ushiftRight,Nat.shiftRight_eq_div_pow]; omega
theorem Qg4 (s : S8) {a b:Nat} (ha:a<8) (hb:b<4):IntKind.u8.wrap (wv (wget s.l a>>>(24-8*b)))=nth s.out (4*a+b):=by
  rcases (show b=0∨b=1∨b=2∨b=3 by omega) with rfl | rfl | rfl | rfl <;> rcases (show a=0∨a=1∨a=2∨a=3∨a=4∨a=5∨a=6∨a=7 by omega) with rfl | rfl | rfl | rfl | rfl | rfl | rfl | rfl <;> exact QlA _ _ _ (by decide)
theorem Qeh (n : Nat):Qax (QdN n):=fun x hx=>by
  unfold QdN at hx
  rcases List.mem_cons.1 hx with h | h
  · omega
  · rcases List.mem_append.1 h with h | h
    · exact Qe0 _ x h
    · simp only [be8,List.mem_cons,List.not_mem_nil,or_false] at h
      rcases h with h | h | h | h | h | h | h | h <;> omega
set_option maxHeartbeats 8000000 in
theorem sumC (g : Nat) (t:List Int) (tc:TypeId) (w:World) (hc:w.heap[2]? = some (.cells (ints .u64 Qbn) tc)) (hlen:t.length≤900000000) (hd:HasD g t w):Calls Tryd.prog 69 #[.pointer (some ⟨g,0,none⟩)] w (Ret w (.agg (ints .u8 (dig t)))):=by
 obtain ⟨b,hbl,hbb,hbp,hmany,hrow⟩:=hd
 obtain ⟨s,hs⟩:∃ z,z=absorb S0 t (t.length/64):=⟨_,rfl⟩
 rw [←hs] at hrow
 replace hrow:w.heap[g]? = some (.cells (cat [ints .u32 ([wv s.a,wv s.b,wv s.c,wv s.d,wv s.e,wv s.f,wv s.g,wv s.h]),ints .u8 (b),#[.int .i64 ((t.length:Nat):Int)]]) 99):=hrow
 refine enter 43 [(0,.pointer (some ⟨g,0,none⟩))] Tryd.func69 rfl rfl kj rfl <| sgC fun K3 hK3=>Qal (ints .u8 (List.replicate 32 0)) 28 2 rfl kj kj fun g4 W1 l4 e1 r4_1=>?_
 have x1:=Ext.tr (Rely.Ext.refl w) e1
 refine sgN hK3 <| sgC fun K5 hK5=>Qal (ints .u8 (List.replicate 32 0)) 28 3 rfl kj kj fun g6 W2 l6 e2 r6_2=>?_
 have x2:=Ext.tr x1 e2
 refine sgN hK5 <| wp_seq_k fun K7 hK7=>sgB kj <| cond_false kj <| wp_skip <| hK7 _ _ <| sgC fun K9 hK9=>sg 2 kj ?_
 have r2_2:=(Qae (Qae hrow e1) e2)
 refine Qaa (.agg (cat [ints .u32 ([wv s.a,wv s.b,wv s.c,wv s.d,wv s.e,wv s.f,wv s.g,wv s.h]),ints .u8 (b),#[.int .i64 ((t.length:Nat):Int)]])) 13 rfl kj (QaA 99 _ g 99 _ _ r2_2 rfl kj kj (isz (n:=73) kj (by rw [Qab,Qab,Qab]; simp only [qS,cat,((Qac _ _).trans hbl)]; rfl))) ?_
 refine Qal (cat [ints .u32 ([0,0,0,0,0,0,0,0]),ints .u8 (List.replicate 64 0),#[.int .i64 0]]) 99 4 rfl kj kj fun g10 W3 l10 e3 r10_3=>?_
 have b10:=qT x2.size l10
 refine Qav g10 _ (cat [ints .u32 ([wv s.a,wv s.b,wv s.c,wv s.d,wv s.e,wv s.f,wv s.g,wv s.h]),ints .u8 (b),#[.int .i64 ((t.length:Nat):Int)]]) 99 r10_3 rfl kj (Qat 99 _ _ g10 99 _ _ r10_3 rfl kj kj (isz (n:=73) kj (by rw [Qab,Qab,Qab]; simp only [qS,cat,((Qac _ _).trans hbl)]; rfl)) (eqsz (n:=73) (by rw [Qab,Qab,Qab]; simp only [qS,cat,((Qac _ _).trans (qZ (n:=64)))]; rfl) (by rw [Qab,Qab,Qab]; simp only [qS,cat,((Qac _ _).trans hbl)]; rfl)) (Qbo _ (by intro a ha; simp only [List.mem_cons,List.not_mem_nil,or_false] at ha; rcases ha with rfl | rfl | rfl; exact (Qau _ _); exact (Qau _ _); exact (Qa7 _ rfl)))) fun W4 p4 r10_4=>?_
 refine sgN hK9 <| sgC fun K11 hK11=>sg 3 kj <| Qaa (.int .i64 ((t.length:Nat):Int)) 17 rfl kj (Qaf 3 _ g 72 99 _ (.int .i64 ((t.length:Nat):Int)) _ (Puts.row p4 (Qae r2_2 e3) (Qaw r2_2 l10)) rfl kj (Qah [ints .u32 ([wv s.a,wv s.b,wv s.c,wv s.d,wv s.e,wv s.f,wv s.g,wv s.h]),ints .u8 (b)] [#[.int .i64 ((t.length:Nat):Int)]] [] 72 (by rw [Qab,Qab]; simp only [qS,cat,((Qac _ _).trans hbl)]; rfl) 0 _ rfl) kj) ?_
 refine Qa0 (fun v W'=>(OwnN .u8 5 W4.heap.size (QdN t.length)) v W'∧Ext W4 W') 77 #[.int .i64 ((t.length:Nat):Int),.int .i64 64,.int .i64 8] 18 rfl kj kj ((QiO t.length (by omega) _).mono (by rintro e w' ⟨v,rfl,e1,hv⟩; exact ⟨v,rfl,hv,e1⟩)) fun vv12 W5 hh12=>?_
 obtain ⟨hv12,e5⟩:=hh12
 have r1_2:=(Qae (Qae hc e1) e2)
 have hd4:HasD g10 t W5:=⟨b,hbl,hbb,hbp,hmany,by rw [←hs]; exact (Qae r10_4 e5)⟩
 have hp4:=hv12
 have hfl:QaP t.length<64:=by unfold QaP; omega
 have hpl:t.length+(QdN t.length).length≤1000000000:=by rw [Qdf]; omega
 refine Qa0 (fun v W'=>v=.tuple #[]∧ExtB g10 W5 W'∧HasD g10 (t++QdN t.length) W') 68 #[.pointer (some ⟨g10,0,none⟩),vv12] 19 rfl kj kj ((addC g10 _ t (QdN t.length) _ tc _ (Qae (Puts.row p4 (Qae r1_2 e3) (Qaw r1_2 l10)) e5) (Qaw r1_2 l10) (.inr (hp4.nb (Qa5 r10_4))) (Qeh _) hpl hd4 (OwnN.rd hp4)).mono fun e w' h=>⟨_,h.1,rfl,h.2⟩) fun v W6 h=>?_
 obtain ⟨rfl,q6,hD5⟩:=h
 obtain ⟨b5,hbl5,hbb5,-,-,hrow5⟩:=hD5
 obtain ⟨s5,hs5⟩:∃ z,z=absorb S0 (padT t) ((padT t).length/64):=⟨_,rfl⟩
 rw [show t++QdN t.length=padT t from rfl,←hs5] at hrow5
 replace hrow5:W6.heap[g10]? = some (.cells (cat [ints .u32 ([wv s5.a,wv s5.b,wv s5.c,wv s5.d,wv s5.e,wv s5.f,wv s5.g,wv s5.h]),ints .u8 (b5),#[.int .i64 (((padT t).length:Nat):Int)]]) 99):=hrow5
 refine sgN hK11 <| wp_seq_k fun K13 hK13=>sgC fun K14 hK14=>sg 1 kj <| Qaa (.agg (ints .u32 ([wv s5.a,wv s5.b,wv s5.c,wv s5.d,wv s5.e,wv s5.f,wv s5.g,wv s5.h]))) 21 rfl kj (Qao 77 _ g10 0 99 _ _ _ hrow5 rfl kj (Qah [] [ints .u32 ([wv s5.a,wv s5.b,wv s5.c,wv s5.d,wv s5.e,wv s5.f,wv s5.g,wv s5.h])] [ints .u8 (b5),#[.int .i64 (((padT t).length:Nat):Int)]] 0 kj) kj (isz (n:=8) kj kj)) <| sg 1 kj <| sgN hK14 <| wp_block <| Qay (fun (s1:Nat)=>[(2,.pointer (some ⟨g4,0,none⟩)),(3,.pointer (some ⟨g6,0,none⟩)),(21,.agg (ints .u32 ([wv s5.a,wv s5.b,wv s5.c,wv s5.d,wv s5.e,wv s5.f,wv s5.g,wv s5.h]))),(22,.int .i64 ((s1:Nat):Int))]) (fun (s1:Nat) W=>(s1≤8)∧(W.heap[g6]? = some (.cells (ints .u8 (fill s5.out 32 (4*s1))) 28))∧(Qa8 [g6] W6 W)∧(Ext w W)) (fun (s1:Nat)=>8-s1) 0 ⟨kj,kj,kj,kj,trivial⟩ ⟨(Nat.zero_le _),(Qbc (ExtB.row q6 (Qae (Puts.row p4 (Qae r6_2 e3) (Qaw r6_2 l10)) e5) (Qaw r6_2 l10)) (Qdt s5.out 32).symm),(Qa8.refl [g6] W6),(ExtB.up (Ext.tr (Puts.ext p4 (Ext.tr x2 e3) b10) e5) q6 b10)⟩ fun s1 X1 V1 hI1=>?_
 obtain ⟨i,hs1⟩:∃ z,z=s1:=⟨_,rfl⟩
 subst hs1
 obtain ⟨hi,q6_1,kk1,xx1⟩:=hI1
 replace hi:i≤8:=hi
 replace q6_1:V1.heap[g6]? = some (.cells (ints .u8 (fill s5.out 32 (4*i))) 28):=q6_1
 replace kk1:Qa8 [g6] W6 V1:=kk1
 replace xx1:Ext w V1:=xx1
 have q7:=kk1
 refine sgB kj <| wp_seq_k fun K16 hK16=>Qaq (t:=decide (((i:Nat):Int)<8)) kj (fun c17=>?_) (fun c17=>?_)
 ·skip
  have hlt23:i<8:=by have:=of_decide_eq_true c17; omega
  refine wp_skip <| hK16 _ _ <| wp_seq_k fun K18 hK18=>wp_block <| sgC fun K19 hK19=>sg 1 kj <| Qaa (.int .u32 (wv (wget s5.l i))) 25 rfl kj (Qch 77 _ _ .i64 .u32 ([wv s5.a,wv s5.b,wv s5.c,wv s5.d,wv s5.e,wv s5.f,wv s5.g,wv s5.h]) i 8 76 (wv (wget s5.l i)) rfl kj kj kj kj kj rfl (by omega) (show nth (s5.l.map wv) i=_ from QbK _ _)) <| sg 2 kj <| sgN hK19 <| sgB kj ?_
  refine wp_block <| Qay (fun (s2:Nat)=>[(2,.pointer (some ⟨g4,0,none⟩)),(3,.pointer (some ⟨g6,0,none⟩)),(5,.int .i64 ((i:Nat):Int)),(6,.int .u32 (wv (wget s5.l i))),(21,.agg (ints .u32 ([wv s5.a,wv s5.b,wv s5.c,wv s5.d,wv s5.e,wv s5.f,wv s5.g,wv s5.h]))),(22,.int .i64 ((i:Nat):Int)),(26,.int .i64 ((s2:Nat):Int))]) (fun (s2:Nat) W=>(s2≤4)∧(W.heap[g6]? = some (.cells (ints .u8 (fill s5.out 32 (4*i+s2))) 28))∧(Qa8 [g6] V1 W)∧(Ext w W)) (fun (s2:Nat)=>4-s2) 0 ⟨kj,kj,kj,kj,kj,kj,kj,trivial⟩ ⟨(Nat.zero_le _),(Qbc q6_1 (show _=fill s5.out 32 (4*i+0) from rfl)),(Qa8.refl [g6] V1),xx1⟩ fun s2 X2 V2 hI2=>?_
  obtain ⟨j,hs2⟩:∃ z,z=s2:=⟨_,rfl⟩
  subst hs2
  obtain ⟨hj,q6_2,kk2,xx2⟩:=hI2
  replace hj:j≤4:=hj
  replace q6_2:V2.heap[g6]? = some (.cells (ints .u8 (fill s5.out 32 (4*i+j))) 28):=q6_2
  replace kk2:Qa8 [g6] V1 V2:=kk2
  replace xx2:Ext w V2:=xx2
  have q8:=kk2
  refine sgB kj <| wp_seq_k fun K22 hK22=>Qaq (t:=decide (((j:Nat):Int)<4)) kj (fun c23=>?_) (fun c23=>?_)
  ·skip
   have hlt27:j<4:=by have:=of_decide_eq_true c23; omega
   refine wp_skip <| hK22 _ _ <| wp_seq_k fun K24 hK24=>wp_block <| sgB kj <| Qad <| sg 1 kj <| Qaa (.int .i64 ((4*i:Nat):Int)) 30 rfl kj (Qag (u:=.int .i64 (IntKind.i64.wrap (4*((i:Nat):Int)))) kj (congrArg (Value.int .i64) (i64n _ _ (by omega) (by omega)))) <| sg 1 kj <| Qaa (.int .i64 (((4*i)+j:Nat):Int)) 32 rfl kj (Qag (u:=.int .i64 (IntKind.i64.wrap (((4*i:Nat):Int)+((j:Nat):Int)))) kj (congrArg (Value.int .i64) (i64n _ _ (by omega) (by omega)))) ?_
   refine sg 2 kj <| Qaa (.int .i64 ((8*j:Nat):Int)) 35 rfl kj (Qag (u:=.int .i64 (IntKind.i64.wrap (8*((j:Nat):Int)))) kj (congrArg (Value.int .i64) (i64n _ _ (by omega) (by omega)))) <| Qaa (.int .i64 (((24-8*j:Nat):Int))) 36 rfl kj (Qag (u:=.int .i64 (IntKind.i64.wrap (24-((8*j:Nat):Int)))) kj (congrArg (Value.int .i64) (i64n _ _ (by omega) (by omega)))) <| Qaa (.int .u32 (wv (wget s5.l i>>>(24-8*j)))) 37 rfl kj (Qbk .shr _ _ _ _ .u32 .i64 _ _ _ rfl kj kj (QcO _ _ _ _ _ _ (by omega) (Qf3 _ _ (24-8*j) rfl (by omega)))) <| Qaa (.int .u8 (nth s5.out (4*i+j))) 38 rfl kj (Qag (u:=.int .u8 (IntKind.u8.wrap (wv (wget s5.l i>>>(24-8*j))))) kj (congrArg (Value.int .u8) (Qg4 s5 hlt23 hlt27))) <| Qaa (.pointer (some ⟨g6,(4*i)+j,none⟩)) 39 rfl kj (QaV _ _ _ .i64 ((4*i)+j) _ 32 5 rfl kj kj kj kj (by omega)) <| Qav g6 _ (ints .u8 ((fill s5.out 32 (4*i+j)).set ((4*i)+j) (nth s5.out (4*i+j)))) 28 q6_2 rfl kj (Qbi 5 _ _ g6 ((4*i)+j) 28 _ _ q6_2 rfl kj kj kj (Nat.lt_of_lt_of_eq (by omega) (Qb1 (show s5.out.length=32 from rfl) (by omega)).symm)) fun W9 p9 r6_9=>Qaj <| hK24 _ _ <| Qad ?_
   refine Qaa (.int .i64 ((j+1:Nat):Int)) 40 rfl kj (Qag (u:=.int .i64 (IntKind.i64.wrap (((j:Nat):Int)+1))) kj (congrArg (Value.int .i64) (i64n _ _ (by omega) (by omega)))) <| sg 1 kj <| Qaj ?_
   repeat (first | with_reducible refine goX1 ?_ | with_reducible refine goX2 ?_ | with_reducible refine goX3 ?_)
   exact Qap (j+1) ⟨kj,kj,kj,kj,kj,kj,kj,trivial⟩ ⟨(by omega),(Qbc r6_9 (QcL (show s5.out.length=32 from rfl) (by omega))),(Qa8.puts q8 p9 (.inl (by simp))),(Puts.ext p9 xx2 (qT x1.size l6))⟩ (by show 4-(j+1)<4-j; omega)
  ·skip
   have heq27:j=4:=by have:=of_decide_eq_false c23; omega
   have r6_8_26:V2.heap[g6]? = some (.cells (ints .u8 (fill s5.out 32 (4*(i+1)))) 28):=Qbc q6_2 (by rw [heq27]; rfl)
   refine wp_exit <| hK18 _ _ <| Qad <| Qaa (.int .i64 ((i+1:Nat):Int)) 41 rfl kj (Qag (u:=.int .i64 (IntKind.i64.wrap (((i:Nat):Int)+1))) kj (congrArg (Value.int .i64) (i64n _ _ (by omega) (by omega)))) <| sg 1 kj <| Qaj ?_
   repeat (first | with_reducible refine goX1 ?_ | with_reducible refine goX2 ?_ | with_reducible refine goX3 ?_)
   exact Qap (i+1) ⟨kj,kj,kj,kj,trivial⟩ ⟨(by omega),r6_8_26,(Qa8.keeps q7 q8 (Qeo (.inl (by simp)) QfE)),xx2⟩ (by show 8-(i+1)<8-i; omega)
 ·skip
  have heq23:i=8:=by have:=of_decide_eq_false c17; omega
  have r6_7_27:V1.heap[g6]? = some (.cells (ints .u8 (s5.out)) 28):=Qbc q6_1 (by rw [heq23]; exact Qdu (show s5.out.length=32 from rfl))
  refine wp_exit <| hK13 _ _ <| sgC fun K28 hK28=>Qaa (.agg (ints .u8 (s5.out))) 42 rfl kj (QaA 28 _ g6 28 _ _ r6_7_27 rfl kj kj (isz (n:=32) kj ((Qac _ _).trans (show s5.out.length=32 from rfl)))) ?_
  have r4_2:=(Qae r4_1 e2)
  have r4_7:=(Qa8.row q7 (ExtB.row q6 (Qae (Puts.row p4 (Qae r4_2 e3) (Qaw r4_2 l10)) e5) (Qaw r4_2 l10)) (Qb3 (Qaw r4_1 l6) QbE))
  refine Qav g4 _ (ints .u8 (s5.out)) 28 r4_7 rfl kj (Qat 28 _ _ g4 28 _ _ r4_7 rfl kj kj (isz (n:=32) kj ((Qac _ _).trans (show s5.out.length=32 from rfl))) (eqsz (n:=32) ((Qac _ _).trans (qZ (n:=32))) ((Qac _ _).trans (show s5.out.length=32 from rfl))) (Qau _ _)) fun W8 p8 r4_8=>sgN hK28 <| wp_ret ?_
  repeat (first | with_reducible refine goR1 ?_ | with_reducible refine goR2 ?_)
  exact (show bodyPost _ _ _ .ret _ _ from ret1 (.agg (ints .u8 (s5.out))) rfl (Qbv g4 28 _ r4_8 kj kj (isz (n:=32) kj ((Qac _ _).trans (show s5.out.length=32 from rfl)))) ⟨by rw [show dig t=s5.out by rw [hs5]; rfl],(Puts.ext p8 xx1 (qT (Rely.Ext.refl w).size l4))⟩)
end Go.Proofs.YthfkppjajmjpnaaDoor.Sha
end
section
namespace Go.Proofs.YthfkppjajmjpnaaDoor.Sha
open Go Go.RowKit
open Rely Auto Own
def pat (ps : List (Value×List Int)) (i:Nat):Value×List Int:=ps.getD i (undef,[])
def flat (ps : List (Value×List Int)) (i:Nat):List Int:=((ps.take i).map Prod.snd).flatten
theorem QhI {ps : List (Value×List Int)} {i:Nat} (h:i<ps.length):pat ps i=ps[i]:=by simp [pat,h]
theorem QhH {ps : List (Value×List Int)} {i:Nat} (h:i<ps.length):pat ps i∈ps:=by rw [QhI h]; exact List.getElem_mem h
theorem QlU {ps : List (Value×List Int)} {i:Nat} (h:i<ps.length):(ps.map Prod.fst).toArray[i]? = some (pat ps i).1:=by
  rw [QhI h]; simp [h]
theorem QfP {ps : List (Value×List Int)} {i:Nat} (h:i<ps.length):flat ps (i+1)=flat ps i++(pat ps i).2:=by
  unfold flat
  rw [List.take_add_one,List.getElem?_eq_getElem h,QhI h,List.map_append,List.flatten_append]
  show _++[ps[i].2].flatten=_
  rw [List.flatten_singleton]
theorem QfQ {ps : List (Value×List Int)} {n:Nat} (h:ps.length=n):flat ps n=(ps.map Prod.snd).flatten:=by
  subst h; simp [flat]
theorem Qll {ps : List (Value×List Int)} {i:Nat} (h:i<ps.length):(flat ps i).length+(pat ps i).2.length≤((ps.map Prod.snd).flatten).length:=by
  have e:(flat ps (i+1)).length=(flat ps i).length+(pat ps i).2.length:=by rw [QfP h,List.length_append]
  rw [←e]
  have:(ps.map Prod.snd).flatten=flat ps (i+1)++((ps.drop (i+1)).map Prod.snd).flatten:=by
    unfold flat
    rw [←List.flatten_append,←List.map_append,List.take_append_drop]
  rw [this,List.length_append]; omega
theorem QkJ (s : S8):s.out.length=32:=rfl
theorem QaG (t : List Int):(dig t).length=32:=QkJ _
theorem Qgz (gp n:Nat) (Tp:TypeId) (ps:List (Value×List Int)) (hn:ps.length=n) (hn9:n≤1000000) (tc tq:TypeId) (w:World) (hc:w.heap[2]? = some (.cells (ints .u64 Qbn) tc)) (hq:w.heap[0]? = some (.cells (ints .u64 QaQ) tq)) (hrow:w.heap[gp]? = some (.cells (ps.map Prod.fst).toArray Tp)) (hps:∀ p∈ps,RdK .u8 w.heap.size p.2 p.1 w∧Qax p.2) (hlen:((ps.map Prod.snd).flatten).length≤900000000):Calls Tryd.prog 49 #[.slice (some ⟨gp,0,none⟩) n n] w (Ret w (.agg (ints .u8 (dig ((ps.map Prod.snd).flatten))))):=by
 refine enter 19 [(0,.slice (some ⟨gp,0,none⟩) n n)] Tryd.func49 rfl rfl kj rfl <| sgC fun K4 hK4=>Qal (ints .u8 (List.replicate 32 0)) 28 2 rfl kj kj fun g5 W1 l5 e1 r5_1=>?_
 have x1:=Ext.tr (Rely.Ext.refl w) e1
 refine sgN hK4 <| sgC fun K6 hK6=>Qa0 (fun v W'=>(fun v W=>∃ g,v=.pointer (some ⟨g,0,none⟩)∧W1.heap.size≤g∧HasD g [] W) v W'∧Ext W1 W') 67 #[] 6 rfl kj kj ((newC tq _ (Qae hq e1)).mono (by rintro e w' ⟨v,rfl,e1,hv⟩; exact ⟨v,rfl,hv,e1⟩)) fun vv7 W2 hh7=>?_
 obtain ⟨hv7,e2⟩:=hh7
 obtain ⟨gd8,rfl,ld8,hD8⟩:=hv7
 have b8:=qT x1.size ld8
 refine sg 1 kj <| sgN hK6 <| wp_seq_k fun K9 hK9=>sgB kj <| wp_block <| Qay (fun (s1:Nat)=>[(7,.slice (some ⟨gp,0,none⟩) n n),(8,.int .i64 ((n:Nat):Int)),(9,.int .i64 ((s1:Nat):Int)),(3,.pointer (some ⟨gd8,0,none⟩)),(2,.pointer (some ⟨g5,0,none⟩))]) (fun (s1:Nat) W=>(s1≤n)∧(HasD gd8 (flat ps s1) W)∧(Qa8 [gd8] W2 W)∧(Ext w W)) (fun (s1:Nat)=>n-s1) 0 ⟨kj,kj,kj,kj,kj,trivial⟩ ⟨(Nat.zero_le _),(show HasD _ (flat ps 0) _ from hD8),(Qa8.refl [gd8] W2),(Ext.tr x1 e2)⟩ fun s1 X1 V1 hI1=>?_
 obtain ⟨i,hs1⟩:∃ z,z=s1:=⟨_,rfl⟩
 subst hs1
 obtain ⟨hi,hDi,kk1,xx1⟩:=hI1
 replace hi:i≤n:=hi
 replace hDi:HasD gd8 (flat ps i) V1:=hDi
 replace kk1:Qa8 [gd8] W2 V1:=kk1
 replace xx1:Ext w V1:=xx1
 have q3:=kk1
 refine sgB kj <| wp_seq_k fun K12 hK12=>Qaq (t:=decide (((i:Nat):Int)<((n:Nat):Int))) kj (fun c13=>?_) (fun c13=>?_)
 ·skip
  have hlt10:i<n:=by have:=of_decide_eq_true c13; omega
  refine wp_skip <| hK12 _ _ <| wp_seq_k fun K14 hK14=>wp_block <| sgC fun K15 hK15=>?_
  have hi2:i<ps.length:=by omega
  refine Qaa (.pointer (some ⟨gp,i,none⟩)) 11 rfl kj (QbI 42 _ _ .i64 i gp n n 59 rfl kj kj kj kj hlt10) ?_
  have r3_1:=(Qae hrow e1)
  refine Qaa ((pat ps i).1) 12 rfl kj (Qai 59 _ _ ((pat ps i).1) (Qdj (Qa8.row q3 (Qae r3_1 e2) (Qb3 (Qaw r3_1 ld8) QbE)) (QlU hi2)) rfl kj kj) <| sg 1 kj <| sgN hK15 <| Qad <| sg 2 kj ?_
  have r1_1:=(Qae hc e1)
  have r1_2:=(Qae r1_1 e2)
  have r1_3:=(Qa8.row q3 r1_2 (Qb3 (Qaw r1_1 ld8) QbE))
  have hp6:=(hps _ (QhH hi2)).1.ext xx1
  have hl6:=Qll hi2
  refine Qa0 (fun v W'=>v=.tuple #[]∧ExtB gd8 V1 W'∧HasD gd8 ((flat ps i)++(pat ps i).2) W') 68 #[.pointer (some ⟨gd8,0,none⟩),(pat ps i).1] 15 rfl kj kj ((addC gd8 _ _ _ _ tc _ r1_3 (Nat.ne_of_lt (qL (Qa5 hc) b8)) (hp6.nb b8) (hps _ (QhH hi2)).2 (by omega) hDi hp6).mono fun e w' h=>⟨_,h.1,rfl,h.2⟩) fun v W4 h=>?_
  obtain ⟨rfl,q4,hDn⟩:=h
  have x4:=ExtB.up xx1 q4 b8
  refine Qaj <| hK14 _ _ <| Qad <| Qaa (.int .i64 ((i+1:Nat):Int)) 16 rfl kj (Qag (u:=.int .i64 (IntKind.i64.wrap (((i:Nat):Int)+1))) kj (congrArg (Value.int .i64) (i64n _ _ (by omega) (by omega)))) <| sg 1 kj <| Qaj ?_
  repeat (first | with_reducible refine goX1 ?_ | with_reducible refine goX2 ?_ | with_reducible refine goX3 ?_)
  exact Qap (i+1) ⟨kj,kj,kj,kj,kj,trivial⟩ ⟨(by omega),(by rw [QfP hi2]; exact hDn),(Qa8.but q3 q4 (.inl (by simp))),x4⟩ (by omega)
 ·skip
  have heq10:i=n:=by have:=of_decide_eq_false c13; omega
  refine wp_exit <| hK9 _ _ <| sgC fun K16 hK16=>sg 1 kj ?_
  have r1_1:=(Qae hc e1)
  have r1_2:=(Qae r1_1 e2)
  have r1_3:=(Qa8.row q3 r1_2 (Qb3 (Qaw r1_1 ld8) QbE))
  refine Qak (.agg (ints .u8 (dig (flat ps i)))) 69 #[.pointer (some ⟨gd8,0,none⟩)] 18 rfl kj kj (sumC gd8 _ tc _ r1_3 (by rw [heq10,QfQ hn]; exact hlen) hDi) fun W4 e4=>?_
  have x4:=Ext.tr xx1 e4
  have r5_4:=(Qae (Qa8.row q3 (Qae r5_1 e2) (Qb3 (Qaw r5_1 ld8) QbE)) e4)
  refine Qav g5 _ (ints .u8 (dig (flat ps i))) 28 r5_4 rfl kj (Qat 28 _ _ g5 28 _ _ r5_4 rfl kj kj (isz (n:=32) kj ((Qac _ _).trans (QaG _))) (eqsz (n:=32) ((Qac _ _).trans (qZ (n:=32))) ((Qac _ _).trans (QaG _))) (Qau _ _)) fun W5 p5 r5_5=>sgN hK16 <| wp_ret ?_
  repeat (first | with_reducible refine goR1 ?_ | with_reducible refine goR2 ?_)
  exact (show bodyPost _ _ _ .ret _ _ from ret1 (.agg (ints .u8 (dig (flat ps i)))) rfl (Qbv g5 28 _ r5_5 kj kj (isz (n:=32) kj ((Qac _ _).trans (QaG _)))) ⟨by rw [heq10,QfQ hn],(Puts.ext p5 x4 (qT (Rely.Ext.refl w).size l5))⟩)
end Go.Proofs.YthfkppjajmjpnaaDoor.Sha
end
section
namespace Go.Proofs.YthfkppjajmjpnaaDoor.Sha
open Go Go.RowKit
open Rely Auto Own
theorem Qhq (x : Wd):Qax (wby x):=fun y hy=>by
  simp only [wby,List.mem_cons,List.not_mem_nil,or_false] at hy
  rcases hy with h | h | h | h <;> omega
theorem Qcf (t : List Int):Qax (dig t):=fun y hy=>by
  unfold dig S8.out at hy
  obtain ⟨x,_,h⟩:=List.mem_flatMap.1 hy
  exact Qhq x y h
def puts (xs ys:List Int) (m:Nat):List Int:=xs.take m++ys.drop m
section
variable {ds : List Deferred} {P : Program} {ops : Array Oper} {Q : Exit → Act → World → Prop} {rest : List Oper} {o : Oper} {N : Nat} {L : Env} {W : World}
end
end Go.Proofs.YthfkppjajmjpnaaDoor.Sha
end
section
namespace Go.Proofs.YthfkppjajmjpnaaDoor.Sha
open Go Go.RowKit
open Rely Auto Own
section
variable {P : Program} {ρ : Operand → Value} {o : Oper} {w : World}
end
section
variable {ds : List Deferred} {P : Program} {ops : Array Oper} {Q : Exit → Act → World → Prop} {rest : List Oper} {o : Oper} {N : Nat} {L : Env} {w : World}
end
def Qi7 (T : TypeId) (base:Nat) (t:List Int) (v:Value) (W:World):Prop:=∃ g c,v=.slice (some ⟨g,0,none⟩) t.length c∧OwnN .u8 T base (t++[165,90]) (.slice (some ⟨g,0,none⟩) (t++[165,90]).length c) W
theorem Qi7.ext {T : TypeId} {base:Nat} {t:List Int} {v:Value} {W W':World} (h:Qi7 T base t v W) (e:Ext W W'):Qi7 T base t v W':=by
  obtain ⟨g,c,rfl,h2⟩:=h
  exact ⟨g,c,rfl,h2.ext e⟩
theorem Qi7.rd {T : TypeId} {base:Nat} {t:List Int} {v:Value} {W:World} (h:Qi7 T base t v W):RdK .u8 W.heap.size t v W:=by
  obtain ⟨g,c,rfl,h2⟩:=h
  obtain ⟨a,cap,e,q2,q3,q4,q5⟩:=OwnN.rd h2
  simp only [Value.slice.injEq] at e
  obtain ⟨rfl,-,rfl⟩:=e
  rw [List.length_append] at q2
  refine ⟨_,_,rfl,by omega,q3,q4,.inr ?_⟩
  rcases q5 with q5 | ⟨g',o,e1,e2,e3,e4⟩
  · simp at q5
  · refine ⟨g',o,e1,e2,e3,fun i hi=>?_⟩
    rw [e4 i (by rw [List.length_append]; omega)]
    simp [nth,List.getElem?_append_left hi]
end Go.Proofs.YthfkppjajmjpnaaDoor.Sha
end
